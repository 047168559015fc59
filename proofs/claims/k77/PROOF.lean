import PyProof.Rows.All
import Wide.All
import OpenK.AllK
import Wide.FinOn
import HandS.ForMost
import HandS.Spec
import KE.KeyNested
import KE.KDictPairs
import HandS.Lambda
import HandS.EndTab
import HandS.Zip
import HandS.Conv
import HandS.IsInst
import HandS.Deep
import HandS.TupAny
import HandS.TupMul
import HandS.Wide
import KE.DataCmp
import KE.DataMinMax
import HandS.Sort
import PyProof.EnumMake
import KE.GoesMore
import PyProof.Draws
import HandS.Text
import HandS.Style
import PyProof.SeqIndex
import HandS.More
import HandS.SortInts
import HandS.TupSets
import HandS.Ends
import PyProof.ReprRoads
import HandS.Replace
import KE.KRevSl
import KE.KDictZip
import HandS.Zip0
import HandS.ListItems
import KE.KDictDisplayH
import PyProof.StrBlock2
import HandS.SetFor
import HandS.CallLocal
import KE.KDictCopyH
import PyProof.ReprLen
import PyProof.Rows.ReprShort
import HandS.TupLe
import HandS.Iter
import HandS.Defaults
import KE.KTupSum
import HandS.Nested
import HandS.EndOwn
import KE.KDictWalk
import HandS.DictComp
import KE.SortCalls
import KE.SortData
import HandS.Strs
import HandS.Star
import KE.GoesEnumKw
import HandS.SortKw
import KE.KDictLaws
import HandS.RaiseMore
import HandS.Exc
import PyProof.ReprDict
import HandS.ExcCtx
import HandS.ExcOwn
import HandS.ExcIs
import HandS.WordsExc
import HandS.HotCalls
import PyProof.Rows.FactsCmp_str
import PyProof.PureStr
import PyProof.WalkInts
import KE.KDictItemsList
import KE.KEqDict
import HandS.FStr
import HandS.OwnEq
import PySem.Challenge.RW_tumblemarks_k77_whole_marks_never_steer
section
set_option Elab.async false
set_option linter.all false
set_option maxRecDepth 100000
open PySem PySem.W PyProof.Rows
set_option maxHeartbeats 0 in
open_top hd77 for PySem.Challenge.rw_tumblemarks_k77_whole_marks_never_steer

end
section
set_option linter.all false
set_option autoImplicit false
set_option Elab.async false
namespace T3
open PySem L2

inductive Md where | own | bor | fro
  deriving DecidableEq
inductive Ct where
  | ls (xs : List PyData)
  | dk (kvs : List (Key × PyData))
  | dn (kvs : List (NestedKey × PyData))
  | tb (fl : List PyData) (here held rl : PyData) (past : List PyData)
inductive S where
  | pd (x : PyData)
  | nt (xs : List PyData)
  | mu (m : Md) (c : Ct)
inductive R where
  | pd (x : PyData)
  | nt (xs : List PyData)
  | tmp (c : Ct)
  | var (i : Nat)
abbrev Sl := List (Option S)
abbrev Mset := Addr → Prop

def Imm : HO → Prop
  | .tup _ => True
  | .frz _ _ => True
  | _ => False
def PaO (p : Addr) (vs : List V) : HO := .ext fun h => ∃ (its : List Value) (n : Nat), Vals vs its ∧ h.get? p = some { cls := .type "list", data := .seq its.toArray n }
def NT (o : HO) : Prop := (∀ ps, o ≠ .tbl ps) ∧ ∀ p vs, o ≠ PaO p vs
theorem vals_ex : ∀ vs : List V, ∃ us : List Value, Vals vs us
  | [] => ⟨[], .nil⟩
  | v :: vs => by
    obtain ⟨us, h⟩ := vals_ex vs
    have : ∃ u, RelV v u := by
      cases v with
      | non => exact ⟨_, rfl⟩
      | bl b => exact ⟨_, rfl⟩
      | int i => exact ⟨.int i default, default, rfl⟩
      | str x => exact ⟨.str x default, default, rfl⟩
      | byt b => exact ⟨.bytes b default, default, rfl⟩
      | flt b => exact ⟨.float b default, default, rfl⟩
      | ref a => exact ⟨_, rfl⟩
      | ty n => exact ⟨_, rfl⟩
    obtain ⟨u, hu⟩ := this
    exact ⟨u :: us, .cons hu h⟩
theorem pao_ne {φ : Heap → Prop} {p : Addr} {vs : List V} (a : Addr) (no : ∀ h : Heap, φ h → ∃ o, h.get? a = some o ∧ ∀ xs n, o ≠ { cls := .type "list", data := .seq xs n }) : HO.ext φ ≠ PaO p vs := by
  intro e
  obtain ⟨us, hu⟩ := vals_ex vs
  unfold PaO at e
  injection e with e
  let ob : Obj := { cls := .type "list", data := .seq us.toArray 0 }
  let hp : Heap := { objs := Array.replicate (p + 1) ob }
  have g : ∀ b o, hp.get? b = some o → o = ob := fun b o h => by
    have : hp.objs[b]? = if b < p + 1 then some ob else none := Array.getElem?_replicate
    unfold Heap.get? at h
    rw [this] at h
    by_cases z : b < p + 1
    · rw [if_pos z] at h
      exact (Option.some.inj h).symm
    · rw [if_neg z] at h
      cases h
  have hp2 : hp.get? p = some ob := by
    have : hp.objs[p]? = some ob := by
      have : hp.objs[p]? = if p < p + 1 then some ob else none := Array.getElem?_replicate
      rw [this, if_pos (Nat.lt_succ_self p)]
    unfold Heap.get?
    rw [this]
  have : φ hp := by
    rw [e]
    exact ⟨us, 0, hu, hp2⟩
  obtain ⟨o, h1, h2⟩ := no hp this
  exact h2 _ _ (g a o h1)
theorem NT.of {o : HO} (h : ∀ ps, o ≠ .tbl ps) (h2 : ∀ φ, o ≠ .ext φ) : NT o := ⟨h, fun p vs => h2 _⟩
theorem ntL {vs : List V} : NT (.lst vs) := .of (fun _ z => nomatch z) (fun _ z => nomatch z)
theorem ntK {vs : List (Key × V)} : NT (.dK vs) := .of (fun _ z => nomatch z) (fun _ z => nomatch z)
theorem nt_ins {C dx : Addr} {fs : List (Str × V)} : NT (.ins C dx fs) := .of (fun _ z => nomatch z) (fun _ z => nomatch z)
theorem codeO_nt {c : Addr} {q : Str} : NT (LamX.CodeO c q) := ⟨LamX.codeO_ne, fun _ _ => pao_ne c fun h ⟨oc, vs, t, h1, h2, _⟩ => ⟨oc, h1, fun xs n z => by rw [z] at h2; cases h2⟩⟩
def PastOf (H : Hp) (a p : Addr) : Prop := ∃ C dx fs, H a = some (.ins C dx fs) ∧ fs.lookup ("past" : Str) = some (V.ref p)
def PU (H : Hp) : Prop := (∀ a b p, PastOf H a p → PastOf H b p → a = b) ∧ ∀ a p, PastOf H a p → ∃ o, H p = some o
theorem PU.put {H : Hp} {q : Addr} {o : HO} (h : PU H) (ni : ∀ C dx fs, o ≠ .ins C dx fs) : PU (L2.upd H q o) := by
  have old : ∀ a p, PastOf (L2.upd H q o) a p → PastOf H a p := by
    rintro a p ⟨C, dx, fs, h1, h2⟩
    by_cases z : a = q
    · subst z
      rw [upd_same] at h1
      cases h1
      exact absurd rfl (ni _ _ _)
    · rw [upd_ne z] at h1
      exact ⟨C, dx, fs, h1, h2⟩
  refine ⟨fun a b p h1 h2 => h.1 a b p (old _ _ h1) (old _ _ h2), fun a p h1 => ?_⟩
  obtain ⟨o', e⟩ := h.2 a p (old _ _ h1)
  by_cases z : p = q
  · rw [z]; exact ⟨o, upd_same⟩
  · exact ⟨o', by rw [upd_ne z]; exact e⟩
theorem PU.ins0 {H : Hp} {x C dx : Addr} (h : PU H) : PU (L2.upd H x (.ins C dx [])) := by
  have old : ∀ a p, PastOf (L2.upd H x (.ins C dx [])) a p → PastOf H a p := by
    rintro a p ⟨C1, d1, fs, h1, h2⟩
    by_cases z : a = x
    · subst z
      rw [upd_same] at h1
      cases h1
      cases h2
    · rw [upd_ne z] at h1
      exact ⟨C1, d1, fs, h1, h2⟩
  refine ⟨fun a b p h1 h2 => h.1 a b p (old _ _ h1) (old _ _ h2), fun a p h1 => ?_⟩
  obtain ⟨o', e⟩ := h.2 a p (old _ _ h1)
  by_cases z : p = x
  · rw [z]; exact ⟨_, upd_same⟩
  · exact ⟨o', by rw [upd_ne z]; exact e⟩
class TabL where
  l : List (Addr × (Nat → Nat → Str))
  w : World
instance (priority := low) TabL.no : TabL := ⟨[], ⟨fun _ _ => 0, { strHash := fun _ => 0, shareClass := fun a => a, mergeTok := fun t => t, idOf := fun _ => 0, idOfShared := fun _ _ => 0, followText := fun _ => false, idOfImm := fun _ => 0 }⟩⟩
variable [TabL]
class WdOk (w : World) : Prop where
  eq : w = TabL.w

def FnK (K : PySem.W.Frag) (nm : Str) (a : Addr) : Prop := PySem.W.nsIn K mainGlobals nm = some (some (.ref a))
abbrev fnV (nm : Str) : PyData := .dict [(.str nm, .none)]
abbrev ntD (xs : List PyData) : PyData := .dict [(.bool true, .tuple xs)]
abbrev exD (a : Addr) : PyData := .dict [(.bool false, .int (a : Nat))]
abbrev obD : PyData := .dict [(.none, .none)]
abbrev lamD (f c a : Addr) (q : Str) (xs : List PyData) : PyData := .dict [(.int (f : Nat), .none), (.int (c : Nat), .none), (.str q, .none), (.int (a : Nat), .tuple xs)]
def NkOk (k : NestedKey) : Prop := k.depth ≤ 8 ∧ ∃ ks, k = .tup ks
structure DEs where
  o : Obj
  ep : Nat
  es : List DictEntry
def DnO (a : Addr) (z : DEs) : HO := .ext fun h => (a == sysModules) = false ∧ z.es.length ≤ sizeLine ∧ h.get? a = some z.o ∧ z.o.ExactDict ∧ z.o.data = .dict z.es.toArray z.ep
theorem ntDn {a : Addr} {z : DEs} : NT (DnO a z) := ⟨fun _ q => (nomatch q), fun _ _ => pao_ne a fun _ ⟨_, _, h3, _, h5⟩ => ⟨z.o, h3, fun xs n e => by rw [e] at h5; cases h5⟩⟩
abbrev dcD (kvs : List (NestedKey × PyData)) : PyData := .dict ((.list [], .none) :: kvs.map fun q => (q.1.data, q.2))
def keyD : Key → PyData
  | .inl i => .int i
  | .inr x => .str x
abbrev dkD (kvs : List (Key × PyData)) : PyData := .dict ((.list [.none], .none) :: kvs.map fun q => (keyD q.1, q.2))
inductive Dn4 : List DictEntry → List V → List V → List NestedKey → Prop
  | nil : Dn4 [] [] [] []
  | cons {e : DictEntry} {es : List DictEntry} {b : Addr} {v : V} {ks vs : List V} {n : NestedKey} {ns : List NestedKey} : NkOk n → (NestedKey.hash TabL.w n = e.hash) → e.key = .ref b → RelV v e.val → Dn4 es ks vs ns → Dn4 (e :: es) (.ref b :: ks) (v :: vs) (n :: ns)
mutual
inductive Rp (K : PySem.W.Frag) (B : Mset) (H : Hp) : V → PyData → Prop
  | non : Rp K B H .non .none
  | bl (b : Bool) : Rp K B H (.bl b) (.bool b)
  | int (i : Int) : Rp K B H (.int i) (.int i)
  | str (x : Str) : Rp K B H (.str x) (.str x)
  | tup {a : Addr} {xs : List V} {ds : List PyData} : SqT K H a xs → RpA K B H xs ds → Rp K B H (.ref a) (.tuple ds)
  | lst {a : Addr} {xs : List V} {ds : List PyData} : H a = some (.lst xs) → ¬ B a → RpA K B H xs ds → Rp K B H (.ref a) (.list ds)
  | frz {a : Addr} {o : Obj} {xs : List V} {ds : List PyData} : H a = some (.frz o (.lst xs)) → RpA K B H xs ds → Rp K B H (.ref a) (.list ds)
  | kls {a : Addr} {o : Obj} {its : Array Value} {n : Nat} {xs : List V} {ds : List PyData} : K.lookup a = some o → o.cls = .type "list" → o.dict = none → o.data = .seq its n → its.size ≤ sizeLine → Vals xs its.toList → RpA K B H xs ds → Rp K B H (.ref a) (.list ds)
  | fn {a : Addr} {nm : Str} : FnK K nm a → Rp K B H (.ref a) (fnV nm)
  | exn {a : Addr} : Rp K B H (.ref a) (exD a)
  | obj {a : Addr} : Rp K B H (.ref a) obD
  | ntp {a : Addr} {o : Obj} {vs : List V} {xs : List PyData} : H a = some (.frz o (.tup vs)) → o.dict = none → RpA K B H vs xs → Rp K B H (.ref a) (ntD xs)
  | lam {f c a : Addr} {q : Str} {o : Obj} {vs : List V} {xs : List PyData} : H c = some (LamX.CodeO c q) → ¬ B c → H a = some (.frz o (.tup vs)) → o.dict = none → RpA K B H vs xs → Rp K B H (.ref f) (lamD f c a q xs)
  | dct {a : Addr} {z : DEs} {ks vs : List V} {kvs : List (NestedKey × PyData)} : H a = some (DnO a z) → ¬ B a → Dn4 z.es ks vs (kvs.map (·.1)) → (kvs.map (·.1)).Nodup → RpA K B H ks (kvs.map fun q => q.1.data) → RpA K B H vs (kvs.map (·.2)) → Rp K B H (.ref a) (dcD kvs)
  | dck {a : Addr} {ws : List (Key × V)} {kvs : List (Key × PyData)} : H a = some (.dK ws) → ¬ B a → ws.map (·.1) = kvs.map (·.1) → RpA K B H (ws.map (·.2)) (kvs.map (·.2)) → Rp K B H (.ref a) (dkD kvs)
inductive RpA (K : PySem.W.Frag) (B : Mset) (H : Hp) : List V → List PyData → Prop
  | nil : RpA K B H [] []
  | cons {v : V} {vs : List V} {d : PyData} {ds : List PyData} : Rp K B H v d → RpA K B H vs ds → RpA K B H (v :: vs) (d :: ds)
end

structure Grow (B : Mset) (H : Hp) (B' : Mset) (H' : Hp) : Prop where
  keep : ∀ a o, H a = some o → (¬ B a ∧ NT o ∨ Imm o) → H' a = some o
  new : ∀ a, B' a → B a ∨ H a = none

theorem SqT.grow {K : PySem.W.Frag} {B B' : Mset} {H H' : Hp} (g : Grow B H B' H') {a : Addr} {xs : List V} (h : SqT K H a xs) : SqT K H' a xs := by
  rcases h with (h | ⟨o, h⟩) | h
  · exact .inl (.inl (g.keep _ _ h (.inr trivial)))
  · exact .inl (.inr ⟨o, g.keep _ _ h (.inr trivial)⟩)
  · exact .inr h

mutual
theorem Rp.grow {K : PySem.W.Frag} {B B' : Mset} {H H' : Hp} (g : Grow B H B' H') : ∀ {v : V} {d : PyData}, Rp K B H v d → Rp K B' H' v d
  | _, _, .non => .non
  | _, _, .bl b => .bl b
  | _, _, .int i => .int i
  | _, _, .str x => .str x
  | _, _, .tup h r => .tup (SqT.grow g h) (RpA.grow g r)
  | _, _, .lst h nb r => .lst (g.keep _ _ h (.inl ⟨nb, ntL⟩)) (fun q => by
      rcases g.new _ q with q | q
      · exact nb q
      · rw [h] at q; cases q) (RpA.grow g r)
  | _, _, .frz h r => .frz (g.keep _ _ h (.inr trivial)) (RpA.grow g r)
  | _, _, .kls h1 h2 h3 h4 h5 h6 r => .kls h1 h2 h3 h4 h5 h6 (RpA.grow g r)
  | _, _, .fn h => .fn h
  | _, _, .exn => .exn
  | _, _, .obj => .obj
  | _, _, .ntp h1 h2 r => .ntp (g.keep _ _ h1 (.inr trivial)) h2 (RpA.grow g r)
  | _, _, .lam h1 nb h2 h3 r => .lam (g.keep _ _ h1 (.inl ⟨nb, codeO_nt⟩)) (fun q => by
      rcases g.new _ q with q | q
      · exact nb q
      · rw [h1] at q; cases q) (g.keep _ _ h2 (.inr trivial)) h3 (RpA.grow g r)
  | _, _, .dct h nb h4 nd r1 r2 => .dct (g.keep _ _ h (.inl ⟨nb, ntDn⟩)) (fun q => by
      rcases g.new _ q with q | q
      · exact nb q
      · rw [h] at q; cases q) h4 nd (RpA.grow g r1) (RpA.grow g r2)
  | _, _, .dck h nb hk r => .dck (g.keep _ _ h (.inl ⟨nb, ntK⟩)) (fun q => by
      rcases g.new _ q with q | q
      · exact nb q
      · rw [h] at q; cases q) hk (RpA.grow g r)
theorem RpA.grow {K : PySem.W.Frag} {B B' : Mset} {H H' : Hp} (g : Grow B H B' H') : ∀ {vs : List V} {ds : List PyData}, RpA K B H vs ds → RpA K B' H' vs ds
  | _, _, .nil => .nil
  | _, _, .cons h r => .cons (Rp.grow g h) (RpA.grow g r)
end

theorem RpA.length {K : PySem.W.Frag} {B : Mset} {H : Hp} : ∀ {vs : List V} {ds : List PyData}, RpA K B H vs ds → vs.length = ds.length
  | _, _, .nil => rfl
  | _, _, .cons _ r => by simp [RpA.length r]
theorem RpA.get {K : PySem.W.Frag} {B : Mset} {H : Hp} : ∀ {vs : List V} {ds : List PyData} {i : Nat} {d : PyData}, RpA K B H vs ds → ds[i]? = some d → ∃ v, vs[i]? = some v ∧ Rp K B H v d
  | _, _, _, _, .nil, e => by simp at e
  | _, _, 0, _, .cons h _, e => by simp at e; subst e; exact ⟨_, rfl, h⟩
  | _, _, i + 1, d, .cons _ r, e => by
    obtain ⟨v, h1, h2⟩ := RpA.get (i := i) (d := d) r (by simpa using e)
    exact ⟨v, by simpa using h1, h2⟩
theorem RpA.getV {K : PySem.W.Frag} {B : Mset} {H : Hp} : ∀ {vs : List V} {ds : List PyData} {i : Nat} {v : V}, RpA K B H vs ds → vs[i]? = some v → ∃ d, ds[i]? = some d ∧ Rp K B H v d
  | _, _, _, _, .nil, e => by simp at e
  | _, _, 0, _, .cons h _, e => by simp at e; subst e; exact ⟨_, rfl, h⟩
  | _, _, i + 1, d, .cons _ r, e => by
    obtain ⟨v, h1, h2⟩ := RpA.getV (i := i) (v := d) r (by simpa using e)
    exact ⟨v, by simpa using h1, h2⟩
theorem RpA.append {K : PySem.W.Frag} {B : Mset} {H : Hp} : ∀ {vs ws : List V} {ds es : List PyData}, RpA K B H vs ds → RpA K B H ws es → RpA K B H (vs ++ ws) (ds ++ es)
  | _, _, _, _, .nil, q => q
  | _, _, _, _, .cons h r, q => .cons h (RpA.append r q)
theorem RpA.take {K : PySem.W.Frag} {B : Mset} {H : Hp} : ∀ {vs : List V} {ds : List PyData} (n : Nat), RpA K B H vs ds → RpA K B H (vs.take n) (ds.take n)
  | _, _, 0, _ => .nil
  | _, _, _ + 1, .nil => .nil
  | _, _, n + 1, .cons h r => .cons h (RpA.take n r)
theorem RpA.drop {K : PySem.W.Frag} {B : Mset} {H : Hp} : ∀ {vs : List V} {ds : List PyData} (n : Nat), RpA K B H vs ds → RpA K B H (vs.drop n) (ds.drop n)
  | _, _, 0, q => q
  | _, _, _ + 1, .nil => .nil
  | _, _, n + 1, .cons h r => RpA.drop n r
theorem RpA.set {K : PySem.W.Frag} {B : Mset} {H : Hp} {v : V} {d : PyData} (q : Rp K B H v d) : ∀ {vs : List V} {ds : List PyData} (n : Nat), RpA K B H vs ds → RpA K B H (vs.set n v) (ds.set n d)
  | _, _, _, .nil => .nil
  | _, _, 0, .cons _ r => .cons q r
  | _, _, n + 1, .cons h r => .cons h (RpA.set q n r)
theorem RpA.ints {K : PySem.W.Frag} {B : Mset} {H : Hp} : ∀ {vs : List V} {ns : List Int}, RpA K B H vs (ns.map .int) → vs = ns.map V.int
  | _, [], .nil => rfl
  | _, n :: ns, .cons h r => by
    cases h
    rw [RpA.ints r]
    rfl
theorem RpA.of_ints {K : PySem.W.Frag} {B : Mset} {H : Hp} : ∀ (ns : List Int), RpA K B H (ns.map V.int) (ns.map .int)
  | [] => .nil
  | n :: ns => .cons (.int n) (RpA.of_ints ns)
theorem RpA.bls {K : PySem.W.Frag} {B : Mset} {H : Hp} : ∀ {vs : List V} {ns : List Bool}, RpA K B H vs (ns.map .bool) → vs = ns.map V.bl
  | _, [], .nil => rfl
  | _, n :: ns, .cons h r => by
    cases h
    rw [RpA.bls r]
    rfl
mutual
theorem Rp.dp0 {K : PySem.W.Frag} {B : Mset} {H : Hp} : ∀ {v : V} {d : PyData}, Rp K B H v d → d.canLay0 = true → Dp K H v d
  | _, _, .non, _ => .non
  | _, _, .bl b, _ => .bl b
  | _, _, .int i, _ => .int i
  | _, _, .str x, _ => .str x
  | _, _, .tup h r, l => .tup h (RpA.dp0 r (by simpa [PyData.canLay0] using l))
  | _, _, .lst h _ r, l => .lst (.inl (.inl h)) (RpA.dp0 r (by simpa [PyData.canLay0] using l))
  | _, _, .frz h r, l => .lst (.inl (.inr ⟨_, h⟩)) (RpA.dp0 r (by simpa [PyData.canLay0] using l))
  | _, _, .kls h1 h2 h3 h4 h5 h6 r, l => .lst (.inr ⟨_, _, _, h1, h2, h3, h4, h5, h6⟩) (RpA.dp0 r (by simpa [PyData.canLay0] using l))
  | _, _, .fn _, l => by simp [PyData.canLay0] at l
  | _, _, .exn, l => by simp [PyData.canLay0] at l
  | _, _, .obj, l => by simp [PyData.canLay0] at l
  | _, _, .ntp _ _ _, l => by simp [PyData.canLay0] at l
  | _, _, .lam _ _ _ _ _, l => by simp [PyData.canLay0] at l
  | _, _, .dct _ _ _ _ _ _, l => by simp [PyData.canLay0] at l
  | _, _, .dck _ _ _ _, l => by simp [PyData.canLay0] at l
theorem RpA.dp0 {K : PySem.W.Frag} {B : Mset} {H : Hp} : ∀ {vs : List V} {ds : List PyData}, RpA K B H vs ds → PyData.canLayAll0 ds = true → DpAll K H vs ds
  | _, _, .nil, _ => .nil
  | _, _, .cons h r, l => .cons (Rp.dp0 h (by simp [PyData.canLayAll0] at l; exact l.1)) (RpA.dp0 r (by simp [PyData.canLayAll0] at l; exact l.2))
end

def KvR (K : PySem.W.Frag) (B : Mset) (H : Hp) : List (Key × V) → List (Key × PyData) → Prop := Paired fun p q => p.1 = q.1 ∧ Rp K B H p.2 q.2
def DnE (K : PySem.W.Frag) (B : Mset) (H : Hp) (e : DictEntry) (q : NestedKey × PyData) : Prop :=
  NkOk q.1 ∧ (NestedKey.hash TabL.w q.1 = e.hash) ∧ (∃ b, e.key = .ref b ∧ Rp K B H (.ref b) q.1.data) ∧ ∃ v, RelV v e.val ∧ Rp K B H v q.2
structure DnR (K : PySem.W.Frag) (B : Mset) (H : Hp) (es : DEs) (kvs : List (NestedKey × PyData)) : Prop where
  ent : Paired (DnE K B H) es.es kvs
  nd : (kvs.map (·.1)).Nodup
theorem DnR.grow {K : PySem.W.Frag} {B B' : Mset} {H H' : Hp} (g : Grow B H B' H') {es : DEs} {kvs : List (NestedKey × PyData)} (h : DnR K B H es kvs) : DnR K B' H' es kvs :=
  ⟨Paired.mapP h.ent fun _ _ ⟨a, b, ⟨c, d, e⟩, v, f, x⟩ => ⟨a, b, ⟨c, d, e.grow g⟩, v, f, x.grow g⟩, h.nd⟩
def NtR (K : PySem.W.Frag) (B : Mset) (H : Hp) (a : Addr) (xs : List PyData) : Prop := ∃ o vs, H a = some (.frz o (.tup vs)) ∧ o.dict = none ∧ RpA K B H vs xs
theorem NtR.grow {K : PySem.W.Frag} {B B' : Mset} {H H' : Hp} (g : Grow B H B' H') {a : Addr} {xs : List PyData} (h : NtR K B H a xs) : NtR K B' H' a xs := by
  obtain ⟨o, vs, h1, h2, h3⟩ := h
  exact ⟨o, vs, g.keep _ _ h1 (.inr trivial), h2, h3.grow g⟩
theorem NtR.rp {K : PySem.W.Frag} {B : Mset} {H : Hp} {a : Addr} {xs : List PyData} (h : NtR K B H a xs) : Rp K B H (.ref a) (.tuple xs) := by
  obtain ⟨o, vs, h1, h2, h3⟩ := h
  exact .tup (.inl (.inr ⟨o, h1⟩)) h3
def TbR (K : PySem.W.Frag) (B : Mset) (H : Hp) (a : Addr) (fl : List PyData) (here held rl : PyData) (past : List PyData) : Prop := ∃ (C dx af p : Addr) (v2 v3 v4 : V) (vs : List V),
  H a = some (.ins C dx [("floor", .ref af), ("here", v2), ("held", v3), ("rolled", v4), ("past", .ref p)]) ∧ FnK K "Table" C ∧ NtR K B H af fl ∧ Rp K B H v2 here ∧ Rp K B H v3 held ∧ Rp K B H v4 rl ∧ H p = some (PaO p vs) ∧ vs.length ≤ 90000 ∧ RpA K B H vs past
theorem TbR.hop {K : PySem.W.Frag} {B B' : Mset} {H H' : Hp} {a : Addr} {fl past : List PyData} {here held rl : PyData} (h : TbR K B H a fl here held rl past) (g : Grow B H B' H') (k : ∀ b o, b = a ∨ (PastOf H a b ∧ ∃ q vs, o = PaO q vs) → H b = some o → H' b = some o) : TbR K B' H' a fl here held rl past := by
  obtain ⟨C, dx, af, p, v2, v3, v4, vs, h1, h2, h3, h4, h5, h6, h7, h8, h9⟩ := h
  exact ⟨C, dx, af, p, v2, v3, v4, vs, k _ _ (.inl rfl) h1, h2, h3.grow g, h4.grow g, h5.grow g, h6.grow g, k _ _ (.inr ⟨⟨C, dx, _, h1, by rfl⟩, _, _, rfl⟩) h7, h8, h9.grow g⟩
def CtR (K : PySem.W.Frag) (B : Mset) (H : Hp) (a : Addr) : Ct → Prop
  | .ls xs => ∃ vs, H a = some (.lst vs) ∧ RpA K B H vs xs
  | .dk kvs => ∃ ws, H a = some (.dK ws) ∧ KvR K B H ws kvs
  | .dn kvs => ∃ es, H a = some (DnO a es) ∧ DnR K B H es kvs
  | .tb fl here held rl past => TbR K B H a fl here held rl past

theorem dn_split {K : PySem.W.Frag} {B : Mset} {H : Hp} : ∀ {es : List DictEntry} {kvs : List (NestedKey × PyData)}, Paired (DnE K B H) es kvs → ∃ ks vs, Dn4 es ks vs (kvs.map (·.1)) ∧ RpA K B H ks (kvs.map fun q => q.1.data) ∧ RpA K B H vs (kvs.map (·.2))
  | _, _, .nil => ⟨[], [], .nil, .nil, .nil⟩
  | _, _, .cons ⟨h1, h2, ⟨b, h3, h4⟩, v, h5, h6⟩ t => by
    obtain ⟨ks, vs, a1, a2, a3⟩ := dn_split t
    exact ⟨.ref b :: ks, v :: vs, .cons h1 h2 h3 h5 a1, .cons h4 a2, .cons h6 a3⟩
theorem dn_join {K : PySem.W.Frag} {B : Mset} {H : Hp} : ∀ {es : List DictEntry} {ks vs : List V} {kvs : List (NestedKey × PyData)}, Dn4 es ks vs (kvs.map (·.1)) → RpA K B H ks (kvs.map fun q => q.1.data) → RpA K B H vs (kvs.map (·.2)) → Paired (DnE K B H) es kvs
  | es, ks, vs, [], h, _, _ => by
    simp only [List.map_nil] at h
    cases h
    exact .nil
  | es, ks, vs, q :: kvs, h, r1, r2 => by
    simp only [List.map_cons] at h r1 r2
    cases h with
    | cons h1 h2 h3 h4 t =>
      cases r1 with
      | cons k1 k2 =>
        cases r2 with
        | cons v1 v2 => exact .cons ⟨h1, h2, ⟨_, h3, k1⟩, _, h4, v1⟩ (dn_join t k2 v2)
theorem kv_split {K : PySem.W.Frag} {B : Mset} {H : Hp} : ∀ {ws : List (Key × V)} {kvs : List (Key × PyData)}, KvR K B H ws kvs → ws.map (·.1) = kvs.map (·.1) ∧ RpA K B H (ws.map (·.2)) (kvs.map (·.2))
  | _, _, .nil => ⟨rfl, .nil⟩
  | _, _, .cons ⟨h1, h2⟩ t => by
    obtain ⟨a, b⟩ := kv_split t
    exact ⟨by simp [h1, a], .cons h2 b⟩
theorem kv_join {K : PySem.W.Frag} {B : Mset} {H : Hp} : ∀ {ws : List (Key × V)} {kvs : List (Key × PyData)}, ws.map (·.1) = kvs.map (·.1) → RpA K B H (ws.map (·.2)) (kvs.map (·.2)) → KvR K B H ws kvs
  | [], [], _, _ => .nil
  | [], _ :: _, h, _ => by simp at h
  | _ :: _, [], h, _ => by simp at h
  | w :: ws, q :: kvs, h, r => by
    simp only [List.map_cons, List.cons.injEq] at h r
    cases r with
    | cons r1 r2 => exact .cons ⟨h.1, r1⟩ (kv_join h.2 r2)
theorem CtR.npa {K : PySem.W.Frag} {B : Mset} {H : Hp} {a : Addr} {c : Ct} (h : CtR K B H a c) (q : Addr) (vs : List V) : H a ≠ some (PaO q vs) := fun e => by
  cases c with
  | ls zs => obtain ⟨ws, h1, h2⟩ := h; rw [h1] at e; cases e
  | dk kvs => obtain ⟨ws, h1, h2⟩ := h; rw [h1] at e; cases e
  | dn kvs => obtain ⟨ws, h1, h2⟩ := h; rw [h1] at e; exact ntDn.2 _ _ (Option.some.inj e)
  | tb => obtain ⟨C, dx, af, p, v2, v3, v4, vs, h1, _⟩ := h; rw [h1] at e; cases e
theorem CtR.nt {K : PySem.W.Frag} {B : Mset} {H : Hp} {a : Addr} {c : Ct} {o : HO} (h : CtR K B H a c) (e : H a = some o) : NT o := by
  cases c with
  | ls zs => obtain ⟨ws, h1, h2⟩ := h; rw [h1] at e; cases e; exact ntL
  | dk kvs => obtain ⟨ws, h1, h2⟩ := h; rw [h1] at e; cases e; exact ntK
  | dn kvs => obtain ⟨ws, h1, h2⟩ := h; rw [h1] at e; cases e; exact ntDn
  | tb => obtain ⟨C, dx, af, p, v2, v3, v4, vs, h1, _⟩ := h; rw [h1] at e; cases e; exact nt_ins
theorem CtR.hop {K : PySem.W.Frag} {B B' : Mset} {H H' : Hp} {a : Addr} {c : Ct} (h : CtR K B H a c) (g : Grow B H B' H') (k' : ∀ b o, b = a ∨ (PastOf H a b ∧ ∃ q vs, o = PaO q vs) → H b = some o → H' b = some o) : CtR K B' H' a c := by
  have k : ∀ o, H a = some o → H' a = some o := fun o => k' a o (.inl rfl)
  cases c with
  | tb => exact TbR.hop h g k'
  | ls zs => obtain ⟨ws, h1, h2⟩ := h; exact ⟨ws, k _ h1, h2.grow g⟩
  | dk kvs => obtain ⟨ws, h1, h2⟩ := h; exact ⟨ws, k _ h1, Paired.mapP h2 fun _ _ q => ⟨q.1, q.2.grow g⟩⟩
  | dn kvs => obtain ⟨ws, h1, h2⟩ := h; exact ⟨ws, k _ h1, h2.grow g⟩
theorem CtR.hopU {K : PySem.W.Frag} {B B' : Mset} {H : Hp} {a D : Addr} {o : HO} {c : Ct} (h : CtR K B H a c) (g : Grow B H B' (upd H D o)) (n : a ≠ D) (np : ∀ q us, H D ≠ some (PaO q us)) : CtR K B' (upd H D o) a c := h.hop g fun b o' hb e => by
  rcases hb with rfl | ⟨_, q, us, rfl⟩
  · rw [upd_ne n]; exact e
  · rw [upd_ne (show b ≠ D from fun z => np q us (by rw [← z]; exact e))]; exact e
theorem npL {H : Hp} {a : Addr} {vs : List V} (h : H a = some (.lst vs)) (q : Addr) (us : List V) : H a ≠ some (PaO q us) := fun e => by rw [h] at e; cases e
theorem npD {H : Hp} {a : Addr} {z : DEs} (h : H a = some (DnO a z)) (q : Addr) (us : List V) : H a ≠ some (PaO q us) := fun e => by rw [h] at e; exact ntDn.2 _ _ (Option.some.inj e)
def ctD : Ct → PyData
  | .ls xs => .list xs
  | .dk kvs => dkD kvs
  | .dn kvs => dcD kvs
  | .tb _ _ _ _ _ => obD
theorem CtR.rp {K : PySem.W.Frag} {B : Mset} {H : Hp} {a : Addr} {c : Ct} (h : CtR K B H a c) (nb : ¬ B a) : Rp K B H (.ref a) (ctD c) := by
  cases c with
  | ls xs => obtain ⟨vs, h1, h2⟩ := h; exact .lst h1 nb h2
  | dk kvs => obtain ⟨ws, h1, h2⟩ := h; obtain ⟨a, b⟩ := kv_split h2; exact .dck h1 nb a b
  | dn kvs => obtain ⟨es, h1, h2⟩ := h; obtain ⟨ks, vs, x, y, z⟩ := dn_split h2.ent; exact .dct h1 nb x h2.nd y z
  | tb => exact .obj

def Wof (σ : St) (env : Sl) : Mset := fun a => ∃ (i : Nat) (m : Md) (c : Ct), env[i]? = some (some (.mu m c)) ∧ m ≠ .fro ∧ σ[i]? = some (some (.ref a))

def TbT (B : Mset) (H : Hp) : Prop := ∀ p ∈ TabL.l, ∃ ps : Array Value, H p.1 = some (.tbl ps) ∧ ¬ B p.1 ∧ TriplesOk ps.toList ∧ ∀ (pos : Pos) (cv : Value), codeAmong pos ps.toList = some cv → ∃ c, cv = .ref c ∧ H c = some (LamX.CodeO c (p.2 pos.line pos.col)) ∧ ¬ B c
def TbB (B : Mset) (H : Hp) : Prop := TbT B H ∧ PU H
theorem TbB.on {B B' : Mset} {H H' : Hp} (h : TbB B H) (k : ∀ a o, H a = some o → ¬ B a → (∀ p vs, o ≠ PaO p vs) → H' a = some o) (n : ∀ a, B' a → B a ∨ H a = none) (pu : PU H') : TbB B' H' := ⟨fun p hp => by
  obtain ⟨ps, h1, h2, h3, h4⟩ := h.1 p hp
  have nb : ∀ a o, H a = some o → ¬ B a → ¬ B' a := fun a o e q z => by
    rcases n a z with z | z
    · exact q z
    · rw [e] at z; cases z
  refine ⟨ps, k _ _ h1 h2 (fun _ _ z => nomatch z), nb _ _ h1 h2, h3, fun pos cv hc => ?_⟩
  obtain ⟨c, e1, e2, e3⟩ := h4 pos cv hc
  exact ⟨c, e1, k _ _ e2 e3 codeO_nt.2, nb _ _ e2 e3⟩, pu⟩
structure EnvR (K : PySem.W.Frag) (B : Mset) (H : Hp) (σ : St) (env : Sl) : Prop where
  len : env.length = σ.length
  pd : ∀ (i : Nat) x, env[i]? = some (some (.pd x)) → ∃ v, σ[i]? = some (some v) ∧ Rp K B H v x
  nt : ∀ (i : Nat) xs, env[i]? = some (some (.nt xs)) → ∃ a, σ[i]? = some (some (.ref a)) ∧ NtR K B H a xs
  mu : ∀ (i : Nat) m c, env[i]? = some (some (.mu m c)) → ∃ a, σ[i]? = some (some (.ref a)) ∧ B a ∧ CtR K B H a c
  inj : ∀ (i j : Nat) m n c d a, env[i]? = some (some (.mu m c)) → env[j]? = some (some (.mu n d)) → σ[i]? = some (some (.ref a)) → σ[j]? = some (some (.ref a)) → i = j
  dom : ∀ a, B a → ∃ o, H a = some o
  tb : TbB B H


structure Stp (W B : Mset) (H : Hp) (W' B' : Mset) (H' : Hp) : Prop where
  keep : ∀ a o, H a = some o → (¬ W a ∧ NT o ∨ Imm o) → H' a = some o
  new : ∀ a, B' a → B a ∨ H a = none
  old : ∀ a, B a → ¬ W a → B' a
  sub : ∀ a, W' a → W a ∨ H a = none
  liv : ∀ a, H' a = none → H a = none
  pa : ∀ a p q vs, PastOf H a p → ¬ W a → H p = some (PaO q vs) → H' p = some (PaO q vs)

theorem EnvR.wb {K : PySem.W.Frag} {B : Mset} {H : Hp} {σ : St} {env : Sl} (e : EnvR K B H σ env) : ∀ a, Wof σ env a → B a := by
  rintro a ⟨i, m, c, h1, _, h3⟩
  obtain ⟨a', h4, h5, _⟩ := e.mu i m c h1
  rw [h3] at h4
  cases h4
  exact h5

theorem Stp.grow {W B W' B' : Mset} {H H' : Hp} (s : Stp W B H W' B' H') (wb : ∀ a, W a → B a) : Grow B H B' H' :=
  ⟨fun a o h q => s.keep a o h (q.imp (fun n => ⟨fun w => n.1 (wb a w), n.2⟩) id), s.new⟩

theorem Stp.refl {W B : Mset} {H : Hp} : Stp W B H W B H := ⟨fun _ _ h _ => h, fun _ h => .inl h, fun _ h _ => h, fun _ h => .inl h, fun _ h => h, fun _ _ _ _ _ _ h => h⟩

theorem Stp.trans {W B W1 B1 W2 B2 : Mset} {H H1 H2 : Hp} (s : Stp W B H W1 B1 H1) (t : Stp W1 B1 H1 W2 B2 H2) (wb : ∀ a, W a → B a) (dom : ∀ a, B a → ∃ o, H a = some o) : Stp W B H W2 B2 H2 where
  keep a o h q := by
    refine t.keep a o (s.keep a o h q) ?_
    rcases q with q | q
    · refine .inl ⟨fun w => ?_, q.2⟩
      rcases s.sub a w with w | w
      · exact q.1 w
      · rw [h] at w; cases w
    · exact .inr q
  new a h := by
    rcases t.new a h with h | h
    · exact s.new a h
    · exact .inr (s.liv a h)
  old a h w := by
    refine t.old a (s.old a h w) fun w1 => ?_
    rcases s.sub a w1 with q | q
    · exact w q
    · obtain ⟨o, e⟩ := dom a h
      rw [e] at q; cases q
  sub a h := by
    rcases t.sub a h with h | h
    · exact s.sub a h
    · exact .inr (s.liv a h)
  liv a h := s.liv a (t.liv a h)
  pa a p q vs h nw e := by
    obtain ⟨C, dx, fs, h1, h2⟩ := h
    refine t.pa a p q vs ⟨C, dx, fs, s.keep a _ h1 (.inl ⟨nw, nt_ins⟩), h2⟩ (fun w => ?_) (s.pa a p q vs ⟨C, dx, fs, h1, h2⟩ nw e)
    rcases s.sub a w with w | w
    · exact nw w
    · rw [h1] at w; cases w

def RR (K : PySem.W.Frag) (H₀ : Hp) (B : Mset) (H : Hp) (σ : St) (env : Sl) (v : V) : R → Prop
  | .pd x => Rp K B H v x
  | .nt xs => ∃ a, v = .ref a ∧ NtR K B H a xs
  | .tmp c => ∃ a, v = .ref a ∧ H₀ a = none ∧ B a ∧ CtR K B H a c ∧ ∀ (i : Nat) m d, env[i]? = some (some (S.mu m d)) → σ[i]? ≠ some (some (V.ref a))
  | .var i => σ[i]? = some (some v) ∧ ∃ m c, env[i]? = some (some (.mu m c))

structure At (K : PySem.W.Frag) (σ : St) (B : Mset) (H : Hp) (env : Sl) (B' : Mset) (H' : Hp) (env' : Sl) : Prop where
  st : Stp (Wof σ env) B H (Wof σ env') B' H'
  en : EnvR K B' H' σ env'
  sm : ∀ (i : Nat) m c, env'[i]? = some (some (.mu m c)) → ∃ c', env[i]? = some (some (.mu m c'))
  ks : ∀ (i : Nat) m c, env[i]? = some (some (.mu m c)) → ∃ c', env'[i]? = some (some (.mu m c'))

abbrev EE := Sl → Option (R × Sl)
abbrev EA := Sl → Option (List R × Sl)

def tE (K : PySem.W.Frag) (f : EE) : TE := fun σ H Q => ∃ B env d env', EnvR K B H σ env ∧ f env = some (d, env') ∧
  ∀ B' H' v, At K σ B H env B' H' env' → RR K H B' H' σ env' v d → Q v H'

theorem PE.imp {X : Cx} {e : Expr} {t t' : TE} (h : PE X e t) (i : ∀ σ H Q, t' σ H Q → t σ H Q) : PE X e t' := ⟨fun pins s σ H Q I q => h.run pins s σ H Q I (i σ H Q q)⟩
theorem PS.imp {X : Cx} {e : Stmt} {t t' : TS} (h : PS X e t) (i : ∀ D σ H, t' D σ H → t D σ H) : PS X e t' := ⟨fun pins s σ H D I q => h.run pins s σ H D I (i D σ H q)⟩
theorem PSs.imp {X : Cx} {e : List Stmt} {t t' : TS} (h : PSs X e t) (i : ∀ D σ H, t' D σ H → t D σ H) : PSs X e t' := ⟨fun pins s σ H D I q => h.run pins s σ H D I (i D σ H q)⟩
theorem PT.imp {X : Cx} {e : Expr} {t t' : TT} (h : PT X e t) (i : ∀ σ H Q, t' σ H Q → t σ H Q) : PT X e t' := ⟨fun pins s σ H Q I q => h.run pins s σ H Q I (i σ H Q q)⟩
theorem PA.imp {X : Cx} {e : List Expr} {t t' : TA} (h : PA X e t) (i : ∀ σ H Q, t' σ H Q → t σ H Q) : PA X e t' := ⟨fun pos pins s σ H Q I q => h.run pos pins s σ H Q I (i σ H Q q)⟩

theorem At.refl {K : PySem.W.Frag} {σ : St} {B : Mset} {H : Hp} {env : Sl} (e : EnvR K B H σ env) : At K σ B H env B H env := ⟨.refl, e, fun _ _ c h => ⟨c, h⟩, fun _ _ c h => ⟨c, h⟩⟩
theorem At.trans {K : PySem.W.Frag} {σ : St} {B B1 B2 : Mset} {H H1 H2 : Hp} {env env1 env2 : Sl} (e : EnvR K B H σ env) (a : At K σ B H env B1 H1 env1) (b : At K σ B1 H1 env1 B2 H2 env2) : At K σ B H env B2 H2 env2 :=
  ⟨a.st.trans b.st e.wb e.dom, b.en, fun i m c h => let ⟨c1, h1⟩ := b.sm i m c h; a.sm i m c1 h1, fun i m c h => let ⟨c1, h1⟩ := a.ks i m c h; b.ks i m c1 h1⟩
theorem At.grow {K : PySem.W.Frag} {σ : St} {B B1 : Mset} {H H1 : Hp} {env env1 : Sl} (e : EnvR K B H σ env) (a : At K σ B H env B1 H1 env1) : Grow B H B1 H1 := a.st.grow e.wb

theorem KvR.grow {K : PySem.W.Frag} {B B' : Mset} {H H' : Hp} (g : Grow B H B' H') {ws : List (Key × V)} {kvs : List (Key × PyData)} (h : KvR K B H ws kvs) : KvR K B' H' ws kvs :=
  Paired.mapP h fun _ _ q => ⟨q.1, q.2.grow g⟩

theorem CtR.keep {K : PySem.W.Frag} {W B W' B' : Mset} {H H' : Hp} {a : Addr} {c : Ct} (h : CtR K B H a c) (s : Stp W B H W' B' H') (wb : ∀ a, W a → B a) (hw : ¬ W a) : CtR K B' H' a c := by
  cases c with
  | ls xs =>
    obtain ⟨vs, h1, h2⟩ := h
    exact ⟨vs, s.keep _ _ h1 (.inl ⟨hw, ntL⟩), h2.grow (s.grow wb)⟩
  | dk kvs =>
    obtain ⟨vs, h1, h2⟩ := h
    exact ⟨vs, s.keep _ _ h1 (.inl ⟨hw, ntK⟩), h2.grow (s.grow wb)⟩
  | tb =>
    refine TbR.hop h (s.grow wb) fun b o hb e => ?_
    rcases hb with rfl | ⟨hb, q, us, rfl⟩
    · obtain ⟨C, dx, af, p, v2, v3, v4, vs, h1, _⟩ := h
      rw [h1] at e
      cases e
      exact s.keep _ _ h1 (.inl ⟨hw, nt_ins⟩)
    · exact s.pa _ _ _ _ hb hw e
  | dn kvs =>
    obtain ⟨vs, h1, h2⟩ := h
    exact ⟨vs, s.keep _ _ h1 (.inl ⟨hw, ntDn⟩), h2.grow (s.grow wb)⟩

theorem RR.later {K : PySem.W.Frag} {H₀ : Hp} {σ : St} {B B1 : Mset} {H H1 : Hp} {env env1 : Sl} {v : V} {d : R} (e : EnvR K B H σ env) (a : At K σ B H env B1 H1 env1) (h : RR K H₀ B H σ env v d) (hd : ∀ i, d ≠ .var i) : RR K H₀ B1 H1 σ env1 v d := by
  cases d with
  | pd x => exact Rp.grow (a.grow e) h
  | nt xs => obtain ⟨p, e1, h1⟩ := h; exact ⟨p, e1, h1.grow (a.grow e)⟩
  | var i => exact absurd rfl (hd i)
  | tmp c =>
    obtain ⟨p, rfl, h0, hb, hc, hn⟩ := h
    have hw : ¬ Wof σ env p := by
      rintro ⟨i, m, c', h1, _, h3⟩
      exact hn i m c' h1 h3
    refine ⟨p, rfl, h0, a.st.old p hb hw, hc.keep a.st e.wb hw, fun i m d h1 h2 => ?_⟩
    obtain ⟨c', h3⟩ := a.sm i m d h1
    exact hn i m c' h3 h2
end T3

end
section
set_option linter.all false
set_option autoImplicit false
set_option Elab.async false
namespace T3
open PySem L2
variable [TabL]

def RA (K : PySem.W.Frag) (H₀ : Hp) (B : Mset) (H : Hp) (σ : St) (env : Sl) (v : V) : R → Prop
  | .pd x => Rp K B H v x
  | .nt xs => ∃ a, v = .ref a ∧ NtR K B H a xs
  | .tmp c => ∃ a, v = .ref a ∧ H₀ a = none ∧ B a ∧ CtR K B H a c ∧ ∀ (i : Nat) m d, env[i]? = some (some (S.mu m d)) → σ[i]? ≠ some (some (V.ref a))
  | .var i => σ[i]? = some (some v)
structure RRA (K : PySem.W.Frag) (H₀ : Hp) (B : Mset) (H : Hp) (σ : St) (env : Sl) (vs : List V) (ds : List R) : Prop where
  len : vs.length = ds.length
  each : ∀ (k : Nat) v d, vs[k]? = some v → ds[k]? = some d → RA K H₀ B H σ env v d
  apart : ∀ (k l : Nat) c c' v, k ≠ l → ds[k]? = some (.tmp c) → ds[l]? = some (.tmp c') → vs[k]? = some v → vs[l]? = some v → False

theorem RR.ra {K : PySem.W.Frag} {H₀ H : Hp} {B : Mset} {σ : St} {env : Sl} {v : V} {d : R} (h : RR K H₀ B H σ env v d) : RA K H₀ B H σ env v d := by
  cases d with
  | pd x => exact h
  | nt x => exact h
  | tmp c => exact h
  | var i => exact h.1
theorem RR.from {K : PySem.W.Frag} {H₀ H₁ H : Hp} {B : Mset} {σ : St} {env : Sl} {v : V} {d : R} (h : RR K H₁ B H σ env v d) (l : ∀ a, H₁ a = none → H₀ a = none) : RR K H₀ B H σ env v d := by
  cases d with
  | pd x => exact h
  | nt x => exact h
  | tmp c => obtain ⟨a, h1, h2, h3⟩ := h; exact ⟨a, h1, l a h2, h3⟩
  | var i => exact h
theorem RA.later {K : PySem.W.Frag} {H₀ : Hp} {σ : St} {B B1 : Mset} {H H1 : Hp} {env env1 : Sl} {v : V} {d : R} (e : EnvR K B H σ env) (a : At K σ B H env B1 H1 env1) (h : RA K H₀ B H σ env v d) : RA K H₀ B1 H1 σ env1 v d := by
  cases d with
  | pd x => exact RR.later (d := .pd x) (H₀ := H₀) e a h (fun _ => nofun)
  | nt x => exact RR.later (d := .nt x) (H₀ := H₀) e a h (fun _ => nofun)
  | var i => exact h
  | tmp c => exact RR.later (d := .tmp c) e a h (fun _ => nofun)

def tA (K : PySem.W.Frag) (f : EA) : TA := fun σ H Q => ∃ B env ds env', EnvR K B H σ env ∧ f env = some (ds, env') ∧
  ∀ B' H' vs, At K σ B H env B' H' env' → RRA K H B' H' σ env' vs ds → Q vs H'
def eNil : EA := fun env => some ([], env)
def eCons (fa : EE) (fr : EA) : EA := fun env => match fa env with
  | none => none
  | some (d, e1) => match fr e1 with
    | none => none
    | some (ds, e2) => some (d :: ds, e2)

theorem rd_cons {K : PySem.W.Frag} {fa : EE} {fr : EA} {σ : St} {H : Hp} {Q : List V → Hp → Prop} (h : tA K (eCons fa fr) σ H Q) : tCons (tE K fa) (tA K fr) σ H Q := by
  obtain ⟨B, env, ds, env', en, ev, q⟩ := h
  unfold eCons at ev
  split at ev
  · cases ev
  rename_i d e1 h1
  split at ev
  · cases ev
  rename_i ds1 e2 h2
  cases ev
  refine ⟨B, env, d, e1, en, h1, fun B1 H1 v a1 r1 => ⟨B1, e1, ds1, _, a1.en, h2, fun B2 H2 vs a2 r2 => q B2 H2 (v :: vs) (a1.trans en a2) ?_⟩⟩
  refine ⟨by simp [r2.len], fun k w d' hv hd => ?_, fun k l c c' w hkl hk hl vk vl => ?_⟩
  · cases k with
    | zero =>
      simp at hv hd
      subst hv hd
      exact (r1.ra).later a1.en a2
    | succ k =>
      have := r2.each k w d' (by simpa using hv) (by simpa using hd)
      cases d' with
      | pd x => exact this
      | nt x => exact this
      | var i => exact this
      | tmp c => obtain ⟨a, e1, e2, e3⟩ := this; exact ⟨a, e1, a1.st.liv a e2, e3⟩
  · have fresh : ∀ (k : Nat) c', ds1[k]? = some (.tmp c') → vs[k]? = some w → ∀ c, d = .tmp c → v = w → False := by
      intro kk c' gk gv c hd hw
      subst hd hw
      obtain ⟨a, rfl, _, ba, _, _⟩ := r1
      obtain ⟨a', e, h0, _⟩ := r2.each kk _ _ gv gk
      cases e
      obtain ⟨o, ho⟩ := a1.en.dom a ba
      rw [ho] at h0
      cases h0
    cases k with
    | zero =>
      cases l with
      | zero => exact hkl rfl
      | succ l => exact fresh l c' (by simpa using hl) (by simpa using vl) c (by simpa using hk) (by simpa using vk)
    | succ k =>
      cases l with
      | zero => exact fresh k c (by simpa using hk) (by simpa using vk) c' (by simpa using hl) (by simpa using vl)
      | succ l => exact r2.apart k l c c' w (by omega) (by simpa using hk) (by simpa using hl) (by simpa using vk) (by simpa using vl)
theorem rd_nil {K : PySem.W.Frag} {σ : St} {H : Hp} {Q : List V → Hp → Prop} (h : tA K eNil σ H Q) : tNil σ H Q := by
  obtain ⟨B, env, ds, env', en, ev, q⟩ := h
  cases ev
  exact q B H [] (.refl en) ⟨rfl, fun k v d h => by simp at h, fun k l c c' v _ h => by simp at h⟩

section
variable {X : Cx} {e : Expr} {es : List Expr} {K : PySem.W.Frag}
theorem a_nil : PA X [] (tA K eNil) := PA.imp pa_nil fun _ _ _ h => rd_nil h
theorem a_cons {fa : EE} {fr : EA} (ha : PE X e (tE K fa)) (hr : PA X es (tA K fr)) (hs : starEach (e :: es) X.env = (false, eval e X.env) :: starEach es X.env := by rfl) : PA X (e :: es) (tA K (eCons fa fr)) :=
  PA.imp (pa_cons ha hr hs) fun _ _ _ h => rd_cons h
end

def eVar (i : Nat) : EE := fun env => match env[i]? with
  | some (some (.pd x)) => some (.pd x, env)
  | some (some (.nt x)) => some (.nt x, env)
  | some (some (.mu _ _)) => some (.var i, env)
  | _ => none
def eC (x : PyData) : EE := fun env => some (.pd x, env)
theorem e_var {X : Cx} {e : Expr} {i : Nat} (h : PE X e (tVar i)) : PE X e (tE X.K (eVar i)) := PE.imp h fun σ H Q t => by
  obtain ⟨B, env, d, env', en, ev, q⟩ := t
  unfold eVar at ev
  split at ev
  · rename_i x hx
    cases ev
    obtain ⟨v, hv, r⟩ := en.pd _ _ hx
    exact ⟨v, hv, q B H v (.refl en) r⟩
  · rename_i x hx
    cases ev
    obtain ⟨a, hv, r⟩ := en.nt _ _ hx
    exact ⟨_, hv, q B H _ (.refl en) ⟨a, rfl, r⟩⟩
  · rename_i m c hx
    cases ev
    obtain ⟨a, hv, _, r⟩ := en.mu _ _ _ hx
    exact ⟨_, hv, q B H _ (.refl en) ⟨hv, _, _, hx⟩⟩
  · cases ev
theorem e_c {X : Cx} {e : Expr} {v : V} {x : PyData} (h : PE X e (tC v)) (r : ∀ B H, Rp X.K B H v x) : PE X e (tE X.K (eC x)) := PE.imp h fun σ H Q t => by
  obtain ⟨B, env, d, env', en, ev, q⟩ := t
  cases ev
  exact q B H v (.refl en) (r B H)

def ctn (env : Sl) : R → Option PyData
  | .pd x => some x
  | .nt xs => some (.tuple xs)
  | .tmp (.ls xs) => some (.list xs)
  | .tmp (.dk _) => none
  | .tmp (.dn _) => none
  | .tmp (.tb ..) => none
  | .var i => match env[i]? with
    | some (some (.mu _ (.ls xs))) => some (.list xs)
    | _ => none
def ctns (env : Sl) : List R → Option (List PyData)
  | [] => some []
  | d :: ds => match ctn env d with
    | none => none
    | some x => match ctns env ds with
      | none => none
      | some xs => some (x :: xs)
inductive Cn (K : PySem.W.Frag) (B : Mset) (H : Hp) : V → PyData → Prop
  | rp {v : V} {x : PyData} : Rp K B H v x → Cn K B H v x
  | ct {a : Addr} {vs : List V} {xs : List PyData} : H a = some (.lst vs) → RpA K B H vs xs → Cn K B H (.ref a) (.list xs)
inductive CnA (K : PySem.W.Frag) (B : Mset) (H : Hp) : List V → List PyData → Prop
  | nil : CnA K B H [] []
  | cons {v : V} {vs : List V} {d : PyData} {ds : List PyData} : Cn K B H v d → CnA K B H vs ds → CnA K B H (v :: vs) (d :: ds)
theorem Cn.of {K : PySem.W.Frag} {H₀ : Hp} {B : Mset} {H : Hp} {σ : St} {env : Sl} {v : V} {d : R} {x : PyData} (en : EnvR K B H σ env) (h : RA K H₀ B H σ env v d) (c : ctn env d = some x) : Cn K B H v x := by
  cases d with
  | pd y => cases c; exact .rp h
  | nt y => cases c; obtain ⟨a, rfl, h⟩ := h; exact .rp h.rp
  | tmp t =>
    cases t with
    | ls xs =>
      cases c
      obtain ⟨a, rfl, _, _, ⟨vs, h1, h2⟩, _⟩ := h
      exact .ct h1 h2
    | dk _ => cases c
    | dn _ => cases c
    | tb => cases c
  | var i =>
    simp only [ctn] at c
    split at c
    · rename_i m xs hx
      cases c
      obtain ⟨a, h1, _, vs, h2, h3⟩ := en.mu _ _ _ hx
      have h : σ[i]? = some (some v) := h
      rw [h] at h1
      cases h1
      exact .ct h2 h3
    · cases c
theorem CnA.of {K : PySem.W.Frag} {H₀ : Hp} {B : Mset} {H : Hp} {σ : St} {env : Sl} (en : EnvR K B H σ env) : ∀ {vs : List V} {ds : List R} {xs : List PyData}, RRA K H₀ B H σ env vs ds → ctns env ds = some xs → CnA K B H vs xs
  | [], [], xs, _, c => by cases c; exact .nil
  | v :: vs, d :: ds, xs, r, c => by
    unfold ctns at c
    split at c
    · cases c
    rename_i x hx
    split at c
    · cases c
    rename_i ys hy
    cases c
    refine .cons (Cn.of en (r.each 0 v d rfl rfl) hx) (CnA.of en ⟨by have := r.len; simpa using this, fun k w e h1 h2 => r.each (k + 1) w e (by simpa using h1) (by simpa using h2), fun k l c c' w h0 h1 h2 h3 h4 => r.apart (k + 1) (l + 1) c c' w (by omega) (by simpa using h1) (by simpa using h2) (by simpa using h3) (by simpa using h4)⟩ hy)
  | [], _ :: _, _, r, _ => by have := r.len; simp at this
  | _ :: _, [], _, r, _ => by have := r.len; simp at this
theorem Cn.dp {K : PySem.W.Frag} {B : Mset} {H : Hp} {v : V} {x : PyData} (h : Cn K B H v x) (l : SeqAt.shaped x = true) : Dp K H v x := by
  have l0 : x.canLay0 = true := by
    unfold SeqAt.shaped at l
    rw [Bool.and_eq_true] at l
    exact l.1
  cases h with
  | rp h => exact h.dp0 l0
  | ct h r => exact .lst (.inl (.inl h)) (r.dp0 (by simpa [PyData.canLay0] using l0))
theorem Cn.list {K : PySem.W.Frag} {B : Mset} {H : Hp} {v : V} {xs : List PyData} (h : Cn K B H v (.list xs)) : ∃ a vs, v = .ref a ∧ SqL K H a vs ∧ RpA K B H vs xs := by
  cases h with
  | rp h =>
    cases h with
    | lst h _ r => exact ⟨_, _, rfl, .inl (.inl h), r⟩
    | frz h r => exact ⟨_, _, rfl, .inl (.inr ⟨_, h⟩), r⟩
    | kls h1 h2 h3 h4 h5 h6 r => exact ⟨_, _, rfl, .inr ⟨_, _, _, h1, h2, h3, h4, h5, h6⟩, r⟩
  | ct h r => exact ⟨_, _, rfl, .inl (.inl h), r⟩
theorem Cn.tuple {K : PySem.W.Frag} {B : Mset} {H : Hp} {v : V} {xs : List PyData} (h : Cn K B H v (.tuple xs)) : ∃ a vs, v = .ref a ∧ SqT K H a vs ∧ RpA K B H vs xs := by
  cases h with
  | rp h =>
    cases h with
    | tup h r => exact ⟨_, _, rfl, h, r⟩
theorem Cn.int {K : PySem.W.Frag} {B : Mset} {H : Hp} {v : V} {i : Int} (h : Cn K B H v (.int i)) : v = .int i := by
  cases h with
  | rp h => cases h; rfl
theorem Cn.str {K : PySem.W.Frag} {B : Mset} {H : Hp} {v : V} {i : Str} (h : Cn K B H v (.str i)) : v = .str i := by
  cases h with
  | rp h => cases h; rfl
theorem Cn.bool {K : PySem.W.Frag} {B : Mset} {H : Hp} {v : V} {i : Bool} (h : Cn K B H v (.bool i)) : v = .bl i := by
  cases h with
  | rp h => cases h; rfl
theorem Cn.none {K : PySem.W.Frag} {B : Mset} {H : Hp} {v : V} (h : Cn K B H v .none) : v = .non := by
  cases h with
  | rp h => cases h; rfl

theorem At.alloc {K : PySem.W.Frag} {σ : St} {B B1 : Mset} {H H1 : Hp} {env env1 : Sl} {p : Addr} (en : EnvR K B H σ env) (a : At K σ B H env B1 H1 env1) (np : H1 p = none) (o : HO) (mt : Prop) (fz : Mset)
    (hf : ∀ q, fz q → H q = none ∧ ∀ (i : Nat) m d, env1[i]? = some (some (S.mu m d)) → σ[i]? ≠ some (some (V.ref q))) (ni : ∀ C dx fs, o ≠ .ins C dx fs := by (intro _ _ _ z; cases z)) :
    Grow B1 H1 (fun q => (B1 q ∧ ¬ fz q) ∨ (mt ∧ q = p)) (upd H1 p o) ∧ At K σ B H env (fun q => (B1 q ∧ ¬ fz q) ∨ (mt ∧ q = p)) (upd H1 p o) env1 := by
  have ne : ∀ {q o'}, H1 q = some o' → q ≠ p := fun {q o'} h e => by rw [e, np] at h; cases h
  have g : Grow B1 H1 (fun q => (B1 q ∧ ¬ fz q) ∨ (mt ∧ q = p)) (upd H1 p o) := ⟨fun q o' h _ => by rw [upd_ne (ne h)]; exact h, fun q h => by
    rcases h with h | h
    · exact .inl h.1
    · rw [h.2]; exact .inr np⟩
  refine ⟨g, ⟨fun q o' h c => ?_, fun q h => ?_, fun q h w => ?_, a.st.sub, fun q h => ?_, fun q p' o' vs h w e => ?_⟩, ⟨a.en.len, fun i x h => ?_, fun i x h => ?_, fun i m c h => ?_, a.en.inj, fun q h => ?_, a.en.tb.on (fun q o' h _ _ => by rw [upd_ne (ne h)]; exact h) g.new (a.en.tb.2.put ni)⟩, a.sm, a.ks⟩
  · have h1 := a.st.keep q o' h c
    rw [upd_ne (ne h1)]; exact h1
  · rcases h with h | h
    · exact a.st.new q h.1
    · rw [h.2]; exact .inr (a.st.liv _ np)
  · refine .inl ⟨a.st.old q h w, fun f => ?_⟩
    obtain ⟨o', ho⟩ := en.dom q h
    rw [(hf q f).1] at ho; cases ho
  · by_cases e : q = p
    · rw [e]; exact a.st.liv _ np
    · rw [upd_ne e] at h; exact a.st.liv _ h
  · have h1 := a.st.pa q p' o' vs h w e
    rw [upd_ne (ne h1)]; exact h1
  · obtain ⟨v, h1, h2⟩ := a.en.pd i x h
    exact ⟨v, h1, h2.grow g⟩
  · obtain ⟨v, h1, h2⟩ := a.en.nt i x h
    exact ⟨v, h1, h2.grow g⟩
  · obtain ⟨q, h1, h2, h3⟩ := a.en.mu i m c h
    refine ⟨q, h1, .inl ⟨h2, fun f => (hf q f).2 i m c h h1⟩, ?_⟩
    exact h3.hop g fun b o' _ e => by rw [upd_ne (ne e)]; exact e
  · rcases h with h | h
    · obtain ⟨o', ho⟩ := a.en.dom q h.1
      exact ⟨o', by rw [upd_ne (ne ho)]; exact ho⟩
    · rw [h.2]; exact ⟨o, upd_same⟩

abbrev KK := List R → Sl → Option (R × Sl)
def eThen (f : EA) (k : KK) : EE := fun env => match f env with
  | none => none
  | some (ds, e1) => k ds e1
def Con (K : PySem.W.Frag) (k : KK) (r : List V → Hp → VK → Prop) : Prop := ∀ σ H B env B1 H1 env1 vs ds d e2 Q, EnvR K B H σ env → At K σ B H env B1 H1 env1 → RRA K H B1 H1 σ env1 vs ds → k ds env1 = some (d, e2) →
  (∀ B' H' v, At K σ B H env B' H' e2 → RR K H B' H' σ e2 v d → Q v H') → r vs H1 Q
theorem rd_then {K : PySem.W.Frag} {f : EA} {k : KK} {r : List V → Hp → VK → Prop} (c : Con K k r) {σ : St} {H : Hp} {Q : VK} (h : tE K (eThen f k) σ H Q) : tA K f σ H (fun vs H1 => r vs H1 Q) := by
  obtain ⟨B, env, d, env', en, ev, q⟩ := h
  unfold eThen at ev
  split at ev
  · cases ev
  rename_i ds e1 h1
  exact ⟨B, env, ds, e1, en, h1, fun B1 H1 vs a1 r1 => c σ H B env B1 H1 e1 vs ds d env' Q en a1 r1 ev q⟩
def l2 (r : R2) : List V → Hp → VK → Prop := fun vs H Q => ∀ x y, vs = [x, y] → r x y H Q
def l1 (r : V → Hp → VK → Prop) : List V → Hp → VK → Prop := fun vs H Q => ∀ x, vs = [x] → r x H Q
def eTwo (fa fb : EE) : EA := eCons fa (eCons fb eNil)
def eOne (fa : EE) : EA := eCons fa eNil
theorem rd_two {K : PySem.W.Frag} {fa fb : EE} {k : KK} {r : R2} (c : Con K k (l2 r)) {σ : St} {H : Hp} {Q : VK} (h : tE K (eThen (eTwo fa fb) k) σ H Q) : tOp r (tE K fa) (tE K fb) σ H Q := by
  have h := rd_cons (rd_then c h)
  obtain ⟨B, env, d, env', en, ev, q⟩ := h
  refine ⟨B, env, d, env', en, ev, fun B1 H1 x a1 r1 => ?_⟩
  have h2 := rd_cons (q B1 H1 x a1 r1)
  obtain ⟨B, env, d, env', en, ev, q⟩ := h2
  refine ⟨B, env, d, env', en, ev, fun B2 H2 y a2 r2 => ?_⟩
  exact rd_nil (q B2 H2 y a2 r2) x y rfl
theorem rd_one {K : PySem.W.Frag} {fa : EE} {k : KK} {r : V → Hp → VK → Prop} (c : Con K k (l1 r)) {σ : St} {H : Hp} {Q : VK} (h : tE K (eThen (eOne fa) k) σ H Q) : tUn r (tE K fa) σ H Q := by
  have h := rd_cons (rd_then c h)
  obtain ⟨B, env, d, env', en, ev, q⟩ := h
  refine ⟨B, env, d, env', en, ev, fun B1 H1 x a1 r1 => ?_⟩
  exact rd_nil (q B1 H1 x a1 r1) x rfl

def kE (o : List PyData → Option PyData) : KK := fun ds env => match ctns env ds with
  | none => none
  | some xs => match o xs with
    | none => none
    | some z => some (.pd z, env)
def OkE (K : PySem.W.Frag) (o : List PyData → Option PyData) (r : List V → Hp → VK → Prop) : Prop := ∀ B H vs xs z Q, CnA K B H vs xs → o xs = some z → (∀ v, Rp K B H v z → Q v H) → r vs H Q
theorem con_E {K : PySem.W.Frag} {o : List PyData → Option PyData} {r : List V → Hp → VK → Prop} (h : OkE K o r) : Con K (kE o) r := by
  intro σ H B env B1 H1 env1 vs ds d e2 Q en a rr hk q
  unfold kE at hk
  split at hk
  · cases hk
  rename_i xs hx
  split at hk
  · cases hk
  rename_i z hz
  cases hk
  exact h B1 H1 vs xs z _ (CnA.of a.en rr hx) hz fun v hv => q B1 H1 v a hv
def kT (o : List PyData → Option (List PyData)) : KK := fun ds env => match ctns env ds with
  | none => none
  | some xs => match o xs with
    | none => none
    | some z => some (.pd (.tuple z), env)
def OkT (K : PySem.W.Frag) (o : List PyData → Option (List PyData)) (r : List V → Hp → VK → Prop) : Prop := ∀ B H vs xs z Q, CnA K B H vs xs → o xs = some z → (∀ v, Rp K B H v (.tuple z) → Q v H) → (∀ ws p, RpA K B H ws z → H p = none → Q (.ref p) (upd H p (.tup ws))) → r vs H Q
theorem con_T {K : PySem.W.Frag} {o : List PyData → Option (List PyData)} {r : List V → Hp → VK → Prop} (h : OkT K o r) : Con K (kT o) r := by
  intro σ H B env B1 H1 env1 vs ds d e2 Q en a rr hk q
  unfold kT at hk
  split at hk
  · cases hk
  rename_i xs hx
  split at hk
  · cases hk
  rename_i z hz
  cases hk
  refine h B1 H1 vs xs z _ (CnA.of a.en rr hx) hz (fun v hv => q B1 H1 v a hv) fun ws p hw np => ?_
  obtain ⟨g, a2⟩ := a.alloc en np (.tup ws) False (fun _ => False) (fun _ f => f.elim)
  exact q _ _ _ a2 (.tup (.inl (.inl upd_same)) (hw.grow g))
def kL (o : List PyData → Option (List PyData)) : KK := fun ds env => match ctns env ds with
  | none => none
  | some xs => match o xs with
    | none => none
    | some z => some (.tmp (.ls z), env)
def OkL (K : PySem.W.Frag) (o : List PyData → Option (List PyData)) (r : List V → Hp → VK → Prop) : Prop := ∀ B H vs xs z Q, CnA K B H vs xs → o xs = some z → (∀ ws p, RpA K B H ws z → H p = none → Q (.ref p) (upd H p (.lst ws))) → r vs H Q
theorem con_L {K : PySem.W.Frag} {o : List PyData → Option (List PyData)} {r : List V → Hp → VK → Prop} (h : OkL K o r) : Con K (kL o) r := by
  intro σ H B env B1 H1 env1 vs ds d e2 Q en a rr hk q
  unfold kL at hk
  split at hk
  · cases hk
  rename_i xs hx
  split at hk
  · cases hk
  rename_i z hz
  cases hk
  refine h B1 H1 vs xs z _ (CnA.of a.en rr hx) hz fun ws p hw np => ?_
  obtain ⟨g, a2⟩ := a.alloc en np (.lst ws) True (fun _ => False) (fun _ f => f.elim)
  refine q _ _ _ a2 ⟨p, rfl, a.st.liv _ np, .inr ⟨trivial, rfl⟩, ⟨ws, upd_same, hw.grow g⟩, fun i m d h1 h2 => ?_⟩
  obtain ⟨b, h3, h4, _⟩ := a.en.mu i m d h1
  rw [h3] at h2
  cases h2
  obtain ⟨o', ho⟩ := a.en.dom _ h4
  rw [np] at ho; cases ho
end T3

end
section
set_option linter.all false
set_option autoImplicit false
set_option Elab.async false
namespace T3
open PySem L2
variable [TabL]

def data1 : R → Option PyData
  | .pd x => some x
  | .nt xs => some (.tuple xs)
  | .tmp c => some (ctD c)
  | .var _ => none
def datas : List R → Option (List PyData)
  | [] => some []
  | d :: ds => match data1 d with
    | none => none
    | some x => match datas ds with
      | none => none
      | some xs => some (x :: xs)
def fzOf (vs : List V) (ds : List R) : Mset := fun q => ∃ (k : Nat) (c : Ct), ds[k]? = some (.tmp c) ∧ vs[k]? = some (.ref q)
theorem RRA.fz {K : PySem.W.Frag} {H₀ : Hp} {B : Mset} {H : Hp} {σ : St} {env : Sl} {vs : List V} {ds : List R} (r : RRA K H₀ B H σ env vs ds) : ∀ q, fzOf vs ds q → H₀ q = none ∧ ∀ (i : Nat) m d, env[i]? = some (some (S.mu m d)) → σ[i]? ≠ some (some (V.ref q)) := by
  rintro q ⟨k, c, h1, h2⟩
  obtain ⟨a, e, h3, _, _, h5⟩ := r.each k _ _ h2 h1
  cases e
  exact ⟨h3, h5⟩
theorem RRA.tail {K : PySem.W.Frag} {H₀ : Hp} {B : Mset} {H : Hp} {σ : St} {env : Sl} {v : V} {d : R} {vs : List V} {ds : List R} (r : RRA K H₀ B H σ env (v :: vs) (d :: ds)) : RRA K H₀ B H σ env vs ds :=
  ⟨by have := r.len; simpa using this, fun k w e h1 h2 => r.each (k + 1) w e (by simpa using h1) (by simpa using h2), fun k l c c' w h0 h1 h2 h3 h4 => r.apart (k + 1) (l + 1) c c' w (by omega) (by simpa using h1) (by simpa using h2) (by simpa using h3) (by simpa using h4)⟩
theorem RRA.data {K : PySem.W.Frag} {H₀ : Hp} {B B' : Mset} {H H' : Hp} {σ : St} {env : Sl} (g : Grow B H B' H') (hk : ∀ a o, H a = some o → H' a = some o) : ∀ {vs : List V} {ds : List R} {xs : List PyData}, RRA K H₀ B H σ env vs ds → (∀ q, fzOf vs ds q → ¬ B' q) → datas ds = some xs → RpA K B' H' vs xs
  | [], [], xs, _, _, c => by cases c; exact .nil
  | v :: vs, d :: ds, xs, r, nb, c => by
    unfold datas at c
    split at c
    · cases c
    rename_i x hx
    split at c
    · cases c
    rename_i ys hy
    cases c
    refine .cons ?_ (RRA.data g hk r.tail (fun q ⟨k, c, h1, h2⟩ => nb q ⟨k + 1, c, by simpa using h1, by simpa using h2⟩) hy)
    have h := r.each 0 v d rfl rfl
    cases d with
    | pd y => cases hx; exact Rp.grow g h
    | nt y => cases hx; obtain ⟨a, rfl, h⟩ := h; exact h.rp.grow g
    | var i => cases hx
    | tmp t =>
      cases hx
      obtain ⟨a, rfl, _, _, hc, _⟩ := h
      refine CtR.rp ?_ (nb a ⟨0, _, rfl, rfl⟩)
      exact hc.hop g (fun b o _ e => hk b o e)
  | [], _ :: _, _, r, _, _ => by have := r.len; simp at this
  | _ :: _, [], _, r, _, _ => by have := r.len; simp at this
theorem datas_len : ∀ {ds : List R} {xs : List PyData}, datas ds = some xs → xs.length = ds.length
  | [], xs, c => by cases c; rfl
  | d :: ds, xs, c => by
    unfold datas at c
    split at c
    · cases c
    split at c
    · cases c
    rename_i h
    cases c
    simp [datas_len h]
def kTup : KK := fun ds env => match datas ds with
  | none => none
  | some xs => if xs.length ≤ 1000 then some (.pd (.tuple xs), env) else none
def kLst : KK := fun ds env => match datas ds with
  | none => none
  | some xs => if xs.length ≤ 1000 then some (.tmp (.ls xs), env) else none
theorem keep_upd {H : Hp} {p : Addr} {o : HO} (np : H p = none) : ∀ a o', H a = some o' → upd H p o a = some o' := fun a o' h => by
  rw [upd_ne (fun e => by rw [e, np] at h; cases h)]; exact h
theorem con_tup {K : PySem.W.Frag} : Con K kTup (fun xs H1 Q => xs.length ≤ sizeLine ∧ ∀ p, H1 p = none → Q (.ref p) (upd H1 p (.tup xs))) := by
  intro σ H B env B1 H1 env1 vs ds d e2 Q en a rr hk q
  unfold kTup at hk
  split at hk
  · cases hk
  rename_i xs hx
  split at hk
  · rename_i hl
    cases hk
    refine ⟨by rw [rr.len, ← datas_len hx]; exact Nat.le_of_lt (small1000 hl), fun p np => ?_⟩
    obtain ⟨g, a2⟩ := a.alloc en np (.tup vs) False (fzOf vs ds) rr.fz
    exact q _ _ _ a2 (.tup (.inl (.inl upd_same)) (rr.data g (keep_upd np) (fun q f h => h.elim (fun h => h.2 f) (fun h => h.1)) hx))
  · cases hk
theorem con_lst {K : PySem.W.Frag} : Con K kLst (fun xs H1 Q => xs.length ≤ sizeLine ∧ ∀ p, H1 p = none → Q (.ref p) (upd H1 p (.lst xs))) := by
  intro σ H B env B1 H1 env1 vs ds d e2 Q en a rr hk q
  unfold kLst at hk
  split at hk
  · cases hk
  rename_i xs hx
  split at hk
  · rename_i hl
    cases hk
    refine ⟨by rw [rr.len, ← datas_len hx]; exact Nat.le_of_lt (small1000 hl), fun p np => ?_⟩
    obtain ⟨g, a2⟩ := a.alloc en np (.lst vs) True (fzOf vs ds) rr.fz
    have nfp : ∀ q, fzOf vs ds q → q ≠ p := by
      rintro q ⟨k, c, h1, h2⟩ e
      obtain ⟨b, e2, _, h4, _⟩ := rr.each k _ _ h2 h1
      cases e2
      obtain ⟨o, ho⟩ := a.en.dom _ h4
      rw [e, np] at ho; cases ho
    refine q _ _ _ a2 ⟨p, rfl, a.st.liv _ np, .inr ⟨trivial, rfl⟩, ⟨vs, upd_same, rr.data g (keep_upd np) (fun q f h => h.elim (fun h => h.2 f) (fun h => nfp q f h.2)) hx⟩, fun i m d h1 h2 => ?_⟩
    obtain ⟨b, h3, h4, _⟩ := a.en.mu i m d h1
    rw [h3] at h2
    cases h2
    obtain ⟨o', ho⟩ := a.en.dom _ h4
    rw [np] at ho; cases ho
  · cases hk
section
variable {X : Cx} {e : Expr} {es : List Expr} {pos : Pos} {f : EA} {fa fb : EE}
theorem e_tup {k : Nat} (h : PA X es (tA X.K f)) : PE X (.Tuple es k pos) (tE X.K (eThen f kTup)) := PE.imp (pe_tup h) fun _ _ _ t => rd_then con_tup t
theorem e_lst (h : PA X es (tA X.K f)) : PE X (.List es pos) (tE X.K (eThen f kLst)) := PE.imp (pe_lst h) fun _ _ _ t => rd_then con_lst t
theorem e_op {a b : Expr} {op : Operator} {r : R2} {k : KK} (ho : OpR X (binaryOp op) r) (c : Con X.K k (l2 r)) (ha : PE X a (tE X.K fa)) (hb : PE X b (tE X.K fb)) : PE X (.BinOp a op b pos) (tE X.K (eThen (eTwo fa fb) k)) :=
  PE.imp (pe_op ho ha hb) fun _ _ _ t => rd_two c t
theorem e_un {a : Expr} {op : UnaryOp} {r : V → Hp → VK → Prop} {k : KK} (ho : UnR X (unaryOp op) r) (c : Con X.K k (l1 r)) (ha : PE X a (tE X.K fa)) : PE X (.UnaryOp op a pos) (tE X.K (eThen (eOne fa) k)) :=
  PE.imp (pe_un ho ha) fun _ _ _ t => rd_one c t
theorem e_cmp {a b : Expr} {op : CmpOp} {r : R2} {k : KK} (ho : OpR X (compareOp op) r) (c : Con X.K k (l2 r)) (ha : PE X a (tE X.K fa)) (hb : PE X b (tE X.K fb)) (hm : behindInMarks op b = false := by rfl) : PE X (.Compare a [op] [b] pos) (tE X.K (eThen (eTwo fa fb) k)) :=
  PE.imp (pe_cmpR ho ha hb hm) fun _ _ _ t => rd_two c t
theorem e_ix {a b : Expr} {r : R2} {k : KK} (ho : IxR X r) (c : Con X.K k (l2 r)) (ha : PE X a (tE X.K fa)) (hb : PE X b (tE X.K fb)) (hs : PlainIx b := by exact fun _ _ => rfl) : PE X (.Subscript a b pos) (tE X.K (eThen (eTwo fa fb) k)) :=
  PE.imp (pe_ix ho ha hb hs) fun _ _ _ t => rd_two c t
theorem e_callB {id : String} {x : Str} {p : Pos} {r : List V → Hp → VK → Prop} {k : KK} (hc : CallR X (.builtin id) r) (c : Con X.K k r) (hg : Gl X x) (hm : X.mg x = none) (hv : bootBuiltins x = some (.builtin id)) (ha : PA X (e :: es) (tA X.K f)) (hn : x ≠ "__name__" := by decide) (hdb : (x == ("__debug__" : Str)) = false := by decide) (he : starEach (e :: es) X.env = (false, eval e X.env) :: starEach es X.env := by rfl) (hpl : (backTo pos (starEach es X.env)).any (·.1) = false := by rfl) :
    PE X (.Call (.Name x p) (e :: es) [] pos) (tE X.K (eThen f k)) :=
  PE.imp (pe_callB hc hg hm hv ha hn hdb he hpl) fun _ _ _ t => rd_then c t
theorem e_callTy {T : String} {x : Str} {p : Pos} {r : List V → Hp → VK → Prop} {k : KK} (hc : CallR X (.type T) r) (c : Con X.K k r) (hg : Gl X x) (hm : X.mg x = none) (hv : bootBuiltins x = some (.type T)) (ha : PA X (e :: es) (tA X.K f)) (hn : x ≠ "__name__" := by decide) (hdb : (x == ("__debug__" : Str)) = false := by decide) (he : starEach (e :: es) X.env = (false, eval e X.env) :: starEach es X.env := by rfl) (hpl : (backTo pos (starEach es X.env)).any (·.1) = false := by rfl) :
    PE X (.Call (.Name x p) (e :: es) [] pos) (tE X.K (eThen f k)) :=
  PE.imp (pe_callTy hc hg hm hv ha hn hdb he hpl) fun _ _ _ t => rd_then c t
end

abbrev EB := Sl → Option (Bool × Sl)
def tT (K : PySem.W.Frag) (f : EB) : TT := fun σ H Q => ∃ B env b env', EnvR K B H σ env ∧ f env = some (b, env') ∧ ∀ B' H', At K σ B H env B' H' env' → Q b H'
def bT (f : EE) : EB := fun env => match f env with
  | some (.pd (.bool b), e) => some (b, e)
  | _ => none
theorem rd_test {K : PySem.W.Frag} {f : EE} {σ : St} {H : Hp} {Q : Bool → Hp → Prop} (h : tT K (bT f) σ H Q) : tTest (tE K f) σ H Q := by
  obtain ⟨B, env, b, env', en, ev, q⟩ := h
  unfold bT at ev
  split at ev
  · rename_i b' e' h1
    cases ev
    refine ⟨B, env, _, env', en, h1, fun B' H' v a r => ?_⟩
    have r : Rp K B' H' v (.bool b) := r
    cases r
    exact ⟨_, rfl, q _ _ a⟩
  · cases ev
def bAnd (f g : EB) : EB := fun env => match f env with
  | none => none
  | some (b, e) => if b = true then g e else some (false, e)
def bOr (f g : EB) : EB := fun env => match f env with
  | none => none
  | some (b, e) => if b = true then some (true, e) else g e
def bNot (f : EB) : EB := fun env => match f env with
  | none => none
  | some (b, e) => some (!b, e)
theorem tT.later {K : PySem.W.Frag} {f : EB} {σ : St} {H : Hp} {Q : Bool → Hp → Prop} {B B1 : Mset} {H1 : Hp} {env e1 env' : Sl} {b : Bool} (en : EnvR K B H σ env) (a1 : At K σ B H env B1 H1 e1) (ev : f e1 = some (b, env')) (q : ∀ B' H', At K σ B H env B' H' env' → Q b H') : tT K f σ H1 Q :=
  ⟨B1, e1, b, env', a1.en, ev, fun B2 H2 a2 => q B2 H2 (a1.trans en a2)⟩
theorem rd_and {K : PySem.W.Frag} {f g : EB} {σ : St} {H : Hp} {Q : Bool → Hp → Prop} (h : tT K (bAnd f g) σ H Q) : tAnd (tT K f) (tT K g) σ H Q := by
  obtain ⟨B, env, b, env', en, ev, q⟩ := h
  unfold bAnd at ev
  split at ev
  · cases ev
  rename_i b1 e1 h1
  refine ⟨B, env, b1, e1, en, h1, fun B1 H1 a1 => ?_⟩
  cases b1 with
  | true => simp at ev ⊢; exact tT.later en a1 ev q
  | false => simp at ev ⊢; obtain ⟨rfl, rfl⟩ := ev; exact q _ _ a1
theorem rd_or {K : PySem.W.Frag} {f g : EB} {σ : St} {H : Hp} {Q : Bool → Hp → Prop} (h : tT K (bOr f g) σ H Q) : tOr (tT K f) (tT K g) σ H Q := by
  obtain ⟨B, env, b, env', en, ev, q⟩ := h
  unfold bOr at ev
  split at ev
  · cases ev
  rename_i b1 e1 h1
  refine ⟨B, env, b1, e1, en, h1, fun B1 H1 a1 => ?_⟩
  cases b1 with
  | false => simp at ev ⊢; exact tT.later en a1 ev q
  | true => simp at ev ⊢; obtain ⟨rfl, rfl⟩ := ev; exact q _ _ a1
theorem rd_not {K : PySem.W.Frag} {f : EB} {σ : St} {H : Hp} {Q : Bool → Hp → Prop} (h : tT K (bNot f) σ H Q) : tNot (tT K f) σ H Q := by
  obtain ⟨B, env, b, env', en, ev, q⟩ := h
  unfold bNot at ev
  split at ev
  · cases ev
  rename_i b1 e1 h1
  cases ev
  exact ⟨B, env, b1, env', en, h1, fun B1 H1 a1 => q _ _ a1⟩
def eB (f : EB) : EE := fun env => match f env with
  | none => none
  | some (b, e) => some (.pd (.bool b), e)
theorem rd_eT {K : PySem.W.Frag} {f : EE} {σ : St} {H : Hp} {Q : VK} (h : tE K (eB (bT f)) σ H Q) : tE K f σ H Q := by
  obtain ⟨B, env, d, env', en, ev, q⟩ := h
  unfold eB bT at ev
  split at ev
  · cases ev
  rename_i b e1 h1
  cases ev
  split at h1
  · rename_i h2
    cases h1
    exact ⟨B, env, _, _, en, h2, q⟩
  · cases h1
theorem rd_andV {K : PySem.W.Frag} {f g : EB} {σ : St} {H : Hp} {Q : VK} (h : tE K (eB (bAnd f g)) σ H Q) : tAndV (tE K (eB f)) (tE K (eB g)) σ H Q := by
  obtain ⟨B, env, d, env', en, ev, q⟩ := h
  unfold eB bAnd at ev
  split at ev
  · cases ev
  rename_i b0 e0 h0
  cases ev
  split at h0
  · cases h0
  rename_i b1 e1 h1
  refine ⟨B, env, .pd (.bool b1), e1, en, by unfold eB; rw [h1], fun B1 H1 v a1 r1 => ?_⟩
  have r1 : Rp K B1 H1 v (.bool b1) := r1
  cases r1
  refine ⟨b1, rfl, ?_⟩
  cases b1 with
  | true => simp at h0 ⊢; exact ⟨B1, e1, _, _, a1.en, by unfold eB; rw [h0], fun B2 H2 v a2 r2 => q B2 H2 v (a1.trans en a2) (RR.from (H₁ := H1) r2 a1.st.liv)⟩
  | false => simp at h0 ⊢; obtain ⟨rfl, rfl⟩ := h0; exact q _ _ _ a1 (.bl _)
theorem rd_notV {K : PySem.W.Frag} {f : EB} {σ : St} {H : Hp} {Q : VK} (h : tE K (eB (bNot f)) σ H Q) : tNotV (tE K (eB f)) σ H Q := by
  obtain ⟨B, env, d, env', en, ev, q⟩ := h
  unfold eB bNot at ev
  split at ev
  · cases ev
  rename_i b0 e0 h0
  cases ev
  split at h0
  · cases h0
  rename_i b1 e1 h1
  cases h0
  refine ⟨B, env, .pd (.bool b1), _, en, by unfold eB; rw [h1], fun B1 H1 v a1 r1 => ?_⟩
  have r1 : Rp K B1 H1 v (.bool b1) := r1
  cases r1
  exact ⟨b1, rfl, q _ _ _ a1 (.bl _)⟩
def eIf (c : EB) (f g : EE) : EE := fun env => match c env with
  | none => none
  | some (b, e) => if b = true then f e else g e
theorem tE.later {K : PySem.W.Frag} {f : EE} {σ : St} {H : Hp} {Q : VK} {B B1 : Mset} {H1 : Hp} {env e1 env' : Sl} {d : R} (en : EnvR K B H σ env) (a1 : At K σ B H env B1 H1 e1) (ev : f e1 = some (d, env')) (q : ∀ B' H' v, At K σ B H env B' H' env' → RR K H B' H' σ env' v d → Q v H') : tE K f σ H1 Q :=
  ⟨B1, e1, d, env', a1.en, ev, fun B2 H2 v a2 r2 => q B2 H2 v (a1.trans en a2) (r2.from a1.st.liv)⟩
theorem rd_if {K : PySem.W.Frag} {c : EB} {f g : EE} {σ : St} {H : Hp} {Q : VK} (h : tE K (eIf c f g) σ H Q) : tIf (tT K c) (tE K f) (tE K g) σ H Q := by
  obtain ⟨B, env, d, env', en, ev, q⟩ := h
  unfold eIf at ev
  split at ev
  · cases ev
  rename_i b1 e1 h1
  refine ⟨B, env, b1, e1, en, h1, fun B1 H1 a1 => ?_⟩
  cases b1 with
  | true => simp at ev ⊢; exact tE.later en a1 ev q
  | false => simp at ev ⊢; exact tE.later en a1 ev q
section
variable {X : Cx} {a b c : Expr} {rest : List Expr} {pos : Pos} {f g : EB} {fa fb fc : EE}
theorem b_of {t : TE} (h : PT X a (tTest t)) (i : ∀ σ H Q, tE X.K fa σ H Q → t σ H Q) : PT X a (tT X.K (bT fa)) := PT.imp h fun σ H Q q => i _ _ _ (rd_test q)
theorem b_cmp {op : CmpOp} {r : R2} {k : KK} (ho : OpR X (compareOp op) r) (cn : Con X.K k (l2 r)) (ha : PE X a (tE X.K fa)) (hb : PE X b (tE X.K fb)) (hm : behindInMarks op b = false := by rfl) : PT X (.Compare a [op] [b] pos) (tT X.K (bT (eThen (eTwo fa fb) k))) :=
  b_of (pt_cmpR ho ha hb hm) fun _ _ _ t => rd_two cn t
theorem b_and1 (ha : PT X a (tT X.K f)) : PW X (.BoolOp .And [a] pos) (tT X.K f) := pw_and1 ha
theorem b_or1 (ha : PT X a (tT X.K f)) : PW X (.BoolOp .Or [a] pos) (tT X.K f) := pw_or1 ha
theorem PW.imp {e : Expr} {t t' : TT} (h : PW X e t) (i : ∀ σ H Q, t' σ H Q → t σ H Q) : PW X e t' := ⟨fun w pins s σ H Q I q => h.run w pins s σ H Q I (i σ H Q q)⟩
theorem b_and (ha : PT X a (tT X.K f)) (hb : PW X (.BoolOp .And (b :: rest) pos) (tT X.K g)) : PW X (.BoolOp .And (a :: b :: rest) pos) (tT X.K (bAnd f g)) := PW.imp (pw_and ha hb) fun _ _ _ t => rd_and t
theorem b_or (ha : PT X a (tT X.K f)) (hb : PW X (.BoolOp .Or (b :: rest) pos) (tT X.K g)) : PW X (.BoolOp .Or (a :: b :: rest) pos) (tT X.K (bOr f g)) := PW.imp (pw_or ha hb) fun _ _ _ t => rd_or t
theorem b_not (ha : PT X a (tT X.K f)) : PT X (.UnaryOp .Not a pos) (tT X.K (bNot f)) := PT.imp (pt_not ha) fun _ _ _ t => rd_not t
theorem e_and1 {op} (ha : PE X a (tE X.K fa)) : PE X (.BoolOp op [a] pos) (tE X.K (eB (bT fa))) := PE.imp (pe_one ha) fun _ _ _ t => rd_eT t
theorem e_bool (ha : PE X a (tE X.K fa)) : PE X a (tE X.K (eB (bT fa))) := PE.imp ha fun _ _ _ t => rd_eT t
theorem e_and (ha : PE X a (tE X.K (eB f))) (hb : PE X (.BoolOp .And (b :: rest) pos) (tE X.K (eB g))) : PE X (.BoolOp .And (a :: b :: rest) pos) (tE X.K (eB (bAnd f g))) := PE.imp (pe_and ha hb) fun _ _ _ t => rd_andV t
theorem e_not (ha : PE X a (tE X.K (eB f))) : PE X (.UnaryOp .Not a pos) (tE X.K (eB (bNot f))) := PE.imp (pe_not ha) fun _ _ _ t => rd_notV t
theorem e_if (hc : PT X c (tT X.K f)) (ha : PE X a (tE X.K fa)) (hb : PE X b (tE X.K fb)) : PE X (.IfExp c a b pos) (tE X.K (eIf f fa fb)) := PE.imp (pe_ifExp hc ha hb) fun _ _ _ t => rd_if t
end
end T3

end
section
set_option linter.all false
set_option autoImplicit false
set_option Elab.async false
namespace T3
open PySem L2
variable [TabL]

inductive Fl where | nx | bk | ct | rt (d : R)
abbrev SS := Sl → Option (Fl × Sl)
def Bor (σ : St) (env : Sl) (σ' : St) (env' : Sl) : Prop := ∀ (i : Nat) m c, env[i]? = some (some (S.mu m c)) → m ≠ .own → σ'[i]? = σ[i]? ∧ ∃ c', env'[i]? = some (some (S.mu m c'))
structure AtS (K : PySem.W.Frag) (σ : St) (B : Mset) (H : Hp) (env : Sl) (σ' : St) (B' : Mset) (H' : Hp) (env' : Sl) : Prop where
  st : Stp (Wof σ env) B H (Wof σ' env') B' H'
  en : EnvR K B' H' σ' env'
  bo : Bor σ env σ' env'
theorem Bor.refl {σ : St} {env : Sl} : Bor σ env σ env := fun i m c h _ => ⟨rfl, c, h⟩
theorem Bor.trans {σ σ1 σ2 : St} {env env1 env2 : Sl} (a : Bor σ env σ1 env1) (b : Bor σ1 env1 σ2 env2) : Bor σ env σ2 env2 := fun i m c h hm => by
  obtain ⟨h1, c1, h2⟩ := a i m c h hm
  obtain ⟨h3, h4⟩ := b i m c1 h2 hm
  exact ⟨h3.trans h1, h4⟩
theorem AtS.refl {K : PySem.W.Frag} {σ : St} {B : Mset} {H : Hp} {env : Sl} (e : EnvR K B H σ env) : AtS K σ B H env σ B H env := ⟨.refl, e, .refl⟩
theorem AtS.trans {K : PySem.W.Frag} {σ σ1 σ2 : St} {B B1 B2 : Mset} {H H1 H2 : Hp} {env env1 env2 : Sl} (e : EnvR K B H σ env) (a : AtS K σ B H env σ1 B1 H1 env1) (b : AtS K σ1 B1 H1 env1 σ2 B2 H2 env2) : AtS K σ B H env σ2 B2 H2 env2 :=
  ⟨a.st.trans b.st e.wb e.dom, b.en, a.bo.trans b.bo⟩
def Fin (K : PySem.W.Frag) (D : Ends) (H : Hp) (fl : Fl) (B' : Mset) (σ' : St) (H' : Hp) (env' : Sl) : Prop := match fl with
  | .nx => D.nx σ' H'
  | .bk => D.bk σ' H'
  | .ct => D.ct σ' H'
  | .rt d => ∀ v, RR K H B' H' σ' env' v d → D.rt v H'
def tS (K : PySem.W.Frag) (f : SS) : TS := fun D σ H => ∃ B env fl env', EnvR K B H σ env ∧ f env = some (fl, env') ∧ ∀ B' σ' H', AtS K σ B H env σ' B' H' env' → Fin K D H fl B' σ' H' env'
def sPass : SS := fun env => some (.nx, env)
def sSeq (f g : SS) : SS := fun env => match f env with
  | none => none
  | some (.nx, e1) => g e1
  | some (fl, e1) => some (fl, e1)
theorem tS.later {K : PySem.W.Frag} {f : SS} {D : Ends} {σ σ1 : St} {H H1 : Hp} {B B1 : Mset} {env e1 env' : Sl} {fl : Fl} (en : EnvR K B H σ env) (a1 : AtS K σ B H env σ1 B1 H1 e1) (ev : f e1 = some (fl, env')) (q : ∀ B' σ' H', AtS K σ B H env σ' B' H' env' → Fin K D H fl B' σ' H' env') : tS K f D σ1 H1 := by
  refine ⟨B1, e1, fl, env', a1.en, ev, fun B2 σ2 H2 a2 => ?_⟩
  have h := q B2 σ2 H2 (a1.trans en a2)
  cases fl with
  | nx => exact h
  | bk => exact h
  | ct => exact h
  | rt d => exact fun v r => h v (r.from a1.st.liv)
theorem rd_seq {K : PySem.W.Frag} {f g : SS} {D : Ends} {σ : St} {H : Hp} (h : tS K (sSeq f g) D σ H) : tSeq (tS K f) (tS K g) D σ H := by
  obtain ⟨B, env, fl, env', en, ev, q⟩ := h
  unfold sSeq at ev
  split at ev
  · cases ev
  · rename_i e1 h1
    exact ⟨B, env, .nx, e1, en, h1, fun B1 σ1 H1 a1 => tS.later en a1 ev q⟩
  · rename_i fl1 e1 hn h1
    cases ev
    refine ⟨B, env, fl, env', en, h1, fun B1 σ1 H1 a1 => ?_⟩
    have h := q B1 σ1 H1 a1
    cases fl with
    | nx => exact (hn rfl).elim
    | bk => exact h
    | ct => exact h
    | rt d => exact h
theorem rd_pass {K : PySem.W.Frag} {D : Ends} {σ : St} {H : Hp} (h : tS K sPass D σ H) : tNext D σ H := by
  obtain ⟨B, env, fl, env', en, ev, q⟩ := h
  cases ev
  exact q B σ H (.refl en)
theorem At.s {K : PySem.W.Frag} {σ : St} {B B1 : Mset} {H H1 : Hp} {env env1 : Sl} (a : At K σ B H env B1 H1 env1) : AtS K σ B H env σ B1 H1 env1 :=
  ⟨a.st, a.en, fun i m c h _ => ⟨rfl, a.ks i m c h⟩⟩
def sIf (c : EB) (f g : SS) : SS := fun env => match c env with
  | none => none
  | some (b, e) => if b = true then f e else g e
theorem rd_ifS {K : PySem.W.Frag} {c : EB} {f g : SS} {D : Ends} {σ : St} {H : Hp} (h : tS K (sIf c f g) D σ H) : tIfS (tT K c) (tS K f) (tS K g) D σ H := by
  obtain ⟨B, env, fl, env', en, ev, q⟩ := h
  unfold sIf at ev
  split at ev
  · cases ev
  rename_i b1 e1 h1
  refine ⟨B, env, b1, e1, en, h1, fun B1 H1 a1 => ?_⟩
  cases b1 with
  | true => simp at ev ⊢; exact tS.later en a1.s ev q
  | false => simp at ev ⊢; exact tS.later en a1.s ev q
def sRet (f : EE) : SS := fun env => match f env with
  | none => none
  | some (d, e) => some (.rt d, e)
theorem rd_ret {K : PySem.W.Frag} {f : EE} {D : Ends} {σ : St} {H : Hp} (h : tS K (sRet f) D σ H) : tRet (tE K f) D σ H := by
  obtain ⟨B, env, fl, env', en, ev, q⟩ := h
  unfold sRet at ev
  split at ev
  · cases ev
  rename_i d e1 h1
  cases ev
  exact ⟨B, env, d, _, en, h1, fun B1 H1 v a1 r1 => q B1 σ H1 a1.s v r1⟩
def sExpr (f : EE) : SS := fun env => match f env with
  | none => none
  | some (_, e) => some (.nx, e)
theorem rd_expr {K : PySem.W.Frag} {f : EE} {D : Ends} {σ : St} {H : Hp} (h : tS K (sExpr f) D σ H) : tDrop (tE K f) D σ H := by
  obtain ⟨B, env, fl, env', en, ev, q⟩ := h
  unfold sExpr at ev
  split at ev
  · cases ev
  rename_i d e1 h1
  cases ev
  exact ⟨B, env, d, _, en, h1, fun B1 H1 v a1 r1 => q B1 σ H1 a1.s⟩
def sNever : SS := fun _ => none
theorem rd_never {K : PySem.W.Frag} {D : Ends} {σ : St} {H : Hp} (h : tS K sNever D σ H) : tNever D σ H := by
  obtain ⟨B, env, fl, env', en, ev, q⟩ := h
  cases ev

def free (env : Sl) (i : Nat) : Bool := match env[i]? with
  | some (some (.mu .own _)) => true
  | some (some (.pd _)) => true
  | some (some (.nt _)) => true
  | some none => true
  | _ => false
def setR (i : Nat) (d : R) (env : Sl) : Option Sl := if free env i = true then match d with
    | .pd x => some (env.set i (some (.pd x)))
    | .nt x => some (env.set i (some (.nt x)))
    | .tmp c => some (env.set i (some (.mu .own c)))
    | .var _ => none
  else none
theorem free_ne {env : Sl} {i : Nat} (h : free env i = true) : i < env.length ∧ ∀ m c, env[i]? = some (some (S.mu m c)) → m = .own := by
  unfold free at h
  split at h
  · rename_i h1; refine ⟨(List.getElem?_eq_some_iff.mp h1).1, fun m c e => ?_⟩; rw [h1] at e; cases e; rfl
  · rename_i h1; refine ⟨(List.getElem?_eq_some_iff.mp h1).1, fun m c e => ?_⟩; rw [h1] at e; cases e
  · rename_i h1; refine ⟨(List.getElem?_eq_some_iff.mp h1).1, fun m c e => ?_⟩; rw [h1] at e; cases e
  · rename_i h1; refine ⟨(List.getElem?_eq_some_iff.mp h1).1, fun m c e => ?_⟩; rw [h1] at e; cases e
  · cases h
theorem get_set {α : Type} {l : List α} {i j : Nat} {x y : α} (h : (l.set i x)[j]? = some y) : (i = j ∧ y = x) ∨ (i ≠ j ∧ l[j]? = some y) := by
  by_cases e : i = j
  · subst e
    by_cases hl : i < l.length
    · rw [List.getElem?_set_self hl] at h; cases h; exact .inl ⟨rfl, rfl⟩
    · rw [List.getElem?_eq_none (by simpa using hl)] at h; cases h
  · rw [List.getElem?_set_ne e] at h; exact .inr ⟨e, h⟩
theorem AtS.set {K : PySem.W.Frag} {σ₀ σ : St} {B B1 : Mset} {H H1 : Hp} {env e1 e2 : Sl} {i : Nat} {v : V} {d : R} (en : EnvR K B H σ₀ env) (a : AtS K σ₀ B H env σ B1 H1 e1) (r : RA K H B1 H1 σ e1 v d) (hs : setR i d e1 = some e2) : AtS K σ₀ B H env (σ.set i (some v)) B1 H1 e2 := by
  unfold setR at hs
  split at hs
  · rename_i hf
    obtain ⟨hi, hm⟩ := free_ne hf
    have hiσ : i < σ.length := by rw [← a.en.len]; exact hi
    have bor : ∀ x, Bor σ₀ env (σ.set i (some v)) (e1.set i x) := fun x j m c h hn => by
      obtain ⟨h1, c', h2⟩ := a.bo j m c h hn
      have hj : i ≠ j := fun z => by subst z; exact hn (hm _ _ h2)
      exact ⟨by rw [List.getElem?_set_ne hj]; exact h1, c', by rw [List.getElem?_set_ne hj]; exact h2⟩
    cases d with
    | var _ => cases hs
    | pd x =>
      cases hs
      have wsub : ∀ q, Wof (σ.set i (some v)) (e1.set i (some (.pd x))) q → Wof σ e1 q := by
        rintro q ⟨j, m, c, h1, h2, h3⟩
        rcases get_set h1 with ⟨e, e'⟩ | ⟨e, h1⟩
        · cases e'
        · rw [List.getElem?_set_ne e] at h3; exact ⟨j, m, c, h1, h2, h3⟩
      refine ⟨⟨a.st.keep, a.st.new, a.st.old, fun q w => a.st.sub q (wsub q w), a.st.liv, a.st.pa⟩, ⟨by simp [a.en.len], fun j y h => ?_, fun j y h => ?_, fun j m c h => ?_, fun j k m n c c' q h1 h2 h3 h4 => ?_, a.en.dom, a.en.tb⟩, bor _⟩
      · rcases get_set h with ⟨e, e'⟩ | ⟨e, h⟩
        · cases e'; subst e; exact ⟨v, by rw [List.getElem?_set_self hiσ], r⟩
        · obtain ⟨w, h1, h2⟩ := a.en.pd j y h
          exact ⟨w, by rw [List.getElem?_set_ne e]; exact h1, h2⟩
      · rcases get_set h with ⟨e, e'⟩ | ⟨e, h⟩
        · cases e'
        · obtain ⟨w, h1, h2⟩ := a.en.nt j y h
          exact ⟨w, by rw [List.getElem?_set_ne e]; exact h1, h2⟩
      · rcases get_set h with ⟨e, e'⟩ | ⟨e, h⟩
        · cases e'
        · obtain ⟨w, h1, h2⟩ := a.en.mu j m c h
          exact ⟨w, by rw [List.getElem?_set_ne e]; exact h1, h2⟩
      · rcases get_set h1 with ⟨e, e'⟩ | ⟨e, h1⟩
        · cases e'
        rcases get_set h2 with ⟨f, e'⟩ | ⟨f, h2⟩
        · cases e'
        rw [List.getElem?_set_ne e] at h3
        rw [List.getElem?_set_ne f] at h4
        exact a.en.inj j k m n c c' q h1 h2 h3 h4
    | nt x =>
      cases hs
      obtain ⟨p, rfl, r⟩ := r
      have wsub : ∀ q, Wof (σ.set i (some (.ref p))) (e1.set i (some (.nt x))) q → Wof σ e1 q := by
        rintro q ⟨j, m, c, h1, h2, h3⟩
        rcases get_set h1 with ⟨e, e'⟩ | ⟨e, h1⟩
        · cases e'
        · rw [List.getElem?_set_ne e] at h3; exact ⟨j, m, c, h1, h2, h3⟩
      refine ⟨⟨a.st.keep, a.st.new, a.st.old, fun q w => a.st.sub q (wsub q w), a.st.liv, a.st.pa⟩, ⟨by simp [a.en.len], fun j y h => ?_, fun j y h => ?_, fun j m c h => ?_, fun j k m n c c' q h1 h2 h3 h4 => ?_, a.en.dom, a.en.tb⟩, bor _⟩
      · rcases get_set h with ⟨e, e'⟩ | ⟨e, h⟩
        · cases e'
        · obtain ⟨w, h1, h2⟩ := a.en.pd j y h
          exact ⟨w, by rw [List.getElem?_set_ne e]; exact h1, h2⟩
      · rcases get_set h with ⟨e, e'⟩ | ⟨e, h⟩
        · cases e'; subst e; exact ⟨p, by rw [List.getElem?_set_self hiσ], r⟩
        · obtain ⟨w, h1, h2⟩ := a.en.nt j y h
          exact ⟨w, by rw [List.getElem?_set_ne e]; exact h1, h2⟩
      · rcases get_set h with ⟨e, e'⟩ | ⟨e, h⟩
        · cases e'
        · obtain ⟨w, h1, h2⟩ := a.en.mu j m c h
          exact ⟨w, by rw [List.getElem?_set_ne e]; exact h1, h2⟩
      · rcases get_set h1 with ⟨e, e'⟩ | ⟨e, h1⟩
        · cases e'
        rcases get_set h2 with ⟨f, e'⟩ | ⟨f, h2⟩
        · cases e'
        rw [List.getElem?_set_ne e] at h3
        rw [List.getElem?_set_ne f] at h4
        exact a.en.inj j k m n c c' q h1 h2 h3 h4
    | tmp t =>
      cases hs
      obtain ⟨p, rfl, h0, hb, hc, hns⟩ := r
      refine ⟨⟨a.st.keep, a.st.new, a.st.old, fun q w => ?_, a.st.liv, a.st.pa⟩, ⟨by simp [a.en.len], fun j y h => ?_, fun j y h => ?_, fun j m c h => ?_, fun j k m n c c' q h1 h2 h3 h4 => ?_, a.en.dom, a.en.tb⟩, bor _⟩
      · obtain ⟨j, m, c, h1, h2, h3⟩ := w
        rcases get_set h1 with ⟨e, e'⟩ | ⟨e, h1⟩
        · subst e
          rw [List.getElem?_set_self hiσ] at h3
          cases h3
          exact .inr h0
        · rw [List.getElem?_set_ne e] at h3; exact a.st.sub q ⟨j, m, c, h1, h2, h3⟩
      · rcases get_set h with ⟨e, e'⟩ | ⟨e, h⟩
        · cases e'
        · obtain ⟨w, h1, h2⟩ := a.en.pd j y h
          exact ⟨w, by rw [List.getElem?_set_ne e]; exact h1, h2⟩
      · rcases get_set h with ⟨e, e'⟩ | ⟨e, h⟩
        · cases e'
        · obtain ⟨w, h1, h2⟩ := a.en.nt j y h
          exact ⟨w, by rw [List.getElem?_set_ne e]; exact h1, h2⟩
      · rcases get_set h with ⟨e, e'⟩ | ⟨e, h⟩
        · cases e'; subst e; exact ⟨p, by rw [List.getElem?_set_self hiσ], hb, hc⟩
        · obtain ⟨w, h1, h2⟩ := a.en.mu j m c h
          exact ⟨w, by rw [List.getElem?_set_ne e]; exact h1, h2⟩
      · rcases get_set h1 with ⟨e, e'⟩ | ⟨e, h1⟩
        · subst e
          rw [List.getElem?_set_self hiσ] at h3
          cases h3
          rcases get_set h2 with ⟨f, e''⟩ | ⟨f, h2⟩
          · exact f
          · rw [List.getElem?_set_ne f] at h4
            exact absurd h4 (hns _ _ _ h2)
        · rw [List.getElem?_set_ne e] at h3
          rcases get_set h2 with ⟨f, e''⟩ | ⟨f, h2⟩
          · subst f
            rw [List.getElem?_set_self hiσ] at h4
            cases h4
            exact absurd h3 (hns _ _ _ h1)
          · rw [List.getElem?_set_ne f] at h4
            exact a.en.inj j k m n c c' q h1 h2 h3 h4
  · cases hs
def sSet (i : Nat) (f : EE) : SS := fun env => match f env with
  | none => none
  | some (d, e) => match setR i d e with
    | none => none
    | some e2 => some (.nx, e2)
theorem rd_set {K : PySem.W.Frag} {i : Nat} {f : EE} {D : Ends} {σ : St} {H : Hp} (h : tS K (sSet i f) D σ H) : tAsg (tE K f) (gName i) D σ H := by
  obtain ⟨B, env, fl, env', en, ev, q⟩ := h
  unfold sSet at ev
  split at ev
  · cases ev
  rename_i d e1 h1
  split at ev
  · cases ev
  rename_i e2 h2
  cases ev
  exact ⟨B, env, d, _, en, h1, fun B1 H1 v a1 r1 => q B1 _ H1 (AtS.set en a1.s r1.ra h2)⟩
abbrev GG := PyData → Sl → Option Sl
def tG (K : PySem.W.Frag) (g : GG) : TG := fun v σ H Q => ∃ B env x env', EnvR K B H σ env ∧ Rp K B H v x ∧ g x env = some env' ∧ ∀ B' σ' H', AtS K σ B H env σ' B' H' env' → Q σ' H'
def gN (i : Nat) : GG := fun x env => setR i (.pd x) env
theorem rd_gN {K : PySem.W.Frag} {i : Nat} {v : V} {σ : St} {H : Hp} {Q : St → Hp → Prop} (h : tG K (gN i) v σ H Q) : gName i v σ H Q := by
  obtain ⟨B, env, x, env', en, r, ev, q⟩ := h
  exact q B _ H (AtS.set en (.refl en) (d := .pd x) r ev)
abbrev GGs := List PyData → Sl → Option Sl
def tGs (K : PySem.W.Frag) (g : GGs) : TGs := fun vs σ H Q => ∃ B env xs env', EnvR K B H σ env ∧ RpA K B H vs xs ∧ g xs env = some env' ∧ ∀ B' σ' H', AtS K σ B H env σ' B' H' env' → Q σ' H'
def gNl : GGs := fun xs env => match xs with
  | [] => some env
  | _ => none
def gCn (g : GG) (gs : GGs) : GGs := fun xs env => match xs with
  | [] => none
  | x :: xs => match g x env with
    | none => none
    | some e => gs xs e
theorem rd_gNl {K : PySem.W.Frag} {vs : List V} {σ : St} {H : Hp} {Q : St → Hp → Prop} (h : tGs K gNl vs σ H Q) : gNil vs σ H Q := by
  obtain ⟨B, env, x, env', en, r, ev, q⟩ := h
  unfold gNl at ev
  split at ev
  · cases ev; cases r; exact ⟨rfl, q B _ H (.refl en)⟩
  · cases ev
theorem rd_gCn {K : PySem.W.Frag} {g : GG} {gs : GGs} {vs : List V} {σ : St} {H : Hp} {Q : St → Hp → Prop} (h : tGs K (gCn g gs) vs σ H Q) : gCons (tG K g) (tGs K gs) vs σ H Q := by
  obtain ⟨B, env, xs, env', en, r, ev, q⟩ := h
  unfold gCn at ev
  split at ev
  · cases ev
  rename_i x xs
  split at ev
  · cases ev
  rename_i e1 h1
  cases r with
  | cons r1 r2 =>
    exact ⟨_, _, rfl, B, env, x, e1, en, r1, h1, fun B1 σ1 H1 a1 => ⟨B1, e1, xs, env', a1.en, r2.grow (a1.st.grow en.wb), ev, fun B2 σ2 H2 a2 => q B2 σ2 H2 (a1.trans en a2)⟩⟩
def gT (n : Nat) (gs : GGs) : GG := fun x env => match x with
  | .tuple xs => if xs.length = n then gs xs env else none
  | _ => none
theorem rd_gT {K : PySem.W.Frag} {n : Nat} {gs : GGs} {v : V} {σ : St} {H : Hp} {Q : St → Hp → Prop} (h : tG K (gT n gs) v σ H Q) : gTup K n (tGs K gs) v σ H Q := by
  obtain ⟨B, env, x, env', en, r, ev, q⟩ := h
  unfold gT at ev
  split at ev
  · split at ev
    · rename_i xs hl
      obtain ⟨a, vs, rfl, h1, h2⟩ := Cn.tuple (.rp r)
      exact ⟨a, vs, rfl, h1, by rw [h2.length]; exact hl, B, env, xs, env', en, h2, ev, q⟩
    · cases ev
  · cases ev
def putL (j : Nat) (i : Int) (x : PyData) (env : Sl) : Option Sl := match env[j]? with
  | some (some (.mu m (.ls xs))) => if m = .fro then none else match ixN xs.length i with
    | none => none
    | some k => some (env.set j (some (.mu m (.ls (xs.set k x)))))
  | _ => none
theorem AtS.write {K : PySem.W.Frag} {σ : St} {B : Mset} {H : Hp} {env : Sl} {j : Nat} {m : Md} {c c' : Ct} {a : Addr} {o : HO} (en : EnvR K B H σ env) (hj : env[j]? = some (some (.mu m c))) (hm : m ≠ .fro) (ha : σ[j]? = some (some (.ref a))) (ni : ∀ o', H a = some o' → ¬ Imm o')
    (hc : ∀ H', (∀ q o', q ≠ a → H q = some o' → H' q = some o') → H' a = some o → Grow B H B H' → CtR K B H' a c') (pu : PU H → PU (upd H a o) := by exact fun h => h.put (by (intro _ _ _ z; cases z))) : Grow B H B (upd H a o) ∧ At K σ B H env B (upd H a o) (env.set j (some (.mu m c'))) := by
  have hjl : j < env.length := (List.getElem?_eq_some_iff.mp hj).1
  obtain ⟨a', ha', hb, hca⟩ := en.mu j m c hj
  rw [ha] at ha'
  cases ha'
  have w : Wof σ env a := ⟨j, m, c, hj, hm, ha⟩
  have g : Grow B H B (upd H a o) := ⟨fun q o' h n => by
    by_cases e : q = a
    · subst e
      rcases n with n | n
      · exact absurd hb n.1
      · exact absurd n (ni _ h)
    · rw [upd_ne e]; exact h, fun q h => .inl h⟩
  refine ⟨g, ⟨fun q o' h n => ?_, fun q h => .inl h, fun q h _ => h, fun q w' => ?_, fun q h => ?_, fun x p q vs h nw e => by rw [upd_ne (show p ≠ a from fun z => hca.npa q vs (by rw [← z]; exact e))]; exact e⟩, ⟨by simp [en.len], fun i x h => ?_, fun i x h => ?_, fun i m' d h => ?_, fun i k m1 m2 c1 c2 q h1 h2 h3 h4 => ?_, fun q h => ?_, en.tb.on (fun q o' h n _ => by rw [upd_ne (fun e => n (by rw [e]; exact hb))]; exact h) g.new (pu en.tb.2)⟩, fun i m1 c1 h => ?_, fun i m1 c1 h => ?_⟩
  · by_cases e : q = a
    · subst e
      rcases n with n | n
      · exact absurd w n.1
      · exact absurd n (ni _ h)
    · rw [upd_ne e]; exact h
  · obtain ⟨i, m1, c1, h1, h2, h3⟩ := w'
    rcases get_set h1 with ⟨e, e'⟩ | ⟨e, h1⟩
    · subst e; rw [ha] at h3; cases h3; exact .inl w
    · exact .inl ⟨i, m1, c1, h1, h2, h3⟩
  · by_cases e : q = a
    · subst e; rw [upd_same] at h; cases h
    · rw [upd_ne e] at h; exact h
  · rcases get_set h with ⟨e, e'⟩ | ⟨e, h⟩
    · cases e'
    · obtain ⟨v, h1, h2⟩ := en.pd i x h
      exact ⟨v, h1, h2.grow g⟩
  · rcases get_set h with ⟨e, e'⟩ | ⟨e, h⟩
    · cases e'
    · obtain ⟨v, h1, h2⟩ := en.nt i x h
      exact ⟨v, h1, h2.grow g⟩
  · rcases get_set h with ⟨e, e'⟩ | ⟨e, h⟩
    · cases e'
      subst e
      exact ⟨a, ha, hb, hc _ (fun q o' n h => by rw [upd_ne n]; exact h) upd_same g⟩
    · obtain ⟨b, h1, h2, h3⟩ := en.mu i m' d h
      refine ⟨b, h1, h2, ?_⟩
      have nb : b ≠ a := fun z => by subst z; exact e (en.inj j i m m' c d b hj h ha h1)
      refine h3.hop g fun x o' hx ex => ?_
      rcases hx with rfl | ⟨_, q, us, rfl⟩
      · rw [upd_ne nb]; exact ex
      · rw [upd_ne (show x ≠ a from fun z => hca.npa q us (by rw [← z]; exact ex))]; exact ex
  · have f : ∀ {i : Nat} {m1 : Md} {c1 : Ct}, (env.set j (some (S.mu m c')))[i]? = some (some (.mu m1 c1)) → ∃ m2 c2, env[i]? = some (some (.mu m2 c2)) := fun {i m1 c1} h => by
      rcases get_set h with ⟨e, e'⟩ | ⟨e, h⟩
      · subst e; exact ⟨m, c, hj⟩
      · exact ⟨_, _, h⟩
    obtain ⟨_, _, g1⟩ := f h1
    obtain ⟨_, _, g2⟩ := f h2
    exact en.inj i k _ _ _ _ q g1 g2 h3 h4
  · by_cases e : q = a
    · subst e; exact ⟨_, upd_same⟩
    · rw [upd_ne e]; exact en.dom q h
  · rcases get_set h with ⟨e, e'⟩ | ⟨e, h⟩
    · cases e'; subst e; exact ⟨c, hj⟩
    · exact ⟨_, h⟩
  · by_cases e : j = i
    · subst e; rw [hj] at h; cases h; exact ⟨c', by rw [List.getElem?_set_self hjl]⟩
    · exact ⟨c1, by rw [List.getElem?_set_ne e]; exact h⟩
end T3

end
section
set_option linter.all false
set_option autoImplicit false
set_option Elab.async false
namespace T3
open PySem L2
variable [TabL]

structure Wk (K : PySem.W.Frag) (J : It) (pr : Mset) (G : Mset → Hp → Prop) (xs : List PyData) : Prop where
  go : ∀ i B H, G B H → i < xs.length → J.go i H
  stop : ∀ B H, G B H → J.stop xs.length H
  yld : ∀ (i : Nat) B H x H' d, G B H → xs[i]? = some d → J.yld i H x H' → (H' = H ∨ (∃ T vs, H T = none ∧ H' = upd H T (.tup vs)) ∨ ∃ T vs T2 vs2, H T = none ∧ upd H T (.tup vs) T2 = none ∧ H' = upd (upd H T (.tup vs)) T2 (.tup vs2)) ∧ Rp K B H' x d
  keep : ∀ W B H W' B' H', G B H → Stp W B H W' B' H' → (∀ a, W a → B a) → (∀ a, pr a → ¬ W a) → G B' H'

abbrev Lk := Option (Nat × Md)
abbrev EI := Sl → Option (List PyData × Lk × Sl)
def Locked (lk : Lk) (e e' : Sl) : Prop := match lk with
  | none => e' = e
  | some (i, m) => ∃ c, e[i]? = some (some (S.mu m c)) ∧ e' = e.set i (some (.mu .fro c))
def unlock (lk : Lk) (env : Sl) : Sl := match lk with
  | none => env
  | some (i, m) => match env[i]? with
    | some (some (.mu _ c)) => env.set i (some (.mu m c))
    | _ => env
def tI (K : PySem.W.Frag) (f : EI) : TI := fun σ H R => ∃ B env xs lk env', EnvR K B H σ env ∧ f env = some (xs, lk, env') ∧
  ∀ B' H' J pr G e1, At K σ B H env B' H' e1 → Locked lk e1 env' → Wk K J pr G xs → G B' H' → (∀ a, pr a → ¬ Wof σ env' a ∧ ∃ o, H' a = some o) → R J H'

theorem EnvR.mode {K : PySem.W.Frag} {B : Mset} {H : Hp} {σ : St} {env : Sl} {i : Nat} {m m' : Md} {c : Ct} (en : EnvR K B H σ env) (h : env[i]? = some (some (.mu m c))) : EnvR K B H σ (env.set i (some (.mu m' c))) := by
  have f : ∀ {j : Nat} {m1 : Md} {c1 : Ct}, (env.set i (some (S.mu m' c)))[j]? = some (some (.mu m1 c1)) → ∃ m2, env[j]? = some (some (.mu m2 c1)) := fun {j m1 c1} h1 => by
    rcases get_set h1 with ⟨e, e'⟩ | ⟨e, h1⟩
    · cases e'; subst e; exact ⟨m, h⟩
    · exact ⟨_, h1⟩
  refine ⟨by simp [en.len], fun j x h1 => ?_, fun j x h1 => ?_, fun j m1 c1 h1 => ?_, fun j k m1 m2 c1 c2 a h1 h2 h3 h4 => ?_, en.dom, en.tb⟩
  · rcases get_set h1 with ⟨e, e'⟩ | ⟨e, h1⟩
    · cases e'
    · exact en.pd j x h1
  · rcases get_set h1 with ⟨e, e'⟩ | ⟨e, h1⟩
    · cases e'
    · exact en.nt j x h1
  · obtain ⟨m2, h2⟩ := f h1
    exact en.mu j m2 c1 h2
  · obtain ⟨_, g1⟩ := f h1
    obtain ⟨_, g2⟩ := f h2
    exact en.inj j k _ _ _ _ a g1 g2 h3 h4
theorem Locked.en {K : PySem.W.Frag} {B : Mset} {H : Hp} {σ : St} {lk : Lk} {e e' : Sl} (l : Locked lk e e') (en : EnvR K B H σ e) : EnvR K B H σ e' := by
  cases lk with
  | none => cases l; exact en
  | some p => obtain ⟨i, m⟩ := p; obtain ⟨c, h1, rfl⟩ := l; exact en.mode h1
theorem Locked.sub {σ : St} {lk : Lk} {e e' : Sl} (l : Locked lk e e') : ∀ a, Wof σ e' a → Wof σ e a := by
  cases lk with
  | none => cases l; exact fun _ h => h
  | some p =>
    obtain ⟨i, m⟩ := p
    obtain ⟨c, h1, rfl⟩ := l
    rintro a ⟨j, m1, c1, h2, h3, h4⟩
    rcases get_set h2 with ⟨e, e'⟩ | ⟨e, h2⟩
    · cases e'; exact absurd rfl h3
    · exact ⟨j, m1, c1, h2, h3, h4⟩
theorem Locked.stp {W B B1 : Mset} {H H1 : Hp} {σ : St} {lk : Lk} {e e' : Sl} (l : Locked lk e e') (s : Stp W B H (Wof σ e) B1 H1) : Stp W B H (Wof σ e') B1 H1 := ⟨s.keep, s.new, s.old, fun a h => s.sub a (l.sub a h), s.liv, s.pa⟩
theorem AtS.through {K : PySem.W.Frag} {σ σ2 : St} {B B1 B2 : Mset} {H H1 H2 : Hp} {env e1 e1' e2 : Sl} {lk : Lk} (en : EnvR K B H σ env) (a : At K σ B H env B1 H1 e1) (l : Locked lk e1 e1') (b : AtS K σ B1 H1 e1' σ2 B2 H2 e2) : AtS K σ B H env σ2 B2 H2 (unlock lk e2) := by
  have t : Stp (Wof σ env) B H (Wof σ2 e2) B2 H2 := (l.stp a.st).trans b.st en.wb en.dom
  cases lk with
  | none =>
    cases l
    exact ⟨t, b.en, fun i m c h hm => by
      obtain ⟨c1, h1⟩ := a.ks i m c h
      exact b.bo i m c1 h1 hm⟩
  | some p =>
    obtain ⟨i, m⟩ := p
    obtain ⟨c, h1, rfl⟩ := l
    have hi : i < e1.length := (List.getElem?_eq_some_iff.mp h1).1
    obtain ⟨hσ, c2, h2⟩ := b.bo i .fro c (by rw [List.getElem?_set_self hi]) (by decide)
    have hi2 : i < e2.length := (List.getElem?_eq_some_iff.mp h2).1
    have eu : unlock (some (i, m)) e2 = e2.set i (some (.mu m c2)) := by simp only [unlock, h2]
    rw [eu]
    refine ⟨⟨t.keep, t.new, t.old, fun q w => ?_, t.liv, t.pa⟩, b.en.mode h2, fun j n d h hn => ?_⟩
    · obtain ⟨j, m1, d, g1, g2, g3⟩ := w
      rcases get_set g1 with ⟨e, e'⟩ | ⟨e, g1⟩
      · cases e'
        subst e
        rw [hσ] at g3
        exact a.st.sub q ⟨i, m, c, h1, g2, g3⟩
      · exact t.sub q ⟨j, m1, d, g1, g2, g3⟩
    · obtain ⟨d1, g1⟩ := a.ks j n d h
      by_cases e : i = j
      · subst e
        rw [h1] at g1
        cases g1
        exact ⟨hσ, c2, by rw [List.getElem?_set_self hi2]⟩
      · obtain ⟨g2, d2, g3⟩ := b.bo j n d1 (by rw [List.getElem?_set_ne e]; exact g1) hn
        exact ⟨g2, d2, by rw [List.getElem?_set_ne e]; exact g3⟩
theorem RR.relock {K : PySem.W.Frag} {H₀ H : Hp} {B : Mset} {σ : St} {env : Sl} {v : V} {d : R} {lk : Lk} (h : RR K H₀ B H σ env v d) : RR K H₀ B H σ (T3.unlock lk env) v d := by
  cases lk with
  | none => exact h
  | some p =>
    obtain ⟨i, m⟩ := p
    simp only [T3.unlock]
    split
    · rename_i m1 c h1
      have hi := (List.getElem?_eq_some_iff.mp h1).1
      cases d with
      | pd x => exact h
      | nt x => exact h
      | tmp t =>
        obtain ⟨a, e, h2, h3, h4, h5⟩ := h
        refine ⟨a, e, h2, h3, h4, fun j n d g => ?_⟩
        rcases get_set g with ⟨e, e'⟩ | ⟨e, g⟩
        · subst e; exact h5 i _ _ h1
        · exact h5 j n d g
      | var j =>
        obtain ⟨h2, n, d, h3⟩ := h
        refine ⟨h2, ?_⟩
        by_cases q : i = j
        · subst q; exact ⟨m, c, by rw [List.getElem?_set_self hi]⟩
        · exact ⟨n, d, by rw [List.getElem?_set_ne q]; exact h3⟩
    · exact h
theorem At.pair {K : PySem.W.Frag} {σ : St} {B : Mset} {H : Hp} {env : Sl} {T : Addr} {vs : List V} (en : EnvR K B H σ env) (nT : H T = none) : At K σ B H env B (upd H T (.tup vs)) env := by
  have ne : ∀ {q o'}, H q = some o' → q ≠ T := fun {q o'} h e => by rw [e, nT] at h; cases h
  have g : Grow B H B (upd H T (.tup vs)) := ⟨fun q o' h _ => by rw [upd_ne (ne h)]; exact h, fun q h => .inl h⟩
  refine ⟨⟨fun q o' h c => by rw [upd_ne (ne h)]; exact h, fun q h => .inl h, fun q h _ => h, fun q h => .inl h, fun q h => ?_, fun x p q us h _ e => by rw [upd_ne (ne e)]; exact e⟩, ⟨en.len, fun i x h => ?_, fun i x h => ?_, fun i m c h => ?_, en.inj, fun q h => ?_, en.tb.on (fun q o' h _ _ => by rw [upd_ne (ne h)]; exact h) g.new (en.tb.2.put (by (intro _ _ _ z; cases z)))⟩, fun i m c h => ⟨c, h⟩, fun i m c h => ⟨c, h⟩⟩
  · by_cases e : q = T
    · rw [e]; exact nT
    · rw [upd_ne e] at h; exact h
  · obtain ⟨v, h1, h2⟩ := en.pd i x h
    exact ⟨v, h1, h2.grow g⟩
  · obtain ⟨v, h1, h2⟩ := en.nt i x h
    exact ⟨v, h1, h2.grow g⟩
  · obtain ⟨q, h1, h2, h3⟩ := en.mu i m c h
    refine ⟨q, h1, h2, ?_⟩
    exact h3.hop g fun b o' _ e => by rw [upd_ne (ne e)]; exact e
  · obtain ⟨o', ho⟩ := en.dom q h
    exact ⟨o', by rw [upd_ne (ne ho)]; exact ho⟩

def forL (g : GG) (body : SS) : List PyData → SS
  | [], env => some (.nx, env)
  | x :: xs, env => match g x env with
    | none => none
    | some e1 => match body e1 with
      | none => none
      | some (.nx, e2) => forL g body xs e2
      | some (.ct, e2) => forL g body xs e2
      | some (.bk, e2) => some (.nx, e2)
      | some (.rt d, e2) => some (.rt d, e2)
def sFor (it : EI) (g : GG) (body : SS) : SS := fun env => match it env with
  | none => none
  | some (xs, lk, e1) => match forL g body xs e1 with
    | none => none
    | some (fl, e2) => some (fl, unlock lk e2)
theorem rd_for {K : PySem.W.Frag} {it : EI} {g : GG} {body : SS} {D : Ends} {σ : St} {H : Hp} (h : tS K (sFor it g body) D σ H) : tFor (tI K it) (tG K g) (tS K body) D σ H := by
  obtain ⟨B, env, fl, env', en, ev, q⟩ := h
  unfold sFor at ev
  split at ev
  · cases ev
  rename_i xs lk e1 h1
  split at ev
  · cases ev
  rename_i fl' e2 h2
  cases ev
  refine ⟨B, env, xs, lk, e1, en, h1, fun B1 H1 J pr G e0 a1 lkd wk g0 hpr => ?_⟩
  have en1 : EnvR K B1 H1 σ e1 := lkd.en a1.en
  -- the walked thing stands wherever one comes
  have stays : ∀ {σi Bi Hi ei}, AtS K σ B1 H1 e1 σi Bi Hi ei → G Bi Hi := fun {σi Bi Hi ei} a => wk.keep _ _ _ _ _ _ g0 a.st en1.wb fun x hx => (hpr x hx).1
  have done : ∀ {σi Bi Hi ei}, AtS K σ B1 H1 e1 σi Bi Hi ei → ei = e2 → Fin K D H fl Bi σi Hi (unlock lk e2) := fun {σi Bi Hi ei} a e => by
    subst e
    exact q Bi σi Hi (AtS.through en a1 lkd a)
  refine ⟨fun i m σi Hi => i ≤ xs.length ∧ m = xs.length - i ∧ ∃ Bi ei, AtS K σ B1 H1 e1 σi Bi Hi ei ∧ forL g body (xs.drop i) ei = some (fl, e2), ⟨_, Nat.zero_le _, rfl, B1, e1, .refl en1, h2⟩, ?_⟩
  rintro i m σi Hi ⟨hi, rfl, Bi, ei, ai, fi⟩
  have gi := stays ai
  by_cases hlt : i < xs.length
  · have hd : xs.drop i = xs[i] :: xs.drop (i + 1) := List.drop_eq_getElem_cons hlt
    rw [hd] at fi
    unfold forL at fi
    split at fi
    · cases fi
    rename_i e3 h3
    refine .inr ⟨wk.go i Bi Hi gi hlt, fun σ' H' => ∃ B' e', AtS K σ B1 H1 e1 σ' B' H' e' ∧ forL g body (xs.drop (i + 1)) e' = some (fl, e2), fun σ' H' ⟨B', e', a', f'⟩ => ⟨xs.length - (i + 1), by omega, hlt, rfl, B', e', a', f'⟩, fun x H' hy => ?_⟩
    obtain ⟨hH, rx⟩ := wk.yld i Bi Hi x H' xs[i] gi (List.getElem?_eq_getElem hlt) hy
    have ay : At K σi Bi Hi ei Bi H' ei := by
      rcases hH with e | ⟨T, vs, nT, e⟩ | ⟨T, vs, T2, vs2, nT, nT2, e⟩
      · subst e; exact .refl ai.en
      · subst e; exact At.pair ai.en nT
      · subst e; exact (At.pair ai.en nT).trans ai.en (At.pair (At.pair ai.en nT).en nT2)
    have ai' : AtS K σ B1 H1 e1 σi Bi H' ei := ai.trans en1 ay.s
    refine ⟨Bi, ei, xs[i], e3, ay.en, rx, h3, fun B3 σ3 H3 a3 => ?_⟩
    have a3' : AtS K σ B1 H1 e1 σ3 B3 H3 e3 := ai'.trans en1 a3
    split at fi
    · cases fi
    · rename_i e4 h4
      exact ⟨B3, e3, .nx, e4, a3.en, h4, fun B4 σ4 H4 a4 => ⟨B4, e4, a3'.trans en1 a4, fi⟩⟩
    · rename_i e4 h4
      exact ⟨B3, e3, .ct, e4, a3.en, h4, fun B4 σ4 H4 a4 => ⟨B4, e4, a3'.trans en1 a4, fi⟩⟩
    · rename_i e4 h4
      cases fi
      exact ⟨B3, e3, .bk, _, a3.en, h4, fun B4 σ4 H4 a4 => done (a3'.trans en1 a4) rfl⟩
    · rename_i d e4 h4
      cases fi
      refine ⟨B3, e3, .rt d, _, a3.en, h4, fun B4 σ4 H4 a4 v r => ?_⟩
      have z := done (a3'.trans en1 a4) rfl
      exact z v ((r.from fun a h => a1.st.liv a (a3'.st.liv a h)).relock)
  · have e : i = xs.length := by omega
    subst e
    rw [List.drop_length] at fi
    cases fi
    exact .inl ⟨wk.stop Bi Hi gi, done ai rfl⟩
end T3

end
section
set_option linter.all false
set_option autoImplicit false
set_option Elab.async false
namespace T3
open PySem L2
variable [TabL]

def whileN (c : EB) (body : SS) : Nat → SS
  | 0, _ => none
  | n + 1, env => match c env with
    | none => none
    | some (false, e) => some (.nx, e)
    | some (true, e) => match body e with
      | none => none
      | some (.nx, e2) => whileN c body n e2
      | some (.ct, e2) => whileN c body n e2
      | some (.bk, e2) => some (.nx, e2)
      | some (.rt d, e2) => some (.rt d, e2)
theorem whileN_more {c : EB} {body : SS} : ∀ {n m : Nat} {env : Sl} {r : Fl × Sl}, whileN c body n env = some r → n ≤ m → whileN c body m env = some r
  | 0, _, _, _, h, _ => by cases h
  | n + 1, 0, _, _, _, hm => by omega
  | n + 1, m + 1, env, r, h, hm => by
    unfold whileN at h ⊢
    cases hc : c env with
    | none => rw [hc] at h; cases h
    | some p =>
      obtain ⟨b, e⟩ := p
      rw [hc] at h
      cases b with
      | false => exact h
      | true =>
        simp only at h ⊢
        cases hb : body e with
        | none => rw [hb] at h; cases h
        | some q =>
          obtain ⟨fl, e2⟩ := q
          rw [hb] at h
          cases fl with
          | nx => exact whileN_more (n := n) (m := m) h (by omega)
          | ct => exact whileN_more (n := n) (m := m) h (by omega)
          | bk => exact h
          | rt d => exact h
open Classical in
noncomputable def sWhile (c : EB) (body : SS) : SS := fun env => if h : ∃ r, ∃ n, whileN c body n env = some r then some (choose h) else none
theorem sWhile_of {c : EB} {body : SS} {n : Nat} {env : Sl} {r : Fl × Sl} (h : whileN c body n env = some r) : sWhile c body env = some r := by
  have ex : ∃ r, ∃ n, whileN c body n env = some r := ⟨r, n, h⟩
  unfold sWhile
  rw [dif_pos ex]
  obtain ⟨m, hm⟩ := Classical.choose_spec ex
  have h1 := whileN_more h (Nat.le_max_left n m)
  have h2 := whileN_more hm (Nat.le_max_right n m)
  rw [h1] at h2
  rw [← Option.some.inj h2]
theorem sWhile_ex {c : EB} {body : SS} {env : Sl} {r : Fl × Sl} (h : sWhile c body env = some r) : ∃ n, whileN c body n env = some r := by
  unfold sWhile at h
  split at h
  · rename_i ex
    obtain ⟨m, hm⟩ := Classical.choose_spec ex
    exact ⟨m, by rw [hm]; exact h⟩
  · cases h
theorem rd_while {K : PySem.W.Frag} {c : EB} {body : SS} {D : Ends} {σ : St} {H : Hp} (h : tS K (sWhile c body) D σ H) : tWhile (tT K c) (tS K body) D σ H := by
  obtain ⟨B, env, fl, env', en, ev, q⟩ := h
  obtain ⟨n, hn⟩ := sWhile_ex ev
  refine ⟨fun m σi Hi => ∃ Bi ei, AtS K σ B H env σi Bi Hi ei ∧ whileN c body m ei = some (fl, env'), ⟨n, B, env, .refl en, hn⟩, ?_⟩
  rintro m σi Hi ⟨Bi, ei, ai, fi⟩
  cases m with
  | zero => cases fi
  | succ m =>
    unfold whileN at fi
    split at fi
    · cases fi
    · rename_i e h1
      cases fi
      refine ⟨Bi, ei, false, _, ai.en, h1, fun B1 H1 a1 => ?_⟩
      simp
      exact q B1 σi H1 (ai.trans en a1.s)
    · rename_i e h1
      refine ⟨Bi, ei, true, e, ai.en, h1, fun B1 H1 a1 => ?_⟩
      have a1' := ai.trans en a1.s
      simp
      refine ⟨fun σ' H' => ∃ B' e', AtS K σ B H env σ' B' H' e' ∧ whileN c body m e' = some (fl, env'), fun σ' H' ⟨B', e', a', f'⟩ => ⟨m, by omega, B', e', a', f'⟩, ?_⟩
      split at fi
      · cases fi
      · rename_i e2 h2
        exact ⟨B1, e, .nx, e2, a1.en, h2, fun B2 σ2 H2 a2 => ⟨B2, e2, a1'.trans en a2, fi⟩⟩
      · rename_i e2 h2
        exact ⟨B1, e, .ct, e2, a1.en, h2, fun B2 σ2 H2 a2 => ⟨B2, e2, a1'.trans en a2, fi⟩⟩
      · rename_i e2 h2
        cases fi
        exact ⟨B1, e, .bk, _, a1.en, h2, fun B2 σ2 H2 a2 => q B2 σ2 H2 (a1'.trans en a2)⟩
      · rename_i d e2 h2
        cases fi
        exact ⟨B1, e, .rt d, _, a1.en, h2, fun B2 σ2 H2 a2 v r => q B2 σ2 H2 (a1'.trans en a2) v (r.from a1'.st.liv)⟩

abbrev FnD := List S → Option (R × List S)
def outR (env : Sl) : R → Option R
  | .pd x => some (.pd x)
  | .nt x => some (.nt x)
  | .tmp c => some (.tmp c)
  | .var i => match env[i]? with
    | some (some (.mu .own c)) => some (.tmp c)
    | _ => none
def finals : List S → Sl → Option (List S)
  | [], _ => some []
  | .pd x :: as, _ :: env => match finals as env with
    | none => none
    | some l => some (.pd x :: l)
  | .nt x :: as, _ :: env => match finals as env with
    | none => none
    | some l => some (.nt x :: l)
  | .mu m _ :: as, some (.mu m' c') :: env => if m = m' ∧ m ≠ .own then match finals as env with
      | none => none
      | some l => some (.mu m c' :: l)
    else none
  | _ :: _, _ => none
def startE (n : Nat) (as : List S) : Sl := as.map some ++ List.replicate (n - as.length) none
def runFn (n : Nat) (b : SS) : FnD := fun as => match b (startE n as) with
  | some (.rt d, e) => match outR e d with
    | none => none
    | some d' => match finals as e with
      | none => none
      | some as' => some (d', as')
  | some (.nx, e) => match finals as e with
    | none => none
    | some as' => some (.pd .none, as')
  | _ => none
def spF (K : PySem.W.Frag) (F : FnD) (n : Nat) : Sp := fun vs H Q _ => vs.length = n ∧ ∃ B as d as', EnvR K B H (vs.map some) (as.map some) ∧ F as = some (d, as') ∧
  ∀ B' H' v, At K (vs.map some) B H (as.map some) B' H' (as'.map some) → RR K H B' H' (vs.map some) (as'.map some) v d → (∀ i, d ≠ .var i) → Q v H'

theorem finals_get : ∀ {as : List S} {env : Sl} {as' : List S}, finals as env = some as' → as'.length = as.length ∧ ∀ (i : Nat) s, as[i]? = some s → (∃ x, s = .pd x ∧ as'[i]? = some (.pd x)) ∨ (∃ x, s = .nt x ∧ as'[i]? = some (.nt x)) ∨ (∃ m c c', s = .mu m c ∧ m ≠ .own ∧ env[i]? = some (some (.mu m c')) ∧ as'[i]? = some (.mu m c'))
  | [], _, _, h => by cases h; exact ⟨rfl, fun i s h => by simp at h⟩
  | .pd x :: as, [], _, h => by cases h
  | .nt x :: as, [], _, h => by cases h
  | .mu _ _ :: as, [], _, h => by cases h
  | .pd x :: as, e :: env, as', h => by
    unfold finals at h
    split at h
    · cases h
    rename_i l hl
    cases h
    obtain ⟨h1, h2⟩ := finals_get hl
    refine ⟨by simp [h1], fun i s hs => ?_⟩
    cases i with
    | zero => simp at hs; subst hs; exact .inl ⟨x, rfl, rfl⟩
    | succ i => simpa using h2 i s (by simpa using hs)
  | .nt x :: as, e :: env, as', h => by
    unfold finals at h
    split at h
    · cases h
    rename_i l hl
    cases h
    obtain ⟨h1, h2⟩ := finals_get hl
    refine ⟨by simp [h1], fun i s hs => ?_⟩
    cases i with
    | zero => simp at hs; subst hs; exact .inr (.inl ⟨x, rfl, rfl⟩)
    | succ i => simpa using h2 i s (by simpa using hs)
  | .mu m c :: as, none :: env, _, h => by cases h
  | .mu m c :: as, some (.pd _) :: env, _, h => by cases h
  | .mu m c :: as, some (.nt _) :: env, _, h => by cases h
  | .mu m c :: as, some (.mu m' c') :: env, as', h => by
    unfold finals at h
    split at h
    · rename_i hm
      obtain ⟨rfl, hm⟩ := hm
      split at h
      · cases h
      rename_i l hl
      cases h
      obtain ⟨h1, h2⟩ := finals_get hl
      refine ⟨by simp [h1], fun i s hs => ?_⟩
      cases i with
      | zero => simp at hs; subst hs; exact .inr (.inr ⟨m, c, c', rfl, hm, rfl, rfl⟩)
      | succ i => simpa using h2 i s (by simpa using hs)
    · cases h

theorem startE_get {n : Nat} {as : List S} {i : Nat} {s : S} : (startE n as)[i]? = some (some s) ↔ as[i]? = some s := by
  unfold startE
  by_cases h : i < as.length
  · rw [List.getElem?_append_left (by simpa using h), List.getElem?_map, List.getElem?_eq_getElem h]
    simp
  · rw [List.getElem?_append_right (by simpa using h), List.getElem?_eq_none (l := as) (by omega)]
    simp only [List.length_map]
    constructor
    · intro q
      by_cases z : i - as.length < n - as.length
      · rw [List.getElem?_replicate, if_pos z] at q; cases q
      · rw [List.getElem?_replicate, if_neg z] at q; cases q
    · intro q; cases q
theorem start_get {N : List Str} {vs : List V} {i : Nat} {v : V} : (start N vs)[i]? = some (some v) ↔ vs[i]? = some v := by
  unfold L2.start
  by_cases h : i < vs.length
  · rw [List.getElem?_append_left (by simpa using h), List.getElem?_map, List.getElem?_eq_getElem h]
    simp
  · rw [List.getElem?_append_right (by simpa using h), List.getElem?_eq_none (l := vs) (by omega)]
    simp only [List.length_map]
    constructor
    · intro q
      by_cases z : i - vs.length < N.length - vs.length
      · rw [List.getElem?_replicate, if_pos z] at q; cases q
      · rw [List.getElem?_replicate, if_neg z] at q; cases q
    · intro q; cases q
theorem map_get {α : Type} {l : List α} {i : Nat} {x : α} : (l.map some)[i]? = some (some x) ↔ l[i]? = some x := by
  rw [List.getElem?_map]
  cases l[i]? <;> simp
theorem fn_body {K : PySem.W.Frag} {n : Nat} {N : List Str} {b : SS} {vs : List V} {H : Hp} {Q : VK} {E : XK} (h : spF K (runFn N.length b) n vs H Q E) : tS K b { nx := fun _ H' => Q .non H', rt := Q } (start N vs) H := by
  obtain ⟨hn, B, as, d, as', en, hF, q⟩ := h
  have hl : as.length = vs.length := by simpa using en.len
  have en0 : EnvR K B H (start N vs) (startE N.length as) := by
    refine ⟨by simp [startE, L2.start, hl], fun i x h => ?_, fun i x h => ?_, fun i m c h => ?_, fun i j m m' c c' a h1 h2 h3 h4 => ?_, en.dom, en.tb⟩
    · obtain ⟨v, h1, h2⟩ := en.pd i x (map_get.mpr (startE_get.mp h))
      exact ⟨v, start_get.mpr (map_get.mp h1), h2⟩
    · obtain ⟨v, h1, h2⟩ := en.nt i x (map_get.mpr (startE_get.mp h))
      exact ⟨v, start_get.mpr (map_get.mp h1), h2⟩
    · obtain ⟨v, h1, h2⟩ := en.mu i m c (map_get.mpr (startE_get.mp h))
      exact ⟨v, start_get.mpr (map_get.mp h1), h2⟩
    · exact en.inj i j m m' c c' a (map_get.mpr (startE_get.mp h1)) (map_get.mpr (startE_get.mp h2)) (map_get.mpr (start_get.mp h3)) (map_get.mpr (start_get.mp h4))
  have wiff : ∀ a, Wof (start N vs) (startE N.length as) a ↔ Wof (vs.map some) (as.map some) a := fun a => by
    constructor
    · rintro ⟨i, m, c, h1, h2, h3⟩; exact ⟨i, m, c, map_get.mpr (startE_get.mp h1), h2, map_get.mpr (start_get.mp h3)⟩
    · rintro ⟨i, m, c, h1, h2, h3⟩; exact ⟨i, m, c, startE_get.mpr (map_get.mp h1), h2, start_get.mpr (map_get.mp h3)⟩
  -- where the body ends
  have key : ∀ {e : Sl} {B' σ' H'}, finals as e = some as' → AtS K (start N vs) B H (startE N.length as) σ' B' H' e → At K (vs.map some) B H (as.map some) B' H' (as'.map some) ∧ (∀ (i : Nat) m c, as'[i]? = some (.mu m c) → m ≠ .own ∧ e[i]? = some (some (.mu m c)) ∧ ∀ v, vs[i]? = some v → σ'[i]? = some (some v)) := by
    intro e B' σ' H' hf a
    obtain ⟨f1, f2⟩ := finals_get hf
    have back : ∀ (i : Nat) m c, as'[i]? = some (.mu m c) → m ≠ .own ∧ e[i]? = some (some (.mu m c)) ∧ (∃ c0, as[i]? = some (.mu m c0)) ∧ ∀ v, vs[i]? = some v → σ'[i]? = some (some v) := by
      intro i m c h
      have hi : i < as.length := by rw [← f1]; exact (List.getElem?_eq_some_iff.mp h).1
      rcases f2 i as[i] (List.getElem?_eq_getElem hi) with ⟨x, e1, e2⟩ | ⟨x, e1, e2⟩ | ⟨m1, c1, c2, e1, e2, e3, e4⟩
      · rw [h] at e2; cases e2
      · rw [h] at e2; cases e2
      · rw [h] at e4
        cases e4
        have hs : as[i]? = some (.mu m c1) := by rw [List.getElem?_eq_getElem hi, e1]
        refine ⟨e2, e3, ⟨c1, hs⟩, fun v hv => ?_⟩
        obtain ⟨g1, _⟩ := a.bo i m c1 (startE_get.mpr hs) e2
        rw [g1]
        exact start_get.mpr hv
    have wsub : ∀ q, Wof (vs.map some) (as'.map some) q → Wof (vs.map some) (as.map some) q := by
      rintro q ⟨i, m, c, h1, h2, h3⟩
      obtain ⟨_, _, ⟨c0, h4⟩, _⟩ := back i m c (map_get.mp h1)
      exact ⟨i, m, c0, map_get.mpr h4, h2, h3⟩
    have st : Stp (Wof (vs.map some) (as.map some)) B H (Wof (vs.map some) (as'.map some)) B' H' :=
      ⟨fun q o h c => a.st.keep q o h (c.imp (fun n => ⟨fun w => n.1 ((wiff q).mp w), n.2⟩) id), a.st.new, fun q h w => a.st.old q h fun w' => w ((wiff q).mp w'), fun q w => .inl (wsub q w), a.st.liv, fun x p q us h nw e => a.st.pa x p q us h (fun w => nw ((wiff x).mp w)) e⟩
    refine ⟨⟨st, ⟨by simp [f1, hl], fun i x h => ?_, fun i x h => ?_, fun i m c h => ?_, fun i j m m' c c' p h1 h2 h3 h4 => ?_, a.en.dom, a.en.tb⟩, fun i m c h => ?_, fun i m c h => ?_⟩, fun i m c h => ⟨(back i m c h).1, (back i m c h).2.1, (back i m c h).2.2.2⟩⟩
    · have h := map_get.mp h
      have hi : i < as.length := by rw [← f1]; exact (List.getElem?_eq_some_iff.mp h).1
      rcases f2 i as[i] (List.getElem?_eq_getElem hi) with ⟨y, e1, e2⟩ | ⟨y, e1, e2⟩ | ⟨m1, c1, c2, e1, e2, e3, e4⟩
      · rw [h] at e2
        cases e2
        obtain ⟨v, g1, g2⟩ := en.pd i x (map_get.mpr (by rw [List.getElem?_eq_getElem hi, e1]))
        exact ⟨v, g1, g2.grow (a.st.grow en0.wb)⟩
      · rw [h] at e2; cases e2
      · rw [h] at e4; cases e4
    · have h := map_get.mp h
      have hi : i < as.length := by rw [← f1]; exact (List.getElem?_eq_some_iff.mp h).1
      rcases f2 i as[i] (List.getElem?_eq_getElem hi) with ⟨y, e1, e2⟩ | ⟨y, e1, e2⟩ | ⟨m1, c1, c2, e1, e2, e3, e4⟩
      · rw [h] at e2; cases e2
      · rw [h] at e2
        cases e2
        obtain ⟨v, g1, g2⟩ := en.nt i x (map_get.mpr (by rw [List.getElem?_eq_getElem hi, e1]))
        exact ⟨v, g1, g2.grow (a.st.grow en0.wb)⟩
      · rw [h] at e4; cases e4
    · obtain ⟨g0, g1, ⟨c0, g2⟩, g3⟩ := back i m c (map_get.mp h)
      obtain ⟨p, k1, k2, k3⟩ := a.en.mu i m c g1
      obtain ⟨p', k4, _⟩ := en.mu i m c0 (map_get.mpr g2)
      rw [g3 _ (map_get.mp k4)] at k1
      cases k1
      exact ⟨_, k4, k2, k3⟩
    · obtain ⟨_, _, ⟨c1, g1⟩, _⟩ := back i m c (map_get.mp h1)
      obtain ⟨_, _, ⟨c2, g2⟩, _⟩ := back j m' c' (map_get.mp h2)
      exact en.inj i j m m' c1 c2 p (map_get.mpr g1) (map_get.mpr g2) h3 h4
    · obtain ⟨_, _, ⟨c1, g1⟩, _⟩ := back i m c (map_get.mp h)
      exact ⟨c1, map_get.mpr g1⟩
    · have h := map_get.mp h
      rcases f2 i _ h with ⟨y, e1, e2⟩ | ⟨y, e1, e2⟩ | ⟨m1, c1, c2, e1, e2, e3, e4⟩
      · cases e1
      · cases e1
      · cases e1; exact ⟨c2, map_get.mpr e4⟩
  unfold runFn at hF
  split at hF
  · rename_i d0 e hb
    split at hF
    · cases hF
    rename_i d1 ho
    split at hF
    · cases hF
    rename_i as1 hf
    cases hF
    refine ⟨B, startE N.length as, .rt d0, e, en0, hb, fun B' σ' H' a v r => ?_⟩
    obtain ⟨at_, bk⟩ := key hf a
    cases d0 with
    | pd x => cases ho; exact q B' H' v at_ r (fun _ => nofun)
    | nt x => cases ho; exact q B' H' v at_ r (fun _ => nofun)
    | tmp c =>
      cases ho
      obtain ⟨p, rfl, r1, r2, r3, r4⟩ := r
      refine q B' H' _ at_ ⟨p, rfl, r1, r2, r3, fun i m c h1 h2 => ?_⟩ (fun _ => nofun)
      obtain ⟨_, g1, g2⟩ := bk i m c (map_get.mp h1)
      exact r4 i m c g1 (g2 _ (map_get.mp h2))
    | var j =>
      simp only [outR] at ho
      split at ho
      · rename_i c hc
        cases ho
        obtain ⟨r1, _⟩ := r
        obtain ⟨p, k1, k2, k3⟩ := a.en.mu j _ _ hc
        rw [k1] at r1
        cases r1
        have nsl : ∀ (i : Nat) m c, as'[i]? = some (.mu m c) → vs[i]? ≠ some (.ref p) := fun i m c' h1 h2 => by
          obtain ⟨g0, g1, g2⟩ := bk i m c' h1
          have e := a.en.inj j i _ _ _ _ p hc g1 k1 (g2 _ h2)
          subst e
          rw [hc] at g1
          cases g1
          exact g0 rfl
        refine q B' H' _ at_ ⟨p, rfl, ?_, k2, k3, fun i m c h1 h2 => nsl i m c (map_get.mp h1) (map_get.mp h2)⟩ (fun _ => nofun)
        rcases a.st.sub p ⟨j, _, _, hc, by decide, k1⟩ with w | w
        · obtain ⟨i, m, c0, h1, h2, h3⟩ := w
          obtain ⟨c1, h4⟩ := at_.ks i m c0 (map_get.mpr (startE_get.mp h1))
          exact absurd (start_get.mp h3) (nsl i m c1 (map_get.mp h4))
        · exact w
      · cases ho
  · rename_i e hb
    split at hF
    · cases hF
    rename_i as1 hf
    cases hF
    refine ⟨B, startE N.length as, .nx, e, en0, hb, fun B' σ' H' a => ?_⟩
    obtain ⟨at_, bk⟩ := key hf a
    exact q B' H' _ at_ .non (fun _ => nofun)
  · cases hF
theorem spF_len {K : PySem.W.Frag} {F : FnD} {n : Nat} {ps : List Str} (h : n = ps.length) : ∀ vs H Q E, spF K F n vs H Q E → vs.length = ps.length := fun vs H Q E q => by rw [← h]; exact q.1
end T3

end
section
set_option linter.all false
set_option autoImplicit false
set_option Elab.async false
namespace T3
open PySem L2
variable [TabL]

def toArg (env : Sl) : R → Option S
  | .pd x => some (.pd x)
  | .nt x => some (.nt x)
  | .tmp c => some (.mu .bor c)
  | .var i => match env[i]? with
    | some (some (.mu .fro c)) => some (.mu .fro c)
    | some (some (.mu _ c)) => some (.mu .bor c)
    | _ => none
def toArgs (env : Sl) : List R → Option (List S)
  | [] => some []
  | d :: ds => match toArg env d with
    | none => none
    | some a => match toArgs env ds with
      | none => none
      | some as => some (a :: as)
def hasVar (i : Nat) : List R → Bool
  | [] => false
  | .var j :: ds => decide (i = j) || hasVar i ds
  | _ :: ds => hasVar i ds
def varsApart : List R → Bool
  | [] => true
  | .var j :: ds => !hasVar j ds && varsApart ds
  | _ :: ds => varsApart ds
def back : List R → List S → Sl → Sl
  | .var i :: ds, .mu _ c :: as, env => match env[i]? with
    | some (some (.mu m _)) => back ds as (env.set i (some (.mu m c)))
    | _ => back ds as env
  | _ :: ds, _ :: as, env => back ds as env
  | _, _, env => env
def eCall (F : FnD) (f : EA) : EE := eThen f fun ds env => match toArgs env ds with
  | none => none
  | some as => if varsApart ds = true then match F as with
      | none => none
      | some (.var _, _) => none
      | some (d, as') => some (d, back ds as' env)
    else none

theorem toArgs_get {env : Sl} : ∀ {ds : List R} {as : List S}, toArgs env ds = some as → as.length = ds.length ∧ ∀ (k : Nat) d, ds[k]? = some d → ∃ s, as[k]? = some s ∧ toArg env d = some s
  | [], as, h => by cases h; exact ⟨rfl, fun k d h => by simp at h⟩
  | d :: ds, as, h => by
    unfold toArgs at h
    split at h
    · cases h
    rename_i a ha
    split at h
    · cases h
    rename_i as1 h1
    cases h
    obtain ⟨g1, g2⟩ := toArgs_get h1
    refine ⟨by simp [g1], fun k d' hd => ?_⟩
    cases k with
    | zero => simp at hd; subst hd; exact ⟨a, rfl, ha⟩
    | succ k => simpa using g2 k d' (by simpa using hd)
theorem hasVar_get {i : Nat} : ∀ {ds : List R} {k : Nat}, ds[k]? = some (.var i) → hasVar i ds = true
  | [], k, h => by simp at h
  | d :: ds, 0, h => by simp at h; subst h; simp [hasVar]
  | d :: ds, k + 1, h => by
    have := hasVar_get (ds := ds) (k := k) (by simpa using h)
    cases d <;> simp [hasVar, this]
theorem varsApart_get : ∀ {ds : List R} {k l i : Nat}, varsApart ds = true → ds[k]? = some (.var i) → ds[l]? = some (.var i) → k = l
  | [], k, _, _, _, h, _ => by simp at h
  | d :: ds, 0, 0, _, _, _, _ => rfl
  | d :: ds, 0, l + 1, i, hv, h, h' => by
    simp at h
    subst h
    have := hasVar_get (ds := ds) (k := l) (by simpa using h')
    simp [varsApart, this] at hv
  | d :: ds, k + 1, 0, i, hv, h, h' => by
    simp at h'
    subst h'
    have := hasVar_get (ds := ds) (k := k) (by simpa using h)
    simp [varsApart, this] at hv
  | d :: ds, k + 1, l + 1, i, hv, h, h' => by
    have hv' : varsApart ds = true := by cases d <;> simp [varsApart] at hv <;> first | exact hv | exact hv.2
    rw [varsApart_get (ds := ds) (k := k) (l := l) (i := i) hv' (by simpa using h) (by simpa using h')]
theorem varsApart_tail {d : R} {ds : List R} (h : varsApart (d :: ds) = true) : varsApart ds = true := by cases d <;> simp [varsApart] at h <;> first | exact h | exact h.2
theorem back_get : ∀ {ds : List R} {as : List S} {env : Sl}, varsApart ds = true → as.length = ds.length → (∀ (k : Nat) i, ds[k]? = some (.var i) → ∃ m c, env[i]? = some (some (.mu m c))) → (∀ (k : Nat) i, ds[k]? = some (.var i) → ∃ m c, as[k]? = some (.mu m c)) →
    (back ds as env).length = env.length ∧ (∀ j, (∀ k : Nat, ds[k]? ≠ some (.var j)) → (back ds as env)[j]? = env[j]?) ∧ ∀ (k : Nat) i m c m' c', ds[k]? = some (.var i) → env[i]? = some (some (.mu m c)) → as[k]? = some (.mu m' c') → (back ds as env)[i]? = some (some (.mu m c'))
  | [], [], env, _, _, _, _ => ⟨rfl, fun j _ => rfl, fun k i m c m' c' h => by simp at h⟩
  | [], _ :: _, _, _, h, _, _ => by simp at h
  | _ :: _, [], _, _, h, _, _ => by simp at h
  | d :: ds, a :: as, env, hv, hl, hm, hc => by
    have hl' : as.length = ds.length := by simpa using hl
    have hv' := varsApart_tail hv
    have plain : (∀ i, d ≠ .var i) → back (d :: ds) (a :: as) env = back ds as env := fun h => by
      cases d with
      | var i => exact absurd rfl (h i)
      | pd x => rfl
      | nt x => rfl
      | tmp c => rfl
    by_cases hd : ∃ i, d = .var i
    · obtain ⟨i, rfl⟩ := hd
      obtain ⟨m, c, h1⟩ := hm 0 i rfl
      obtain ⟨m', c', h2⟩ := hc 0 i rfl
      simp at h2
      subst h2
      have hi : i < env.length := (List.getElem?_eq_some_iff.mp h1).1
      have e : back (.var i :: ds) (.mu m' c' :: as) env = back ds as (env.set i (some (.mu m c'))) := by simp only [back, h1]
      have ni : ∀ k : Nat, ds[k]? ≠ some (.var i) := fun k z => by
        have := varsApart_get (ds := .var i :: ds) (k := 0) (l := k + 1) (i := i) hv rfl (by simpa using z)
        omega
      obtain ⟨b1, b2, b3⟩ := back_get (ds := ds) (as := as) (env := env.set i (some (.mu m c'))) hv' hl' (fun k j h => by
        obtain ⟨m1, c1, g⟩ := hm (k + 1) j (by simpa using h)
        have : i ≠ j := fun z => by subst z; exact ni k h
        exact ⟨m1, c1, by rw [List.getElem?_set_ne this]; exact g⟩) (fun k j h => by simpa using hc (k + 1) j (by simpa using h))
      rw [e]
      refine ⟨by simp [b1], fun j hj => ?_, fun k j m1 c1 m2 c2 g1 g2 g3 => ?_⟩
      · have n1 : i ≠ j := fun z => by subst z; exact hj 0 rfl
        rw [b2 j (fun k z => hj (k + 1) (by simpa using z)), List.getElem?_set_ne n1]
      · cases k with
        | zero =>
          simp at g1 g3
          subst g1
          rw [b2 _ ni, List.getElem?_set_self hi]
          rw [h1] at g2
          cases g2
          obtain ⟨_, rfl⟩ := g3
          rfl
        | succ k =>
          have g1' : ds[k]? = some (.var j) := by simpa using g1
          have n1 : i ≠ j := fun z => by subst z; exact ni k g1'
          exact b3 k j m1 c1 m2 c2 g1' (by rw [List.getElem?_set_ne n1]; exact g2) (by simpa using g3)
    · have hd' : ∀ i, d ≠ .var i := fun i z => hd ⟨i, z⟩
      rw [plain hd']
      obtain ⟨b1, b2, b3⟩ := back_get (ds := ds) (as := as) (env := env) hv' hl' (fun k j h => by simpa using hm (k + 1) j (by simpa using h)) (fun k j h => by simpa using hc (k + 1) j (by simpa using h))
      refine ⟨b1, fun j hj => b2 j (fun k z => hj (k + 1) (by simpa using z)), fun k j m1 c1 m2 c2 g1 g2 g3 => ?_⟩
      cases k with
      | zero => simp at g1; exact absurd g1 (hd' j)
      | succ k => exact b3 k j m1 c1 m2 c2 (by simpa using g1) g2 (by simpa using g3)

theorem rd_callS {K : PySem.W.Frag} {F : FnD} {f : EA} {n : Nat} {σ : St} {H : Hp} {Q : VK} {E : XK} {B : Mset} {env : Sl} {d : R} {env' : Sl} (hn : ∀ ds e e', f e = some (ds, e') → ds.length = n) (en : EnvR K B H σ env) (ev : eCall F f env = some (d, env')) (q : ∀ B' H' v, At K σ B H env B' H' env' → RR K H B' H' σ env' v d → Q v H') :
    ∃ ds e1, f env = some (ds, e1) ∧ ∀ B1 H1 vs, At K σ B H env B1 H1 e1 → RRA K H B1 H1 σ e1 vs ds → spF K F n vs H1 Q E := by
  unfold eCall eThen at ev
  split at ev
  · cases ev
  rename_i ds e1 h1
  dsimp only at ev
  split at ev
  · cases ev
  rename_i as h2
  split at ev
  rotate_left
  · cases ev
  rename_i hv
  refine ⟨ds, e1, h1, fun B1 H1 vs a1 rr => ?_⟩
  have lds : ds.length = n := hn _ _ _ h1
  obtain ⟨la, ga⟩ := toArgs_get h2
  have hlv : vs.length = ds.length := rr.len
  have hls : as.length = vs.length := by omega
  -- what an argument is
  have kind : ∀ (k : Nat) s v, as[k]? = some s → vs[k]? = some v → (∃ x, s = .pd x ∧ Rp K B1 H1 v x ∧ ∃ d, ds[k]? = some d ∧ ∀ i, d ≠ .var i) ∨ (∃ x p, s = .nt x ∧ v = .ref p ∧ NtR K B1 H1 p x) ∨ (∃ c p, s = .mu .bor c ∧ ds[k]? = some (.tmp c) ∧ v = .ref p ∧ H p = none ∧ B1 p ∧ CtR K B1 H1 p c ∧ ∀ (i : Nat) m d, e1[i]? = some (some (S.mu m d)) → σ[i]? ≠ some (some (V.ref p))) ∨
      (∃ i m c p, s = .mu (if m = .fro then .fro else .bor) c ∧ ds[k]? = some (.var i) ∧ e1[i]? = some (some (.mu m c)) ∧ v = .ref p ∧ σ[i]? = some (some (.ref p)) ∧ B1 p ∧ CtR K B1 H1 p c) := by
    intro k s v hs hv'
    have hk : k < ds.length := by rw [← la]; exact (List.getElem?_eq_some_iff.mp hs).1
    obtain ⟨s', g1, g2⟩ := ga k ds[k] (List.getElem?_eq_getElem hk)
    rw [hs] at g1
    cases g1
    have hdk : ds[k]? = some ds[k] := List.getElem?_eq_getElem hk
    have hr := rr.each k v ds[k] hv' hdk
    revert g2 hr hdk
    generalize ds[k] = d
    intro g2 hdk hr
    cases d with
    | pd x => cases g2; exact .inl ⟨x, rfl, hr, _, hdk, fun _ => nofun⟩
    | nt x => cases g2; obtain ⟨p, e1, e2⟩ := hr; exact .inr (.inl ⟨x, p, rfl, e1, e2⟩)
    | tmp c =>
      cases g2
      obtain ⟨p, rfl, r1, r2, r3, r4⟩ := hr
      exact .inr (.inr (.inl ⟨c, p, rfl, hdk, rfl, r1, r2, r3, r4⟩))
    | var i =>
      simp only [toArg] at g2
      have hr : σ[i]? = some (some v) := hr
      split at g2
      · rename_i c hc
        cases g2
        obtain ⟨p, k1, k2, k3⟩ := a1.en.mu i _ _ hc
        rw [hr] at k1
        cases k1
        exact .inr (.inr (.inr ⟨i, .fro, c, p, by simp, hdk, hc, rfl, hr, k2, k3⟩))
      · rename_i m c hnf hc
        cases g2
        obtain ⟨p, k1, k2, k3⟩ := a1.en.mu i _ _ hc
        rw [hr] at k1
        cases k1
        refine .inr (.inr (.inr ⟨i, m, c, p, ?_, hdk, hc, rfl, hr, k2, k3⟩))
        have hm : m ≠ .fro := fun z => hnf z
        rw [if_neg hm]
      · cases g2
  have enA : EnvR K B1 H1 (vs.map some) (as.map some) := by
    refine ⟨by simp [hls], fun k x h => ?_, fun k x h => ?_, fun k m c h => ?_, fun k l m m' c c' p g1 g2 g3 g4 => ?_, a1.en.dom, a1.en.tb⟩
    · have h := map_get.mp h
      have hk : k < vs.length := by rw [← hls]; exact (List.getElem?_eq_some_iff.mp h).1
      have hvk : vs[k]? = some vs[k] := List.getElem?_eq_getElem hk
      rcases kind k _ _ h hvk with ⟨y, e, r, _⟩ | ⟨y, p, e, _⟩ | ⟨c, p, e, _⟩ | ⟨i, m, c, p, e, _⟩
      · cases e; exact ⟨vs[k], map_get.mpr hvk, r⟩
      · cases e
      · cases e
      · cases e
    · have h := map_get.mp h
      have hk : k < vs.length := by rw [← hls]; exact (List.getElem?_eq_some_iff.mp h).1
      have hvk : vs[k]? = some vs[k] := List.getElem?_eq_getElem hk
      rcases kind k _ _ h hvk with ⟨y, e, r, _⟩ | ⟨y, p, e, e2, r⟩ | ⟨c, p, e, _⟩ | ⟨i, m, c, p, e, _⟩
      · cases e
      · cases e; exact ⟨p, map_get.mpr (by rw [hvk, e2]), r⟩
      · cases e
      · cases e
    · have h := map_get.mp h
      have hk : k < vs.length := by rw [← hls]; exact (List.getElem?_eq_some_iff.mp h).1
      have hvk : vs[k]? = some vs[k] := List.getElem?_eq_getElem hk
      rcases kind k _ _ h hvk with ⟨y, e, r, _⟩ | ⟨y, p, e, _⟩ | ⟨c1, p, e, _, ev, _, r2, r3, _⟩ | ⟨i, m1, c1, p, e, _, _, ev, _, r2, r3⟩
      · cases e
      · cases e
      · cases e; exact ⟨p, map_get.mpr (by rw [hvk, ev]), r2, r3⟩
      · cases e; exact ⟨p, map_get.mpr (by rw [hvk, ev]), r2, r3⟩
    · have g1 := map_get.mp g1
      have g2 := map_get.mp g2
      have g3 := map_get.mp g3
      have g4 := map_get.mp g4
      rcases kind k _ _ g1 g3 with ⟨y, e, r, _⟩ | ⟨y, p, e, _⟩ | ⟨c1, p1, e, d1, ev1, _, _, _, n1⟩ | ⟨i1, m1, c1, p1, e, d1, s1, ev1, t1, _⟩
      · cases e
      · cases e
      · cases ev1
        rcases kind l _ _ g2 g4 with ⟨y, e', r, _⟩ | ⟨y, p, e', _⟩ | ⟨c2, p2, e', d2, ev2, _, _, _, n2⟩ | ⟨i2, m2, c2, p2, e', d2, s2, ev2, t2, _⟩
        · cases e'
        · cases e'
        · cases ev2
          by_cases z : k = l
          · exact z
          · exact (rr.apart k l _ _ _ z d1 d2 g3 g4).elim
        · cases ev2; exact absurd t2 (n1 _ _ _ s2)
      · cases ev1
        rcases kind l _ _ g2 g4 with ⟨y, e', r, _⟩ | ⟨y, p, e', _⟩ | ⟨c2, p2, e', d2, ev2, _, _, _, n2⟩ | ⟨i2, m2, c2, p2, e', d2, s2, ev2, t2, _⟩
        · cases e'
        · cases e'
        · cases ev2; exact absurd t1 (n2 _ _ _ s1)
        · cases ev2
          have z := a1.en.inj i1 i2 _ _ _ _ _ s1 s2 t1 t2
          subst z
          exact varsApart_get hv d1 d2
  split at ev
  · cases ev
  · cases ev
  rename_i d0 as1 hd0 hF
  cases ev
  refine ⟨by omega, B1, as, d, as1, enA, hF, fun B2 H2 v a2 r2 nv => ?_⟩
  have las1 : as1.length = vs.length := by simpa using a2.en.len
  have bk := back_get (ds := ds) (as := as1) (env := e1) hv (by omega) (fun k i h => by
      obtain ⟨s, g1, g2⟩ := ga k _ h
      simp only [toArg] at g2
      split at g2
      · rename_i hc; exact ⟨_, _, hc⟩
      · rename_i hc; exact ⟨_, _, hc⟩
      · cases g2) (fun k i h => by
      obtain ⟨s, g1, g2⟩ := ga k _ h
      have : ∃ m c, s = .mu m c := by
        simp only [toArg] at g2
        split at g2
        · cases g2; exact ⟨_, _, rfl⟩
        · cases g2; exact ⟨_, _, rfl⟩
        · cases g2
      obtain ⟨m, c, rfl⟩ := this
      obtain ⟨c', h'⟩ := a2.ks k m c (map_get.mpr g1)
      exact ⟨m, c', map_get.mp h'⟩)
  obtain ⟨bl, bo, bv⟩ := bk
  -- W of the call: of the caller's or new
  have wcall : ∀ p, Wof (vs.map some) (as.map some) p → (∃ (k i : Nat) (m : Md) (c : Ct), ds[k]? = some (R.var i) ∧ e1[i]? = some (some (S.mu m c)) ∧ m ≠ .fro ∧ σ[i]? = some (some (V.ref p))) ∨ (H p = none ∧ ∀ (i : Nat) m d, e1[i]? = some (some (S.mu m d)) → σ[i]? ≠ some (some (V.ref p))) := by
    rintro p ⟨k, m, c, g1, g2, g3⟩
    rcases kind k _ _ (map_get.mp g1) (map_get.mp g3) with ⟨y, e, r, _⟩ | ⟨y, p, e, _⟩ | ⟨c1, p1, e, d1, ev1, h0, _, _, n1⟩ | ⟨i1, m1, c1, p1, e, d1, s1, ev1, t1, _⟩
    · cases e
    · cases e
    · cases ev1; exact .inr ⟨h0, n1⟩
    · cases ev1
      cases e
      refine .inl ⟨k, i1, m1, _, d1, s1, fun z => ?_, t1⟩
      rw [if_pos z] at g2
      exact g2 rfl
  have wW : ∀ p, Wof (vs.map some) (as.map some) p → Wof σ env p ∨ H p = none := fun p w => by
    rcases wcall p w with ⟨k, i, m, c, g1, g2, g3, g4⟩ | ⟨h0, _⟩
    · exact a1.st.sub p ⟨i, m, c, g2, g3, g4⟩
    · exact .inr h0
  have same : ∀ (j : Nat) m c, (back ds as1 e1)[j]? = some (some (S.mu m c)) → ∃ c', e1[j]? = some (some (.mu m c')) := fun j m c h => by
    by_cases z : ∃ k : Nat, ds[k]? = some (.var j)
    · obtain ⟨k, hk⟩ := z
      obtain ⟨s, g1, g2⟩ := ga k _ hk
      have : ∃ m c, e1[j]? = some (some (.mu m c)) ∧ ∃ m', s = .mu m' c := by
        simp only [toArg] at g2
        split at g2
        · rename_i hc; cases g2; exact ⟨_, _, hc, _, rfl⟩
        · rename_i hc; cases g2; exact ⟨_, _, hc, _, rfl⟩
        · cases g2
      obtain ⟨m1, c1, h3, m2, rfl⟩ := this
      obtain ⟨c2, h4⟩ := a2.ks k m2 c1 (map_get.mpr g1)
      rw [bv k j m1 c1 m2 c2 hk h3 (map_get.mp h4)] at h
      cases h
      exact ⟨c1, h3⟩
    · rw [bo j (fun k hk => z ⟨k, hk⟩)] at h
      exact ⟨c, h⟩
  have same' : ∀ (j : Nat) m c, e1[j]? = some (some (S.mu m c)) → ∃ c', (back ds as1 e1)[j]? = some (some (.mu m c')) ∧ ((∀ k : Nat, ds[k]? ≠ some (.var j)) ∧ c' = c ∨ ∃ (k : Nat) (m' : Md), ds[k]? = some (R.var j) ∧ as1[k]? = some (S.mu m' c')) := fun j m c h => by
    by_cases z : ∃ k : Nat, ds[k]? = some (.var j)
    · obtain ⟨k, hk⟩ := z
      obtain ⟨s, g1, g2⟩ := ga k _ hk
      have : ∃ m', s = .mu m' c := by
        simp only [toArg] at g2
        split at g2
        · rename_i hc; rw [h] at hc; cases hc; cases g2; exact ⟨_, rfl⟩
        · rename_i hc; rw [h] at hc; cases hc; cases g2; exact ⟨_, rfl⟩
        · cases g2
      obtain ⟨m2, rfl⟩ := this
      obtain ⟨c2, h4⟩ := a2.ks k m2 c (map_get.mpr g1)
      exact ⟨c2, bv k j m c m2 c2 hk h (map_get.mp h4), .inr ⟨k, m2, hk, map_get.mp h4⟩⟩
    · exact ⟨c, by rw [bo j (fun k hk => z ⟨k, hk⟩)]; exact h, .inl ⟨fun k hk => z ⟨k, hk⟩, rfl⟩⟩
  have gr : Grow B1 H1 B2 H2 := a2.grow enA
  have enE : EnvR K B2 H2 σ (back ds as1 e1) := by
    refine ⟨by rw [bl]; exact a1.en.len, fun j x h => ?_, fun j x h => ?_, fun j m c h => ?_, fun j k m m' c c' p g1 g2 g3 g4 => ?_, a2.en.dom, a2.en.tb⟩
    · have h' : e1[j]? = some (some (.pd x)) := by
        by_cases z : ∃ k : Nat, ds[k]? = some (.var j)
        · obtain ⟨k, hk⟩ := z
          obtain ⟨s, g1, g2⟩ := ga k _ hk
          have : ∃ m c, e1[j]? = some (some (.mu m c)) := by
            simp only [toArg] at g2
            split at g2
            · rename_i hc; exact ⟨_, _, hc⟩
            · rename_i hc; exact ⟨_, _, hc⟩
            · cases g2
          obtain ⟨m, c, h3⟩ := this
          obtain ⟨c', h4, _⟩ := same' j m c h3
          rw [h4] at h
          cases h
        · rw [bo j (fun k hk => z ⟨k, hk⟩)] at h; exact h
      obtain ⟨w, g1, g2⟩ := a1.en.pd j x h'
      exact ⟨w, g1, g2.grow gr⟩
    · have h' : e1[j]? = some (some (.nt x)) := by
        by_cases z : ∃ k : Nat, ds[k]? = some (.var j)
        · obtain ⟨k, hk⟩ := z
          obtain ⟨s, g1, g2⟩ := ga k _ hk
          have : ∃ m c, e1[j]? = some (some (.mu m c)) := by
            simp only [toArg] at g2
            split at g2
            · rename_i hc; exact ⟨_, _, hc⟩
            · rename_i hc; exact ⟨_, _, hc⟩
            · cases g2
          obtain ⟨m, c, h3⟩ := this
          obtain ⟨c', h4, _⟩ := same' j m c h3
          rw [h4] at h
          cases h
        · rw [bo j (fun k hk => z ⟨k, hk⟩)] at h; exact h
      obtain ⟨w, g1, g2⟩ := a1.en.nt j x h'
      exact ⟨w, g1, g2.grow gr⟩
    · obtain ⟨c0, h0⟩ := same j m c h
      obtain ⟨p, g1, g2, g3⟩ := a1.en.mu j m c0 h0
      obtain ⟨c', h4, hc⟩ := same' j m c0 h0
      rw [h] at h4
      cases h4
      rcases hc with ⟨hno, rfl⟩ | ⟨k, m', hk, ha⟩
      · have nw : ¬ Wof (vs.map some) (as.map some) p := fun w => by
          rcases wcall p w with ⟨k, i, m1, c1, k1, k2, k3, k4⟩ | ⟨_, hns⟩
          · have z := a1.en.inj j i _ _ _ _ p h0 k2 g1 k4
            subst z
            exact hno k k1
          · exact hns j m _ h0 g1
        exact ⟨p, g1, a2.st.old p g2 nw, g3.keep a2.st enA.wb nw⟩
      · obtain ⟨p', k1, k2, k3⟩ := a2.en.mu k m' c (map_get.mpr ha)
        have hvk : vs[k]? = some (.ref p') := map_get.mp k1
        have := rr.each k _ _ hvk hk
        have this : σ[j]? = some (some (.ref p')) := this
        rw [g1] at this
        cases this
        exact ⟨p, g1, k2, k3⟩
    · obtain ⟨c1, h1'⟩ := same j m c g1
      obtain ⟨c2, h2'⟩ := same k m' c' g2
      exact a1.en.inj j k m m' c1 c2 p h1' h2' g3 g4
  refine q B2 H2 v ⟨⟨fun p o h c => ?_, fun p h => ?_, fun p h w => ?_, fun p w => ?_, fun p h => a1.st.liv p (a2.st.liv p h), fun x p q us h nw e => ?_⟩, enE, fun j m c h => ?_, fun j m c h => ?_⟩ ?_
  · refine a2.st.keep p o (a1.st.keep p o h c) ?_
    rcases c with c | c
    · refine .inl ⟨fun w => ?_, c.2⟩
      rcases wW p w with w | w
      · exact c.1 w
      · rw [h] at w; cases w
    · exact .inr c
  · rcases a2.st.new p h with h | h
    · exact a1.st.new p h
    · exact .inr (a1.st.liv p h)
  · refine a2.st.old p (a1.st.old p h w) fun w' => ?_
    rcases wW p w' with z | z
    · exact w z
    · obtain ⟨o, ho⟩ := en.dom p h
      rw [z] at ho; cases ho
  · obtain ⟨j, m, c, g1, g2, g3⟩ := w
    obtain ⟨c0, h0⟩ := same j m c g1
    exact a1.st.sub p ⟨j, m, c0, h0, g2, g3⟩
  · obtain ⟨C, dx, fs, h1, h2⟩ := h
    refine a2.st.pa x p q us ⟨C, dx, fs, a1.st.keep x _ h1 (.inl ⟨nw, nt_ins⟩), h2⟩ (fun w => ?_) (a1.st.pa x p q us ⟨C, dx, fs, h1, h2⟩ nw e)
    rcases wW x w with w | w
    · exact nw w
    · rw [h1] at w; cases w
  · obtain ⟨c0, h0⟩ := same j m c h
    exact a1.sm j m c0 h0
  · obtain ⟨c0, h0⟩ := a1.ks j m c h
    obtain ⟨c', h4, _⟩ := same' j m c0 h0
    exact ⟨c', h4⟩
  · cases d with
    | pd x => exact r2
    | nt x => exact r2
    | var i => exact absurd rfl (nv i)
    | tmp c =>
      obtain ⟨p, rfl, k1, k2, k3, k4⟩ := r2
      refine ⟨p, rfl, a1.st.liv p k1, k2, k3, fun j m d h1 h2 => ?_⟩
      obtain ⟨c0, h0⟩ := same j m d h1
      obtain ⟨p', g1, g2, g3⟩ := a1.en.mu j m c0 h0
      rw [h2] at g1
      cases g1
      obtain ⟨o, ho⟩ := a1.en.dom p g2
      rw [k1] at ho; cases ho
theorem rd_call {K : PySem.W.Frag} {F : FnD} {f : EA} {n : Nat} {σ : St} {H : Hp} {Q : VK} {E : XK} (hn : ∀ ds e e', f e = some (ds, e') → ds.length = n) (h : tE K (eCall F f) σ H Q) : tCall (spF K F n) [] E (tA K f) σ H Q := by
  obtain ⟨B, env, d, env', en, ev, q⟩ := h
  obtain ⟨ds, e1, h1, h2⟩ := rd_callS (E := E) hn en ev q
  exact ⟨B, env, ds, e1, en, h1, fun B1 H1 vs a1 rr => by
    show spF K F n (vs ++ []) H1 Q E
    rw [List.append_nil]
    exact h2 B1 H1 vs a1 rr⟩
end T3

end
section
set_option linter.all false
set_option autoImplicit false
set_option Elab.async false
namespace T3
open PySem L2
variable [TabL]

theorem small {n : Nat} (h : n ≤ 1000000) : n < sizeLine := by rw [sizeLine_eq]; omega

def wipeE (env : Sl) : List Nat → Sl
  | [] => env
  | v :: vs => (wipeE env vs).set v none
def unwipe (env : Sl) (e : Sl) : List Nat → Sl
  | [] => e
  | v :: vs => (unwipe env e vs).set v (env.getD v none)
theorem wipeE_len {env : Sl} : ∀ {vs : List Nat}, (wipeE env vs).length = env.length
  | [] => rfl
  | v :: vs => by simp [wipeE, wipeE_len (vs := vs)]
theorem wipeE_in {env : Sl} {s : S} : ∀ {vs : List Nat} {i : Nat}, (wipeE env vs)[i]? = some (some s) → i ∉ vs ∧ env[i]? = some (some s)
  | [], i, h => ⟨by simp, h⟩
  | v :: vs, i, h => by
    unfold wipeE at h
    rcases get_set h with ⟨e, e'⟩ | ⟨e, h⟩
    · cases e'
    · obtain ⟨h1, h2⟩ := wipeE_in h
      exact ⟨by simp only [List.mem_cons, not_or]; exact ⟨fun z => e z.symm, h1⟩, h2⟩
theorem wipeE_out {env : Sl} : ∀ {vs : List Nat} {i : Nat}, i ∉ vs → (wipeE env vs)[i]? = env[i]?
  | [], i, h => rfl
  | v :: vs, i, h => by
    simp only [List.mem_cons, not_or] at h
    unfold wipeE
    rw [List.getElem?_set_ne (fun z => h.1 z.symm), wipeE_out h.2]
theorem wipe_out {σ : St} : ∀ {vs : List Nat} {i : Nat}, i ∉ vs → (wipe σ vs)[i]? = σ[i]?
  | [], i, h => rfl
  | v :: vs, i, h => by
    simp only [List.mem_cons, not_or] at h
    unfold wipe
    rw [List.getElem?_set_ne (fun z => h.1 z.symm), wipe_out h.2]
theorem unwipe_len {env e : Sl} : ∀ {vs : List Nat}, (unwipe env e vs).length = e.length
  | [] => rfl
  | v :: vs => by simp [unwipe, unwipe_len (vs := vs)]
theorem unwipe_out {env e : Sl} : ∀ {vs : List Nat} {i : Nat}, i ∉ vs → (unwipe env e vs)[i]? = e[i]?
  | [], i, h => rfl
  | v :: vs, i, h => by
    simp only [List.mem_cons, not_or] at h
    unfold unwipe
    rw [List.getElem?_set_ne (fun z => h.1 z.symm), unwipe_out h.2]
theorem unwipe_in {env e : Sl} (hl : e.length = env.length) : ∀ {vs : List Nat} {i : Nat}, i ∈ vs → (unwipe env e vs)[i]? = env[i]?
  | [], i, h => by simp at h
  | v :: vs, i, h => by
    unfold unwipe
    by_cases z : v = i
    · subst z
      by_cases q : v < e.length
      · rw [List.getElem?_set_self (by rw [unwipe_len]; exact q)]
        rw [List.getD_eq_getElem?_getD, List.getElem?_eq_getElem (by omega)]
        rfl
      · rw [List.getElem?_eq_none (by simp [unwipe_len]; omega), List.getElem?_eq_none (by omega)]
    · rw [List.getElem?_set_ne z]
      refine unwipe_in hl ?_
      simp only [List.mem_cons] at h
      rcases h with h | h
      · exact absurd h.symm z
      · exact h
def Only (g : GG) (vs : List Nat) : Prop := ∀ x e e', g x e = some e' → ∀ j, j ∉ vs → e'[j]? = e[j]?
def tGv (K : PySem.W.Frag) (g : GG) (vs : List Nat) : TG := fun v σ H Q => ∃ B env x env', EnvR K B H σ env ∧ Rp K B H v x ∧ g x env = some env' ∧ ∀ B' σ' H', AtS K σ B H env σ' B' H' env' → wipe σ' vs = wipe σ vs → Q σ' H'
theorem wipe_set {σ : St} {x : Option V} : ∀ {vs : List Nat} {i : Nat}, i ∈ vs → wipe (σ.set i x) vs = wipe σ vs
  | [], i, h => by simp at h
  | v :: vs, i, h => by
    unfold wipe
    by_cases z : i ∈ vs
    · rw [wipe_set z]
    · have e : i = v := by
        simp only [List.mem_cons] at h
        rcases h with h | h
        · exact h
        · exact absurd h z
      subst e
      have : ∀ {ws : List Nat}, i ∉ ws → wipe (σ.set i x) ws = (wipe σ ws).set i x := by
        intro ws
        induction ws with
        | nil => intro _; rfl
        | cons w ws ih =>
          intro hw
          simp only [List.mem_cons, not_or] at hw
          show (wipe (σ.set i x) ws).set w none = ((wipe σ ws).set w none).set i x
          rw [ih hw.2, List.set_comm _ _ hw.1]
      rw [this z, List.set_set]
theorem wipe_idem {σ : St} : ∀ {vs : List Nat}, wipe (wipe σ vs) vs = wipe σ vs := fun {vs} => by
  have : ∀ (us ws : List Nat), (∀ u ∈ us, u ∈ ws) → wipe (wipe σ us) ws = wipe σ ws := by
    intro us
    induction us with
    | nil => intro ws _; rfl
    | cons u us ih =>
      intro ws h
      show wipe ((wipe σ us).set u none) ws = wipe σ ws
      rw [wipe_set (h u (by simp)), ih ws (fun z hz => h z (by simp [hz]))]
  exact this vs vs (fun _ h => h)
theorem rd_gNv {K : PySem.W.Frag} {i : Nat} {vs : List Nat} (hi : i ∈ vs) {v : V} {σ : St} {H : Hp} {Q : St → Hp → Prop} (h : tGv K (gN i) vs v σ H Q) : gName i v σ H Q := by
  obtain ⟨B, env, x, env', en, r, ev, q⟩ := h
  exact q B _ H (AtS.set en (.refl en) (d := .pd x) r ev) (wipe_set hi)
theorem only_gN {i : Nat} {vs : List Nat} (hi : i ∈ vs) : Only (gN i) vs := by
  intro x e e' h j hj
  have hij : i ≠ j := fun z => by subst z; exact hj hi
  simp only [gN, setR] at h
  split at h
  · cases h; rw [List.getElem?_set_ne hij]
  · cases h
def tGsv (K : PySem.W.Frag) (g : GGs) (vs : List Nat) : TGs := fun ws σ H Q => ∃ B env xs env', EnvR K B H σ env ∧ RpA K B H ws xs ∧ g xs env = some env' ∧ ∀ B' σ' H', AtS K σ B H env σ' B' H' env' → wipe σ' vs = wipe σ vs → Q σ' H'
def OnlyS (g : GGs) (vs : List Nat) : Prop := ∀ x e e', g x e = some e' → ∀ j, j ∉ vs → e'[j]? = e[j]?
theorem rd_gNlv {K : PySem.W.Frag} {us : List Nat} {vs : List V} {σ : St} {H : Hp} {Q : St → Hp → Prop} (h : tGsv K gNl us vs σ H Q) : gNil vs σ H Q := by
  obtain ⟨B, env, x, env', en, r, ev, q⟩ := h
  unfold gNl at ev
  split at ev
  · cases ev; cases r; exact ⟨rfl, q B _ H (.refl en) rfl⟩
  · cases ev
theorem rd_gCnv {K : PySem.W.Frag} {us : List Nat} {g : GG} {gs : GGs} {vs : List V} {σ : St} {H : Hp} {Q : St → Hp → Prop} (h : tGsv K (gCn g gs) us vs σ H Q) : gCons (tGv K g us) (tGsv K gs us) vs σ H Q := by
  obtain ⟨B, env, xs, env', en, r, ev, q⟩ := h
  unfold gCn at ev
  split at ev
  · cases ev
  rename_i x xs
  split at ev
  · cases ev
  rename_i e1 h1
  cases r with
  | cons r1 r2 =>
    exact ⟨_, _, rfl, B, env, x, e1, en, r1, h1, fun B1 σ1 H1 a1 w1 => ⟨B1, e1, xs, env', a1.en, r2.grow (a1.st.grow en.wb), ev, fun B2 σ2 H2 a2 w2 => q B2 σ2 H2 (a1.trans en a2) (w2.trans w1)⟩⟩
theorem rd_gTv {K : PySem.W.Frag} {us : List Nat} {n : Nat} {gs : GGs} {v : V} {σ : St} {H : Hp} {Q : St → Hp → Prop} (h : tGv K (gT n gs) us v σ H Q) : gTup K n (tGsv K gs us) v σ H Q := by
  obtain ⟨B, env, x, env', en, r, ev, q⟩ := h
  unfold gT at ev
  split at ev
  · split at ev
    · rename_i xs hl
      obtain ⟨a, vs, rfl, h1, h2⟩ := Cn.tuple (.rp r)
      exact ⟨a, vs, rfl, h1, by rw [h2.length]; exact hl, B, env, xs, env', en, h2, ev, q⟩
    · cases ev
  · cases ev
theorem only_gNl {vs : List Nat} : OnlyS gNl vs := by
  intro x e e' h j hj
  unfold gNl at h
  split at h
  · cases h; rfl
  · cases h
theorem only_gCn {vs : List Nat} {g : GG} {gs : GGs} (h1 : Only g vs) (h2 : OnlyS gs vs) : OnlyS (gCn g gs) vs := by
  intro x e e' h j hj
  unfold gCn at h
  split at h
  · cases h
  split at h
  · cases h
  rename_i e1 k1
  rw [h2 _ _ _ h j hj, h1 _ _ _ k1 j hj]
theorem only_gT {vs : List Nat} {n : Nat} {gs : GGs} (h1 : OnlyS gs vs) : Only (gT n gs) vs := by
  intro x e e' h j hj
  unfold gT at h
  split at h
  · split at h
    · exact h1 _ _ _ h j hj
    · cases h
  · cases h

theorem EnvR.wiped {K : PySem.W.Frag} {B : Mset} {H : Hp} {σ : St} {env : Sl} (en : EnvR K B H σ env) (vs : List Nat) : EnvR K B H (wipe σ vs) (wipeE env vs) := by
  refine ⟨by rw [wipeE_len, wipe_length]; exact en.len, fun i x h => ?_, fun i x h => ?_, fun i m c h => ?_, fun i j m n c d a h1 h2 h3 h4 => ?_, en.dom, en.tb⟩
  · obtain ⟨h1, h2⟩ := wipeE_in h
    rw [wipe_out h1]
    exact en.pd i x h2
  · obtain ⟨h1, h2⟩ := wipeE_in h
    rw [wipe_out h1]
    exact en.nt i x h2
  · obtain ⟨h1, h2⟩ := wipeE_in h
    rw [wipe_out h1]
    exact en.mu i m c h2
  · obtain ⟨k1, k2⟩ := wipeE_in h1
    obtain ⟨k3, k4⟩ := wipeE_in h2
    rw [wipe_out k1] at h3
    rw [wipe_out k3] at h4
    exact en.inj i j m n c d a k2 k4 h3 h4
theorem At.unwiped {K : PySem.W.Frag} {σ σ2 : St} {B B2 B4 : Mset} {H H2 H4 : Hp} {e e2 e4 : Sl} {vs : List Nat} (en : EnvR K B H σ e) (a : AtS K (wipe σ vs) B H (wipeE e vs) σ2 B2 H2 e2) (hw : wipe σ2 vs = wipe σ vs) (ho : ∀ j, j ∉ vs → e2[j]? = (wipeE e vs)[j]?)
    (b : At K σ2 B2 H2 e2 B4 H4 e4) : At K σ B H e B4 H4 (unwipe e e4 vs) := by
  have ew := en.wiped vs
  have t : Stp (Wof (wipe σ vs) (wipeE e vs)) B H (Wof σ2 e4) B4 H4 := a.st.trans b.st ew.wb ew.dom
  have hσ : ∀ j, j ∉ vs → σ2[j]? = σ[j]? := fun j hj => by rw [← wipe_out hj, hw, wipe_out hj]
  have l2 : e2.length = e.length := by rw [a.en.len, ← wipe_length σ2 vs, hw, wipe_length, en.len]
  have l4 : e4.length = e.length := by rw [b.en.len, ← a.en.len, l2]
  have wsub : ∀ p, Wof (wipe σ vs) (wipeE e vs) p → Wof σ e p := by
    rintro p ⟨i, m, c, h1, h2, h3⟩
    obtain ⟨k1, k2⟩ := wipeE_in h1
    rw [wipe_out k1] at h3
    exact ⟨i, m, c, k2, h2, h3⟩
  have hid : ∀ {i p}, i ∈ vs → (∃ m c, e[i]? = some (some (S.mu m c))) → σ[i]? = some (some (.ref p)) → ¬ Wof (wipe σ vs) (wipeE e vs) p := by
    rintro i p hi ⟨m, c, hm⟩ hp ⟨j, m1, c1, h1, h2, h3⟩
    obtain ⟨k1, k2⟩ := wipeE_in h1
    rw [wipe_out k1] at h3
    have z := en.inj i j _ _ _ _ p hm k2 hp h3
    subst z
    exact k1 hi
  have vis : ∀ (i : Nat) m c, i ∉ vs → e4[i]? = some (some (S.mu m c)) → ∃ c', e[i]? = some (some (.mu m c')) := fun i m c hi h => by
    obtain ⟨c1, h1⟩ := b.sm i m c h
    rw [ho i hi, wipeE_out hi] at h1
    exact ⟨c1, h1⟩
  have src : ∀ (i : Nat) m c, (unwipe e e4 vs)[i]? = some (some (S.mu m c)) → ∃ c', e[i]? = some (some (.mu m c')) := fun i m c h => by
    by_cases hi : i ∈ vs
    · rw [unwipe_in l4 hi] at h; exact ⟨c, h⟩
    · rw [unwipe_out hi] at h; exact vis i m c hi h
  refine ⟨⟨fun q o h c => t.keep q o h (c.imp (fun n => ⟨fun w => n.1 (wsub q w), n.2⟩) id), t.new, fun q h w => t.old q h fun w' => w (wsub q w'), fun q w => ?_, t.liv, fun x p q us h nw e => t.pa x p q us h (fun w => nw (wsub x w)) e⟩, ⟨by rw [unwipe_len, l4, en.len], fun i x h => ?_, fun i x h => ?_, fun i m c h => ?_, fun i j m n c d p h1 h2 h3 h4 => ?_, b.en.dom, b.en.tb⟩, src, fun i m c h => ?_⟩
  · obtain ⟨i, m, c, h1, h2, h3⟩ := w
    obtain ⟨c', h4⟩ := src i m c h1
    exact .inl ⟨i, m, c', h4, h2, h3⟩
  · by_cases hi : i ∈ vs
    · rw [unwipe_in l4 hi] at h
      obtain ⟨v, k1, k2⟩ := en.pd i x h
      exact ⟨v, k1, k2.grow (t.grow ew.wb)⟩
    · rw [unwipe_out hi] at h
      obtain ⟨v, k1, k2⟩ := b.en.pd i x h
      rw [hσ i hi] at k1
      exact ⟨v, k1, k2⟩
  · by_cases hi : i ∈ vs
    · rw [unwipe_in l4 hi] at h
      obtain ⟨v, k1, k2⟩ := en.nt i x h
      exact ⟨v, k1, k2.grow (t.grow ew.wb)⟩
    · rw [unwipe_out hi] at h
      obtain ⟨v, k1, k2⟩ := b.en.nt i x h
      rw [hσ i hi] at k1
      exact ⟨v, k1, k2⟩
  · by_cases hi : i ∈ vs
    · rw [unwipe_in l4 hi] at h
      obtain ⟨p, k1, k2, k3⟩ := en.mu i m c h
      have nw := hid hi ⟨m, c, h⟩ k1
      exact ⟨p, k1, t.old p k2 nw, k3.keep t ew.wb nw⟩
    · rw [unwipe_out hi] at h
      obtain ⟨p, k1, k2, k3⟩ := b.en.mu i m c h
      rw [hσ i hi] at k1
      exact ⟨p, k1, k2, k3⟩
  · obtain ⟨c1, g1⟩ := src i m c h1
    obtain ⟨c2, g2⟩ := src j n d h2
    exact en.inj i j m n c1 c2 p g1 g2 h3 h4
  · by_cases hi : i ∈ vs
    · exact ⟨c, by rw [unwipe_in l4 hi]; exact h⟩
    · have h1 : e2[i]? = some (some (.mu m c)) := by rw [ho i hi, wipeE_out hi]; exact h
      obtain ⟨c', h2⟩ := b.ks i m c h1
      exact ⟨c', by rw [unwipe_out hi]; exact h2⟩
theorem At.app {K : PySem.W.Frag} {σ : St} {B B4 : Mset} {H H4 : Hp} {e e4 : Sl} {D : Addr} {ws ws' : List V} (en : EnvR K B H σ e) (a : At K σ B H e B4 H4 e4) (nD : H D = none) (bD : B4 D) (hD : H4 D = some (.lst ws)) (sD : ∀ (i : Nat) m d, e4[i]? = some (some (S.mu m d)) → σ[i]? ≠ some (some (V.ref D)))
    (fz : Mset) (hf : ∀ q, fz q → q ≠ D ∧ H q = none ∧ ∀ (i : Nat) m d, e4[i]? = some (some (S.mu m d)) → σ[i]? ≠ some (some (V.ref q))) :
    Grow B4 H4 (fun q => B4 q ∧ ¬ fz q) (upd H4 D (.lst ws')) ∧ At K σ B H e (fun q => B4 q ∧ ¬ fz q) (upd H4 D (.lst ws')) e4 := by
  have g : Grow B4 H4 (fun q => B4 q ∧ ¬ fz q) (upd H4 D (.lst ws')) := by
    refine ⟨fun q o h c => ?_, fun q h => .inl h.1⟩
    have : q ≠ D := fun z => by
      subst z
      rcases c with c | c
      · exact c.1 bD
      · rw [hD] at h; cases h; exact c
    rw [upd_ne this]; exact h
  refine ⟨g, ⟨fun q o h c => ?_, fun q h => a.st.new q h.1, fun q h w => ⟨a.st.old q h w, fun f => ?_⟩, a.st.sub, fun q h => ?_, fun x p q us h nw e => ?_⟩, ⟨a.en.len, fun i x h => ?_, fun i x h => ?_, fun i m c h => ?_, a.en.inj, fun q h => ?_, a.en.tb.on (fun q o h n _ => by rw [upd_ne (fun z => n (by rw [z]; exact bD))]; exact h) g.new (a.en.tb.2.put (by (intro _ _ _ z; cases z)))⟩, a.sm, a.ks⟩
  · have : q ≠ D := fun z => by rw [z, nD] at h; cases h
    rw [upd_ne this]; exact a.st.keep q o h c
  · obtain ⟨o, ho⟩ := en.dom q h
    rw [(hf q f).2.1] at ho; cases ho
  · by_cases z : q = D
    · rw [z]; exact nD
    · rw [upd_ne z] at h; exact a.st.liv q h
  · have k := a.st.pa x p q us h nw e
    rw [upd_ne (show p ≠ D from fun z => by rw [z, hD] at k; cases k)]
    exact k
  · obtain ⟨v, k1, k2⟩ := a.en.pd i x h
    exact ⟨v, k1, k2.grow g⟩
  · obtain ⟨v, k1, k2⟩ := a.en.nt i x h
    exact ⟨v, k1, k2.grow g⟩
  · obtain ⟨p, k1, k2, k3⟩ := a.en.mu i m c h
    have np : p ≠ D := fun z => by subst z; exact sD i m c h k1
    refine ⟨p, k1, ⟨k2, fun f => (hf p f).2.2 i m c h k1⟩, ?_⟩
    refine k3.hop g fun b o' hb e => ?_
    rcases hb with rfl | ⟨_, q, us, rfl⟩
    · rw [upd_ne np]; exact e
    · rw [upd_ne (show b ≠ D from fun z => by rw [z, hD] at e; cases e)]; exact e
  · by_cases z : q = D
    · rw [z]; exact ⟨_, upd_same⟩
    · rw [upd_ne z]; exact a.en.dom q h.1

def lcL (g : GG) (t : EB) (f : EE) (vs : List Nat) : List PyData → Sl → List PyData → Option (List PyData × Sl)
  | [], env, acc => some (acc, env)
  | x :: xs, env, acc => match g x (wipeE env vs) with
    | none => none
    | some e1 => match t e1 with
      | none => none
      | some (b, e2) => if b = true then match f e2 with
          | none => none
          | some (d, e3) => match data1 d with
            | none => none
            | some y => lcL g t f vs xs (unwipe env e3 vs) (acc ++ [y])
        else lcL g t f vs xs (unwipe env e2 vs) acc
def eLc (it : EI) (g : GG) (t : EB) (f : EE) (vs : List Nat) : EE := fun env => match it env with
  | none => none
  | some (xs, lk, e1) => if xs.length ≤ 1000000 then match lcL g t f vs xs e1 [] with
      | none => none
      | some (acc, e2) => some (.tmp (.ls acc), unlock lk e2)
    else none
def bYes : EB := fun env => some (true, env)
theorem rd_yes {K : PySem.W.Frag} {σ : St} {H : Hp} {Q : Bool → Hp → Prop} (h : tT K bYes σ H Q) : tYes σ H Q := by
  obtain ⟨B, env, b, env', en, ev, q⟩ := h
  cases ev
  exact q B H (.refl en)
theorem At.through {K : PySem.W.Frag} {σ : St} {B B1 B2 : Mset} {H H1 H2 : Hp} {env e1 e1' e2 : Sl} {lk : Lk} (en : EnvR K B H σ env) (a : At K σ B H env B1 H1 e1) (l : Locked lk e1 e1') (b : At K σ B1 H1 e1' B2 H2 e2) : At K σ B H env B2 H2 (unlock lk e2) := by
  have h := AtS.through en a l b.s
  refine ⟨h.st, h.en, ?_, ?_⟩
  · cases lk with
    | none =>
      cases l
      exact fun i m c q => let ⟨c1, h1⟩ := b.sm i m c q; a.sm i m c1 h1
    | some p =>
      obtain ⟨i, m⟩ := p
      obtain ⟨c, h1, rfl⟩ := l
      have hi : i < e1.length := (List.getElem?_eq_some_iff.mp h1).1
      obtain ⟨c2, h2⟩ := b.ks i .fro c (by rw [List.getElem?_set_self hi])
      have eu : unlock (some (i, m)) e2 = e2.set i (some (.mu m c2)) := by simp only [unlock, h2]
      rw [eu]
      intro j n d q
      rcases get_set q with ⟨z, z'⟩ | ⟨z, q⟩
      · cases z'; subst z; exact a.sm i m c h1
      · obtain ⟨d1, q1⟩ := b.sm j n d q
        rw [List.getElem?_set_ne z] at q1
        exact a.sm j n d1 q1
  · cases lk with
    | none =>
      cases l
      exact fun i m c q => let ⟨c1, h1⟩ := a.ks i m c q; b.ks i m c1 h1
    | some p =>
      obtain ⟨i, m⟩ := p
      obtain ⟨c, h1, rfl⟩ := l
      have hi : i < e1.length := (List.getElem?_eq_some_iff.mp h1).1
      obtain ⟨c2, h2⟩ := b.ks i .fro c (by rw [List.getElem?_set_self hi])
      have hi2 : i < e2.length := (List.getElem?_eq_some_iff.mp h2).1
      have eu : unlock (some (i, m)) e2 = e2.set i (some (.mu m c2)) := by simp only [unlock, h2]
      rw [eu]
      intro j n d q
      obtain ⟨d1, q1⟩ := a.ks j n d q
      by_cases z : i = j
      · subst z
        rw [h1] at q1
        cases q1
        exact ⟨c2, by rw [List.getElem?_set_self hi2]⟩
      · obtain ⟨d2, q2⟩ := b.ks j n d1 (by rw [List.getElem?_set_ne z]; exact q1)
        exact ⟨d2, by rw [List.getElem?_set_ne z]; exact q2⟩

theorem rd_lc {K : PySem.W.Frag} {it : EI} {g : GG} {t : EB} {f : EE} {vs : List Nat} (hg : Only g vs) {σ : St} {H : Hp} {Q : VK} (h : tE K (eLc it g t f vs) σ H Q) : tLc (tI K it) (tGv K g vs) (tT K t) (tE K f) vs σ H Q := by
  obtain ⟨B, env, d, env', en, ev, q⟩ := h
  unfold eLc at ev
  split at ev
  · cases ev
  rename_i xs lk e1 h1
  split at ev
  rotate_left
  · cases ev
  rename_i hlen
  split at ev
  · cases ev
  rename_i accF e2 h2
  cases ev
  refine ⟨B, env, xs, lk, e1, en, h1, fun B1 H1 J pr G e0 a1 lkd wk g0 hpr D nD => ?_⟩
  have en1 : EnvR K B1 H1 σ e1 := lkd.en a1.en
  have stays : ∀ {Bi Hi ei}, At K σ B1 H1 e1 Bi Hi ei → G Bi Hi := fun {Bi Hi ei} a => wk.keep _ _ _ _ _ _ g0 a.st en1.wb fun x hx => (hpr x hx).1
  have slotNone : ∀ {Bi Hi ei}, At K σ B1 H1 e1 Bi Hi ei → ∀ p, H1 p = none → ∀ (i : Nat) m d, ei[i]? = some (some (S.mu m d)) → σ[i]? ≠ some (some (V.ref p)) := fun {Bi Hi ei} a p np i m d h3 h4 => by
    obtain ⟨c0, k0⟩ := a.sm i m d h3
    obtain ⟨p', k1, k2, _⟩ := en1.mu i m c0 k0
    rw [h4] at k1
    cases k1
    obtain ⟨o, ho⟩ := en1.dom p k2
    rw [np] at ho; cases ho
  let Iv : Nat → Hp → List PyData → Sl → Mset → Prop := fun i Hi acc ei Bi => At K σ B1 H1 e1 Bi Hi ei ∧ Bi D ∧ acc.length ≤ i ∧ (∃ ws, Hi D = some (.lst ws) ∧ RpA K Bi Hi ws acc) ∧ lcL g t f vs (xs.drop i) ei acc = some (accF, e2)
  refine ⟨fun i m Hi => i ≤ xs.length ∧ m = xs.length - i ∧ ∃ acc ei Bi, Iv i Hi acc ei Bi, ⟨_, Nat.zero_le _, rfl, [], e1, (fun q => (B1 q ∧ ¬ False) ∨ (True ∧ q = D)), ?_⟩, ?_⟩
  · obtain ⟨_, a2⟩ := (At.refl en1).alloc en1 nD (.lst []) True (fun _ => False) (fun _ z => z.elim)
    exact ⟨a2, .inr ⟨trivial, rfl⟩, Nat.le_refl _, ⟨[], upd_same, .nil⟩, h2⟩
  rintro i m Hi ⟨hi, rfl, acc, ei, Bi, ai, bD, hacc, ⟨ws, hD, rw_⟩, fi⟩
  have gi := stays ai
  by_cases hlt : i < xs.length
  · have hd : xs.drop i = xs[i] :: xs.drop (i + 1) := List.drop_eq_getElem_cons hlt
    rw [hd] at fi
    unfold lcL at fi
    split at fi
    · cases fi
    rename_i e3 h3
    refine .inr ⟨wk.go i Bi Hi gi hlt, fun H' => ∃ acc ei Bi, Iv (i + 1) H' acc ei Bi, fun H' ⟨acc', e', B', z⟩ => ⟨xs.length - (i + 1), by omega, hlt, rfl, acc', e', B', z⟩, fun x H' hy => ?_⟩
    obtain ⟨hH, rx⟩ := wk.yld i Bi Hi x H' xs[i] gi (List.getElem?_eq_getElem hlt) hy
    have ay : At K σ Bi Hi ei Bi H' ei := by
      rcases hH with e | ⟨T, vs, nT, e⟩ | ⟨T, vs, T2, vs2, nT, nT2, e⟩
      · subst e; exact .refl ai.en
      · subst e; exact At.pair ai.en nT
      · subst e; exact (At.pair ai.en nT).trans ai.en (At.pair (At.pair ai.en nT).en nT2)
    have ai' : At K σ B1 H1 e1 Bi H' ei := ai.trans en1 ay
    have hD' : H' D = some (.lst ws) := by
      rcases hH with e | ⟨T, us, nT, e⟩ | ⟨T, us, T2, us2, nT, nT2, e⟩
      · rw [e]; exact hD
      · rw [e, upd_ne (fun z => by rw [← z, hD] at nT; cases nT)]; exact hD
      · have h1 : upd Hi T (.tup us) D = some (.lst ws) := by rw [upd_ne (fun z => by rw [← z, hD] at nT; cases nT)]; exact hD
        rw [e, upd_ne (fun z => by rw [← z, h1] at nT2; cases nT2)]; exact h1
    have rw' : RpA K Bi H' ws acc := rw_.grow (ay.grow ai.en)
    refine ⟨Bi, wipeE ei vs, xs[i], e3, ay.en.wiped vs, rx, h3, fun B3 σ3 H3 a3 w3' => ?_⟩
    have w3 : wipe σ3 vs = wipe σ vs := w3'.trans wipe_idem
    refine ⟨w3, ?_⟩
    have ho : ∀ j, j ∉ vs → e3[j]? = (wipeE ei vs)[j]? := hg _ _ _ h3
    -- what lies behind some step of the block
    have out : ∀ {B4 H4 e4}, At K σ3 B3 H3 e3 B4 H4 e4 → At K σ B1 H1 e1 B4 H4 (unwipe ei e4 vs) ∧ B4 D ∧ H4 D = some (.lst ws) ∧ RpA K B4 H4 ws acc := fun {B4 H4 e4} b => by
      have u := At.unwiped ay.en a3 w3 ho b
      have nw : ¬ Wof σ ei D := by
        rintro ⟨j, m, c, k1, _, k3⟩
        exact slotNone ai' D nD j m c k1 k3
      exact ⟨ai'.trans en1 u, u.st.old D bD nw, u.st.keep D _ hD' (.inl ⟨nw, ntL⟩), rw'.grow (u.grow ay.en)⟩
    split at fi
    · cases fi
    rename_i b e4 h4
    refine ⟨B3, e3, b, e4, a3.en, h4, fun B4 H4 a4 => ?_⟩
    cases b with
    | false =>
      simp at fi ⊢
      obtain ⟨o1, o2, o3, o4⟩ := out a4
      exact ⟨acc, _, B4, o1, o2, by omega, ⟨ws, o3, o4⟩, fi⟩
    | true =>
      simp at fi ⊢
      split at fi
      · cases fi
      rename_i d e5 h5
      split at fi
      · cases fi
      rename_i y hy'
      refine ⟨B4, e4, d, e5, a4.en, h5, fun B5 H5 v a5 r5 => ?_⟩
      have a45 := a4.trans a3.en a5
      obtain ⟨o1, o2, o3, o4⟩ := out a45
      refine ⟨ws, o3, ?_, ?_⟩
      · have := o4.length; exact Nat.lt_of_le_of_lt (by omega) (small (n := i) (by omega))
      have hH1 : ∀ p, H4 p = none → H1 p = none := fun p z => (out a4).1.st.liv p z
      cases d with
      | var j => cases hy'
      | nt z =>
        cases hy'
        obtain ⟨p, rfl, r5⟩ := r5
        obtain ⟨g6, a6⟩ := o1.app (ws' := ws ++ [.ref p]) en1 nD o2 o3 (slotNone o1 D nD) (fun _ => False) (fun _ z => z.elim)
        exact ⟨_, _, _, a6, ⟨o2, id⟩, by simp; omega, ⟨_, upd_same, (o4.grow g6).append (.cons (r5.rp.grow g6) .nil)⟩, fi⟩
      | pd z =>
        cases hy'
        obtain ⟨g6, a6⟩ := o1.app (ws' := ws ++ [v]) en1 nD o2 o3 (slotNone o1 D nD) (fun _ => False) (fun _ z => z.elim)
        exact ⟨acc ++ [y], _, _, a6, ⟨o2, id⟩, by simp; omega, ⟨_, upd_same, (o4.grow g6).append (.cons (Rp.grow g6 r5) .nil)⟩, fi⟩
      | tmp c =>
        cases hy'
        obtain ⟨p, rfl, k1, k2, k3, k4⟩ := r5
        have npD : p ≠ D := fun z => by
          subst z
          obtain ⟨_, _, q3, _⟩ := out a4
          rw [q3] at k1; cases k1
        obtain ⟨g6, a6⟩ := o1.app (ws' := ws ++ [.ref p]) en1 nD o2 o3 (slotNone o1 D nD) (fun q => q = p) (fun q z => by subst z; exact ⟨npD, hH1 q k1, slotNone o1 q (hH1 q k1)⟩)
        exact ⟨acc ++ [ctD c], _, _, a6, ⟨o2, fun z => npD z.symm⟩, by simp; omega, ⟨_, upd_same, (o4.grow g6).append (.cons ((k3.hopU g6 npD (npL o3)).rp (fun z => z.2 rfl)) .nil)⟩, fi⟩
  · have e : i = xs.length := by omega
    subst e
    rw [List.drop_length] at fi
    cases fi
    refine .inl ⟨wk.stop Bi Hi gi, q Bi Hi _ (At.through en a1 lkd ai) (RR.relock (d := .tmp (.ls accF)) ⟨D, rfl, a1.st.liv D nD, bD, ⟨ws, hD, rw_⟩, slotNone ai D nD⟩)⟩
end T3

end
section
set_option linter.all false
set_option autoImplicit false
set_option Elab.async false
namespace T3
open PySem L2
variable [TabL]

theorem PI.imp {X : Cx} {tg e : Expr} {t t' : TI} (h : PI X tg e t) (i : ∀ σ H Q, t' σ H Q → t σ H Q) : PI X tg e t' := ⟨fun pins s σ H Q I q => h.run pins s σ H Q I (i σ H Q q)⟩
theorem PI.or {X : Cx} {tg e : Expr} {t t' : TI} (h : PI X tg e t) (h' : PI X tg e t') : PI X tg e (fun σ H Q => t σ H Q ∨ t' σ H Q) := ⟨fun pins s σ H Q I q => q.elim (h.run pins s σ H Q I) (h'.run pins s σ H Q I)⟩
def signs (s : Str) : List PyData := s.cps.toList.map fun c => .str ⟨#[c]⟩
def iSeq (f : EE) : EI := fun env => match f env with
  | some (.pd (.tuple xs), e) => some (xs, none, e)
  | some (.nt xs, e) => some (xs, none, e)
  | some (.pd (.list xs), e) => some (xs, none, e)
  | some (.pd (.str s), e) => some (signs s, none, e)
  | some (.tmp (.ls xs), e) => some (xs, none, e)
  | some (.var i, e) => match e[i]? with
    | some (some (.mu m (.ls xs))) => some (xs, some (i, m), e.set i (some (.mu .fro (.ls xs))))
    | _ => none
  | _ => none
theorem wk_tup {K : PySem.W.Frag} {a : Addr} {xs : List PyData} : Wk K (Itt K a) (fun _ => False) (fun B H => Rp K B H (.ref a) (.tuple xs)) xs where
  go i B H g hi := by
    obtain ⟨a', vs, e, h1, h2⟩ := Cn.tuple (.rp g)
    cases e
    exact ⟨vs, vs[i]'(by rw [h2.length]; exact hi), h1, by simp⟩
  stop B H g := by
    obtain ⟨a', vs, e, h1, h2⟩ := Cn.tuple (.rp g)
    cases e
    exact ⟨vs, h1, by rw [h2.length]; exact Nat.le_refl _⟩
  yld i B H x H' d g hd hy := by
    obtain ⟨a', vs, e, h1, h2⟩ := Cn.tuple (.rp g)
    cases e
    obtain ⟨rfl, hy⟩ := hy
    obtain ⟨v, k1, k2⟩ := h2.get hd
    rw [hy vs h1] at k1
    cases k1
    exact ⟨.inl rfl, k2⟩
  keep W B H W' B' H' g s wb _ := g.grow (s.grow wb)
theorem wk_lst {K : PySem.W.Frag} {a : Addr} {xs : List PyData} : Wk K (Itl K a) (fun _ => False) (fun B H => Rp K B H (.ref a) (.list xs)) xs where
  go i B H g hi := by
    obtain ⟨a', vs, e, h1, h2⟩ := Cn.list (.rp g)
    cases e
    exact ⟨vs, vs[i]'(by rw [h2.length]; exact hi), h1, by simp⟩
  stop B H g := by
    obtain ⟨a', vs, e, h1, h2⟩ := Cn.list (.rp g)
    cases e
    exact ⟨vs, h1, by rw [h2.length]; exact Nat.le_refl _⟩
  yld i B H x H' d g hd hy := by
    obtain ⟨a', vs, e, h1, h2⟩ := Cn.list (.rp g)
    cases e
    obtain ⟨rfl, hy⟩ := hy
    obtain ⟨v, k1, k2⟩ := h2.get hd
    rw [hy vs h1] at k1
    cases k1
    exact ⟨.inl rfl, k2⟩
  keep W B H W' B' H' g s wb _ := g.grow (s.grow wb)
theorem wk_mut {K : PySem.W.Frag} {a : Addr} {xs : List PyData} : Wk K (Itl K a) (fun q => q = a) (fun B H => ∃ vs, H a = some (.lst vs) ∧ RpA K B H vs xs) xs where
  go i B H g hi := by
    obtain ⟨vs, h1, h2⟩ := g
    exact ⟨vs, vs[i]'(by rw [h2.length]; exact hi), .inl (.inl h1), by simp⟩
  stop B H g := by
    obtain ⟨vs, h1, h2⟩ := g
    exact ⟨vs, .inl (.inl h1), by rw [h2.length]; exact Nat.le_refl _⟩
  yld i B H x H' d g hd hy := by
    obtain ⟨vs, h1, h2⟩ := g
    obtain ⟨rfl, hy⟩ := hy
    obtain ⟨v, k1, k2⟩ := h2.get hd
    rw [hy vs (.inl (.inl h1))] at k1
    cases k1
    exact ⟨.inl rfl, k2⟩
  keep W B H W' B' H' g s wb hp := by
    obtain ⟨vs, h1, h2⟩ := g
    exact ⟨vs, s.keep _ _ h1 (.inl ⟨hp a rfl, (by first | exact ntL | exact ntK | exact ntDn | exact nt_ins)⟩), h2.grow (s.grow wb)⟩
theorem signs_len {s : Str} : (signs s).length = s.cps.size := by simp [signs]
theorem wk_str {K : PySem.W.Frag} {s : Str} : Wk K (Its s) (fun _ => False) (fun _ _ => True) (signs s) where
  go i B H g hi := by rw [signs_len] at hi; exact hi
  stop B H g := by rw [signs_len]; exact Nat.le_refl _
  yld i B H x H' d g hd hy := by
    obtain ⟨rfl, c, h1, rfl⟩ := hy
    refine ⟨.inl rfl, ?_⟩
    simp only [signs, List.getElem?_map, Array.getElem?_toList, h1] at hd
    cases hd
    exact .str _
  keep W B H W' B' H' g s wb hp := trivial
theorem rd_seq_ {K : PySem.W.Frag} {f : EE} {σ : St} {H : Hp} {R : It → Hp → Prop} (h : tI K (iSeq f) σ H R) : iList K (tE K f) σ H R ∨ iTup K (tE K f) σ H R ∨ iStr (tE K f) σ H R := by
  obtain ⟨B, env, xs, lk, env', en, ev, q⟩ := h
  unfold iSeq at ev
  split at ev
  · rename_i ys e h1
    cases ev
    refine .inr (.inl ⟨B, env, _, _, en, h1, fun B1 H1 v a1 r1 => ?_⟩)
    have r1 : Rp K B1 H1 v (.tuple xs) := r1
    obtain ⟨a, vs, rfl, h2, h3⟩ := Cn.tuple (.rp r1)
    exact ⟨a, rfl, ⟨vs, h2⟩, q B1 H1 _ _ _ _ a1 rfl wk_tup r1 (fun _ z => z.elim)⟩
  · rename_i ys e h1
    cases ev
    refine .inr (.inl ⟨B, env, _, _, en, h1, fun B1 H1 v a1 r1 => ?_⟩)
    obtain ⟨p, rfl, r1⟩ := r1
    obtain ⟨a, vs, e, h2, h3⟩ := Cn.tuple (.rp r1.rp)
    cases e
    exact ⟨_, rfl, ⟨vs, h2⟩, q B1 H1 _ _ _ _ a1 rfl wk_tup r1.rp (fun _ z => z.elim)⟩
  · rename_i ys e h1
    cases ev
    refine .inl ⟨B, env, _, _, en, h1, fun B1 H1 v a1 r1 => ?_⟩
    have r1 : Rp K B1 H1 v (.list xs) := r1
    obtain ⟨a, vs, rfl, h2, h3⟩ := Cn.list (.rp r1)
    exact ⟨a, rfl, ⟨vs, h2⟩, q B1 H1 _ _ _ _ a1 rfl wk_lst r1 (fun _ z => z.elim)⟩
  · rename_i s e h1
    cases ev
    refine .inr (.inr ⟨B, env, _, _, en, h1, fun B1 H1 v a1 r1 => ?_⟩)
    have r1 : Rp K B1 H1 v (.str s) := r1
    cases r1
    exact ⟨s, rfl, q B1 H1 _ _ _ _ a1 rfl wk_str trivial (fun _ z => z.elim)⟩
  · rename_i ys e h1
    cases ev
    refine .inl ⟨B, env, _, _, en, h1, fun B1 H1 v a1 r1 => ?_⟩
    obtain ⟨a, rfl, k0, k1, ⟨vs, k2, k3⟩, k4⟩ := r1
    refine ⟨a, rfl, ⟨vs, .inl (.inl k2)⟩, q B1 H1 _ _ _ _ a1 rfl wk_mut ⟨vs, k2, k3⟩ (fun p z => ?_)⟩
    subst z
    exact ⟨fun ⟨i, m, c, g1, _, g3⟩ => k4 i m c g1 g3, _, k2⟩
  · rename_i i e h1
    split at ev
    · rename_i m ys h2
      cases ev
      refine .inl ⟨B, env, _, _, en, h1, fun B1 H1 v a1 r1 => ?_⟩
      obtain ⟨k1, _⟩ := r1
      obtain ⟨a, g1, g2, vs, g3, g4⟩ := a1.en.mu i _ _ h2
      rw [k1] at g1
      cases g1
      refine ⟨a, rfl, ⟨vs, .inl (.inl g3)⟩, q B1 H1 _ _ _ _ a1 ⟨_, h2, rfl⟩ wk_mut ⟨vs, g3, g4⟩ (fun p z => ?_)⟩
      subst z
      refine ⟨fun ⟨j, m', c, z1, z2, z3⟩ => ?_, _, g3⟩
      rcases get_set z1 with ⟨e1, e2⟩ | ⟨e1, z1⟩
      · cases e2; exact z2 rfl
      · exact e1 (a1.en.inj i j _ _ _ _ _ h2 z1 k1 z3)
    · cases ev
  · cases ev
theorem i_seq {X : Cx} {tg l : Expr} {f : EE} (h : PE X l (tE X.K f)) : PI X tg l (tI X.K (iSeq f)) := PI.imp (PI.or (pi_list h) (PI.or (pi_tup h) (pi_str h))) fun _ _ _ t => rd_seq_ t
def rgD (i : Int) (n : Nat) (c : Int) : List PyData := (List.range n).map fun k => .int (i + (k : Nat) * c)
theorem rgD_get {i c : Int} {n k : Nat} {d : PyData} (h : (rgD i n c)[k]? = some d) : d = .int (i + (k : Nat) * c) := by
  simp only [rgD, List.getElem?_map] at h
  by_cases z : k < n
  · rw [List.getElem?_range z] at h; cases h; rfl
  · rw [List.getElem?_eq_none (by simpa using z)] at h; cases h
theorem wk_rng {K : PySem.W.Frag} {i : Int} {n : Nat} : Wk K (Itr i n) (fun _ => False) (fun _ _ => True) (rgD i n 1) where
  go k B H g hi := by simp [rgD] at hi; exact hi
  stop B H g := by simp [rgD, Itr, Itc]
  yld k B H x H' d g hd hy := by
    obtain ⟨rfl, rfl⟩ := hy
    have := rgD_get hd
    subst this
    rw [Int.mul_one]
    exact ⟨.inl rfl, .int _⟩
  keep W B H W' B' H' g s wb hp := trivial
def RgI1 (j : Int) : Prop := -(2 ^ 62) ≤ j ∧ j < 2 ^ 62
def RgI2 (i j : Int) : Prop := -(2 ^ 62) ≤ i ∧ i < 2 ^ 62 ∧ -(2 ^ 62) ≤ j ∧ j < 2 ^ 62
noncomputable instance (j : Int) : Decidable (RgI1 j) := Classical.propDecidable _
noncomputable instance (i j : Int) : Decidable (RgI2 i j) := Classical.propDecidable _
noncomputable def iRg1 (f : EA) : EI := fun env => match f env with
  | some ([.pd (.int j)], e) => if RgI1 j then some (rgD 0 j.toNat 1, none, e) else none
  | _ => none
theorem RRA.int1 {K : PySem.W.Frag} {H₀ : Hp} {B : Mset} {H : Hp} {σ : St} {env : Sl} {vs : List V} {j : Int} (r : RRA K H₀ B H σ env vs [.pd (.int j)]) : vs = [.int j] := by
  match vs, r with
  | [v], r =>
    have := r.each 0 v _ rfl rfl
    have this : Rp K B H v (.int j) := this
    cases this
    rfl
  | [], r => have := r.len; simp at this
  | _ :: _ :: _, r => have := r.len; simp at this
theorem rd_rg1 {K : PySem.W.Frag} {f : EA} {σ : St} {H : Hp} {R : It → Hp → Prop} (h : tI K (iRg1 f) σ H R) : iRng1 (tA K f) σ H R := by
  obtain ⟨B, env, xs, lk, env', en, ev, q⟩ := h
  unfold iRg1 at ev
  split at ev
  · rename_i j e h1
    split at ev
    · rename_i hb
      cases ev
      refine ⟨B, env, _, _, en, h1, fun B1 H1 vs a1 r1 => ⟨j, r1.int1, hb.1, hb.2, q B1 H1 _ _ _ _ a1 rfl wk_rng trivial (fun _ z => z.elim)⟩⟩
    · cases ev
  · cases ev
theorem i_rg1 {X : Cx} {tg a : Expr} {f : EA} {p pos : Pos} (hg : Gl X "range") (hm : X.mg "range" = none) (ha : PA X [a] (tA X.K f)) (hs : starEach [a] X.env = [(false, eval a X.env)] := by rfl) : PI X tg (.Call (.Name "range" p) [a] [] pos) (tI X.K (iRg1 f)) :=
  PI.imp (pi_range1 hg hm ha hs) fun _ _ _ t => rd_rg1 t
end T3

end
section
set_option linter.all false
set_option autoImplicit false
set_option Elab.async false
namespace T3
open PySem L2
variable [TabL]

theorem CnA.one {K : PySem.W.Frag} {B : Mset} {H : Hp} {vs : List V} {x : PyData} (h : CnA K B H vs [x]) : ∃ v, vs = [v] ∧ Cn K B H v x := by
  cases h with
  | cons h1 h2 => cases h2; exact ⟨_, rfl, h1⟩
theorem CnA.two {K : PySem.W.Frag} {B : Mset} {H : Hp} {vs : List V} {x y : PyData} (h : CnA K B H vs [x, y]) : ∃ v w, vs = [v, w] ∧ Cn K B H v x ∧ Cn K B H w y := by
  cases h with
  | cons h1 h2 => obtain ⟨w, rfl, h3⟩ := h2.one; exact ⟨_, _, rfl, h1, h3⟩
def kOr (k1 k2 : KK) : KK := fun ds env => match k1 ds env with
  | some r => some r
  | none => k2 ds env
theorem con_or {K : PySem.W.Frag} {k1 k2 : KK} {r1 r2 : List V → Hp → VK → Prop} (h1 : Con K k1 r1) (h2 : Con K k2 r2) : Con K (kOr k1 k2) (fun vs H Q => r1 vs H Q ∨ r2 vs H Q) := by
  intro σ H B env B1 H1 env1 vs ds d e2 Q en a rr hk q
  unfold kOr at hk
  split at hk
  · rename_i r hr
    cases hk
    exact .inl (h1 σ H B env B1 H1 env1 vs ds d e2 Q en a rr hr q)
  · exact .inr (h2 σ H B env B1 H1 env1 vs ds d e2 Q en a rr hk q)
theorem con_or2 {K : PySem.W.Frag} {k1 k2 : KK} {r1 r2 : R2} (h1 : Con K k1 (l2 r1)) (h2 : Con K k2 (l2 r2)) : Con K (kOr k1 k2) (l2 fun x y H Q => r1 x y H Q ∨ r2 x y H Q) := by
  intro σ H B env B1 H1 env1 vs ds d e2 Q en a rr hk q x y e
  exact (con_or h1 h2 σ H B env B1 H1 env1 vs ds d e2 Q en a rr hk q).imp (fun z => z x y e) (fun z => z x y e)

def oI (C : Int → Int → Prop) [∀ i j, Decidable (C i j)] (g : Int → Int → PyData) : List PyData → Option PyData
  | [.int i, .int j] => if C i j then some (g i j) else none
  | _ => none
theorem ok_I {K : PySem.W.Frag} {C : Int → Int → Prop} [∀ i j, Decidable (C i j)] {g : Int → Int → Int} : OkE K (oI C fun i j => .int (g i j)) (l2 (rI C fun i j => .int (g i j))) := by
  intro B H vs xs z Q cn ho q x y e
  unfold oI at ho
  split at ho
  · split at ho
    · rename_i i j hc
      cases ho
      obtain ⟨v, w, e2, c1, c2⟩ := cn.two
      rw [e] at e2
      cases e2
      exact ⟨i, j, c1.int, c2.int, hc, q _ (.int _)⟩
    · cases ho
  · cases ho
theorem ok_I0 {K : PySem.W.Frag} {g : Int → Int → Int} : OkE K (oI (fun _ _ => True) fun i j => .int (g i j)) (l2 (rI0 fun i j => .int (g i j))) := by
  intro B H vs xs z Q cn ho q x y e
  obtain ⟨i, j, h1, h2, _, h3⟩ := ok_I (C := fun _ _ => True) (g := g) B H vs xs z Q cn ho q x y e
  exact ⟨i, j, h1, h2, h3⟩
theorem ok_B0 {K : PySem.W.Frag} {g : Int → Int → Bool} : OkE K (oI (fun _ _ => True) fun i j => .bool (g i j)) (l2 (rI0 fun i j => .bl (g i j))) := by
  intro B H vs xs z Q cn ho q x y e
  unfold oI at ho
  split at ho
  · rename_i i j
    simp at ho
    cases ho
    obtain ⟨v, w, e2, c1, c2⟩ := cn.two
    rw [e] at e2
    cases e2
    exact ⟨i, j, c1.int, c2.int, q _ (.bl _)⟩
  · cases ho
noncomputable instance (i j : Int) : Decidable (CMul i j) := Classical.propDecidable _
noncomputable instance (i j : Int) : Decidable (CDivW i j) := Classical.propDecidable _
noncomputable instance (i j : Int) : Decidable (CPow i j) := Classical.propDecidable _
def kSub : KK := kE (oI (fun _ _ => True) fun i j => .int (i - j))
theorem cdv (i j : Int) (h1 : 0 < j) (h2 : j < 1000000000000000) : CDivW i j := by
  refine ⟨h1, ?_⟩
  have : j.natAbs.log2 < 50 := (Nat.log2_lt (by omega)).mpr (by omega)
  omega
noncomputable def kFdiv : KK := kE (oI CDivW fun i j => .int (i / j))
def kMod : KK := kE (oI (fun _ j => 0 < j) fun i j => .int (i % j))
noncomputable def kPow : KK := kE (oI CPow fun i j => .int (i ^ j.toNat))
def kLt0 : KK := kE (oI (fun _ _ => True) fun i j => .bool (decide (i < j)))
def oLtG : List PyData → Option PyData
  | [.tuple xs, .tuple ys] => if SeqAt.shaped (.tuple xs) = true ∧ SeqAt.shaped (.tuple ys) = true ∧ PySem.W.alike (.tuple xs) (.tuple ys) = true ∧ (PyData.tuple xs).depth ≤ 30 then some (.bool (PySem.W.dataLt (.tuple xs) (.tuple ys))) else none
  | _ => none
def oGtG : List PyData → Option PyData
  | [.tuple xs, .tuple ys] => if SeqAt.shaped (.tuple xs) = true ∧ SeqAt.shaped (.tuple ys) = true ∧ PySem.W.alike (.tuple xs) (.tuple ys) = true ∧ (PyData.tuple xs).depth ≤ 30 then some (.bool (PySem.W.dataLt (.tuple ys) (.tuple xs))) else none
  | _ => none
def rLtG (K : PySem.W.Frag) : R2 := fun x y H Q => ∃ d e, Dp K H x d ∧ Dp K H y e ∧ PySem.W.alike d e = true ∧ d ≠ .none ∧ d.depth ≤ 30 ∧ Q (.bl (PySem.W.dataLt d e)) H
def rGtG (K : PySem.W.Frag) : R2 := fun x y H Q => ∃ d e, Dp K H x d ∧ Dp K H y e ∧ PySem.W.alike d e = true ∧ d ≠ .none ∧ d.depth ≤ 30 ∧ Q (.bl (PySem.W.dataLt e d)) H
theorem op_ltG {X : Cx} (hu : X.A.units + 64 < cLine) : OpR X (compareOp .Lt) (rLtG X.K) := by
  intro pins s σ H x y v u Q I rx ry h
  obtain ⟨d, e, hd, he, al, nn, dp, q⟩ := h
  obtain ⟨as, r1⟩ := Dp.reads I d x v hd rx
  obtain ⟨bs, r2⟩ := Dp.reads I e y u he ry
  exact PySem.W.lt_data r1 r2 al nn (by omega) ⟨.bl _, H, I, rfl, q⟩
theorem op_gtG {X : Cx} (hu : X.A.units + 64 < cLine) : OpR X (compareOp .Gt) (rGtG X.K) := by
  intro pins s σ H x y v u Q I rx ry h
  obtain ⟨d, e, hd, he, al, nn, dp, q⟩ := h
  obtain ⟨as, r1⟩ := Dp.reads I d x v hd rx
  obtain ⟨bs, r2⟩ := Dp.reads I e y u he ry
  exact PySem.W.gt_data r1 r2 al nn (by omega) ⟨.bl _, H, I, rfl, q⟩
theorem ok_ltG {K : PySem.W.Frag} : OkE K oLtG (l2 (rLtG K)) := by
  intro B H vs xs z Q cn ho q x y e
  unfold oLtG at ho
  split at ho
  · split at ho
    · rename_i a b hs
      cases ho
      obtain ⟨v, w, e2, c1, c2⟩ := cn.two
      rw [e] at e2
      cases e2
      exact ⟨_, _, c1.dp hs.1, c2.dp hs.2.1, hs.2.2.1, by simp, hs.2.2.2, q _ (.bl _)⟩
    · cases ho
  · cases ho
theorem ok_gtG {K : PySem.W.Frag} : OkE K oGtG (l2 (rGtG K)) := by
  intro B H vs xs z Q cn ho q x y e
  unfold oGtG at ho
  split at ho
  · split at ho
    · rename_i a b hs
      cases ho
      obtain ⟨v, w, e2, c1, c2⟩ := cn.two
      rw [e] at e2
      cases e2
      exact ⟨_, _, c1.dp hs.1, c2.dp hs.2.1, hs.2.2.1, by simp, hs.2.2.2, q _ (.bl _)⟩
    · cases ho
  · cases ho
def kGt : KK := kOr (kE (oI (fun _ _ => True) fun i j => .bool (decide (j < i)))) (kE oGtG)
def oNeg : List PyData → Option PyData
  | [.int i] => some (.int (-i))
  | _ => none
def kNeg : KK := kE oNeg
theorem c_neg {K : PySem.W.Frag} : Con K kNeg (l1 (rU fun i => .int (-i))) := con_E <| by
  intro B H vs xs z Q cn ho q x e
  unfold oNeg at ho
  split at ho
  · cases ho
    obtain ⟨v, e2, c1⟩ := cn.one
    rw [e] at e2
    cases e2
    exact ⟨_, c1.int, q _ (.int _)⟩
  · cases ho

def oCatS : List PyData → Option PyData
  | [.str i, .str j] => if i.length + j.length ≤ 1000000 then some (.str (i ++ j)) else none
  | _ => none
def rCatS : R2 := fun x y H Q => ∃ i j, x = .str i ∧ y = .str j ∧ i.length + j.length ≤ sizeLine ∧ Q (.str (i ++ j)) H
theorem ok_catS {K : PySem.W.Frag} : OkE K oCatS (l2 rCatS) := by
  intro B H vs xs z Q cn ho q x y e
  unfold oCatS at ho
  split at ho
  · split at ho
    · rename_i hl
      cases ho
      obtain ⟨v, w, e2, c1, c2⟩ := cn.two
      rw [e] at e2
      cases e2
      exact ⟨_, _, c1.str, c2.str, Nat.le_of_lt (small hl), q _ (.str _)⟩
    · cases ho
  · cases ho
def oCatT : List PyData → Option (List PyData)
  | [.tuple xs, .tuple ys] => if xs.length + ys.length ≤ 1000000 then some (xs ++ ys) else none
  | _ => none
theorem ok_catT {K : PySem.W.Frag} : OkT K oCatT (l2 (rCatA K)) := by
  intro B H vs xs z Q cn ho q0 q x y e
  unfold oCatT at ho
  split at ho
  · split at ho
    · rename_i xs ys hl
      cases ho
      obtain ⟨v, w, e2, c1, c2⟩ := cn.two
      rw [e] at e2
      cases e2
      obtain ⟨a, us, rfl, h1, h2⟩ := c1.tuple
      obtain ⟨b, ws, rfl, h3, h4⟩ := c2.tuple
      refine ⟨a, b, us, ws, rfl, rfl, h1, h3, ?_, fun z => ?_, fun z z2 => ?_, fun z z2 p np => q _ p (h2.append h4) np⟩
      · rw [h2.length, h4.length]; exact Nat.le_of_lt (small hl)
      · subst z; cases h2; exact q0 _ (.tup h3 h4)
      · subst z2; cases h4; rw [List.append_nil] at q0; exact q0 _ (.tup h1 h2)
    · cases ho
  · cases ho
def lsOf (env : Sl) : R → Option (List PyData)
  | .tmp (.ls xs) => some xs
  | .var i => match env[i]? with
    | some (some (.mu _ (.ls xs))) => some xs
    | _ => none
  | _ => none
theorem lsOf_at {K : PySem.W.Frag} {H₀ : Hp} {B : Mset} {H : Hp} {σ : St} {env : Sl} {v : V} {d : R} {xs : List PyData} (en : EnvR K B H σ env) (h : RA K H₀ B H σ env v d) (c : lsOf env d = some xs) : ∃ a vs, v = .ref a ∧ H a = some (.lst vs) ∧ RpA K B H vs xs := by
  cases d with
  | pd y => cases c
  | nt y => cases c
  | tmp t =>
    cases t with
    | ls ys => cases c; obtain ⟨a, rfl, _, _, ⟨vs, h1, h2⟩, _⟩ := h; exact ⟨a, vs, rfl, h1, h2⟩
    | dk _ => cases c
    | dn _ => cases c
    | tb => cases c
  | var i =>
    simp only [lsOf] at c
    split at c
    · rename_i m ys hx
      cases c
      obtain ⟨a, h1, _, vs, h2, h3⟩ := en.mu _ _ _ hx
      have h : σ[i]? = some (some v) := h
      rw [h] at h1
      cases h1
      exact ⟨a, vs, rfl, h2, h3⟩
    · cases c
def kCatL : KK := fun ds env => match ds with
  | [d1, d2] => match lsOf env d1 with
    | none => none
    | some xs => match lsOf env d2 with
      | none => none
      | some ys => if xs.length + ys.length ≤ 1000000 then some (.tmp (.ls (xs ++ ys)), env) else none
  | _ => none
theorem con_new {K : PySem.W.Frag} {σ : St} {B B1 : Mset} {H H1 : Hp} {env env1 : Sl} {p : Addr} {ws : List V} {xs : List PyData} {Q : VK} (en : EnvR K B H σ env) (a : At K σ B H env B1 H1 env1) (np : H1 p = none) (hw : RpA K B1 H1 ws xs)
    (q : ∀ B' H' v, At K σ B H env B' H' env1 → RR K H B' H' σ env1 v (.tmp (.ls xs)) → Q v H') : Q (.ref p) (upd H1 p (.lst ws)) := by
  obtain ⟨g, a2⟩ := a.alloc en np (.lst ws) True (fun _ => False) (fun _ f => f.elim)
  refine q _ _ _ a2 ⟨p, rfl, a.st.liv _ np, .inr ⟨trivial, rfl⟩, ⟨ws, upd_same, hw.grow g⟩, fun i m d h1 h2 => ?_⟩
  obtain ⟨b, h3, h4, _⟩ := a.en.mu i m d h1
  rw [h3] at h2
  cases h2
  obtain ⟨o', ho⟩ := a.en.dom _ h4
  rw [np] at ho; cases ho
theorem c_catL {K : PySem.W.Frag} : Con K kCatL (l2 rCat) := by
  intro σ H B env B1 H1 env1 vs ds d e2 Q en a rr hk q x y e
  unfold kCatL at hk
  split at hk
  · rename_i d1 d2
    split at hk
    · cases hk
    rename_i xs hx
    split at hk
    · cases hk
    rename_i ys hy
    split at hk
    · rename_i hl
      cases hk
      subst e
      obtain ⟨p, us, rfl, h1, h2⟩ := lsOf_at a.en (rr.each 0 x d1 rfl rfl) hx
      obtain ⟨p2, ws, rfl, h3, h4⟩ := lsOf_at a.en (rr.each 1 y d2 rfl rfl) hy
      exact ⟨p, p2, us, ws, rfl, rfl, h1, h3, by rw [h2.length, h4.length]; exact Nat.le_of_lt (small hl), fun r nr => con_new en a nr (h2.append h4) q⟩
    · cases hk
  · cases hk
def kAdd : KK := kOr (kE (oI (fun _ _ => True) fun i j => .int (i + j))) (kOr (kE oCatS) (kOr (kT oCatT) kCatL))
def oRepT : List PyData → Option (List PyData)
  | [.tuple xs, .int k] => if xs ≠ [] ∧ 2 ≤ k ∧ k ≤ 1000 ∧ xs.length ≤ 1000 then some (List.replicate k.toNat xs).flatten else none
  | _ => none
theorem RpA.rep {K : PySem.W.Frag} {B : Mset} {H : Hp} {vs : List V} {xs : List PyData} (h : RpA K B H vs xs) : ∀ k : Nat, RpA K B H (List.replicate k vs).flatten (List.replicate k xs).flatten
  | 0 => .nil
  | k + 1 => by
    rw [List.replicate_succ, List.replicate_succ, List.flatten_cons, List.flatten_cons]
    exact h.append (RpA.rep h k)
theorem ok_repT {K : PySem.W.Frag} : OkT K oRepT (l2 (rRepT K)) := by
  intro B H vs xs z Q cn ho q0 q x y e
  unfold oRepT at ho
  split at ho
  · split at ho
    · rename_i xs k hl
      cases ho
      obtain ⟨v, w, e2, c1, c2⟩ := cn.two
      rw [e] at e2
      cases e2
      obtain ⟨a, us, rfl, h1, h2⟩ := c1.tuple
      refine ⟨a, k, us, rfl, c2.int, h1, fun z => ?_, hl.2.1, hl.2.2.1, by rw [h2.length]; exact hl.2.2.2, fun p np => q _ p (h2.rep _) np⟩
      subst z
      cases h2
      exact hl.1 rfl
    · cases ho
  · cases ho
noncomputable def kMul : KK := kOr (kE (oI CMul fun i j => .int (i * j))) (kT oRepT)

def oEq : List PyData → Option PyData
  | [x, y] => if SeqAt.shaped x = true ∧ SeqAt.shaped y = true then some (.bool (PyData.eqv x y)) else none
  | _ => none
def oNe : List PyData → Option PyData
  | [x, y] => if SeqAt.shaped x = true ∧ SeqAt.shaped y = true then some (.bool (!PyData.eqv x y)) else none
  | _ => none
theorem ok_eq {K : PySem.W.Frag} : OkE K oEq (l2 (rEqD K)) := by
  intro B H vs xs z Q cn ho q x y e
  unfold oEq at ho
  split at ho
  · split at ho
    · rename_i a b hs
      cases ho
      obtain ⟨v, w, e2, c1, c2⟩ := cn.two
      rw [e] at e2
      cases e2
      exact ⟨a, b, c1.dp hs.1, c2.dp hs.2, hs.1, hs.2, q _ (.bl _)⟩
    · cases ho
  · cases ho
theorem ok_ne {K : PySem.W.Frag} : OkE K oNe (l2 (rNeD K)) := by
  intro B H vs xs z Q cn ho q x y e
  unfold oNe at ho
  split at ho
  · split at ho
    · rename_i a b hs
      cases ho
      obtain ⟨v, w, e2, c1, c2⟩ := cn.two
      rw [e] at e2
      cases e2
      exact ⟨a, b, c1.dp hs.1, c2.dp hs.2, hs.1, hs.2, q _ (.bl _)⟩
    · cases ho
  · cases ho
def rInT (K : PySem.W.Frag) (neg : Bool) : R2 := fun x y H Q => ∃ d ds, Dp K H x d ∧ Dp K H y (.tuple ds) ∧ SeqAt.shaped d = true ∧ SeqAt.shaped (.tuple ds) = true ∧ Q (.bl (if neg = true then !ds.any (fun z => PyData.eqv z d) else ds.any (fun z => PyData.eqv z d))) H
theorem room_in {A : Around} {xs : List PyData} {d : PyData} (hd : SeqAt.shaped d = true) (hu : A.units + 65 < cLine) : A.units + 1 + min (PyData.depthAll xs) d.depth < cLine := by
  have h1 := SeqAt.depth_of_shaped hd
  have h2 := Nat.min_le_right (PyData.depthAll xs) d.depth
  omega
theorem op_inT {X : Cx} (hu : X.A.units + 65 < cLine) : OpR X (compareOp .In) (rInT X.K false) := by
  intro pins s σ H x y v u Q I rx ry h
  obtain ⟨d, ds, hd, he, sd, se, q⟩ := h
  obtain ⟨as, r1⟩ := Dp.reads I d x v hd rx
  obtain ⟨bs, r2⟩ := Dp.reads I _ y u he ry
  have hl : PyData.canLayAll0 ds = true := SeqAt.canLay_of_shaped se
  exact SeqAt.in_tuple_reads r2 r1 hl (SeqAt.canLay_of_shaped sd) (room_in sd hu) ⟨.bl _, H, I, rfl, by simpa using q⟩
theorem op_notInT {X : Cx} (hu : X.A.units + 65 < cLine) : OpR X (compareOp .NotIn) (rInT X.K true) := by
  intro pins s σ H x y v u Q I rx ry h
  obtain ⟨d, ds, hd, he, sd, se, q⟩ := h
  obtain ⟨as, r1⟩ := Dp.reads I d x v hd rx
  obtain ⟨bs, r2⟩ := Dp.reads I _ y u he ry
  have hl : PyData.canLayAll0 ds = true := SeqAt.canLay_of_shaped se
  exact SeqAt.notIn_tuple_reads r2 r1 hl (SeqAt.canLay_of_shaped sd) (room_in sd hu) ⟨.bl _, H, I, rfl, by simpa using q⟩
def oIn (neg : Bool) : List PyData → Option PyData
  | [x, .list ys] => if SeqAt.shaped x = true ∧ SeqAt.shaped (.list ys) = true then some (.bool (if neg = true then !ys.any (fun z => PyData.eqv z x) else ys.any (fun z => PyData.eqv z x))) else none
  | [x, .tuple ys] => if SeqAt.shaped x = true ∧ SeqAt.shaped (.tuple ys) = true then some (.bool (if neg = true then !ys.any (fun z => PyData.eqv z x) else ys.any (fun z => PyData.eqv z x))) else none
  | _ => none
theorem ok_in {K : PySem.W.Frag} : OkE K (oIn false) (l2 fun x y H Q => rInD K x y H Q ∨ rInT K false x y H Q) := by
  intro B H vs xs z Q cn ho q x y e
  unfold oIn at ho
  split at ho
  · split at ho
    · rename_i a b hs
      cases ho
      obtain ⟨v, w, e2, c1, c2⟩ := cn.two
      rw [e] at e2
      cases e2
      exact .inl ⟨_, _, c1.dp hs.1, c2.dp hs.2, hs.1, hs.2, q _ (.bl _)⟩
    · cases ho
  · split at ho
    · rename_i a b hs
      cases ho
      obtain ⟨v, w, e2, c1, c2⟩ := cn.two
      rw [e] at e2
      cases e2
      exact .inr ⟨_, _, c1.dp hs.1, c2.dp hs.2, hs.1, hs.2, q _ (.bl _)⟩
    · cases ho
  · cases ho
theorem ok_notin {K : PySem.W.Frag} : OkE K (oIn true) (l2 fun x y H Q => rNotInD K x y H Q ∨ rInT K true x y H Q) := by
  intro B H vs xs z Q cn ho q x y e
  unfold oIn at ho
  split at ho
  · split at ho
    · rename_i a b hs
      cases ho
      obtain ⟨v, w, e2, c1, c2⟩ := cn.two
      rw [e] at e2
      cases e2
      exact .inl ⟨_, _, c1.dp hs.1, c2.dp hs.2, hs.1, hs.2, q _ (.bl _)⟩
    · cases ho
  · split at ho
    · rename_i a b hs
      cases ho
      obtain ⟨v, w, e2, c1, c2⟩ := cn.two
      rw [e] at e2
      cases e2
      exact .inr ⟨_, _, c1.dp hs.1, c2.dp hs.2, hs.1, hs.2, q _ (.bl _)⟩
    · cases ho
  · cases ho
def isN : PyData → Bool
  | .none => true
  | _ => false
def oIsN (neg : Bool) : List PyData → Option PyData
  | [x, .none] => some (.bool (if neg = true then !isN x else isN x))
  | _ => none
theorem Cn.isN {K : PySem.W.Frag} {B : Mset} {H : Hp} {v : V} {x : PyData} (h : Cn K B H v x) : decide (v = .non) = isN x := by
  cases h with
  | ct => rfl
  | rp h => cases h <;> rfl
theorem ok_isN {K : PySem.W.Frag} : OkE K (oIsN false) (l2 fun x y H Q => y = .non ∧ Q (.bl (decide (x = .non))) H) := by
  intro B H vs xs z Q cn ho q x y e
  unfold oIsN at ho
  split at ho
  · cases ho
    obtain ⟨v, w, e2, c1, c2⟩ := cn.two
    rw [e] at e2
    cases e2
    refine ⟨c2.none, ?_⟩
    rw [c1.isN]
    exact q _ (.bl _)
  · cases ho
theorem ok_notN {K : PySem.W.Frag} : OkE K (oIsN true) (l2 fun x y H Q => y = .non ∧ Q (.bl (!decide (x = .non))) H) := by
  intro B H vs xs z Q cn ho q x y e
  unfold oIsN at ho
  split at ho
  · cases ho
    obtain ⟨v, w, e2, c1, c2⟩ := cn.two
    rw [e] at e2
    cases e2
    refine ⟨c2.none, ?_⟩
    rw [c1.isN]
    exact q _ (.bl _)
  · cases ho
def ints? : List PyData → Option (List Int)
  | [] => some []
  | .int i :: xs => match ints? xs with
    | none => none
    | some ns => some (i :: ns)
  | _ => none
theorem ints_map : ∀ {xs : List PyData} {ns : List Int}, ints? xs = some ns → xs = ns.map .int
  | [], ns, h => by cases h; rfl
  | .int i :: xs, ns, h => by
    unfold ints? at h
    split at h
    · cases h
    rename_i ms hm
    cases h
    rw [ints_map hm]
    rfl
  | .none :: _, _, h => by cases h
  | .bool _ :: _, _, h => by cases h
  | .str _ :: _, _, h => by cases h
  | .list _ :: _, _, h => by cases h
  | .tuple _ :: _, _, h => by cases h
  | .dict _ :: _, _, h => by cases h
def oLtT : List PyData → Option PyData
  | [.tuple xs, .tuple ys] => match ints? xs with
    | none => none
    | some ns => match ints? ys with
      | none => none
      | some ms => some (.bool (HT.lexLt ns ms))
  | _ => none
theorem ok_ltT {K : PySem.W.Frag} : OkE K oLtT (l2 (rLtT K)) := by
  intro B H vs xs z Q cn ho q x y e
  unfold oLtT at ho
  split at ho
  · split at ho
    · cases ho
    rename_i ns h1
    split at ho
    · cases ho
    rename_i ms h2
    cases ho
    obtain ⟨v, w, e2, c1, c2⟩ := cn.two
    rw [e] at e2
    cases e2
    obtain ⟨a, us, rfl, h3, h4⟩ := c1.tuple
    obtain ⟨b, ws, rfl, h5, h6⟩ := c2.tuple
    rw [ints_map h1] at h4
    rw [ints_map h2] at h6
    have e1 := h4.ints
    have e2 := h6.ints
    subst e1 e2
    exact ⟨a, b, ns, ms, rfl, rfl, h3, h5, q _ (.bl _)⟩
  · cases ho
def kLt : KK := kOr kLt0 (kOr (kE oLtT) (kE oLtG))
def oIx : List PyData → Option PyData
  | [.list xs, .int i] => atI xs i
  | [.tuple xs, .int i] => atI xs i
  | [.str s, .int i] => if s.length ≤ 1000000 then (atI s.cps.toList i).map fun c => .str ⟨#[c]⟩ else none
  | _ => none
theorem at_rp {K : PySem.W.Frag} {B : Mset} {H : Hp} {vs : List V} {xs : List PyData} {i : Int} {z : PyData} (r : RpA K B H vs xs) (h : atI xs i = some z) : ∃ v, atI vs i = some v ∧ Rp K B H v z := by
  unfold atI at h ⊢
  rw [r.length]
  cases e : ixN xs.length i with
  | none => rw [e] at h; cases h
  | some j =>
    rw [e] at h
    exact r.get h
theorem ok_ix {K : PySem.W.Frag} : OkE K oIx (l2 (rIx K)) := by
  intro B H vs xs z Q cn ho q x y e
  unfold oIx at ho
  split at ho
  · obtain ⟨v, w, e2, c1, c2⟩ := cn.two
    rw [e] at e2
    cases e2
    obtain ⟨a, us, rfl, h1, h2⟩ := c1.list
    obtain ⟨v, h3, h4⟩ := at_rp h2 ho
    exact .inl ⟨a, us, _, v, rfl, c2.int, h1, h3, q v h4⟩
  · obtain ⟨v, w, e2, c1, c2⟩ := cn.two
    rw [e] at e2
    cases e2
    obtain ⟨a, us, rfl, h1, h2⟩ := c1.tuple
    obtain ⟨v, h3, h4⟩ := at_rp h2 ho
    exact .inr (.inl ⟨a, us, _, v, rfl, c2.int, h1, h3, q v h4⟩)
  · split at ho
    · rename_i s i hl
      obtain ⟨v, w, e2, c1, c2⟩ := cn.two
      rw [e] at e2
      cases e2
      cases hc : atI s.cps.toList i with
      | none => rw [hc] at ho; cases ho
      | some c =>
        rw [hc] at ho
        cases ho
        exact .inr (.inr ⟨s, i, c, c1.str, c2.int, Nat.le_of_lt (small hl), hc, q _ (.str _)⟩)
    · cases ho
  · cases ho
end T3

end
section
set_option linter.all false
set_option autoImplicit false
set_option Elab.async false
namespace T3
open PySem L2
variable [TabL]

def cOr (r r' : List V → Hp → VK → Prop) : List V → Hp → VK → Prop := fun vs H Q => r vs H Q ∨ r' vs H Q
def oLen : List PyData → Option PyData
  | [.list xs] => some (.int xs.length)
  | [.tuple xs] => some (.int xs.length)
  | [.str s] => if s.length ≤ 1000000 then some (.int s.length) else none
  | _ => none
def rLen (K : PySem.W.Frag) : List V → Hp → VK → Prop := cOr (fun xs H Q => ∃ p ys, xs = [.ref p] ∧ (SqL K H p ys ∨ SqT K H p ys) ∧ Q (.int ys.length) H) (fun xs H Q => ∃ z, xs = [.str z] ∧ z.length ≤ sizeLine ∧ Q (.int z.length) H)
theorem cr_len {X : Cx} : CallR X (.builtin "len") (rLen X.K) := CallR.or call_len_seq call_len_str
theorem c_len {K : PySem.W.Frag} : Con K (kE oLen) (rLen K) := con_E <| by
  intro B H vs xs z Q cn ho q
  unfold oLen at ho
  split at ho
  · cases ho
    obtain ⟨v, rfl, c1⟩ := cn.one
    obtain ⟨a, us, rfl, h1, h2⟩ := c1.list
    refine .inl ⟨a, us, rfl, .inl h1, ?_⟩
    rw [h2.length]
    exact q _ (.int _)
  · cases ho
    obtain ⟨v, rfl, c1⟩ := cn.one
    obtain ⟨a, us, rfl, h1, h2⟩ := c1.tuple
    refine .inl ⟨a, us, rfl, .inr h1, ?_⟩
    rw [h2.length]
    exact q _ (.int _)
  · split at ho
    · rename_i hl
      cases ho
      obtain ⟨v, rfl, c1⟩ := cn.one
      exact .inr ⟨_, by rw [c1.str], Nat.le_of_lt (small hl), q _ (.int _)⟩
    · cases ho
  · cases ho
def bools? : List PyData → Option (List Bool)
  | [] => some []
  | .bool i :: xs => match bools? xs with
    | none => none
    | some ns => some (i :: ns)
  | _ => none
theorem bools_map : ∀ {xs : List PyData} {ns : List Bool}, bools? xs = some ns → xs = ns.map .bool
  | [], ns, h => by cases h; rfl
  | .bool i :: xs, ns, h => by
    unfold bools? at h
    split at h
    · cases h
    rename_i ms hm
    cases h
    rw [bools_map hm]
    rfl
  | .none :: _, _, h => by cases h
  | .int _ :: _, _, h => by cases h
  | .str _ :: _, _, h => by cases h
  | .list _ :: _, _, h => by cases h
  | .tuple _ :: _, _, h => by cases h
  | .dict _ :: _, _, h => by cases h
def oAll : List PyData → Option PyData
  | [.list xs] => match bools? xs with
    | none => none
    | some bs => some (.bool (bs.all id))
  | _ => none
theorem c_all {K : PySem.W.Frag} : Con K (kE oAll) (rAll K) := con_E <| by
  intro B H vs xs z Q cn ho q
  unfold oAll at ho
  split at ho
  · split at ho
    · cases ho
    rename_i bs hb
    cases ho
    obtain ⟨v, rfl, c1⟩ := cn.one
    obtain ⟨a, us, rfl, h1, h2⟩ := c1.list
    rw [bools_map hb] at h2
    have e := h2.bls
    subst e
    exact ⟨a, bs, rfl, h1, q _ (.bl _)⟩
  · cases ho
def oAbs : List PyData → Option PyData
  | [.int i] => some (.int (if i < 0 then -i else i))
  | _ => none
theorem c_abs {K : PySem.W.Frag} : Con K (kE oAbs) (fun xs H Q => ∃ i, xs = [.int i] ∧ Q (.int (if i < 0 then -i else i)) H) := con_E <| by
  intro B H vs xs z Q cn ho q
  unfold oAbs at ho
  split at ho
  · cases ho
    obtain ⟨v, rfl, c1⟩ := cn.one
    exact ⟨_, by rw [c1.int], q _ (.int _)⟩
  · cases ho
def rMinT (K : PySem.W.Frag) : List V → Hp → VK → Prop := fun vs H Q => ∃ (a : Addr) (n : Int) (ns : List Int), vs = [V.ref a] ∧ SqT K H a ((n :: ns).map V.int) ∧ Q (.int (ns.foldl min n)) H
def rMaxT (K : PySem.W.Frag) : List V → Hp → VK → Prop := fun vs H Q => ∃ (a : Addr) (n : Int) (ns : List Int), vs = [V.ref a] ∧ SqT K H a ((n :: ns).map V.int) ∧ Q (.int (ns.foldl max n)) H
theorem DpAll.ints {K : PySem.W.Frag} {H : Hp} : ∀ ns : List Int, DpAll K H (ns.map V.int) (ns.map .int)
  | [] => .nil
  | n :: ns => .cons (.int n) (DpAll.ints ns)
theorem alike_ints (ns : List Int) : PySem.W.AlikeAll (ns.map .int) := by
  constructor
  · intro x hx y hy
    obtain ⟨i, _, rfl⟩ := List.mem_map.mp hx
    obtain ⟨j, _, rfl⟩ := List.mem_map.mp hy
    rfl
  · intro x hx
    obtain ⟨i, _, rfl⟩ := List.mem_map.mp hx
    intro z
    cases z
theorem depth_ints : ∀ ns : List Int, PyData.depthAll (ns.map .int) = 0
  | [] => by simp [PyData.depthAll]
  | n :: ns => by simp [PyData.depthAll, PyData.depth, depth_ints ns]
theorem reads_int {h : Heap} {v : Value} {i : Int} {as : List Addr} (r : Reads h v (.int i) as) : ∃ t, v = .int i t := by
  cases r with
  | int _ t => exact ⟨t, rfl⟩
theorem cr_minT {X : Cx} (hc : X.calm = true) (hu : X.A.units + 64 < cLine) : CallR X (.builtin "min") (rMinT X.K) := by
  intro pins s σ H vs us Q I r h
  obtain ⟨a, n, ns, rfl, hs, q⟩ := h
  obtain ⟨its, rv, ⟨o, ho, hcl, m, hd⟩, hz⟩ := I.tuple hs
  rw [Vals.ref1 r]
  obtain ⟨as, hr⟩ := Dp.readsAll I _ _ its (DpAll.ints (n :: ns)) rv
  refine PySem.W.min_tuple_data (vs := its.toArray) (I.ok.hd hc) ⟨o, ho, hcl, m, hd⟩ (x := .int n) (xs := ns.map .int) hr (alike_ints (n :: ns)) (by have := depth_ints (n :: ns); simp only [List.map_cons] at this; rw [this]; omega) fun i v h' tk bs hv hrd hk => ?_
  rw [PySem.W.minD_ints] at hrd
  obtain ⟨t, rfl⟩ := reads_int hrd
  exact ⟨.int _, H, I.kept hk, ⟨t, rfl⟩, q⟩
theorem cr_maxT {X : Cx} (hc : X.calm = true) (hu : X.A.units + 64 < cLine) : CallR X (.builtin "max") (rMaxT X.K) := by
  intro pins s σ H vs us Q I r h
  obtain ⟨a, n, ns, rfl, hs, q⟩ := h
  obtain ⟨its, rv, ⟨o, ho, hcl, m, hd⟩, hz⟩ := I.tuple hs
  rw [Vals.ref1 r]
  obtain ⟨as, hr⟩ := Dp.readsAll I _ _ its (DpAll.ints (n :: ns)) rv
  refine PySem.W.max_tuple_data (vs := its.toArray) (I.ok.hd hc) ⟨o, ho, hcl, m, hd⟩ (x := .int n) (xs := ns.map .int) hr (alike_ints (n :: ns)) (by have := depth_ints (n :: ns); simp only [List.map_cons] at this; rw [this]; omega) fun i v h' tk bs hv hrd hk => ?_
  rw [PySem.W.maxD_ints] at hrd
  obtain ⟨t, rfl⟩ := reads_int hrd
  exact ⟨.int _, H, I.kept hk, ⟨t, rfl⟩, q⟩
def rMm (K : PySem.W.Frag) (mx : Bool) : List V → Hp → VK → Prop := if mx = true then cOr (fun xs H Q => ∃ i j, xs = [.int i, .int j] ∧ Q (.int (if j > i then j else i)) H) (cOr (rMaxT K) (rMax K)) else cOr (fun xs H Q => ∃ i j, xs = [.int i, .int j] ∧ Q (.int (if j < i then j else i)) H) (cOr (rMinT K) (rMin K))
theorem cr_mx {X : Cx} (hc : X.calm = true) (hu : X.A.units + 64 < cLine) : CallR X (.builtin "max") (rMm X.K true) := CallR.or (call_max2 hc) (CallR.or (cr_maxT hc hu) (cr_max hc))
theorem cr_mn {X : Cx} (hc : X.calm = true) (hu : X.A.units + 64 < cLine) : CallR X (.builtin "min") (rMm X.K false) := CallR.or (call_min2 hc) (CallR.or (cr_minT hc hu) (cr_min hc))
def oMax : List PyData → Option PyData
  | [.int i, .int j] => some (.int (if j > i then j else i))
  | [.tuple xs] => match ints? xs with
    | some (n :: ns) => some (.int (ns.foldl max n))
    | _ => none
  | [.list xs] => match ints? xs with
    | some (n :: ns) => some (.int (ns.foldl max n))
    | _ => none
  | _ => none
def oMin : List PyData → Option PyData
  | [.int i, .int j] => some (.int (if j < i then j else i))
  | [.tuple xs] => match ints? xs with
    | some (n :: ns) => some (.int (ns.foldl min n))
    | _ => none
  | [.list xs] => match ints? xs with
    | some (n :: ns) => some (.int (ns.foldl min n))
    | _ => none
  | _ => none
theorem foldl_max : ∀ (ns : List Int) (n m : Int), m ∈ n :: ns → (∀ y, y ∈ n :: ns → y ≤ m) → ns.foldl max n = m
  | [], n, m, h, _ => by simp at h; simp [h]
  | k :: ns, n, m, h, hb => by
    show ns.foldl max (max n k) = m
    have h1 := hb n (by simp)
    have h2 := hb k (by simp)
    refine foldl_max ns _ m ?_ fun y hy => ?_
    · simp only [List.mem_cons] at h ⊢
      rcases h with h | h | h
      · left; omega
      · left; omega
      · right; exact h
    · simp only [List.mem_cons] at hy
      rcases hy with hy | hy
      · omega
      · exact hb y (by simp [hy])
theorem foldl_min : ∀ (ns : List Int) (n m : Int), m ∈ n :: ns → (∀ y, y ∈ n :: ns → m ≤ y) → ns.foldl min n = m
  | [], n, m, h, _ => by simp at h; simp [h]
  | k :: ns, n, m, h, hb => by
    show ns.foldl min (min n k) = m
    have h1 := hb n (by simp)
    have h2 := hb k (by simp)
    refine foldl_min ns _ m ?_ fun y hy => ?_
    · simp only [List.mem_cons] at h ⊢
      rcases h with h | h | h
      · left; omega
      · left; omega
      · right; exact h
    · simp only [List.mem_cons] at hy
      rcases hy with hy | hy
      · omega
      · exact hb y (by simp [hy])
theorem c_mx {K : PySem.W.Frag} : Con K (kE oMax) (rMm K true) := con_E <| by
  intro B H vs xs z Q cn ho q
  unfold oMax at ho
  split at ho
  · cases ho
    obtain ⟨v, w, rfl, c1, c2⟩ := cn.two
    exact .inl ⟨_, _, by rw [c1.int, c2.int], q _ (.int _)⟩
  · split at ho
    · rename_i n ns hb
      cases ho
      obtain ⟨v, rfl, c1⟩ := cn.one
      obtain ⟨a, us, rfl, h1, h2⟩ := c1.tuple
      rw [ints_map hb] at h2
      have e := h2.ints
      subst e
      exact .inr (.inl ⟨a, n, ns, rfl, h1, q _ (.int _)⟩)
    · cases ho
  · split at ho
    · rename_i n ns hb
      cases ho
      obtain ⟨v, rfl, c1⟩ := cn.one
      obtain ⟨a, us, rfl, h1, h2⟩ := c1.list
      rw [ints_map hb] at h2
      have e := h2.ints
      subst e
      refine .inr (.inr ⟨a, n :: ns, rfl, h1, by simp, fun m hm hb' => ?_⟩)
      rw [← foldl_max ns n m hm hb']
      exact q _ (.int _)
    · cases ho
  · cases ho
theorem c_mn {K : PySem.W.Frag} : Con K (kE oMin) (rMm K false) := con_E <| by
  intro B H vs xs z Q cn ho q
  unfold oMin at ho
  split at ho
  · cases ho
    obtain ⟨v, w, rfl, c1, c2⟩ := cn.two
    exact .inl ⟨_, _, by rw [c1.int, c2.int], q _ (.int _)⟩
  · split at ho
    · rename_i n ns hb
      cases ho
      obtain ⟨v, rfl, c1⟩ := cn.one
      obtain ⟨a, us, rfl, h1, h2⟩ := c1.tuple
      rw [ints_map hb] at h2
      have e := h2.ints
      subst e
      exact .inr (.inl ⟨a, n, ns, rfl, h1, q _ (.int _)⟩)
    · cases ho
  · split at ho
    · rename_i n ns hb
      cases ho
      obtain ⟨v, rfl, c1⟩ := cn.one
      obtain ⟨a, us, rfl, h1, h2⟩ := c1.list
      rw [ints_map hb] at h2
      have e := h2.ints
      subst e
      refine .inr (.inr ⟨a, n :: ns, rfl, h1, by simp, fun m hm hb' => ?_⟩)
      rw [← foldl_min ns n m hm hb']
      exact q _ (.int _)
    · cases ho
  · cases ho
def rTupN (K : PySem.W.Frag) : List V → Hp → VK → Prop := fun xs H Q => ∃ p ys, xs = [.ref p] ∧ ((SqL K H p ys ∧ ∀ l o, H l = none → o.dict = none → Q (.ref l) (upd H l (.frz o (.tup ys)))) ∨ (SqT K H p ys ∧ Q (.ref p) H))
theorem cr_tupN {X : Cx} : CallR X (.type "tuple") (rTupN X.K) := by
  intro pins s σ H xs us Q I r h
  obtain ⟨p, ys, rfl, h⟩ := h
  obtain ⟨u, rfl, rx⟩ := vals1 r
  cases rx
  rcases h with ⟨hq, q⟩ | ⟨hq, q⟩
  · obtain ⟨its, r', pl, hz⟩ := I.list hq
    have hlen := r'.length
    refine call_tuple_list pl.isList (fun h' kp => ?_) (by simp only [List.size_toArray] <;> omega)
    have I1 : Inv X pins σ H { s with heap := h' } := I.kept (t' := s.toks) kp
    refine ⟨.ref h'.objs.size, _, I1.laid (t' := s.toks) (o := .frz { cls := .type "tuple", data := .seq its.toArray } (.tup ys)) (fun b o e => Heap.get?_push_of_some _ e) (Nat.le_refl _) ?_, rfl, q _ _ (I1.hok.fresh (Nat.le_refl _)) rfl⟩
    exact ⟨Heap.get?_push_size _ rfl, hz, its, r', PyProof.Rows.IsTup.new _ _⟩
  · obtain ⟨its, r', pl, hz⟩ := I.tuple hq
    exact call_tuple_same pl ⟨.ref p, H, I, rfl, q⟩
def kTupN : KK := fun ds env => match ds with
  | [.nt xs] => some (.nt xs, env)
  | [d] => match ctn env d with
    | some (.list xs) => some (.nt xs, env)
    | some (.tuple xs) => some (.pd (.tuple xs), env)
    | _ => none
  | _ => none
theorem c_tupN {K : PySem.W.Frag} : Con K kTupN (rTupN K) := by
  intro σ H B env B1 H1 env1 vs ds d e2 Q en a rr hk q
  unfold kTupN at hk
  split at hk
  · cases hk
    match vs, rr with
    | [v], rr =>
      obtain ⟨p, rfl, r⟩ := rr.each 0 v _ rfl rfl
      obtain ⟨o, us, h1, h2, h3⟩ := id r
      exact ⟨p, us, rfl, .inr ⟨.inl (.inr ⟨o, h1⟩), q B1 H1 _ a ⟨p, rfl, r⟩⟩⟩
    | [], rr => have := rr.len; simp at this
    | _ :: _ :: _, rr => have := rr.len; simp at this
  · rename_i d1 _
    match vs, rr with
    | [v], rr =>
      split at hk
      · rename_i xs hx
        cases hk
        obtain ⟨p, us, rfl, h1, h2⟩ := (Cn.of a.en (rr.each 0 v d1 rfl rfl) hx).list
        refine ⟨p, us, rfl, .inl ⟨h1, fun l o nl hd => ?_⟩⟩
        obtain ⟨g, a2⟩ := a.alloc en nl (.frz o (.tup us)) False (fun _ => False) (fun _ f => f.elim)
        exact q _ _ _ a2 ⟨l, rfl, o, us, upd_same, hd, h2.grow g⟩
      · rename_i xs hx
        cases hk
        obtain ⟨p, us, rfl, h1, h2⟩ := (Cn.of a.en (rr.each 0 v d1 rfl rfl) hx).tuple
        exact ⟨p, us, rfl, .inr ⟨h1, q B1 H1 _ a (.tup h1 h2)⟩⟩
      · cases hk
    | [], rr => have := rr.len; simp at this
    | _ :: _ :: _, rr => have := rr.len; simp at this
  · cases hk
def oList : List PyData → Option (List PyData)
  | [.list xs] => some xs
  | [.tuple xs] => some xs
  | _ => none
theorem c_list {K : PySem.W.Frag} : Con K (kL oList) (fun xs H Q => ∃ p ys, xs = [.ref p] ∧ (SqL K H p ys ∨ SqT K H p ys) ∧ ∀ l, H l = none → Q (.ref l) (upd H l (.lst ys))) := con_L <| by
  intro B H vs xs z Q cn ho q
  unfold oList at ho
  split at ho
  · cases ho
    obtain ⟨v, rfl, c1⟩ := cn.one
    obtain ⟨a, us, rfl, h1, h2⟩ := c1.list
    exact ⟨a, us, rfl, .inl h1, fun l nl => q us l h2 nl⟩
  · cases ho
    obtain ⟨v, rfl, c1⟩ := cn.one
    obtain ⟨a, us, rfl, h1, h2⟩ := c1.tuple
    exact ⟨a, us, rfl, .inr h1, fun l nl => q us l h2 nl⟩
  · cases ho
end T3

end
section
set_option linter.all false
set_option autoImplicit false
set_option Elab.async false
namespace T3
open PySem L2
variable [TabL]

def tyN : PyData → String
  | .none => "NoneType"
  | .bool _ => "bool"
  | .int _ => "int"
  | .str _ => "str"
  | .list _ => "list"
  | .tuple _ => "tuple"
  | .dict _ => "dict"
theorem Cn.ty {K : PySem.W.Frag} {B : Mset} {H : Hp} {v : V} {x : PyData} (h : Cn K B H v x) (nx : ∀ kvs, x ≠ .dict kvs) : TyX K H v (.type (tyN x)) := by
  cases h with
  | ct h r => exact .base (.lst h)
  | rp h =>
    cases h with
    | non => exact .base .non
    | bl b => exact .base (.bl b)
    | int i => exact .base (.int i)
    | str x => exact .base (.str x)
    | tup h r =>
      rcases h with (h | ⟨o, h⟩) | ⟨o, _, _, h1, h2, _⟩
      · exact .base (.tup h)
      · exact .fTuple h
      · exact .kTuple h1 h2
    | lst h _ r => exact .base (.lst h)
    | frz h r => exact .base (.frz h)
    | kls h1 h2 h3 h4 h5 h6 r => exact .kList h1 h2
    | fn h => exact absurd rfl (nx _)
    | exn => exact absurd rfl (nx _)
    | obj => exact absurd rfl (nx _)
    | ntp h1 h2 h3 => exact absurd rfl (nx _)
    | lam h1 h2 h3 h4 h5 => exact absurd rfl (nx _)
    | dct h1 h2 h3 h4 h5 h6 => exact absurd rfl (nx _)
    | dck h1 h2 h3 h4 => exact absurd rfl (nx _)
inductive T5 where | int | bool | str | tuple | list
def T5.n : T5 → String
  | .int => "int"
  | .bool => "bool"
  | .str => "str"
  | .tuple => "tuple"
  | .list => "list"
def isi5 : T5 → PyData → Bool
  | .int, .int _ => true
  | .int, .bool _ => true
  | .bool, .bool _ => true
  | .str, .str _ => true
  | .tuple, .tuple _ => true
  | .list, .list _ => true
  | _, _ => false
theorem kt0 : ∀ t : T5, kitB "NoneType" t.n = some false := by intro t; cases t <;> decide +kernel
theorem kt1 : ∀ t : T5, kitB "bool" t.n = some (match t with | .int => true | .bool => true | _ => false) := by intro t; cases t <;> decide +kernel
theorem kt2 : ∀ t : T5, kitB "int" t.n = some (match t with | .int => true | _ => false) := by intro t; cases t <;> decide +kernel
theorem kt3 : ∀ t : T5, kitB "str" t.n = some (match t with | .str => true | _ => false) := by intro t; cases t <;> decide +kernel
theorem kt4 : ∀ t : T5, kitB "list" t.n = some (match t with | .list => true | _ => false) := by intro t; cases t <;> decide +kernel
theorem kt5 : ∀ t : T5, kitB "tuple" t.n = some (match t with | .tuple => true | _ => false) := by intro t; cases t <;> decide +kernel
theorem kit5 {K : PySem.W.Frag} (t : T5) (x : PyData) (hx : ∀ kvs, x ≠ .dict kvs) : PySem.W.kitOne K (.type (tyN x)) (.type t.n) = some (isi5 t x) := by
  cases x with
  | dict kvs => exact absurd rfl (hx kvs)
  | none => cases t <;> exact kit_ty (kt0 _)
  | bool b => cases t <;> exact kit_ty (kt1 _)
  | int b => cases t <;> exact kit_ty (kt2 _)
  | str b => cases t <;> exact kit_ty (kt3 _)
  | list b => cases t <;> exact kit_ty (kt4 _)
  | tuple b => cases t <;> exact kit_ty (kt5 _)
def oIsi (t : T5) : List PyData → Option PyData
  | [.dict _] => none
  | [x] => some (.bool (isi5 t x))
  | _ => none
theorem e_isi {X : Cx} {e : Expr} {f : EE} {x : Str} {p p2 pos : Pos} (t : T5) (h : PE X e (tE X.K f)) (hg : Gl X "isinstance") (hm : X.mg "isinstance" = none) (hg2 : Gl X x) (hm2 : X.mg x = none) (hv2 : bootBuiltins x = some (.type t.n)) (hn2 : x ≠ "__name__" := by decide) (hd2 : (x == ("__debug__" : Str)) = false := by decide)
    (hs1 : starEach [e, .Name x p2] X.env = (false, eval e X.env) :: starEach [.Name x p2] X.env := by rfl) (hs2 : starEach [.Name x p2] X.env = (false, eval (.Name x p2) X.env) :: starEach [] X.env := by rfl) (hpl : (backTo pos (starEach [.Name x p2] X.env)).any (·.1) = false := by rfl) :
    PE X (.Call (.Name "isinstance" p) [e, .Name x p2] [] pos) (tE X.K (eThen (eOne f) (kE (oIsi t)))) := by
  refine PE.imp (pe_callB call_isi hg hm PyProof.Rows.boot_isinstance (pa_cons h (pa_cons (pe_bltn (v := .ty t.n) hg2 hm2 hv2 rfl hn2 hd2) pa_nil hs2) hs1) (by decide) (by decide) hs1 hpl) fun σ H Q q => ?_
  have c : Con X.K (kE (oIsi t)) (l1 fun x H Q => rIsi X.K [x, .ty t.n] H Q) := con_E <| by
    intro B H vs xs z Q cn ho q x e
    unfold oIsi at ho
    split at ho
    · cases ho
    · rename_i nx
      cases ho
      obtain ⟨v, e2, c1⟩ := cn.one
      rw [e] at e2
      cases e2
      exact ⟨x, .ty t.n, _, _, _, rfl, .ty _, c1.ty nx, kit5 t _ nx, q _ (.bl _)⟩
    · cases ho
  exact rd_one c q

def cutD (xs : List PyData) (lo hi : Option Int) : List PyData := (xs.drop (HT.sIx xs.length 0 lo)).take (HT.sIx xs.length xs.length hi - HT.sIx xs.length 0 lo)
theorem RpA.cut {K : PySem.W.Frag} {B : Mset} {H : Hp} {vs : List V} {xs : List PyData} (h : RpA K B H vs xs) (lo hi : Option Int) : RpA K B H (cutV vs lo hi) (cutD xs lo hi) := by
  unfold cutV cutD
  rw [h.length]
  exact (h.drop _).take _
abbrev EO := Sl → Option (Option Int × Sl)
def oNo : EO := fun env => some (none, env)
def oSome (f : EE) : EO := fun env => match f env with
  | some (.pd (.int i), e) => some (some i, e)
  | _ => none
def tO (K : PySem.W.Frag) (f : EO) : TO := fun σ H Q => ∃ B env i env', EnvR K B H σ env ∧ f env = some (i, env') ∧ ∀ B' H', At K σ B H env B' H' env' → Q i H'
theorem PO.imp {X : Cx} {e : Option Expr} {t t' : TO} (h : PO X e t) (i : ∀ σ H Q, t' σ H Q → t σ H Q) : PO X e t' := ⟨fun pins s σ H Q I q => h.run pins s σ H Q I (i σ H Q q)⟩
theorem o_no {X : Cx} {K : PySem.W.Frag} : PO X none (tO K oNo) := PO.imp po_none fun σ H Q q => by
  obtain ⟨B, env, i, env', en, ev, q⟩ := q
  cases ev
  exact q B H (.refl en)
theorem o_some {X : Cx} {e : Expr} {f : EE} (h : PE X e (tE X.K f)) : PO X (some e) (tO X.K (oSome f)) := PO.imp (po_some h) fun σ H Q q => by
  obtain ⟨B, env, i, env', en, ev, q⟩ := q
  unfold oSome at ev
  split at ev
  · rename_i j e h1
    cases ev
    refine ⟨B, env, _, _, en, h1, fun B1 H1 v a1 r1 => ?_⟩
    have r1 : Rp X.K B1 H1 v (.int j) := r1
    cases r1
    exact ⟨j, rfl, q B1 H1 a1⟩
  · cases ev
def kSl (l h : Option Int) : KK := fun ds env => match ds with
  | [d] => match ctn env d with
    | some (.tuple xs) => some (.pd (.tuple (cutD xs l h)), env)
    | some (.list xs) => some (.tmp (.ls (cutD xs l h)), env)
    | some (.str s) => if s.length ≤ 1000000 then some (.pd (.str (cutS s l h)), env) else none
    | _ => none
  | _ => none
def eSl (f : EE) (lo hi : EO) : EE := fun env => match f env with
  | none => none
  | some (d, e1) => match lo e1 with
    | none => none
    | some (l, e2) => match hi e2 with
      | none => none
      | some (h, e3) => kSl l h [d] e3
def rSl3 (K : PySem.W.Frag) : V → Option Int → Option Int → Hp → VK → Prop := fun x lo hi H Q => rSlL K x lo hi H Q ∨ rSlA K x lo hi H Q ∨ rSlS x lo hi H Q
theorem sl3 {X : Cx} : SlR X (rSl3 X.K) := SlR.or sl_list (SlR.or sl_tupA sl_str)
theorem cutD_all {xs : List PyData} {lo hi : Option Int} (h : HT.sIx xs.length 0 lo = 0 ∧ HT.sIx xs.length xs.length hi = xs.length) : cutD xs lo hi = xs := by
  unfold cutD
  rw [h.1, h.2]
  simp
theorem c_sl {K : PySem.W.Frag} {l h : Option Int} : Con K (kSl l h) (l1 fun x H Q => rSl3 K x l h H Q) := by
  intro σ H B env B1 H1 env1 vs ds d e2 Q en a rr hk q x e
  subst e
  unfold kSl at hk
  split at hk
  · rename_i d1
    split at hk
    · rename_i xs hx
      cases hk
      obtain ⟨p, us, rfl, h1, h2⟩ := (Cn.of a.en (rr.each 0 x d1 rfl rfl) hx).tuple
      refine .inr (.inl ⟨p, us, rfl, h1, fun z => ?_, fun z r nr => ?_⟩)
      · rw [h2.length] at z
        rw [cutD_all z] at q
        exact q B1 H1 _ a (.tup h1 h2)
      · obtain ⟨g, a2⟩ := a.alloc en nr (.tup (cutV us l h)) False (fun _ => False) (fun _ f => f.elim)
        exact q _ _ _ a2 (.tup (.inl (.inl upd_same)) ((h2.cut l h).grow g))
    · rename_i xs hx
      cases hk
      obtain ⟨p, us, rfl, h1, h2⟩ := (Cn.of a.en (rr.each 0 x d1 rfl rfl) hx).list
      exact .inl ⟨p, us, rfl, h1, fun r nr => con_new en a nr (h2.cut l h) q⟩
    · rename_i s hx
      split at hk
      · rename_i hl
        cases hk
        have c1 := Cn.of a.en (rr.each 0 x d1 rfl rfl) hx
        exact .inr (.inr ⟨s, c1.str, Nat.le_of_lt (small hl), q B1 H1 _ a (.str _)⟩)
      · cases hk
    · cases hk
  · cases hk
theorem e_sl {X : Cx} {e : Expr} {lo hi : Option Expr} {f : EE} {fl fh : EO} {p2 pos : Pos} (he : PE X e (tE X.K f)) (hl : PO X lo (tO X.K fl)) (hu : PO X hi (tO X.K fh)) : PE X (.Subscript e (.Slice lo hi none p2) pos) (tE X.K (eSl f fl fh)) := by
  refine PE.imp (pe_slice sl3 he hl hu) fun σ H Q t => ?_
  obtain ⟨B, env, d, env', en, ev, q⟩ := t
  unfold eSl at ev
  split at ev
  · cases ev
  rename_i d1 e1 h1
  split at ev
  · cases ev
  rename_i l e2 h2
  split at ev
  · cases ev
  rename_i h e3 h3
  refine ⟨B, env, d1, e1, en, h1, fun B1 H1 v a1 r1 => ⟨B1, e1, l, e2, a1.en, h2, fun B2 H2 a2 => ⟨B2, e2, h, e3, a2.en, h3, fun B3 H3 a3 => ?_⟩⟩⟩
  have a23 := a2.trans a1.en a3
  have aa := a1.trans en a23
  refine c_sl σ H B env B3 H3 e3 [v] [d1] d env' Q en aa ⟨rfl, fun k w d' hv hd => ?_, fun k l' c c' w hkl hk hl _ _ => ?_⟩ ev q v rfl
  · cases k with
    | zero => simp at hv hd; subst hv hd; exact (r1.ra).later a1.en a23
    | succ k => simp at hv
  · have : k = 0 := by
      cases k with
      | zero => rfl
      | succ k => simp at hk
    have : l' = 0 := by
      cases l' with
      | zero => rfl
      | succ k => simp at hl
    omega
end T3

end
section
set_option linter.all false
set_option autoImplicit false
set_option Elab.async false
namespace T3
open PySem L2
variable [TabL]

theorem RRA.cons {K : PySem.W.Frag} {σ : St} {B1 B2 : Mset} {H H1 H2 : Hp} {e1 e2 : Sl} {v : V} {d : R} {vs : List V} {ds : List R} (en1 : EnvR K B1 H1 σ e1) (lv : ∀ a, H1 a = none → H a = none) (r1 : RR K H B1 H1 σ e1 v d) (a2 : At K σ B1 H1 e1 B2 H2 e2) (r2 : RRA K H1 B2 H2 σ e2 vs ds) : RRA K H B2 H2 σ e2 (v :: vs) (d :: ds) := by
  refine ⟨by simp [r2.len], fun k w d' hv hd => ?_, fun k l c c' w hkl hk hl vk vl => ?_⟩
  · cases k with
    | zero => simp at hv hd; subst hv hd; exact (r1.ra).later en1 a2
    | succ k =>
      have := r2.each k w d' (by simpa using hv) (by simpa using hd)
      cases d' with
      | pd x => exact this
      | nt x => exact this
      | var i => exact this
      | tmp c => obtain ⟨a, e1, e2, e3⟩ := this; exact ⟨a, e1, lv a e2, e3⟩
  · have fresh : ∀ (k : Nat) c', ds[k]? = some (.tmp c') → vs[k]? = some w → ∀ c, d = .tmp c → v = w → False := by
      intro kk c' gk gv c hd hw
      subst hd hw
      obtain ⟨a, rfl, _, ba, _, _⟩ := r1
      obtain ⟨a', e, h0, _⟩ := r2.each kk _ _ gv gk
      cases e
      obtain ⟨o, ho⟩ := en1.dom a ba
      rw [ho] at h0
      cases h0
    cases k with
    | zero =>
      cases l with
      | zero => exact hkl rfl
      | succ l => exact fresh l c' (by simpa using hl) (by simpa using vl) c (by simpa using hk) (by simpa using vk)
    | succ k =>
      cases l with
      | zero => exact fresh k c (by simpa using hk) (by simpa using vk) c' (by simpa using hl) (by simpa using vl)
      | succ l => exact r2.apart k l c c' w (by omega) (by simpa using hk) (by simpa using hl) (by simpa using vk) (by simpa using vl)

def isL (env : Sl) : R → Bool
  | .pd (.list _) => true
  | .tmp (.ls _) => true
  | .var i => match env[i]? with
    | some (some (.mu _ (.ls _))) => true
    | _ => false
  | _ => false
def isNt (env : Sl) : R → Bool
  | .nt _ => true
  | _ => false
def eBM (ty : Sl → R → Bool) (fo : EE) (fa : EA) (k : KK) : EE := fun env => match fo env with
  | none => none
  | some (d, e1) => if ty e1 d = true then match fa e1 with
      | none => none
      | some (ds, e2) => k (d :: ds) e2
    else none
def lm (r : V → List V → Hp → VK → Prop) : List V → Hp → VK → Prop := fun vs H Q => ∀ x xs, vs = x :: xs → r x xs H Q
theorem rd_bm {K : PySem.W.Frag} {ty : Sl → R → Bool} {fo : EE} {fa : EA} {k : KK} {r : V → List V → Hp → VK → Prop} {P : V → Hp → Prop} (hp : ∀ H₀ B H σ env v d, EnvR K B H σ env → RR K H₀ B H σ env v d → ty env d = true → P v H) (c : Con K k (lm r)) {σ : St} {H : Hp} {Q : VK} (h : tE K (eBM ty fo fa k) σ H Q) :
    tE K fo σ H fun x H1 => P x H1 ∧ tA K fa σ H1 fun xs H2 => r x xs H2 Q := by
  obtain ⟨B, env, d, env', en, ev, q⟩ := h
  unfold eBM at ev
  split at ev
  · cases ev
  rename_i d1 e1 h1
  split at ev
  rotate_left
  · cases ev
  rename_i ht
  split at ev
  · cases ev
  rename_i ds e2 h2
  refine ⟨B, env, d1, e1, en, h1, fun B1 H1 v a1 r1 => ⟨hp H B1 H1 σ e1 v d1 a1.en r1 ht, B1, e1, ds, e2, a1.en, h2, fun B2 H2 vs a2 r2 => ?_⟩⟩
  exact c σ H B env B2 H2 e2 (v :: vs) (d1 :: ds) d env' Q en (a1.trans en a2) (RRA.cons a1.en a1.st.liv r1 a2 r2) ev q v vs rfl
theorem ty_L {K : PySem.W.Frag} : ∀ H₀ B H σ env v d, EnvR K B H σ env → RR K H₀ B H σ env v d → isL env d = true → tyV K "list" v H := by
  intro H₀ B H σ env v d en r h
  unfold isL at h
  split at h
  · obtain ⟨a, vs, rfl, h1, _⟩ := Cn.list (.rp (show Rp K B H v (.list _) from r))
    exact .inl ⟨rfl, vs, h1⟩
  · obtain ⟨a, rfl, _, _, ⟨vs, h1, _⟩, _⟩ := r
    exact .inl ⟨rfl, vs, .inl (.inl h1)⟩
  · rename_i i
    split at h
    · rename_i hx
      obtain ⟨a, h1, _, vs, h2, _⟩ := en.mu _ _ _ hx
      rw [r.1] at h1
      cases h1
      exact .inl ⟨rfl, vs, .inl (.inl h2)⟩
    · cases h
  · cases h
theorem At.freeze {K : PySem.W.Frag} {σ : St} {B B1 : Mset} {H H1 : Hp} {env env1 : Sl} (en : EnvR K B H σ env) (a : At K σ B H env B1 H1 env1) (fz : Mset) (hf : ∀ q, fz q → H q = none ∧ ∀ (i : Nat) m d, env1[i]? = some (some (S.mu m d)) → σ[i]? ≠ some (some (V.ref q))) :
    Grow B1 H1 (fun q => B1 q ∧ ¬ fz q) H1 ∧ At K σ B H env (fun q => B1 q ∧ ¬ fz q) H1 env1 := by
  have g : Grow B1 H1 (fun q => B1 q ∧ ¬ fz q) H1 := ⟨fun q o h _ => h, fun q h => .inl h.1⟩
  refine ⟨g, ⟨a.st.keep, fun q h => a.st.new q h.1, fun q h w => ⟨a.st.old q h w, fun f => ?_⟩, a.st.sub, a.st.liv, a.st.pa⟩, ⟨a.en.len, fun i x h => ?_, fun i x h => ?_, fun i m c h => ?_, a.en.inj, fun q h => a.en.dom q h.1, a.en.tb.on (fun q o h _ _ => h) g.new a.en.tb.2⟩, a.sm, a.ks⟩
  · obtain ⟨o', ho⟩ := en.dom q h
    rw [(hf q f).1] at ho; cases ho
  · obtain ⟨v, h1, h2⟩ := a.en.pd i x h
    exact ⟨v, h1, h2.grow g⟩
  · obtain ⟨v, h1, h2⟩ := a.en.nt i x h
    exact ⟨v, h1, h2.grow g⟩
  · obtain ⟨q, h1, h2, h3⟩ := a.en.mu i m c h
    refine ⟨q, h1, ⟨h2, fun f => (hf q f).2 i m c h h1⟩, ?_⟩
    exact h3.hop g fun _ _ _ e => e
def kAppend : KK := fun ds env => match ds with
  | [.var i, d] => match data1 d with
    | none => none
    | some y => match env[i]? with
      | some (some (.mu m (.ls xs))) => if m ≠ .fro ∧ xs.length ≤ 1000000 then some (.pd .none, env.set i (some (.mu m (.ls (xs ++ [y]))))) else none
      | _ => none
  | _ => none
theorem c_append {K : PySem.W.Frag} : Con K kAppend (lm rAppend) := by
  intro σ H B env B1 H1 env1 vs ds d e2 Q en a rr hk q x xs e
  subst e
  unfold kAppend at hk
  split at hk
  · rename_i i d1
    split at hk
    · cases hk
    rename_i y hy
    split at hk
    · rename_i m ys hm
      split at hk
      · rename_i hc
        cases hk
        have hx : σ[i]? = some (some x) := rr.each 0 x _ rfl rfl
        obtain ⟨p, g1, g2, us, g3, g4⟩ := a.en.mu i _ _ hm
        rw [hx] at g1
        cases g1
        match xs, rr with
        | [w], rr =>
          obtain ⟨gf, af⟩ := a.freeze en (fzOf [.ref p, w] [.var i, d1]) rr.fz
          have hw : RpA K (fun q => B1 q ∧ ¬ fzOf [.ref p, w] [.var i, d1] q) H1 [w] [y] := by
            have := RRA.data (vs := [w]) (ds := [d1]) (xs := [y]) gf (fun a o h => h) rr.tail (fun q ⟨k, c, z1, z2⟩ h => h.2 ⟨k + 1, c, by simpa using z1, by simpa using z2⟩) (by simp [datas, hy])
            exact this
          refine ⟨p, us, w, rfl, rfl, g3, by rw [g4.length]; exact small hc.2, ?_⟩
          obtain ⟨gw, aw⟩ := AtS.write (o := .lst (us ++ [w])) (c' := .ls (ys ++ [y])) af.en hm hc.1 hx (fun o' h' im => by rw [g3] at h'; cases h'; exact im) (fun H' _ h1 g' => ⟨_, h1, ((g4.grow gf).append hw).grow g'⟩)
          exact q _ _ _ (af.trans en aw) .non
        | [], rr => have := rr.len; simp at this
        | _ :: _ :: _, rr => have := rr.len; simp at this
      · cases hk
    · cases hk
  · cases hk
def firstIx (d : PyData) : List PyData → Option Nat
  | [] => none
  | z :: zs => if PyData.eqv z d = true then some 0 else match firstIx d zs with
    | none => none
    | some j => some (j + 1)
theorem firstIx_at {d : PyData} : ∀ {zs : List PyData} {j : Nat}, firstIx d zs = some j → ∃ z, zs[j]? = some z ∧ PyData.eqv z d = true ∧ ∀ (m : Nat) z', m < j → zs[m]? = some z' → PyData.eqv z' d = false
  | [], j, h => by cases h
  | z :: zs, j, h => by
    unfold firstIx at h
    split at h
    · rename_i hz
      cases h
      exact ⟨z, rfl, hz, fun m z' hm => by omega⟩
    · rename_i hz
      split at h
      · cases h
      rename_i k hk
      cases h
      obtain ⟨y, h1, h2, h3⟩ := firstIx_at hk
      refine ⟨y, by simpa using h1, h2, fun m z' hm hm' => ?_⟩
      cases m with
      | zero => simp at hm'; subst hm'; simpa using hz
      | succ m => exact h3 m z' (by omega) (by simpa using hm')
def oIxL : List PyData → Option PyData
  | [.list ds, d] => if SeqAt.shaped (.list ds) = true ∧ SeqAt.shaped d = true then match firstIx d ds with
      | some j => some (.int (j : Nat))
      | none => none
    else none
  | _ => none
def oIxT : List PyData → Option PyData
  | [.tuple ds, d] => if SeqAt.shaped (.tuple ds) = true ∧ SeqAt.shaped d = true then match firstIx d ds with
      | some j => some (.int (j : Nat))
      | none => none
    else none
  | _ => none
def rTix (K : PySem.W.Frag) : V → List V → Hp → VK → Prop := fun x xs H Q => ∃ (a : Addr) (y : V) (d : PyData) (ds : List PyData) (j : Nat) (z : PyData), x = V.ref a ∧ xs = [y] ∧ Dp K H (V.ref a) (.tuple ds) ∧ Dp K H y d ∧
  SeqAt.shaped (.tuple ds) = true ∧ SeqAt.shaped d = true ∧ ds[j]? = some z ∧ PyData.eqv z d = true ∧ (∀ (m : Nat) (z' : PyData), m < j → ds[m]? = some z' → PyData.eqv z' d = false) ∧ Q (.int (j : Nat)) H
theorem mt_tix {X : Cx} (hu : X.A.units + 65 < cLine) : MtR X "tuple.index" (rTix X.K) := by
  intro pins s σ H x xs v us Q I rx rxs h
  obtain ⟨a, y, d, ds, j, z, rfl, rfl, hl, hy, sl, sd, hz, hzj, hno, q⟩ := h
  cases rx
  obtain ⟨uy, rfl, ry⟩ := rxs.one
  obtain ⟨bs, r1⟩ := Dp.reads I d y uy hy ry
  have hxs : PyData.canLayAll0 ds = true := SeqAt.canLay_of_shaped sl
  cases hl with
  | tup hs ha =>
    obtain ⟨its, rv, ⟨⟨cls, dd, data, sls⟩, ho, hc, n, hdt⟩, hlen⟩ := I.tuple hs
    simp only at hc hdt
    subst hc hdt
    obtain ⟨as, h4⟩ := Dp.readsAll I ds _ its ha rv
    have hn : its.length = ds.length := SeqAt.ReadsAll.length ds its as h4
    have hmap : its.map (SeqAt.readOf s.heap) = ds := SeqAt.readsAll_map ds its as hxs h4
    have at_ : ∀ (m : Nat) (hm : m < its.length) z', ds[m]? = some z' → SeqAt.readOf s.heap its[m] = z' := by
      intro m hm z' hz'
      rw [← hmap, List.getElem?_map, List.getElem?_eq_getElem hm] at hz'
      exact Option.some.inj hz'
    obtain ⟨hjd, _⟩ := List.getElem?_eq_some_iff.mp hz
    have hj : j < its.length := by omega
    have it := SeqAt.items_eqAt (vs := its.toArray) (show ReadsAll s.heap its.toArray.toList ds as from h4) r1 hxs (SeqAt.canLay_of_shaped sd) (A := X.A) (room_in sd hu)
    refine call_meets F.slot_tuple_index ⟨_, ho, rfl⟩ F.entry_tuple_index (F.args_tuple_index_2 _ _)
      (SeqAt.tuple_index2_found a its.toArray n dd sls uy (fun m => if h : m < its.length then PyData.eqv (SeqAt.readOf s.heap its[m]) d else false) j (by simpa using hj) (Nat.zero_le _) (by simpa using hj) ?_ ?_) ⟨ho, fun m hm => ?_, ⟨.int (j : Nat), H, I.tok _, ⟨_, rfl⟩, q⟩⟩
    · rw [dif_pos hj, at_ j hj z hz]; exact hzj
    · intro m hm _ hmj
      have hml : m < its.length := by simpa using hm
      rw [dif_pos hml, at_ m hml _ (List.getElem?_eq_getElem (by omega))]
      exact hno m _ hmj (List.getElem?_eq_getElem (by omega))
    · have hml : m < its.length := by simpa using hm
      rw [dif_pos hml]
      have := it its.toArray[m] (by simp)
      simpa using this
theorem pe_tix {X : Cx} {o e : Expr} {to : TE} {t : TA} {apos cpos : Pos} (hu : X.A.units + 65 < cLine) (ho : PE X o to) (ha : PA X [e] t)
    (hbase : attributeBase o "index" X.env (eval o X.env) = eval o X.env := by rfl)
    (hfew : ((backTo cpos (starEach [e] X.env)).all (fun x => !x.1) && (backToKw cpos (keywordEach [] X.env)).all (fun x => x.1.isSome)
      && decide (([e] : List Expr).length + ([] : List Keyword).length + (if ([] : List Keyword).isEmpty then 0 else 1) < 30)) = true := by rfl)
    (hline : (apos.endLine == cpos.line) = true := by rfl) (hs : starEach [e] X.env = (false, eval e X.env) :: starEach [] X.env := by rfl) (hplain : (backTo cpos (starEach [] X.env)).any (·.1) = false := by rfl) :
    PE X (.Call (.Attribute o "index" apos) [e] [] cpos) (fun σ H Q => to σ H fun x H1 => (∃ p ob us, x = .ref p ∧ H1 p = some (.frz ob (.tup us)) ∧ ob.dict = none) ∧ t σ H1 fun xs H2 => rTix X.K x xs H2 Q) := by
  refine ⟨fun pins s σ H Q I h => ?_⟩
  refine wpAny_Call_method_late hbase hfew hline rfl (thn (ho.run pins s σ H _ I h) fun v s1 ⟨x, H1, I1, r1, ⟨p, ob, us, ex, hf, hd⟩, q1⟩ => ?_)
  subst ex
  cases r1
  obtain ⟨g1, g2, its, g3, o2, g4, g5, _⟩ := I1.hok p _ hf
  refine ⟨"tuple", "tuple.index", F.plainAttrs_tuple, F.slot_tuple_index, F.type_tuple_index, ⟨o2, g4, g5⟩, fun a z => ?_, ?_⟩
  · cases z; exact ⟨ob, g1, hd⟩
  have hA := ha.run cpos pins s1 σ H1 _ I1 q1
  rw [hs] at hA ⊢
  refine Calls.callWith_builtin (by show (false || (backTo cpos (starEach [] X.env)).any (·.1)) = false; rw [hplain] <;> rfl) (Calls.evalArgs_plain ?_)
  exact thn hA fun us s2 ⟨vs, H2, I2, r2, q2⟩ => mt_tix hu pins s2 σ H2 (.ref p) vs _ us Q I2 rfl r2 q2
theorem c_tix {K : PySem.W.Frag} : Con K (kE oIxT) (lm (rTix K)) := con_E <| by
  intro B H vs xs z Q cn ho q x ys e
  unfold oIxT at ho
  split at ho
  · rename_i ds d
    split at ho
    · rename_i hs
      split at ho
      · rename_i j hj
        cases ho
        obtain ⟨v, w, e2, c1, c2⟩ := cn.two
        rw [e] at e2
        cases e2
        obtain ⟨a, us, rfl, h1, h2⟩ := c1.tuple
        obtain ⟨y, h3, h4, h5⟩ := firstIx_at hj
        exact ⟨a, w, d, ds, j, y, rfl, rfl, c1.dp hs.1, c2.dp hs.2, hs.1, hs.2, h3, h4, h5, q _ (.int _)⟩
      · cases ho
    · cases ho
  · cases ho
theorem ty_Nt {K : PySem.W.Frag} : ∀ H₀ B H σ env v d, EnvR K B H σ env → RR K H₀ B H σ env v d → isNt env d = true → ∃ p ob us, v = .ref p ∧ H p = some (.frz ob (.tup us)) ∧ ob.dict = none := by
  intro H₀ B H σ env v d en r h
  unfold isNt at h
  split at h
  · obtain ⟨a, rfl, o, us, h1, h2, _⟩ := r
    exact ⟨a, o, us, rfl, h1, h2⟩
  · cases h
def kIxT : KK := kE oIxT
theorem e_tix {X : Cx} {o e : Expr} {fo : EE} {fa : EA} {apos cpos : Pos} (hu : X.A.units + 65 < cLine) (ho : PE X o (tE X.K fo)) (ha : PA X [e] (tA X.K fa))
    (hbase : attributeBase o "index" X.env (eval o X.env) = eval o X.env := by rfl)
    (hfew : ((backTo cpos (starEach [e] X.env)).all (fun x => !x.1) && (backToKw cpos (keywordEach [] X.env)).all (fun x => x.1.isSome)
      && decide (([e] : List Expr).length + ([] : List Keyword).length + (if ([] : List Keyword).isEmpty then 0 else 1) < 30)) = true := by rfl)
    (hline : (apos.endLine == cpos.line) = true := by rfl) (hs : starEach [e] X.env = (false, eval e X.env) :: starEach [] X.env := by rfl) (hplain : (backTo cpos (starEach [] X.env)).any (·.1) = false := by rfl) :
    PE X (.Call (.Attribute o "index" apos) [e] [] cpos) (tE X.K (eBM isNt fo fa kIxT)) :=
  PE.imp (pe_tix hu ho ha hbase hfew hline hs hplain) fun _ _ _ t => rd_bm ty_Nt c_tix t
end T3

end
section
set_option linter.all false
set_option autoImplicit false
set_option Elab.async false
namespace T3
open PySem L2
variable [TabL]

def eCh (c1 c2 : Int → Int → Bool) (fa fb fc : EE) : EE := fun env => match fa env with
  | some (.pd (.int i), e1) => match fb e1 with
    | some (.pd (.int j), e2) => if c1 i j = true then match fc e2 with
        | some (.pd (.int k), e3) => some (.pd (.bool (c2 j k)), e3)
        | _ => none
      else some (.pd (.bool false), e2)
    | _ => none
  | _ => none
theorem rd_chain {K : PySem.W.Frag} {c1 c2 : Int → Int → Bool} {fa fb fc : EE} {σ : St} {H : Hp} {Q : VK} (h : tE K (eCh c1 c2 fa fb fc) σ H Q) : tChain (rI0 fun i j => .bl (c1 i j)) (rI0 fun i j => .bl (c2 i j)) (tE K fa) (tE K fb) (tE K fc) σ H Q := by
  obtain ⟨B, env, d, env', en, ev, q⟩ := h
  unfold eCh at ev
  split at ev
  · rename_i i e1 h1
    split at ev
    · rename_i j e2 h2
      refine ⟨B, env, _, _, en, h1, fun B1 H1 v a1 r1 => ⟨B1, e1, _, _, a1.en, h2, fun B2 H2 w a2 r2 => ?_⟩⟩
      have r1 : Rp K B1 H1 v (.int i) := r1
      have r2 : Rp K B2 H2 w (.int j) := r2
      cases r1
      cases r2
      have a12 := a1.trans en a2
      refine ⟨i, j, rfl, rfl, c1 i j, rfl, ?_⟩
      split at ev
      · rename_i hc
        rw [if_pos hc]
        split at ev
        · rename_i k e3 h3
          cases ev
          refine ⟨B2, e2, _, _, a2.en, h3, fun B3 H3 u a3 r3 => ?_⟩
          have r3 : Rp K B3 H3 u (.int k) := r3
          cases r3
          exact ⟨j, k, rfl, rfl, q _ _ _ (a12.trans en a3) (.bl _)⟩
        · cases ev
      · rename_i hc
        rw [if_neg hc]
        cases ev
        exact q _ _ _ a12 (.bl _)
    · cases ev
  · cases ev
inductive Cm where | lt | le | gt | ge
def Cm.op : Cm → CmpOp
  | .lt => .Lt
  | .le => .LtE
  | .gt => .Gt
  | .ge => .GtE
def Cm.f : Cm → Int → Int → Bool
  | .lt => fun i j => decide (i < j)
  | .le => fun i j => decide (i ≤ j)
  | .gt => fun i j => decide (j < i)
  | .ge => fun i j => decide (j ≤ i)
theorem Cm.ok {X : Cx} (c : Cm) : OpR X (compareOp c.op) (rI0 fun i j => .bl (c.f i j)) := by
  cases c
  · exact op_lt
  · exact op_le
  · exact op_gt
  · exact op_ge
theorem e_chain {X : Cx} {a b c : Expr} {fa fb fc : EE} {pos : Pos} (o1 o2 : Cm) (ha : PE X a (tE X.K fa)) (hb : PE X b (tE X.K fb)) (hc : PE X c (tE X.K fc)) (hm : lastMarks [o1.op, o2.op] [b, c] = false := by with_unfolding_all rfl) :
    PE X (.Compare a [o1.op, o2.op] [b, c] pos) (tE X.K (eCh o1.f o2.f fa fb fc)) := PE.imp (pe_chain o1.ok o2.ok ha hb hc hm) fun _ _ _ t => rd_chain t
theorem b_chain {X : Cx} {a b c : Expr} {fa fb fc : EE} {pos : Pos} (o1 o2 : Cm) (ha : PE X a (tE X.K fa)) (hb : PE X b (tE X.K fb)) (hc : PE X c (tE X.K fc)) (hm : lastMarks [o1.op, o2.op] [b, c] = false := by with_unfolding_all rfl) :
    PT X (.Compare a [o1.op, o2.op] [b, c] pos) (tT X.K (bT (eCh o1.f o2.f fa fb fc))) := b_of (pt_chain o1.ok o2.ok ha hb hc hm) fun _ _ _ t => rd_chain t
theorem b_truth {X : Cx} {a : Expr} {f : EE} (h : PE X a (tE X.K f)) (he : ∀ whole, isTrue a X.env whole = (do let v ← whole; standAt a.pos; holding [v] (truthy v)) := by exact fun _ => rfl) : PT X a (tT X.K (bT f)) :=
  PT.imp (pt_truth h he) fun σ H Q t => by
    obtain ⟨B, env, d, env', en, ev, q⟩ := rd_test t
    refine ⟨B, env, d, env', en, ev, fun B' H' v a r => ?_⟩
    obtain ⟨k, e, h⟩ := q B' H' v a r
    subst e
    exact ⟨k, rfl, h⟩
section
variable {X : Cx} {st : Stmt} {rest : List Stmt} {e : Expr} {pos : Pos} {f g : SS} {fe : EE} {c : EB}
theorem ss_nil : PSs X [] (tS X.K sPass) := PSs.imp pss_nil fun _ _ _ t => rd_pass t
theorem ss_cons (h1 : PS X st (tS X.K f)) (h2 : PSs X rest (tS X.K g)) : PSs X (st :: rest) (tS X.K (sSeq f g)) := PSs.imp (pss_cons h1 h2) fun _ _ _ t => rd_seq t
theorem ss_one (h1 : PS X st (tS X.K f)) : PSs X [st] (tS X.K f) := pss_one h1
theorem s_never : PS X st (tS X.K sNever) := PS.imp ps_never fun _ _ _ t => rd_never t
theorem s_if {t : Expr} {a b : List Stmt} (hc : PT X t (tT X.K c)) (ha : PSs X a (tS X.K f)) (hb : PSs X b (tS X.K g)) : PS X (.If t a b pos) (tS X.K (sIf c f g)) := PS.imp (ps_if hc ha hb) fun _ _ _ t => rd_ifS t
theorem s_ret (h : PE X e (tE X.K fe)) : PS X (.Return (some e) pos) (tS X.K (sRet fe)) := PS.imp (ps_ret h) fun _ _ _ t => rd_ret t
theorem s_expr (h : PE X e (tE X.K fe)) (hs : swapsWith e none pos.line X.env = pure false := by rfl) : PS X (.Expr e pos) (tS X.K (sExpr fe)) := PS.imp (ps_expr h hs) fun _ _ _ t => rd_expr t
theorem s_set {i : Nat} {x : Str} {pos' : Pos} (hN : X.N.Nodup) (hi : X.N[i]? = some x) (hx : Loc X.env.scope x) (he : PE X e (tE X.K fe)) (hs : swapsWith e (some (.Name x pos')) pos.line X.env = pure false := by rfl) (hf : X.fn x = true ∨ X.env.scope.names.lookup x = some .local := by first | exact .inl rfl | exact .inr rfl | assumption) :
    PS X (.Assign [.Name x pos'] e pos) (tS X.K (sSet i fe)) := PS.imp (ps_set hN hi hx he hs hf) fun _ _ _ t => rd_set t
theorem s_while {t : Expr} {body : List Stmt} (hp : PassesOwn (model X.prog X.w) X.A X.env X.xe) (hc : PT X t (tT X.K c)) (hb : PSs X body (tS X.K f)) : PS X (.While t body [] pos) (tS X.K (sWhile c f)) := PS.imp (ps_while hp hc hb) fun _ _ _ t => rd_while t
end
theorem PG.imp {X : Cx} {e : Expr} {t t' : TG} (h : PG X e t) (i : ∀ v σ H Q, t' v σ H Q → t v σ H Q) : PG X e t' := ⟨fun pins s σ H v u Q I r q => h.run pins s σ H v u Q I r (i v σ H Q q)⟩
theorem PGs.imp {X : Cx} {e : List Expr} {t t' : TGs} (h : PGs X e t) (i : ∀ v σ H Q, t' v σ H Q → t v σ H Q) : PGs X e t' := ⟨fun pins s σ H v u Q I r q => h.run pins s σ H v u Q I r (i v σ H Q q)⟩
section
variable {X : Cx} {K : PySem.W.Frag} {pos : Pos} {g : GG} {gs : GGs} {e : Expr} {es : List Expr}
theorem g_name {i : Nat} {x : Str} (hN : X.N.Nodup) (hi : X.N[i]? = some x) (hx : Loc X.env.scope x) (hf : X.fn x = true ∨ X.env.scope.names.lookup x = some .local := by first | exact .inl rfl | exact .inr rfl | assumption) : PG X (.Name x pos) (tG K (gN i)) := PG.imp (pg_name hN hi hx hf) fun _ _ _ _ t => rd_gN t
theorem gs_nil : PGs X [] (tGs K gNl) := PGs.imp pgs_nil fun _ _ _ _ t => rd_gNl t
theorem gs_cons (h1 : PG X e (tG K g)) (h2 : PGs X es (tGs K gs)) (hs : (assignEach (e :: es) X.env).map (·.2) = assign e X.env :: (assignEach es X.env).map (·.2) := by rfl) : PGs X (e :: es) (tGs K (gCn g gs)) := PGs.imp (pgs_cons h1 h2 hs) fun _ _ _ _ t => rd_gCn t
theorem g_tup {k n : Nat} (hc : X.calm = true) (h : PGs X es (tGs X.K gs)) (hn : (assignEach es X.env).length = n := by rfl) (hst : (assignEach es X.env).findIdx? (·.1) = none := by rfl) : PG X (.Tuple es k pos) (tG X.K (gT n gs)) := PG.imp (pg_tup hc h hn hst) fun _ _ _ _ t => rd_gT t
theorem v_name {i : Nat} {x : Str} {vs : List Nat} (hv : i ∈ vs) (hN : X.N.Nodup) (hi : X.N[i]? = some x) (hx : Loc X.env.scope x) (hf : X.fn x = true ∨ X.env.scope.names.lookup x = some .local := by first | exact .inl rfl | exact .inr rfl | assumption) : PG X (.Name x pos) (tGv K (gN i) vs) := PG.imp (pg_name hN hi hx hf) fun _ _ _ _ t => rd_gNv hv t
theorem vs_nil {vs : List Nat} : PGs X [] (tGsv K gNl vs) := PGs.imp pgs_nil fun _ _ _ _ t => rd_gNlv t
theorem vs_cons {vs : List Nat} (h1 : PG X e (tGv K g vs)) (h2 : PGs X es (tGsv K gs vs)) (hs : (assignEach (e :: es) X.env).map (·.2) = assign e X.env :: (assignEach es X.env).map (·.2) := by rfl) : PGs X (e :: es) (tGsv K (gCn g gs) vs) := PGs.imp (pgs_cons h1 h2 hs) fun _ _ _ _ t => rd_gCnv t
theorem v_tup {k n : Nat} {vs : List Nat} (hc : X.calm = true) (h : PGs X es (tGsv X.K gs vs)) (hn : (assignEach es X.env).length = n := by rfl) (hst : (assignEach es X.env).findIdx? (·.1) = none := by rfl) : PG X (.Tuple es k pos) (tGv X.K (gT n gs) vs) := PG.imp (pg_tup hc h hn hst) fun _ _ _ _ t => rd_gTv t
end
theorem s_for {X : Cx} {tg iter : Expr} {body : List Stmt} {pos : Pos} {it : EI} {g : GG} {f : SS} (hp : PassesOwn (model X.prog X.w) X.A X.env X.xe) (hc : X.calm = true) (hi : PI X tg iter (tI X.K it)) (hg : PG X tg (tG X.K g)) (hb : PSs X body (tS X.K f)) (hs : ∀ x, foldedSetIterable iter X.env x = pure x := by intro _; rfl) : PS X (.For tg iter body [] pos) (tS X.K (sFor it g f)) :=
  PS.imp (ps_for hp hc hi hg hb hs) fun _ _ _ t => rd_for t
def sAsg (f : EE) (g : GG) : SS := fun env => match f env with
  | some (.pd x, e) => match g x e with
    | none => none
    | some e2 => some (.nx, e2)
  | some (.nt xs, e) => match g (.tuple xs) e with
    | none => none
    | some e2 => some (.nx, e2)
  | _ => none
theorem rd_asg {K : PySem.W.Frag} {f : EE} {g : GG} {D : Ends} {σ : St} {H : Hp} (h : tS K (sAsg f g) D σ H) : tAsg (tE K f) (tG K g) D σ H := by
  obtain ⟨B, env, fl, env', en, ev, q⟩ := h
  unfold sAsg at ev
  split at ev
  · rename_i x e1 h1
    split at ev
    · cases ev
    rename_i e2 h2
    cases ev
    exact ⟨B, env, _, _, en, h1, fun B1 H1 v a1 r1 => ⟨B1, e1, x, _, a1.en, r1, h2, fun B2 σ2 H2 a2 => q B2 σ2 H2 (a1.s.trans en a2)⟩⟩
  · rename_i x e1 h1
    split at ev
    · cases ev
    rename_i e2 h2
    cases ev
    refine ⟨B, env, _, _, en, h1, fun B1 H1 v a1 r1 => ?_⟩
    obtain ⟨p, rfl, r1⟩ := r1
    exact ⟨B1, e1, _, _, a1.en, r1.rp, h2, fun B2 σ2 H2 a2 => q B2 σ2 H2 (a1.s.trans en a2)⟩
  · cases ev
theorem s_asg {X : Cx} {tg e : Expr} {pos : Pos} {f : EE} {g : GG} (he : PE X e (tE X.K f)) (hg : PG X tg (tG X.K g)) (hs : swapsWithSole [tg] e pos.line X.env = pure false := by rfl) (hw : swappedStores [tg] e X.env = pure none := by rfl)
    (h1 : (assignEach [tg] X.env).map (·.2) = [assign tg X.env] := by rfl) : PS X (.Assign [tg] e pos) (tS X.K (sAsg f g)) := PS.imp (ps_asg he hg hs hw h1) fun _ _ _ t => rd_asg t
def sPar (i j : Nat) (f : EA) : SS := fun env => match f env with
  | some ([d1, d2], e) => match setR i d1 e with
    | none => none
    | some e2 => match setR j d2 e2 with
      | none => none
      | some e3 => some (.nx, e3)
  | _ => none
theorem setR_slots {i : Nat} {d : R} {e e2 : Sl} (h : setR i d e = some e2) : ∀ (k : Nat) m c, e2[k]? = some (some (S.mu m c)) → (k = i ∧ ∃ c, d = .tmp c) ∨ (i ≠ k ∧ e[k]? = some (some (.mu m c))) := by
  intro k m c hk
  unfold setR at h
  split at h
  · cases d with
    | var _ => cases h
    | pd x =>
      cases h
      rcases get_set hk with ⟨_, z⟩ | ⟨z, hk⟩
      · cases z
      · exact .inr ⟨z, hk⟩
    | nt x =>
      cases h
      rcases get_set hk with ⟨_, z⟩ | ⟨z, hk⟩
      · cases z
      · exact .inr ⟨z, hk⟩
    | tmp t =>
      cases h
      rcases get_set hk with ⟨z, _⟩ | ⟨z, hk⟩
      · exact .inl ⟨z.symm, t, rfl⟩
      · exact .inr ⟨z, hk⟩
  · cases h
theorem RA.set {K : PySem.W.Frag} {H₀ : Hp} {σ : St} {B : Mset} {H : Hp} {e e2 : Sl} {i : Nat} {v w : V} {d d' : R} (hs : setR i d e = some e2) (hl : i < σ.length) (r : RA K H₀ B H σ e w d') (ap : ∀ c c', d = .tmp c → d' = .tmp c' → v ≠ w) (nv : ∀ k, d' ≠ .var k) : RA K H₀ B H (σ.set i (some v)) e2 w d' := by
  cases d' with
  | pd x => exact r
  | nt x => exact r
  | var k => exact absurd rfl (nv k)
  | tmp t =>
    obtain ⟨p, rfl, h1, h2, h3, h4⟩ := r
    refine ⟨p, rfl, h1, h2, h3, fun k m c hk hσ => ?_⟩
    rcases setR_slots hs k m c hk with ⟨z, t', z2⟩ | ⟨z, hk⟩
    · subst z
      rw [List.getElem?_set_self hl] at hσ
      cases hσ
      exact ap t' t z2 rfl rfl
    · rw [List.getElem?_set_ne z] at hσ
      exact h4 k m c hk hσ
theorem setR_nv {i : Nat} {d : R} {e e2 : Sl} (h : setR i d e = some e2) : ∀ k, d ≠ .var k := by
  intro k z
  subst z
  unfold setR at h
  split at h <;> cases h
theorem setR_lt {i : Nat} {d : R} {e e2 : Sl} (h : setR i d e = some e2) : i < e.length := by
  unfold setR at h
  split at h
  · rename_i hf; exact (free_ne hf).1
  · cases h
theorem rd_par {K : PySem.W.Frag} {i j : Nat} {f : EA} {D : Ends} {σ : St} {H : Hp} (h : tS K (sPar i j f) D σ H) : tPar i j (tA K f) D σ H := by
  obtain ⟨B, env, fl, env', en, ev, q⟩ := h
  unfold sPar at ev
  split at ev
  · rename_i d1 d2 e1 h1
    split at ev
    · cases ev
    rename_i e2 h2
    split at ev
    · cases ev
    rename_i e3 h3
    cases ev
    refine ⟨B, env, _, _, en, h1, fun B1 H1 vs a1 rr => ?_⟩
    match vs, rr with
    | [v, w], rr =>
      refine ⟨v, w, rfl, ?_⟩
      have s1 := AtS.set en a1.s (rr.each 0 v d1 rfl rfl) h2
      have r2 : RA K H B1 H1 (σ.set i (some v)) e2 w d2 := RA.set h2 (by rw [← a1.en.len]; exact setR_lt h2) (rr.each 1 w d2 rfl rfl) (fun c c' z1 z2 z3 => rr.apart 0 1 c c' v (by decide) (by simp [z1]) (by simp [z2]) rfl (by simp [z3])) (setR_nv h3)
      -- the second store over the first
      have s2 : AtS K σ B H env ((σ.set i (some v)).set j (some w)) B1 H1 env' := AtS.set en s1 r2 h3
      exact q B1 _ H1 s2
    | [], rr => have := rr.len; simp at this
    | [_], rr => have := rr.len; simp at this
    | _ :: _ :: _ :: _, rr => have := rr.len; simp at this
  · cases ev
end T3

end
section
set_option linter.all false
set_option autoImplicit false
set_option Elab.async false
namespace T3
open PySem L2
variable [TabL]

section
variable {X : Cx}
theorem s_par {i j : Nat} {x y : Str} {a b : Expr} {f : EA} {px py pt pos : Pos} {kt k2 : Nat} {pt2 : Pos} (hc : X.calm = true) (hN : X.N.Nodup) (hi : X.N[i]? = some x) (hj : X.N[j]? = some y) (hij : i ≠ j)
    (hx : X.env.scope.names.lookup x = some .local) (hy : X.env.scope.names.lookup y = some .local) (ha : PA X [a, b] (tA X.K f))
    (hw : swappedStores [.Tuple [.Name x px, .Name y py] kt pt] (.Tuple [a, b] k2 pt2) X.env = pure (some [x, y]))
    (hs : swapsWithSole [.Tuple [.Name x px, .Name y py] kt pt] (.Tuple [a, b] k2 pt2) pos.line X.env = pure false := by rfl) :
    PS X (.Assign [.Tuple [.Name x px, .Name y py] kt pt] (.Tuple [a, b] k2 pt2) pos) (tS X.K (sPar i j f)) := PS.imp (ps_par hc hN hi hj hij hx hy ha hw hs) fun _ _ _ t => rd_par t
theorem ts_yes {K : PySem.W.Frag} : PTs X [] (tT K bYes) := ⟨fun pins s σ H Q I h => (pts_nil (X := X)).run pins s σ H Q I (rd_yes h)⟩
theorem ts_one {K : PySem.W.Frag} {c : Expr} {t : EB} (h : PT X c (tT K t)) : PTs X [c] (tT K t) := pts_one h
theorem e_lc {elt tg iter : Expr} {ifs : List Expr} {scope : Scope} {own : List (Str × Nat)} {pos : Pos} {it : EI} {g : GG} {t : EB} {f : EE} (hc : X.calm = true) (hN : X.N.Nodup) (hi : PI X tg iter (tI X.K it)) (ok : BlkOk X.N X.env.scope scope own) (ho : Only g (own.map (·.2)))
    (hg : ∀ (s : Shared) (H : Hp) (C : Addr) (cl : List (Str × Addr)) (fp : List Addr), PG (X.blk s H scope (compEnvC scope cl C X.env) fp) tg (tGv X.K g (own.map (·.2)))) (ht : ∀ (s : Shared) (H : Hp) (C : Addr) (cl : List (Str × Addr)) (fp : List Addr), PTs (X.blk s H scope (compEnvC scope cl C X.env) fp) ifs (tT X.K t))
    (he : ∀ (s : Shared) (H : Hp) (C : Addr) (cl : List (Str × Addr)) (fp : List Addr), PE (X.blk s H scope (compEnvC scope cl C X.env) fp) elt (tE X.K f)) (hs : ∀ x, foldedSetIterable iter X.env x = pure x := by intro _; rfl) :
    PE X (.ListComp elt [⟨tg, iter, ifs, 0⟩] scope pos) (tE X.K (eLc it g t f (own.map (·.2)))) := PE.imp (pe_lc hc hN hi ok hg ht he hs) fun _ _ _ q => rd_lc ho q
theorem s_setLc {i : Nat} {y : Str} {py : Pos} {elt tg iter : Expr} {ifs : List Expr} {scope : Scope} {own : List (Str × Nat)} {pos spos : Pos} {it : EI} {g : GG} {t : EB} {f : EE} (hc : X.calm = true) (hN : X.N.Nodup) (hy : X.N[i]? = some y) (hyl : X.env.scope.names.lookup y = some .local)
    (hsw : swapsWith (.ListComp elt [⟨tg, iter, ifs, 0⟩] scope pos) (some (.Name y py)) spos.line X.env = pure true) (hi : PI X tg iter (tI X.K it)) (ok : BlkOk X.N X.env.scope scope own) (ho : Only g (own.map (·.2)))
    (hg : ∀ (s : Shared) (H : Hp) (C : Addr) (cl : List (Str × Addr)) (fp : List Addr), PG (X.blk s H scope (compEnvC scope cl C X.env) fp) tg (tGv X.K g (own.map (·.2)))) (ht : ∀ (s : Shared) (H : Hp) (C : Addr) (cl : List (Str × Addr)) (fp : List Addr), PTs (X.blk s H scope (compEnvC scope cl C X.env) fp) ifs (tT X.K t))
    (he : ∀ (s : Shared) (H : Hp) (C : Addr) (cl : List (Str × Addr)) (fp : List Addr), PE (X.blk s H scope (compEnvC scope cl C X.env) fp) elt (tE X.K f)) (hs : ∀ x, foldedSetIterable iter X.env x = pure x := by intro _; rfl) :
    PS X (.Assign [.Name y py] (.ListComp elt [⟨tg, iter, ifs, 0⟩] scope pos) spos) (tS X.K (sSet i (eLc it g t f (own.map (·.2))))) :=
  PS.imp (ps_setLc hc hN hy hyl hsw hi ok hg ht he hs) fun _ _ _ q => rd_lc ho (rd_set q)
end
def lenA : EA → Nat → Prop := fun f n => ∀ ds e e', f e = some (ds, e') → ds.length = n
theorem lenA_nil : lenA eNil 0 := by
  intro ds e e' h
  cases h
  rfl
theorem lenA_cons {fa : EE} {fr : EA} {n : Nat} (h : lenA fr n) : lenA (eCons fa fr) (n + 1) := by
  intro ds e e' he
  unfold eCons at he
  split at he
  · cases he
  split at he
  · cases he
  rename_i h2
  cases he
  simp [h _ _ _ h2]
section
variable {X : Cx} {k : Nat} {f : Addr} {fd : FuncData} {ps : List Str} {F : FnD} {x : Str} {p pos : Pos} {e : Expr} {es : List Expr} {fa : EA} {n : Nat}
theorem e_call (G : FnOk X.prog X.w X.K X.mg X.base CX0 k f fd ps (spF X.K F n)) (hr : Room k X.A) (hg : Gl X x) (hm : X.mg x = some (.ref f)) (hk : PySem.W.keepIn X.K (.ref f) = true) (hb : Binds X.K fd ps []) (hn : lenA fa n)
    (ha : PA X (e :: es) (tA X.K fa)) (hdb : (x == ("__debug__" : Str)) = false := by decide) (he : starEach (e :: es) X.env = (false, eval e X.env) :: starEach es X.env := by rfl) (hpl : (backTo pos (starEach es X.env)).any (·.1) = false := by rfl) :
    PE X (.Call (.Name x p) (e :: es) [] pos) (tE X.K (eCall F fa)) := PE.imp (pe_call G hr hg hm hk hb .nil pass0 ha hdb he hpl) fun _ _ _ t => rd_call hn t
end
theorem fn_ok {P : Program} {w : World} {K : PySem.W.Frag} {mg : Str → Option Value} {base : Heap} {x qual : Str} {st : Stmt} {f : Addr} {fd : FuncData} {N ps : List Str} {k n : Nat} {b : SS} (Fn : Fun K x qual st f fd) (Sc : FnScope N ps (defScope st)) (hn : n = ps.length)
    (hbody : ∀ (cdv : Value) (A : Around) (outer : List Env) (s : Shared) (H : Hp) (E : XK), Room k (A.deeper (PyProof.Rows.envOfC qual (defScope st) s.heap.objs.size f cdv)) →
      PSs (cxOf CX0 P w K mg base N qual (defScope st) f cdv A outer s H E).nox (defBody st) (tS K b)) : FnOk P w K mg base CX0 (k + 1) f fd ps (spF K (runFn N.length b) n) := by
  refine Fn.ok Sc (spF_len hn) fun cdv A outer s H vs Q E hr h => ⟨_, hbody cdv A outer s H E hr, fn_body h⟩

def gS (fo fi : EE) : GG := fun x env => match fo env with
  | some (.var j, e1) => match fi e1 with
    | some (.pd (.int k), e2) => putL j k x e2
    | _ => none
  | _ => none
theorem rd_gS {K : PySem.W.Frag} {fo fi : EE} {v : V} {σ : St} {H : Hp} {Q : St → Hp → Prop} (h : tG K (gS fo fi) v σ H Q) : gSub (tE K fo) (tE K fi) rSetL v σ H Q := by
  obtain ⟨B, env, x, env', en, r, ev, q⟩ := h
  unfold gS at ev
  split at ev
  · rename_i j e1 h1
    split at ev
    · rename_i k e2 h2
      refine ⟨B, env, _, _, en, h1, fun B1 H1 o a1 r1 => ⟨B1, e1, _, _, a1.en, h2, fun B2 H2 w a2 r2 => ?_⟩⟩
      have r2 : Rp K B2 H2 w (.int k) := r2
      cases r2
      have a12 := a1.trans en a2
      unfold putL at ev
      split at ev
      · rename_i m xs hm
        split at ev
        · cases ev
        rename_i hf
        split at ev
        · cases ev
        rename_i i hi
        cases ev
        have hx : σ[j]? = some (some o) := r1.1
        obtain ⟨p, g1, g2, us, g3, g4⟩ := a12.en.mu j _ _ hm
        rw [hx] at g1
        cases g1
        have rv : Rp K B2 H2 v x := r.grow (a12.grow en)
        refine ⟨p, us, k, i, rfl, rfl, g3, by rw [g4.length]; exact hi, ?_⟩
        obtain ⟨gw, aw⟩ := AtS.write (o := .lst (us.set i v)) (c' := .ls (xs.set i x)) a12.en hm hf hx (fun o' h' im => by rw [g3] at h'; cases h'; exact im) (fun H' _ h1 g' => ⟨_, h1, (g4.set rv i).grow g'⟩)
        exact q _ _ _ ((a12.trans en aw).s)
      · cases ev
    · cases ev
  · cases ev
theorem g_sub {X : Cx} {o i : Expr} {pos : Pos} {fo fi : EE} (ho : PE X o (tE X.K fo)) (hi : PE X i (tE X.K fi))
    (ha : ∀ v, assign (.Subscript o i pos) X.env v = (do
      let ov ← holding [v] (eval o X.env)
      let iv ← holding [v, ov] (eval i X.env)
      standAt pos
      holding [v, ov, iv] (setItem ov iv v)
      release [v, ov, iv] []) := by intro _; rfl) : PG X (.Subscript o i pos) (tG X.K (gS fo fi)) := PG.imp (pg_sub ho hi set_list ha) fun _ _ _ _ t => rd_gS t
def ItES (x : Str) : It := ⟨fun i _ => i < x.cps.size, fun i H v H' => ∃ T c, v = .ref T ∧ H T = none ∧ x.cps[i]? = some c ∧ H' = upd H T (.tup [.int (i : Nat), .str ⟨#[c]⟩]), fun i _ => i = x.cps.size⟩
def enumD (xs : List PyData) : Nat → List PyData
  | i => (List.range xs.length).map fun k => .tuple [.int ((i + k : Nat) : Int), xs.getD k .none]
theorem wk_es {K : PySem.W.Frag} {s : Str} : Wk K (ItES s) (fun _ => False) (fun _ _ => True) (enumD (signs s) 0) where
  go i B H g hi := by simp [enumD, signs_len] at hi; exact hi
  stop B H g := by simp [enumD, signs_len, ItES]
  yld i B H x H' d g hd hy := by
    obtain ⟨T, c, rfl, nT, hc, rfl⟩ := hy
    refine ⟨.inr (.inl ⟨T, _, nT, rfl⟩), ?_⟩
    have hi : i < (signs s).length := by
      rw [signs_len]
      exact (Array.getElem?_eq_some_iff.mp hc).1
    simp only [enumD, List.getElem?_map, List.getElem?_range hi, Option.map_some] at hd
    cases hd
    have : (signs s).getD i .none = .str ⟨#[c]⟩ := by
      rw [List.getD_eq_getElem?_getD]
      simp [signs, hc]
    rw [this, Nat.zero_add]
    exact .tup (.inl (.inl upd_same)) (.cons (.int _) (.cons (.str _) .nil))
  keep W B H W' B' H' g s wb hp := trivial
theorem turn_es {P : Program} {w : World} {K : PySem.W.Frag} {elts : List Expr} {kk : Nat} {tpos : Pos} (e it : Addr) (x : Str) (t : Tok) :
    Turn P w K (.Tuple elts kk tpos) (ItES x) [e, it] e (fun i h => (∃ old, IsEnum h e it ((i : Nat) : Int) old) ∧ h.IsStrIter it (strIterType x) x t i ∧ e ≠ it) where
  mem := by simp
  obj i h q b hb := by
    obtain ⟨⟨old, he⟩, ⟨o, ho, hc, hd⟩, _⟩ := q
    rcases (show b = e ∨ b = it by simpa using hb) with rfl | rfl
    · exact ⟨_, he, fun v z => nomatch z⟩
    · exact ⟨o, ho, fun v z => by rw [hd] at z; cases z⟩
  keep i h h' q k := by
    obtain ⟨⟨old, he⟩, ⟨o, ho, r⟩, hne⟩ := q
    exact ⟨⟨old, k e (by simp) _ he⟩, ⟨o, k it (by simp) _ ho, r⟩, hne⟩
  item := by
    intro X hP hw hK hc i pins s σ H E I hf q hg
    subst hP hw hK
    obtain ⟨⟨old, he⟩, hit, hne⟩ := q
    have hel : e < s.heap.objs.size := Heap.lt_size he
    have hil : it < s.heap.objs.size := by obtain ⟨_, z, _⟩ := hit; exact Heap.lt_size z
    have Dr := Draws.text (prog := X.prog) (w := X.w) (A := X.A.in1) (I.ok.hd hc) it x t
    refine wpAny_pyNext_enum_itemD Dr he hit hg hne (by simpa using hne) fun u h' tk hu ho hit' hT hsz hk => ?_
    obtain ⟨c, t2, hx, rfl⟩ := hu
    refine ⟨_, rfl, wpAny_letOwnedTupleGo_enum (s := { s with heap := h', toks := tk + 1 }) ho fun h'' he' sb => ?_⟩
    have new : ObjOk X.prog X.w (upd H s.heap.objs.size (.tup [.int (i : Nat), .str ⟨#[c]⟩])) h'' s.heap.objs.size (.tup [.int (i : Nat), .str ⟨#[c]⟩]) :=
      ⟨by rw [sizeLine_eq]; simp, [.int i tk, .str ⟨#[c]⟩ t2], .cons ⟨_, rfl⟩ (.cons ⟨_, rfl⟩ .nil), ⟨_, (sb.2 _ (Nat.ne_of_gt hel)).trans hT, rfl, _, rfl⟩⟩
    have I1 : Inv X pins σ (upd H s.heap.objs.size (.tup [.int (i : Nat), .str ⟨#[c]⟩])) { s with heap := h'', toks := tk + 1 } :=
      I.turnedNew (ch := [e, it]) (fun b ob hb z => (sb.2 b (fun y => hb (by simp [y]))).trans (hk b ob (fun y => hb (by simp [y])) (fun y => hb (by simp [y])) z)) hf (Nat.le_refl _) new
    obtain ⟨oi, hoi, ri⟩ := hit'
    refine ⟨.ref s.heap.objs.size, _, I1, rfl, ⟨_, c, rfl, I.hok.fresh (Nat.le_refl _), hx, rfl⟩, ⟨⟨.str ⟨#[c]⟩ t2, ?_⟩, ⟨oi, (sb.2 it (Ne.symm hne)).trans hoi, ri⟩, hne⟩, fun b hb => ?_⟩
    · have e1 : ((i + 1 : Nat) : Int) = (i : Int) + 1 := by omega
      rw [e1]; exact he'
    · have hb' : b < s.heap.objs.size := by
        rcases (show b = e ∨ b = it by simpa using hb) with z | z
        · rw [z]; exact hel
        · rw [z]; exact hil
      rw [upd_ne (Nat.ne_of_lt hb')]
      exact (hf b hb).1
  done := by
    intro X hP hw hK hc i pins s σ H E I hf q hg
    subst hP hw hK
    obtain ⟨⟨old, he⟩, hit, hne⟩ := q
    obtain ⟨f0, f1, f2, f3, f4, f5⟩ := hf it (by simp)
    have Dr := Draws.text (prog := X.prog) (w := X.w) (A := X.A.in1) (I.ok.hd hc) it x t
    have hi : i = x.cps.size := hg
    subst hi
    exact wpAny_pyNext_enum_endD Dr he hit fun h' eb => ⟨rfl, I.turned (t' := s.toks) (fun b o hb z => eb b o hb z) f0 f1 f3 f4 f5⟩
  self A i s Q E q h := by
    obtain ⟨⟨old, he⟩, _⟩ := q
    exact wpAny_pyIter_enum he h
def iES (te : TE) : TI := fun σ H R => te σ H fun v H1 => ∃ x, v = .str x ∧ R (ItES x) H1
theorem pi_es {X : Cx} {e : Expr} {te : TE} {p pos tpos : Pos} {elts : List Expr} {kk : Nat} (hg : Gl X "enumerate") (hm : X.mg "enumerate" = none) (he : PE X e te) (hs : starEach [e] X.env = (false, eval e X.env) :: starEach [] X.env := by rfl) :
    PI X (.Tuple elts kk tpos) (.Call (.Name "enumerate" p) [e] [] pos) (iES te) := by
  refine ⟨fun pins s σ H R I h => ?_⟩
  refine PyProof.Rows.Call_ (ld_blt I hg hm (by decide +kernel : bootBuiltins "enumerate" = some (.type "enumerate")) (PyProof.Rows.callWith_type1 (one_arg he I h (fun v s2 x H2 I2 r q => ?_) hs) hs))
  obtain ⟨z, rfl, q⟩ := q
  obtain ⟨t, rfl⟩ := r
  refine call_enumerate_str fun h' he' hit hsz hk => wpAny_pyIter_enum he' ?_
  refine ⟨s2.heap.objs.size + 1, [s2.heap.objs.size + 1, s2.heap.objs.size], _, _, H2, rfl, I2.kept (t' := s2.toks) hk, turn_es (s2.heap.objs.size + 1) s2.heap.objs.size z t, ⟨⟨.none, he'⟩, hit, Nat.succ_ne_self _⟩, fun b hb => ?_, q⟩
  have hle : s2.heap.objs.size ≤ b := by
    rcases (show b = s2.heap.objs.size + 1 ∨ b = s2.heap.objs.size by simpa using hb) with y | y
    · rw [y]; exact Nat.le_add_right _ _
    · rw [y]; exact Nat.le_refl _
  exact I2.fpOk hle (I2.hok.fresh hle)
def iEn (f : EE) : EI := fun env => match f env with
  | some (.pd (.str s), e) => some (enumD (signs s) 0, none, e)
  | _ => none
theorem i_en {X : Cx} {e : Expr} {f : EE} {p pos tpos : Pos} {elts : List Expr} {kk : Nat} (hg : Gl X "enumerate") (hm : X.mg "enumerate" = none) (he : PE X e (tE X.K f)) (hs : starEach [e] X.env = (false, eval e X.env) :: starEach [] X.env := by rfl) :
    PI X (.Tuple elts kk tpos) (.Call (.Name "enumerate" p) [e] [] pos) (tI X.K (iEn f)) := PI.imp (pi_es hg hm he hs) fun σ H R h => by
  obtain ⟨B, env, xs, lk, env', en, ev, q⟩ := h
  unfold iEn at ev
  split at ev
  · rename_i s e1 h1
    cases ev
    refine ⟨B, env, _, _, en, h1, fun B1 H1 v a1 r1 => ?_⟩
    have r1 : Rp X.K B1 H1 v (.str s) := r1
    cases r1
    exact ⟨s, rfl, q B1 H1 _ _ _ _ a1 rfl wk_es trivial (fun _ z => z.elim)⟩
  · cases ev
end T3

end
section
set_option linter.all false
set_option autoImplicit false
set_option Elab.async false
namespace T3
open PySem L2
variable [TabL]

def zipD (xs ys : List PyData) : List PyData := List.zipWith (fun x y => .tuple [x, y]) xs ys
theorem wk_zt {K : PySem.W.Frag} {a b : Addr} {xs ys : List PyData} : Wk K (RZ.ItzT K a b) (fun _ => False) (fun B H => Rp K B H (.ref a) (.tuple xs) ∧ Rp K B H (.ref b) (.tuple ys)) (zipD xs ys) where
  go i B H g hi := by
    obtain ⟨g1, g2⟩ := g
    obtain ⟨_, us, e, h1, h2⟩ := Cn.tuple (.rp g1)
    cases e
    obtain ⟨_, ws, e, h3, h4⟩ := Cn.tuple (.rp g2)
    cases e
    simp only [zipD, List.length_zipWith] at hi
    have l1 := h2.length
    have l2 := h4.length
    exact ⟨us, ws, us[i]'(by omega), ws[i]'(by omega), h1, h3, by simp, by simp⟩
  stop B H g := by
    obtain ⟨g1, g2⟩ := g
    obtain ⟨_, us, e, h1, h2⟩ := Cn.tuple (.rp g1)
    cases e
    obtain ⟨_, ws, e, h3, h4⟩ := Cn.tuple (.rp g2)
    cases e
    refine ⟨us, ws, h1, h3, ?_⟩
    simp only [zipD, List.length_zipWith]
    have l1 := h2.length
    have l2 := h4.length
    omega
  yld i B H x H' d g hd hy := by
    obtain ⟨g1, g2⟩ := g
    obtain ⟨_, us, e, h1, h2⟩ := Cn.tuple (.rp g1)
    cases e
    obtain ⟨_, ws, e, h3, h4⟩ := Cn.tuple (.rp g2)
    cases e
    obtain ⟨T, u, w, rfl, nT, rfl, f1, f2⟩ := hy
    refine ⟨.inr (.inl ⟨T, _, nT, rfl⟩), ?_⟩
    simp only [zipD, List.getElem?_zipWith] at hd
    have k1 := f1 us h1
    have k2 := f2 ws h3
    obtain ⟨x, m1, m2⟩ := h2.getV k1
    obtain ⟨y, m3, m4⟩ := h4.getV k2
    rw [m1, m3] at hd
    cases hd
    have gr : Grow B H B (upd H T (.tup [u, w])) := ⟨fun q o h _ => keep_upd nT q o h, fun q h => .inl h⟩
    exact .tup (.inl (.inl upd_same)) (.cons (m2.grow gr) (.cons (m4.grow gr) .nil))
  keep W B H W' B' H' g s wb _ := ⟨g.1.grow (s.grow wb), g.2.grow (s.grow wb)⟩
def tupOf : R → Option (List PyData)
  | .pd (.tuple xs) => some xs
  | .nt xs => some xs
  | _ => none
theorem tupOf_at {K : PySem.W.Frag} {H₀ : Hp} {B : Mset} {H : Hp} {σ : St} {env : Sl} {v : V} {d : R} {xs : List PyData} (h : RA K H₀ B H σ env v d) (c : tupOf d = some xs) : Rp K B H v (.tuple xs) := by
  unfold tupOf at c
  split at c
  · cases c; exact h
  · cases c; obtain ⟨a, rfl, h⟩ := h; exact h.rp
  · cases c
def iZt (f : EA) : EI := fun env => match f env with
  | some ([d1, d2], e) => match tupOf d1 with
    | none => none
    | some xs => match tupOf d2 with
      | none => none
      | some ys => some (zipD xs ys, none, e)
  | _ => none
theorem i_zip {X : Cx} {e e2 : Expr} {f : EA} {p pos tpos : Pos} {elts : List Expr} {kk : Nat} (hg : Gl X "zip") (hm : X.mg "zip" = none) (ha : PA X [e, e2] (tA X.K f))
    (hs : starEach [e, e2] X.env = (false, eval e X.env) :: starEach [e2] X.env := by rfl) (hpl : (backTo pos (starEach [e2] X.env)).any (·.1) = false := by rfl) :
    PI X (.Tuple elts kk tpos) (.Call (.Name "zip" p) [e, e2] [] pos) (tI X.K (iZt f)) := PI.imp (RZ.pi_zipA hg hm ha hs hpl) fun σ H R h => by
  obtain ⟨B, env, xs, lk, env', en, ev, q⟩ := h
  unfold iZt at ev
  split at ev
  · rename_i d1 d2 e1 h1
    split at ev
    · cases ev
    rename_i xs h2
    split at ev
    · cases ev
    rename_i ys h3
    cases ev
    refine ⟨B, env, _, _, en, h1, fun B1 H1 vs a1 rr => ?_⟩
    match vs, rr with
    | [v, w], rr =>
      have r1 := tupOf_at (rr.each 0 v d1 rfl rfl) h2
      have r2 := tupOf_at (rr.each 1 w d2 rfl rfl) h3
      obtain ⟨a, us, rfl, g1, _⟩ := Cn.tuple (.rp r1)
      obtain ⟨b, ws, rfl, g3, _⟩ := Cn.tuple (.rp r2)
      exact ⟨a, b, us, ws, rfl, .inr ⟨g1, g3, q B1 H1 _ _ _ _ a1 rfl wk_zt ⟨r1, r2⟩ (fun _ z => z.elim)⟩⟩
    | [], rr => have := rr.len; simp at this
    | [_], rr => have := rr.len; simp at this
    | _ :: _ :: _ :: _, rr => have := rr.len; simp at this
  · cases ev
def rgT (i j : Int) : List PyData := (List.range (j - i).toNat).map fun k => .int (i + (k : Nat))
theorem rg_rp {K : PySem.W.Frag} {B : Mset} {H : Hp} {i j : Int} : RpA K B H (rgV i j) (rgT i j) := by
  have : ∀ l : List Nat, RpA K B H (l.map fun k => V.int (i + (k : Nat))) (l.map fun k => PyData.int (i + (k : Nat))) := by
    intro l
    induction l with
    | nil => exact .nil
    | cons x l ih => exact .cons (.int _) ih
  exact this _
def KdOk (K : PySem.W.Frag) (w : World) (d : Addr) (kvs : List (Str × PyData)) : Prop := ∀ z x, kvs.lookup z = some x → ∃ v0, KDct K w d z v0 ∧ ∀ B H, Rp K B H v0 x
def eKd (kvs : List (Str × PyData)) (f : EE) : EE := fun env => match f env with
  | some (.pd (.str z), e) => match kvs.lookup z with
    | some x => some (.pd x, e)
    | none => none
  | _ => none
theorem e_kd {X : Cx} {a b : Expr} {d : Addr} {kvs : List (Str × PyData)} {f : EE} {pos : Pos} (D : KdOk X.K X.w d kvs) (ha : PE X a (tC (.ref d))) (hb : PE X b (tE X.K f)) (hs : PlainIx b := by exact fun _ _ => rfl) : PE X (.Subscript a b pos) (tE X.K (eKd kvs f)) := by
  refine PE.imp (pe_ix ix_kdict ha hb hs) fun σ H Q t => ?_
  obtain ⟨B, env, r, env', en, ev, q⟩ := t
  unfold eKd at ev
  split at ev
  · rename_i z e1 h1
    split at ev
    · rename_i x hx
      cases ev
      refine ⟨B, env, _, _, en, h1, fun B1 H1 v a1 r1 => ?_⟩
      have r1 : Rp X.K B1 H1 v (.str z) := r1
      cases r1
      obtain ⟨v0, g1, g3⟩ := D z x hx
      exact ⟨d, z, v0, rfl, rfl, g1, q B1 H1 v0 a1 (g3 B1 H1)⟩
    · cases ev
  · cases ev
end T3

end
section
set_option linter.all false
set_option autoImplicit false
set_option Elab.async false
namespace T3
open PySem L2
variable [TabL]

theorem u65 {k : Nat} {A : Around} (r : Room k A) : A.units + 65 < cLine := by have := r.un; omega
theorem u64 {k : Nat} {A : Around} (r : Room k A) : A.units + 64 < cLine := by have := r.un; omega
theorem u0 {k : Nat} {A : Around} (r : Room k A) : A.units < cLine := by have := r.un; omega
theorem u1 {k : Nat} {A : Around} (r : Room k A) : A.units + 1 < cLine := by have := r.un; omega
def At0 (K : PySem.W.Frag) (mg : Str → Option Value) (x : Str) (st : Stmt) (ps : List Str) : Prop := ∃ f fd, Fun K x x st f fd ∧ mg x = some (.ref f) ∧ Binds K fd ps []
def Has (P : Program) (w : World) (K : PySem.W.Frag) (mg : Str → Option Value) (base : Heap) (x : Str) (n : Nat) (F : FnD) (k : Nat) : Prop := ∃ f fd ps, FnOk P w K mg base CX0 k f fd ps (spF K F n) ∧ mg x = some (.ref f) ∧ PySem.W.keepIn K (.ref f) = true ∧ Binds K fd ps []
theorem has_of {P : Program} {w : World} {K : PySem.W.Frag} {mg : Str → Option Value} {base : Heap} {x : Str} {st : Stmt} {N ps : List Str} {k n : Nat} {b : SS} (h : At0 K mg x st ps) (Sc : FnScope N ps (defScope st)) (hn : n = ps.length)
    (hbody : ∀ (f : Addr) (cdv : Value) (A : Around) (outer : List Env) (s : Shared) (H : Hp) (E : XK), Room k (A.deeper (PyProof.Rows.envOfC x (defScope st) s.heap.objs.size f cdv)) →
      PSs (cxOf CX0 P w K mg base N x (defScope st) f cdv A outer s H E).nox (defBody st) (tS K b)) : Has P w K mg base x n (runFn N.length b) (k + 1) := by
  obtain ⟨f, fd, h1, h2, h3⟩ := h
  exact ⟨f, fd, ps, fn_ok h1 Sc hn fun cdv A outer s H E hr => hbody f cdv A outer s H E hr, h2, h1.kp, h3⟩
section
variable {X : Cx} {k n : Nat} {F : FnD} {x : Str} {p pos : Pos} {e : Expr} {es : List Expr} {fa : EA}
theorem e_fn (h : Has X.prog X.w X.K X.mg X.base x n F k) (hr : Room k X.A) (hn : lenA fa n) (ha : PA X (e :: es) (tA X.K fa)) (hg : Gl X x := by rfl) (hdb : (x == ("__debug__" : Str)) = false := by decide) (he : starEach (e :: es) X.env = (false, eval e X.env) :: starEach es X.env := by rfl) (hpl : (backTo pos (starEach es X.env)).any (·.1) = false := by rfl) :
    PE X (.Call (.Name x p) (e :: es) [] pos) (tE X.K (eCall F fa)) := by
  obtain ⟨f, fd, ps, h1, h2, h3, h4⟩ := h
  exact e_call h1 hr hg h2 h3 h4 hn ha hdb he hpl
end
def KC (K : PySem.W.Frag) (mg : Str → Option Value) (x : Str) (d : PyData) : Prop := ∃ v u, mg x = some u ∧ RelV v u ∧ ∀ B H, Rp K B H v d
theorem e_glob {X : Cx} {x : Str} {d : PyData} {pos : Pos} (h : KC X.K X.mg x d) (hg : Gl X x := by rfl) (hd : (x == ("__debug__" : Str)) = false := by decide) : PE X (.Name x pos) (tE X.K (eC d)) := by
  obtain ⟨v, u, h1, h2, h3⟩ := h
  exact e_c (pe_glob hg h1 h2 hd) h3
def KD (K : PySem.W.Frag) (w : World) (mg : Str → Option Value) (x : Str) (kvs : List (Str × PyData)) : Prop := ∃ d, mg x = some (.ref d) ∧ KdOk K w d kvs
theorem e_kdn {X : Cx} {x : Str} {b : Expr} {kvs : List (Str × PyData)} {f : EE} {p pos : Pos} (h : KD X.K X.w X.mg x kvs) (hb : PE X b (tE X.K f)) (hg : Gl X x := by rfl) (hd : (x == ("__debug__" : Str)) = false := by decide) (hs : PlainIx b := by exact fun _ _ => rfl) : PE X (.Subscript (.Name x p) b pos) (tE X.K (eKd kvs f)) := by
  obtain ⟨d, h1, h2⟩ := h
  exact e_kd h2 (pe_glob (v := .ref d) hg h1 rfl hd) hb hs
section
variable {X : Cx} {pos : Pos}
theorem k_int {i : Int} {j : Nat} : PE X (.Constant (.int i) j pos) (tE X.K (eC (.int i))) := e_c pe_int fun _ _ => .int _
theorem k_str {i : Str} {j : Nat} : PE X (.Constant (.str i) j pos) (tE X.K (eC (.str i))) := e_c pe_str fun _ _ => .str _
theorem k_bl {i : Bool} {j : Nat} : PE X (.Constant (.bool i) j pos) (tE X.K (eC (.bool i))) := e_c pe_bl fun _ _ => .bl _
theorem k_non {j : Nat} : PE X (.Constant .none j pos) (tE X.K (eC .none)) := e_c pe_non fun _ _ => .non
variable {a b : Expr} {fa fb : EE}
def eAdd (fa fb : EE) : EE := eThen (eTwo fa fb) kAdd
def eSub (fa fb : EE) : EE := eThen (eTwo fa fb) kSub
noncomputable def eMul (fa fb : EE) : EE := eThen (eTwo fa fb) kMul
noncomputable def eFdiv (fa fb : EE) : EE := eThen (eTwo fa fb) kFdiv
def eMod (fa fb : EE) : EE := eThen (eTwo fa fb) kMod
noncomputable def ePow (fa fb : EE) : EE := eThen (eTwo fa fb) kPow
def eNeg (fa : EE) : EE := eThen (eOne fa) kNeg
def eEq (fa fb : EE) : EE := eThen (eTwo fa fb) (kE oEq)
def eNe (fa fb : EE) : EE := eThen (eTwo fa fb) (kE oNe)
def eLt (fa fb : EE) : EE := eThen (eTwo fa fb) kLt
def eGt (fa fb : EE) : EE := eThen (eTwo fa fb) kGt
def eIn (fa fb : EE) : EE := eThen (eTwo fa fb) (kE (oIn false))
def eNin (fa fb : EE) : EE := eThen (eTwo fa fb) (kE (oIn true))
def eIs (fa fb : EE) : EE := eThen (eTwo fa fb) (kE (oIsN false))
def eIsn (fa fb : EE) : EE := eThen (eTwo fa fb) (kE (oIsN true))
def eIx (fa fb : EE) : EE := eThen (eTwo fa fb) (kE oIx)
theorem x_add (ha : PE X a (tE X.K fa)) (hb : PE X b (tE X.K fb)) : PE X (.BinOp a .Add b pos) (tE X.K (eAdd fa fb)) :=
  e_op (OpR.or op_add (OpR.or op_add_str (OpR.or op_catA op_cat))) (con_or2 (con_E ok_I0) (con_or2 (con_E ok_catS) (con_or2 (con_T ok_catT) c_catL))) ha hb
theorem x_sub (ha : PE X a (tE X.K fa)) (hb : PE X b (tE X.K fb)) : PE X (.BinOp a .Sub b pos) (tE X.K (eSub fa fb)) := e_op op_sub (con_E ok_I0) ha hb
theorem x_mul (ha : PE X a (tE X.K fa)) (hb : PE X b (tE X.K fb)) : PE X (.BinOp a .Mult b pos) (tE X.K (eMul fa fb)) := e_op (OpR.or op_mul op_repT) (con_or2 (con_E ok_I) (con_T ok_repT)) ha hb
theorem x_fdiv (ha : PE X a (tE X.K fa)) (hb : PE X b (tE X.K fb)) : PE X (.BinOp a .FloorDiv b pos) (tE X.K (eFdiv fa fb)) := e_op op_fdivW (con_E ok_I) ha hb
theorem x_mod (ha : PE X a (tE X.K fa)) (hb : PE X b (tE X.K fb)) : PE X (.BinOp a .Mod b pos) (tE X.K (eMod fa fb)) := e_op op_mod (con_E ok_I) ha hb
theorem x_pow (ha : PE X a (tE X.K fa)) (hb : PE X b (tE X.K fb)) : PE X (.BinOp a .Pow b pos) (tE X.K (ePow fa fb)) := e_op op_pow (con_E ok_I) ha hb
theorem x_neg (ha : PE X a (tE X.K fa)) : PE X (.UnaryOp .USub a pos) (tE X.K (eNeg fa)) := e_un un_neg c_neg ha
theorem x_ix (ha : PE X a (tE X.K fa)) (hb : PE X b (tE X.K fb)) (hs : PlainIx b := by exact fun _ _ => rfl) : PE X (.Subscript a b pos) (tE X.K (eIx fa fb)) := e_ix ix_seq (con_E ok_ix) ha hb hs
variable {k : Nat}
structure Cmp2 (X : Cx) (op : CmpOp) (kk : KK) : Prop where
  ex : ∃ r : R2, OpR X (compareOp op) r ∧ Con X.K kk (l2 r)
theorem q_eq (hr : Room k X.A) : Cmp2 X .Eq (kE oEq) := ⟨_, op_eqD (u64 hr), con_E ok_eq⟩
theorem q_ne (hr : Room k X.A) : Cmp2 X .NotEq (kE oNe) := ⟨_, op_neD (u64 hr), con_E ok_ne⟩
theorem q_lt (hr : Room k X.A) : Cmp2 X .Lt kLt := ⟨_, OpR.or op_lt (OpR.or (op_ltT (u0 hr)) (op_ltG (u64 hr))), con_or2 (con_E ok_B0) (con_or2 (con_E ok_ltT) (con_E ok_ltG))⟩
theorem q_gt (hr : Room k X.A) : Cmp2 X .Gt kGt := ⟨_, OpR.or op_gt (op_gtG (u64 hr)), con_or2 (con_E ok_B0) (con_E ok_gtG)⟩
theorem q_in (hr : Room k X.A) : Cmp2 X .In (kE (oIn false)) := ⟨_, OpR.or (op_inD (u65 hr)) (op_inT (u65 hr)), con_E ok_in⟩
theorem q_nin (hr : Room k X.A) : Cmp2 X .NotIn (kE (oIn true)) := ⟨_, OpR.or (op_notInD (u65 hr)) (op_notInT (u65 hr)), con_E ok_notin⟩
theorem q_is (hr : Room k X.A) : Cmp2 X .Is (kE (oIsN false)) := ⟨_, op_isN, con_E ok_isN⟩
theorem q_isn (hr : Room k X.A) : Cmp2 X .IsNot (kE (oIsN true)) := ⟨_, op_notN, con_E ok_notN⟩
theorem x_cmp {op : CmpOp} {kk : KK} (q : Cmp2 X op kk) (ha : PE X a (tE X.K fa)) (hb : PE X b (tE X.K fb)) (hm : behindInMarks op b = false := by rfl) : PE X (.Compare a [op] [b] pos) (tE X.K (eThen (eTwo fa fb) kk)) := by
  obtain ⟨r, h1, h2⟩ := q.ex
  exact e_cmp h1 h2 ha hb hm
theorem y_cmp {op : CmpOp} {kk : KK} (q : Cmp2 X op kk) (ha : PE X a (tE X.K fa)) (hb : PE X b (tE X.K fb)) (hm : behindInMarks op b = false := by rfl) : PT X (.Compare a [op] [b] pos) (tT X.K (bT (eThen (eTwo fa fb) kk))) := by
  obtain ⟨r, h1, h2⟩ := q.ex
  exact b_cmp h1 h2 ha hb hm
end
section
variable {X : Cx} {p pos : Pos} {e : Expr} {es : List Expr} {f : EA} {k : Nat}
structure Blt (X : Cx) (x : Str) (kk : KK) : Prop where
  ex : ∃ (id : String) (r : List V → Hp → VK → Prop), CallR X (.builtin id) r ∧ Con X.K kk r ∧ bootBuiltins x = some (.builtin id)
structure Bty (X : Cx) (x : Str) (kk : KK) : Prop where
  ex : ∃ (id : String) (r : List V → Hp → VK → Prop), CallR X (.type id) r ∧ Con X.K kk r ∧ bootBuiltins x = some (.type id)
theorem x_blt {x : Str} {kk : KK} (B : Blt X x kk) (hm : X.mg x = none) (ha : PA X (e :: es) (tA X.K f)) (hg : Gl X x := by rfl) (hn : x ≠ "__name__" := by decide) (hdb : (x == ("__debug__" : Str)) = false := by decide) (he : starEach (e :: es) X.env = (false, eval e X.env) :: starEach es X.env := by rfl) (hpl : (backTo pos (starEach es X.env)).any (·.1) = false := by rfl) :
    PE X (.Call (.Name x p) (e :: es) [] pos) (tE X.K (eThen f kk)) := by
  obtain ⟨id, r, h1, h2, h3⟩ := B.ex
  exact e_callB h1 h2 hg hm h3 ha hn hdb he hpl
theorem x_bty {x : Str} {kk : KK} (B : Bty X x kk) (hm : X.mg x = none) (ha : PA X (e :: es) (tA X.K f)) (hg : Gl X x := by rfl) (hn : x ≠ "__name__" := by decide) (hdb : (x == ("__debug__" : Str)) = false := by decide) (he : starEach (e :: es) X.env = (false, eval e X.env) :: starEach es X.env := by rfl) (hpl : (backTo pos (starEach es X.env)).any (·.1) = false := by rfl) :
    PE X (.Call (.Name x p) (e :: es) [] pos) (tE X.K (eThen f kk)) := by
  obtain ⟨id, r, h1, h2, h3⟩ := B.ex
  exact e_callTy h1 h2 hg hm h3 ha hn hdb he hpl
theorem w_len (hc : X.calm = true) (hr : Room k X.A) : Blt X "len" (kE oLen) := ⟨_, _, cr_len, c_len, PySem.boot_len⟩
theorem w_all (hc : X.calm = true) (hr : Room k X.A) : Blt X "all" (kE oAll) := ⟨_, _, cr_all hc, c_all, by decide +kernel⟩
theorem w_abs (hc : X.calm = true) (hr : Room k X.A) : Blt X "abs" (kE oAbs) := ⟨_, _, call_abs, c_abs, by decide +kernel⟩
theorem w_max (hc : X.calm = true) (hr : Room k X.A) : Blt X "max" (kE oMax) := ⟨_, _, cr_mx hc (u64 hr), c_mx, by decide +kernel⟩
theorem w_min (hc : X.calm = true) (hr : Room k X.A) : Blt X "min" (kE oMin) := ⟨_, _, cr_mn hc (u64 hr), c_mn, by decide +kernel⟩
theorem w_tuple (hc : X.calm = true) (hr : Room k X.A) : Bty X "tuple" kTupN := ⟨_, _, cr_tupN, c_tupN, by decide +kernel⟩
theorem w_list (hc : X.calm = true) (hr : Room k X.A) : Bty X "list" (kL oList) := ⟨_, _, call_list_of, c_list, by decide +kernel⟩
end
section
variable {X : Cx} {o e : Expr} {es : List Expr} {fo : EE} {fa : EA} {apos cpos : Pos} {k : Nat}
theorem m_append (ho : PE X o (tE X.K fo)) (ha : PA X [e] (tA X.K fa)) (hbase : attributeBase o "append" X.env (eval o X.env) = eval o X.env := by rfl)
    (hfew : ((backTo cpos (starEach [e] X.env)).all (fun x => !x.1) && (backToKw cpos (keywordEach [] X.env)).all (fun x => x.1.isSome)
      && decide (([e] : List Expr).length + ([] : List Keyword).length + (if ([] : List Keyword).isEmpty then 0 else 1) < 30)) = true := by rfl)
    (hline : (apos.endLine == cpos.line) = true := by rfl) (hs : starEach [e] X.env = (false, eval e X.env) :: starEach [] X.env := by rfl) (hplain : (backTo cpos (starEach [] X.env)).any (·.1) = false := by rfl) :
    PE X (.Call (.Attribute o "append" apos) [e] [] cpos) (tE X.K (eBM isL fo fa kAppend)) :=
  PE.imp (pe_bm PySem.F.plainAttrs_list PySem.F.slot_list_append PySem.F.type_list_append mt_append ho ha hbase hfew hline hs hplain) fun _ _ _ t => rd_bm ty_L c_append t
end
section
variable {X : Cx}
theorem x_lc {elt tg iter : Expr} {ifs : List Expr} {scope : Scope} {pos : Pos} {it : EI} {g : GG} {t : EB} {f : EE} {vs : List Nat} (own : List (Str × Nat)) (hc : X.calm = true) (hN : X.N.Nodup) (hv : own.map (·.2) = vs) (hi : PI X tg iter (tI X.K it)) (ok : BlkOk X.N X.env.scope scope own) (ho : Only g vs)
    (hg : ∀ (s : Shared) (H : Hp) (C : Addr) (cl : List (Str × Addr)) (fp : List Addr), PG (X.blk s H scope (compEnvC scope cl C X.env) fp) tg (tGv X.K g vs)) (ht : ∀ (s : Shared) (H : Hp) (C : Addr) (cl : List (Str × Addr)) (fp : List Addr), PTs (X.blk s H scope (compEnvC scope cl C X.env) fp) ifs (tT X.K t))
    (he : ∀ (s : Shared) (H : Hp) (C : Addr) (cl : List (Str × Addr)) (fp : List Addr), PE (X.blk s H scope (compEnvC scope cl C X.env) fp) elt (tE X.K f)) (hs : ∀ x, foldedSetIterable iter X.env x = pure x := by intro _; rfl) :
    PE X (.ListComp elt [⟨tg, iter, ifs, 0⟩] scope pos) (tE X.K (eLc it g t f vs)) := by
  subst hv
  exact e_lc hc hN hi ok ho hg ht he hs
theorem x_setLc {i : Nat} {y : Str} {py : Pos} {elt tg iter : Expr} {ifs : List Expr} {scope : Scope} {pos spos : Pos} {it : EI} {g : GG} {t : EB} {f : EE} {vs : List Nat} (own : List (Str × Nat)) (hc : X.calm = true) (hN : X.N.Nodup) (hv : own.map (·.2) = vs) (hy : X.N[i]? = some y) (hyl : X.env.scope.names.lookup y = some .local)
    (hsw : swapsWith (.ListComp elt [⟨tg, iter, ifs, 0⟩] scope pos) (some (.Name y py)) spos.line X.env = pure true) (hi : PI X tg iter (tI X.K it)) (ok : BlkOk X.N X.env.scope scope own) (ho : Only g vs)
    (hg : ∀ (s : Shared) (H : Hp) (C : Addr) (cl : List (Str × Addr)) (fp : List Addr), PG (X.blk s H scope (compEnvC scope cl C X.env) fp) tg (tGv X.K g vs)) (ht : ∀ (s : Shared) (H : Hp) (C : Addr) (cl : List (Str × Addr)) (fp : List Addr), PTs (X.blk s H scope (compEnvC scope cl C X.env) fp) ifs (tT X.K t))
    (he : ∀ (s : Shared) (H : Hp) (C : Addr) (cl : List (Str × Addr)) (fp : List Addr), PE (X.blk s H scope (compEnvC scope cl C X.env) fp) elt (tE X.K f)) (hs : ∀ x, foldedSetIterable iter X.env x = pure x := by intro _; rfl) :
    PS X (.Assign [.Name y py] (.ListComp elt [⟨tg, iter, ifs, 0⟩] scope pos) spos) (tS X.K (sSet i (eLc it g t f vs))) := by
  subst hv
  exact s_setLc hc hN hy hyl hsw hi ok ho hg ht he hs
end
end T3

end
section
set_option linter.all false
set_option autoImplicit false
set_option Elab.async false
namespace T3
open PySem PyProof.Rows
variable [TabL]
theorem collect_tup {prog : Program} {w : World} {A : Around} {E : Value → Shared → Prop} {s : Shared} {l : Addr} {vs : List Value} {Q : List Value → Shared → Prop} (hl : IsTup s.heap l vs.toArray)
    (h : Q vs { s with heap := (s.heap.push (seqObj "list" #[] 0)).update s.heap.objs.size (Obj.mapSeq (· ++ vs.toArray)) }) (hsz : vs.length ≤ sizeLine) : wpAny (model prog w) A (collect (.ref l)) Q E s := by
  obtain ⟨o, ho, hc, n, hd⟩ := hl
  have eL : (s.heap.push (seqObj "list" #[] 0)).get? s.heap.objs.size = some (seqObj "list" #[] 0) := Heap.get?_push_size _ rfl
  have eO : (s.heap.push (seqObj "list" #[] 0)).get? l = some o := Heap.get?_push_of_some _ ho
  unfold collect
  refine wpAny_bind (wpAny_runValue (codeAny_builtin entry_proto_collect' ?_))
  show wpAny (model prog w) _ (do again (.builtin "list.__iadd__" ⟨[← newList [], .ref l], []⟩)) _ _ s
  refine wpAny_bind (wpAny_newList (wpAny_pure
    ⟨Code.quiet_builtin _ (by decide +kernel), codeAny_builtin entry_list_iadd' ?_⟩))
  show wpAny (model prog w) _ (Builtin.List.listExtendWith (.ref s.heap.objs.size) (.ref l) (.ref s.heap.objs.size)) _ _ { s with heap := s.heap.push (seqObj "list" #[] 0) }
  unfold Builtin.List.listExtendWith
  refine wpAny_bind (wpAny_typeOf (T := "tuple") ⟨o, eO, hc⟩ ?_)
  have ht : (Value.type "tuple" == Value.type "tuple") = true := rfl
  rw [if_pos (by rw [ht]; simp)]
  refine wpAny_bind (listItems_at eO hd (wpAny_bind (listItems_at (xs := #[]) (n := 0) eL rfl ?_)))
  have hsz' : ((#[] : Array Value) ++ vs.toArray).size ≤ sizeLine + 1 := by simp; omega
  rw [if_neg (by simp)]
  refine wpAny_bind (listUpdate_at (xs := #[]) (n := 0) eL rfl (wpAny_pure ?_) (Nat.zero_le _) hsz')
  refine wpAny_bind (wpAny_load (get?_update_seq eL _) ?_)
  show wpAny (model prog w) A (pure ((#[] : Array Value) ++ vs.toArray).toList) Q E _
  have e0 : ((#[] : Array Value) ++ vs.toArray).toList = vs := by simp
  rw [e0]
  exact wpAny_pure h
end T3
namespace T3
open PySem PyProof.Rows SrtO Srt
variable [TabL]
theorem sorted_tup {prog : Program} {w : World} {A : Around} {E : Value → Shared → Prop} {s : Shared} {l : Addr} {vs : List Value} {ltv : Value → Value → Bool} {Q : Value → Shared → Prop} (O : Swo ltv) (hl : IsTup s.heap l vs.toArray) (hz : vs.length ≤ sizeLine)
    (hS : 2 ≤ vs.length → ∀ (h₁ : Heap) (a : Addr), h₁.get? a = some (seqObj "list" vs.toArray 0) → (∀ b o, s.heap.get? b = some o → b ≠ a ∧ h₁.get? b = some o) → SortableO prog w A.in1.in1 { s with heap := h₁ } a vs ltv)
    (h : ∀ out : List Value, Srtd ltv out → Stb ltv out vs → Q (.ref (s.heap.objs.size + 1)) { s with heap := sortedAll s.heap vs out.toArray }) : wpAny (model prog w) A (call (.builtin "sorted") [.ref l]) Q E s := by
  refine Calls.call_function_entry kind_sorted plain_sorted entry_sorted (args_sorted1 _) ?_
  unfold Builtin.«sorted»
  refine wpAny_bind (m := checkCount "sorted" 1 1 _) (wpAny_pure (wpAny_bind (collect_tup hl (wpAny_bind (wpAny_newList ?_ hz)) hz)))
  generalize eg : (s.heap.push (seqObj "list" #[] 0)).update s.heap.objs.size (Obj.mapSeq (· ++ vs.toArray)) = g
  have hg : g.objs.size = s.heap.objs.size + 1 := by rw [← eg, Heap.size_update, size_push']
  have new : (g.push (seqObj "list" vs.toArray 0)).get? (s.heap.objs.size + 1) = some (seqObj "list" vs.toArray 0) := by rw [← hg]; exact Heap.get?_push_size _ rfl
  have keep : ∀ b o, s.heap.get? b = some o → b ≠ s.heap.objs.size + 1 ∧ (g.push (seqObj "list" vs.toArray 0)).get? b = some o := fun b o q => by
    have hb : b < s.heap.objs.size := Heap.lt_size q
    refine ⟨Nat.ne_of_lt (Nat.lt_succ_of_lt hb), Heap.get?_push_of_some _ ?_⟩
    rw [← eg, Heap.get?_update_ne _ _ _ _ (Nat.ne_of_lt hb)]
    exact Heap.get?_push_of_some _ q
  show wpAny (model prog w) _ _ _ _ { s with heap := g.push (seqObj "list" vs.toArray 0) }
  rw [hg]
  refine wpAny_bind (wpAny_holding (wpAny_call_entry slot_list_sort ⟨_, new, rfl⟩ entry_list_sort
    (list_sort_ord O new hz (fun h2 => hS h2 _ _ new keep) fun out a1 a2 => ⟨_, rfl, wpAny_pure ⟨_, rfl, ?_⟩⟩) (args_list_sort _)))
  subst eg
  exact h out a1 a2
end T3

namespace T3
open PySem L2
variable [TabL]
def rSrtT (K : PySem.W.Frag) : List V → Hp → VK → Prop := fun vs H Q => ∃ (a : Addr) (ns : List Int), vs = [V.ref a] ∧ SqT K H a (ns.map V.int) ∧
  ∀ (ns' : List Int) (p : Addr), ns'.Perm ns → ns'.Pairwise (· ≤ ·) → H p = none → Q (.ref p) (upd H p (.lst (ns'.map V.int)))
theorem cr_srtT {X : Cx} : CallR X (.builtin "sorted") (rSrtT X.K) := by
  intro pins s σ H vs us Q I r h
  obtain ⟨a, ns, rfl, hs, q⟩ := h
  obtain ⟨its, rv, hl, hz⟩ := I.tuple hs
  rw [Vals.ref1 r]
  have hi := rv.ints
  have hz' : its.length ≤ sizeLine := by rw [← rv.length]; exact hz
  refine sorted_tup SrtO.swo_int hl hz' (fun h2 h₁ a' _ _ => SrtO.ints_sortable hi h2) fun out h1 h2 => ?_
  obtain ⟨k1, k2, k3⟩ := SrtO.ints_out hi h1 h2
  obtain ⟨ep, he'⟩ := PyProof.Rows.sortedAll_at s.heap its out.toArray
  have hlen : ((out.map SrtO.iv).map V.int).length ≤ sizeLine := by
    rw [List.length_map] at hz ⊢
    rw [k2.length_eq]
    exact hz
  refine ⟨.ref _, upd H (s.heap.objs.size + 1) (.lst ((out.map SrtO.iv).map V.int)), ?_, rfl, q _ _ k2 k3 (I.hok.fresh (Nat.le_succ _))⟩
  exact I.laid (t' := s.toks) (fun _ _ => PyProof.Rows.sortedAll_old) (Nat.le_succ _)
    ⟨hlen, out, ep, vals_of_ints k1, he'⟩
def pair? : PyData → Option (Int × Int)
  | .tuple [.int i, .int j] => if 0 ≤ i ∧ i < 64 ∧ 0 ≤ j ∧ j < 64 then some (i, j) else none
  | _ => none
def pairs? : List PyData → Option (List (Int × Int))
  | [] => some []
  | x :: xs => match pair? x with
    | none => none
    | some p => match pairs? xs with
      | none => none
      | some ps => some (p :: ps)
def clD (p : Int × Int) : PyData := .tuple [.int p.1, .int p.2]
theorem pair_eq {x : PyData} {p : Int × Int} (h : pair? x = some p) : x = clD p ∧ 0 ≤ p.1 ∧ p.1 < 64 ∧ 0 ≤ p.2 ∧ p.2 < 64 := by
  unfold pair? at h
  split at h
  · split at h
    · rename_i hc; cases h; exact ⟨rfl, hc⟩
    · cases h
  · cases h
theorem pairs_eq : ∀ {xs : List PyData} {ps : List (Int × Int)}, pairs? xs = some ps → xs = ps.map clD ∧ ∀ p ∈ ps, 0 ≤ p.1 ∧ p.1 < 64 ∧ 0 ≤ p.2 ∧ p.2 < 64
  | [], ps, h => by cases h; exact ⟨rfl, fun p hp => by simp at hp⟩
  | x :: xs, ps, h => by
    unfold pairs? at h
    split at h
    · cases h
    rename_i p hp
    split at h
    · cases h
    rename_i qs hq
    cases h
    obtain ⟨h1, h2⟩ := pair_eq hp
    obtain ⟨h3, h4⟩ := pairs_eq hq
    refine ⟨by rw [h1, h3]; rfl, fun z hz => ?_⟩
    rcases List.mem_cons.mp hz with e | e
    · rw [e]; exact h2
    · exact h4 z e
def prLe (p q : Int × Int) : Bool := decide (p.1 * 64 + p.2 ≤ q.1 * 64 + q.2)
def kSorted : KK := fun ds env => match ds with
  | [d] => match ctn env d with
    | some (.list xs) => match ints? xs with
      | some ns => some (.tmp (.ls ((ns.mergeSort fun a b => decide (a ≤ b)).map .int)), env)
      | none => if xs.length < 64 then match pairs? xs with
          | some ps => some (.tmp (.ls ((ps.mergeSort prLe).map clD)), env)
          | none => none
        else none
    | some (.tuple xs) => match ints? xs with
      | some ns => some (.tmp (.ls ((ns.mergeSort fun a b => decide (a ≤ b)).map .int)), env)
      | none => none
    | _ => none
  | _ => none
def rSort3 (K : PySem.W.Frag) : List V → Hp → VK → Prop := cOr (rSortedI K) (cOr (rSrtT K) (rSortU K 2 64))
theorem cr_sort3 {X : Cx} : CallR X (.builtin "sorted") (rSort3 X.K) := CallR.or cr_sortedI (CallR.or cr_srtT (cr_sortT (by decide)))
theorem ms_int {ns ns' : List Int} (h1 : ns'.Perm ns) (h2 : ns'.Pairwise (· ≤ ·)) : ns' = ns.mergeSort fun a b => decide (a ≤ b) := by
  refine List.Perm.eq_of_pairwise (le := (· ≤ ·)) (fun a b _ _ x y => Int.le_antisymm x y) h2 ?_ (h1.trans (List.mergeSort_perm _ _).symm)
  have := List.pairwise_mergeSort (le := fun a b : Int => decide (a ≤ b)) (fun a b c h1 h2 => by simp at h1 h2 ⊢; omega) (fun a b => by simp; omega) ns
  exact this.imp (by intro a b h; simpa using h)
theorem RpA.perm {K : PySem.W.Frag} {B : Mset} {H : Hp} {us ys : List V} (h : ys.Perm us) : ∀ {xs : List PyData}, RpA K B H us xs → ∃ zs, RpA K B H ys zs ∧ zs.Perm xs := by
  induction h with
  | nil => intro xs r; cases r; exact ⟨[], .nil, .nil⟩
  | cons x _ ih =>
    intro xs r
    cases r with
    | cons r1 r2 => obtain ⟨zs, h1, h2⟩ := ih r2; exact ⟨_, .cons r1 h1, h2.cons _⟩
  | swap x y l =>
    intro xs r
    cases r with
    | cons r1 r2 =>
      cases r2 with
      | cons r3 r4 => exact ⟨_, .cons r3 (.cons r1 r4), .swap _ _ _⟩
  | trans _ _ ih1 ih2 =>
    intro xs r
    obtain ⟨zs, h1, h2⟩ := ih2 r
    obtain ⟨ws, h3, h4⟩ := ih1 h1
    exact ⟨ws, h3, h4.trans h2⟩
theorem code_pr (p : Int × Int) : TS.code 64 [p.1, p.2] = p.1 * 64 + p.2 := code_pair p.1 p.2
theorem tupI_of {K : PySem.W.Frag} {B : Mset} {H : Hp} {v : V} {p : Int × Int} (h : Rp K B H v (clD p)) : TupI K H v [p.1, p.2] := by
  cases h with
  | tup h r =>
    have e := RpA.ints (ns := [p.1, p.2]) r
    rw [e] at h
    exact ⟨_, rfl, h⟩
theorem clD_inj {p q : Int × Int} (h : clD p = clD q) : p = q := by
  unfold clD at h
  simp at h
  exact Prod.ext h.1 h.2
theorem map_perm_clD {zs : List PyData} {ps : List (Int × Int)} (h : zs.Perm (ps.map clD)) : ∃ qs : List (Int × Int), zs = qs.map clD ∧ qs.Perm ps := by
  have hz : ∀ z ∈ zs, ∃ p ∈ ps, clD p = z := fun z hz => List.mem_map.mp (h.mem_iff.mp hz)
  have : ∃ qs : List (Int × Int), zs = qs.map clD := by
    clear h
    induction zs with
    | nil => exact ⟨[], rfl⟩
    | cons z zs ih =>
      obtain ⟨p, _, e⟩ := hz z (by simp)
      obtain ⟨qs, e2⟩ := ih (fun y hy => hz y (by simp [hy]))
      exact ⟨p :: qs, by rw [e2, ← e]; rfl⟩
  obtain ⟨qs, rfl⟩ := this
  refine ⟨qs, rfl, ?_⟩
  let un : PyData → Int × Int := fun d => match d with
    | .tuple [.int i, .int j] => (i, j)
    | _ => (0, 0)
  have hu : ∀ l : List (Int × Int), (l.map clD).map un = l := fun l => by
    rw [List.map_map]
    exact List.map_id'' (fun p => rfl) l
  have := h.map un
  rw [hu, hu] at this
  exact this
theorem c_sorted {K : PySem.W.Frag} : Con K kSorted (rSort3 K) := by
  intro σ H B env B1 H1 env1 vs ds d e2 Q en a rr hk q
  unfold kSorted at hk
  split at hk
  · rename_i d1
    match vs, rr with
    | [v], rr =>
      split at hk
      · rename_i xs hx
        obtain ⟨p, us, rfl, h1, h2⟩ := (Cn.of a.en (rr.each 0 v d1 rfl rfl) hx).list
        split at hk
        · rename_i ns hn
          cases hk
          rw [ints_map hn] at h2
          have e := h2.ints
          subst e
          refine .inl ⟨p, ns, rfl, h1, fun ns' r k1 k2 nr => ?_⟩
          rw [ms_int k1 k2]
          exact con_new en a nr (RpA.of_ints _) q
        · split at hk
          · rename_i hl
            split at hk
            · rename_i ps hp
              cases hk
              obtain ⟨e, hb⟩ := pairs_eq hp
              subst e
              refine .inr (.inr ⟨p, us, rfl, h1, by rw [h2.length]; exact hl, fun x hx => ?_, fun ys r k1 k2 nr => ?_⟩)
              · obtain ⟨i, hi, e⟩ := List.getElem_of_mem hx
                obtain ⟨dd, g1, g2⟩ := h2.getV (i := i) (v := x) (by rw [← e]; exact List.getElem?_eq_getElem hi)
                rw [List.getElem?_map] at g1
                cases hpi : ps[i]? with
                | none => rw [hpi] at g1; cases g1
                | some pp =>
                  rw [hpi] at g1
                  cases g1
                  have hbb := hb pp (List.mem_of_getElem? hpi)
                  refine ⟨[pp.1, pp.2], tupI_of g2, rfl, fun m hm => ?_⟩
                  simp only [List.mem_cons, List.not_mem_nil, or_false] at hm
                  rcases hm with e | e
                  · rw [e]; exact ⟨hbb.1, hbb.2.1⟩
                  · rw [e]; exact hbb.2.2
              · obtain ⟨zs, g1, g2⟩ := h2.perm k1
                obtain ⟨qs, rfl, g3⟩ := map_perm_clD g2
                have ord : qs.Pairwise (fun x y => x.1 * 64 + x.2 ≤ y.1 * 64 + y.2) := by
                  have : ∀ {ys : List V} {qs : List (Int × Int)}, RpA K B1 H1 ys (qs.map clD) → ys.Pairwise (fun x y => ∀ n m, TupI K H1 x n → TupI K H1 y m → TS.code 64 n ≤ TS.code 64 m) → qs.Pairwise (fun x y => x.1 * 64 + x.2 ≤ y.1 * 64 + y.2) := by
                    intro ys qs
                    induction qs generalizing ys with
                    | nil => intro _ _; exact .nil
                    | cons c qs ih =>
                      intro r pw
                      cases r with
                      | cons r1 r2 =>
                        cases pw with
                        | cons w1 w2 =>
                          refine .cons (fun y hy => ?_) (ih r2 w2)
                          obtain ⟨j, hj, e⟩ := List.getElem_of_mem hy
                          obtain ⟨vv, z1, z2⟩ := r2.get (i := j) (d := clD y) (by rw [List.getElem?_map, List.getElem?_eq_getElem hj, e]; rfl)
                          have := w1 vv (List.mem_of_getElem? z1) _ _ (tupI_of r1) (tupI_of z2)
                          rw [code_pr, code_pr] at this
                          exact this
                  exact this g1 k2
                have eq : qs = ps.mergeSort prLe := by
                  have hbq : ∀ z : Int × Int, z ∈ qs → 0 ≤ z.1 ∧ z.1 < 64 ∧ 0 ≤ z.2 ∧ z.2 < 64 := fun z hz => hb z (g3.mem_iff.mp hz)
                  refine List.Perm.eq_of_pairwise (le := fun x y : Int × Int => x.1 * 64 + x.2 ≤ y.1 * 64 + y.2) (fun x y hx hy l1 l2 => ?_) ord ?_ (g3.trans (List.mergeSort_perm _ _).symm)
                  · have b1 := hbq x hx
                    have b2 := hb y ((List.mergeSort_perm ps prLe).mem_iff.mp hy)
                    exact Prod.ext (by omega) (by omega)
                  · have := List.pairwise_mergeSort (le := prLe) (fun a b c h1 h2 => by simp [prLe] at h1 h2 ⊢; omega) (fun a b => by simp [prLe]; omega) ps
                    exact this.imp (by intro a b h; simpa [prLe] using h)
                rw [← eq] at q
                exact con_new en a nr g1 q
            · cases hk
          · cases hk
      · rename_i xs hx
        obtain ⟨p, us, rfl, h1, h2⟩ := (Cn.of a.en (rr.each 0 v d1 rfl rfl) hx).tuple
        split at hk
        · rename_i ns hn
          cases hk
          rw [ints_map hn] at h2
          have e := h2.ints
          subst e
          refine .inr (.inl ⟨p, ns, rfl, h1, fun ns' r k1 k2 nr => ?_⟩)
          rw [ms_int k1 k2]
          exact con_new en a nr (RpA.of_ints _) q
        · cases hk
      · cases hk
    | [], rr => have := rr.len; simp at this
    | _ :: _ :: _, rr => have := rr.len; simp at this
  · cases hk
theorem w_sorted {X : Cx} {k : Nat} (hc : X.calm = true) (hr : Room k X.A) : Blt X "sorted" kSorted := ⟨_, _, cr_sort3, c_sorted, by decide +kernel⟩
end T3

end
section
set_option linter.all false
set_option autoImplicit false
set_option Elab.async false
namespace T3
open PySem L2
variable [TabL]

noncomputable instance (a b : Int) : Decidable (RgOk a b) := Classical.propDecidable _
def rgN (n : Nat) (i c : Int) : List PyData := (List.range n).map fun k => .int (i + (k : Nat) * c)
def dnOk (i j : Int) : Prop := -(2 ^ 62) ≤ i ∧ i < 2 ^ 62 ∧ -(2 ^ 62) ≤ j ∧ j < 2 ^ 62 ∧ (i - j).toNat ≤ 1000000
noncomputable instance (a b : Int) : Decidable (dnOk a b) := Classical.propDecidable _
noncomputable def kTrg : KK := fun ds env => match ds with
  | [.pd (.int n)] => if RgOk 0 n then some (.pd (.tuple (rgT 0 n)), env) else none
  | [.pd (.int i), .pd (.int j)] => if RgOk i j then some (.pd (.tuple (rgT i j)), env) else none
  | [.pd (.int i), .pd (.int j), .pd (.int c)] => if c = -1 ∧ dnOk i j then some (.pd (.tuple (rgN (i - j).toNat i (-1))), env) else none
  | _ => none
noncomputable def eTrg (f : EA) : EE := eThen f kTrg
section
variable {X : Cx} {a b c : Expr} {fa fb fc : EE} {p p2 pos pos2 : Pos}
theorem rg_fin {K : PySem.W.Frag} {σ : St} {B B1 : Mset} {H H1 : Hp} {env env1 : Sl} {q : Addr} {ws : List V} {xs : List PyData} {Q : VK} (en : EnvR K B H σ env) (a : At K σ B H env B1 H1 env1) (np : H1 q = none) (hw : ∀ B H, RpA K B H ws xs)
    (k : ∀ B' H' v, At K σ B H env B' H' env1 → RR K H B' H' σ env1 v (.pd (.tuple xs)) → Q v H') : Q (.ref q) (upd H1 q (.tup ws)) := by
  obtain ⟨g, a2⟩ := a.alloc en np (.tup ws) False (fun _ => False) (fun _ f => f.elim)
  exact k _ _ _ a2 (.tup (.inl (.inl upd_same)) (hw _ _))
theorem x_trg1 (zt : X.mg "tuple" = none) (zr : X.mg "range" = none) (ha : PE X a (tE X.K fa)) (hc : X.calm = true := by rfl) (hg : Gl X "tuple" := by rfl) (hg2 : Gl X "range" := by rfl) (na : starEach [a] X.env = (false, eval a X.env) :: starEach [] X.env := by rfl)
    (nt : starEach [.Call (.Name "range" p2) [a] [] pos2] X.env = (false, eval (.Call (.Name "range" p2) [a] [] pos2) X.env) :: starEach [] X.env := by rfl) : PE X (.Call (.Name "tuple" p) [.Call (.Name "range" p2) [a] [] pos2] [] pos) (tE X.K (eTrg (eCons fa eNil))) :=
  PE.imp (pe_tupRg hc hg zt (prg_1 hg2 zr ha na) nt) fun σ H Q t => by
    have c : Con X.K kTrg (l1 fun x H Q => ∃ n, x = .int n ∧ RgOk 0 n ∧ ∀ q, H q = none → Q (.ref q) (upd H q (.tup (rgV 0 n)))) := by
      intro σ H B env B1 H1 env1 vs ds d e2 Q en a rr hk q x e
      subst e
      match ds, rr, hk with
      | [.pd (.int n)], rr, hk =>
        have e1 := rr.int1
        cases e1
        simp only [kTrg] at hk
        split at hk
        · rename_i ok
          cases hk
          exact ⟨n, rfl, ok, fun r nr => rg_fin en a nr (fun _ _ => rg_rp) q⟩
        · cases hk
      | [], rr, hk => have := rr.len; simp at this
      | _ :: _ :: _, rr, hk => have := rr.len; simp at this
      | [.pd .none], _, hk => cases hk
      | [.pd (.bool _)], _, hk => cases hk
      | [.pd (.str _)], _, hk => cases hk
      | [.pd (.list _)], _, hk => cases hk
      | [.pd (.tuple _)], _, hk => cases hk
      | [.pd (.dict _)], _, hk => cases hk
      | [.nt _], _, hk => cases hk
      | [.tmp _], _, hk => cases hk
      | [.var _], _, hk => cases hk
    have h := rd_one c t
    obtain ⟨B, env, d, env', en, ev, q⟩ := h
    refine ⟨B, env, d, env', en, ev, fun B1 H1 v a1 r1 => ?_⟩
    obtain ⟨n, e, ok, z⟩ := q B1 H1 v a1 r1
    exact ⟨n, e, ok, z⟩
end
section
variable {X : Cx} {a b c : Expr} {ta tb tc : TE} {p p2 pos pos2 : Pos}
end
def key? : PyData → Option Key
  | .int i => some (.inl i)
  | .str s => some (.inr s)
  | _ => none
theorem key_v {K : PySem.W.Frag} {B : Mset} {H : Hp} {v : V} {x : PyData} {k : Key} (h : Rp K B H v x) (e : key? x = some k) : v = kV k := by
  cases h <;> cases e <;> rfl
def putD (kvs : List (Key × PyData)) (k : Key) (x : PyData) : List (Key × PyData) :=
  if (kvs.any fun kv => decide (kv.1 = k)) = true then kvs.map (fun kv => if kv.1 = k then (kv.1, x) else kv) else kvs ++ [(k, x)]
def valD (kvs : List (Key × PyData)) (k : Key) : Option PyData := (kvs.find? fun kv => decide (kv.1 = k)).map (·.2)
theorem KvR.len {K : PySem.W.Frag} {B : Mset} {H : Hp} {ws : List (Key × V)} {kvs : List (Key × PyData)} (h : KvR K B H ws kvs) : ws.length = kvs.length := Paired.length h
theorem KvR.any {K : PySem.W.Frag} {B : Mset} {H : Hp} {k : Key} : ∀ {ws : List (Key × V)} {kvs : List (Key × PyData)}, KvR K B H ws kvs → (ws.any fun kv => decide (kv.1 = k)) = (kvs.any fun kv => decide (kv.1 = k))
  | _, _, .nil => rfl
  | _, _, .cons r t => by
    simp only [List.any_cons, r.1, KvR.any t]
theorem KvR.val {K : PySem.W.Frag} {B : Mset} {H : Hp} {k : Key} : ∀ {ws : List (Key × V)} {kvs : List (Key × PyData)}, KvR K B H ws kvs → (∃ v x, valV ws k = some v ∧ valD kvs k = some x ∧ Rp K B H v x) ∨ (valV ws k = none ∧ valD kvs k = none)
  | _, _, .nil => .inr ⟨rfl, rfl⟩
  | _, _, .cons (a := p) (b := q) r t => by
    by_cases e : q.1 = k
    · refine .inl ⟨p.2, q.2, ?_, ?_, r.2⟩
      · simp [valV, r.1, e]
      · simp [valD, e]
    · have e' : ¬ p.1 = k := by rw [r.1]; exact e
      rcases KvR.val (k := k) t with ⟨v, x, h1, h2, h3⟩ | ⟨h1, h2⟩
      · exact .inl ⟨v, x, by simpa [valV, e'] using h1, by simpa [valD, e] using h2, h3⟩
      · exact .inr ⟨by simpa [valV, e'] using h1, by simpa [valD, e] using h2⟩
theorem KvR.mapPut {K : PySem.W.Frag} {B : Mset} {H : Hp} {k : Key} {v : V} {x : PyData} (r : Rp K B H v x) : ∀ {ws : List (Key × V)} {kvs : List (Key × PyData)}, KvR K B H ws kvs → KvR K B H (ws.map fun kv => if kv.1 = k then (kv.1, v) else kv) (kvs.map fun kv => if kv.1 = k then (kv.1, x) else kv)
  | _, _, .nil => .nil
  | _, _, .cons (a := p) (b := q) h t => by
    refine .cons ?_ (KvR.mapPut r t)
    by_cases e : q.1 = k
    · have e' : p.1 = k := by rw [h.1]; exact e
      dsimp only
      rw [if_pos e, if_pos e']
      exact ⟨h.1, r⟩
    · have e' : ¬ p.1 = k := by rw [h.1]; exact e
      dsimp only
      rw [if_neg e, if_neg e']
      exact h
theorem KvR.app {K : PySem.W.Frag} {B : Mset} {H : Hp} {k : Key} {v : V} {x : PyData} (r : Rp K B H v x) : ∀ {ws : List (Key × V)} {kvs : List (Key × PyData)}, KvR K B H ws kvs → KvR K B H (ws ++ [(k, v)]) (kvs ++ [(k, x)])
  | _, _, .nil => .cons ⟨rfl, r⟩ .nil
  | _, _, .cons h t => .cons h (KvR.app r t)
theorem KvR.put {K : PySem.W.Frag} {B : Mset} {H : Hp} {k : Key} {v : V} {x : PyData} {ws : List (Key × V)} {kvs : List (Key × PyData)} (h : KvR K B H ws kvs) (r : Rp K B H v x) : KvR K B H (putK ws k v) (putD kvs k x) := by
  unfold putK putD
  rw [h.any]
  split
  · exact h.mapPut r
  · exact h.app r
def sDp (fd fk fv : EE) : SS := fun env => match fv env with
  | some (.pd x, e1) => match fd e1 with
    | some (.var j, e2) => match fk e2 with
      | some (.pd y, e3) => match key? y with
        | none => none
        | some k => match e3[j]? with
          | some (some (.mu m (.dk kvs))) => if m ≠ .fro ∧ kvs.length ≤ 1000000 then some (.nx, e3.set j (some (.mu m (.dk (putD kvs k x))))) else none
          | _ => none
      | _ => none
    | _ => none
  | _ => none
section
variable {X : Cx} {i o : Expr} {fk fd : EE} {pos : Pos}
end
def sPar3 (i j l : Nat) (f : EA) : SS := fun env => match f env with
  | some ([d1, d2, d3], e) => match setR i d1 e with
    | none => none
    | some e2 => match setR j d2 e2 with
      | none => none
      | some e3 => match setR l d3 e3 with
        | none => none
        | some e4 => some (.nx, e4)
  | _ => none
theorem rd_par3 {K : PySem.W.Frag} {i j l : Nat} {f : EA} {D : Ends} {σ : St} {H : Hp} (h : tS K (sPar3 i j l f) D σ H) : tPar3 i j l (tA K f) D σ H := by
  obtain ⟨B, env, fl, env', en, ev, q⟩ := h
  unfold sPar3 at ev
  split at ev
  · rename_i d1 d2 d3 e1 h1
    split at ev
    · cases ev
    rename_i e2 h2
    split at ev
    · cases ev
    rename_i e3 h3
    split at ev
    · cases ev
    rename_i e4 h4
    cases ev
    refine ⟨B, env, _, _, en, h1, fun B1 H1 vs a1 rr => ?_⟩
    match vs, rr with
    | [u, v, w], rr =>
      refine ⟨u, v, w, rfl, ?_⟩
      have li : i < σ.length := by rw [← a1.en.len]; exact setR_lt h2
      have s1 := AtS.set en a1.s (rr.each 0 u d1 rfl rfl) h2
      have lj : j < (σ.set i (some u)).length := by rw [← s1.en.len]; exact setR_lt h3
      have r2 : RA K H B1 H1 (σ.set i (some u)) e2 v d2 := RA.set h2 li (rr.each 1 v d2 rfl rfl) (fun c c' z1 z2 z3 => rr.apart 0 1 c c' u (by decide) (by simp [z1]) (by simp [z2]) rfl (by simp [z3])) (setR_nv h3)
      have s2 := AtS.set en s1 r2 h3
      have r3 : RA K H B1 H1 (σ.set i (some u)) e2 w d3 := RA.set h2 li (rr.each 2 w d3 rfl rfl) (fun c c' z1 z2 z3 => rr.apart 0 2 c c' u (by decide) (by simp [z1]) (by simp [z2]) rfl (by simp [z3])) (setR_nv h4)
      have r3' : RA K H B1 H1 ((σ.set i (some u)).set j (some v)) e3 w d3 := RA.set h3 lj r3 (fun c c' z1 z2 z3 => rr.apart 1 2 c c' v (by decide) (by simp [z1]) (by simp [z2]) rfl (by simp [z3])) (setR_nv h4)
      exact q B1 _ H1 (AtS.set en s2 r3' h4)
    | [], rr => have := rr.len; simp at this
    | [_], rr => have := rr.len; simp at this
    | [_, _], rr => have := rr.len; simp at this
    | _ :: _ :: _ :: _ :: _, rr => have := rr.len; simp at this
  · cases ev
theorem s_par3 {X : Cx} {i j l : Nat} {x y z : Str} {a b c : Expr} {f : EA} {px py pz pt pos : Pos} {kt k2 : Nat} {pt2 : Pos} (hc : X.calm = true) (hN : X.N.Nodup) (hi : X.N[i]? = some x) (hj : X.N[j]? = some y) (hl : X.N[l]? = some z) (hij : i ≠ j) (hil : i ≠ l) (hjl : j ≠ l)
    (hx : X.env.scope.names.lookup x = some .local) (hy : X.env.scope.names.lookup y = some .local) (hz : X.env.scope.names.lookup z = some .local) (ha : PA X [a, b, c] (tA X.K f))
    (hw : swappedStores [.Tuple [.Name x px, .Name y py, .Name z pz] kt pt] (.Tuple [a, b, c] k2 pt2) X.env = pure (some [x, y, z]))
    (hs : swapsWithSole [.Tuple [.Name x px, .Name y py, .Name z pz] kt pt] (.Tuple [a, b, c] k2 pt2) pos.line X.env = pure false := by rfl) :
    PS X (.Assign [.Tuple [.Name x px, .Name y py, .Name z pz] kt pt] (.Tuple [a, b, c] k2 pt2) pos) (tS X.K (sPar3 i j l f)) := PS.imp (ps_par3 hc hN hi hj hl hij hil hjl hx hy hz ha hw hs) fun _ _ _ t => rd_par3 t
end T3

end
section
set_option linter.all false
set_option autoImplicit false
set_option Elab.async false
namespace T3
open PySem L2
variable [TabL]
def l3 (r : V → V → V → Hp → VK → Prop) : List V → Hp → VK → Prop := fun vs H Q => ∀ x y z, vs = [x, y, z] → r x y z H Q
end T3

end
section
set_option linter.all false
set_option autoImplicit false
set_option Elab.async false
namespace T3
open PySem L2
variable [TabL]
theorem at0_mk {K : PySem.W.Frag} {h : Heap} {mg : Str → Option Value} {x : Str} {st : Stmt} {ps : List Str} {f : Addr} {oc : Value} {od an : Option Addr} {osl : Array (Option Value)} {kV doc pm cdv ct : Value} (X : K.In h) (G : h.Ns mainGlobals mg)
    (a : PySem.W.nsIn K mainGlobals x = some (some (.ref f))) (l : K.lookup f = some ⟨oc, od, .func (PySem.W.fnOf x x (defArgs st) (defBody st) (defScope st) .none kV doc pm an cdv ct), osl⟩) (c : PySem.W.codeIn K cdv x = true) (k : PySem.W.keepIn K (.ref f) = true)
    (hb : ∀ (kV doc pm : Value) (an : Option Addr) (cdv ct : Value) (us : List Value), us.length = ps.length → bindArgs (PySem.W.fnOf x x (defArgs st) (defBody st) (defScope st) .none kV doc pm an cdv ct) ⟨us, []⟩ = pure (ps.zip us)) : At0 K mg x st ps := by
  have F := fun_mk (st := st) l c k
  exact ⟨f, _, F, PySem.W.mg_of X G a, F.binds hb⟩
inductive KV1 (K : PySem.W.Frag) : Value → PyData → Prop
  | none : KV1 K .none .none
  | bool (b : Bool) : KV1 K (.bool b) (.bool b)
  | int (i : Int) (t : Tok) : KV1 K (.int i t) (.int i)
  | str (x : Str) (t : Tok) : KV1 K (.str x t) (.str x)
def kvB (K : PySem.W.Frag) : Nat → Value → PyData → Bool
  | 0, _, _ => false
  | _ + 1, .none, .none => true
  | _ + 1, .bool b, .bool c => b == c
  | _ + 1, .int i _, .int j => i == j
  | _ + 1, .str x _, .str y => decide (x = y)
  | n + 1, .ref a, .tuple ds => match K.lookup a with
    | some o => match o.cls, o.data with
      | .type t, .seq its _ => t == "tuple" && decide (its.size ≤ 1000) && decide (its.size = ds.length) && (its.toList.zip ds).all fun p => kvB K n p.1 p.2
      | _, _ => false
    | none => false
  | _ + 1, _, _ => false
theorem kv_rp {K : PySem.W.Frag} : ∀ (n : Nat) (u : Value) (d : PyData), kvB K n u d = true → ∃ v, RelV v u ∧ ∀ B H, Rp K B H v d
  | 0, _, _, h => by cases h
  | n + 1, u, d, h => by
    unfold kvB at h
    split at h
    · cases h
    · exact ⟨.non, rfl, fun _ _ => .non⟩
    · rename_i b c _
      have e : b = c := by simpa using h
      subst e
      exact ⟨.bl b, rfl, fun _ _ => .bl b⟩
    · rename_i i t j _
      have e : i = j := by simpa using h
      subst e
      exact ⟨.int i, ⟨t, rfl⟩, fun _ _ => .int i⟩
    · rename_i x t y _
      have e : x = y := by simpa using h
      subst e
      exact ⟨.str x, ⟨t, rfl⟩, fun _ _ => .str x⟩
    · rename_i m a ds hm
      cases hm
      split at h
      · rename_i o ho
        split at h
        · rename_i t its k hc hd
          simp only [Bool.and_eq_true, beq_iff_eq, decide_eq_true_eq, List.all_eq_true] at h
          obtain ⟨⟨⟨ht, hs⟩, hl⟩, ha⟩ := h
          have go : ∀ (us : List Value) (ds : List PyData), us.length = ds.length → (∀ p ∈ us.zip ds, kvB K n p.1 p.2 = true) → ∃ vs, Vals vs us ∧ ∀ B H, RpA K B H vs ds := by
            intro us
            induction us with
            | nil =>
              intro ds hl _
              cases ds with
              | nil => exact ⟨[], .nil, fun _ _ => .nil⟩
              | cons _ _ => simp at hl
            | cons u us ih =>
              intro ds hl hz
              cases ds with
              | nil => simp at hl
              | cons d ds =>
                obtain ⟨v, r1, r2⟩ := kv_rp n u d (hz (u, d) (by simp))
                obtain ⟨vs, q1, q2⟩ := ih ds (by simpa using hl) (fun p hp => hz p (by simp [hp]))
                exact ⟨v :: vs, .cons r1 q1, fun B H => .cons (r2 B H) (q2 B H)⟩
          obtain ⟨vs, q1, q2⟩ := go its.toList ds (by simpa using hl) ha
          subst ht
          exact ⟨.ref a, rfl, fun B H => .tup (.inr ⟨o, its, k, ho, hc, hd, Nat.le_of_lt (small1000 hs), q1⟩) (q2 B H)⟩
        · cases h
      · cases h
    · cases h
theorem kc_by {K : PySem.W.Frag} {h : Heap} {mg : Str → Option Value} {x : Str} {u : Value} {d : PyData} {n : Nat} (X : K.In h) (G : h.Ns mainGlobals mg) (a : PySem.W.nsIn K mainGlobals x = some (some u)) (q : kvB K n u d = true) : KC K mg x d := by
  obtain ⟨v, r, q⟩ := kv_rp n u d q
  exact ⟨v, u, PySem.W.mg_of X G a, r, q⟩
def kdB (K : PySem.W.Frag) (d : Addr) (kvs : List (Str × PyData)) : Bool := kvs.all fun p => match PySem.W.nsIn K d p.1 with
  | some (some u) => kvB K 9 u p.2
  | _ => false
theorem lookup_mem {α : Type} : ∀ {l : List (Str × α)} {z : Str} {x : α}, l.lookup z = some x → (z, x) ∈ l
  | [], z, x, h => by simp at h
  | (y, b) :: l, z, x, h => by
    rw [List.lookup_cons] at h
    split at h
    · rename_i e
      cases h
      have : z = y := by simpa using e
      subst this
      simp
    · simp [lookup_mem h]
theorem kd_mk {K : PySem.W.Frag} {w : World} {h : Heap} {mg : Str → Option Value} {x : Str} {d : Addr} {es : Array DictEntry} {n : Nat} {kvs : List (Str × PyData)} (X : K.In h) (G : h.Ns mainGlobals mg) (a : PySem.W.nsIn K mainGlobals x = some (some (.ref d)))
    (l : K.lookup d = some ⟨.type "dict", none, .dict es n, #[]⟩) (k : PySem.W.KeysLit w.params es.toList) (q : kdB K d kvs = true) : KD K w mg x kvs := by
  refine ⟨d, PySem.W.mg_of X G a, fun z y hz => ?_⟩
  have hm := lookup_mem hz
  have := List.all_eq_true.mp q _ hm
  dsimp only at this
  split at this
  · rename_i u hu
    obtain ⟨v, r, q⟩ := kv_rp 9 u y this
    exact ⟨v, ⟨es, n, u, l, k, hu, r⟩, q⟩
  · cases this
theorem law_spT {K : PySem.W.Frag} {F : FnD} {H : Hp} {a : Addr} {ns : List Int} (hF : ∃ as, F [.pd (.list (ns.map .int))] = some (.pd (.bool true), as)) (tb : TbB (fun _ => False) H) (hS : SqL K H a (ns.map V.int)) : spF K F 1 [.ref a] H (fun v _ => v = .bl true) fun _ _ _ => False := by
  obtain ⟨as, hF⟩ := hF
  have rp : Rp K (fun _ => False) H (.ref a) (.list (ns.map .int)) := by
    rcases hS with (h | ⟨o, h⟩) | ⟨o, its, n, h1, h2, h3, h4, h5, h6⟩
    · exact .lst h (fun z => z) (RpA.of_ints _)
    · exact .frz h (RpA.of_ints _)
    · exact .kls h1 h2 h3 h4 h5 h6 (RpA.of_ints _)
  refine ⟨rfl, fun _ => False, [.pd (.list (ns.map .int))], _, as, ⟨rfl, fun i x h => ?_, fun i x h => ?_, fun i m c h => ?_, fun i j m n c d b h => ?_, fun b h => h.elim, tb⟩, hF, fun B' H' v _ r _ => ?_⟩
  · cases i with
    | zero => simp at h; subst h; exact ⟨_, rfl, rp⟩
    | succ i => simp at h
  · cases i with
    | zero => simp at h
    | succ i => simp at h
  · cases i with
    | zero => simp at h
    | succ i => simp at h
  · cases i with
    | zero => simp at h
    | succ i => simp at h
  · have r : Rp K B' H' v (.bool true) := r
    cases r
    rfl
end T3
namespace T3
open PySem L2
theorem law_sp (w : World) {K : PySem.W.Frag} {F : FnD} {H : Hp} {a : Addr} {ns : List Int} (hF : ∃ as, F [.pd (.list (ns.map .int))] = some (.pd (.bool true), as)) (O : L2.Only H) (hS : SqL K H a (ns.map V.int)) : @spF ⟨[], w⟩ K F 1 [.ref a] H (fun v _ => v = .bl true) fun _ _ _ => False := by
  letI : TabL := ⟨[], w⟩
  exact law_spT hF ⟨(fun p hp => nomatch (show p ∈ ([] : List (Addr × (Nat → Nat → Str))) from hp)), (fun (no : ∀ a p, ¬ PastOf H a p) => (⟨fun a b p h => absurd h (no a p), fun a p h => absurd h (no a p)⟩ : PU H)) fun a p h => by
    obtain ⟨C, dx, fs, h1, _⟩ := h
    rcases O a with z | ⟨o, xs, z⟩
    · rw [z] at h1; cases h1
    · rw [z] at h1; cases h1⟩ hS
end T3

end
section
set_option linter.all false
set_option autoImplicit false
set_option Elab.async false
namespace T3
open PySem L2
variable [TabL]
section
variable (env : Sl) (i j n : Nat) (fa fb fc : EE) (f g : EA) (s1 s2 : SS) (b1 b2 : EB) (k k1 k2 : KK) (d : R) (ds : List R) (x : PyData) (xs : List PyData)
@[simp] theorem z_var : eVar i env = (match env[i]? with
  | some (some (.pd x)) => some (.pd x, env)
  | some (some (.nt x)) => some (.nt x, env)
  | some (some (.mu _ _)) => some (.var i, env)
  | _ => none) := rfl
@[simp] theorem z_c : eC x env = some (.pd x, env) := rfl
@[simp] theorem z_nil : eNil env = some ([], env) := rfl
@[simp] theorem z_cons : eCons fa f env = (match fa env with
  | none => none
  | some (d, e1) => match f e1 with
    | none => none
    | some (ds, e2) => some (d :: ds, e2)) := rfl
@[simp] theorem z_then : eThen f k env = (match f env with
  | none => none
  | some (ds, e1) => k ds e1) := rfl
@[simp] theorem z_two : eTwo fa fb = eCons fa (eCons fb eNil) := rfl
@[simp] theorem z_one : eOne fa = eCons fa eNil := rfl
@[simp] theorem z_ctn1 : ctn env (.pd x) = some x := rfl
@[simp] theorem z_ctn2 : ctn env (.nt xs) = some (.tuple xs) := rfl
@[simp] theorem z_ctn3 : ctn env (.tmp (.ls xs)) = some (.list xs) := rfl
@[simp] theorem z_ctn4 : ctn env (.var i) = (match env[i]? with
    | some (some (.mu _ (.ls xs))) => some (.list xs)
    | _ => none) := rfl
@[simp] theorem z_ctns0 : ctns env [] = some [] := rfl
@[simp] theorem z_ctns1 : ctns env (d :: ds) = (match ctn env d with
    | none => none
    | some x => match ctns env ds with
      | none => none
      | some xs => some (x :: xs)) := rfl
@[simp] theorem z_kE (o : List PyData → Option PyData) : kE o ds env = (match ctns env ds with
  | none => none
  | some xs => match o xs with
    | none => none
    | some z => some (.pd z, env)) := rfl
@[simp] theorem z_kT (o : List PyData → Option (List PyData)) : kT o ds env = (match ctns env ds with
  | none => none
  | some xs => match o xs with
    | none => none
    | some z => some (.pd (.tuple z), env)) := rfl
@[simp] theorem z_kL (o : List PyData → Option (List PyData)) : kL o ds env = (match ctns env ds with
  | none => none
  | some xs => match o xs with
    | none => none
    | some z => some (.tmp (.ls z), env)) := rfl
@[simp] theorem z_kOr : kOr k1 k2 ds env = (match k1 ds env with
  | some r => some r
  | none => k2 ds env) := rfl
@[simp] theorem z_bT : bT fa env = (match fa env with
  | some (.pd (.bool b), e) => some (b, e)
  | _ => none) := rfl
@[simp] theorem z_bAnd : bAnd b1 b2 env = (match b1 env with
  | none => none
  | some (b, e) => if b = true then b2 e else some (false, e)) := rfl
@[simp] theorem z_bOr : bOr b1 b2 env = (match b1 env with
  | none => none
  | some (b, e) => if b = true then some (true, e) else b2 e) := rfl
@[simp] theorem z_bNot : bNot b1 env = (match b1 env with
  | none => none
  | some (b, e) => some (!b, e)) := rfl
@[simp] theorem z_eB : eB b1 env = (match b1 env with
  | none => none
  | some (b, e) => some (.pd (.bool b), e)) := rfl
@[simp] theorem z_eIf : eIf b1 fa fb env = (match b1 env with
  | none => none
  | some (b, e) => if b = true then fa e else fb e) := rfl
@[simp] theorem z_pass : sPass env = some (.nx, env) := rfl
@[simp] theorem z_seq : sSeq s1 s2 env = (match s1 env with
  | none => none
  | some (.nx, e1) => s2 e1
  | some (fl, e1) => some (fl, e1)) := rfl
@[simp] theorem z_if : sIf b1 s1 s2 env = (match b1 env with
  | none => none
  | some (b, e) => if b = true then s1 e else s2 e) := rfl
@[simp] theorem z_ret : sRet fa env = (match fa env with
  | none => none
  | some (d, e) => some (.rt d, e)) := rfl
@[simp] theorem z_expr : sExpr fa env = (match fa env with
  | none => none
  | some (_, e) => some (.nx, e)) := rfl
@[simp] theorem z_never : sNever env = none := rfl
@[simp] theorem z_free : free env i = (match env[i]? with
  | some (some (.mu .own _)) => true
  | some (some (.pd _)) => true
  | some (some (.nt _)) => true
  | some none => true
  | _ => false) := rfl
@[simp] theorem z_setR : setR i d env = (if free env i = true then match d with
    | .pd x => some (env.set i (some (.pd x)))
    | .nt x => some (env.set i (some (.nt x)))
    | .tmp c => some (env.set i (some (.mu .own c)))
    | .var _ => none
  else none) := rfl
@[simp] theorem z_set : sSet i fa env = (match fa env with
  | none => none
  | some (d, e) => match setR i d e with
    | none => none
    | some e2 => some (.nx, e2)) := rfl
@[simp] theorem z_gN : gN i x env = setR i (.pd x) env := rfl
@[simp] theorem z_gNl : gNl [] env = some env := rfl
@[simp] theorem z_gCn (g1 : GG) (gs : GGs) : gCn g1 gs (x :: xs) env = (match g1 x env with
    | none => none
    | some e => gs xs e) := rfl
@[simp] theorem z_gT (gs : GGs) : gT n gs (.tuple xs) env = (if xs.length = n then gs xs env else none) := rfl
@[simp] theorem z_asg (g1 : GG) : sAsg fa g1 env = (match fa env with
  | some (.pd x, e) => match g1 x e with
    | none => none
    | some e2 => some (.nx, e2)
  | some (.nt xs, e) => match g1 (.tuple xs) e with
    | none => none
    | some e2 => some (.nx, e2)
  | _ => none) := rfl
@[simp] theorem z_data1 : data1 (.pd x) = some x := rfl
@[simp] theorem z_data2 : data1 (.nt xs) = some (.tuple xs) := rfl
@[simp] theorem z_data3 : data1 (.tmp (.ls xs)) = some (.list xs) := rfl
@[simp] theorem z_data4 : data1 (.var i) = none := rfl
@[simp] theorem z_datas0 : datas [] = some [] := rfl
@[simp] theorem z_datas1 : datas (d :: ds) = (match data1 d with
    | none => none
    | some x => match datas ds with
      | none => none
      | some xs => some (x :: xs)) := rfl
@[simp] theorem z_kTup : kTup ds env = (match datas ds with
  | none => none
  | some xs => if xs.length ≤ 1000 then some (.pd (.tuple xs), env) else none) := rfl
@[simp] theorem z_kLst : kLst ds env = (match datas ds with
  | none => none
  | some xs => if xs.length ≤ 1000 then some (.tmp (.ls xs), env) else none) := rfl
@[simp] theorem z_for (it : EI) (g1 : GG) : sFor it g1 s1 env = (match it env with
  | none => none
  | some (xs, lk, e1) => match forL g1 s1 xs e1 with
    | none => none
    | some (fl, e2) => some (fl, unlock lk e2)) := rfl
@[simp] theorem z_unl : unlock none env = env := rfl
@[simp] theorem z_call (F : FnD) : eCall F f env = (match f env with
  | none => none
  | some (ds, e1) => match toArgs e1 ds with
    | none => none
    | some as => if varsApart ds = true then match F as with
        | none => none
        | some (.var _, _) => none
        | some (d, as') => some (d, back ds as' e1)
      else none) := rfl
@[simp] theorem z_arg1 : toArg env (.pd x) = some (.pd x) := rfl
@[simp] theorem z_arg2 : toArg env (.nt xs) = some (.nt xs) := rfl
@[simp] theorem z_arg3 (c : Ct) : toArg env (.tmp c) = some (.mu .bor c) := rfl
@[simp] theorem z_arg4 : toArg env (.var i) = (match env[i]? with
    | some (some (.mu .fro c)) => some (.mu .fro c)
    | some (some (.mu _ c)) => some (.mu .bor c)
    | _ => none) := rfl
@[simp] theorem z_args0 : toArgs env [] = some [] := rfl
@[simp] theorem z_args1 : toArgs env (d :: ds) = (match toArg env d with
    | none => none
    | some a => match toArgs env ds with
      | none => none
      | some as => some (a :: as)) := rfl
@[simp] theorem z_va0 : varsApart [] = true := rfl
@[simp] theorem z_va1 : varsApart (.pd x :: ds) = varsApart ds := rfl
@[simp] theorem z_va2 : varsApart (.nt xs :: ds) = varsApart ds := rfl
@[simp] theorem z_va3 (c : Ct) : varsApart (.tmp c :: ds) = varsApart ds := rfl
@[simp] theorem z_va4 : varsApart (.var i :: ds) = (!hasVar i ds && varsApart ds) := rfl
@[simp] theorem z_hv0 : hasVar i [] = false := rfl
@[simp] theorem z_hv1 : hasVar i (.pd x :: ds) = hasVar i ds := rfl
@[simp] theorem z_hv2 : hasVar i (.nt xs :: ds) = hasVar i ds := rfl
@[simp] theorem z_hv3 (c : Ct) : hasVar i (.tmp c :: ds) = hasVar i ds := rfl
@[simp] theorem z_hv4 : hasVar i (.var j :: ds) = (decide (i = j) || hasVar i ds) := rfl
variable (s : S) (as : List S)
@[simp] theorem z_bk0 : back [] [] env = env := rfl
@[simp] theorem z_bk1 : back (.pd x :: ds) (s :: as) env = back ds as env := rfl
@[simp] theorem z_bk2 : back (.nt xs :: ds) (s :: as) env = back ds as env := rfl
@[simp] theorem z_bk3 (c : Ct) : back (.tmp c :: ds) (s :: as) env = back ds as env := rfl
@[simp] theorem z_bk4 (m : Md) (c : Ct) : back (.var i :: ds) (.mu m c :: as) env = (match env[i]? with
    | some (some (.mu m _)) => back ds as (env.set i (some (.mu m c)))
    | _ => back ds as env) := rfl
@[simp] theorem z_out1 : outR env (.pd x) = some (.pd x) := rfl
@[simp] theorem z_out2 : outR env (.nt xs) = some (.nt xs) := rfl
@[simp] theorem z_out3 (c : Ct) : outR env (.tmp c) = some (.tmp c) := rfl
@[simp] theorem z_out4 : outR env (.var i) = (match env[i]? with
    | some (some (.mu .own c)) => some (.tmp c)
    | _ => none) := rfl
variable (e0 : Option S)
@[simp] theorem z_fin0 : finals [] env = some [] := by cases env <;> rfl
@[simp] theorem z_fin1 : finals (.pd x :: as) (e0 :: env) = (match finals as env with
    | none => none
    | some l => some (.pd x :: l)) := rfl
@[simp] theorem z_fin2 : finals (.nt xs :: as) (e0 :: env) = (match finals as env with
    | none => none
    | some l => some (.nt xs :: l)) := rfl
@[simp] theorem z_fin3 (m m' : Md) (c c' : Ct) : finals (.mu m c :: as) (some (.mu m' c') :: env) = (if m = m' ∧ m ≠ .own then match finals as env with
      | none => none
      | some l => some (.mu m c' :: l)
    else none) := rfl
theorem run_of {n : Nat} {b : SS} {as : List S} {e : Sl} (h : startE n as = e) : runFn n b as = (match b e with
  | some (.rt d, e) => match outR e d with
    | none => none
    | some d' => match finals as e with
      | none => none
      | some as' => some (d', as')
  | some (.nx, e) => match finals as e with
    | none => none
    | some as' => some (.pd .none, as')
  | _ => none) := by rw [← h]; rfl
end
end T3

end
section
set_option linter.all false
set_option autoImplicit false
set_option Elab.async false
namespace T3
open PySem L2
variable [TabL]
section
variable (env : Sl) (fa fb fc : EE) (f : EA) (g : GG) (t : EB) (it : EI) (vs : List Nat) (x : PyData)
@[simp] theorem z_add : eAdd fa fb env = eThen (eCons fa (eCons fb eNil)) kAdd env := rfl
@[simp] theorem z_sub : eSub fa fb env = eThen (eCons fa (eCons fb eNil)) kSub env := rfl
@[simp] theorem z_mul : eMul fa fb env = eThen (eCons fa (eCons fb eNil)) kMul env := rfl
@[simp] theorem z_fdiv : eFdiv fa fb env = eThen (eCons fa (eCons fb eNil)) kFdiv env := rfl
@[simp] theorem z_mod : eMod fa fb env = eThen (eCons fa (eCons fb eNil)) kMod env := rfl
@[simp] theorem z_pow : ePow fa fb env = eThen (eCons fa (eCons fb eNil)) kPow env := rfl
@[simp] theorem z_neg : eNeg fa env = eThen (eCons fa eNil) kNeg env := rfl
@[simp] theorem z_eq : eEq fa fb env = eThen (eCons fa (eCons fb eNil)) (kE oEq) env := rfl
@[simp] theorem z_ne : eNe fa fb env = eThen (eCons fa (eCons fb eNil)) (kE oNe) env := rfl
@[simp] theorem z_lt : eLt fa fb env = eThen (eCons fa (eCons fb eNil)) kLt env := rfl
@[simp] theorem z_gt : eGt fa fb env = eThen (eCons fa (eCons fb eNil)) kGt env := rfl
@[simp] theorem z_in : eIn fa fb env = eThen (eCons fa (eCons fb eNil)) (kE (oIn false)) env := rfl
@[simp] theorem z_nin : eNin fa fb env = eThen (eCons fa (eCons fb eNil)) (kE (oIn true)) env := rfl
@[simp] theorem z_is : eIs fa fb env = eThen (eCons fa (eCons fb eNil)) (kE (oIsN false)) env := rfl
@[simp] theorem z_isn : eIsn fa fb env = eThen (eCons fa (eCons fb eNil)) (kE (oIsN true)) env := rfl
@[simp] theorem z_ix : eIx fa fb env = eThen (eCons fa (eCons fb eNil)) (kE oIx) env := rfl
@[simp] theorem z_trg : eTrg f env = eThen f kTrg env := rfl
@[simp] theorem z_lc : eLc it g t fa vs env = (match it env with
  | none => none
  | some (xs, lk, e1) => if xs.length ≤ 1000000 then match lcL g t fa vs xs e1 [] with
      | none => none
      | some (acc, e2) => some (.tmp (.ls acc), unlock lk e2)
    else none) := rfl
@[simp] theorem z_seqI : iSeq fa env = (match fa env with
  | some (.pd (.tuple xs), e) => some (xs, none, e)
  | some (.nt xs, e) => some (xs, none, e)
  | some (.pd (.list xs), e) => some (xs, none, e)
  | some (.pd (.str s), e) => some (signs s, none, e)
  | some (.tmp (.ls xs), e) => some (xs, none, e)
  | some (.var i, e) => match e[i]? with
    | some (some (.mu m (.ls xs))) => some (xs, some (i, m), e.set i (some (.mu .fro (.ls xs))))
    | _ => none
  | _ => none) := rfl
@[simp] theorem z_bm (ty : Sl → R → Bool) (k : KK) : eBM ty fa f k env = (match fa env with
  | none => none
  | some (d, e1) => if ty e1 d = true then match f e1 with
      | none => none
      | some (ds, e2) => k (d :: ds) e2
    else none) := rfl
@[simp] theorem z_gS : gS fa fb x env = (match fa env with
  | some (.var j, e1) => match fb e1 with
    | some (.pd (.int k), e2) => putL j k x e2
    | _ => none
  | _ => none) := rfl
@[simp] theorem z_sl (lo hi : EO) : eSl fa lo hi env = (match fa env with
  | none => none
  | some (d, e1) => match lo e1 with
    | none => none
    | some (l, e2) => match hi e2 with
      | none => none
      | some (h, e3) => kSl l h [d] e3) := rfl
@[simp] theorem z_par (i j : Nat) : sPar i j f env = (match f env with
  | some ([d1, d2], e) => match setR i d1 e with
    | none => none
    | some e2 => match setR j d2 e2 with
      | none => none
      | some e3 => some (.nx, e3)
  | _ => none) := rfl
@[simp] theorem z_par3 (i j l : Nat) : sPar3 i j l f env = (match f env with
  | some ([d1, d2, d3], e) => match setR i d1 e with
    | none => none
    | some e2 => match setR j d2 e2 with
      | none => none
      | some e3 => match setR l d3 e3 with
        | none => none
        | some e4 => some (.nx, e4)
  | _ => none) := rfl
@[simp] theorem z_oNo : oNo env = some (none, env) := rfl
@[simp] theorem z_unl1 (i : Nat) (m : Md) : unlock (some (i, m)) env = (match env[i]? with
  | some (some (.mu _ c)) => env.set i (some (.mu m c))
  | _ => env) := by rfl
end
end T3

end
section
set_option linter.all false
set_option autoImplicit false
set_option Elab.async false
namespace T3
open PySem PySem.Spec PyProof.Rows L2
variable [TabL]
structure FnG (P : Program) (w : World) (K : PySem.W.Frag) (mg : Str → Option Value) (base : Heap) (k : Nat) (f : Addr) (fd : FuncData) (ps : List Str) (sp : Sp) : Prop where
  sizes : ∀ xs H Q E, sp xs H Q E → xs.length = ps.length
  go : ∀ (A : Around) (out : List Env) (s : Shared) (H : Hp) (ar : Args) (us : List Value) (xs : List V) (Q : VK) (E : XK), Room k A → A.guards = some [] → Env0 P w K mg base A out s H → BindsTo s fd ar (ps.zip us) → Vals xs us → sp xs H Q E →
    codeAny (model P w) A (.call (.ref f) ar) (CR CX0 out P w H s Q E) s
section
variable {P : Program} {w : World} {K : PySem.W.Frag} {mg : Str → Option Value} {base : Heap} {k : Nat} {f : Addr} {fd : FuncData} {ps : List Str} {sp : Sp}
end
end T3

end
section
set_option linter.all false
set_option autoImplicit false
set_option Elab.async false
namespace T3
open PySem PySem.Spec PyProof.Rows L2
variable [TabL]
section
variable {X : Cx} {k n : Nat} {f : Addr} {fd : FuncData} {ps : List Str} {sp : Sp} {x : Str} {p pos : Pos} {e : Expr} {es : List Expr} {t : TA} {F : FnD} {fa : EA}
end
section
variable {X : Cx} {k n : Nat} {F : FnD} {x : Str} {p pos : Pos} {e : Expr} {es : List Expr} {fa : EA}
end
end T3

end
section
set_option linter.all false
set_option autoImplicit false
set_option Elab.async false
namespace T3
open PySem PySem.Spec PyProof.Rows L2
variable [TabL]
section
variable {P : Program} {w : World} {K : PySem.W.Frag} {mg mb : Str → Option Value} {k : Nat} {fa a : Addr} {fd : FuncData} {x : Str} {sp : Sp} {s : Shared} {vs : List Value} {ns : List Int}
structure Scr (K : PySem.W.Frag) (s : Shared) (a : Addr) (H : Hp) : Prop where
  only : L2.Only H
  one : ∀ b, H b ≠ none → b = a
  kn : H a ≠ none → K.lookup a = none
theorem Scr.nd {H : Hp} (c : Scr K s a H) (ha : s.heap.get? a = some { cls := .type "list", data := .seq vs.toArray }) {b : Addr} {o : Obj} {es : Array DictEntry} {m : Nat} (h : s.heap.get? b = some o) (d : o.data = .dict es m) : H b = none := by
  apply Classical.byContradiction
  intro z
  have e := c.one b z
  rw [e, ha] at h
  injection h with h
  rw [← h] at d
  cases d
theorem Scr.spc {H : Hp} (c : Scr K s a H) (ha : s.heap.get? a = some { cls := .type "list", data := .seq vs.toArray }) {b : Addr} {m : Str → Option Value} (h : s.heap.Ns b m) : (hidT s.heap H).Ns b m := by
  obtain ⟨o, es, n, h1, h2, h3⟩ := h
  exact ⟨o, es, n, hidT_get h1 (c.nd ha h1 h2), h2, h3⟩
theorem Scr.kin {H : Hp} (c : Scr K s a H) (KX : K.In s.heap) : K.In (hidT s.heap H) := by
  intro b o h
  refine hidT_get (KX b o h) (Classical.byContradiction fun z => ?_)
  have e := c.one b z
  subst e
  rw [c.kn z] at h
  cases h
theorem Scr.run {H : Hp} (c : Scr K s a H) (ha : s.heap.get? a = some { cls := .type "list", data := .seq vs.toArray }) (KX : K.In s.heap) (hm : s.heap.Ns mainGlobals mg) (hb : s.heap.Ns builtinsNs mb) (hbb : ∀ x : Str, x ≠ "__name__" → mb x = bootBuiltins x) (nl : s.heap.NoLimit) (hg : s.gens = #[])
    (hr : Room k callerA) (F : ∀ base : Heap, K.In base → base.Ns mainGlobals mg → FnG P w K mg base k fa fd [x] sp) (bi : ∀ (s : Shared) (u : Value), BindsTo s fd ⟨[u], []⟩ [(x, u)]) (hok : HOk P w H s.heap)
    (hs : sp [.ref a] H (fun v _ => v = .bl true) fun _ _ _ => False) :
    codeAny (model P w) callerA (.call (.ref fa) ⟨[.ref a], []⟩) (fun r s2 => r = .ok (.ret (.bool true)) ∧ OldK s.heap s2.heap ∧ s2.os = s.os ∧ AllBare s2.gens) s := by
  obtain ⟨mc, n1, n2⟩ := nl
  have md : Mod K mg (hidT s.heap H) := ⟨c.kin KX, c.spc ha hm, ⟨mb, c.spc ha hb, hbb⟩, mc, c.spc ha n1, n2⟩
  have ev : Env0 P w K mg (hidT s.heap H) callerA [] s H := {
    frames := rfl
    mod := md
    bs := fun b o h => of_hidT h
    bsz := Nat.le_of_eq (hidT_size _ _)
    funs := trivial
    frf := fun b h => nomatch (show b ∈ ([] : List Addr) from h)
    hok := hok
    bare := .of_eq hg }
  have cc := (F _ md.kin (c.spc ha hm)).go callerA [] s H ⟨[.ref a], []⟩ [.ref a] [.ref a] _ _ hr rfl ev (bi s (.ref a)) (.cons rfl .nil) hs
  refine codeAny_mono cc ?_
  intro r s2 h
  match r, h with
  | .ok .next, h => exact h.elim
  | .ok .brk, h => exact h.elim
  | .ok .cont, h => exact h.elim
  | .error _, h => exact h.elim
  | .ok (.ret u), ⟨v, H2, os, br, un, hok2, rv, q⟩ =>
    have q : v = .bl true := q
    subst q
    have eu : u = .bool true := rv
    subst eu
    refine ⟨rfl, OldK.of_keep ?_, os, br⟩
    intro b o h
    rcases c.only b with z | ⟨ob, ys, z⟩
    · exact un.keep b o h z (fun y => nomatch (show b ∈ ([] : List Addr) from y)) (by simp)
    · have h1 := (hok b _ z).1
      rw [h] at h1
      cases h1
      exact (hok2 b _ (un.frzs b o _ z)).1
end
end T3

end
section
set_option linter.all false
set_option autoImplicit false
set_option Elab.async false
namespace T3
open PySem PySem.Spec PyProof.Rows L2
variable [TabL]
def ShOk (d : PyData) : Prop := SeqAt.shaped d = true ∧ d.showable = true ∧ d.shown.length ≤ 1000000
noncomputable instance (d : PyData) : Decidable (ShOk d) := Classical.propDecidable _
section
variable {X : Cx} {k : Nat}
end
end T3
namespace T3
open PySem PySem.Spec PyProof.Rows L2
variable [TabL]
end T3

end
section
set_option linter.all false
set_option autoImplicit false
set_option Elab.async false
namespace T3
open PySem PySem.Spec PyProof.Rows L2
variable [TabL]
end T3

end
section
set_option linter.all false
set_option autoImplicit false
set_option Elab.async false
namespace T3
open PySem PySem.Spec PyProof.Rows L2
variable [TabL]
def JoOk (a : Str) (ys : List Str) : Prop := (ys.map (·.length)).sum + ys.length * a.length ≤ 16777216
noncomputable instance (a : Str) (ys : List Str) : Decidable (JoOk a ys) := Classical.propDecidable _
section
variable {X : Cx} {o e : Expr} {fo : EE} {fa : EA} {apos cpos : Pos}
end
end T3

end
section
set_option linter.all false
set_option autoImplicit false
set_option Elab.async false
namespace T3
open PySem L2
variable [TabL]

mutual
def nk? : PyData → Option NestedKey
  | .none => some .none
  | .int i => some (.num i)
  | .tuple xs => match nks? xs with
    | some ks => some (.tup ks)
    | none => none
  | .str x => some (.text x)
  | .bool _ => none
  | .list _ => none
  | .dict _ => none
def nks? : List PyData → Option (List NestedKey)
  | [] => some []
  | x :: xs => match nk? x with
    | some k => match nks? xs with
      | some ks => some (k :: ks)
      | none => none
    | none => none
end
mutual
theorem nk_ok : ∀ (x : PyData) (k : NestedKey), nk? x = some k → k.data = x
  | .none, k, h => by simp only [nk?, Option.some.injEq] at h; subst h; simp only [NestedKey.data]
  | .int i, k, h => by simp only [nk?, Option.some.injEq] at h; subst h; simp only [NestedKey.data]
  | .str i, k, h => by simp only [nk?, Option.some.injEq] at h; subst h; simp only [NestedKey.data]
  | .tuple xs, k, h => by
    rw [nk?] at h
    cases e : nks? xs with
    | none => rw [e] at h; cases h
    | some ks =>
      rw [e] at h
      cases h
      rw [NestedKey.data, nks_ok xs ks e]
  | .bool _, k, h => by simp [nk?] at h
  | .list _, k, h => by simp [nk?] at h
  | .dict _, k, h => by simp [nk?] at h
theorem nks_ok : ∀ (xs : List PyData) (ks : List NestedKey), nks? xs = some ks → NestedKey.datas ks = xs
  | [], ks, h => by simp only [nks?, Option.some.injEq] at h; subst h; simp only [NestedKey.datas]
  | x :: xs, ks, h => by
    rw [nks?] at h
    cases e : nk? x with
    | none => rw [e] at h; cases h
    | some k =>
      cases e2 : nks? xs with
      | none => rw [e, e2] at h; cases h
      | some ks' =>
        rw [e, e2] at h
        cases h
        rw [NestedKey.datas, nk_ok x k e, nks_ok xs ks' e2]
end
def tk? (x : PyData) : Option NestedKey := match nk? x with
  | some (.tup ks) => if (NestedKey.tup ks).depth ≤ 8 then some (.tup ks) else none
  | _ => none
theorem tk_ok {x : PyData} {k : NestedKey} (h : tk? x = some k) : NkOk k ∧ k.data = x := by
  unfold tk? at h
  split at h
  · rename_i ks e
    split at h
    · rename_i hd
      cases h
      exact ⟨⟨hd, ks, rfl⟩, nk_ok _ _ e⟩
    · cases h
  · cases h

def valN (kvs : List (NestedKey × PyData)) (k : NestedKey) : Option PyData := (kvs.find? fun q => decide (q.1 = k)).map (·.2)
def putN (kvs : List (NestedKey × PyData)) (k : NestedKey) (x : PyData) : List (NestedKey × PyData) :=
  if (valN kvs k).isSome = true then kvs.map (fun q => if q.1 = k then (q.1, x) else q) else kvs ++ [(k, x)]

def DnAt (K : PySem.W.Frag) (B : Mset) (H : Hp) (a : Addr) (kvs : List (NestedKey × PyData)) : Prop :=
  (kvs = [] ∧ H a = some (.dK [])) ∨ ∃ es, H a = some (DnO a es) ∧ DnR K B H es kvs

def KnE (K : PySem.W.Frag) (B : Mset) (H : Hp) (q : NestedKey × PyData) (x : NestedKey × Addr × Value) : Prop :=
  x.1 = q.1 ∧ NkOk q.1 ∧ Rp K B H (.ref x.2.1) q.1.data ∧ ∃ v, RelV v x.2.2 ∧ Rp K B H v q.2
abbrev Kn (K : PySem.W.Frag) (B : Mset) (H : Hp) : List (NestedKey × PyData) → List (NestedKey × Addr × Value) → Prop := Paired (KnE K B H)

section
variable {K : PySem.W.Frag} {B : Mset} {H : Hp}
theorem Kn.val {k : NestedKey} : ∀ {kvs : List (NestedKey × PyData)} {xs : List (NestedKey × Addr × Value)}, Kn K B H kvs xs → (∃ p v z, atKey xs k = some p ∧ valN kvs k = some z ∧ RelV v p.2 ∧ Rp K B H v z) ∨ (atKey xs k = none ∧ valN kvs k = none)
  | _, _, .nil => .inr ⟨rfl, rfl⟩
  | _, _, .cons (a := q) (b := x) r t => by
    obtain ⟨e1, _, _, v, rv, rp⟩ := r
    by_cases e : q.1 = k
    · have e' : x.1 = k := by rw [e1]; exact e
      exact .inl ⟨x.2, v, q.2, by simp [atKey, e'], by simp [valN, e], rv, rp⟩
    · have e' : ¬ x.1 = k := by rw [e1]; exact e
      rcases Kn.val (k := k) t with ⟨p, v, z, h1, h2, h3⟩ | ⟨h1, h2⟩
      · exact .inl ⟨p, v, z, by simpa [atKey, e'] using h1, by simpa [valN, e] using h2, h3⟩
      · exact .inr ⟨by simpa [atKey, e'] using h1, by simpa [valN, e] using h2⟩
theorem Kn.map {k : NestedKey} {v : V} {u : Value} {z : PyData} (rv : RelV v u) (rp : Rp K B H v z) : ∀ {kvs : List (NestedKey × PyData)} {xs : List (NestedKey × Addr × Value)}, Kn K B H kvs xs → Kn K B H (kvs.map fun q => if q.1 = k then (q.1, z) else q) (xs.map (putAt k u))
  | _, _, .nil => .nil
  | _, _, .cons (a := q) (b := x) r t => by
    refine .cons ?_ (Kn.map rv rp t)
    obtain ⟨e1, e2, e3, e4⟩ := r
    by_cases e : q.1 = k
    · have e' : x.1 = k := by rw [e1]; exact e
      unfold putAt
      dsimp only
      rw [if_pos e, if_pos e']
      exact ⟨e1, e2, e3, v, rv, rp⟩
    · have e' : ¬ x.1 = k := by rw [e1]; exact e
      unfold putAt
      dsimp only
      rw [if_neg e, if_neg e']
      exact ⟨e1, e2, e3, e4⟩
theorem Kn.snoc {q : NestedKey × PyData} {x : NestedKey × Addr × Value} (r : KnE K B H q x) : ∀ {kvs : List (NestedKey × PyData)} {xs : List (NestedKey × Addr × Value)}, Kn K B H kvs xs → Kn K B H (kvs ++ [q]) (xs ++ [x])
  | _, _, .nil => .cons r .nil
  | _, _, .cons h t => .cons h (Kn.snoc r t)
theorem Kn.put {k : NestedKey} {b : Addr} {v : V} {u : Value} {z : PyData} {kvs : List (NestedKey × PyData)} {xs : List (NestedKey × Addr × Value)} (h : Kn K B H kvs xs) (hk : NkOk k) (rk : Rp K B H (.ref b) k.data) (rv : RelV v u) (rp : Rp K B H v z) : Kn K B H (putN kvs k z) (storedH xs k b u) := by
  unfold putN storedH
  rcases h.val (k := k) with ⟨p, v', z', h1, h2, _⟩ | ⟨h1, h2⟩
  · rw [h1, h2]
    exact h.map rv rp
  · rw [h1, h2]
    exact h.snoc ⟨rfl, hk, rk, v, rv, rp⟩
theorem Kn.dn {P : Program} {w : World} [WdOk w] : ∀ {kvs : List (NestedKey × PyData)} {xs : List (NestedKey × Addr × Value)}, Kn K B H kvs xs → Paired (DnE K B H) (xs.map (entryOfKey (nestedKind P w))) kvs
  | _, _, .nil => .nil
  | _, _, .cons (a := q) (b := x) r t => by
    obtain ⟨e1, e2, e3, e4⟩ := r
    refine .cons ⟨e2, ?_, ⟨x.2.1, rfl, e3⟩, e4⟩ (Kn.dn t)
    show _ = NestedKey.hash w x.1
    rw [e1, WdOk.eq (w := w)]
theorem Kn.of {P : Program} {w : World} [WdOk w] : ∀ {es : List DictEntry} {kvs : List (NestedKey × PyData)}, Paired (DnE K B H) es kvs → ∃ xs, Kn K B H kvs xs ∧ es = xs.map (entryOfKey (nestedKind P w))
  | _, _, .nil => ⟨[], .nil, rfl⟩
  | _, _, .cons (a := e) (b := q) r t => by
    obtain ⟨xs, h1, h2⟩ := Kn.of (P := P) (w := w) t
    obtain ⟨e1, e2, ⟨b, e3, e4⟩, e5⟩ := r
    refine ⟨(q.1, b, e.val) :: xs, .cons ⟨rfl, e1, e4, e5⟩ h1, ?_⟩
    rw [List.map_cons, ← h2]
    congr 1
    show e = ⟨NestedKey.hash w q.1, .ref b, e.val⟩
    rw [WdOk.eq (w := w), e2, ← e3]
theorem Kn.len {kvs : List (NestedKey × PyData)} {xs : List (NestedKey × Addr × Value)} (h : Kn K B H kvs xs) : kvs.length = xs.length := Paired.length h
theorem Kn.keys : ∀ {kvs : List (NestedKey × PyData)} {xs : List (NestedKey × Addr × Value)}, Kn K B H kvs xs → xs.map (·.1) = kvs.map (·.1)
  | _, _, .nil => rfl
  | _, _, .cons r t => by rw [List.map_cons, List.map_cons, r.1, Kn.keys t]
end

mutual
theorem nk_is {P : Program} {w : World} {K : PySem.W.Frag} {B : Mset} {H : Hp} {h : Heap} (hok : HOk P w H h) (KX : K.In h) : ∀ (k : NestedKey) (v : V) (u : Value), Rp K B H v k.data → RelV v u → NestedIs h k u
  | .none, v, u, r, q => by
    rw [NestedKey.data] at r
    cases r
    cases (show u = Value.none from q)
    exact .none
  | .num i, v, u, r, q => by
    rw [NestedKey.data] at r
    cases r
    obtain ⟨t, rfl⟩ := (show ∃ t, u = Value.int i t from q)
    exact .int i t
  | .text x, v, u, r, q => by
    rw [NestedKey.data] at r
    cases r
    obtain ⟨t, rfl⟩ := (show ∃ t, u = Value.str x t from q)
    exact .text x t
  | .tup ks, v, u, r, q => by
    rw [NestedKey.data] at r
    cases r with
    | @tup a xs ds h1 h2 =>
      cases (show u = Value.ref a from q)
      obtain ⟨its, o, n, rv, ho, hc, hd⟩ := sqT_at hok KX h1
      exact .tup ho hc hd (nks_is hok KX ks xs its h2 rv)
theorem nks_is {P : Program} {w : World} {K : PySem.W.Frag} {B : Mset} {H : Hp} {h : Heap} (hok : HOk P w H h) (KX : K.In h) : ∀ (ks : List NestedKey) (vs : List V) (us : List Value), RpA K B H vs (NestedKey.datas ks) → Vals vs us → NestedAll h ks us
  | [], vs, us, r, q => by
    rw [NestedKey.datas] at r
    cases r
    cases q
    exact .nil
  | k :: ks, vs, us, r, q => by
    rw [NestedKey.datas] at r
    cases r with
    | cons r1 r2 =>
      cases q with
      | cons q1 q2 => exact .cons (nk_is hok KX k _ _ r1 q1) (nks_is hok KX ks _ _ r2 q2)
end

section
variable {X : Cx} [WdOk X.w] {pins : List (Addr × Obj)} {σ : St} {H : Hp} {s : Shared} {a : Addr} {A : Around} {E : Value → Shared → Prop} {B : Mset} {kvs : List (NestedKey × PyData)} {k : NestedKey}
theorem room9 (hu : A.units + 9 < cLine) : (nestedKind X.prog X.w).room A.in1 := by
  show A.units + 1 + 8 < cLine
  omega
theorem nk_key (I : Inv X pins σ H s) (hk : NkOk k) {b : Addr} (r : Rp X.K B H (.ref b) k.data) : (nestedKind X.prog X.w).is s.heap k b := ⟨nk_is I.hok I.kIn k _ _ r rfl, hk.1⟩
theorem nk_ref (hk : NkOk k) {y : V} {K : PySem.W.Frag} (r : Rp K B H y k.data) : ∃ b, y = .ref b := by
  obtain ⟨_, ks, rfl⟩ := hk
  rw [NestedKey.data] at r
  cases r
  exact ⟨_, rfl⟩
theorem dn_open (I : Inv X pins σ H s) (d : DnAt X.K B H a kvs) : (a == sysModules) = false ∧ kvs.length ≤ sizeLine ∧ (kvs.map (·.1)).Nodup ∧ ∃ xs, s.heap.DictOfH (nestedKind X.prog X.w) a xs ∧ Kn X.K B H kvs xs := by
  rcases d with ⟨rfl, d⟩ | ⟨es, d, r⟩
  · obtain ⟨z, y, vs, r, o, es, ep, e1, e2, e3, e4, e5, e6⟩ := dk_of I.hok d
    refine ⟨y, Nat.zero_le _, List.nodup_nil, [], ⟨o, es, ep, e1, e2, e3, ?_, fun _ h => by simp at h, List.nodup_nil⟩, .nil⟩
    cases r
    cases h : es.toList with
    | nil => rfl
    | cons a b => rw [h] at e5; cases e5
  · obtain ⟨⟨y, z, e1, e2, e3⟩, _⟩ := I.hok a _ d
    obtain ⟨xs, x1, x2⟩ := Kn.of (P := X.prog) (w := X.w) r.ent
    refine ⟨y, by rw [← Paired.length r.ent]; exact z, r.nd, xs, ⟨es.o, es.es.toArray, es.ep, e1, e2, e3, by simpa using x2, ?_, by rw [x1.keys]; exact r.nd⟩, x1⟩
    intro x hx
    have all : ∀ {kvs : List (NestedKey × PyData)} {xs : List (NestedKey × Addr × Value)}, Kn X.K B H kvs xs → ∀ x ∈ xs, NkOk x.1 ∧ Rp X.K B H (.ref x.2.1) x.1.data := by
      intro kvs xs h
      induction h with
      | nil => intro x hx; simp at hx
      | cons r t ih =>
        intro x hx
        rcases List.mem_cons.mp hx with rfl | hx
        · obtain ⟨e1, e2, e3, _⟩ := r
          rw [e1]; exact ⟨e2, e3⟩
        · exact ih x hx
    obtain ⟨h1, h2⟩ := all x1 x hx
    exact nk_key I h1 h2
end

def DGt (K : PySem.W.Frag) (B : Mset) (H : Hp) (a : Addr) (y : V) (o : Option PyData) : Prop :=
  (∃ kvs ws k, H a = some (.dK ws) ∧ KvR K B H ws kvs ∧ y = kV k ∧ o = valD kvs k) ∨ ∃ kvs k, DnAt K B H a kvs ∧ NkOk k ∧ Rp K B H y k.data ∧ o = valN kvs k
section
variable {X : Cx} [WdOk X.w] {pins : List (Addr × Obj)} {σ : St} {H : Hp} {s : Shared} {a : Addr} {A : Around} {E : Value → Shared → Prop} {B : Mset} {y : V} {u : Value} {o : Option PyData}
theorem dg_type (I : Inv X pins σ H s) (g : DGt X.K B H a y o) : s.TypeIs (.ref a) "dict" := by
  rcases g with ⟨kvs, ws, k, e, _⟩ | ⟨kvs, k, e, _⟩
  · obtain ⟨_, _, vs, _, dd⟩ := dk_of I.hok e
    exact dd.typeIs
  · obtain ⟨_, _, _, xs, dd, _⟩ := dn_open I e
    exact dd.typeIs
theorem dg_getItem {z : PyData} {Q : Value → Shared → Prop} (hu : A.units + 9 < cLine) (I : Inv X pins σ H s) (g : DGt X.K B H a y (some z)) (ry : RelV y u)
    (h : ∀ w' s' v, Inv X pins σ H s' → RelV v w' → Rp X.K B H v z → Q w' s') : wpAny (model X.prog X.w) A (getItem (.ref a) u) Q E s := by
  rcases g with ⟨kvs, ws, k, e, r, rfl, l⟩ | ⟨kvs, k, e, hk, rk, l⟩
  · rcases r.val (k := k) with ⟨v, x, h1, h2, h3⟩ | ⟨h1, h2⟩
    · rw [h2] at l; cases l
      exact d_getItem (by omega) I (.inl ⟨ws, k, .inl e, rfl, h1.symm⟩) ry fun w' s' I' rv => h w' s' v I' rv h3
    · rw [h2] at l; cases l
  · obtain ⟨b, rfl⟩ := nk_ref hk rk
    cases (show u = Value.ref b from ry)
    obtain ⟨_, _, _, xs, dd, kn⟩ := dn_open I e
    rcases kn.val (k := k) with ⟨p, v, z', h1, h2, h3, h4⟩ | ⟨h1, h2⟩
    · rw [h2] at l; cases l
      exact wpAny_getItem_heap (room9 hu) (nk_key I hk rk) dd h1 (h _ _ v (I.tok _) h3 h4)
    · rw [h2] at l; cases l
end
end T3

end
section
set_option linter.all false
set_option autoImplicit false
set_option Elab.async false
namespace T3
open PySem L2
variable [TabL]

def pdOf : R → Option PyData
  | .pd x => some x
  | .nt xs => some (.tuple xs)
  | .tmp _ => none
  | .var _ => none
theorem pdOf_rp {K : PySem.W.Frag} {H₀ : Hp} {B : Mset} {H : Hp} {σ : St} {env : Sl} {v : V} {d : R} {x : PyData} (h : RR K H₀ B H σ env v d) (e : pdOf d = some x) : Rp K B H v x := by
  cases d with
  | pd y => cases e; exact h
  | nt y => cases e; obtain ⟨a, rfl, h⟩ := h; exact h.rp
  | tmp t => cases e
  | var i => cases e
def cGet : Ct → PyData → Option (Option PyData)
  | .dk kvs, y => match key? y with
    | some k => some (valD kvs k)
    | none => match tk? y with
      | some _ => match kvs with
        | [] => some none
        | _ :: _ => none
      | none => none
  | .dn kvs, y => match tk? y with
    | some k => some (valN kvs k)
    | none => none
  | .ls _, _ => none
  | .tb .., _ => none
theorem cGet_ok {K : PySem.W.Frag} {B : Mset} {H : Hp} {a : Addr} {c : Ct} {v : V} {y : PyData} {o : Option PyData} (hc : CtR K B H a c) (r : Rp K B H v y) (e : cGet c y = some o) : DGt K B H a v o := by
  cases c with
  | tb => cases e
  | ls xs => cases e
  | dk kvs =>
    obtain ⟨ws, h1, h2⟩ := hc
    dsimp only [cGet] at e
    split at e
    · rename_i k hk
      cases e
      exact .inl ⟨kvs, ws, k, h1, h2, key_v r hk, rfl⟩
    · split at e
      · rename_i k hk
        split at e
        · cases e
          obtain ⟨k1, k2⟩ := tk_ok hk
          refine .inr ⟨[], k, .inl ⟨rfl, ?_⟩, k1, by rw [k2]; exact r, rfl⟩
          cases h2
          exact h1
        · cases e
      · cases e
  | dn kvs =>
    obtain ⟨es, h1, h2⟩ := hc
    dsimp only [cGet] at e
    split at e
    · rename_i k hk
      cases e
      obtain ⟨k1, k2⟩ := tk_ok hk
      exact .inr ⟨kvs, k, .inr ⟨es, h1, h2⟩, k1, by rw [k2]; exact r, rfl⟩
    · cases e
def dGet (env : Sl) (j : Nat) (y : PyData) : Option (Option PyData) := match env[j]? with
  | some (some (.mu _ c)) => cGet c y
  | _ => none
theorem dGet_ok {K : PySem.W.Frag} {B : Mset} {H : Hp} {σ : St} {env : Sl} {j : Nat} {w v : V} {y : PyData} {o : Option PyData} (en : EnvR K B H σ env) (hx : σ[j]? = some (some w)) (r : Rp K B H v y) (e : dGet env j y = some o) : ∃ a, w = .ref a ∧ DGt K B H a v o := by
  unfold dGet at e
  split at e
  · rename_i m c hm
    obtain ⟨p, g1, g2, g3⟩ := en.mu j _ _ hm
    rw [hx] at g1
    cases g1
    exact ⟨p, rfl, cGet_ok g3 r e⟩
  · cases e
def tDg (K : PySem.W.Frag) (td ty : TE) : TE := fun σ H Q => td σ H fun x H1 => ty σ H1 fun y H2 => ∃ B a z, x = .ref a ∧ DGt K B H2 a y (some z) ∧ ∀ v, Rp K B H2 v z → Q v H2
theorem pe_dg {X : Cx} [WdOk X.w] {o i : Expr} {pos : Pos} {td ty : TE} (hu : X.A.units + 9 < cLine) (ho : PE X o td) (hi : PE X i ty) (hs : NoSl i) : PE X (.Subscript o i pos) (tDg X.K td ty) := by
  refine ⟨fun pins s σ H Q I h => ?_⟩
  refine subD_of PySem.F.slot_dict_getitem.lookup hs (thn (ho.run pins s σ H _ I h) fun u s1 ⟨x, H1, I1, rx, q1⟩ => thn (hi.run pins s1 σ H1 _ I1 q1) fun iv s2 ⟨y, H2, I2, ry, B, a, z, ex, g, q2⟩ => ?_)
  subst ex
  obtain rfl : u = Value.ref a := rx
  exact ⟨dg_type I2 g, dg_getItem hu I2 g ry fun w' s3 v I3 rw' rz => ⟨v, H2, I3, rw', q2 v rz⟩⟩
section
variable {X : Cx} [WdOk X.w] {i o : Expr} {fk fd : EE} {pos : Pos}
end

theorem valN_nd {kvs : List (NestedKey × PyData)} {k : NestedKey} (h : valN kvs k = none) : k ∉ kvs.map (·.1) := by
  unfold valN at h
  rw [Option.map_eq_none_iff, List.find?_eq_none] at h
  intro hm
  obtain ⟨q, h1, h2⟩ := List.mem_map.mp hm
  exact h q h1 (by simp [h2])
theorem putN_nd {kvs : List (NestedKey × PyData)} {k : NestedKey} {x : PyData} (h : (kvs.map (·.1)).Nodup) : ((putN kvs k x).map (·.1)).Nodup := by
  unfold putN
  split
  · have e : (kvs.map fun q => if q.1 = k then (q.1, x) else q).map (·.1) = kvs.map (·.1) := by
      rw [List.map_map]
      refine List.map_congr_left fun q _ => ?_
      show (if q.1 = k then (q.1, x) else q).1 = q.1
      split <;> rfl
    rw [e]; exact h
  · rename_i hn
    have hn' : valN kvs k = none := by
      cases e : valN kvs k with
      | none => rfl
      | some z => rw [e] at hn; exact absurd rfl hn
    rw [List.map_append, List.nodup_append]
    refine ⟨h, by simp, fun a ha b hb => ?_⟩
    simp only [List.map_cons, List.map_nil, List.mem_singleton] at hb
    subst hb
    intro e
    subst e
    exact valN_nd hn' ha
theorem putN_len (kvs : List (NestedKey × PyData)) (k : NestedKey) (x : PyData) : (putN kvs k x).length ≤ kvs.length + 1 := by
  unfold putN
  split <;> simp
theorem u9 {k : Nat} {A : Around} (r : Room k A) : A.units + 9 < cLine := by have := r.un; omega
end T3

end
section
set_option linter.all false
set_option autoImplicit false
set_option Elab.async false
set_option maxRecDepth 100000
set_option maxHeartbeats 2000000
namespace ZL
open PySem
section
variable {P : Program} {w : World} {A : Around} {E : Value → Shared → Prop} {s : Shared} {z TI TO T i1 i2 l1 l2 : Addr} {f : Bool} {oT : Obj} {m n : Nat} {xs ys : Array Value} {x y : Value}
def ZS (z TI TO i1 i2 l1 l2 S : Addr) (xs ys : Array Value) (k : Nat) (h : Heap) : Prop := IsPair h TI (.ref i1) (.ref i2) ∧ h.IsTupleIter i1 l1 k ∧ h.IsTupleIter i2 l2 k ∧ h.IsTuple l1 xs ∧ h.IsTuple l2 ys ∧
  ((IsZip h z TI TO .none ∧ ∃ a b, IsPair h TO a b) ∨ ∃ T f oT, IsZipHeld h z TI TO T f ∧ h.get? T = some oT ∧ T ≠ z ∧ T ≠ i1 ∧ T ≠ i2 ∧ T ≠ S)
theorem ZS.keep {k : Nat} {S : Addr} {h h' : Heap} (g : ZS z TI TO i1 i2 l1 l2 S xs ys k h) (d : S ≠ z ∧ S ≠ TI ∧ S ≠ TO ∧ S ≠ i1 ∧ S ≠ i2 ∧ S ≠ l1 ∧ S ≠ l2) (kp : ∀ b o, b ≠ S → h.get? b = some o → h'.get? b = some o) : ZS z TI TO i1 i2 l1 l2 S xs ys k h' := by
  obtain ⟨g1, g2, g3, g4, g5, g6⟩ := g
  obtain ⟨d1, d2, d3, d4, d5, d6, d7⟩ := d
  refine ⟨kp _ _ d2.symm g1, g2.at fun o e => kp _ o d4.symm e, g3.at fun o e => kp _ o d5.symm e, g4.at fun o e => kp _ o d6.symm e, g5.at fun o e => kp _ o d7.symm e, ?_⟩
  rcases g6 with ⟨h1, a, b, h2⟩ | ⟨T, f, oT, h1, h2, r1, r2, r3, r4⟩
  · exact .inl ⟨kp _ _ d1.symm h1, a, b, kp _ _ d3.symm h2⟩
  · exact .inr ⟨T, f, oT, kp _ _ d1.symm h1, kp _ _ r4 h2, r1, r2, r3, r4⟩
end

structure Mk (xs ys : Array Value) (lo : Addr) (h : Heap) (as : List Addr) : Prop where
  rise : as.Pairwise (· < ·)
  above : ∀ a ∈ as, lo < a
  pairs : ∀ (j : Nat) (a : Addr), as[j]? = some a → ∃ x y, xs[j]? = some x ∧ ys[j]? = some y ∧ IsPair h a x y
section
variable {P : Program} {w : World} {A : Around} {s : Shared} {R : Result → Shared → Prop} {z TI TO i1 i2 l1 l2 S : Addr} {xs ys : Array Value}
end
section
variable {P : Program} {w : World} {A : Around} {E : Value → Shared → Prop} {s : Shared} {z TI TO i1 i2 l1 l2 : Addr} {xs ys : Array Value}
end
end ZL

end
section
set_option linter.all false
set_option autoImplicit false
set_option Elab.async false
set_option maxRecDepth 100000
namespace T3
open PySem L2
variable [TabL]
end T3

end
section
set_option linter.all false
set_option autoImplicit false
set_option Elab.async false
set_option maxRecDepth 100000
namespace T3
open PySem L2
variable [TabL]
def allN (kvs : List (NestedKey × PyData)) : List (NestedKey × PyData) := kvs.foldl (fun acc q => putN acc q.1 q.2) []
theorem Kn.all {K : PySem.W.Frag} {B : Mset} {H : Hp} : ∀ {more : List (NestedKey × PyData)} {rs : List (NestedKey × Addr × Value)} {kvs : List (NestedKey × PyData)} {xs : List (NestedKey × Addr × Value)}, Kn K B H more rs → Kn K B H kvs xs → (kvs.map (·.1)).Nodup →
    Kn K B H (more.foldl (fun acc q => putN acc q.1 q.2) kvs) (storedAllH xs rs) ∧ ((more.foldl (fun acc q => putN acc q.1 q.2) kvs).map (·.1)).Nodup
  | _, _, _, _, .nil, k, nd => ⟨k, nd⟩
  | _, _, _, _, .cons (a := q) (b := x) r t, k, nd => by
    obtain ⟨e1, e2, e3, v, e4, e5⟩ := r
    have k' := k.put e2 e3 e4 e5
    rw [← e1] at k'
    have := Kn.all t (by rw [e1] at k'; exact k') (putN_nd (k := q.1) (x := q.2) nd)
    unfold storedAllH at this ⊢
    rw [List.foldl_cons, List.foldl_cons, e1]
    exact this
theorem putAll_len : ∀ (more kvs : List (NestedKey × PyData)), (more.foldl (fun acc q => putN acc q.1 q.2) kvs).length ≤ kvs.length + more.length
  | [], kvs => by simp
  | q :: more, kvs => by
    have h1 := putAll_len more (putN kvs q.1 q.2)
    have h2 := putN_len kvs q.1 q.2
    rw [List.foldl_cons, List.length_cons]
    omega
end T3

end
section
set_option linter.all false
set_option autoImplicit false
set_option Elab.async false
namespace T3
open PySem L2
variable [TabL]
def setAll : List Nat → List R → Sl → Option Sl
  | [], [], e => some e
  | i :: is, d :: ds, e => match setR i d e with
    | none => none
    | some e2 => setAll is ds e2
  | _, _, _ => none
def sParN (is : List Nat) (f : EA) : SS := fun env => match f env with
  | none => none
  | some (ds, e) => if ds.length ≤ 1000 then match setAll is ds e with
      | none => none
      | some e2 => some (.nx, e2)
    else none
@[simp] theorem z_setAll0 (e : Sl) : setAll [] [] e = some e := rfl
@[simp] theorem z_setAll1 (i : Nat) (is : List Nat) (d : R) (ds : List R) (e : Sl) : setAll (i :: is) (d :: ds) e = (match setR i d e with
    | none => none
    | some e2 => setAll is ds e2) := rfl
@[simp] theorem z_parN (is : List Nat) (f : EA) (env : Sl) : sParN is f env = (match f env with
  | none => none
  | some (ds, e) => if ds.length ≤ 1000 then match setAll is ds e with
      | none => none
      | some e2 => some (.nx, e2)
    else none) := rfl
def gNs : List Nat → TGs
  | [] => gNil
  | i :: is => gCons (gName i) (gNs is)
theorem setAll_nv : ∀ {is : List Nat} {ds : List R} {e e' : Sl}, setAll is ds e = some e' → ds.length = is.length ∧ ∀ d ∈ ds, ∀ k, d ≠ .var k
  | [], [], _, _, _ => ⟨rfl, fun d h => by simp at h⟩
  | [], _ :: _, _, _, h => by cases h
  | _ :: _, [], _, _, h => by cases h
  | i :: is, d :: ds, e, e', h => by
    rw [z_setAll1] at h
    split at h
    · cases h
    rename_i e2 h2
    obtain ⟨l, n⟩ := setAll_nv h
    refine ⟨by simp [l], fun x hx k => ?_⟩
    rcases List.mem_cons.mp hx with rfl | hx
    · exact setR_nv h2 k
    · exact n x hx k
theorem rd_names {K : PySem.W.Frag} {σ₀ : St} {B₀ B1 : Mset} {H₀ H1 : Hp} {env e' : Sl} {Q : St → Hp → Prop} (en : EnvR K B₀ H₀ σ₀ env) : ∀ {is : List Nat} {ds : List R} {vs : List V} {e : Sl} {σ : St}, AtS K σ₀ B₀ H₀ env σ B1 H1 e → RRA K H₀ B1 H1 σ e vs ds → setAll is ds e = some e' →
    (∀ σ', AtS K σ₀ B₀ H₀ env σ' B1 H1 e' → Q σ' H1) → gNs is vs σ H1 Q
  | [], [], vs, e, σ, a, r, h, q => by
    cases h
    have := r.len
    cases vs with
    | nil => exact ⟨rfl, q σ a⟩
    | cons _ _ => simp at this
  | [], _ :: _, _, _, _, _, _, h, _ => by cases h
  | _ :: _, [], _, _, _, _, _, h, _ => by cases h
  | i :: is, d :: ds, vs, e, σ, a, r, h, q => by
    rw [z_setAll1] at h
    split at h
    · cases h
    rename_i e2 h2
    have nv := (setAll_nv h).2
    cases vs with
    | nil => have := r.len; simp at this
    | cons v vs =>
      have hl : i < σ.length := by rw [← a.en.len]; exact setR_lt h2
      refine ⟨v, vs, rfl, ?_⟩
      show gNs is vs (σ.set i (some v)) H1 Q
      refine rd_names en (AtS.set en a (r.each 0 v d rfl rfl) h2) ⟨by have := r.len; simpa using this, fun k w d' hw hd => ?_, fun k l c c' w h0 h1 h2 h3 h4 => r.apart (k + 1) (l + 1) c c' w (by omega) (by simpa using h1) (by simpa using h2) (by simpa using h3) (by simpa using h4)⟩ h q
      refine RA.set h2 hl (r.each (k + 1) w d' (by simpa using hw) (by simpa using hd)) (fun c c' z1 z2 z3 => ?_) (nv d' (List.mem_of_getElem? hd))
      subst z1 z2 z3
      exact r.apart 0 (k + 1) c c' v (by omega) rfl (by simpa using hd) rfl (by simpa using hw)
theorem rd_parN {K : PySem.W.Frag} {is : List Nat} {f : EA} {D : Ends} {σ : St} {H : Hp} (h : tS K (sParN is f) D σ H) : tAsg (tTup (tA K f)) (gTup K is.length (gNs is)) D σ H := by
  obtain ⟨B, env, fl, env', en, ev, q⟩ := h
  unfold sParN at ev
  split at ev
  · cases ev
  rename_i ds e1 h1
  split at ev
  · rename_i hl
    split at ev
    · cases ev
    rename_i e2 h2
    cases ev
    refine ⟨B, env, ds, e1, en, h1, fun B1 H1 vs a1 r1 => ⟨by rw [r1.len]; exact Nat.le_of_lt (small1000 hl), fun p np => ?_⟩⟩
    obtain ⟨g, a2⟩ := a1.alloc en np (.tup vs) False (fun _ => False) (fun _ f => f.elim)
    obtain ⟨_, a3⟩ := (At.refl a1.en).alloc a1.en np (.tup vs) False (fun _ => False) (fun _ f => f.elim)
    refine ⟨p, vs, rfl, .inl (.inl upd_same), by rw [r1.len]; exact (setAll_nv h2).1, ?_⟩
    refine rd_names en a2.s ⟨r1.len, fun k v d hv hd => (r1.each k v d hv hd).later a1.en a3, r1.apart⟩ h2 fun σ' a' => q _ _ _ a'
  · cases ev
section
variable {X : Cx} [WdOk X.w] {es : List Expr} {pos : Pos}
theorem ns_nil : PGs X [] (gNs []) := pgs_nil
theorem ns_cons {e : Expr} {i : Nat} {is : List Nat} (h1 : PG X e (gName i)) (h2 : PGs X es (gNs is)) (hs : (assignEach (e :: es) X.env).map (·.2) = assign e X.env :: (assignEach es X.env).map (·.2) := by rfl) : PGs X (e :: es) (gNs (i :: is)) := pgs_cons h1 h2 hs
theorem s_parN {ts : List Expr} {k k2 : Nat} {p p2 : Pos} {is : List Nat} {f : EA} (hc : X.calm = true) (ha : PA X es (tA X.K f)) (hg : PGs X ts (gNs is)) (hn : (assignEach ts X.env).length = is.length := by rfl) (hst : (assignEach ts X.env).findIdx? (·.1) = none := by rfl)
    (hs : swapsWithSole [.Tuple ts k p] (.Tuple es k2 p2) pos.line X.env = pure false := by rfl) (hw : swappedStores [.Tuple ts k p] (.Tuple es k2 p2) X.env = pure none := by rfl)
    (h1 : (assignEach [.Tuple ts k p] X.env).map (·.2) = [assign (.Tuple ts k p) X.env] := by rfl) : PS X (.Assign [.Tuple ts k p] (.Tuple es k2 p2) pos) (tS X.K (sParN is f)) :=
  PS.imp (ps_asg (pe_tup ha) (pg_tup hc hg hn hst) hs hw h1) fun _ _ _ t => rd_parN t
end
end T3

end
section
set_option linter.all false
set_option autoImplicit false
set_option Elab.async false
set_option maxRecDepth 100000
namespace T3
open PySem L2
variable [TabL]
abbrev EPs := List (EE × EE)
def ePairs : EPs → Sl → Option (List (PyData × PyData) × Sl)
  | [], env => some ([], env)
  | p :: r, env => match p.1 env with
    | none => none
    | some (dk, e1) => match pdOf dk with
      | none => none
      | some k => match p.2 e1 with
        | none => none
        | some (dv, e2) => match pdOf dv with
          | none => none
          | some v => match ePairs r e2 with
            | none => none
            | some (ps, e3) => some ((k, v) :: ps, e3)
@[simp] theorem z_ePairs0 (env : Sl) : ePairs [] env = some ([], env) := rfl
@[simp] theorem z_ePairs1 (p : EE × EE) (r : EPs) (env : Sl) : ePairs (p :: r) env = (match p.1 env with
    | none => none
    | some (dk, e1) => match pdOf dk with
      | none => none
      | some k => match p.2 e1 with
        | none => none
        | some (dv, e2) => match pdOf dv with
          | none => none
          | some v => match ePairs r e2 with
            | none => none
            | some (ps, e3) => some ((k, v) :: ps, e3)) := rfl
def PrR (K : PySem.W.Frag) (B : Mset) (H : Hp) : List (V × V) → List (PyData × PyData) → Prop := Paired fun p q => Rp K B H p.1 q.1 ∧ Rp K B H p.2 q.2
def trsOf (K : PySem.W.Frag) (ps : EPs) : List (TE × TE) := ps.map fun p => (tE K p.1, tE K p.2)
theorem rd_pairs {K : PySem.W.Frag} : ∀ {ps : EPs} {σ : St} {H : Hp} {B : Mset} {env env' : Sl} {ds : List (PyData × PyData)} {Q : List (V × V) → Hp → Prop}, EnvR K B H σ env → ePairs ps env = some (ds, env') →
    (∀ B' H' vs, At K σ B H env B' H' env' → PrR K B' H' vs ds → Q vs H') → tPairs (trsOf K ps) σ H Q
  | [], σ, H, B, env, env', ds, Q, en, ev, q => by
    cases ev
    exact q B H [] (.refl en) .nil
  | p :: r, σ, H, B, env, env', ds, Q, en, ev, q => by
    rw [z_ePairs1] at ev
    split at ev
    · cases ev
    rename_i dk e1 h1
    split at ev
    · cases ev
    rename_i k hk
    split at ev
    · cases ev
    rename_i dv e2 h2
    split at ev
    · cases ev
    rename_i v hv
    split at ev
    · cases ev
    rename_i ps' e3 h3
    cases ev
    refine ⟨B, env, dk, e1, en, h1, fun B1 H1 x a1 r1 => ⟨B1, e1, dv, e2, a1.en, h2, fun B2 H2 y a2 r2 => ?_⟩⟩
    have a12 := a1.trans en a2
    refine rd_pairs a2.en h3 fun B3 H3 vs a3 r3 => q B3 H3 _ (a12.trans en a3) (.cons ⟨?_, ?_⟩ r3)
    · exact ((pdOf_rp r1 hk).grow (a2.grow a1.en)).grow (a3.grow a2.en)
    · exact (pdOf_rp r2 hv).grow (a3.grow a2.en)
theorem At.put {K : PySem.W.Frag} {σ : St} {B B2 : Mset} {H H2 : Hp} {env env2 : Sl} {p : Addr} {o0 o : HO} (en : EnvR K B H σ env) (a : At K σ B H env B2 H2 env2) (hp : H p = none) (bp : B2 p) (h0 : H2 p = some o0) (ni : ¬ Imm o0)
    (ns : ∀ (i : Nat) m d, env2[i]? = some (some (S.mu m d)) → σ[i]? ≠ some (some (V.ref p))) (np0 : ∀ q us, o0 ≠ PaO q us := by (intro _ _ z; cases z)) (nio : ∀ C dx fs, o ≠ .ins C dx fs := by (intro _ _ _ z; cases z)) : Grow B2 H2 B2 (upd H2 p o) ∧ At K σ B H env B2 (upd H2 p o) env2 := by
  have g : Grow B2 H2 B2 (upd H2 p o) := ⟨fun q o' h n => by
    by_cases e : q = p
    · subst e
      rcases n with n | n
      · exact absurd bp n.1
      · rw [h0] at h; cases h; exact absurd n ni
    · rw [upd_ne e]; exact h, fun q h => .inl h⟩
  refine ⟨g, ⟨fun q o' h n => ?_, a.st.new, a.st.old, a.st.sub, fun q h => ?_, fun x y q us h nw e => ?_⟩, ⟨a.en.len, fun i x h => ?_, fun i x h => ?_, fun i m d h => ?_, a.en.inj, fun q h => ?_, a.en.tb.on (fun q o' h n _ => by rw [upd_ne (fun e => n (by rw [e]; exact bp))]; exact h) g.new (a.en.tb.2.put nio)⟩, a.sm, a.ks⟩
  · have e : q ≠ p := fun z => by rw [z, hp] at h; cases h
    rw [upd_ne e]; exact a.st.keep q o' h n
  · by_cases e : q = p
    · rw [e]; exact hp
    · rw [upd_ne e] at h; exact a.st.liv q h
  · have k := a.st.pa x y q us h nw e
    rw [upd_ne (show y ≠ p from fun z => by rw [z, h0] at k; exact np0 _ _ (Option.some.inj k))]
    exact k
  · obtain ⟨v, h1, h2⟩ := a.en.pd i x h
    exact ⟨v, h1, h2.grow g⟩
  · obtain ⟨v, h1, h2⟩ := a.en.nt i x h
    exact ⟨v, h1, h2.grow g⟩
  · obtain ⟨b, h1, h2, h3⟩ := a.en.mu i m d h
    have nb : b ≠ p := fun z => ns i m d h (z ▸ h1)
    refine ⟨b, h1, h2, ?_⟩
    exact h3.hopU g nb fun q us z => by rw [h0] at z; exact np0 _ _ (Option.some.inj z)
  · by_cases e : q = p
    · subst e; exact ⟨o, upd_same⟩
    · rw [upd_ne e]; exact a.en.dom q h
def keysK : List (PyData × PyData) → Option (List (Key × PyData))
  | [] => some []
  | p :: ps => match key? p.1 with
    | none => none
    | some k => match keysK ps with
      | none => none
      | some r => some ((k, p.2) :: r)
def keysN : List (PyData × PyData) → Option (List (NestedKey × PyData))
  | [] => some []
  | p :: ps => match tk? p.1 with
    | none => none
    | some k => match keysN ps with
      | none => none
      | some r => some ((k, p.2) :: r)
def allK (kvs : List (Key × PyData)) : List (Key × PyData) := kvs.foldl (fun acc q => putD acc q.1 q.2) []
theorem KvR.merge {K : PySem.W.Frag} {B : Mset} {H : Hp} : ∀ {more : List (Key × V)} {ms : List (Key × PyData)} {ws : List (Key × V)} {kvs : List (Key × PyData)}, KvR K B H more ms → KvR K B H ws kvs → KvR K B H (mergeK ws more) (ms.foldl (fun acc q => putD acc q.1 q.2) kvs)
  | _, _, _, _, .nil, r => r
  | _, _, _, _, .cons (a := p) (b := q) h t, r => by
    have := r.put (k := q.1) h.2
    unfold mergeK
    rw [List.foldl_cons, List.foldl_cons, h.1]
    exact KvR.merge t this
theorem keysK_ok {K : PySem.W.Frag} {B : Mset} {H : Hp} : ∀ {vs : List (V × V)} {ds : List (PyData × PyData)} {kvs : List (Key × PyData)}, PrR K B H vs ds → keysK ds = some kvs → ∃ ws : List (Key × V), vs = ws.map (fun kv => (kV kv.1, kv.2)) ∧ KvR K B H ws kvs
  | _, _, kvs, .nil, e => by cases e; exact ⟨[], rfl, .nil⟩
  | _, _, kvs, .cons (a := p) (b := q) r t, e => by
    unfold keysK at e
    split at e
    · cases e
    rename_i k hk
    split at e
    · cases e
    rename_i r' hr
    cases e
    obtain ⟨ws, h1, h2⟩ := keysK_ok t hr
    refine ⟨(k, p.2) :: ws, ?_, .cons ⟨rfl, r.2⟩ h2⟩
    rw [List.map_cons, ← h1, ← key_v r.1 hk]
theorem keysN_ok {K : PySem.W.Frag} {B : Mset} {H : Hp} : ∀ {vs : List (V × V)} {ds : List (PyData × PyData)} {kvs : List (NestedKey × PyData)}, PrR K B H vs ds → keysN ds = some kvs → Paired (fun (p : V × V) (q : NestedKey × PyData) => NkOk q.1 ∧ Rp K B H p.1 q.1.data ∧ Rp K B H p.2 q.2) vs kvs
  | _, _, kvs, .nil, e => by cases e; exact .nil
  | _, _, kvs, .cons (a := p) (b := q) r t, e => by
    unfold keysN at e
    split at e
    · cases e
    rename_i k hk
    split at e
    · cases e
    rename_i r' hr
    cases e
    obtain ⟨h1, h2⟩ := tk_ok hk
    exact .cons ⟨h1, by rw [h2]; exact r.1, r.2⟩ (keysN_ok t hr)
def tDispN (K : PySem.W.Frag) (trs : List (TE × TE)) : TE := fun σ H Q => ∀ p, H p = none → tPairs trs σ (upd H p (.dK [])) fun ps H2 => H2 p = some (.dK []) ∧ ∃ B kvs, Paired (fun (p : V × V) (q : NestedKey × PyData) => NkOk q.1 ∧ Rp K B H2 p.1 q.1.data ∧ Rp K B H2 p.2 q.2) ps kvs ∧ kvs.length ≤ 15 ∧
  ∀ es, DnR K B H2 es (allN kvs) → Q (.ref p) (upd H2 p (DnO p es))
theorem carr_of {X : Cx} [WdOk X.w] {pins : List (Addr × Obj)} {σ : St} {H : Hp} {s : Shared} {B : Mset} (I : Inv X pins σ H s) : ∀ {ps : List (V × V)} {ws : List (Value × Value)} {kvs : List (NestedKey × PyData)}, VV ps ws → Paired (fun (p : V × V) (q : NestedKey × PyData) => NkOk q.1 ∧ Rp X.K B H p.1 q.1.data ∧ Rp X.K B H p.2 q.2) ps kvs →
    ∃ xs, CarriesH (nestedKind X.prog X.w) s.heap ws xs ∧ Kn X.K B H kvs xs
  | _, _, _, .nil, .nil => ⟨[], True.intro, .nil⟩
  | _, _, _, .cons (a := p) (b := u) r t, .cons (b := q) h t' => by
    obtain ⟨xs, h1, h2⟩ := carr_of I t t'
    obtain ⟨k1, k2, k3⟩ := h
    obtain ⟨b, eb⟩ := nk_ref k1 k2
    obtain ⟨u1, u2⟩ := u
    have e1 : u1 = Value.ref b := by have := r.1; rw [eb] at this; exact this
    subst e1
    rw [eb] at k2
    exact ⟨(q.1, b, u2) :: xs, ⟨rfl, rfl, nk_key I k1 k2, h1⟩, .cons ⟨rfl, k1, k2, p.2, r.2, k3⟩ h2⟩
theorem pe_dispN {X : Cx} [WdOk X.w] {pos : Pos} {keys : List (Option Expr)} {values : List Expr} {trs : List (TE × TE)} (hu : X.A.units + 9 < cLine) (h : PPs X pos keys values trs) (hall : keys.all (·.isSome) = true) (hl : keys.length = values.length) (h0 : keys ≠ [])
    (h15 : keys.length ≤ 15) : PE X (.Dict keys values pos) (tDispN X.K trs) := by
  refine ⟨fun pins s σ H Q I q => ?_⟩
  have hn := I.hok.fresh (Nat.le_refl s.heap.objs.size)
  have I1 := I.laid (a := s.heap.objs.size) (o := .dK []) (h' := s.heap.push { cls := .type "dict", data := .dict #[] }) (t' := s.toks) (fun _ _ q => Heap.get?_push_of_some _ q) (Nat.le_refl _) (dk_empty s.heap I.big)
  have hlen := pairTrees_length keys values X.env pos hall hl
  have hne : pairTrees keys values X.env pos ≠ [] := fun he => by
    rw [he] at hlen
    exact h0 (List.length_eq_zero_iff.mp hlen.symm)
  rw [arm_eval_Dict, zip_pairTrees keys values X.env pos hall hl, dictDisplay_pairs _ hne (by rw [hlen]; omega)]
  refine wpAny_bind (wpAny_standAt (wpAny_bind (wpAny_subDictH (knd := nestedKind X.prog X.w) (show X.A.units + 8 < cLine by omega) (by rw [hlen]; exact h15) (thn (h.run pins _ σ _ _ I1 (q _ hn)) fun ws s2 ⟨ps, H2, I2, rel, e, B, kvs, hp, h16, q2⟩ => ?_))))
  obtain ⟨xs, hc, hk⟩ := carr_of I2 rel hp
  obtain ⟨ns, _, _, xs0, dd, kn0⟩ := dn_open I2 (.inl ⟨rfl, e⟩ : DnAt X.K B H2 s.heap.objs.size [])
  cases kn0
  refine ⟨xs, hc, dd, fun h' tk dd' hs => wpAny_pure ?_⟩
  obtain ⟨kn, nd⟩ := Kn.all hk (.nil : Kn X.K B H2 [] []) (by simp)
  obtain ⟨q', es, ep, hq', h2, h3, h4, _, h5⟩ := dd'
  refine ⟨.ref s.heap.objs.size, _, d_write (t' := tk) (ob := DnO s.heap.objs.size ⟨q', ep, (storedAllH [] xs).map (entryOfKey (nestedKind X.prog X.w))⟩) I2 (by rw [e]; exact True.intro) hs ⟨q', hq'⟩ ⟨⟨ns, ?_, hq', h2, ?_⟩, ⟨q', hq'⟩, fun g1 g2 ⟨z1, z2, z3, z4, z5⟩ st => ⟨z1, z2, st _ z3, z4, z5⟩⟩, rfl, q2 _ ⟨kn.dn, nd⟩⟩
  · dsimp only
    rw [List.length_map, ← kn.len]
    have h1 := putAll_len kvs []
    simp only [List.length_nil, Nat.zero_add] at h1
    rw [sizeLine_eq]
    omega
  · dsimp only
    rw [← h4, Array.toArray_toList]; exact h3
def eDisp (ps : EPs) : EE := fun env => match ePairs ps env with
  | none => none
  | some (ds, e1) => if ds.length ≤ 15 then match keysK ds with
      | some kvs => some (.tmp (.dk (allK kvs)), e1)
      | none => match keysN ds with
        | some kvs => some (.tmp (.dn (allN kvs)), e1)
        | none => none
    else none
@[simp] theorem z_disp (ps : EPs) (env : Sl) : eDisp ps env = (match ePairs ps env with
  | none => none
  | some (ds, e1) => if ds.length ≤ 15 then match keysK ds with
      | some kvs => some (.tmp (.dk (allK kvs)), e1)
      | none => match keysN ds with
        | some kvs => some (.tmp (.dn (allN kvs)), e1)
        | none => none
    else none) := rfl
theorem keysK_len : ∀ {ds : List (PyData × PyData)} {kvs : List (Key × PyData)}, keysK ds = some kvs → kvs.length = ds.length
  | [], _, e => by cases e; rfl
  | p :: ds, kvs, e => by
    unfold keysK at e
    split at e
    · cases e
    split at e
    · cases e
    rename_i r hr
    cases e
    simp [keysK_len hr]
theorem keysN_len : ∀ {ds : List (PyData × PyData)} {kvs : List (NestedKey × PyData)}, keysN ds = some kvs → kvs.length = ds.length
  | [], _, e => by cases e; rfl
  | p :: ds, kvs, e => by
    unfold keysN at e
    split at e
    · cases e
    split at e
    · cases e
    rename_i r hr
    cases e
    simp [keysN_len hr]
theorem e_disp {X : Cx} [WdOk X.w] {pos : Pos} {keys : List (Option Expr)} {values : List Expr} {ps : EPs} (hu : X.A.units + 9 < cLine) (h : PPs X pos keys values (trsOf X.K ps)) (hall : keys.all (·.isSome) = true := by rfl) (hl : keys.length = values.length := by rfl) (h0 : keys ≠ [] := by decide)
    (h15 : keys.length ≤ 15 := by decide) : PE X (.Dict keys values pos) (tE X.K (eDisp ps)) := by
  refine ⟨fun pins s σ H Q I t => ?_⟩
  obtain ⟨B, env, d, env', en, ev, q⟩ := t
  unfold eDisp at ev
  split at ev
  · cases ev
  rename_i ds e1 h1
  split at ev
  · rename_i hl15
    split at ev
    · rename_i kvs hk
      cases ev
      refine (pe_disp h hall hl h0 h15).run pins s σ H Q I fun p np => ?_
      obtain ⟨g, a1⟩ := (At.refl en).alloc en np (.dK []) True (fun _ => False) (fun _ f => f.elim)
      refine rd_pairs a1.en h1 fun B2 H2 vs a2 r2 => ?_
      have a12 := a1.trans en a2
      have wp : ¬ Wof σ env p := fun w => by
        obtain ⟨o, ho⟩ := en.dom p (en.wb p w)
        rw [np] at ho; cases ho
      have k2 : H2 p = some (.dK []) := a2.st.keep p _ upd_same (.inl ⟨wp, (by first | exact ntL | exact ntK | exact ntDn | exact nt_ins)⟩)
      have b2 : B2 p := a2.st.old p (.inr ⟨trivial, rfl⟩) wp
      have ns : ∀ (i : Nat) m d, env'[i]? = some (some (S.mu m d)) → σ[i]? ≠ some (some (V.ref p)) := fun i m d z1 z2 => by
        obtain ⟨c', z3⟩ := a2.sm i m d z1
        obtain ⟨b, z4, z5, _⟩ := en.mu i m c' z3
        rw [z4] at z2
        cases z2
        obtain ⟨o, ho⟩ := en.dom _ z5
        rw [np] at ho; cases ho
      obtain ⟨ws, e1, r3⟩ := keysK_ok r2 hk
      refine ⟨k2, ws, e1, by rw [Paired.length r3, keysK_len hk]; exact hl15, ?_⟩
      obtain ⟨g3, a3⟩ := At.put (o := .dK (mergeK [] ws)) en a12 np b2 k2 (fun z => z) ns
      exact q _ _ _ a3 ⟨p, rfl, np, b2, ⟨_, upd_same, (KvR.merge r3 (.nil : KvR X.K B2 H2 [] [])).grow g3⟩, ns⟩
    · split at ev
      · rename_i kvs hk
        cases ev
        refine (pe_dispN hu h hall hl h0 h15).run pins s σ H Q I fun p np => ?_
        obtain ⟨g, a1⟩ := (At.refl en).alloc en np (.dK []) True (fun _ => False) (fun _ f => f.elim)
        refine rd_pairs a1.en h1 fun B2 H2 vs a2 r2 => ?_
        have a12 := a1.trans en a2
        have wp : ¬ Wof σ env p := fun w => by
          obtain ⟨o, ho⟩ := en.dom p (en.wb p w)
          rw [np] at ho; cases ho
        have k2 : H2 p = some (.dK []) := a2.st.keep p _ upd_same (.inl ⟨wp, (by first | exact ntL | exact ntK | exact ntDn | exact nt_ins)⟩)
        have b2 : B2 p := a2.st.old p (.inr ⟨trivial, rfl⟩) wp
        have ns : ∀ (i : Nat) m d, env'[i]? = some (some (S.mu m d)) → σ[i]? ≠ some (some (V.ref p)) := fun i m d z1 z2 => by
          obtain ⟨c', z3⟩ := a2.sm i m d z1
          obtain ⟨b, z4, z5, _⟩ := en.mu i m c' z3
          rw [z4] at z2
          cases z2
          obtain ⟨o, ho⟩ := en.dom _ z5
          rw [np] at ho; cases ho
        refine ⟨k2, B2, kvs, keysN_ok r2 hk, by rw [keysN_len hk]; exact hl15, fun es r => ?_⟩
        obtain ⟨g3, a3⟩ := At.put (o := DnO p es) en a12 np b2 k2 (fun z => z) ns
        exact q _ _ _ a3 ⟨p, rfl, np, b2, ⟨es, upd_same, DnR.grow g3 r⟩, ns⟩
      · cases ev
  · cases ev
section
variable {X : Cx} [WdOk X.w] {pos : Pos}
theorem ds_nil : PPs X pos [] [] (trsOf X.K []) := pps_nil
theorem ds_cons {k v : Expr} {ks : List (Option Expr)} {vs : List Expr} {fk fv : EE} {ps : EPs} (hk : PE X k (tE X.K fk)) (hv : PE X v (tE X.K fv)) (hr : PPs X pos ks vs (trsOf X.K ps)) : PPs X pos (some k :: ks) (v :: vs) (trsOf X.K ((fk, fv) :: ps)) := pps_cons hk hv hr
end
mutual
def unK : PyData → Option NestedKey
  | .none => some .none
  | .int i => some (.num i)
  | .str x => some (.text x)
  | .tuple xs => match unKs xs with
    | some ks => some (.tup ks)
    | none => none
  | .bool _ => none
  | .list _ => none
  | .dict _ => none
def unKs : List PyData → Option (List NestedKey)
  | [] => some []
  | x :: xs => match unK x with
    | some k => match unKs xs with
      | some ks => some (k :: ks)
      | none => none
    | none => none
end
mutual
theorem unK_data : ∀ k : NestedKey, unK k.data = some k
  | .none => by rw [NestedKey.data, unK]
  | .num i => by rw [NestedKey.data, unK]
  | .text x => by rw [NestedKey.data, unK]
  | .tup ks => by rw [NestedKey.data, unK, unKs_datas ks]
theorem unKs_datas : ∀ ks : List NestedKey, unKs (NestedKey.datas ks) = some ks
  | [] => by rw [NestedKey.datas, unKs]
  | k :: ks => by rw [NestedKey.datas, unKs, unK_data k, unKs_datas ks]
end
def decN : List (PyData × PyData) → Option (List (NestedKey × PyData))
  | [] => some []
  | q :: r => match unK q.1 with
    | some n => match decN r with
      | some t => some ((n, q.2) :: t)
      | none => none
    | none => none
theorem decN_of : ∀ kvs : List (NestedKey × PyData), decN (kvs.map fun q => (q.1.data, q.2)) = some kvs
  | [] => rfl
  | q :: r => by
    simp only [List.map_cons, decN, unK_data, decN_of r]
def decK : List (PyData × PyData) → Option (List (Key × PyData))
  | [] => some []
  | q :: r => match key? q.1 with
    | some n => match decK r with
      | some t => some ((n, q.2) :: t)
      | none => none
    | none => none
theorem key_data : ∀ k : Key, key? (keyD k) = some k
  | .inl _ => rfl
  | .inr _ => rfl
theorem decK_of : ∀ kvs : List (Key × PyData), decK (kvs.map fun q => (keyD q.1, q.2)) = some kvs
  | [] => rfl
  | q :: r => by
    simp only [List.map_cons, decK, key_data, decK_of r]
def dcOf : PyData → Option Ct
  | .dict ((.list [], .none) :: r) => match decN r with
    | some kvs => some (.dn kvs)
    | none => none
  | .dict ((.list [.none], .none) :: r) => match decK r with
    | some kvs => some (.dk kvs)
    | none => none
  | _ => none
theorem dcOf_dn (kvs : List (NestedKey × PyData)) : dcOf (ctD (.dn kvs)) = some (.dn kvs) := by
  show (match decN (kvs.map fun q => (q.1.data, q.2)) with
    | some kvs => some (Ct.dn kvs)
    | none => none) = _
  rw [decN_of]
theorem dcOf_dk (kvs : List (Key × PyData)) : dcOf (ctD (.dk kvs)) = some (.dk kvs) := by
  show (match decK (kvs.map fun q => (keyD q.1, q.2)) with
    | some kvs => some (Ct.dk kvs)
    | none => none) = _
  rw [decK_of]
theorem dcOf_ok {K : PySem.W.Frag} {B : Mset} {H : Hp} {v : V} {x : PyData} {c : Ct} (r : Rp K B H v x) (e : dcOf x = some c) : ∃ a, v = .ref a ∧ CtR K B H a c := by
  cases r with
  | dct h nb h4 nd r1 r2 =>
    have e := (dcOf_dn _).symm.trans e
    cases e
    exact ⟨_, rfl, _, h, dn_join h4 r1 r2, nd⟩
  | dck h nb hk r =>
    have e := (dcOf_dk _).symm.trans e
    cases e
    exact ⟨_, rfl, _, h, kv_join hk r⟩
  | _ => simp [dcOf] at e
def rGet (env : Sl) : R → PyData → Option (Option PyData)
  | .var j, y => dGet env j y
  | .tmp c, y => cGet c y
  | .pd x, y => match dcOf x with
    | some c => cGet c y
    | none => none
  | .nt _, _ => none
theorem rGet_ok {K : PySem.W.Frag} {H₀ : Hp} {B : Mset} {H : Hp} {σ : St} {env : Sl} {w v : V} {d : R} {y : PyData} {o : Option PyData} (en : EnvR K B H σ env) (h : RA K H₀ B H σ env w d) (r : Rp K B H v y) (e : rGet env d y = some o) : ∃ a, w = .ref a ∧ DGt K B H a v o := by
  cases d with
  | pd x =>
    have e : (match dcOf x with
      | some c => cGet c y
      | none => none) = some o := e
    split at e
    · rename_i c hc
      obtain ⟨a, rfl, hc⟩ := dcOf_ok h hc
      exact ⟨a, rfl, cGet_ok hc r e⟩
    · cases e
  | nt x => cases e
  | var j => exact dGet_ok en h r e
  | tmp c =>
    obtain ⟨a, rfl, _, _, hc, _⟩ := h
    exact ⟨a, rfl, cGet_ok hc r e⟩
def eDx (fd fk : EE) : EE := fun env => match fd env with
  | none => none
  | some (d0, e1) => match fk e1 with
    | none => none
    | some (d, e2) => match pdOf d with
      | none => none
      | some y => match rGet e2 d0 y with
        | some (some z) => some (.pd z, e2)
        | _ => none
@[simp] theorem z_dx (fd fk : EE) (env : Sl) : eDx fd fk env = (match fd env with
  | none => none
  | some (d0, e1) => match fk e1 with
    | none => none
    | some (d, e2) => match pdOf d with
      | none => none
      | some y => match rGet e2 d0 y with
        | some (some z) => some (.pd z, e2)
        | _ => none) := rfl
@[simp] theorem z_rGet1 (env : Sl) (j : Nat) (y : PyData) : rGet env (.var j) y = dGet env j y := rfl
@[simp] theorem z_rGet3 (env : Sl) (x : PyData) (y : PyData) : rGet env (.pd x) y = (match dcOf x with
    | some c => cGet c y
    | none => none) := rfl
@[simp] theorem z_rGet2 (env : Sl) (c : Ct) (y : PyData) : rGet env (.tmp c) y = cGet c y := rfl
theorem e_dx {X : Cx} [WdOk X.w] {o i : Expr} {pos : Pos} {fd fk : EE} (hu : X.A.units + 9 < cLine) (ho : PE X o (tE X.K fd)) (hi : PE X i (tE X.K fk)) (hs : NoSl i := by intro _ _; rfl) : PE X (.Subscript o i pos) (tE X.K (eDx fd fk)) := PE.imp (pe_dg hu ho hi hs) fun σ H Q t => by
  obtain ⟨B, env, d, env', en, ev, q⟩ := t
  unfold eDx at ev
  split at ev
  · cases ev
  rename_i d0 e1 h1
  split at ev
  · cases ev
  rename_i d' e2 h2
  split at ev
  · cases ev
  rename_i y hy
  split at ev
  · rename_i z hz
    cases ev
    refine ⟨B, env, _, _, en, h1, fun B1 H1 w a1 r1 => ⟨B1, e1, _, _, a1.en, h2, fun B2 H2 v a2 r2 => ?_⟩⟩
    obtain ⟨a, rfl, g⟩ := rGet_ok a2.en (r1.ra.later a1.en a2) (pdOf_rp r2 hy) hz
    exact ⟨B2, a, z, rfl, g, fun v r => q B2 H2 v (a1.trans en a2) r⟩
  · cases ev
end T3

end
section
set_option linter.all false
set_option autoImplicit false
set_option Elab.async false
set_option maxRecDepth 100000
namespace T3
open PySem L2
variable [TabL]
section
variable {X : Cx} [WdOk X.w] {pins : List (Addr × Obj)} {σ : St} {H : Hp} {s : Shared} {a : Addr} {A : Around} {E : Value → Shared → Prop} {B : Mset} {y d : V} {u r : Value} {o : Option PyData} {x : PyData}
end
section
variable {X : Cx} [WdOk X.w] {o e f : Expr} {apos cpos : Pos} {td ty tx : TE}
end
section
variable {X : Cx} [WdOk X.w] {o e f : Expr} {apos cpos : Pos} {fd fk fx : EE}
end
end T3

end
section
set_option linter.all false
set_option autoImplicit false
set_option Elab.async false
set_option maxRecDepth 100000
namespace T3
open PySem L2
variable [TabL]
noncomputable def kLrg : KK := fun ds env => match ds with
  | [.pd (.int n)] => if RgOk 0 n then some (.tmp (.ls (rgT 0 n)), env) else none
  | [.pd (.int i), .pd (.int j)] => if RgOk i j then some (.tmp (.ls (rgT i j)), env) else none
  | _ => none
noncomputable def eLrg (f : EA) : EE := eThen f kLrg
@[simp] theorem z_lrg (f : EA) (env : Sl) : eLrg f env = (match f env with
  | none => none
  | some (ds, e1) => kLrg ds e1) := rfl
section
variable {X : Cx} [WdOk X.w] {a b : Expr} {fa fb : EE} {p p2 pos pos2 : Pos}
theorem rl_fin {K : PySem.W.Frag} {σ : St} {B B1 : Mset} {H H1 : Hp} {env env1 : Sl} {q : Addr} {ws : List V} {xs : List PyData} {Q : VK} (en : EnvR K B H σ env) (a : At K σ B H env B1 H1 env1) (np : H1 q = none) (hw : ∀ B H, RpA K B H ws xs)
    (k : ∀ B' H' v, At K σ B H env B' H' env1 → RR K H B' H' σ env1 v (.tmp (.ls xs)) → Q v H') : Q (.ref q) (upd H1 q (.lst ws)) := con_new en a np (hw _ _) k
theorem x_lrg1 (zt : X.mg "list" = none) (zr : X.mg "range" = none) (ha : PE X a (tE X.K fa)) (hc : X.calm = true := by rfl) (hg : Gl X "list" := by rfl) (hg2 : Gl X "range" := by rfl) (na : starEach [a] X.env = (false, eval a X.env) :: starEach [] X.env := by rfl)
    (nt : starEach [.Call (.Name "range" p2) [a] [] pos2] X.env = (false, eval (.Call (.Name "range" p2) [a] [] pos2) X.env) :: starEach [] X.env := by rfl) : PE X (.Call (.Name "list" p) [.Call (.Name "range" p2) [a] [] pos2] [] pos) (tE X.K (eLrg (eCons fa eNil))) :=
  PE.imp (pe_listRg hc hg zt (prg_1 hg2 zr ha na) nt) fun σ H Q t => by
    obtain ⟨B, env, d, env', en, ev, q⟩ := t
    unfold eLrg eThen at ev
    rw [z_cons] at ev
    cases h1 : fa env with
    | none => rw [h1] at ev; cases ev
    | some r =>
      obtain ⟨d1, e1⟩ := r
      rw [h1] at ev
      simp only [z_nil, kLrg] at ev
      split at ev
      · rename_i ds n he
        cases he
        split at ev
        · rename_i ok
          cases ev
          refine ⟨B, env, _, _, en, h1, fun B1 H1 v a1 r1 => ?_⟩
          have r1 : Rp X.K B1 H1 v (.int n) := r1
          cases r1
          exact ⟨n, rfl, ok, fun p np => rl_fin en a1 np (fun _ _ => rg_rp) q⟩
        · cases ev
      · rename_i he; cases he
      · cases ev
end
end T3

end
section
set_option linter.all false
set_option autoImplicit false
set_option Elab.async false
set_option maxRecDepth 100000
namespace T3
open PySem L2
variable [TabL]
def kRepL : KK := fun ds env => match ds with
  | [d, .pd (.int k)] => match lsOf env d with
    | none => none
    | some xs => if 0 ≤ k ∧ k ≤ 1000 ∧ xs.length ≤ 1000 then some (.tmp (.ls (List.replicate k.toNat xs).flatten), env) else none
  | _ => none
theorem c_repL {K : PySem.W.Frag} : Con K kRepL (l2 rRep) := by
  intro σ H B env B1 H1 env1 vs ds d e2 Q en a rr hk q x y e
  unfold kRepL at hk
  split at hk
  · rename_i d1 k
    split at hk
    · cases hk
    rename_i xs hx
    split at hk
    · rename_i hl
      cases hk
      subst e
      obtain ⟨p, us, rfl, h1, h2⟩ := lsOf_at a.en (rr.each 0 x d1 rfl rfl) hx
      have h3 : Rp K B1 H1 y (.int k) := rr.each 1 y (.pd (.int k)) rfl rfl
      cases h3
      have hm : xs.length * k.toNat ≤ 1000 * 1000 := Nat.mul_le_mul hl.2.2 (by omega)
      exact ⟨p, k, us, rfl, rfl, h1, by omega, by omega, by rw [h2.length]; exact Nat.le_of_lt (small hm), fun r nr => con_new en a nr (h2.rep _) q⟩
    · cases hk
  · cases hk
def oRepS : List PyData → Option PyData
  | [.str s, .int k] => if 0 ≤ k ∧ k ≤ 1000 ∧ s.length ≤ 1000 then some (.str (Txt.mul s k)) else none
  | _ => none
def rRepS : R2 := fun x y H Q => ∃ s k, x = .str s ∧ y = .int k ∧ 0 ≤ k ∧ k ≤ 1000 ∧ s.length ≤ 1000 ∧ Q (.str (Txt.mul s k)) H
theorem mulOk_of {s : Str} {k : Int} (h1 : 0 ≤ k) (h2 : k ≤ 1000) (h3 : s.length ≤ 1000) : MulOk s k := by
  have hm : s.length * k.toNat ≤ 1000 * 1000 := Nat.mul_le_mul h3 (by omega)
  refine ⟨?_, fun h4 _ => ?_, fun h4 _ => ?_⟩
  · rw [Bool.or_eq_false_iff, decide_eq_false_iff_not, decide_eq_false_iff_not]
    omega
  · have : ((2 : Int) ^ 63 - 1) / 1000 ≤ (2 ^ 63 - 1) / k := by
      refine Int.le_ediv_of_mul_le (by omega) ?_
      have : ((2 : Int) ^ 63 - 1) / 1000 * k ≤ ((2 : Int) ^ 63 - 1) / 1000 * 1000 := Int.mul_le_mul_of_nonneg_left h2 (by decide)
      have h5 : ((2 : Int) ^ 63 - 1) / 1000 * 1000 ≤ 2 ^ 63 - 1 := by decide
      omega
    have h6 : (1000 : Int) ≤ (2 ^ 63 - 1) / 1000 := by decide
    omega
  · show decide (s.length * k.toNat > sizeLine) = false
    rw [decide_eq_false_iff_not]
    have := small hm
    omega
theorem op_repS {X : Cx} [WdOk X.w] : OpR X (binaryOp .Mult) rRepS := by
  intro pins s σ H x y v u Q I rx ry h
  obtain ⟨i, k, rfl, rfl, h1, h2, h3, q⟩ := h
  obtain ⟨t, rfl⟩ := rx
  obtain ⟨t', rfl⟩ := ry
  exact SB.mul (mulOk_of h1 h2 h3) (fun t' tk => ⟨.str _, H, I.tok _, ⟨_, rfl⟩, q⟩)
theorem ok_repS {K : PySem.W.Frag} : OkE K oRepS (l2 rRepS) := by
  intro B H vs xs z Q cn ho q x y e
  unfold oRepS at ho
  split at ho
  · split at ho
    · rename_i hl
      cases ho
      obtain ⟨v, w, e2, c1, c2⟩ := cn.two
      rw [e] at e2
      cases e2
      exact ⟨_, _, c1.str, c2.int, hl.1, hl.2.1, hl.2.2, q _ (Rp.str _)⟩
    · cases ho
  · cases ho
noncomputable def kMul2 : KK := kOr kRepL (kE oRepS)
noncomputable def eMul2 (fa fb : EE) : EE := eThen (eTwo fa fb) kMul2
@[simp] theorem z_mul2 (fa fb : EE) (env : Sl) : eMul2 fa fb env = eThen (eCons fa (eCons fb eNil)) kMul2 env := rfl
theorem x_mul2 {X : Cx} [WdOk X.w] {a b : Expr} {fa fb : EE} {pos : Pos} (ha : PE X a (tE X.K fa)) (hb : PE X b (tE X.K fb)) : PE X (.BinOp a .Mult b pos) (tE X.K (eMul2 fa fb)) := e_op (OpR.or op_rep op_repS) (con_or2 c_repL (con_E ok_repS)) ha hb
end T3

end
section
set_option linter.all false
set_option autoImplicit false
set_option Elab.async false
set_option maxRecDepth 100000
namespace T3
open PySem L2
variable [TabL]
end T3

end
section
set_option linter.all false
set_option autoImplicit false
set_option Elab.async false
namespace T3
open PySem L2
variable [TabL]
def sAug (i : Nat) (f : EE) : SS := fun env => match env[i]? with
  | some (some (.pd (.int a))) => match f env with
    | some (.pd (.int b), e) => match setR i (.pd (.int (a + b))) e with
      | none => none
      | some e2 => some (.nx, e2)
    | _ => none
  | _ => none
@[simp] theorem z_aug (i : Nat) (f : EE) (env : Sl) : sAug i f env = (match env[i]? with
  | some (some (.pd (.int a))) => match f env with
    | some (.pd (.int b), e) => match setR i (.pd (.int (a + b))) e with
      | none => none
      | some e2 => some (.nx, e2)
    | _ => none
  | _ => none) := rfl
theorem rd_aug {K : PySem.W.Frag} {i : Nat} {f : EE} {D : Ends} {σ : St} {H : Hp} (h : tS K (sAug i f) D σ H) : tAug i (tE K f) (ipI fun i j => i + j) D σ H := by
  obtain ⟨B, env, fl, env', en, ev, q⟩ := h
  unfold sAug at ev
  split at ev
  · rename_i a h0
    split at ev
    · rename_i b e1 h1
      split at ev
      · cases ev
      rename_i e2 h2
      cases ev
      obtain ⟨v, hv, hr⟩ := en.pd i _ h0
      cases hr
      refine ⟨_, hv, B, env, _, _, en, h1, fun B1 H1 v a1 r1 => ?_⟩
      cases r1
      exact ⟨a, b, rfl, rfl, q B1 _ H1 (AtS.set en a1.s (d := .pd (.int (a + b))) (.int _) h2)⟩
    · cases ev
  · cases ev
theorem s_aug {X : Cx} [WdOk X.w] {e : Expr} {pos : Pos} {f : EE} {i : Nat} {x : Str} {pos' : Pos} (hN : X.N.Nodup) (hi : X.N[i]? = some x) (hx : Loc X.env.scope x) (he : PE X e (tE X.K f)) (hf : X.fn x = true ∨ X.env.scope.names.lookup x = some .local := by first | exact .inl rfl | exact .inr rfl | assumption) :
    PS X (.AugAssign (.Name x pos') .Add e pos) (tS X.K (sAug i f)) := PS.imp (ps_aug hN hi hx he ip_add hf) fun _ _ _ t => rd_aug t
end T3

end
section
set_option linter.all false
set_option autoImplicit false
set_option Elab.async false
set_option maxRecDepth 100000
namespace T3
open PySem L2
open Sem (wp)
open AutoSeq1 (wpAny_loadPart')
variable [TabL]
abbrev eT1 (h : Heap) (t : Addr) : Heap := h.push { cls := .type "tuple_iterator", data := .fields #[.ref t, .int 0 0] }
abbrev eT2 (h : Heap) (t : Addr) : Heap := (eT1 h t).push { cls := .type "enumerate", data := .fields #[.none, .bool false, .ref h.objs.size, rawInt 0, .none, .none] }
theorem meets_enT (t : Addr) (us : Array Value) (k : Nat) (dd : Option Addr) (sl : Array (Option Value)) :
    Meets (Builtin.«enumerate.__new__» ⟨[.type "enumerate", .ref t], []⟩) (fun _ R s =>
      s.heap.get? t = some { cls := .type "tuple", dict := dd, data := .seq us k, slots := sl } ∧ R (.ok (.ret (.ref (eT1 s.heap t).objs.size))) { s with heap := eT2 s.heap t }) :=
  .of_wp fun prog w A R s q => by
    obtain ⟨h0, g, d, tk, os⟩ := s
    obtain ⟨ht, q⟩ := q
    have hsub := sub_enumerate
    have hT : Heap.IsTuple (Shared.heap ⟨h0, g, d, tk, os⟩) t us := ⟨_, ht, rfl, k, rfl⟩
    wp_walk using wpAny_loadPart' ht
    refine wpAny_stack_any fun z => wpAny_pure ?_
    split
    · rename_i c _ _ _ _ _
      cases (c == Value.type "enumerate") <;>
      · wp_walk using wpAny_loadPart' ht, wpAny_pyIter_tuple hT
        exact ⟨_, rfl, q⟩
    · wp_walk using wpAny_loadPart' ht, wpAny_pyIter_tuple hT
      exact ⟨_, rfl, q⟩
theorem call_enT {prog : Program} {w : World} {A : Around} {E : Value → Shared → Prop} {s : Shared} {t : Addr} {us : Array Value} {Q : Value → Shared → Prop} (hT : s.heap.IsTuple t us)
    (q : ∀ h', IsEnum h' (s.heap.objs.size + 1) s.heap.objs.size 0 .none → h'.IsTupleIter s.heap.objs.size t 0 → (∀ b o, s.heap.get? b = some o → h'.get? b = some o) → Q (.ref (s.heap.objs.size + 1)) { s with heap := h' }) :
    wpAny (model prog w) A (call (.type "enumerate") [.ref t]) Q E s := by
  obtain ⟨⟨c, dct, dt, sl⟩, ht, hc, n, hd⟩ := hT
  replace hc : c = .type "tuple" := hc
  replace hd : dt = .seq us n := hd
  subst hc hd
  refine callType_new F.called_enumerate (by decide) (F.typeCall_enumerate_1 _) (F.newCall_enumerate_1 _) (fun o => F.args_object_init_2 o _) F.entry_enumerate_new (meets_enT t us n dct sl) ⟨ht, ?_⟩
  have hz : (eT1 s.heap t).objs.size = s.heap.objs.size + 1 := Heap.size_push ..
  show _ ∧ _
  rw [hz]
  have he : IsEnum (eT2 s.heap t) (s.heap.objs.size + 1) s.heap.objs.size 0 .none := by
    have := Heap.get?_push_size (eT1 s.heap t) (o := { cls := .type "enumerate", data := .fields #[.none, .bool false, .ref s.heap.objs.size, rawInt 0, .none, .none] }) rfl
    rw [hz] at this
    exact this
  exact ⟨⟨_, he, rfl⟩, q _ he ⟨_, Heap.get?_push_of_some _ (Heap.get?_push_size _ rfl), rfl, rfl⟩ fun b o x => Heap.get?_push_of_some _ (Heap.get?_push_of_some _ x)⟩
def ItET (K : PySem.W.Frag) (a : Addr) : It :=
  ⟨fun i H => ∃ (xs : List V) (x : V), SqT K H a xs ∧ xs[i]? = some x,
   fun i H v H' => ∃ T x, v = .ref T ∧ H T = none ∧ H' = upd H T (.tup [.int (i : Nat), x]) ∧ ∀ xs, SqT K H a xs → xs[i]? = some x,
   fun i H => ∃ xs : List V, SqT K H a xs ∧ i = xs.length⟩
theorem turn_et {P : Program} {w : World} {K : PySem.W.Frag} {elts : List Expr} {kk : Nat} {tpos : Pos} (a e it : Addr) (n1 : e ≠ it) (n2 : e ≠ a) (n3 : a ≠ it) :
    Turn P w K (.Tuple elts kk tpos) (ItET K a) [e, it] e (fun i h => (∃ old, IsEnum h e it ((i : Nat) : Int) old) ∧ h.IsTupleIter it a i) where
  mem := by simp
  obj i h q b hb := by
    obtain ⟨⟨old, he⟩, ⟨o, ho, hc, hd⟩⟩ := q
    rcases (show b = e ∨ b = it by simpa using hb) with rfl | rfl
    · exact ⟨_, he, fun v z => nomatch z⟩
    · exact ⟨o, ho, fun v z => by rw [hd] at z; cases z⟩
  keep i h h' q k := by
    obtain ⟨⟨old, he⟩, ⟨o, ho, r⟩⟩ := q
    exact ⟨⟨old, k e (by simp) _ he⟩, ⟨o, k it (by simp) _ ho, r⟩⟩
  item := by
    intro X hP hw hK hc i pins s σ H E I hf q hg
    subst hP hw hK
    obtain ⟨⟨old, he⟩, hit⟩ := q
    obtain ⟨xs, x, hq, hx⟩ := hg
    obtain ⟨its, rv, p, hz⟩ := I.tuple hq
    obtain ⟨u, hu, ru⟩ := rv.get hx
    have hel : e < s.heap.objs.size := Heap.lt_size he
    have hil : it < s.heap.objs.size := by obtain ⟨_, z, _⟩ := hit; exact Heap.lt_size z
    have Dr := Draws.tuple (prog := X.prog) (w := X.w) (A := X.A.in1) (I.ok.hd hc) it a n3 its.toArray
    have hi : i < its.toArray.size := by
      have := (List.getElem?_eq_some_iff.mp hu).1
      simpa using this
    refine wpAny_pyNext_enum_itemD Dr he ⟨hit, p⟩ hi n1 (by simp [n1, n2]) fun u' h' tk hu' ho hit' hT hsz hk => ?_
    have eu : u' = u := by
      have z : its.toArray[i]? = some u := by simpa using hu
      rw [z] at hu'
      exact (Option.some.inj hu').symm
    subst eu
    refine ⟨_, rfl, wpAny_letOwnedTupleGo_enum (s := { s with heap := h', toks := tk + 1 }) ho fun h'' he' sb => ?_⟩
    have new : ObjOk X.prog X.w (upd H s.heap.objs.size (.tup [.int (i : Nat), x])) h'' s.heap.objs.size (.tup [.int (i : Nat), x]) :=
      ⟨by rw [sizeLine_eq]; simp, [.int i tk, u'], .cons ⟨_, rfl⟩ (.cons ru .nil), ⟨_, (sb.2 _ (Nat.ne_of_gt hel)).trans hT, rfl, _, rfl⟩⟩
    have I1 : Inv X pins σ (upd H s.heap.objs.size (.tup [.int (i : Nat), x])) { s with heap := h'', toks := tk + 1 } :=
      I.turnedNew (ch := [e, it]) (fun b ob hb z => (sb.2 b (fun y => hb (by simp [y]))).trans (hk b ob (fun y => hb (by simp [y])) (fun y => hb (by simp [y])) z)) hf (Nat.le_refl _) new
    obtain ⟨⟨oi, hoi, ri⟩, _⟩ := hit'
    refine ⟨.ref s.heap.objs.size, _, I1, rfl, ⟨_, x, rfl, I.hok.fresh (Nat.le_refl _), rfl, fun ys hy => by rw [I.tuple_inj hy hq]; exact hx⟩, ⟨⟨u', ?_⟩, ⟨oi, (sb.2 it (Ne.symm n1)).trans hoi, ri⟩⟩, fun b hb => ?_⟩
    · have e1 : ((i + 1 : Nat) : Int) = (i : Int) + 1 := by omega
      rw [e1]; exact he'
    · have hb' : b < s.heap.objs.size := by
        rcases (show b = e ∨ b = it by simpa using hb) with z | z
        · rw [z]; exact hel
        · rw [z]; exact hil
      rw [upd_ne (Nat.ne_of_lt hb')]
      exact (hf b hb).1
  done := by
    intro X hP hw hK hc i pins s σ H E I hf q hg
    subst hP hw hK
    obtain ⟨⟨old, he⟩, hit⟩ := q
    obtain ⟨xs, hq, hx⟩ := hg
    obtain ⟨its, rv, p, hz⟩ := I.tuple hq
    obtain ⟨f0, f1, f2, f3, f4, f5⟩ := hf it (by simp)
    have hl := rv.length
    have Dr := Draws.tuple (prog := X.prog) (w := X.w) (A := X.A.in1) (I.ok.hd hc) it a n3 its.toArray
    have hi : i = its.toArray.size := by rw [hx, hl]; simp
    subst hi
    exact wpAny_pyNext_enum_endD Dr he ⟨hit, p⟩ fun h' eb => ⟨rfl, I.turned (t' := s.toks) (fun b o hb z => eb b o hb z) f0 f1 f3 f4 f5⟩
  self A i s Q E q h := by
    obtain ⟨⟨old, he⟩, _⟩ := q
    exact wpAny_pyIter_enum he h
def iET (K : PySem.W.Frag) (te : TE) : TI := fun σ H R => te σ H fun v H1 => ∃ a xs, v = .ref a ∧ SqT K H1 a xs ∧ R (ItET K a) H1
theorem pi_et {X : Cx} [WdOk X.w] {e : Expr} {te : TE} {p pos tpos : Pos} {elts : List Expr} {kk : Nat} (hg : Gl X "enumerate") (hm : X.mg "enumerate" = none) (he : PE X e te) (hs : starEach [e] X.env = (false, eval e X.env) :: starEach [] X.env := by rfl) :
    PI X (.Tuple elts kk tpos) (.Call (.Name "enumerate" p) [e] [] pos) (iET X.K te) := by
  refine ⟨fun pins s σ H R I h => ?_⟩
  refine PyProof.Rows.Call_ (ld_blt I hg hm (by decide +kernel : bootBuiltins "enumerate" = some (.type "enumerate")) (PyProof.Rows.callWith_type1 (one_arg he I h (fun v s2 x H2 I2 r q => ?_) hs) hs))
  obtain ⟨a, xs, rfl, hq, q⟩ := q
  cases r
  obtain ⟨its, rv, pt, hz⟩ := I2.tuple hq
  have hal : a < s2.heap.objs.size := by obtain ⟨_, z, _⟩ := pt; exact Heap.lt_size z
  refine call_enT pt fun h' he' hit hk => wpAny_pyIter_enum he' ?_
  refine ⟨s2.heap.objs.size + 1, [s2.heap.objs.size + 1, s2.heap.objs.size], _, _, H2, rfl, I2.kept (t' := s2.toks) hk, turn_et a (s2.heap.objs.size + 1) s2.heap.objs.size (Nat.succ_ne_self _) (Nat.ne_of_gt (Nat.lt_succ_of_lt hal)) (Nat.ne_of_lt hal), ⟨⟨.none, he'⟩, hit⟩, fun b hb => ?_, q⟩
  have hle : s2.heap.objs.size ≤ b := by
    rcases (show b = s2.heap.objs.size + 1 ∨ b = s2.heap.objs.size by simpa using hb) with y | y
    · rw [y]; exact Nat.le_add_right _ _
    · rw [y]; exact Nat.le_refl _
  exact I2.fpOk hle (I2.hok.fresh hle)
theorem wk_et {K : PySem.W.Frag} {a : Addr} {xs : List PyData} : Wk K (ItET K a) (fun _ => False) (fun B H => Rp K B H (.ref a) (.tuple xs)) (enumD xs 0) where
  go i B H g hi := by
    obtain ⟨_, us, e, h1, h2⟩ := Cn.tuple (.rp g)
    cases e
    simp only [enumD, List.length_map, List.length_range] at hi
    have l1 := h2.length
    exact ⟨us, us[i]'(by omega), h1, by simp⟩
  stop B H g := by
    obtain ⟨_, us, e, h1, h2⟩ := Cn.tuple (.rp g)
    cases e
    refine ⟨us, h1, ?_⟩
    simp only [enumD, List.length_map, List.length_range]
    exact h2.length.symm
  yld i B H x H' d g hd hy := by
    obtain ⟨_, us, e, h1, h2⟩ := Cn.tuple (.rp g)
    cases e
    obtain ⟨T, u, rfl, nT, rfl, f1⟩ := hy
    refine ⟨.inr (.inl ⟨T, _, nT, rfl⟩), ?_⟩
    obtain ⟨x, m1, m2⟩ := h2.getV (f1 us h1)
    have hi : i < xs.length := (List.getElem?_eq_some_iff.mp m1).1
    simp only [enumD, List.getElem?_map, List.getElem?_range hi, Option.map_some] at hd
    cases hd
    have : xs.getD i .none = x := by
      rw [List.getD_eq_getElem?_getD, m1]
      rfl
    rw [this, Nat.zero_add]
    have gr : Grow B H B (upd H T (.tup [.int (i : Nat), u])) := ⟨fun q o h _ => keep_upd nT q o h, fun q h => .inl h⟩
    exact .tup (.inl (.inl upd_same)) (.cons (.int _) (.cons (m2.grow gr) .nil))
  keep W B H W' B' H' g s wb _ := g.grow (s.grow wb)
def iEnT (f : EE) : EI := fun env => match f env with
  | some (d, e) => match tupOf d with
    | none => none
    | some xs => some (enumD xs 0, none, e)
  | _ => none
theorem i_enT {X : Cx} [WdOk X.w] {e : Expr} {f : EE} {p pos tpos : Pos} {elts : List Expr} {kk : Nat} (hg : Gl X "enumerate") (hm : X.mg "enumerate" = none) (he : PE X e (tE X.K f)) (hs : starEach [e] X.env = (false, eval e X.env) :: starEach [] X.env := by rfl) :
    PI X (.Tuple elts kk tpos) (.Call (.Name "enumerate" p) [e] [] pos) (tI X.K (iEnT f)) := PI.imp (pi_et hg hm he hs) fun σ H R h => by
  obtain ⟨B, env, xs, lk, env', en, ev, q⟩ := h
  unfold iEnT at ev
  split at ev
  · rename_i d e1 h1
    split at ev
    · cases ev
    rename_i xs h2
    cases ev
    refine ⟨B, env, _, _, en, h1, fun B1 H1 v a1 r1 => ?_⟩
    have r2 := tupOf_at r1.ra h2
    obtain ⟨a, us, rfl, g1, _⟩ := Cn.tuple (.rp r2)
    exact ⟨a, us, rfl, g1, q B1 H1 _ _ _ _ a1 rfl wk_et r2 (fun _ z => z.elim)⟩
  · cases ev
@[simp] theorem z_enT (f : EE) (env : Sl) : iEnT f env = (match f env with
  | some (d, e) => match tupOf d with
    | none => none
    | some xs => some (enumD xs 0, none, e)
  | _ => none) := rfl
end T3

end
section
set_option linter.all false
set_option autoImplicit false
set_option Elab.async false
namespace T3
open PySem L2 PyProof.Rows
variable [TabL]
theorem len_same {a b : List Int} (h1 : a.Nodup) (h2 : b.Nodup) (h : ∀ x, x ∈ a ↔ x ∈ b) : a.length = b.length :=
  Nat.le_antisymm (h1.length_le_of_subset fun x hx => (h x).mp hx) (h2.length_le_of_subset fun x hx => (h x).mpr hx)
def tLST (K : PySem.W.Frag) (ta : TE) : TE := fun σ H Q => ta σ H fun x H1 => ∃ (t : Addr) (ns : List Int), x = V.ref t ∧ SqT K H1 t (ns.map V.int) ∧ ns.length < 64 ∧ ns.Nodup ∧ Q (.int ns.length) H1
theorem pe_lst {X : Cx} [WdOk X.w] {a : Expr} {ta : TE} {p p2 q pos : Pos} (hc : X.calm = true) (hg : Gl X "len") (hm : X.mg "len" = none) (hg2 : Gl X "set") (hm2 : X.mg "set" = none) (ha : PE X a ta)
    (na : starEach [a] X.env = (false, eval a X.env) :: starEach [] X.env := by rfl) : PE X (.Call (.Name "len" p) [.Call (.Name "set" p2) [a] [] q] [] pos) (tLST X.K ta) := by
  refine ⟨fun pins s σ H Q I h => Call_ (ld_blt I hg hm PySem.boot_len ?_)⟩
  refine PyProof.Rows.callWith_builtin1 (PyProof.Rows.args_cons (Call_ (ld_blt I hg2 hm2 PyProof.Rows.boot_set ?_)) rfl) rfl rfl
  refine PyProof.Rows.callWith_type1 (PyProof.Rows.args_cons (thn (ha.run pins s σ H _ I h) fun v s1 ⟨x, H1, I1, r1, k1⟩ => PyProof.Rows.args_nil ?_) na) na rfl
  obtain ⟨t, ns, rfl, hq, b, nd, k1⟩ := k1
  cases r1
  obtain ⟨its, r, pt, hz⟩ := I1.tuple hq
  refine call_set_tupI ns (I1.ok.hd hc) (show s1.heap.IsTuple t its.toArray from pt) (by simpa using r.ints) (by unfold scanBound; omega) fun h' tk c R1 hcn hk => ?_
  obtain ⟨o, es, ep, z, ho, hex, hd, g, nk, hm3, hb, hf, hn, _, _⟩ := R1
  have ec : c = ns.length := by
    have := len_same nk nd fun x => by rw [← hm3 x]; simp
    rw [List.length_map, Array.length_toList, hn] at this
    exact this
  subst ec
  refine PyProof.Rows.args_nil ?_
  have I2 : Inv X pins σ H1 { s1 with heap := h', toks := tk } := I1.kept fun b o e => hk b o e
  exact call_len_set ho hex hd hf (by rw [hn]; omega) ⟨.int ns.length, H1, I2.tok _, ⟨_, by rw [hn]⟩, k1⟩
end T3

end
section
set_option linter.all false
set_option autoImplicit false
set_option Elab.async false
namespace T3
open PySem L2
variable [TabL]
end T3

end
section
set_option linter.all false
set_option autoImplicit false
set_option Elab.async false
namespace T3
open PySem PyProof.Rows
variable [TabL]
end T3
namespace T3
open PySem L2
variable [TabL]
end T3

end
section
set_option linter.all false
set_option autoImplicit false
set_option Elab.async false
namespace T3
open PySem L2
variable [TabL]
end T3

end
section
set_option linter.all false
set_option autoImplicit false
set_option Elab.async false
namespace T3
open PySem PyProof.Rows TS
variable [TabL]
end T3
namespace T3
open PySem L2
variable [TabL]
end T3

end
section
set_option linter.all false
set_option autoImplicit false
set_option Elab.async false
namespace T3
open PySem L2
variable [TabL]
end T3

end
section
set_option linter.all false
set_option autoImplicit false
set_option Elab.async false
namespace T3
open PySem PySem.Spec PySem.W L2 PyProof.Rows
variable [TabL]
end T3
namespace T3
open PySem L2
variable [TabL]
end T3

end
section
set_option linter.all false
set_option autoImplicit false
set_option Elab.async false
set_option maxRecDepth 100000
set_option maxHeartbeats 1000000
namespace ZM
open PySem RZ
open PySem.Sem (wp)
def Fin (prog : Program) (w : World) (it : Addr) (P : Heap → Prop) : Prop :=
  ∀ {A : Around} {E : Value → Shared → Prop} {Q : Value → Shared → Prop} {s : Shared}, A.handled = none → P s.heap → (∀ h' e, Heap.ExtBut it s.heap h' → (∃ o, h'.get? e = some o ∧ o.cls = .type "StopIteration") → E (.ref e) { s with heap := h' }) → wpAny (model prog w) A (Builtin.SmallTypes.nextOf (.ref it)) Q E s
section
variable {prog : Program} {w : World} {A : Around} {E : Value → Shared → Prop} {s : Shared}
end
end ZM

end
section
set_option linter.all false
set_option autoImplicit false
set_option Elab.async false
set_option maxRecDepth 100000
set_option maxHeartbeats 1000000
namespace ZM
open PySem PySem.Spec PyProof.Rows L2 RZ
end ZM
namespace T3
open PySem L2
variable [TabL]
end T3

end
section
set_option linter.all false
set_option autoImplicit false
set_option Elab.async false
namespace T3
open PySem L2
variable [TabL]
end T3

end
section
set_option linter.all false
set_option autoImplicit false
set_option Elab.async false
namespace T3
open PySem L2
variable [TabL]
def wS (f : SS) (env : Sl) (P : Fl → Sl → Prop) : Prop := match f env with
  | none => False
  | some p => P p.1 p.2
theorem wS_ex {f : SS} {env : Sl} {P : Fl → Sl → Prop} : wS f env P ↔ ∃ fl e, f env = some (fl, e) ∧ P fl e := by
  unfold wS
  constructor
  · intro h
    split at h
    · exact h.elim
    · rename_i p hp
      exact ⟨p.1, p.2, hp, h⟩
  · rintro ⟨fl, e, h1, h2⟩
    rw [h1]
    exact h2
def Go (g : SS) (P : Fl → Sl → Prop) (e : Sl) : Prop := wS g e P
def nxt (K : Sl → Prop) (P : Fl → Sl → Prop) : Fl → Sl → Prop
  | .nx, e => K e
  | .bk, e => P .bk e
  | .ct, e => P .ct e
  | .rt d, e => P (.rt d) e
def wF (F : FnD) (as : List S) (Q : R → List S → Prop) : Prop := ∃ r as', F as = some (r, as') ∧ Q r as'
def retP (as : List S) (Q : R → List S → Prop) : Fl → Sl → Prop
  | .rt d, e => ∃ d' as', outR e d = some d' ∧ finals as e = some as' ∧ Q d' as'
  | .nx, e => ∃ as', finals as e = some as' ∧ Q (.pd .none) as'
  | .bk, _ => False
  | .ct, _ => False
def lpP (I : Sl → Prop) (P : Fl → Sl → Prop) : Fl → Sl → Prop
  | .nx, e => I e
  | .ct, e => I e
  | .bk, e => P .nx e
  | .rt d, e => P (.rt d) e
section
variable {f g : SS} {env : Sl} {P P' : Fl → Sl → Prop} {K : Sl → Prop} {e : Sl}
theorem go : Go g P e ↔ wS g e P := Iff.rfl
@[simp] theorem nxt_nx : nxt K P .nx e = K e := rfl
@[simp] theorem nxt_rt {d : R} : nxt K P (.rt d) e = P (.rt d) e := rfl
@[simp] theorem lpP_nx : lpP K P .nx e = K e := rfl
@[simp] theorem lpP_ct : lpP K P .ct e = K e := rfl
@[simp] theorem lpP_bk : lpP K P .bk e = P .nx e := rfl
@[simp] theorem lpP_rt {d : R} : lpP K P (.rt d) e = P (.rt d) e := rfl
@[simp] theorem retP_rt {as : List S} {Q : R → List S → Prop} {d : R} : retP as Q (.rt d) e = ∃ d' as', outR e d = some d' ∧ finals as e = some as' ∧ Q d' as' := rfl
@[simp] theorem retP_nx {as : List S} {Q : R → List S → Prop} : retP as Q .nx e = ∃ as', finals as e = some as' ∧ Q (.pd .none) as' := rfl
theorem wS.imp (h : wS f env P) (i : ∀ fl e, P fl e → P' fl e) : wS f env P' := let ⟨fl, e, a, b⟩ := wS_ex.mp h; wS_ex.mpr ⟨fl, e, a, i fl e b⟩
theorem wS_of {fl : Fl} (h : f env = some (fl, e)) (q : P fl e) : wS f env P := wS_ex.mpr ⟨fl, e, h, q⟩
theorem wS_seq (h : wS f env (nxt (Go g P) P)) : wS (sSeq f g) env P := by
  rw [wS_ex] at h ⊢
  obtain ⟨fl, e, h1, h2⟩ := h
  cases fl with
  | nx =>
    obtain ⟨fl, e', h3, h4⟩ := wS_ex.mp h2
    exact ⟨fl, e', by simp [h1, h3], h4⟩
  | bk => exact ⟨_, _, by simp [h1], h2⟩
  | ct => exact ⟨_, _, by simp [h1], h2⟩
  | rt d => exact ⟨_, _, by simp [h1], h2⟩
def gW (g : GG) (x : PyData) (e : Sl) (K : Sl → Prop) : Prop := match g x e with
  | none => False
  | some e1 => K e1
theorem gW_ex {g : GG} {x : PyData} {e : Sl} {K : Sl → Prop} (h : gW g x e K) : ∃ e1, g x e = some e1 ∧ K e1 := by
  unfold gW at h
  split at h
  · exact h.elim
  · rename_i e1 h1
    exact ⟨e1, h1, h⟩
theorem wS_forL {g : GG} {body : SS} (I : List PyData → Sl → Prop) (hs : ∀ x rest e, I (x :: rest) e → gW g x e (Go body (lpP (I rest) P))) (he : ∀ e, I [] e → P .nx e) : ∀ xs e, I xs e → wS (forL g body xs) e P
  | [], e, h => wS_of (fl := .nx) rfl (he e h)
  | x :: xs, e, h => by
    obtain ⟨e1, h1, hw⟩ := gW_ex (hs x xs e h)
    obtain ⟨fl, e2, h2, h3⟩ := wS_ex.mp hw
    cases fl with
    | nx =>
      obtain ⟨fl, e3, h4, h5⟩ := wS_ex.mp (wS_forL I hs he xs e2 h3)
      exact wS_of (by simp only [forL, h1, h2, h4]) h5
    | ct =>
      obtain ⟨fl, e3, h4, h5⟩ := wS_ex.mp (wS_forL I hs he xs e2 h3)
      exact wS_of (by simp only [forL, h1, h2, h4]) h5
    | bk => exact wS_of (fl := .nx) (by simp only [forL, h1, h2]) h3
    | rt d => exact wS_of (fl := .rt d) (by simp only [forL, h1, h2]) h3
theorem wS_for {it : EI} {g : GG} {body : SS} {xs : List PyData} {lk : Lk} (hi : it env = some (xs, lk, e)) (I : List PyData → Sl → Prop) (h0 : I xs e)
    (hs : ∀ x rest e, I (x :: rest) e → gW g x e (Go body (lpP (I rest) fun fl e => P fl (unlock lk e)))) (he : ∀ e, I [] e → P .nx (unlock lk e)) : wS (sFor it g body) env P := by
  obtain ⟨fl, e', h1, h2⟩ := wS_ex.mp (wS_forL (P := fun fl e => P fl (unlock lk e)) I hs he xs e h0)
  exact wS_of (by simp only [z_for, hi, h1]) h2
def bW (c : EB) (e : Sl) (K L : Sl → Prop) : Prop := match c e with
  | none => False
  | some p => if p.1 = true then K p.2 else L p.2
theorem bW_ex {c : EB} {e : Sl} {K L : Sl → Prop} (h : bW c e K L) : ∃ b e1, c e = some (b, e1) ∧ if b = true then K e1 else L e1 := by
  unfold bW at h
  split at h
  · exact h.elim
  · rename_i p h1
    exact ⟨p.1, p.2, h1, h⟩
theorem wS_whileN {c : EB} {body : SS} (I : Nat → Sl → Prop) (hs : ∀ n e, I n e → bW c e (fun e1 => wS body e1 (lpP (fun e => ∃ m, m < n ∧ I m e) P)) (P .nx)) : ∀ n e, I n e → ∃ N fl e', whileN c body N e = some (fl, e') ∧ P fl e' := by
  intro n
  induction n using Nat.strongRecOn with
  | _ n ih =>
    intro e h
    obtain ⟨b, e1, h1, h2⟩ := bW_ex (hs n e h)
    cases b with
    | false => exact ⟨1, .nx, e1, by simp only [whileN, h1], h2⟩
    | true =>
      obtain ⟨fl, e2, h3, h4⟩ := wS_ex.mp h2
      cases fl with
      | nx =>
        obtain ⟨m, hm, hI⟩ := h4
        obtain ⟨N, fl, e3, h5, h6⟩ := ih m hm e2 hI
        exact ⟨N + 1, fl, e3, by simp only [whileN, h1, h3, h5], h6⟩
      | ct =>
        obtain ⟨m, hm, hI⟩ := h4
        obtain ⟨N, fl, e3, h5, h6⟩ := ih m hm e2 hI
        exact ⟨N + 1, fl, e3, by simp only [whileN, h1, h3, h5], h6⟩
      | bk => exact ⟨1, .nx, e2, by simp only [whileN, h1, h3], h4⟩
      | rt d => exact ⟨1, .rt d, e2, by simp only [whileN, h1, h3], h4⟩
theorem wS_while {c : EB} {body : SS} (I : Nat → Sl → Prop) (n : Nat) (h0 : I n env) (hs : ∀ n e, I n e → bW c e (fun e1 => wS body e1 (lpP (fun e => ∃ m, m < n ∧ I m e) P)) (P .nx)) : wS (sWhile c body) env P := by
  obtain ⟨N, fl, e', h1, h2⟩ := wS_whileN I hs n env h0
  exact wS_of (sWhile_of h1) h2
theorem wF_run {n : Nat} {b : SS} {as : List S} {Q : R → List S → Prop} (h : startE n as = e) (q : wS b e (retP as Q)) : wF (runFn n b) as Q := by
  obtain ⟨fl, e', h1, h2⟩ := wS_ex.mp q
  cases fl with
  | nx =>
    obtain ⟨as', h3, h4⟩ := h2
    exact ⟨_, _, by rw [run_of h, h1]; simp only [h3], h4⟩
  | rt d =>
    obtain ⟨d', as', h3, h4, h5⟩ := h2
    exact ⟨_, _, by rw [run_of h, h1]; simp only [h3, h4], h5⟩
  | bk => exact h2.elim
  | ct => exact h2.elim
end
end T3

end
section
set_option linter.all false
set_option autoImplicit false
set_option Elab.async false
namespace T3
open PySem L2
variable [TabL]
section
variable (env : Sl) (fa fb : EE) (f : EA) (x y : PyData) (j : Nat) (ds : List R) (neg : Bool)
@[simp] theorem z_pdOf1 : pdOf (.pd x) = some x := rfl
@[simp] theorem z_pdOf2 (xs : List PyData) : pdOf (.nt xs) = some (.tuple xs) := rfl
@[simp] theorem z_dGet : dGet env j y = (match env[j]? with
  | some (some (.mu _ c)) => cGet c y
  | _ => none) := rfl
end
end T3

end
section
set_option linter.all false
set_option autoImplicit false
set_option Elab.async false
namespace MM
open PySem L2 T3
abbrev Cell := Int × Int
abbrev Ly := Int × Int × Int
inductive Dir where | n | e | s | w
  deriving DecidableEq
def Dir.code : Dir → Nat
  | .n => 110
  | .e => 101
  | .s => 115
  | .w => 119
def chS (d : Dir) : Str := ⟨#[d.code]⟩
def rowS (ds : List Dir) : Str := ⟨(ds.map Dir.code).toArray⟩
def lyD (l : Ly) : PyData := .tuple [.int l.1, .int l.2.1, .int l.2.2]
def stD (c : Cell) (l : Ly) : PyData := .tuple [clD c, lyD l]
def stepC (c : Cell) : Dir → Cell
  | .n => (c.1, c.2 + 1)
  | .e => (c.1 + 1, c.2)
  | .s => (c.1, c.2 - 1)
  | .w => (c.1 - 1, c.2)
def roll (l : Ly) : Dir → Ly
  | .n => (l.2.1, 5 - l.1, l.2.2)
  | .s => (5 - l.2.1, l.1, l.2.2)
  | .e => (l.2.2, l.2.1, 5 - l.1)
  | .w => (5 - l.2.2, l.2.1, l.1)
def lyings : List Ly := [(0, 1, 2), (0, 2, 4), (0, 3, 1), (0, 4, 3), (1, 0, 3), (1, 2, 0), (1, 3, 5), (1, 5, 2), (2, 0, 1), (2, 1, 5), (2, 4, 0), (2, 5, 4), (3, 0, 4), (3, 1, 0), (3, 4, 5), (3, 5, 1), (4, 0, 2), (4, 2, 5), (4, 3, 0), (4, 5, 3), (5, 1, 3), (5, 2, 1), (5, 3, 4), (5, 4, 2)]
theorem roll_mem : ∀ l ∈ lyings, ∀ d, roll l d ∈ lyings := by
  intro l hl d
  cases d <;> revert l <;> decide
theorem ly_bound : ∀ l ∈ lyings, 0 ≤ l.1 ∧ l.1 ≤ 5 := by decide
theorem signs_row (ds : List Dir) : signs (rowS ds) = ds.map fun d => .str (chS d) := by
  simp [signs, rowS, chS]
theorem chS_n : chS .n = "n" := by decide
theorem chS_e : chS .e = "e" := by decide
theorem chS_s : chS .s = "s" := by decide
theorem chS_w : chS .w = "w" := by decide
theorem chS_inj {a b : Dir} (h : chS a = chS b) : a = b := by
  cases a <;> cases b <;> first | rfl | (exfalso; revert h; decide)
theorem eqv_int (i j : Int) : PyData.eqv (.int i) (.int j) = decide (i = j) := by
  simp only [PyData.eqv]; by_cases h : i = j <;> simp [h]
theorem eqv_cell (c d : Cell) : PyData.eqv (clD c) (clD d) = decide (c = d) := by
  simp only [clD, PyData.eqv, PyData.eqvAll]
  by_cases h1 : c.1 = d.1 <;> by_cases h2 : c.2 = d.2 <;> simp [h1, h2, Prod.ext_iff]
theorem eqv_ly (c d : Ly) : PyData.eqv (lyD c) (lyD d) = decide (c = d) := by
  simp only [lyD, PyData.eqv, PyData.eqvAll]
  by_cases h1 : c.1 = d.1 <;> by_cases h2 : c.2.1 = d.2.1 <;> by_cases h3 : c.2.2 = d.2.2 <;> simp [h1, h2, h3, Prod.ext_iff]
theorem eqv_ch (a b : Dir) : PyData.eqv (.str (chS a)) (.str (chS b)) = decide (a = b) := by
  simp only [PyData.eqv]
  by_cases h : a = b
  · simp [h]
  · simp [h]
    intro z
    exact h (chS_inj z)
theorem sh_int (i : Int) : SeqAt.shaped (.int i) = true := by simp [SeqAt.shaped, PyData.canLay0, PyData.depth]
theorem sh_ch (d : Dir) : SeqAt.shaped (.str (chS d)) = true := by cases d <;> simp [SeqAt.shaped, PyData.canLay0, PyData.depth, PyData.strOk, chS, Dir.code]
theorem sh_cell (c : Cell) : SeqAt.shaped (clD c) = true := by simp [clD, SeqAt.shaped, PyData.canLay0, PyData.canLayAll0, PyData.depth, PyData.depthAll]
theorem sh_ly (c : Ly) : SeqAt.shaped (lyD c) = true := by simp [lyD, SeqAt.shaped, PyData.canLay0, PyData.canLayAll0, PyData.depth, PyData.depthAll]
theorem lay_map {α : Type} (f : α → PyData) (h : ∀ a, (f a).canLay0 = true) : ∀ l : List α, PyData.canLayAll0 (l.map f) = true
  | [] => by simp [PyData.canLayAll0]
  | a :: l => by simp [PyData.canLayAll0, h a, lay_map f h l]
theorem depth_map {α : Type} (f : α → PyData) (k : Nat) (h : ∀ a, (f a).depth ≤ k) : ∀ l : List α, PyData.depthAll (l.map f) ≤ k
  | [] => by simp [PyData.depthAll]
  | a :: l => by
    have h1 := h a
    have h2 := depth_map f k h l
    simp only [List.map_cons, PyData.depthAll]
    omega
theorem sh_tup {α : Type} (f : α → PyData) (h1 : ∀ a, (f a).canLay0 = true) (h2 : ∀ a, (f a).depth ≤ 60) (l : List α) : SeqAt.shaped (.tuple (l.map f)) = true := by
  have a := lay_map f h1 l
  have b := depth_map f 60 h2 l
  simp only [SeqAt.shaped, PyData.canLay0, PyData.depth, a, Bool.true_and, decide_eq_true_eq]
  exact decide_eq_true (by omega)
theorem sh_lst {α : Type} (f : α → PyData) (h1 : ∀ a, (f a).canLay0 = true) (h2 : ∀ a, (f a).depth ≤ 60) (l : List α) : SeqAt.shaped (.list (l.map f)) = true := by
  have a := lay_map f h1 l
  have b := depth_map f 60 h2 l
  simp only [SeqAt.shaped, PyData.canLay0, PyData.depth, a, Bool.true_and, decide_eq_true_eq]
  exact decide_eq_true (by omega)
theorem sh_cells (l : List Cell) : SeqAt.shaped (.tuple (l.map clD)) = true := sh_tup clD (fun c => by simp [clD, PyData.canLay0, PyData.canLayAll0]) (fun c => by simp [clD, PyData.depth, PyData.depthAll]) l
theorem sh_intsL (l : List Int) : SeqAt.shaped (.list (l.map .int)) = true := sh_lst .int (fun c => by simp [PyData.canLay0]) (fun c => by simp [PyData.depth]) l
theorem any_cell (c : Cell) (l : List Cell) : ((l.map clD).any fun z => PyData.eqv z (clD c)) = decide (c ∈ l) := by
  induction l with
  | nil => simp
  | cons a l ih =>
    rw [List.map_cons, List.any_cons, ih, eqv_cell]
    by_cases h : a = c
    · simp [h]
    · have h' : ¬ c = a := fun z => h z.symm
      simp [h, h']
theorem lcL_pure {g : GG} {t : EB} {f : EE} {vs : List Nat} {env : Sl} {α : Type} {p : α → Bool} {y : α → PyData} {q : α → PyData} : ∀ (as : List α) (acc : List PyData),
    (∀ a ∈ as, ∃ e1 e2, g (q a) (wipeE env vs) = some e1 ∧ t e1 = some (p a, e2) ∧ (p a = true → ∃ d e3, f e2 = some (d, e3) ∧ data1 d = some (y a) ∧ unwipe env e3 vs = env) ∧ (p a = false → unwipe env e2 vs = env)) →
    lcL g t f vs (as.map q) env acc = some (acc ++ (as.filter p).map y, env)
  | [], acc, _ => by simp [lcL]
  | a :: as, acc, h => by
    obtain ⟨e1, e2, h1, h2, h3, h4⟩ := h a (by simp)
    have ih := fun acc => lcL_pure (g := g) (t := t) (f := f) (vs := vs) (env := env) (p := p) (y := y) (q := q) as acc (fun b hb => h b (by simp [hb]))
    rw [List.map_cons]
    unfold lcL
    rw [h1]
    simp only [h2]
    cases hp : p a with
    | true =>
      obtain ⟨d, e3, k1, k2, k3⟩ := h3 hp
      simp only [k1, k2, k3, if_true, ih, List.filter_cons, hp, List.map_cons, List.append_assoc, List.cons_append, List.nil_append]
    | false =>
      simp only [h4 hp, ih, List.filter_cons, hp]
      simp
theorem lcL_all {g : GG} {f : EE} {vs : List Nat} {env : Sl} {α : Type} {y : α → PyData} {q : α → PyData} (as : List α) 
    (h : ∀ a ∈ as, ∃ e1 d e3, g (q a) (wipeE env vs) = some e1 ∧ f e1 = some (d, e3) ∧ data1 d = some (y a) ∧ unwipe env e3 vs = env) :
    lcL g bYes f vs (as.map q) env [] = some (as.map y, env) := by
  have := lcL_pure (g := g) (t := bYes) (f := f) (vs := vs) (env := env) (p := fun _ => true) (y := y) (q := q) as [] (fun a ha => by
    obtain ⟨e1, d, e3, h1, h2, h3, h4⟩ := h a ha
    exact ⟨e1, e1, h1, rfl, fun _ => ⟨d, e3, h2, h3, h4⟩, fun z => by simp at z⟩)
  rw [this, List.filter_eq_self.mpr (fun _ _ => rfl)]
  rfl
theorem bools_of {α : Type} (f : α → Bool) : ∀ l : List α, bools? (l.map fun a => .bool (f a)) = some (l.map f)
  | [] => rfl
  | a :: l => by simp [bools?, bools_of f l]
end MM

end
section
set_option linter.all false
set_option autoImplicit false
set_option Elab.async false
namespace MM
open PySem L2 T3
structure RD (p k : Nat) (d : PyData) : Prop where
  lay : d.canLay0 = true
  dep : d.depth ≤ p
  shw : d.showable = true
  lvs : d.leavesShort 13 = true
  wt : d.weight ≤ k
theorem RD.int {i : Int} (h1 : -999999999999 ≤ i) (h2 : i ≤ 999999999999) : RD 0 40 (.int i) := by
  have hl : i.natAbs.log2 ≤ 39 := by
    by_cases h0 : i.natAbs = 0
    · rw [h0]; decide
    · have : i.natAbs.log2 < 40 := (Nat.log2_lt h0).mpr (by omega)
      omega
  refine ⟨by simp [PyData.canLay0], by simp [PyData.depth], ?_, ?_, ?_⟩
  · simp only [PyData.showable, decide_eq_true_eq]; omega
  · simp only [PyData.leavesShort, decide_eq_true_eq]; exact PyData.shown_int_le2 h1 h2
  · simp only [PyData.weight]; split <;> omega
theorem RD.none : RD 0 40 .none := ⟨by simp [PyData.canLay0], by simp [PyData.depth], by simp [PyData.showable], by simp [PyData.leavesShort], by simp [PyData.weight]⟩
theorem RD.bool (b : Bool) : RD 0 40 (.bool b) := ⟨by simp [PyData.canLay0], by simp [PyData.depth], by simp [PyData.showable], by simp [PyData.leavesShort], by simp [PyData.weight]⟩
theorem RD.ok {p k : Nat} {d : PyData} (h : RD p k d) (h1 : p ≤ 60) (h2 : k ≤ 60000) : ShOk d := by
  have := h.dep
  have hw := h.wt
  refine ⟨?_, h.shw, ?_⟩
  · unfold SeqAt.shaped
    rw [h.lay, Bool.true_and]
    exact decide_eq_true (by omega)
  · have := PyData.shown_le 13 (by omega) d h.lvs
    omega
end MM

end
section
set_option linter.all false
set_option autoImplicit false
set_option Elab.async false
namespace MM
open PySem L2 T3
def swp {α : Type} (xs : List α) (p : Int × Int) : List α := match xs[p.1.toNat]?, xs[p.2.toNat]? with
  | some x, some y => (xs.set p.1.toNat y).set p.2.toNat x
  | _, _ => xs
def held {α : Type} (xs : List α) (ps : List (Int × Int)) : List α := ps.foldl swp xs
theorem swp_len {α : Type} (xs : List α) (p : Int × Int) : (swp xs p).length = xs.length := by
  unfold swp
  split <;> simp
theorem held_len {α : Type} (ps : List (Int × Int)) : ∀ xs : List α, (held xs ps).length = xs.length := by
  induction ps with
  | nil => intro xs; rfl
  | cons p ps ih => intro xs; show (held (swp xs p) ps).length = _; rw [ih, swp_len]
theorem swp_map {α β : Type} (f : α → β) (xs : List α) (p : Int × Int) : swp (xs.map f) p = (swp xs p).map f := by
  unfold swp
  simp only [List.getElem?_map]
  cases xs[p.1.toNat]? with
  | none => simp
  | some x =>
    cases xs[p.2.toNat]? with
    | none => simp
    | some y => simp [List.map_set]
theorem held_map {α β : Type} (f : α → β) (ps : List (Int × Int)) : ∀ xs : List α, held (xs.map f) ps = (held xs ps).map f := by
  induction ps with
  | nil => intro xs; rfl
  | cons p ps ih =>
    intro xs
    show held (swp (xs.map f) p) ps = (held (swp xs p) ps).map f
    rw [swp_map, ih]
theorem held_at {α : Type} (xs : List α) (d : α) (ps : List (Int × Int)) : held xs ps = (held (List.range xs.length) ps).map fun i => xs.getD i d := by
  rw [← held_map]
  congr 1
  apply List.ext_getElem?
  intro i
  by_cases h : i < xs.length
  · simp [h]
  · simp [h]
theorem set_set_perm {α : Type} (xs : List α) (a b : Nat) (x y : α) (ha : xs[a]? = some x) (hb : xs[b]? = some y) : ((xs.set a y).set b x).Perm xs := by
  obtain ⟨la, rfl⟩ := List.getElem?_eq_some_iff.mp ha
  obtain ⟨lb, rfl⟩ := List.getElem?_eq_some_iff.mp hb
  have h := Array.swap_perm (xs := xs.toArray) (i := a) (j := b) (by simpa using la) (by simpa using lb)
  have h2 := h.toList
  simpa [Array.swap] using h2
theorem swp_perm {α : Type} (xs : List α) (p : Int × Int) : (swp xs p).Perm xs := by
  unfold swp
  split
  · rename_i x y h1 h2; exact set_set_perm xs _ _ x y h1 h2
  · exact .refl _
theorem held_perm {α : Type} (ps : List (Int × Int)) : ∀ xs : List α, (held xs ps).Perm xs := by
  induction ps with
  | nil => intro xs; exact .refl _
  | cons p ps ih => intro xs; exact (ih (swp xs p)).trans (swp_perm xs p)
def org (n : Nat) (ps : List (Int × Int)) : List Nat := held (List.range n) ps
def mv (n : Nat) (ps : List (Int × Int)) (j : Nat) : Nat := (org n ps).idxOf j
theorem org_len (n : Nat) (ps : List (Int × Int)) : (org n ps).length = n := by unfold org; rw [held_len, List.length_range]
theorem org_perm (n : Nat) (ps : List (Int × Int)) : (org n ps).Perm (List.range n) := held_perm ps _
theorem org_nodup (n : Nat) (ps : List (Int × Int)) : (org n ps).Nodup := (org_perm n ps).nodup_iff.mpr List.nodup_range
theorem org_mem {n : Nat} {ps : List (Int × Int)} {j : Nat} : j ∈ org n ps ↔ j < n := by rw [(org_perm n ps).mem_iff, List.mem_range]
theorem mv_lt {n : Nat} {ps : List (Int × Int)} {j : Nat} (h : j < n) : mv n ps j < n := by
  have := List.idxOf_lt_length_iff.mpr (org_mem (ps := ps).mpr h)
  rw [org_len] at this
  exact this
theorem org_mv {n : Nat} {ps : List (Int × Int)} {j : Nat} (h : j < n) : (org n ps)[mv n ps j]? = some j := by
  have hl : mv n ps j < (org n ps).length := by rw [org_len]; exact mv_lt h
  rw [List.getElem?_eq_getElem hl]
  exact congrArg some (List.getElem_idxOf hl)
theorem mv_inj {n : Nat} {ps : List (Int × Int)} {i j : Nat} (hi : i < n) (hj : j < n) (h : mv n ps i = mv n ps j) : i = j := by
  have h1 := org_mv (ps := ps) hi
  rw [h, org_mv hj] at h1
  exact (Option.some.inj h1).symm
theorem mv_org {n : Nat} {ps : List (Int × Int)} {i j : Nat} (h : (org n ps)[i]? = some j) : mv n ps j = i := by
  obtain ⟨hl, e⟩ := List.getElem?_eq_some_iff.mp h
  have := (org_nodup n ps).idxOf_getElem i hl
  rw [e] at this
  exact this
def itr (m : Nat → Nat) : Nat → Nat → Nat
  | 0, x => x
  | k + 1, x => itr m k (m x)
theorem itr_succ (m : Nat → Nat) : ∀ k x, itr m (k + 1) x = m (itr m k x)
  | 0, x => rfl
  | k + 1, x => by
    show itr m (k + 1) (m x) = m (itr m (k + 1) x)
    rw [itr_succ m k (m x)]
    rfl
theorem itr_add (m : Nat → Nat) : ∀ a b x, itr m (a + b) x = itr m a (itr m b x)
  | a, 0, x => rfl
  | a, b + 1, x => by
    show itr m (a + b) (m x) = itr m a (itr m b (m x))
    exact itr_add m a b (m x)
theorem itr_lt {n : Nat} {m : Nat → Nat} (hm : ∀ j, j < n → m j < n) : ∀ k x, x < n → itr m k x < n
  | 0, x, h => h
  | k + 1, x, h => itr_lt hm k (m x) (hm x h)
theorem itr_inj {n : Nat} {m : Nat → Nat} (hm : ∀ j, j < n → m j < n) (hi : ∀ i j, i < n → j < n → m i = m j → i = j) : ∀ k x y, x < n → y < n → itr m k x = itr m k y → x = y
  | 0, _, _, _, _, h => h
  | k + 1, x, y, hx, hy, h => hi x y hx hy (itr_inj hm hi k (m x) (m y) (hm x hx) (hm y hy) h)
theorem home {n : Nat} {m : Nat → Nat} (hm : ∀ j, j < n → m j < n) (hi : ∀ i j, i < n → j < n → m i = m j → i = j) (x : Nat) (hx : x < n) : ∃ k, 1 ≤ k ∧ k ≤ n ∧ itr m k x = x := by
  apply Classical.byContradiction
  intro hno
  have hno' : ∀ k, 1 ≤ k → k ≤ n → itr m k x ≠ x := fun k h1 h2 h3 => hno ⟨k, h1, h2, h3⟩
  have nd : ((List.range (n + 1)).map fun k => itr m k x).Nodup := by
    rw [List.Nodup, List.pairwise_map]
    have := List.pairwise_lt_range (n := n + 1)
    refine List.Pairwise.imp_of_mem ?_ this
    intro a b ha hb hab he
    have hb' : b ≤ n := by have := List.mem_range.mp hb; omega
    have e1 : itr m a (itr m (b - a) x) = itr m b x := by rw [← itr_add]; congr 1; omega
    have e2 := itr_inj hm hi a x (itr m (b - a) x) hx (itr_lt hm _ x hx) (by rw [e1]; exact he)
    exact hno' (b - a) (by omega) (by omega) e2.symm
  have sub : ((List.range (n + 1)).map fun k => itr m k x) ⊆ List.range n := by
    intro y hy
    obtain ⟨k, _, rfl⟩ := List.mem_map.mp hy
    exact List.mem_range.mpr (itr_lt hm k x hx)
  have := nd.length_le_of_subset sub
  simp at this
  omega
theorem period {n : Nat} {m : Nat → Nat} (hm : ∀ j, j < n → m j < n) (hi : ∀ i j, i < n → j < n → m i = m j → i = j) (x : Nat) (hx : x < n) : ∃ k, 1 ≤ k ∧ k ≤ n ∧ itr m k x = x ∧ ∀ j, 1 ≤ j → j < k → itr m j x ≠ x := by
  obtain ⟨k, h1, h2, h3⟩ := home hm hi x hx
  have : ∀ k, 1 ≤ k → itr m k x = x → ∃ k', 1 ≤ k' ∧ k' ≤ k ∧ itr m k' x = x ∧ ∀ j, 1 ≤ j → j < k' → itr m j x ≠ x := by
    intro k
    induction k using Nat.strongRecOn with
    | ind k ih =>
      intro h1 h3
      by_cases h : ∃ j, 1 ≤ j ∧ j < k ∧ itr m j x = x
      · obtain ⟨j, a, b, c⟩ := h
        obtain ⟨k', p1, p2, p3, p4⟩ := ih j b a c
        exact ⟨k', p1, by omega, p3, p4⟩
      · exact ⟨k, h1, Nat.le_refl _, h3, fun j a b c => h ⟨j, a, b, c⟩⟩
  obtain ⟨k', p1, p2, p3, p4⟩ := this k h1 h3
  exact ⟨k', p1, by omega, p3, p4⟩
end MM

end
section
set_option linter.all false
set_option autoImplicit false
set_option Elab.async false
namespace MM
open PySem L2 T3
def orb (m : Nat → Nat) (k x : Nat) : List Nat := (List.range k).map fun t => itr m t x
def PerP (n : Nat) (m : Nat → Nat) (x k : Nat) : Prop := 1 ≤ k ∧ k ≤ n ∧ itr m k x = x ∧ ∀ j, 1 ≤ j → j < k → itr m j x ≠ x
noncomputable def per (n : Nat) (m : Nat → Nat) (x : Nat) : Nat := Classical.epsilon (PerP n m x)
theorem per_spec {n : Nat} {m : Nat → Nat} (hm : ∀ j, j < n → m j < n) (hi : ∀ i j, i < n → j < n → m i = m j → i = j) {x : Nat} (hx : x < n) : PerP n m x (per n m x) := Classical.epsilon_spec (period hm hi x hx)
theorem orb_succ (m : Nat → Nat) (k x : Nat) : orb m (k + 1) x = orb m k x ++ [itr m k x] := by
  simp [orb, List.range_succ]
theorem orb_mem {m : Nat → Nat} {k x y : Nat} : y ∈ orb m k x ↔ ∃ t, t < k ∧ itr m t x = y := by
  simp [orb]
theorem orb_len (m : Nat → Nat) (k x : Nat) : (orb m k x).length = k := by simp [orb]
theorem orb_all {n : Nat} {m : Nat → Nat} {x k : Nat} (h : PerP n m x k) : ∀ t, itr m t x ∈ orb m k x := by
  have : ∀ t, ∃ s, s < k ∧ itr m s x = itr m t x := by
    intro t
    induction t with
    | zero => exact ⟨0, h.1, rfl⟩
    | succ t ih =>
      obtain ⟨s, h1, h2⟩ := ih
      by_cases e : s + 1 = k
      · exact ⟨0, h.1, by rw [itr_succ, ← h2, ← itr_succ m s x, e, h.2.2.1]; rfl⟩
      · exact ⟨s + 1, by omega, by rw [itr_succ, itr_succ, h2]⟩
  intro t
  exact orb_mem.mpr (this t)
def least (x : Nat) (ys : List Nat) : Nat := ys.foldl min x
theorem least_le : ∀ (ys : List Nat) (x y : Nat), y ∈ x :: ys → least x ys ≤ y
  | [], x, y, h => by simp at h; subst h; exact Nat.le_refl _
  | z :: ys, x, y, h => by
    show least (min x z) ys ≤ y
    rcases List.mem_cons.mp h with rfl | h
    · exact Nat.le_trans (least_le ys (min y z) (min y z) (by simp)) (Nat.min_le_left _ _)
    · rcases List.mem_cons.mp h with rfl | h
      · exact Nat.le_trans (least_le ys (min x y) (min x y) (by simp)) (Nat.min_le_right _ _)
      · exact least_le ys _ y (by simp [h])
theorem least_mem : ∀ (ys : List Nat) (x : Nat), least x ys ∈ x :: ys
  | [], x => by simp [least]
  | z :: ys, x => by
    have h := least_mem ys (min x z)
    rcases List.mem_cons.mp h with h | h
    · have e : least x (z :: ys) = min x z := h
      rw [e]
      by_cases c : x ≤ z
      · simp [Nat.min_eq_left c]
      · simp [Nat.min_eq_right (by omega : z ≤ x)]
    · exact List.mem_cons_of_mem _ (List.mem_cons_of_mem _ h)
theorem in_round {n : Nat} {m : Nat → Nat} (hm : ∀ j, j < n → m j < n) (hi : ∀ i j, i < n → j < n → m i = m j → i = j) {j : Nat} (hj : j < n) (hne : m j ≠ j) : ∃ x, x < n ∧ 1 < per n m x ∧ (∀ y ∈ orb m (per n m x) x, x ≤ y) ∧ j ∈ orb m (per n m x) x := by
  have pj := per_spec hm hi hj
  have hx := least_mem (orb m (per n m j) j) j
  have jm : j ∈ orb m (per n m j) j := orb_all pj 0
  have hx' : least j (orb m (per n m j) j) ∈ orb m (per n m j) j := by
    rcases List.mem_cons.mp hx with h | h
    · rw [h]; exact jm
    · exact h
  obtain ⟨t, ht, et⟩ := orb_mem.mp hx'
  generalize hX : least j (orb m (per n m j) j) = x at *
  have xl : x < n := by rw [← et]; exact itr_lt hm t j hj
  have px := per_spec hm hi xl
  have back : itr m (per n m j - t) x = j := by
    rw [← et, ← itr_add, show per n m j - t + t = per n m j by omega]
    exact pj.2.2.1
  refine ⟨x, xl, ?_, ?_, ?_⟩
  · have h1 := px.1
    apply Classical.byContradiction
    intro hno
    have e1 : per n m x = 1 := by omega
    have fx : m x = x := by have := px.2.2.1; rw [e1] at this; exact this
    have all : ∀ s, itr m s x = x := by
      intro s
      induction s with
      | zero => rfl
      | succ s ih => rw [itr_succ, ih, fx]
    rw [all] at back
    subst back
    exact hne fx
  · intro y hy
    obtain ⟨s, hs, es⟩ := orb_mem.mp hy
    rw [← hX]
    apply least_le
    apply List.mem_cons_of_mem
    have : itr m (s + t) j = y := by rw [itr_add, et, es]
    rw [← this]
    exact orb_all pj _
  · rw [← back]
    exact orb_all px _
end MM

end
section
set_option linter.all false
set_option autoImplicit false
set_option Elab.async false
namespace MM
open PySem L2 T3
theorem sort_perm {xs ys : List Int} (h : xs.Perm ys) : xs.mergeSort (fun a b => decide (a ≤ b)) = ys.mergeSort (fun a b => decide (a ≤ b)) := by
  have tr : ∀ a b c : Int, decide (a ≤ b) = true → decide (b ≤ c) = true → decide (a ≤ c) = true := by
    intro a b c h1 h2; simp at *; omega
  have to : ∀ a b : Int, (decide (a ≤ b) || decide (b ≤ a)) = true := by
    intro a b; simp; omega
  refine List.Perm.eq_of_pairwise (le := fun a b => decide (a ≤ b) = true) ?_ (List.pairwise_mergeSort tr to xs) (List.pairwise_mergeSort tr to ys) ?_
  · intro a b _ _ h1 h2; simp at h1 h2; omega
  · exact (List.mergeSort_perm xs _).trans (h.trans (List.mergeSort_perm ys _).symm)
theorem held_get {α : Type} (ms : List α) (T : List (Int × Int)) {n j : Nat} (hn : ms.length = n) (hj : j < n) : (held ms T)[mv n T j]? = ms[j]? := by
  have hd : ms.length ≠ 0 := by omega
  obtain ⟨d, hd⟩ : ∃ d, ms[j]? = some d := ⟨ms[j], List.getElem?_eq_getElem (by omega)⟩
  rw [held_at ms d T, hn]
  have := org_mv (ps := T) hj
  unfold org at this
  rw [List.getElem?_map, this, hd]
  simp [hd]
end MM

end
section
set_option linter.all false
set_option autoImplicit false
set_option Elab.async false
namespace MM
open PySem L2 T3
theorem mv_sur {n : Nat} (T : List (Int × Int)) {i : Nat} (h : i < n) : ∃ j, j < n ∧ mv n T j = i := by
  have hl : i < (org n T).length := by rw [org_len]; exact h
  refine ⟨(org n T)[i], ?_, mv_org (List.getElem?_eq_getElem hl)⟩
  exact org_mem.mp (List.getElem_mem hl)
theorem filter_one : ∀ (n k : Nat) (p : Nat → Bool), k < n → (∀ i, i < n → p i = decide (i = k)) → (List.range n).filter p = [k]
  | 0, k, p, h, _ => by omega
  | n + 1, k, p, h, hp => by
    rw [List.range_succ, List.filter_append]
    by_cases e : n = k
    · subst e
      have h0 : (List.range n).filter p = [] := by
        rw [List.filter_eq_nil_iff]
        intro a ha
        have := List.mem_range.mp ha
        rw [hp a (by omega)]
        simp; omega
      rw [h0]
      simp [hp n (by omega)]
    · rw [filter_one n k p (by omega) (fun i hi => hp i (by omega))]
      have := hp n (by omega)
      simp [this, e]
theorem held_one (ms : List Int) (T : List (Int × Int)) {n a : Nat} (v : Int) (hn : ms.length = n) (ha : a < n) (hv : v ≠ ms.getD a 0) : (List.range n).filter (fun i => !decide ((held ms T).getD i 0 = (held (ms.set a v) T).getD i 0)) = [mv n T a] := by
  apply filter_one n _ _ (mv_lt ha)
  intro i hi
  obtain ⟨j, hj, rfl⟩ := mv_sur T hi
  rw [List.getD_eq_getElem?_getD, List.getD_eq_getElem?_getD, held_get ms T hn hj, held_get (ms.set a v) T (by simp [hn]) hj, List.getElem?_set]
  by_cases h : a = j
  · subst h
    have hl : a < ms.length := by omega
    rw [List.getD_eq_getElem?_getD] at hv
    simp [hl] at hv ⊢
    omega
  · have h' : ¬ mv n T j = mv n T a := fun e => h (mv_inj ha hj e.symm)
    simp [h, h']
end MM

end
section
set_option linter.all false
set_option autoImplicit false
set_option Elab.async false
set_option maxRecDepth 10000
namespace MM
open PySem L2 T3
def lcOk (g : GG) (f : EE) (vs : List Nat) (e : Sl) (x y : PyData) : Prop := match g x (wipeE e vs) with
  | none => False
  | some e1 => match f e1 with
    | none => False
    | some p => data1 p.1 = some y ∧ unwipe e p.2 vs = e
theorem lcOk_ex {g : GG} {f : EE} {vs : List Nat} {e : Sl} {x y : PyData} (h : lcOk g f vs e x y) : ∃ e1, g x (wipeE e vs) = some e1 ∧ ∃ p, f e1 = some p ∧ data1 p.1 = some y ∧ unwipe e p.2 vs = e := by
  unfold lcOk at h
  split at h
  · exact h.elim
  · rename_i e1 h1
    split at h
    · exact h.elim
    · rename_i p h2
      exact ⟨e1, h1, p, h2, h⟩
theorem lc_all {it : EI} {g : GG} {f : EE} {vs : List Nat} {env e : Sl} {lk : Lk} {α : Type} {q y : α → PyData} (as : List α) (hi : it env = some (as.map q, lk, e)) (hl : as.length ≤ 1000000) (h : ∀ a ∈ as, lcOk g f vs e (q a) (y a)) :
    eLc it g bYes f vs env = some (.tmp (.ls (as.map y)), unlock lk e) := by
  have := lcL_all (g := g) (f := f) (vs := vs) (env := e) (y := y) (q := q) as fun a ha => by
    obtain ⟨e1, h1, p, h2, h3, h4⟩ := lcOk_ex (h a ha)
    exact ⟨e1, p.1, p.2, h1, h2, h3, h4⟩
  rw [z_lc, hi]
  simp only [List.length_map, hl, if_true, this]
def lcIf (g : GG) (t : EB) (f : EE) (vs : List Nat) (e : Sl) (x : PyData) (b : Bool) (y : PyData) : Prop := match g x (wipeE e vs) with
  | none => False
  | some e1 => match t e1 with
    | none => False
    | some r => r.1 = b ∧ if b = true then match f r.2 with
        | none => False
        | some p => data1 p.1 = some y ∧ unwipe e p.2 vs = e
      else unwipe e r.2 vs = e
theorem lcIf_ex {g : GG} {t : EB} {f : EE} {vs : List Nat} {e : Sl} {x y : PyData} {b : Bool} (h : lcIf g t f vs e x b y) : ∃ e1, g x (wipeE e vs) = some e1 ∧ ∃ r, t e1 = some r ∧ r.1 = b ∧ if b = true then ∃ q, f r.2 = some q ∧ data1 q.1 = some y ∧ unwipe e q.2 vs = e else unwipe e r.2 vs = e := by
  unfold lcIf at h
  split at h
  · exact h.elim
  · rename_i e1 h1
    split at h
    · exact h.elim
    · rename_i r h2
      refine ⟨e1, h1, r, h2, h.1, ?_⟩
      have h3 := h.2
      split at h3
      · rename_i hb
        rw [if_pos hb]
        split at h3
        · exact h3.elim
        · rename_i p hp
          exact ⟨p, hp, h3⟩
      · rename_i hb
        rw [if_neg hb]
        exact h3
theorem lc_if {it : EI} {g : GG} {t : EB} {f : EE} {vs : List Nat} {env e : Sl} {lk : Lk} {α : Type} {q y : α → PyData} {p : α → Bool} (as : List α) (hi : it env = some (as.map q, lk, e)) (hl : as.length ≤ 1000000) (h : ∀ a ∈ as, lcIf g t f vs e (q a) (p a) (y a)) :
    eLc it g t f vs env = some (.tmp (.ls ((as.filter p).map y)), unlock lk e) := by
  have := lcL_pure (g := g) (t := t) (f := f) (vs := vs) (env := e) (p := p) (y := y) (q := q) as [] fun a ha => by
    obtain ⟨e1, h1, ⟨b, e2⟩, h2, rfl, h3⟩ := lcIf_ex (h a ha)
    refine ⟨e1, e2, h1, h2, fun z => ?_, fun z => ?_⟩
    · rw [if_pos z] at h3
      obtain ⟨q, h4, h5, h6⟩ := h3
      exact ⟨q.1, q.2, h4, h5, h6⟩
    · rw [if_neg (by rw [z]; decide)] at h3; exact h3
  rw [z_lc, hi]
  simp only [List.length_map, hl, if_true, this, List.nil_append]
end MM

end
section
set_option linter.all false
set_option autoImplicit false
set_option Elab.async false
namespace T3
open PySem L2
variable [TabL]
def frS : Option S → Bool
  | some (.mu .own _) => true
  | some (.pd _) => true
  | some (.nt _) => true
  | none => true
  | _ => false
@[simp] theorem frS_n : frS none = true := rfl
@[simp] theorem frS_p (x : PyData) : frS (some (.pd x)) = true := rfl
@[simp] theorem frS_t (x : List PyData) : frS (some (.nt x)) = true := rfl
@[simp] theorem frS_o (c : Ct) : frS (some (.mu .own c)) = true := rfl
theorem free_frS {e : Sl} {i : Nat} {s : Option S} (h : e[i]? = some s) : free e i = frS s := by
  unfold free frS
  rw [h]
  rcases s with _ | s
  · rfl
  · cases s with
    | pd x => rfl
    | nt x => rfl
    | mu m c => cases m <;> rfl
theorem free_ne_set {e : Sl} {i j : Nat} {s : Option S} (h : i ≠ j) : free (e.set i s) j = free e j := by
  unfold free
  rw [List.getElem?_set_ne h]
theorem free_eq_set {e : Sl} {i : Nat} {s : Option S} (h : i < e.length) : free (e.set i s) i = frS s := free_frS (by simp [h])
structure Al (k n : Nat) (e : Sl) : Prop where
  len : e.length = n
  fre : ∀ i, k ≤ i → i < n → free e i = true
theorem Al.set {k n i : Nat} {e : Sl} {s : Option S} (h : Al k n e) (q : frS s = true) : Al k n (e.set i s) := by
  refine ⟨by rw [List.length_set, h.len], fun j h1 h2 => ?_⟩
  by_cases z : i = j
  · subst z
    rw [free_eq_set (by rw [h.len]; exact h2)]
    exact q
  · rw [free_ne_set z]
    exact h.fre j h1 h2
theorem Al.low {k n i : Nat} {e : Sl} {s : Option S} (h : Al k n e) (q : i < k) : Al k n (e.set i s) := by
  refine ⟨by rw [List.length_set, h.len], fun j h1 h2 => ?_⟩
  rw [free_ne_set (by omega)]
  exact h.fre j h1 h2
theorem Al.start {n : Nat} (as : List S) (h : as.length ≤ n) : Al as.length n (startE n as) := by
  refine ⟨by simp [startE]; omega, fun i h1 h2 => ?_⟩
  have : (startE n as)[i]? = some none := by
    unfold startE
    rw [List.getElem?_append_right (by simpa using h1), List.length_map, List.getElem?_replicate, if_pos (by omega)]
  rw [free_frS this]
  rfl
structure Kp (e e' : Sl) (vs : List Nat) : Prop where
  len : e'.length = e.length
  at_ : ∀ i, i ∉ vs → e'[i]? = e[i]?
@[simp] theorem Kp.refl (e : Sl) (vs : List Nat) : Kp e e vs := ⟨rfl, fun _ _ => rfl⟩
theorem Kp.set {e e' : Sl} {vs : List Nat} {v : Nat} {s : Option S} (h : Kp e e' vs) (m : v ∈ vs) : Kp e (e'.set v s) vs :=
  ⟨by rw [List.length_set, h.len], fun i hi => by
    have ne : v ≠ i := fun z => hi (by rw [← z]; exact m)
    rw [List.getElem?_set_ne ne, h.at_ i hi]⟩
@[simp] theorem Kp.wipe (e : Sl) (vs : List Nat) : Kp e (wipeE e vs) vs := ⟨wipeE_len, fun i hi => wipeE_out hi⟩
theorem Kp.un {e e' : Sl} {vs : List Nat} (h : Kp e e' vs) : unwipe e e' vs = e := by
  have key : ∀ ws, unwipe e e' ws = unwipe e e' ws ∧ ∀ i, (unwipe e e' ws)[i]? = if i ∈ ws then e[i]? else e'[i]? := by
    intro ws
    induction ws with
    | nil => exact ⟨rfl, fun i => by simp [unwipe]⟩
    | cons v ws ih =>
      refine ⟨rfl, fun i => ?_⟩
      have l : (unwipe e e' ws).length = e.length := by rw [unwipe_len, h.len]
      unfold unwipe
      rw [List.getElem?_set]
      by_cases z : v = i
      · subst z
        rw [if_pos rfl, l]
        by_cases y : v < e.length
        · simp [y]
        · simp [y, List.getElem?_eq_none (Nat.le_of_not_lt y)]
      · rw [if_neg z, ih.2 i]
        simp only [List.mem_cons]
        by_cases y : i ∈ ws
        · simp [y]
        · rw [if_neg y, if_neg (by simp [y]; exact fun q => z q.symm)]
  refine List.ext_getElem? fun i => ?_
  rw [(key vs).2 i]
  split
  · rfl
  · rename_i q
    exact h.at_ i q
theorem wipe_at (e : Sl) (i : Nat) : ∀ vs : List Nat, (wipeE e vs)[i]? = if i ∈ vs then (if i < e.length then some none else none) else e[i]?
  | [] => by simp [wipeE]
  | v :: vs => by
    unfold wipeE
    rw [List.getElem?_set, wipe_at e i vs, wipeE_len]
    by_cases z : v = i
    · subst z; simp
    · rw [if_neg z]
      have : i ∈ v :: vs ↔ i ∈ vs := ⟨fun q => (List.mem_cons.mp q).elim (fun y => absurd y.symm z) id, List.mem_cons_of_mem _⟩
      simp [this]
theorem wipe_free {e : Sl} {i : Nat} {vs : List Nat} (h : i ∈ vs) (l : i < e.length) : free (wipeE e vs) i = true := by
  rw [free_frS (s := none) (by rw [wipe_at]; simp [h, l])]
  rfl
def lcO (g : GG) (f : EE) (vs : List Nat) (e : Sl) (x y : PyData) : Prop := match g x (wipeE e vs) with
  | none => False
  | some e1 => match f e1 with
    | none => False
    | some p => data1 p.1 = some y ∧ Kp e p.2 vs
def lcI (g : GG) (t : EB) (f : EE) (vs : List Nat) (e : Sl) (x : PyData) (b : Bool) (y : PyData) : Prop := match g x (wipeE e vs) with
  | none => False
  | some e1 => match t e1 with
    | none => False
    | some r => r.1 = b ∧ if b = true then match f r.2 with
        | none => False
        | some p => data1 p.1 = some y ∧ Kp e p.2 vs
      else Kp e r.2 vs
theorem lcF {it : EI} {g : GG} {t : EB} {f : EE} {vs : List Nat} {env e : Sl} {lk : Lk} {α : Type} {q : α → PyData} {as : List α} (p : α → Bool) (y : α → PyData) (hi : it env = some (as.map q, lk, e)) (hl : as.length ≤ 1000000) (h : ∀ a ∈ as, lcI g t f vs e (q a) (p a) (y a)) :
    eLc it g t f vs env = some (.tmp (.ls ((as.filter p).map y)), unlock lk e) :=
  MM.lc_if as hi hl fun a ha => by
    have := h a ha
    unfold lcI at this
    unfold MM.lcIf
    split
    · rename_i z; rw [z] at this; exact this
    · rename_i e1 z
      rw [z] at this
      simp only at this
      split
      · rename_i z2; rw [z2] at this; exact this
      · rename_i r z2
        rw [z2] at this
        simp only at this
        refine ⟨this.1, ?_⟩
        have t2 := this.2
        split
        · rename_i hb
          rw [if_pos hb] at t2
          split
          · rename_i z3; rw [z3] at t2; exact t2
          · rename_i p z3
            rw [z3] at t2
            exact ⟨t2.1, t2.2.un⟩
        · rename_i hb
          rw [if_neg hb] at t2
          exact t2.un
end T3

end
section
set_option linter.all false
set_option autoImplicit false
set_option Elab.async false
set_option maxRecDepth 10000
namespace MM
open PySem L2 T3
structure Pm (n : Nat) (m : Nat → Nat) : Prop where
  lt : ∀ j, j < n → m j < n
  inj : ∀ i j, i < n → j < n → m i = m j → i = j
section
variable {n : Nat} {m : Nat → Nat}
theorem Pm.prd (h : Pm n m) {x : Nat} (hx : x < n) : PerP n m x (per n m x) := per_spec h.lt h.inj hx
theorem itr_mul {x k : Nat} (h : itr m k x = x) : ∀ q, itr m (k * q) x = x
  | 0 => rfl
  | q + 1 => by rw [Nat.mul_succ, itr_add, h, itr_mul h q]
theorem per_dvd {x k : Nat} (h : PerP n m x k) (t : Nat) : itr m t x = x ↔ k ∣ t := by
  constructor
  · intro e
    have e2 : itr m (t % k) x = x := by
      have : itr m (t % k + k * (t / k)) x = x := by rw [Nat.mod_add_div]; exact e
      rw [itr_add, itr_mul h.2.2.1] at this
      exact this
    have hlt := Nat.mod_lt t h.1
    by_cases z : t % k = 0
    · exact Nat.dvd_of_mod_eq_zero z
    · exact absurd e2 (h.2.2.2 (t % k) (by omega) hlt)
  · rintro ⟨q, rfl⟩
    exact itr_mul h.2.2.1 q
theorem Pm.mem (h : Pm n m) {x y : Nat} (hx : x < n) : y ∈ orb m (per n m x) x ↔ ∃ t, itr m t x = y := by
  constructor
  · intro e
    obtain ⟨t, _, e⟩ := orb_mem.mp e
    exact ⟨t, e⟩
  · rintro ⟨t, rfl⟩
    exact orb_all (h.prd hx) t
theorem Pm.back (h : Pm n m) {x y t : Nat} (hx : x < n) (e : itr m t x = y) : ∃ s, itr m s y = x := by
  have p := h.prd hx
  have hk := p.1
  refine ⟨per n m x * t - t, ?_⟩
  rw [← e, ← itr_add, Nat.sub_add_cancel (Nat.le_mul_of_pos_left t hk)]
  exact itr_mul p.2.2.1 t
theorem itr_fix {x : Nat} (h : m x = x) : ∀ t, itr m t x = x
  | 0 => rfl
  | t + 1 => by rw [itr_succ, itr_fix h t, h]
def Fst (n : Nat) (m : Nat → Nat) (x : Nat) : Prop := x < n ∧ 1 < per n m x ∧ ∀ y ∈ orb m (per n m x) x, x ≤ y
theorem Fst.ne (h : Pm n m) {x y : Nat} (f : Fst n m x) (e : y ∈ orb m (per n m x) x) : y < n ∧ m y ≠ y := by
  obtain ⟨t, rfl⟩ := (h.mem f.1).mp e
  refine ⟨itr_lt h.lt t x f.1, fun z => ?_⟩
  obtain ⟨s, es⟩ := h.back f.1 rfl (t := t)
  rw [itr_fix z] at es
  rw [es] at z
  have := (per_dvd (h.prd f.1) 1).mp z
  have := Nat.le_of_dvd (by omega) this
  have := f.2.1
  omega
theorem Pm.nonfix (h : Pm n m) {j : Nat} (hj : j < n) : m j ≠ j ↔ ∃ x, Fst n m x ∧ j ∈ orb m (per n m x) x := by
  constructor
  · intro hne
    obtain ⟨x, a, b, c, d⟩ := in_round h.lt h.inj hj hne
    exact ⟨x, ⟨a, b, c⟩, d⟩
  · rintro ⟨x, f, e⟩
    exact (f.ne h e).2
open Classical in
noncomputable def fsts (n : Nat) (m : Nat → Nat) : List Nat := (List.range n).filter fun x => decide (Fst n m x)
open Classical in
theorem mem_fsts {x : Nat} : x ∈ fsts n m ↔ Fst n m x := by
  unfold fsts
  constructor
  · intro h
    exact of_decide_eq_true (List.mem_filter.mp h).2
  · intro h
    exact List.mem_filter.mpr ⟨List.mem_range.mpr h.1, decide_eq_true h⟩
open Classical in
noncomputable def left (n : Nat) (m : Nat → Nat) (F : List Nat) : List Nat := (List.range n).filter fun j => decide (∃ x ∈ F, j ∈ orb m (per n m x) x)
noncomputable def ord (n : Nat) (m : Nat → Nat) : Nat := ((fsts n m).map (per n m)).foldl Nat.lcm 1
end
end MM

end
section
set_option linter.all false
set_option autoImplicit false
set_option Elab.async false
set_option maxRecDepth 10000
namespace MM
open PySem L2 T3
section
variable {n : Nat} {m : Nat → Nat}
theorem orb_hd {k x : Nat} (h : 1 ≤ k) : ∃ os, orb m k x = x :: os := by
  obtain ⟨j, rfl⟩ : ∃ j, k = j + 1 := ⟨k - 1, by omega⟩
  unfold orb
  rw [List.range_succ_eq_map, List.map_cons]
  exact ⟨_, rfl⟩
end
end MM

end
section
set_option linter.all false
set_option autoImplicit false
set_option Elab.async false
namespace MM
theorem held_app {α : Type} (xs : List α) (ps qs : List (Int × Int)) : held xs (ps ++ qs) = held (held xs ps) qs := by simp [held, List.foldl_append]
theorem mv_app {n j : Nat} (h : j < n) (ps qs : List (Int × Int)) : mv n (ps ++ qs) j = mv n qs (mv n ps j) := by
  refine mv_org ?_
  unfold org
  rw [held_app, held_get (n := n) (held (List.range n) ps) qs (by rw [held_len, List.length_range]) (mv_lt h)]
  exact org_mv h
end MM

end
section
set_option linter.all false
set_option autoImplicit false
set_option Elab.async false
namespace MM
open PySem L2 T3
section
variable {n : Nat} {m : Nat → Nat}
end
structure Cj (n : Nat) (m : Nat → Nat) (n' : Nat) (m' : Nat → Nat) (A : Nat → Nat) : Prop where
  p : Pm n m
  p' : Pm n' m'
  lt : ∀ j, j < n → A j < n'
  inj : ∀ i j, i < n → j < n → A i = A j → i = j
  cm : ∀ j, j < n → m' (A j) = A (m j)
  fx : ∀ y, y < n' → (∀ j, j < n → A j ≠ y) → m' y = y
section
variable {n n' : Nat} {m m' A : Nat → Nat}
end
end MM

end
section
set_option linter.all false
set_option autoImplicit false
set_option Elab.async false
namespace T3
open PySem L2
variable [TabL]
structure Pk where
  a : Int
  b : Int
  t : Nat
def penK (p : Pk) : Ct := .ls [.int p.a, .int p.b, .int (p.t : Nat)]
theorem Kp.un2 {e e' e3 : Sl} {vs : List Nat} (h : Kp e' e3 vs) (l : e'.length = e.length) (q : ∀ i ∈ vs, e'[i]? = e[i]?) : unwipe e e3 vs = e' := by
  have : unwipe e e3 vs = unwipe e' e3 vs := by
    have go : ∀ ws, (∀ i ∈ ws, i ∈ vs) → unwipe e e3 ws = unwipe e' e3 ws := by
      intro ws
      induction ws with
      | nil => intro _; rfl
      | cons v ws ih =>
        intro hw
        unfold unwipe
        rw [ih fun i hi => hw i (List.mem_cons_of_mem _ hi)]
        congr 1
        rw [List.getD_eq_getElem?_getD, List.getD_eq_getElem?_getD, q v (hw v (List.mem_cons_self))]
    exact go vs fun _ h => h
  rw [this, h.un]
def lcP (g : GG) (f : EE) (vs : List Nat) (e : Sl) (x y : PyData) (e' : Sl) : Prop := match g x (wipeE e vs) with
  | none => False
  | some e1 => match f e1 with
    | none => False
    | some p => data1 p.1 = some y ∧ Kp e' p.2 vs
theorem lc_pen {it : EI} {g : GG} {f : EE} {vs : List Nat} {env e : Sl} {j : Nat} {m : Md} {p0 : Pk} {as : List PyData} (Q : PyData → Prop) (c B : Nat) (hi : it env = some (as, none, e)) (hl : as.length ≤ 1000000) (hj : j ∉ vs) (he : e[j]? = some (some (.mu m (penK p0)))) (hb : p0.t + c * as.length ≤ B)
    (step : ∀ x ∈ as, ∀ p : Pk, p.t + c ≤ B → ∃ (q : Pk) (y : PyData), q.t ≤ p.t + c ∧ Q y ∧ lcP g f vs (e.set j (some (.mu m (penK p)))) x y (e.set j (some (.mu m (penK q))))) :
    ∃ (ys : List PyData) (q : Pk), eLc it g bYes f vs env = some (.tmp (.ls ys), e.set j (some (.mu m (penK q)))) ∧ ys.length = as.length ∧ (∀ y ∈ ys, Q y) ∧ q.t ≤ p0.t + c * as.length := by
  have hjl : j < e.length := (List.getElem?_eq_some_iff.mp he).1
  have e0 : e.set j (some (.mu m (penK p0))) = e := by
    refine List.ext_getElem? fun i => ?_
    rw [List.getElem?_set]
    split
    · rename_i z; subst z; exact he.symm
    · rfl
  have go : ∀ (bs : List PyData) (p : Pk) (acc : List PyData), (∀ b ∈ bs, b ∈ as) → p.t + c * bs.length ≤ B → (∀ y ∈ acc, Q y) → ∃ (ys : List PyData) (q : Pk), lcL g bYes f vs bs (e.set j (some (.mu m (penK p)))) acc = some (ys, e.set j (some (.mu m (penK q)))) ∧ ys.length = acc.length + bs.length ∧ (∀ y ∈ ys, Q y) ∧ q.t ≤ p.t + c * bs.length := by
    intro bs
    induction bs with
    | nil => intro p acc _ _ ha; exact ⟨acc, p, rfl, rfl, ha, by omega⟩
    | cons x bs ih =>
      intro p acc hm hB ha
      simp only [List.length_cons, Nat.mul_add, Nat.mul_one] at hB
      obtain ⟨q, y, h1, h2, h3⟩ := step x (hm x (by simp)) p (by omega)
      unfold lcP at h3
      split at h3
      · exact h3.elim
      rename_i e1 g1
      split at h3
      · exact h3.elim
      rename_i r f1
      obtain ⟨d1, kp⟩ := h3
      have u := kp.un2 (e := e.set j (some (.mu m (penK p)))) (by simp) (fun i hi => by
        have : j ≠ i := fun z => hj (by rw [z]; exact hi)
        rw [List.getElem?_set_ne this, List.getElem?_set_ne this])
      obtain ⟨ys, q2, h4, h5, h6, h7⟩ := ih q (acc ++ [y]) (fun b hb => hm b (by simp [hb])) (by omega) (by
        intro z hz
        rcases List.mem_append.mp hz with hz | hz
        · exact ha z hz
        · rw [List.mem_singleton.mp hz]; exact h2)
      refine ⟨ys, q2, ?_, by simp at h5 ⊢; omega, h6, by simp only [List.length_cons, Nat.mul_add, Nat.mul_one]; omega⟩
      simp only [lcL, g1, bYes, if_true, f1, d1, u, h4]
  obtain ⟨ys, q, h1, h2, h3, h4⟩ := go as p0 [] (fun _ h => h) hb (by simp)
  rw [e0] at h1
  refine ⟨ys, q, ?_, by simpa using h2, h3, h4⟩
  rw [z_lc, hi]
  simp only [hl, if_true, h1, z_unl]
def upD (n : Nat) : List PyData := (List.range n).map fun j => .int ((j : Nat) : Int)
theorem upD_len (n : Nat) : (upD n).length = n := by simp [upD]
theorem rg1_up {f : EA} {env e : Sl} {n : Nat} (h : f env = some ([.pd (.int (n : Nat))], e)) (hn : n ≤ 1000) : iRg1 f env = some (upD n, none, e) := by
  have b : RgI1 (n : Int) := by
    unfold RgI1
    have h1 : (-(2 ^ 62) : Int) ≤ 0 := by decide
    have h2 : (1000 : Int) < 2 ^ 62 := by decide
    omega
  have u : rgD 0 n 1 = upD n := by simp [rgD, upD]
  unfold iRg1
  rw [h]
  show (if RgI1 (n : Int) then some (rgD 0 (n : Int).toNat 1, none, e) else none) = _
  rw [if_pos b, Int.toNat_natCast, u]
theorem rg1_max {N : Nat} {e : Sl} (ns : List Int) (hN : 1 ≤ N) (hN2 : N ≤ 1000) (h0 : e[0]? = some (some (.pd (.list (ns.map .int))))) :
    iRg1 (eCons (eThen (eCons (eC (.int 1)) (eCons (eThen (eCons (eThen (eCons (eVar 0) eNil) (kE oLen)) (eCons (eC (.int (N : Int))) eNil)) (kE oMin)) eNil)) (kE oMax)) eNil) e = some (upD (max 1 (min ns.length N)), none, e) := by
  have h1 : (if (N : Int) < ns.length then (N : Int) else ns.length) = ((min ns.length N : Nat) : Int) := by split <;> omega
  have h2 : (if ((min ns.length N : Nat) : Int) > 1 then ((min ns.length N : Nat) : Int) else 1) = ((max 1 (min ns.length N) : Nat) : Int) := by split <;> omega
  refine rg1_up (n := max 1 (min ns.length N)) ?_ (by omega)
  simp only [z_cons, z_then, z_c, z_var, h0, z_nil, z_kE, z_ctns1, z_ctns0, z_ctn1, oLen, List.length_map, oMin, h1, oMax, h2]
def TurnP (n C : Nat) (s : PyData) (p : Pk) (fl : Fl) (e : Sl) : Prop := (fl = .nx ∨ fl = .ct) ∧ Al 0 n e ∧ e[0]? = some (some (.pd s)) ∧ ∃ q : Pk, e[2]? = some (some (.mu .own (penK q))) ∧ q.t ≤ p.t + C
theorem fin1 {x : PyData} {e : Sl} (h : e[0]? ≠ none) : finals [.pd x] e = some [.pd x] := by
  cases e with
  | nil => simp at h
  | cons a e => simp
def OutI (n : Nat) (s : PyData) (e : Sl) : Prop := Al 0 n e ∧ e[0]? = some (some (.pd s))
def InI (n C M : Nat) (s : PyData) (rest : List PyData) (e : Sl) : Prop := Al 0 n e ∧ e[0]? = some (some (.pd s)) ∧ ∃ q : Pk, e[2]? = some (some (.mu .own (penK q))) ∧ q.t + C * rest.length ≤ C * M
theorem outer {n N M C : Nat} {fcell fpen : FnD} {BODY : SS} (ns : List Int) (hn4 : 4 ≤ n) (hN : 1 ≤ N) (hN2 : N ≤ 1000) (hM : M ≤ 1000)
    (hcell : ∀ k : Nat, ∃ i, fcell [.pd (.list (ns.map .int)), .pd (.int (k : Nat))] = some (.pd (.int i), [.pd (.list (ns.map .int)), .pd (.int (k : Nat))]))
    (hpen : ∀ i : Int, ∃ p : Pk, p.t = 0 ∧ fpen [.pd (.int i)] = some (.tmp (penK p), [.pd (.int i)]))
    (hbody : ∀ (e : Sl) (p : Pk), Al 0 n e → e[0]? = some (some (.pd (.list (ns.map .int)))) → e[2]? = some (some (.mu .own (penK p))) → p.t ≤ C * M → wS BODY e (TurnP n C (.list (ns.map .int)) p)) :
    ∃ as, runFn n (sSeq (sFor (iRg1 (eCons (eThen (eCons (eC (.int 1)) (eCons (eThen (eCons (eThen (eCons (eVar 0) eNil) (kE oLen)) (eCons (eC (.int (N : Int))) eNil)) (kE oMin)) eNil)) (kE oMax)) eNil)) (gN 1) (sSeq (sSet 2 (eCall fpen (eCons (eCall fcell (eCons (eVar 0) (eCons (eVar 1) eNil))) eNil)))
      (sFor (iRg1 (eCons (eC (.int (M : Int))) eNil)) (gN 3) BODY))) (sRet (eC (.bool true)))) [.pd (.list (ns.map .int))] = some (.pd (.bool true), as) := by
  generalize hs : PyData.list (ns.map .int) = s at *
  have key : wF (runFn n (sSeq (sFor (iRg1 (eCons (eThen (eCons (eC (.int 1)) (eCons (eThen (eCons (eThen (eCons (eVar 0) eNil) (kE oLen)) (eCons (eC (.int (N : Int))) eNil)) (kE oMin)) eNil)) (kE oMax)) eNil)) (gN 1) (sSeq (sSet 2 (eCall fpen (eCons (eCall fcell (eCons (eVar 0) (eCons (eVar 1) eNil))) eNil)))
      (sFor (iRg1 (eCons (eC (.int (M : Int))) eNil)) (gN 3) BODY))) (sRet (eC (.bool true))))) [.pd s] (fun r _ => r = .pd (.bool true)) := by
    have A0 : Al 0 n (startE n [.pd s]) := by
      have a := Al.start (n := n) [.pd s] (by simp; omega)
      refine ⟨a.len, fun i h1 h2 => ?_⟩
      by_cases z : i = 0
      · subst z
        rw [free_frS (s := some (.pd s)) (by simp [startE])]
        rfl
      · exact a.fre i (by simp; omega) h2
    refine wF_run (e := startE n [.pd s]) rfl ?_
    have h0 : (startE n [.pd s])[0]? = some (some (.pd s)) := by simp [startE]
    generalize startE n [.pd s] = e0 at *
    refine wS_seq ?_
    refine wS_for (xs := upD (max 1 (min ns.length N))) (lk := none) (e := e0) (rg1_max ns hN hN2 (by rw [hs]; exact h0)) (fun rest e => (∀ x ∈ rest, ∃ k : Nat, x = .int (k : Nat)) ∧ OutI n s e) ⟨fun x hx => by
      obtain ⟨j, _, rfl⟩ := List.mem_map.mp hx; exact ⟨j, rfl⟩, A0, h0⟩ ?_ ?_
    · rintro x rest e ⟨hx, A, h0⟩
      obtain ⟨k, rfl⟩ := hx x (by simp)
      obtain ⟨i, ec⟩ := hcell k
      obtain ⟨p, pt, ep⟩ := hpen i
      have f1 := A.fre 1 (by omega) (by omega)
      have A1 := A.set (i := 1) (s := some (.pd (.int (k : Nat)))) rfl
      have g0 : (e.set 1 (some (.pd (.int (k : Nat)))))[0]? = some (some (.pd s)) := by rw [List.getElem?_set_ne (by decide)]; exact h0
      have g1 : (e.set 1 (some (.pd (.int (k : Nat)))))[1]? = some (some (.pd (.int (k : Nat)))) := by rw [List.getElem?_set_self (by rw [A.len]; omega)]
      simp only [gW, z_gN, z_setR, f1, if_true]
      rw [go]
      generalize e.set 1 (some (.pd (.int (k : Nat)))) = e1 at *
      have f2 := A1.fre 2 (by omega) (by omega)
      refine wS_seq ?_
      have A2 := A1.set (i := 2) (s := some (.mu .own (penK p))) rfl
      have b0 : (e1.set 2 (some (.mu .own (penK p))))[0]? = some (some (.pd s)) := by rw [List.getElem?_set_ne (by decide)]; exact g0
      have b2 : (e1.set 2 (some (.mu .own (penK p))))[2]? = some (some (.mu .own (penK p))) := by rw [List.getElem?_set_self (by rw [A1.len]; omega)]
      refine wS_of (fl := .nx) (e := e1.set 2 (some (.mu .own (penK p)))) ?_ ?_
      · simp only [z_set, z_call, z_cons, z_var, g0, g1, z_nil, z_args1, z_arg1, z_args0, z_va1, z_va0, if_true, ec, z_bk1, z_bk0, ep, z_setR, f2]
      rw [nxt_nx, go]
      generalize e1.set 2 (some (.mu .own (penK p))) = e2 at *
      refine wS_for (xs := upD M) (lk := none) (e := e2) (rg1_up (by simp) hM) (InI n C M s) ⟨A2, b0, p, b2, by rw [pt, upD_len]; omega⟩ ?_ ?_
      · rintro y rest' e ⟨A, h0, q, h2, hq⟩
        rw [List.length_cons, Nat.mul_add, Nat.mul_one] at hq
        have f3 := A.fre 3 (by omega) (by omega)
        simp only [gW, z_gN, z_setR, f3, if_true]
        rw [go]
        refine (hbody _ q (A.set rfl) (by rw [List.getElem?_set_ne (by decide)]; exact h0) (by rw [List.getElem?_set_ne (by decide)]; exact h2) (by omega)).imp ?_
        rintro fl e' ⟨hf, A', h0', q', h2', hq'⟩
        have : InI n C M s rest' e' := ⟨A', h0', q', h2', by omega⟩
        rcases hf with rfl | rfl <;> exact this
      · rintro e ⟨A, h0, _⟩
        exact ⟨fun x hx => by
          obtain ⟨k, hk⟩ := ‹∀ x ∈ _ :: rest, ∃ k : Nat, x = .int (k : Nat)› x (List.mem_cons_of_mem _ hx)
          exact ⟨k, hk⟩, A, h0⟩
    · rintro e ⟨_, A, h0⟩
      simp only [z_unl, nxt_nx]
      rw [go]
      have f := fin1 (x := s) (e := e) (by rw [h0]; simp)
      refine wS_of (fl := .rt (.pd (.bool true))) (e := e) (by simp) ?_
      exact ⟨.pd (.bool true), _, rfl, f, rfl⟩
  obtain ⟨r, as, e, rfl⟩ := key
  exact ⟨as, e⟩
end T3

end
section
set_option linter.all false
set_option autoImplicit false
set_option Elab.async false
namespace T3
open PySem L2
variable [TabL]
def pl : Nat → PyData → Bool
  | _, .none => true
  | _, .int _ => true
  | _, .str s => PyData.strOk s
  | n + 1, .tuple xs => xs.all (pl n)
  | n + 1, .list xs => xs.all (pl n)
  | _, _ => false
mutual
theorem pl_lay : ∀ (x : PyData) (n : Nat), pl n x = true → x.canLay0 = true ∧ x.depth ≤ n + 1
  | .none, n, h => ⟨by simp [PyData.canLay0], by simp [PyData.depth]⟩
  | .int i, n, h => ⟨by simp [PyData.canLay0], by simp [PyData.depth]⟩
  | .str s, n, h => ⟨by unfold pl at h; simpa [PyData.canLay0] using h, by simp [PyData.depth]⟩
  | .bool b, n, h => by cases n <;> simp [pl] at h
  | .dict d, n, h => by cases n <;> simp [pl] at h
  | .tuple xs, 0, h => by simp [pl] at h
  | .tuple xs, n + 1, h => by
    obtain ⟨h1, h2⟩ := pl_layA xs n (by simpa [pl] using h)
    exact ⟨by simpa [PyData.canLay0] using h1, by simp only [PyData.depth]; omega⟩
  | .list xs, 0, h => by simp [pl] at h
  | .list xs, n + 1, h => by
    obtain ⟨h1, h2⟩ := pl_layA xs n (by simpa [pl] using h)
    exact ⟨by simpa [PyData.canLay0] using h1, by simp only [PyData.depth]; omega⟩
theorem pl_layA : ∀ (xs : List PyData) (n : Nat), (∀ x ∈ xs, pl n x = true) → PyData.canLayAll0 xs = true ∧ PyData.depthAll xs ≤ n + 1
  | [], n, h => ⟨by simp [PyData.canLayAll0], by simp [PyData.depthAll]⟩
  | x :: xs, n, h => by
    obtain ⟨h1, h2⟩ := pl_lay x n (h x (by simp))
    obtain ⟨h3, h4⟩ := pl_layA xs n fun y hy => h y (by simp [hy])
    exact ⟨by simp [PyData.canLayAll0, h1, h3], by simp only [PyData.depthAll]; omega⟩
end
theorem pl_sh {x : PyData} {n : Nat} (h : pl n x = true) (hn : n ≤ 60) : SeqAt.shaped x = true := by
  obtain ⟨h1, h2⟩ := pl_lay x n h
  unfold SeqAt.shaped
  rw [h1]
  simp
  omega
mutual
theorem pl_eqv : ∀ (x y : PyData) (n m : Nat), pl n x = true → pl m y = true → (PyData.eqv x y = true ↔ x = y)
  | .none, y, n, m, h, h' => by cases y <;> simp [PyData.eqv]
  | .int i, y, n, m, h, h' => by
    cases y <;> simp [PyData.eqv]
    · rename_i b; cases m <;> simp [pl] at h'
  | .str s, y, n, m, h, h' => by cases y <;> simp [PyData.eqv]
  | .bool b, y, n, m, h, h' => by cases n <;> simp [pl] at h
  | .dict d, y, n, m, h, h' => by cases n <;> simp [pl] at h
  | .tuple xs, y, n, m, h, h' => by
    cases y <;> simp [PyData.eqv]
    rename_i ys
    cases n with
    | zero => simp [pl] at h
    | succ n =>
      cases m with
      | zero => simp [pl] at h'
      | succ m => exact pl_eqvA xs ys n m (by simpa [pl] using h) (by simpa [pl] using h')
  | .list xs, y, n, m, h, h' => by
    cases y <;> simp [PyData.eqv]
    rename_i ys
    cases n with
    | zero => simp [pl] at h
    | succ n =>
      cases m with
      | zero => simp [pl] at h'
      | succ m => exact pl_eqvA xs ys n m (by simpa [pl] using h) (by simpa [pl] using h')
theorem pl_eqvA : ∀ (xs ys : List PyData) (n m : Nat), (∀ x ∈ xs, pl n x = true) → (∀ x ∈ ys, pl m x = true) → (PyData.eqvAll xs ys = true ↔ xs = ys)
  | [], [], n, m, _, _ => by simp [PyData.eqvAll]
  | [], y :: ys, n, m, _, _ => by simp [PyData.eqvAll]
  | x :: xs, [], n, m, _, _ => by simp [PyData.eqvAll]
  | x :: xs, y :: ys, n, m, h, h' => by
    simp only [PyData.eqvAll, Bool.and_eq_true]
    rw [pl_eqv x y n m (h x (by simp)) (h' y (by simp)), pl_eqvA xs ys n m (fun z hz => h z (by simp [hz])) (fun z hz => h' z (by simp [hz]))]
    simp
end
theorem pl_ne {x y : PyData} {n m : Nat} (h : pl n x = true) (h' : pl m y = true) (hn : n ≤ 60) (hm : m ≤ 60) (e : x = y) : oNe [x, y] = some (.bool false) := by
  subst e
  simp [oNe, pl_sh h hn, (pl_eqv x x n n h h).mpr rfl]
theorem pl_ne' {x y : PyData} {n m : Nat} (h : pl n x = true) (h' : pl m y = true) (hn : n ≤ 60) (hm : m ≤ 60) (e : x ≠ y) : oNe [x, y] = some (.bool true) := by
  have : PyData.eqv x y = false := by
    cases z : PyData.eqv x y with
    | false => rfl
    | true => exact absurd ((pl_eqv x y n m h h').mp z) e
  simp [oNe, pl_sh h hn, pl_sh h' hm, this]
theorem pl_eq {x y : PyData} {n m : Nat} (h : pl n x = true) (h' : pl m y = true) (hn : n ≤ 60) (hm : m ≤ 60) (e : x = y) : oEq [x, y] = some (.bool true) := by
  subst e
  simp [oEq, pl_sh h hn, (pl_eqv x x n n h h).mpr rfl]
theorem pl_eq' {x y : PyData} {n m : Nat} (h : pl n x = true) (h' : pl m y = true) (hn : n ≤ 60) (hm : m ≤ 60) (e : x ≠ y) : oEq [x, y] = some (.bool false) := by
  have : PyData.eqv x y = false := by
    cases z : PyData.eqv x y with
    | false => rfl
    | true => exact absurd ((pl_eqv x y n m h h').mp z) e
  simp [oEq, pl_sh h hn, pl_sh h' hm, this]
theorem pl_in {x : PyData} {xs : List PyData} {n m : Nat} (h : pl n x = true) (h' : ∀ y ∈ xs, pl m y = true) (hn : n ≤ 50) (hm : m ≤ 50) (neg : Bool) (c : PyData) (hc : c = .tuple xs ∨ c = .list xs) [Decidable (x ∈ xs)] : oIn neg [x, c] = some (.bool (if neg = true then !decide (x ∈ xs) else decide (x ∈ xs))) := by
  have a : (xs.any fun z => PyData.eqv z x) = decide (x ∈ xs) := by
    rw [Bool.eq_iff_iff, List.any_eq_true, decide_eq_true_eq]
    constructor
    · rintro ⟨z, hz, e⟩
      rw [(pl_eqv z x m n (h' z hz) h).mp e] at hz
      exact hz
    · intro hx
      exact ⟨x, hx, (pl_eqv x x n n h h).mpr rfl⟩
  have s1 : SeqAt.shaped (.tuple xs) = true := pl_sh (n := m + 1) (by simpa [pl] using h') (by omega)
  have s2 : SeqAt.shaped (.list xs) = true := pl_sh (n := m + 1) (by simpa [pl] using h') (by omega)
  rcases hc with rfl | rfl <;> simp [oIn, pl_sh h (by omega), s1, s2, a, -List.any_eq_true]
def nmu : S → Bool
  | .mu _ _ => false
  | _ => true
theorem fin_pd : ∀ {as : List S} {e : Sl}, as.all nmu = true → as.length ≤ e.length → finals as e = some as
  | [], e, _, _ => by cases e <;> rfl
  | a :: as, [], _, l => by simp at l
  | a :: as, x :: e, h, l => by
    simp only [List.all_cons, Bool.and_eq_true] at h
    have ih := fin_pd (as := as) (e := e) h.2 (by simpa using l)
    cases a with
    | pd x => simp [ih]
    | nt x => simp [ih]
    | mu m c => simp [nmu] at h
theorem fin_mu {as : List S} {e : Sl} {m : Md} {c c' : Ct} (h : as.all nmu = true) (hm : m ≠ .own) (l : as.length + 1 ≤ e.length) (h0 : e[0]? = some (some (.mu m c'))) : finals (.mu m c :: as) e = some (.mu m c' :: as) := by
  cases e with
  | nil => simp at l
  | cons x e =>
    simp at h0
    subst h0
    have ih := fin_pd (as := as) (e := e) h (by simpa using l)
    simp [ih, hm]
end T3

end
section
set_option linter.all false
set_option autoImplicit false
set_option Elab.async false
namespace T3
open PySem L2
variable [TabL]
end T3

end
section
set_option linter.all false
set_option autoImplicit false
set_option Elab.async false
namespace T3
open PySem L2
variable [TabL]
def oInS (neg : Bool) : List PyData → Option PyData
  | [.str x, .str z] => match x.cps.toList with
    | [c] => some (.bool (if neg = true then !decide (c ∈ z.cps.toList) else decide (c ∈ z.cps.toList)))
    | _ => none
  | _ => none
theorem RRA.one {K : PySem.W.Frag} {H₀ : Hp} {B : Mset} {H : Hp} {σ : St} {env : Sl} {vs : List V} {d : R} (r : RRA K H₀ B H σ env vs [d]) : ∃ v, vs = [v] ∧ RA K H₀ B H σ env v d := by
  match vs, r with
  | [v], r => exact ⟨v, rfl, r.each 0 v d rfl rfl⟩
  | [], r => have := r.len; simp at this
  | _ :: _ :: _, r => have := r.len; simp at this
def Rg3Ok (i j c : Int) : Prop := RgC i j c (Builtin.Range.rangeSize i j c).toNat
noncomputable instance (i j c : Int) : Decidable (Rg3Ok i j c) := Classical.propDecidable _
end T3

end
section
set_option linter.all false
set_option autoImplicit false
set_option Elab.async false
namespace T3
open PySem L2
variable [TabL]
end T3

end
section
set_option linter.all false
set_option autoImplicit false
set_option Elab.async false
namespace T3
open PySem L2
variable [TabL]
end T3

end
section
set_option linter.all false
set_option autoImplicit false
set_option Elab.async false
set_option maxRecDepth 100000
set_option maxHeartbeats 4000000
namespace T3
open PySem L2
open PyProof.Rows
variable [TabL]
end T3

end
section
set_option linter.all false
set_option autoImplicit false
set_option Elab.async false
set_option maxRecDepth 100000
set_option maxHeartbeats 4000000
namespace T3
open PySem L2
open PySem.Spec PyProof.Rows
variable [TabL]
section
variable {prog : Program} {w : World} {A : Around} {E : Value → Shared → Prop} {s : Shared}
end
end T3

end
section
set_option linter.all false
set_option autoImplicit false
set_option Elab.async false
namespace T3
open PySem L2
variable [TabL]
theorem snoc_get {α : Type} {l : List α} {x y : α} {i : Nat} (h : (l ++ [x])[i]? = some y) : l[i]? = some y ∨ (i = l.length ∧ y = x) := by
  rcases Nat.lt_trichotomy i l.length with c | c | c
  · rw [List.getElem?_append_left c] at h
    exact .inl h
  · subst c
    rw [List.getElem?_append_right (Nat.le_refl _)] at h
    simp at h
    exact .inr ⟨rfl, h.symm⟩
  · rw [List.getElem?_append_right (Nat.le_of_lt c)] at h
    have : 1 ≤ i - l.length := by omega
    rw [List.getElem?_eq_none (by simpa using this)] at h
    cases h
theorem snoc_old {α : Type} {l : List α} {x y : α} {i : Nat} (h : l[i]? = some y) : (l ++ [x])[i]? = some y := by
  rw [List.getElem?_append_left (List.getElem?_eq_some_iff.mp h).1]
  exact h
section
variable {K : PySem.W.Frag} {B B' : Mset} {H H' : Hp} {σ : St} {e e' : Sl}
end
section
variable {X : Cx} [WdOk X.w] {k n : Nat} {F : FnD} {x : Str} {p pos : Pos} {e : Expr} {es : List Expr} {fa : EA}
end
end T3

end
section
set_option linter.all false
set_option autoImplicit false
set_option Elab.async false
namespace T3
open PySem L2
variable [TabL]
abbrev Tp := Int × Int × Int
def TpB (p : Tp) : Prop := (0 ≤ p.1 ∧ p.1 < 64) ∧ (0 ≤ p.2.1 ∧ p.2.1 < 64) ∧ 0 ≤ p.2.2 ∧ p.2.2 < 64
instance (p : Tp) : Decidable (TpB p) := by unfold TpB; infer_instance
end T3

end
section
set_option linter.all false
set_option autoImplicit false
set_option Elab.async false
namespace T3
open PySem L2 PySem.W PyProof.Rows PyProof.V
variable [TabL]
end T3

end
section
set_option linter.all false
set_option autoImplicit false
set_option Elab.async false
namespace T3
open PySem L2
variable [TabL]
end T3

end
section
set_option linter.all false
set_option autoImplicit false
set_option Elab.async false
set_option maxRecDepth 100000
set_option maxHeartbeats 1000000
namespace ZE
open PySem RZ ZM
open PySem.Sem (wp)
section
variable {prog : Program} {w : World} {A : Around} {E : Value → Shared → Prop} {s : Shared}
end
end ZE

end
section
set_option linter.all false
set_option autoImplicit false
set_option Elab.async false
set_option maxRecDepth 100000
set_option maxHeartbeats 1000000
namespace ZE
open PySem PySem.Spec PyProof.Rows L2 RZ ZM
end ZE
namespace T3
open PySem L2
variable [TabL]
end T3

end
section
set_option linter.all false
set_option autoImplicit false
set_option Elab.async false
set_option maxRecDepth 100000
namespace LamA
open PySem PySem.Spec PyProof.Rows L2 LamX NdefX
section
variable {Z : Cx} {F : NF} {f : Addr} {params : Arguments} {body : Expr} {pm ctv : Value} {N ps fr : List Str} {ws : List (Option V)} {k i : Nat} {x : Str} {p pos : Pos} {e : Expr} {es : List Expr} {ta : TA} {tb : TE}
structure LamAt (Z : Cx) (F : NF) (f : Addr) (params : Arguments) (body : Expr) (pm ctv : Value) (fr : List Str) (ws : List (Option V)) : Prop where
  obj : Z.s_0.heap.get? f = some (PySem.W.kla_obj "<lambda>" F.qual params body F.scope F.cl pm F.c ctv)
  free : Z.H_0 f = none
  nfs : f ∉ Z.fs
  nex : f ∉ Z.ex
  cells : CellsAt F.cl fr ws Z.s_0.heap Z.H_0
  cex : ∀ y c, F.cl.lookup y = some c → c ∉ Z.ex
end
end LamA

end
section
set_option linter.all false
set_option autoImplicit false
set_option Elab.async false
set_option maxRecDepth 100000
namespace T3
open PySem L2
variable [TabL]
section
open LamA NdefX
variable {Z : Cx} {F : NF} {f a : Addr} {params : Arguments} {body : Expr} {pm ctv : Value} {N ps : List Str} {capt : Str} {k i : Nat} {x : Str} {p pos : Pos} {e : Expr} {es : List Expr} {fa : EA} {fb : EE} {xs : List PyData}
end
end T3

end
section
set_option linter.all false
set_option autoImplicit false
set_option Elab.async false
set_option maxRecDepth 100000
namespace LamA
open PySem PySem.Spec PyProof.Rows L2 LamX NdefX
section
variable {X : Cx} {pins : List (Addr × Obj)} {σ : L2.St} {H : Hp} {s : Shared}
end
end LamA
namespace T3
open PySem L2 LamA
variable [TabL]
section
variable {K : PySem.W.Frag} {B : Mset} {H H1 : Hp} {P c : Addr} {q : Str} {pos : Pos}
end
end T3

end
section
set_option linter.all false
set_option autoImplicit false
set_option Elab.async false
set_option maxRecDepth 100000
namespace T3
open PySem PySem.Spec PyProof.Rows L2 LamA NdefX LamX
variable [TabL]
section
variable {X : Cx} [WdOk X.w] {x : Str} {st : Stmt} {Ng psg : List Str} {k j : Nat} {q capt : Str} {params : Arguments} {body : Expr} {scope : Scope} {M : PyData → List PyData → SS} {p lpos pos : Pos} {e1 e2 : Expr} {f1 f2 : EE} {cX P : Addr}
end
end T3

end
section
set_option linter.all false
set_option autoImplicit false
set_option Elab.async false
set_option maxRecDepth 100000
namespace T3
open PySem PySem.Spec PyProof.Rows L2 LamA LamX
variable [TabL]
end T3

end
section
set_option linter.all false
set_option autoImplicit false
set_option Elab.async false
namespace T3
open PySem L2
variable [TabL]
section
variable {X : Cx} [WdOk X.w]
end
end T3

end
section
set_option linter.all false
set_option autoImplicit false
set_option Elab.async false
namespace T3
open PySem L2
variable [TabL]
end T3

end
section
set_option linter.all false
set_option autoImplicit false
set_option Elab.async false
namespace T3
open PySem L2
variable [TabL]
end T3

end
section
set_option linter.all false
set_option autoImplicit false
set_option Elab.async false
set_option maxRecDepth 10000
namespace T3
open PySem L2
variable [TabL]
end T3

end
section
set_option linter.all false
set_option autoImplicit false
set_option Elab.async false
set_option maxRecDepth 100000
namespace T3
open PySem PySem.Spec PyProof.Rows L2
variable [TabL]
section
variable {X : Cx} [WdOk X.w] {tg e : Expr} {td : TE} {apos cpos : Pos}
end
end T3
namespace T3
open PySem L2
variable [TabL]
end T3

end
section
set_option linter.all false
set_option autoImplicit false
set_option Elab.async false
set_option maxRecDepth 100000
namespace L2
open PySem PySem.Spec PyProof.Rows
section
variable {X : Cx}
end
end L2
namespace T3
open PySem L2
variable [TabL]
section
variable {X : Cx} [WdOk X.w]
end
end T3

end
section
set_option linter.all false
set_option autoImplicit false
set_option Elab.async false
set_option maxRecDepth 100000
namespace T3
open PySem PySem.Spec PySem.W L2 PyProof.Rows
variable [TabL]
structure DSrc (K : PySem.W.Frag) (B : Mset) (H : Hp) (h : Heap) (a : Addr) (ds : List PyData) where
  es : List DictEntry
  o : Obj
  ep : Nat
  ns : (a == sysModules) = false
  sz : es.length ≤ sizeLine
  ho : h.get? a = some o
  hx : o.ExactDict
  hd : o.data = .dict es.toArray ep
  ks : Paired (fun (e : DictEntry) (d : PyData) => ∃ v, L2.RelV v e.key ∧ Rp K B H v d) es ds
def Srt1 (ds : List PyData) : Prop := PySem.W.Sortable ds ∨ (ds.length ≤ 1 ∧ ∀ d ∈ ds, d ≠ .none)
def PlainS (xs : List PyData) : Prop := PyData.canLayAll0 xs = true ∧ PySem.W.AllAlike xs ∧ PySem.W.Sortable xs ∧ ∀ d ∈ xs, d.depth ≤ 30
def PlainS1 (xs : List PyData) : Prop := PyData.canLayAll0 xs = true ∧ PySem.W.AllAlike xs ∧ Srt1 xs ∧ ∀ d ∈ xs, d.depth ≤ 30
noncomputable instance (xs : List PyData) : Decidable (PlainS1 xs) := Classical.propDecidable _
noncomputable instance (xs : List PyData) : Decidable (PlainS xs) := Classical.propDecidable _
end T3

end
section
set_option linter.all false
set_option autoImplicit false
set_option Elab.async false
set_option maxRecDepth 100000
namespace T3
open PySem L2
variable [TabL]
end T3

end
section
set_option linter.all false
set_option autoImplicit false
set_option Elab.async false
set_option maxRecDepth 100000
namespace T3
open PySem L2
variable [TabL]
def MinOk (xs : List PyData) : Prop := PyData.canLayAll0 xs = true ∧ PySem.W.AlikeAll xs ∧ PyData.depthAll xs ≤ 30
noncomputable instance (xs : List PyData) : Decidable (MinOk xs) := Classical.propDecidable _
end T3

end
section
set_option linter.all false
set_option autoImplicit false
set_option Elab.async false
set_option maxRecDepth 100000
namespace L2
open PySem PySem.Spec PyProof.Rows
abbrev TLay := Addr → V → V → Hp → (Hp → Prop) → Prop
structure PLay (X : Cx) (l : TLay) : Prop where
  run : ∀ (pins : List (Addr × Obj)) (σ : St) (H : Hp) (s : Shared) (D : Addr) (y z : V) (u r : Value) (N : Hp → Prop) (Q : Unit → Shared → Prop) (E : Value → Shared → Prop),
    Inv X pins σ H s → RelV y u → RelV z r → l D y z H N → (∀ s' H', Inv X pins σ H' s' → N H' → Q () s') → wpAny (model X.prog X.w) X.A (dictSet D u r) Q E s
structure LayT (l : TLay) (D : Addr) (J : It) (g : TG) (tk tv : TE) (vs : List Nat) (σ : St) (W : Nat → Nat → Hp → Prop) (fin : Hp → Prop) : Prop where
  turn : ∀ (i m : Nat) (H : Hp), W i m H → (J.stop i H ∧ fin H) ∨ (J.go i H ∧ ∃ Nx : Hp → Prop, (∀ H', Nx H' → ∃ m', m' < m ∧ W (i + 1) m' H') ∧
    ∀ x H', J.yld i H x H' → g x (wipe σ vs) H' fun τ H2 => wipe τ vs = wipe σ vs ∧ tk τ H2 fun y H4 => tv τ H4 fun z H5 => l D y z H5 Nx)
section
variable {X : Cx}
end
end L2
namespace T3
open PySem L2
variable [TabL]
section
variable {X : Cx} [WdOk X.w]
end
end T3

end
section
set_option linter.all false
set_option autoImplicit false
set_option Elab.async false
set_option maxRecDepth 100000
namespace T3
open PySem L2
variable [TabL]
def gM (i : Nat) : GG := fun x env => match x with
  | .dict [(.bool true, .tuple xs)] => setR i (.nt xs) env
  | _ => setR i (.pd x) env
@[simp] theorem z_gM (i : Nat) (xs : List PyData) (env : Sl) : gM i (ntD xs) env = setR i (.nt xs) env := rfl
@[simp] theorem z_gMp (i : Nat) (xs : List PyData) (env : Sl) : gM i (.tuple xs) env = setR i (.pd (.tuple xs)) env := rfl
@[simp] theorem z_gMl (i : Nat) (xs : List PyData) (env : Sl) : gM i (.list xs) env = setR i (.pd (.list xs)) env := rfl
@[simp] theorem z_gMi (i : Nat) (n : Int) (env : Sl) : gM i (.int n) env = setR i (.pd (.int n)) env := rfl
section
variable {X : Cx} [WdOk X.w] {a b : Expr} {fa fb : EE} {p p2 pos pos2 : Pos}
end
end T3

end
section
set_option linter.all false
set_option autoImplicit false
set_option Elab.async false
set_option maxRecDepth 100000
namespace T3
open PySem PySem.Spec PyProof.Rows L2
variable [TabL]
section
variable {X : Cx} [WdOk X.w]
end
end T3

end
section
set_option linter.all false
set_option autoImplicit false
set_option Elab.async false
set_option maxRecDepth 100000
namespace T3
open PySem PySem.Spec PyProof.Rows L2
variable [TabL]
section
variable {X : Cx} [WdOk X.w] {o e : Expr} {fo : EE} {fa : EA} {apos cpos : Pos}
end
end T3

end
section
set_option linter.all false
set_option autoImplicit false
set_option Elab.async false
set_option maxRecDepth 100000
namespace L2
open PySem PySem.Spec PyProof.Rows
section
variable {P : Program} {w : World} {A : Around} {E : Value → Shared → Prop} {s : Shared}
end
section
variable {X : Cx}
end
end L2
namespace T3
open PySem PySem.Spec PyProof.Rows L2
variable [TabL]
end T3

end
section
set_option linter.all false
set_option autoImplicit false
set_option Elab.async false
set_option maxRecDepth 100000
namespace T3
open PySem L2
variable [TabL]
theorem RpA.two {K : PySem.W.Frag} {B : Mset} {H : Hp} {us : List V} {x y : PyData} (h : RpA K B H us [x, y]) : ∃ w1 w2, us = [w1, w2] ∧ Rp K B H w1 x ∧ Rp K B H w2 y := by
  cases h with
  | cons u1 h =>
    cases h with
    | cons u2 h =>
      cases h
      exact ⟨_, _, rfl, u1, u2⟩
end T3

end
section
set_option linter.all false
set_option autoImplicit false
set_option Elab.async false
set_option maxRecDepth 100000
namespace T3
open PySem L2
variable [TabL]
end T3

end
section
set_option linter.all false
set_option autoImplicit false
set_option Elab.async false
set_option maxRecDepth 100000
namespace T3
open PySem PySem.Spec PyProof.Rows L2 LamA NdefX LamX
variable [TabL]
section
variable {X : Cx} [WdOk X.w] {x : Str} {st : Stmt} {Ng psg : List Str} {k j : Nat} {q capt : Str} {params : Arguments} {body : Expr} {scope : Scope} {M : PyData → List PyData → SS} {p lpos pos : Pos} {e1 e2 : Expr} {f1 f2 : EE} {cX P : Addr} {y : Str} {x4 : PyData} {py : Pos}
end
end T3

end
section
set_option linter.all false
set_option autoImplicit false
set_option Elab.async false
set_option maxRecDepth 100000
namespace T3
open PySem L2
variable [TabL]
end T3

end
section
set_option linter.all false
set_option autoImplicit false
set_option Elab.async false
set_option maxRecDepth 100000
namespace T3
open PySem L2
variable [TabL]
noncomputable instance reprFits (x : Str) : Decidable ((reprText x).length ≤ sizeLine) := Classical.propDecidable _
end T3

end
section
set_option linter.all false
set_option autoImplicit false
set_option Elab.async false
set_option maxRecDepth 100000
namespace L2
open PySem PySem.Spec PyProof.Rows
end L2

end
section
set_option linter.all false
set_option autoImplicit false
set_option Elab.async false
set_option maxRecDepth 100000
namespace T3
open PySem L2
variable [TabL]
end T3

end
section
set_option linter.all false
set_option autoImplicit false
set_option Elab.async false
set_option maxRecDepth 100000
namespace L2
open PySem PySem.Spec PyProof.Rows
section
variable {prog : Program} {w : World} {A : Around}
variable {R : Result → Shared → Prop} {it : Addr} {fs ws : List Addr} {m : Nat} {Pv : Nat → Value → Prop} {Sv : Nat → Heap → Prop} {d : Value}
end
end L2

end
section
set_option linter.all false
set_option autoImplicit false
set_option Elab.async false
set_option maxRecDepth 100000
set_option maxHeartbeats 1000000
namespace ZM3
open PySem RZ ZM
open PySem.Sem (wp)
section
variable {prog : Program} {w : World} {A : Around} {E : Value → Shared → Prop} {s : Shared}
variable {I l1 l2 l3 : Nat}
end
end ZM3

end
section
set_option linter.all false
set_option autoImplicit false
set_option Elab.async false
set_option maxRecDepth 100000
set_option maxHeartbeats 1000000
namespace ZM3
open PySem PySem.Spec PyProof.Rows L2 RZ ZM
section
variable {prog : Program} {w : World} {A : Around} {E : Value → Shared → Prop} {s : Shared} {I l1 l2 l3 : Nat}
end
end ZM3

end
section
set_option linter.all false
set_option autoImplicit false
set_option Elab.async false
set_option maxRecDepth 100000
set_option maxHeartbeats 1000000
namespace ZM3
open PySem PySem.Spec PyProof.Rows L2 RZ ZM
end ZM3
namespace T3
open PySem L2
variable [TabL]
end T3

end
section
set_option linter.all false
set_option autoImplicit false
set_option Elab.async false
set_option maxRecDepth 100000
namespace T3
open PySem L2
variable [TabL]
end T3

end
section
set_option linter.all false
set_option autoImplicit false
set_option Elab.async false
set_option maxRecDepth 100000
namespace T3
open PySem L2 PySem.Spec PyProof.Rows
variable [TabL]
end T3

end
section
set_option linter.all false
set_option autoImplicit false
set_option Elab.async false
set_option maxRecDepth 100000
namespace T3
open PySem L2
variable [TabL]
end T3

end
section
set_option linter.all false
set_option autoImplicit false
set_option Elab.async false
set_option maxRecDepth 100000
namespace T3
open PySem L2
variable [TabL]
section
variable {X : Cx} [WdOk X.w] {pins : List (Addr × Obj)} {σ : St} {H : Hp} {s : Shared} {a : Addr} {A : Around} {E : Value → Shared → Prop}
end
section
variable {X : Cx} [WdOk X.w] {o e f : Expr} {apos cpos : Pos} {td ty tx : TE}
end
section
variable {X : Cx} [WdOk X.w] {o e f : Expr} {apos cpos : Pos} {fd fk fx : EE}
end
end T3

end
section
set_option linter.all false
set_option autoImplicit false
set_option Elab.async false
set_option maxRecDepth 100000
namespace T3
open PySem L2
variable [TabL]
end T3

end
section
set_option linter.all false
set_option autoImplicit false
set_option Elab.async false
set_option maxRecDepth 100000
namespace L2
open PySem PySem.Spec PyProof.Rows
section
variable {P : Program} {w : World} {A : Around} {E : Value → Shared → Prop} {s : Shared}
end
section
variable {X : Cx}
end
end L2

end
section
set_option linter.all false
set_option autoImplicit false
set_option Elab.async false
set_option maxRecDepth 100000
namespace T3
open PySem PySem.Spec PyProof.Rows L2
variable [TabL]
end T3

end
section
set_option linter.all false
set_option autoImplicit false
set_option Elab.async false
namespace T3
open PySem PySem.Spec PyProof.Rows L2
variable [TabL]
theorem Vals.at {vs : List V} {us : List Value} (h : Vals vs us) (i : Nat) : (vs[i]? = none ∧ us[i]? = none) ∨ ∃ v u, vs[i]? = some v ∧ us[i]? = some u ∧ RelV v u := by
  induction h generalizing i with
  | nil => exact .inl ⟨by simp, by simp⟩
  | cons r _ ih => cases i with
    | zero => exact .inr ⟨_, _, rfl, rfl, r⟩
    | succ i => simpa using ih i
section
variable {X : Cx} [WdOk X.w] {k n m : Nat} {F : FnD} {x : Str} {p pos kpos : Pos} {e : Expr} {es : List Expr} {kws : List Keyword} {fa : EA} {fe : EE} {ks : List Str} {is : List Nat} {nm : Option Str}
end
end T3

end
section
set_option linter.all false
set_option autoImplicit false
set_option Elab.async false
set_option maxRecDepth 100000
namespace T3
open PySem PySem.Spec PyProof.Rows L2 LamA LamX
variable [TabL]
end T3

end
section
set_option linter.all false
set_option autoImplicit false
set_option Elab.async false
set_option maxRecDepth 100000
namespace T3
open PySem PySem.Spec PyProof.Rows L2
variable [TabL]
mutual
/-- no list in it, and no dict but such as have numbers and texts for keys -/
def okZ : PyData → Bool
  | .none => true
  | .bool _ => true
  | .int _ => true
  | .str _ => true
  | .tuple xs => okZs xs
  | .dict ((.list [.none], .none) :: kvs) => okZk kvs
  | _ => false
def okZs : List PyData → Bool
  | [] => true
  | x :: xs => okZ x && okZs xs
def okZk : List (PyData × PyData) → Bool
  | [] => true
  | (_, x) :: kvs => okZ x && okZk kvs
end
mutual
/-- the datum as the repr tells it -/
def realZ : PyData → PyData
  | .tuple xs => .tuple (realZs xs)
  | .dict ((.list [.none], .none) :: kvs) => .dict (realZk kvs)
  | x => x
def realZs : List PyData → List PyData
  | [] => []
  | x :: xs => realZ x :: realZs xs
def realZk : List (PyData × PyData) → List (PyData × PyData)
  | [] => []
  | (k, x) :: kvs => (k, realZ x) :: realZk kvs
end
theorem realZk_fst : ∀ kvs : List (PyData × PyData), (realZk kvs).map (·.1) = kvs.map (·.1)
  | [] => rfl
  | (k, x) :: kvs => by simp [realZk, realZk_fst kvs]
theorem realZk_snd : ∀ kvs : List (PyData × PyData), (realZk kvs).map (·.2) = realZs (kvs.map (·.2))
  | [] => rfl
  | (k, x) :: kvs => by simp [realZk, realZs, realZk_snd kvs]
theorem okZk_snd : ∀ kvs : List (PyData × PyData), okZk kvs = okZs (kvs.map (·.2))
  | [] => rfl
  | (k, x) :: kvs => by simp [okZk, okZs, okZk_snd kvs]
theorem reads_keys {P : Program} {w : World} {h : Heap} : ∀ {es : List DictEntry} {vs : List (L2.Key × Value)}, Pairs (mixKind P w) es vs → ReadsAll h (es.map (·.key)) (vs.map fun q => keyD q.1) []
  | _, _, .nil => .nil
  | _, _, .cons (e := e) (kv := kv) h1 h2 r => by
    have ih := reads_keys (h := h) r
    obtain ⟨k, v⟩ := kv
    have k1 : keyIs k e.key = true := h1
    have one : Reads h e.key (keyD k) [] := by
      generalize e.key = u at *
      cases k with
      | inl i => cases u <;> simp [keyIs, Value.isInt] at k1; subst k1; exact .int _ _
      | inr x => cases u <;> simp [keyIs, Value.isStrOf] at k1; subst k1; exact .str _ _
    exact .cons (as := []) (bs := []) one ih
theorem pairs_val {P : Program} {w : World} : ∀ {es : List DictEntry} {vs : List (L2.Key × Value)}, Pairs (mixKind P w) es vs → es.map (·.val) = vs.map (·.2)
  | _, _, .nil => rfl
  | _, _, .cons h1 h2 r => by simp [h2, pairs_val r]
theorem kv_fst : ∀ {ws : List (L2.Key × V)} {vs : List (L2.Key × Value)}, KV ws vs → vs.map (·.1) = ws.map (·.1)
  | _, _, .nil => rfl
  | _, _, .cons h r => by simp [← h.1, kv_fst r]
theorem kv_snd : ∀ {ws : List (L2.Key × V)} {vs : List (L2.Key × Value)}, KV ws vs → Vals (ws.map (·.2)) (vs.map (·.2))
  | _, _, .nil => .nil
  | _, _, .cons h r => .cons h.2 (kv_snd r)
mutual
theorem Rp.readsZ {X : Cx} [WdOk X.w] {pins : List (Addr × Obj)} {σ : L2.St} {B : Mset} {H : Hp} {s : Shared} (I : Inv X pins σ H s) : ∀ {v : V} {d : PyData}, Rp X.K B H v d → okZ d = true → ∀ u, RelV v u → ∃ as, Reads s.heap u (realZ d) as ∧ ¬ sysModules ∈ as
  | _, _, .non, _, u, e => by
    have e : u = .none := e
    subst e; exact ⟨[], .none, by simp⟩
  | _, _, .bl b, _, u, e => by
    have e : u = .bool b := e
    subst e; exact ⟨[], .bool b, by simp⟩
  | _, _, .int i, _, u, e => by
    obtain ⟨t, rfl⟩ : ∃ t, u = .int i t := e
    exact ⟨[], .int i t, by simp⟩
  | _, _, .str x, _, u, e => by
    obtain ⟨t, rfl⟩ : ∃ t, u = .str x t := e
    exact ⟨[], .str x t, by simp⟩
  | _, _, .tup h r, ok, u, e => by
    have e : u = .ref _ := e
    subst e
    obtain ⟨its, hv, ht, _⟩ := I.tuple h
    obtain ⟨as, h1, h2⟩ := RpA.readsZ I r (by unfold okZ at ok; exact ok) _ hv
    obtain ⟨o, g1, g2, n, g3⟩ := ht
    unfold realZ
    exact ⟨as, .tuple g1 g2 g3 (by simpa using h1), h2⟩
  | _, _, .dck (kvs := kvs) h nb hk r, ok, u, e => by
    have e : u = .ref _ := e
    subst e
    obtain ⟨_, na, vs, kv, o, es, ep, g1, g2, g3, g4, g5, g6⟩ := (I.hok _ _ h : ObjOk _ _ _ _ _ (.dK _))
    obtain ⟨as, h1, h2⟩ := RpA.readsZ I r (by unfold okZ at ok; rw [okZk_snd, List.map_map] at ok; exact ok) _ (kv_snd kv)
    have hk2 : vs.map (·.1) = kvs.map (·.1) := (kv_fst kv).trans hk
    have rk := reads_keys (h := s.heap) g5
    have rv := pairs_val g5
    unfold realZ
    refine ⟨_ :: [] ++ as, .dict g1 g2.1 g3 (as := []) (bs := as) ?_ ?_, ?_⟩
    · rw [realZk_fst, List.map_map]
      have : vs.map (fun q => keyD q.1) = kvs.map ((fun q : PyData × PyData => q.1) ∘ fun q => (keyD q.1, q.2)) := by
        have := congrArg (List.map keyD) hk2
        simpa [List.map_map, Function.comp_def] using this
      rw [← this]
      exact rk
    · rw [rv, realZk_snd, List.map_map]
      exact h1
    · simp only [List.cons_append, List.nil_append, List.mem_cons, not_or]
      exact ⟨fun z => by rw [← z] at na; simp at na, h2⟩
  | _, _, .lst _ _ _, ok, _, _ => by simp [okZ] at ok
  | _, _, .frz _ _, ok, _, _ => by simp [okZ] at ok
  | _, _, .kls _ _ _ _ _ _ _, ok, _, _ => by simp [okZ] at ok
  | _, _, .fn _, ok, _, _ => by simp [okZ] at ok
  | _, _, .exn, ok, _, _ => by simp [okZ] at ok
  | _, _, .obj, ok, _, _ => by simp [okZ] at ok
  | _, _, .ntp _ _ _, ok, _, _ => by simp [okZ] at ok
  | _, _, .lam _ _ _ _ _, ok, _, _ => by simp [okZ] at ok
  | _, _, .dct _ _ _ _ _ _, ok, _, _ => by simp [okZ] at ok
theorem RpA.readsZ {X : Cx} [WdOk X.w] {pins : List (Addr × Obj)} {σ : L2.St} {B : Mset} {H : Hp} {s : Shared} (I : Inv X pins σ H s) : ∀ {vs : List V} {ds : List PyData}, RpA X.K B H vs ds → okZs ds = true → ∀ us, Vals vs us → ∃ as, ReadsAll s.heap us (realZs ds) as ∧ ¬ sysModules ∈ as
  | _, _, .nil, _, us, e => by
    cases e
    exact ⟨[], .nil, by simp⟩
  | _, _, .cons r1 r2, ok, us, e => by
    cases e with
    | cons e1 e2 =>
      simp only [okZs, Bool.and_eq_true] at ok
      obtain ⟨as, a1, a2⟩ := Rp.readsZ I r1 ok.1 _ e1
      obtain ⟨bs, b1, b2⟩ := RpA.readsZ I r2 ok.2 _ e2
      exact ⟨as ++ bs, .cons a1 b1, by simp [a2, b2]⟩
end
def ShZ (d : PyData) : Prop := okZ d = true ∧ (realZ d).showable = true ∧ (realZ d).depth ≤ 60 ∧ (realZ d).shown.length ≤ 1000000
noncomputable instance (d : PyData) : Decidable (ShZ d) := Classical.propDecidable _
def oIsiZ (t : T5) : List PyData → Option PyData
  | [.dict ((.list [.none], .none) :: _)] => some (.bool false)
  | ds => oIsi t ds
@[simp] theorem oIsiZ_d (t : T5) (kvs : List (L2.Key × PyData)) : oIsiZ t [dkD kvs] = some (.bool false) := rfl
@[simp] theorem oIsiZ_i (t : T5) (i : Int) : oIsiZ t [.int i] = some (.bool (isi5 t (.int i))) := rfl
@[simp] theorem oIsiZ_b (t : T5) (i : Bool) : oIsiZ t [.bool i] = some (.bool (isi5 t (.bool i))) := rfl
@[simp] theorem oIsiZ_n (t : T5) : oIsiZ t [.none] = some (.bool (isi5 t .none)) := rfl
@[simp] theorem oIsiZ_s (t : T5) (i : Str) : oIsiZ t [.str i] = some (.bool (isi5 t (.str i))) := rfl
@[simp] theorem oIsiZ_t (t : T5) (i : List PyData) : oIsiZ t [.tuple i] = some (.bool (isi5 t (.tuple i))) := rfl
@[simp] theorem oIsiZ_l (t : T5) (i : List PyData) : oIsiZ t [.list i] = some (.bool (isi5 t (.list i))) := rfl
end T3

end
section
set_option linter.all false
set_option autoImplicit false
set_option Elab.async false
set_option maxRecDepth 100000
set_option maxHeartbeats 4000000
namespace T3
open PySem L2 MM
open PyProof.Rows
variable [TabL]
end T3

end
section
set_option linter.all false
set_option autoImplicit false
set_option Elab.async false
namespace T3
open PySem PySem.Spec PyProof.Rows L2 LamX
section
variable {P : Program} {w : World} {K : PySem.W.Frag} {mg mb : Str → Option Value} {k : Nat} {fa a t cc : Addr} {fd : FuncData} {x : Str} {sp : Sp} {s : Shared} {vs : List Value} {ns : List Int}
abbrev emT : Obj := { cls := .none, data := .fields #[] }
structure Sct (K : PySem.W.Frag) (a t : Addr) (H : Hp) : Prop where
  tb : H t = some (.tbl #[])
  kind : ∀ b, b ≠ t → H b = none ∨ ∃ o xs, H b = some (.frz o (.lst xs))
  two : ∀ b, H b ≠ none → b = a ∨ b = t
  free : H a ≠ none → K.lookup a = none
theorem Sct.off {H : Hp} (c : Sct K a t H) (ha : s.heap.get? a = some { cls := .type "list", data := .seq vs.toArray }) (ht : s.heap.get? t = some emT) {b : Addr} {o : Obj} (h : s.heap.get? b = some o) (n1 : ∀ xs m, o.data ≠ .seq xs m) (n2 : o.data ≠ .fields #[]) : H b = none := by
  apply Classical.byContradiction
  intro z
  rcases c.two b z with e | e
  · subst e
    rw [ha] at h
    injection h with h
    exact n1 _ _ (by rw [← h])
  · subst e
    rw [ht] at h
    injection h with h
    exact n2 (by rw [← h])
theorem Sct.off_d {H : Hp} (c : Sct K a t H) (ha : s.heap.get? a = some { cls := .type "list", data := .seq vs.toArray }) (ht : s.heap.get? t = some emT) {b : Addr} {o : Obj} {es : Array DictEntry} {m : Nat} (h : s.heap.get? b = some o) (d : o.data = .dict es m) : H b = none :=
  c.off ha ht h (fun xs n z => by rw [d] at z; cases z) (fun z => by rw [d] at z; cases z)
theorem Sct.spc {H : Hp} (c : Sct K a t H) (ha : s.heap.get? a = some { cls := .type "list", data := .seq vs.toArray }) (ht : s.heap.get? t = some emT) {b : Addr} {m : Str → Option Value} (h : s.heap.Ns b m) : (hidT s.heap H).Ns b m := by
  obtain ⟨o, es, n, h1, h2, h3⟩ := h
  exact ⟨o, es, n, hidT_get h1 (c.off_d ha ht h1 h2), h2, h3⟩
theorem Sct.kin {H : Hp} (c : Sct K a t H) (nT : K.lookup t = none) (KX : K.In s.heap) : K.In (hidT s.heap H) := by
  intro b o h
  refine hidT_get (KX b o h) (Classical.byContradiction fun z => ?_)
  rcases c.two b z with e | e
  · subst e
    rw [c.free z] at h
    cases h
  · subst e
    rw [nT] at h
    cases h
theorem Sct.tbB {H : Hp} (c : Sct K a t H) (ha : s.heap.get? a = some { cls := .type "list", data := .seq vs.toArray }) (ht : s.heap.get? t = some emT) (hd : PySem.W.CodeHd s.heap cc t) (hm : s.heap.Ns mainGlobals mg)
    (bm : ∃ (q : Addr) (ob : Obj), mg "__builtins__" = some (.ref q) ∧ q ≠ builtinsNs ∧ s.heap.get? q = some ob ∧ ob.cls = .type "module" ∧ ob.dict = some builtinsNs ∧ ob.data = .plain) : LamX.TabB (hidT s.heap H) mg cc t := by
  refine ⟨?_, ?_, ?_⟩
  · obtain ⟨o, us, file, tf, flags, tg, inF, text, tt, e1, r1, r2, r3, r4⟩ := hd
    exact ⟨o, us, file, tf, flags, tg, inF, text, tt, hidT_get e1 (c.off ha ht e1 (fun xs m z => by rw [r2] at z; cases z) (fun z => by rw [r2] at z; cases z; simp at r3)), r1, r2, r3, r4⟩
  · obtain ⟨q, ob, b1, b2, b3, b4, b5, b6⟩ := bm
    refine ⟨q, ob, b1, b2, fun z => ?_, fun z => ?_, hidT_get b3 (c.off ha ht b3 (fun xs m z => by rw [b6] at z; cases z) (fun z => by rw [b6] at z; cases z)), b4, b5, b6⟩
    · obtain ⟨o, es, ep, g1, g2, _⟩ := hm
      rw [z, g1] at b3
      cases b3
      rw [g2] at b6
      cases b6
    · rw [z, ht] at b3
      cases b3
      cases b6
  · intro z
    obtain ⟨o, es, ep, g1, g2, _⟩ := hm
    rw [z, ht] at g1
    cases g1
    cases g2
theorem Sct.run {H : Hp} (c : Sct K a t H) (nT : K.lookup t = none) (ha : s.heap.get? a = some { cls := .type "list", data := .seq vs.toArray }) (ht : s.heap.get? t = some emT) (hd : PySem.W.CodeHd s.heap cc t) (KX : K.In s.heap) (hm : s.heap.Ns mainGlobals mg) (hb : s.heap.Ns builtinsNs mb) (hbb : ∀ x : Str, x ≠ "__name__" → mb x = bootBuiltins x) (nl : s.heap.NoLimit) (hg : s.gens = #[])
    (bm : ∃ (q : Addr) (ob : Obj), mg "__builtins__" = some (.ref q) ∧ q ≠ builtinsNs ∧ s.heap.get? q = some ob ∧ ob.cls = .type "module" ∧ ob.dict = some builtinsNs ∧ ob.data = .plain)
    (hr : Room k callerA) (F : ∀ base : Heap, K.In base → base.Ns mainGlobals mg → LamX.TabB base mg cc t → FnG P w K mg base k fa fd [x] sp) (bi : ∀ (s : Shared) (u : Value), BindsTo s fd ⟨[u], []⟩ [(x, u)]) (hok : HOk P w H s.heap)
    (hs : sp [.ref a] H (fun v _ => v = .bl true) fun _ _ _ => False) :
    codeAny (model P w) callerA (.call (.ref fa) ⟨[.ref a], []⟩) (fun r s2 => r = .ok (.ret (.bool true)) ∧ OldK s.heap s2.heap ∧ s2.os = s.os ∧ AllBare s2.gens) s := by
  obtain ⟨mc, n1, n2⟩ := nl
  have md : Mod K mg (hidT s.heap H) := ⟨c.kin nT KX, c.spc ha ht hm, ⟨mb, c.spc ha ht hb, hbb⟩, mc, c.spc ha ht n1, n2⟩
  have ev : Env0 P w K mg (hidT s.heap H) callerA [] s H := {
    frames := rfl
    mod := md
    bs := fun b o h => of_hidT h
    bsz := Nat.le_of_eq (hidT_size _ _)
    funs := trivial
    frf := fun b h => nomatch (show b ∈ ([] : List Addr) from h)
    hok := hok
    bare := .of_eq hg }
  have tbl := c.tbB ha ht hd hm bm
  have cl := (F _ md.kin (c.spc ha ht hm) tbl).go callerA [] s H ⟨[.ref a], []⟩ [.ref a] [.ref a] _ _ hr rfl ev (bi s (.ref a)) (.cons rfl .nil) hs
  refine codeAny_mono cl ?_
  intro r s2 h
  match r, h with
  | .ok .next, h => exact h.elim
  | .ok .brk, h => exact h.elim
  | .ok .cont, h => exact h.elim
  | .error _, h => exact h.elim
  | .ok (.ret u), ⟨v, H2, os, br, un, hok2, rv, q⟩ =>
    have q : v = .bl true := q
    subst q
    have eu : u = .bool true := rv
    subst eu
    have old : ∀ b o, b ≠ t → s.heap.get? b = some o → s2.heap.get? b = some o := fun b o nt h => by
      rcases c.kind b nt with z | ⟨ob, ys, z⟩
      · exact un.keep b o h z (fun y => nomatch (show b ∈ ([] : List Addr) from y)) (by simp)
      · have h1 := (hok b _ z).1
        rw [h] at h1
        cases h1
        exact (hok2 b _ (un.frzs b o _ z)).1
    obtain ⟨mo, z⟩ := un.tbls t #[] c.tb
    have hz := hok2 t _ z
    rw [Array.empty_append] at hz
    refine ⟨rfl, ⟨fun b o h => ?_, fun b o h => ?_⟩, os, br⟩
    · by_cases e : b = t
      · subst e
        rw [ht] at h
        cases h
        exact .inr (.inl ⟨(hd.tab ht).isCodeTable, rfl, #[], mo, rfl, by rw [Array.empty_append]; exact hz⟩)
      · exact .inl (old b o e h)
    · by_cases e : b = t
      · subst e; exact ⟨_, hz⟩
      · exact ⟨o, old b o e h⟩
end
end T3

end
section
set_option linter.all false
set_option autoImplicit false
set_option Elab.async false
namespace T3
open PySem PySem.Spec PyProof.Rows L2
variable [TabL]
end T3

end
section
set_option linter.all false
set_option autoImplicit false
set_option Elab.async false
set_option maxRecDepth 100000
namespace T3
open PySem PySem.Spec PyProof.Rows L2
variable [TabL]
abbrev XS := Sl → Str → Sl → Prop
abbrev FnX := List S → Str → Prop
section
variable {X : Cx} [WdOk X.w] {W : WX} {st : Stmt} {rest : List Stmt} {f : SS} {x y : XS} {e : Expr} {pos : Pos}
end
end T3

end
section
set_option linter.all false
set_option autoImplicit false
set_option Elab.async false
set_option maxRecDepth 100000
namespace T3
open PySem PySem.Spec PyProof.Rows PySem.Calls L2
variable [TabL]
section
variable {X : Cx} [WdOk X.w] {C : Addr} {bmB : List Value} {B newId initId : String}
end
structure ExK (K : PySem.W.Frag) (mg : Str → Option Value) (x : Str) (C : Addr) : Prop where
  g : mg x = some (.ref C)
  q : PySem.W.excIn K C [.type "ValueError", .type "Exception", .type "BaseException", .type "object"] "ValueError.__new__" = true
  kp : PySem.W.keepIn K (.ref C) = true
  bs : PySem.W.subIn K (.ref C) (.type "BaseException") = some true
  ty : PySem.W.typeIn K (.ref C) = some (.type "type")
section
variable {X : Cx} [WdOk X.w] {W : WX} {p pos pos2 : Pos} {x : Str} {C : Addr}
end
end T3

end
section
set_option linter.all false
set_option autoImplicit false
set_option Elab.async false
set_option maxRecDepth 100000
namespace T3
open PySem PySem.Spec PyProof.Rows PySem.Calls L2
variable [TabL]
section
variable {X : Cx} [WdOk X.w] {W : WX} {k n : Nat} {F : FnX} {x : Str} {p pos : Pos} {e : Expr} {es : List Expr} {fa : EA}
end
end T3

end
section
set_option linter.all false
set_option autoImplicit false
set_option Elab.async false
set_option maxRecDepth 100000
namespace LamA
open PySem PySem.Spec PyProof.Rows L2 LamX NdefX
section
variable {Z : Cx} {W : WX} {F : NF} {f : Addr} {params : Arguments} {body : Expr} {pm ctv : Value} {N fr : List Str} {ws : List (Option V)} {k i : Nat} {x : Str} {p pos : Pos} {tb : XK → TE}
end
end LamA

end
section
set_option linter.all false
set_option autoImplicit false
set_option Elab.async false
set_option maxRecDepth 100000
namespace T3
open PySem PySem.Spec PyProof.Rows L2
variable [TabL]
abbrev XF := Sl → Option (Str × Sl)
def rl (x : XF) : XS := fun env nm e' => x env = some (nm, e')
section
variable {X : Cx} [WdOk X.w] {W : WX} {st : Stmt} {rest : List Stmt} {f : SS} {x y : XF} {e : Expr} {pos : Pos}
end
theorem At.over {K : PySem.W.Frag} {σ τ τ' : L2.St} {B B1 B2 : Mset} {H H1 H2 : Hp} {env env1 E0 e' : Sl} (e : EnvR K B H σ env) (a : At K σ B H env B1 H1 env1) (no : ∀ (i : Nat) m c, E0[i]? ≠ some (some (S.mu m c))) (b : AtS K τ B1 H1 E0 τ' B2 H2 e') : At K σ B H env B2 H2 env1 := by
  have nw : ∀ q, ¬ Wof τ E0 q := fun q ⟨i, m, c, h, _⟩ => no i m c h
  have st : Stp (Wof σ env1) B1 H1 (Wof σ env1) B2 H2 := ⟨fun q o h n => b.st.keep q o h (n.imp (fun n => ⟨nw q, n.2⟩) id), b.st.new, fun q h _ => b.st.old q h (nw q), fun q h => .inl h, b.st.liv, fun x p q us h _ e => b.st.pa x p q us h (nw x) e⟩
  have g : Grow B1 H1 B2 H2 := b.st.grow (fun q h => (nw q h).elim)
  refine ⟨a.st.trans st e.wb e.dom, ⟨a.en.len, fun i x h => ?_, fun i x h => ?_, fun i m c h => ?_, a.en.inj, b.en.dom, b.en.tb⟩, a.sm, a.ks⟩
  · obtain ⟨v, h1, h2⟩ := a.en.pd i x h
    exact ⟨v, h1, h2.grow g⟩
  · obtain ⟨v, h1, h2⟩ := a.en.nt i x h
    exact ⟨v, h1, h2.grow g⟩
  · obtain ⟨p, h1, h2, h3⟩ := a.en.mu i m c h
    refine ⟨p, h1, b.st.old p h2 (nw p), ?_⟩
    have kp : ∀ o, H1 p = some o → NT o → H2 p = some o := fun o ho n => b.st.keep p o ho (.inl ⟨nw p, n⟩)
    refine h3.hop g fun b' o hb e => ?_
    rcases hb with rfl | ⟨hb, q, us, rfl⟩
    · exact kp o e (h3.nt e)
    · exact b.st.pa _ _ _ _ hb (nw _) e
end T3

end
section
set_option linter.all false
set_option autoImplicit false
set_option Elab.async false
set_option maxRecDepth 100000
namespace T3
open PySem PySem.Spec PyProof.Rows L2 LamA NdefX LamX
variable [TabL]
structure Wrap (Z : Cx) (e ec : Expr) (wr : EE → EE) : Prop where
  ex : ∃ tw : TE → TE, (∀ te, PE Z ec te → PE Z e (tw te)) ∧ (∀ (fb : EE) (τ σ : L2.St) (H : Hp) (Q : VK) (te : TE), (∀ Q', tE Z.K fb τ H Q' → te σ H Q') → tE Z.K (wr fb) τ H Q → tw te σ H Q) ∧ (∀ (σ : L2.St) (H : Hp) (Q : VK) (te : TE), (∀ Q', te σ H Q') → tw te σ H Q)
end T3

end
section
set_option linter.all false
set_option autoImplicit false
set_option Elab.async false
set_option maxRecDepth 100000
namespace T3
open PySem PySem.Spec PyProof.Rows L2 LamA NdefX LamX
variable [TabL]
instance wd_cx {C : CXT} {P : Program} {w : World} {K : PySem.W.Frag} {mg : Str → Option Value} {base : Heap} {N : List Str} {x : Str} {sc : Scope} {f : Addr} {cd : Value} {A : Around} {out : List Env} {s : Shared} {H : Hp} {E : XK} [h : WdOk w] : WdOk (cxOf C P w K mg base N x sc f cd A out s H E).w := h
instance wd_nox {X : Cx} [h : WdOk X.w] : WdOk X.nox.w := h
instance wd_tr {X : Cx} {pn : List (Addr × Obj)} {xe : Value → Shared → Prop} [h : WdOk X.w] : WdOk (X.tr pn xe).w := h
instance wd_ncx {C : CXT} {P : Program} {w : World} {K : PySem.W.Frag} {mg : Str → Option Value} {base : Heap} {N : List Str} {F : NF} {f : Addr} {A : Around} {out : List Env} {s : Shared} {H : Hp} {E : XK} [h : WdOk w] : WdOk (ncx C P w K mg base N F f A out s H E).w := h
section
variable {X : Cx} [WdOk X.w] {x : Str} {st : Stmt} {Ng fr : List Str} {a n te : Str} {k i : Nat} {q : Str} {params : Arguments} {body e1 : Expr} {b0 : Stmt} {su : List Stmt} {scope : Scope} {p lpos pos q1 q2 tp rp hp np : Pos} {cX P CT : Addr} {js : List Nat} {fb : EE} {xb : XF} {wr : EE → EE} {hs : Str → Option PyData}
end
end T3

end
section
set_option linter.all false
set_option autoImplicit false
set_option Elab.async false
set_option maxRecDepth 100000
namespace T3
open PySem PySem.Spec PyProof.Rows L2
variable [TabL]
theorem Rp.exn_inv {K : PySem.W.Frag} {B : Mset} {H : Hp} {v : V} {a : Addr} (h : Rp K B H v (exD a)) : v = .ref a := by
  generalize hd : exD a = d at h
  cases h with
  | exn =>
    simp only [exD, PyData.dict.injEq, List.cons.injEq, Prod.mk.injEq, PyData.int.injEq, and_true, Int.ofNat_inj] at hd
    obtain ⟨_, rfl⟩ := hd
    rfl
  | fn h => simp [exD, fnV] at hd
  | _ => cases hd
section
variable {X : Cx} [WdOk X.w] {a D : Addr} {oe : Obj} {pn : List (Addr × Obj)} {n x : Str} {i : Nat} {p p1 p2 pos : Pos} {v : V} {u : Value} {b : Bool}
end
end T3

end
section
set_option linter.all false
set_option autoImplicit false
set_option Elab.async false
set_option maxRecDepth 100000
namespace T3
open PySem PySem.Spec PyProof.Rows L2
variable [TabL]
end T3
namespace T3
open PySem PySem.Spec PyProof.Rows L2
structure ExA (K : PySem.W.Frag) (mg : Str → Option Value) (x : Str) (C CT : Addr) : Prop extends ExK K mg x C where
  c : L2.ExcC K C
  e : PySem.W.exmOne K (.ref C) (.ref CT) = some true
end T3
namespace T3
open PySem PySem.Spec PyProof.Rows L2
variable [TabL]
end T3
namespace T3
open PySem L2
end T3

end
section
set_option linter.all false
set_option autoImplicit false
set_option Elab.async false
set_option maxRecDepth 100000
namespace T3
open PySem PySem.Spec PyProof.Rows L2
variable [TabL]
section
variable {X : Cx} [WdOk X.w] {a C : Addr} {oe : Obj} {pn : List (Addr × Obj)} {x n par : Str} {st : Stmt} {Nw : List Str} {k i : Nat} {b : SS} {p p1 pos : Pos} {e : Expr} {fa : EE}
end
end T3

end
section
set_option linter.all false
set_option autoImplicit false
set_option Elab.async false
namespace T3
open PySem PySem.Spec PyProof.Rows L2 LamX
section
variable {P : Program} {w : World} {K : PySem.W.Frag} {mg mb : Str → Option Value} {k : Nat} {fa a : Addr} {cs : List (Addr × Addr)} {fd : FuncData} {x : Str} {sp : Sp} {s : Shared} {vs : List Value} {ns : List Int}
structure Scs (K : PySem.W.Frag) (a : Addr) (cs : List (Addr × Addr)) (H : Hp) : Prop where
  tb : ∀ p ∈ cs, H p.2 = some (.tbl #[])
  kind : ∀ b, (∀ p ∈ cs, b ≠ p.2) → H b = none ∨ ∃ o xs, H b = some (.frz o (.lst xs))
  two : ∀ b, H b ≠ none → b = a ∨ ∃ p ∈ cs, b = p.2
  free : H a ≠ none → K.lookup a = none
theorem Scs.off {H : Hp} (c : Scs K a cs H) (ha : s.heap.get? a = some { cls := .type "list", data := .seq vs.toArray }) (ht : ∀ p ∈ cs, s.heap.get? p.2 = some emT) {b : Addr} {o : Obj} (h : s.heap.get? b = some o) (n1 : ∀ xs m, o.data ≠ .seq xs m) (n2 : o.data ≠ .fields #[]) : H b = none := by
  apply Classical.byContradiction
  intro z
  rcases c.two b z with e | e
  · subst e
    rw [ha] at h
    injection h with h
    exact n1 _ _ (by rw [← h])
  · obtain ⟨p, hp, rfl⟩ := e
    rw [ht p hp] at h
    injection h with h
    exact n2 (by rw [← h])
theorem Scs.off_d {H : Hp} (c : Scs K a cs H) (ha : s.heap.get? a = some { cls := .type "list", data := .seq vs.toArray }) (ht : ∀ p ∈ cs, s.heap.get? p.2 = some emT) {b : Addr} {o : Obj} {es : Array DictEntry} {m : Nat} (h : s.heap.get? b = some o) (d : o.data = .dict es m) : H b = none :=
  c.off ha ht h (fun xs n z => by rw [d] at z; cases z) (fun z => by rw [d] at z; cases z)
theorem Scs.spc {H : Hp} (c : Scs K a cs H) (ha : s.heap.get? a = some { cls := .type "list", data := .seq vs.toArray }) (ht : ∀ p ∈ cs, s.heap.get? p.2 = some emT) {b : Addr} {m : Str → Option Value} (h : s.heap.Ns b m) : (hidT s.heap H).Ns b m := by
  obtain ⟨o, es, n, h1, h2, h3⟩ := h
  exact ⟨o, es, n, hidT_get h1 (c.off_d ha ht h1 h2), h2, h3⟩
theorem Scs.kin {H : Hp} (c : Scs K a cs H) (nT : ∀ p ∈ cs, K.lookup p.2 = none) (KX : K.In s.heap) : K.In (hidT s.heap H) := by
  intro b o h
  refine hidT_get (KX b o h) (Classical.byContradiction fun z => ?_)
  rcases c.two b z with e | e
  · subst e
    rw [c.free z] at h
    cases h
  · obtain ⟨p, hp, rfl⟩ := e
    rw [nT p hp] at h
    cases h
theorem Scs.tbB {H : Hp} (c : Scs K a cs H) (ha : s.heap.get? a = some { cls := .type "list", data := .seq vs.toArray }) (ht : ∀ p ∈ cs, s.heap.get? p.2 = some emT) (hd : ∀ p ∈ cs, PySem.W.CodeHd s.heap p.1 p.2) (hm : s.heap.Ns mainGlobals mg)
    (bm : ∃ (q : Addr) (ob : Obj), mg "__builtins__" = some (.ref q) ∧ q ≠ builtinsNs ∧ s.heap.get? q = some ob ∧ ob.cls = .type "module" ∧ ob.dict = some builtinsNs ∧ ob.data = .plain) : ∀ p ∈ cs, LamX.TabB (hidT s.heap H) mg p.1 p.2 := by
  intro p hp
  refine ⟨?_, ?_, ?_⟩
  · obtain ⟨o, us, file, tf, flags, tg, inF, text, tt, e1, r1, r2, r3, r4⟩ := hd p hp
    exact ⟨o, us, file, tf, flags, tg, inF, text, tt, hidT_get e1 (c.off ha ht e1 (fun xs m z => by rw [r2] at z; cases z) (fun z => by rw [r2] at z; cases z; simp at r3)), r1, r2, r3, r4⟩
  · obtain ⟨q, ob, b1, b2, b3, b4, b5, b6⟩ := bm
    refine ⟨q, ob, b1, b2, fun z => ?_, fun z => ?_, hidT_get b3 (c.off ha ht b3 (fun xs m z => by rw [b6] at z; cases z) (fun z => by rw [b6] at z; cases z)), b4, b5, b6⟩
    · obtain ⟨o, es, ep, g1, g2, _⟩ := hm
      rw [z, g1] at b3
      cases b3
      rw [g2] at b6
      cases b6
    · rw [z, ht p hp] at b3
      cases b3
      cases b6
  · intro z
    obtain ⟨o, es, ep, g1, g2, _⟩ := hm
    rw [z, ht p hp] at g1
    cases g1
    cases g2
theorem Scs.run {H : Hp} (c : Scs K a cs H) (nT : ∀ p ∈ cs, K.lookup p.2 = none) (ha : s.heap.get? a = some { cls := .type "list", data := .seq vs.toArray }) (ht : ∀ p ∈ cs, s.heap.get? p.2 = some emT) (hd : ∀ p ∈ cs, PySem.W.CodeHd s.heap p.1 p.2) (KX : K.In s.heap) (hm : s.heap.Ns mainGlobals mg) (hb : s.heap.Ns builtinsNs mb) (hbb : ∀ x : Str, x ≠ "__name__" → mb x = bootBuiltins x) (nl : s.heap.NoLimit) (hg : s.gens = #[])
    (bm : ∃ (q : Addr) (ob : Obj), mg "__builtins__" = some (.ref q) ∧ q ≠ builtinsNs ∧ s.heap.get? q = some ob ∧ ob.cls = .type "module" ∧ ob.dict = some builtinsNs ∧ ob.data = .plain)
    (hr : Room k callerA) (F : ∀ base : Heap, K.In base → base.Ns mainGlobals mg → (∀ p ∈ cs, LamX.TabB base mg p.1 p.2) → FnG P w K mg base k fa fd [x] sp) (bi : ∀ (s : Shared) (u : Value), BindsTo s fd ⟨[u], []⟩ [(x, u)]) (hok : HOk P w H s.heap)
    (hs : sp [.ref a] H (fun v _ => v = .bl true) fun _ _ _ => False) :
    codeAny (model P w) callerA (.call (.ref fa) ⟨[.ref a], []⟩) (fun r s2 => r = .ok (.ret (.bool true)) ∧ OldK s.heap s2.heap ∧ s2.os = s.os ∧ AllBare s2.gens) s := by
  obtain ⟨mc, n1, n2⟩ := nl
  have md : Mod K mg (hidT s.heap H) := ⟨c.kin nT KX, c.spc ha ht hm, ⟨mb, c.spc ha ht hb, hbb⟩, mc, c.spc ha ht n1, n2⟩
  have ev : Env0 P w K mg (hidT s.heap H) callerA [] s H := {
    frames := rfl
    mod := md
    bs := fun b o h => of_hidT h
    bsz := Nat.le_of_eq (hidT_size _ _)
    funs := trivial
    frf := fun b h => nomatch (show b ∈ ([] : List Addr) from h)
    hok := hok
    bare := .of_eq hg }
  have tbl := c.tbB ha ht hd hm bm
  have cl := (F _ md.kin (c.spc ha ht hm) tbl).go callerA [] s H ⟨[.ref a], []⟩ [.ref a] [.ref a] _ _ hr rfl ev (bi s (.ref a)) (.cons rfl .nil) hs
  refine codeAny_mono cl ?_
  intro r s2 h
  match r, h with
  | .ok .next, h => exact h.elim
  | .ok .brk, h => exact h.elim
  | .ok .cont, h => exact h.elim
  | .error _, h => exact h.elim
  | .ok (.ret u), ⟨v, H2, os, br, un, hok2, rv, q⟩ =>
    have q : v = .bl true := q
    subst q
    have eu : u = .bool true := rv
    subst eu
    have old : ∀ b o, (∀ p ∈ cs, b ≠ p.2) → s.heap.get? b = some o → s2.heap.get? b = some o := fun b o nt h => by
      rcases c.kind b nt with z | ⟨ob, ys, z⟩
      · exact un.keep b o h z (fun y => nomatch (show b ∈ ([] : List Addr) from y)) (by simp)
      · have h1 := (hok b _ z).1
        rw [h] at h1
        cases h1
        exact (hok2 b _ (un.frzs b o _ z)).1
    have tbs : ∀ p ∈ cs, ∃ mo, s2.heap.get? p.2 = some { cls := .none, data := .fields (#[] ++ mo) } := fun p hp => by
      obtain ⟨mo, z⟩ := un.tbls p.2 #[] (c.tb p hp)
      exact ⟨mo, hok2 p.2 _ z⟩
    refine ⟨rfl, ⟨fun b o h => ?_, fun b o h => ?_⟩, os, br⟩
    · by_cases e : ∃ p ∈ cs, b = p.2
      · obtain ⟨p, hp, rfl⟩ := e
        rw [ht p hp] at h
        cases h
        obtain ⟨mo, hz⟩ := tbs p hp
        rw [Array.empty_append] at hz
        exact .inr (.inl ⟨((hd p hp).tab (ht p hp)).isCodeTable, rfl, #[], mo, rfl, by rw [Array.empty_append]; exact hz⟩)
      · exact .inl (old b o (fun p hp z => e ⟨p, hp, z⟩) h)
    · by_cases e : ∃ p ∈ cs, b = p.2
      · obtain ⟨p, hp, rfl⟩ := e
        obtain ⟨mo, hz⟩ := tbs p hp
        exact ⟨_, hz⟩
      · exact ⟨o, old b o (fun p hp z => e ⟨p, hp, z⟩) h⟩
end
section
variable [TabL]
end
end T3

end
section
set_option linter.all false
set_option autoImplicit false
set_option Elab.async false
set_option maxRecDepth 100000
namespace T3
open PySem PySem.Spec PyProof.Rows L2 LamA NdefX LamX
variable [TabL]
section
variable {X : Cx} [WdOk X.w] {x : Str} {st : Stmt} {Ng psg : List Str} {k j : Nat} {q capt : Str} {params : Arguments} {body : Expr} {scope : Scope} {M : PyData → List PyData → SS} {p lpos pos : Pos} {e1 e2 : Expr} {f1 f2 : EE} {cX P : Addr}
end
section
variable {X : Cx} [WdOk X.w] {x : Str} {st : Stmt} {Ng psg : List Str} {k j : Nat} {q capt : Str} {params : Arguments} {body : Expr} {scope : Scope} {M : PyData → List PyData → SS} {p lpos pos : Pos} {e1 e2 : Expr} {f1 f2 : EE} {cX P : Addr} {y : Str} {x4 : PyData} {py : Pos}
end
end T3

end
section
set_option linter.all false
set_option autoImplicit false
set_option Elab.async false
set_option maxRecDepth 100000
namespace T3
open PySem PySem.Spec PyProof.Rows L2
variable [TabL]
def SplOk (a b : Str) : Prop := (b.length == 0) = false ∧ a.length + 2 ≤ sizeLine
noncomputable instance (a b : Str) : Decidable (SplOk a b) := Classical.propDecidable _
end T3

end
section
set_option linter.all false
set_option autoImplicit false
set_option Elab.async false
set_option maxRecDepth 100000
namespace T3
open PySem PySem.Spec PyProof.Rows L2
variable [TabL]
section
variable {X : Cx} [WdOk X.w] {W : WX} {k : Nat} {F : FnD} {x : Str} {xx : XS} {p pos : Pos} {a : Expr}
end
end T3

end
section
set_option linter.all false
set_option autoImplicit false
set_option Elab.async false
set_option maxRecDepth 100000
namespace T3
open PySem L2
variable [TabL]
section
variable {X : Cx} [WdOk X.w] {o e : Expr} {apos cpos : Pos} {td te : TE}
end
section
variable {X : Cx} [WdOk X.w] {o e : Expr} {apos cpos : Pos} {fd fe : EE}
end
end T3

end
section
set_option linter.all false
set_option autoImplicit false
set_option Elab.async false
set_option maxRecDepth 100000
namespace T3
open PySem L2
variable [TabL]
section
variable {prog : Program} {w : World} {A : Around} {E : Value → Shared → Prop} {s : Shared}
end
end T3

end
section
set_option linter.all false
set_option autoImplicit false
set_option Elab.async false
set_option maxRecDepth 100000
namespace T3
open PySem PySem.Spec PySem.W L2 PyProof.Rows
variable [TabL]
end T3

end
section
set_option linter.all false
set_option autoImplicit false
set_option Elab.async false
set_option maxRecDepth 100000
namespace T3
open PySem PySem.Spec PySem.W L2 PyProof.Rows
variable [TabL]
end T3

end
section
set_option linter.all false
set_option autoImplicit false
set_option Elab.async false
set_option maxRecDepth 100000
namespace T3
open PySem L2
variable [TabL]
end T3

end
section
set_option linter.all false
set_option autoImplicit false
set_option Elab.async false
namespace T3
open PySem L2
variable [TabL]
end T3

end
section
set_option linter.all false
set_option autoImplicit false
set_option Elab.async false
set_option maxRecDepth 100000
namespace T3
open PySem PySem.Spec PySem.SeqAt MeetsSeq AutoSeq1 PyProof.Rows L2
section
variable {K : Type} [DecidableEq K] {prog : Program} {w : World} {A : Around} {E : Value → Shared → Prop} {s : Shared} {knd : KeyKind prog w K}
end
section
variable [TabL] {X : Cx} [WdOk X.w]
end
section
variable [TabL]
end
end T3

end
section
set_option linter.all false
set_option autoImplicit false
set_option Elab.async false
set_option maxRecDepth 100000
namespace T3
open PySem PySem.Spec PyProof.Rows L2
variable [TabL]
def smI (i : Int) : Prop := -1000000000000 ≤ i ∧ i ≤ 1000000000000
instance (i : Int) : Decidable (smI i) := inferInstanceAs (Decidable (_ ∧ _))
def oStr : List PyData → Option PyData
  | [.int i] => if smI i then some (.str (toString i)) else none
  | _ => none
@[simp] theorem oStr_i {i : Int} (h1 : -1000000000000 ≤ i) (h2 : i ≤ 1000000000000) : oStr [.int i] = some (.str (toString i)) := if_pos ⟨h1, h2⟩
inductive PJe (X : Cx) : List Expr → List EE → Prop
  | nil : PJe X [] []
  | cons {e : Expr} {f : EE} {es : List Expr} {fs : List EE} (h : PE X e (tE X.K f)) (r : PJe X es fs) : PJe X (e :: es) (f :: fs)
end T3

end
section
set_option linter.all false
set_option autoImplicit false
set_option Elab.async false
set_option maxRecDepth 100000
namespace T3
open PySem PySem.Spec PyProof.Rows L2
variable [TabL]
end T3

end
section
set_option linter.all false
set_option autoImplicit false
set_option Elab.async false
set_option maxRecDepth 100000
namespace T3
open PySem L2
variable [TabL]
end T3

end
section
set_option linter.all false
set_option autoImplicit false
set_option Elab.async false
set_option maxRecDepth 100000
namespace T3
open PySem L2
variable [TabL]
def flds : List Str := ["floor", "here", "held", "rolled", "past"]
structure TabK (K : PySem.W.Frag) : Prop where
  cls : ∀ C, FnK K "Table" C → Cls K C
  na : ∀ C, FnK K "Table" C → ∀ f ∈ flds, NoAttr K C f
def fldR (nm : Str) : Ct → Option R
  | .tb fl here held rl _ => if nm = "floor" then some (.nt fl) else if nm = "here" then some (.pd here) else if nm = "held" then some (.pd held) else if nm = "rolled" then some (.pd rl) else none
  | _ => none
def eFld (i : Nat) (nm : Str) : EE := fun env => match env[i]? with
  | some (some (.mu _ c)) => match fldR nm c with
    | some r => some (r, env)
    | none => none
  | _ => none
theorem e_fld {X : Cx} {e : Expr} {i : Nat} {nm : Str} {pos : Pos} (T : TabK X.K) (h : PE X e (tVar i)) (hb : attributeBase e nm X.env (eval e X.env) = eval e X.env := by rfl) : PE X (.Attribute e nm pos) (tE X.K (eFld i nm)) := PE.imp (pe_fld h hb) fun σ H Q t => by
  obtain ⟨B, env, d, env', en, ev, q⟩ := t
  unfold eFld at ev
  split at ev
  · rename_i m c hi
    split at ev
    · rename_i r hr
      cases ev
      obtain ⟨a, hσ, hB, ct⟩ := en.mu _ _ _ hi
      cases c with
      | tb fl here held rl past =>
        obtain ⟨C, dx, af, p, v2, v3, v4, vs, h1, h2, h3, h4, h5, h6, h7, h8, h9⟩ := ct
        refine ⟨_, hσ, ?_⟩
        dsimp only [fldR] at hr
        split at hr
        · rename_i e; subst e; cases hr
          exact ⟨a, C, dx, _, _, rfl, h1, T.cls C h2, T.na C h2 _ (by decide), rfl, q B H _ (.refl en) ⟨af, rfl, h3⟩⟩
        · split at hr
          · rename_i e; subst e; cases hr
            exact ⟨a, C, dx, _, v2, rfl, h1, T.cls C h2, T.na C h2 _ (by decide), rfl, q B H _ (.refl en) h4⟩
          · split at hr
            · rename_i e; subst e; cases hr
              exact ⟨a, C, dx, _, v3, rfl, h1, T.cls C h2, T.na C h2 _ (by decide), rfl, q B H _ (.refl en) h5⟩
            · split at hr
              · rename_i e; subst e; cases hr
                exact ⟨a, C, dx, _, v4, rfl, h1, T.cls C h2, T.na C h2 _ (by decide), rfl, q B H _ (.refl en) h6⟩
              · cases hr
      | ls => cases hr
      | dk => cases hr
      | dn => cases hr
    · cases ev
  · cases ev
def fldP (nm : Str) (y : PyData) : Ct → Option Ct
  | .tb fl here held rl past => if nm = "here" then some (.tb fl y held rl past) else if nm = "held" then some (.tb fl here y rl past) else if nm = "rolled" then some (.tb fl here held y past) else none
  | _ => none
def sFldT (i : Nat) (nm : Str) (fv : EE) : SS := fun env => match fv env with
  | some (d, e1) => match pdOf d with
    | some y => match e1[i]? with
      | some (some (.mu m c)) => if m = .fro then none else match fldP nm y c with
        | some c' => some (.nx, e1.set i (some (.mu m c')))
        | none => none
      | _ => none
    | none => none
  | none => none
theorem PU.ins {H : Hp} {a C dx : Addr} {fs fs' : List (Str × V)} (h : PU H) (e : H a = some (.ins C dx fs)) (l : fs'.lookup ("past" : Str) = fs.lookup ("past" : Str)) : PU (upd H a (.ins C dx fs')) := by
  have old : ∀ x p, PastOf (L2.upd H a (.ins C dx fs')) x p → PastOf H x p := by
    rintro x p ⟨C1, d1, f1, h1, h2⟩
    by_cases z : x = a
    · subst z
      rw [upd_same] at h1
      cases h1
      exact ⟨C, dx, fs, e, by rw [← l]; exact h2⟩
    · rw [upd_ne z] at h1
      exact ⟨C1, d1, f1, h1, h2⟩
  refine ⟨fun x y p h1 h2 => h.1 x y p (old _ _ h1) (old _ _ h2), fun x p h1 => ?_⟩
  obtain ⟨o', e'⟩ := h.2 x p (old _ _ h1)
  by_cases z : p = a
  · rw [z]; exact ⟨_, upd_same⟩
  · exact ⟨o', by rw [upd_ne z]; exact e'⟩
theorem s_fldT {X : Cx} {o value : Expr} {i : Nat} {nm : Str} {pos pos' : Pos} {fv : EE} (T : TabK X.K) (ho : PE X o (tVar i)) (hv : PE X value (tE X.K fv)) (hs : swapsWith value (some (.Attribute o nm pos')) pos.line X.env = pure false := by rfl) :
    PS X (.Assign [.Attribute o nm pos'] value pos) (tS X.K (sFldT i nm fv)) := PS.imp (ps_fld ho hv hs) fun D σ H t => by
  obtain ⟨B, env, fl, env', en, ev, q⟩ := t
  unfold sFldT at ev
  split at ev
  · rename_i d e1 h1
    split at ev
    · rename_i y hy
      split at ev
      · rename_i m c hi
        split at ev
        · cases ev
        rename_i hm
        split at ev
        · rename_i c' hc
          cases ev
          refine ⟨B, env, d, e1, en, h1, fun B1 H1 v a1 r1 => ?_⟩
          have rv : Rp X.K B1 H1 v y := pdOf_rp r1 hy
          obtain ⟨a, hσ, hB, ct⟩ := a1.en.mu _ _ _ hi
          refine ⟨_, hσ, ?_⟩
          cases c with
          | tb fl here held rl past =>
            obtain ⟨C, dx, af, p, v2, v3, v4, vs, k1, k2, k3, k4, k5, k6, k7, k8, k9⟩ := ct
            have hne : ∀ o', H1 a = some o' → ¬ Imm o' := fun o' h' im => by rw [k1] at h'; cases h'; exact im
            have fin : ∀ fs' : List (Str × V), fs'.lookup ("past" : Str) = some (V.ref p) → (∀ H', (∀ z o', z ≠ a → H1 z = some o' → H' z = some o') → H' a = some (.ins C dx fs') → Grow B1 H1 B1 H' → CtR X.K B1 H' a c') → D.nx σ (upd H1 a (.ins C dx fs')) := fun fs' hl hcc => by
              obtain ⟨gw, aw⟩ := AtS.write (o := .ins C dx fs') (c' := c') a1.en hi hm hσ hne hcc (fun pu => pu.ins k1 (hl.trans rfl))
              exact q _ _ _ ((a1.trans en aw).s)
            have pne : p ≠ a := fun z => by rw [z, k1] at k7; cases k7
            dsimp only [fldP] at hc
            split at hc
            · rename_i e; subst e; cases hc
              refine ⟨a, C, dx, _, rfl, k1, T.cls C k2, T.na C k2 _ (by decide), by simp, fin _ rfl fun H' ho h' g => ?_⟩
              exact ⟨C, dx, af, p, v, v3, v4, vs, h', k2, k3.grow g, rv.grow g, k5.grow g, k6.grow g, ho _ _ pne k7, k8, k9.grow g⟩
            · split at hc
              · rename_i e; subst e; cases hc
                refine ⟨a, C, dx, _, rfl, k1, T.cls C k2, T.na C k2 _ (by decide), by simp, fin _ rfl fun H' ho h' g => ?_⟩
                exact ⟨C, dx, af, p, v2, v, v4, vs, h', k2, k3.grow g, k4.grow g, rv.grow g, k6.grow g, ho _ _ pne k7, k8, k9.grow g⟩
              · split at hc
                · rename_i e; subst e; cases hc
                  refine ⟨a, C, dx, _, rfl, k1, T.cls C k2, T.na C k2 _ (by decide), by simp, fin _ rfl fun H' ho h' g => ?_⟩
                  exact ⟨C, dx, af, p, v2, v3, v, vs, h', k2, k3.grow g, k4.grow g, k5.grow g, rv.grow g, ho _ _ pne k7, k8, k9.grow g⟩
                · cases hc
          | ls => cases hc
          | dk => cases hc
          | dn => cases hc
        · cases ev
      · cases ev
    · cases ev
  · cases ev
end T3

end
section
set_option linter.all false
set_option autoImplicit false
set_option Elab.async false
set_option maxRecDepth 100000
namespace T3
open PySem PySem.Spec L2
variable [TabL]
theorem inv_ls {X : Cx} {pins : List (Addr × Obj)} {σ : L2.St} {H : Hp} {s : Shared} {p : Addr} {vs : List V} (I : Inv X pins σ H s) (h : H p = some (PaO p vs)) (hl : vs.length ≤ sizeLine) : Inv X pins σ (upd H p (.lst vs)) s := by
  obtain ⟨⟨its, n, hv, e⟩, _, _⟩ := I.hok p _ h
  exact I.write (x := p) (e := p) (h' := s.heap) (t' := s.toks) (by rw [h]; exact trivial) (.inl rfl) (fun _ _ _ q => q) ⟨_, e⟩ ⟨hl, its, n, hv, e⟩
theorem inv_pa {X : Cx} {pins : List (Addr × Obj)} {σ : L2.St} {H : Hp} {s : Shared} {p : Addr} {vs : List V} (I : Inv X pins σ H s) (h : H p = some (.lst vs)) : Inv X pins σ (upd H p (PaO p vs)) s := by
  obtain ⟨hl, its, n, hv, e⟩ := I.hok p _ h
  exact I.write (x := p) (e := p) (h' := s.heap) (t' := s.toks) (by rw [h]; exact trivial) (.inl rfl) (fun _ _ _ q => q) ⟨_, e⟩ ⟨⟨its, n, hv, e⟩, ⟨_, e⟩, fun h1 h2 ⟨its, n, hv, e⟩ k => ⟨its, n, hv, k _ e⟩⟩
theorem line9 {n : Nat} (h : n ≤ 90000) : n ≤ sizeLine := Nat.le_trans h (Nat.le_trans (by decide) (show 100000 ≤ sizeLine by decide))
def tPM (r : V → List V → Hp → VK → Prop) (to : TE) (t : TA) : TE := fun σ H Q => to σ H fun x H1 => (∃ p vs, x = .ref p ∧ H1 p = some (PaO p vs) ∧ vs.length ≤ 90000) ∧ t σ H1 fun xs H2 => ∃ p vs, x = .ref p ∧ H2 p = some (PaO p vs) ∧ vs.length ≤ 90000 ∧
  r x xs (upd H2 p (.lst vs)) fun v H3 => ∃ vs', H3 p = some (.lst vs') ∧ Q v (upd H3 p (PaO p vs'))
section
variable {X : Cx} {o e : Expr} {es : List Expr} {to : TE} {t : TA} {name : Str} {apos cpos : Pos} {id : String} {r : V → List V → Hp → VK → Prop}
theorem pe_pm (pa : PlainAttrs "list") (slot : Slot "list" name id) (hty : typeOf (.builtin id) = pure (.type "method_descriptor")) (hm : MtR X id r) (ho : PE X o to) (ha : PA X (e :: es) t)
    (hbase : attributeBase o name X.env (eval o X.env) = eval o X.env := by rfl)
    (hfew : ((backTo cpos (starEach (e :: es) X.env)).all (fun x => !x.1) && (backToKw cpos (keywordEach [] X.env)).all (fun x => x.1.isSome)
      && decide ((e :: es).length + ([] : List Keyword).length + (if ([] : List Keyword).isEmpty then 0 else 1) < 30)) = true := by rfl)
    (hline : (apos.endLine == cpos.line) = true := by rfl) (hs : starEach (e :: es) X.env = (false, eval e X.env) :: starEach es X.env := by rfl) (hplain : (backTo cpos (starEach es X.env)).any (·.1) = false := by rfl) :
    PE X (.Call (.Attribute o name apos) (e :: es) [] cpos) (tPM r to t) := by
  refine ⟨fun pins s σ H Q I h => ?_⟩
  refine wpAny_Call_method_late hbase hfew hline rfl (thn (ho.run pins s σ H _ I h) fun v s1 ⟨x, H1, I1, r1, ⟨p, vs, ex, hp, hl⟩, q1⟩ => ?_)
  subst ex
  obtain ⟨h1, h2⟩ := tyV_is (inv_ls I1 hp (line9 hl)) r1 (show tyV X.K "list" (.ref p) _ from .inl ⟨rfl, vs, .inl (.inl upd_same)⟩)
  refine ⟨"list", id, pa, slot, hty, h1, h2, ?_⟩
  have hA := ha.run cpos pins s1 σ H1 _ I1 q1
  rw [hs] at hA ⊢
  refine Calls.callWith_builtin (by show (false || (backTo cpos (starEach es X.env)).any (·.1)) = false; rw [hplain] <;> rfl) (Calls.evalArgs_plain ?_)
  refine thn hA fun us s2 ⟨ws, H2, I2, r2, p', vs', ep, hp', hl', q2⟩ => ?_
  cases ep
  exact thn (hm pins s2 σ _ (.ref p) ws v us _ (inv_ls I2 hp' (line9 hl')) r1 r2 q2) fun u s3 ⟨z, H3, I3, r3, vs3, k3, q3⟩ => ⟨z, _, inv_pa I3 k3, r3, q3⟩
end
theorem At.past {K : PySem.W.Frag} {σ : L2.St} {B : Mset} {H : Hp} {env : Sl} {j : Nat} {m : Md} {fl : List PyData} {here held rl : PyData} {past past' : List PyData} {a C dx p : Addr} {fs : List (Str × V)} {vs vs' : List V} (en : EnvR K B H σ env) (hj : env[j]? = some (some (.mu m (.tb fl here held rl past)))) (hm : m ≠ .fro) (ha : σ[j]? = some (some (.ref a)))
    (h1 : H a = some (.ins C dx fs)) (hl : fs.lookup ("past" : Str) = some (V.ref p)) (h7 : H p = some (PaO p vs)) (l9 : vs'.length ≤ 90000) (rp : ∀ H', Grow B H B H' → RpA K B H' vs' past') :
    Grow B H B (upd H p (PaO p vs')) ∧ At K σ B H env B (upd H p (PaO p vs')) (env.set j (some (.mu m (.tb fl here held rl past')))) := by
  have hjl : j < env.length := (List.getElem?_eq_some_iff.mp hj).1
  obtain ⟨a', ha', hb, hca⟩ := en.mu j m _ hj
  rw [ha] at ha'
  cases ha'
  have w : Wof σ env a := ⟨j, m, _, hj, hm, ha⟩
  have pof : PastOf H a p := ⟨C, dx, fs, h1, hl⟩
  have nnt : ∀ o', H p = some o' → ¬ NT o' ∧ ¬ Imm o' := fun o' e => by rw [h7] at e; cases e; exact ⟨fun n => n.2 _ _ rfl, fun z => z⟩
  have g : Grow B H B (upd H p (PaO p vs')) := ⟨fun q o' h n => by
    by_cases e : q = p
    · subst e
      rcases n with n | n
      · exact absurd n.2 (nnt _ h).1
      · exact absurd n (nnt _ h).2
    · rw [upd_ne e]; exact h, fun q h => .inl h⟩
  refine ⟨g, ⟨⟨fun q o' h n => ?_, fun q h => .inl h, fun q h _ => h, fun q w' => ?_, fun q h => ?_, fun x y q us h nw e => ?_⟩, ⟨by simp [en.len], fun i x h => ?_, fun i x h => ?_, fun i m' d h => ?_, fun i k m1 m2 c1 c2 q h1 h2 h3 h4 => ?_, fun q h => ?_, en.tb.on (fun q o' h n np => by rw [upd_ne (show q ≠ p from fun e => by rw [e, h7] at h; cases h; exact np _ _ rfl)]; exact h) g.new (en.tb.2.put (by (intro _ _ _ z; cases z)))⟩, fun i m1 c1 h => ?_, fun i m1 c1 h => ?_⟩⟩
  · by_cases e : q = p
    · subst e
      rcases n with n | n
      · exact absurd n.2 (nnt _ h).1
      · exact absurd n (nnt _ h).2
    · rw [upd_ne e]; exact h
  · obtain ⟨i, m1, c1, k1, k2, k3⟩ := w'
    rcases get_set k1 with ⟨e, e'⟩ | ⟨e, k1⟩
    · subst e; rw [ha] at k3; cases k3; exact .inl w
    · exact .inl ⟨i, m1, c1, k1, k2, k3⟩
  · by_cases e : q = p
    · subst e; rw [upd_same] at h; cases h
    · rw [upd_ne e] at h; exact h
  · have ne : y ≠ p := fun z => by
      subst z
      have := en.tb.2.1 x a y h pof
      subst this
      exact nw w
    rw [upd_ne ne]; exact e
  · rcases get_set h with ⟨e, e'⟩ | ⟨e, h⟩
    · cases e'
    · obtain ⟨v, k1, k2⟩ := en.pd i x h
      exact ⟨v, k1, k2.grow g⟩
  · rcases get_set h with ⟨e, e'⟩ | ⟨e, h⟩
    · cases e'
    · obtain ⟨v, k1, k2⟩ := en.nt i x h
      exact ⟨v, k1, k2.grow g⟩
  · rcases get_set h with ⟨e, e'⟩ | ⟨e, h⟩
    · cases e'
      subst e
      obtain ⟨C1, d1, af, p1, v2, v3, v4, us, k1, k2, k3, k4, k5, k6, k7, k8, k9⟩ := hca
      rw [h1] at k1
      cases k1
      have ep : p1 = p := by
        have : (some (V.ref p1) : Option V) = some (V.ref p) := hl
        cases this; rfl
      subst ep
      have na : a ≠ p1 := fun z => by rw [z, h7] at h1; cases h1
      exact ⟨a, ha, hb, C, dx, af, p1, v2, v3, v4, vs', by rw [upd_ne na]; exact h1, k2, k3.grow g, k4.grow g, k5.grow g, k6.grow g, upd_same, l9, rp _ g⟩
    · obtain ⟨b, k1, k2, k3⟩ := en.mu i m' d h
      refine ⟨b, k1, k2, ?_⟩
      have nb : b ≠ a := fun z => by subst z; exact e (en.inj j i m m' _ d b hj h ha k1)
      refine k3.hop g fun x o' hx ex => ?_
      rcases hx with rfl | ⟨hx, q, us, rfl⟩
      · rw [upd_ne (show x ≠ p from fun z => by rw [z] at k3; exact k3.npa _ _ h7)]; exact ex
      · rw [upd_ne (show x ≠ p from fun z => by subst z; exact nb (en.tb.2.1 b a x hx pof))]; exact ex
  · have f : ∀ {i : Nat} {m1 : Md} {c1 : Ct}, (env.set j (some (S.mu m (.tb fl here held rl past'))))[i]? = some (some (.mu m1 c1)) → ∃ m2 c2, env[i]? = some (some (.mu m2 c2)) := fun {i m1 c1} h => by
      rcases get_set h with ⟨e, e'⟩ | ⟨e, h⟩
      · subst e; exact ⟨m, _, hj⟩
      · exact ⟨_, _, h⟩
    obtain ⟨_, _, g1⟩ := f h1
    obtain ⟨_, _, g2⟩ := f h2
    exact en.inj i k _ _ _ _ q g1 g2 h3 h4
  · by_cases e : q = p
    · subst e; exact ⟨_, upd_same⟩
    · rw [upd_ne e]; exact en.dom q h
  · rcases get_set h with ⟨e, e'⟩ | ⟨e, h⟩
    · cases e'; subst e; exact ⟨_, hj⟩
    · exact ⟨_, h⟩
  · by_cases e : j = i
    · subst e; rw [hj] at h; cases h; exact ⟨_, by rw [List.getElem?_set_self hjl]⟩
    · exact ⟨c1, by rw [List.getElem?_set_ne e]; exact h⟩
end T3

end
section
set_option linter.all false
set_option autoImplicit false
set_option Elab.async false
set_option maxRecDepth 100000
namespace T3
open PySem PySem.Spec L2
variable [TabL]
def sPastKeep (i : Nat) : SS := fun env => match env[i]? with
  | some (some (.mu m (.tb fl here held rl past))) => if m = .fro then none else if past.length ≤ 80000 then some (.nx, env.set i (some (.mu m (.tb fl here held rl (past ++ [.tuple [here, held, rl]]))))) else none
  | _ => none
theorem s_pastKeep {X : Cx} {o0 o1 o2 o3 : Expr} {i : Nat} {p0 p1 p2 p3 pa pc pos : Pos} {pt : Nat} {ptt : Pos} (T : TabK X.K) (h0 : PE X o0 (tVar i)) (h1 : PE X o1 (tVar i)) (h2 : PE X o2 (tVar i)) (h3 : PE X o3 (tVar i))
    (b0 : attributeBase o0 "past" X.env (eval o0 X.env) = eval o0 X.env := by rfl) (b1 : attributeBase o1 "here" X.env (eval o1 X.env) = eval o1 X.env := by rfl) (b2 : attributeBase o2 "held" X.env (eval o2 X.env) = eval o2 X.env := by rfl) (b3 : attributeBase o3 "rolled" X.env (eval o3 X.env) = eval o3 X.env := by rfl)
    (hbase : attributeBase (.Attribute o0 "past" p0) "append" X.env (eval (.Attribute o0 "past" p0) X.env) = eval (.Attribute o0 "past" p0) X.env := by rfl)
    (hfew : ((backTo pc (starEach [.Tuple [.Attribute o1 "here" p1, .Attribute o2 "held" p2, .Attribute o3 "rolled" p3] pt ptt] X.env)).all (fun x => !x.1) && (backToKw pc (keywordEach [] X.env)).all (fun x => x.1.isSome)
      && decide (([.Tuple [.Attribute o1 "here" p1, .Attribute o2 "held" p2, .Attribute o3 "rolled" p3] pt ptt] : List Expr).length + ([] : List Keyword).length + (if ([] : List Keyword).isEmpty then 0 else 1) < 30)) = true := by rfl)
    (hline : (pa.endLine == pc.line) = true := by rfl) (hs : starEach [.Tuple [.Attribute o1 "here" p1, .Attribute o2 "held" p2, .Attribute o3 "rolled" p3] pt ptt] X.env = (false, eval (.Tuple [.Attribute o1 "here" p1, .Attribute o2 "held" p2, .Attribute o3 "rolled" p3] pt ptt) X.env) :: starEach [] X.env := by rfl)
    (hplain : (backTo pc (starEach [] X.env)).any (·.1) = false := by rfl) (hsw : swapsWith (.Call (.Attribute (.Attribute o0 "past" p0) "append" pa) [.Tuple [.Attribute o1 "here" p1, .Attribute o2 "held" p2, .Attribute o3 "rolled" p3] pt ptt] [] pc) none pos.line X.env = pure false := by rfl)
    (s1 : starEach [.Attribute o1 "here" p1, .Attribute o2 "held" p2, .Attribute o3 "rolled" p3] X.env = (false, eval (.Attribute o1 "here" p1) X.env) :: starEach [.Attribute o2 "held" p2, .Attribute o3 "rolled" p3] X.env := by rfl)
    (s2 : starEach [.Attribute o2 "held" p2, .Attribute o3 "rolled" p3] X.env = (false, eval (.Attribute o2 "held" p2) X.env) :: starEach [.Attribute o3 "rolled" p3] X.env := by rfl)
    (s3 : starEach [.Attribute o3 "rolled" p3] X.env = (false, eval (.Attribute o3 "rolled" p3) X.env) :: starEach [] X.env := by rfl) :
    PS X (.Expr (.Call (.Attribute (.Attribute o0 "past" p0) "append" pa) [.Tuple [.Attribute o1 "here" p1, .Attribute o2 "held" p2, .Attribute o3 "rolled" p3] pt ptt] [] pc) pos) (tS X.K (sPastKeep i)) :=
  PS.imp (ps_expr (pe_pm PySem.F.plainAttrs_list PySem.F.slot_list_append PySem.F.type_list_append mt_append (pe_fld h0 b0) (pa_cons (pe_tup (pa_cons (pe_fld h1 b1) (pa_cons (pe_fld h2 b2) (pa_cons (pe_fld h3 b3) pa_nil s3) s2) s1)) pa_nil hs) hbase hfew hline hs hplain) hsw) fun D σ H t => by
    obtain ⟨B, env, fl, env', en, ev, q⟩ := t
    unfold sPastKeep at ev
    split at ev
    · rename_i m f here held rl past hi
      split at ev
      · cases ev
      rename_i hm
      split at ev
      · rename_i hpl
        cases ev
        obtain ⟨a, hσ, hB, C, dx, af, p, v2, v3, v4, vs, k1, k2, k3, k4, k5, k6, k7, k8, k9⟩ := en.mu _ _ _ hi
        have c := T.cls C k2
        have lv : vs.length = past.length := k9.length
        refine ⟨_, hσ, a, C, dx, _, .ref p, rfl, k1, c, T.na C k2 _ (by decide), rfl, ⟨p, vs, rfl, k7, k8⟩, ?_⟩
        refine ⟨_, hσ, a, C, dx, _, v2, rfl, k1, c, T.na C k2 _ (by decide), rfl, ?_⟩
        refine ⟨_, hσ, a, C, dx, _, v3, rfl, k1, c, T.na C k2 _ (by decide), rfl, ?_⟩
        refine ⟨_, hσ, a, C, dx, _, v4, rfl, k1, c, T.na C k2 _ (by decide), rfl, ?_⟩
        refine ⟨Nat.le_trans (show 3 ≤ 100000 by decide) (show 100000 ≤ sizeLine by decide), fun z hz => ?_⟩
        have pz : p ≠ z := fun e => by rw [← e, k7] at hz; cases hz
        have az : a ≠ z := fun e => by rw [← e, k1] at hz; cases hz
        refine ⟨p, vs, rfl, by rw [upd_ne pz]; exact k7, k8, p, vs, .ref z, rfl, rfl, upd_same, Nat.lt_of_le_of_lt k8 (Nat.lt_of_lt_of_le (by decide) (show 100000 ≤ sizeLine by decide)), vs ++ [.ref z], upd_same, ?_⟩
        rw [upd_upd, upd_upd]
        have a1 := At.pair (vs := [v2, v3, v4]) en hz
        obtain ⟨g2, a2⟩ := At.past (vs' := vs ++ [.ref z]) (past' := past ++ [.tuple [here, held, rl]]) a1.en hi hm hσ (by rw [upd_ne az]; exact k1) rfl (by rw [upd_ne pz]; exact k7) (by simp; omega) (fun H' g => by
          have g1 := a1.grow en
          refine ((k9.grow g1).grow g).append (.cons (.tup (.inl (.inl (g.keep z _ upd_same (.inr trivial)))) ?_) .nil)
          exact .cons ((k4.grow g1).grow g) (.cons ((k5.grow g1).grow g) (.cons ((k6.grow g1).grow g) .nil)))
        exact q _ _ _ ((a1.trans en a2).s)
      · cases ev
    · cases ev
end T3

end
section
set_option linter.all false
set_option autoImplicit false
set_option Elab.async false
set_option maxRecDepth 100000
namespace T3
open PySem L2
variable [TabL]
section
variable {K : PySem.W.Frag} {B B' : Mset} {H H' : Hp} {σ : St} {e e' : Sl}
theorem wof_snoc1 {s : Option S} (hl : e.length = σ.length) : Wof (σ ++ [some (V.int 1)]) (e ++ [s]) = Wof σ e := by
  funext a
  refine propext ⟨?_, ?_⟩
  · rintro ⟨i, m, c, h1, h2, h3⟩
    rcases snoc_get h3 with h3 | ⟨_, h3⟩
    · refine ⟨i, m, c, ?_, h2, h3⟩
      have := (List.getElem?_eq_some_iff.mp h3).1
      rwa [List.getElem?_append_left (by omega)] at h1
    · cases h3
  · rintro ⟨i, m, c, h1, h2, h3⟩
    exact ⟨i, m, c, snoc_old h1, h2, snoc_old h3⟩
theorem EnvR.snoc1 (h : EnvR K B H σ e) : EnvR K B H (σ ++ [some (V.int 1)]) (e ++ [some (.pd (.int 1))]) where
  len := by simp [h.len]
  pd i x q := by
    rcases snoc_get q with q | ⟨hi, q⟩
    · obtain ⟨v, a, b⟩ := h.pd i x q
      exact ⟨v, snoc_old a, b⟩
    · cases q
      subst hi
      exact ⟨.int 1, by rw [h.len]; simp, .int 1⟩
  nt i xs q := by
    rcases snoc_get q with q | ⟨hi, q⟩
    · obtain ⟨v, a, b⟩ := h.nt i xs q
      exact ⟨v, snoc_old a, b⟩
    · cases q
  mu i m c q := by
    rcases snoc_get q with q | ⟨hi, q⟩
    · obtain ⟨v, a, b⟩ := h.mu i m c q
      exact ⟨v, snoc_old a, b⟩
    · cases q
  inj i j m n c d a h1 h2 h3 h4 := by
    rcases snoc_get h1 with h1 | ⟨_, h1⟩
    · rcases snoc_get h2 with h2 | ⟨_, h2⟩
      · rcases snoc_get h3 with h3 | ⟨_, h3⟩
        · rcases snoc_get h4 with h4 | ⟨_, h4⟩
          · exact h.inj i j m n c d a h1 h2 h3 h4
          · cases h4
        · cases h3
      · cases h2
    · cases h1
  dom := h.dom
  tb := h.tb
theorem EnvR.unsnoc1 {s : Option S} (hl : e.length = σ.length) (h : EnvR K B H (σ ++ [some (V.int 1)]) (e ++ [s])) : EnvR K B H σ e := by
  have low : ∀ {i : Nat} {y : Option S} {v : Option V}, e[i]? = some y → (σ ++ [some (V.int 1)])[i]? = some v → σ[i]? = some v := fun {i y v} h1 h2 => by
    have := (List.getElem?_eq_some_iff.mp h1).1
    rwa [List.getElem?_append_left (by omega)] at h2
  exact {
    len := hl
    pd := fun i x q => let ⟨v, a, b⟩ := h.pd i x (snoc_old q); ⟨v, low q a, b⟩
    nt := fun i xs q => let ⟨v, a, b⟩ := h.nt i xs (snoc_old q); ⟨v, low q a, b⟩
    mu := fun i m c q => let ⟨v, a, b⟩ := h.mu i m c (snoc_old q); ⟨v, low q a, b⟩
    inj := fun i j m n c d a h1 h2 h3 h4 => h.inj i j m n c d a (snoc_old h1) (snoc_old h2) (snoc_old h3) (snoc_old h4)
    dom := h.dom
    tb := h.tb }
theorem At.unsnoc1 {s s' : Option S} (hl : e.length = σ.length) (hl' : e'.length = σ.length) (h : At K (σ ++ [some (V.int 1)]) B H (e ++ [s]) B' H' (e' ++ [s'])) : At K σ B H e B' H' e' := by
  obtain ⟨st, en, sm, ks⟩ := h
  rw [wof_snoc1 hl, wof_snoc1 hl'] at st
  refine ⟨st, en.unsnoc1 hl', fun i m c q => ?_, fun i m c q => ?_⟩
  · obtain ⟨c', q'⟩ := sm i m c (snoc_old q)
    have := (List.getElem?_eq_some_iff.mp q).1
    rw [List.getElem?_append_left (by omega)] at q'
    exact ⟨c', q'⟩
  · obtain ⟨c', q'⟩ := ks i m c (snoc_old q)
    have := (List.getElem?_eq_some_iff.mp q).1
    rw [List.getElem?_append_left (by omega)] at q'
    exact ⟨c', q'⟩
end
def FD1 (F : FnD) : FnD := fun as => match F (as ++ [.pd (.int 1)]) with
  | some (d, as') => if as'.length = as.length + 1 then some (d, as'.dropLast) else none
  | none => none
theorem FD_of1 {F : FnD} {as as' : List S} {d : R} {s : S} (h : F (as ++ [.pd (.int 1)]) = some (d, as' ++ [s])) (hl : as'.length = as.length) : FD1 F as = some (d, as') := by
  unfold FD1
  rw [h]
  simp [hl]
theorem spD1 {K : PySem.W.Frag} {F : FnD} {n : Nat} {vs : List V} {H : Hp} {Q : VK} {E : XK} (h : spF K (FD1 F) n vs H Q E) : spF K F (n + 1) (vs ++ [(V.int 1)]) H Q E := by
  obtain ⟨hl, B, as, d, as', en, hF, q⟩ := h
  unfold FD1 at hF
  split at hF
  rotate_left
  · cases hF
  rename_i d2 as2 h2
  split at hF
  rotate_left
  · cases hF
  rename_i h3
  cases hF
  have la : as.length = vs.length := by simpa using en.len
  have hne : as2 ≠ [] := fun e => by subst e; simp at h3
  refine ⟨by simp [hl], B, as ++ [.pd (.int 1)], d, as2, ?_, h2, fun B' H' v a r nv => ?_⟩
  · rw [List.map_append, List.map_append]
    exact en.snoc1
  · have e2 : as2.map some = as2.dropLast.map some ++ [some (as2.getLast hne)] := by
      have := congrArg (List.map some) (List.dropLast_concat_getLast hne)
      rw [List.map_append] at this
      exact this.symm
    have l2 : (as2.dropLast.map (some (α := S))).length = (vs.map (some (α := V))).length := by simp; omega
    rw [List.map_append, List.map_append, e2] at a
    rw [List.map_append, e2] at r
    refine q B' H' v (a.unsnoc1 (by simpa using la) l2) ?_ nv
    cases d with
    | pd x => exact r
    | nt x => exact r
    | tmp c =>
      obtain ⟨a', r1, r2, r3, r4, r5⟩ := r
      exact ⟨a', r1, r2, r3, r4, fun i m d hi hs => r5 i m d (snoc_old hi) (snoc_old hs)⟩
    | var i => exact absurd rfl (nv i)

def AtM (K : PySem.W.Frag) (m : Str) (st : Stmt) (ps : List Str) : Prop := ∃ f fd, Fun K m ("Table." ++ m) st f fd ∧ (∀ C, FnK K "Table" C → Meth K C m f) ∧ Binds K fd ps []
def HasM (P : Program) (w : World) (K : PySem.W.Frag) (mg : Str → Option Value) (base : Heap) (m : Str) (n : Nat) (F : FnD) (k : Nat) : Prop := ∃ f fd ps, FnOk P w K mg base CX0 k f fd ps (spF K F n) ∧ (∀ C, FnK K "Table" C → Meth K C m f) ∧ Binds K fd ps []
theorem hasM_of {P : Program} {w : World} {K : PySem.W.Frag} {mg : Str → Option Value} {base : Heap} {m : Str} {st : Stmt} {N ps : List Str} {k n : Nat} {b : SS} (h : AtM K m st ps) (Sc : FnScope N ps (defScope st)) (hn : n = ps.length)
    (hbody : ∀ (f : Addr) (cdv : Value) (A : Around) (outer : List Env) (s : Shared) (H : Hp) (E : XK), Room k (A.deeper (PyProof.Rows.envOfC ("Table." ++ m) (defScope st) s.heap.objs.size f cdv)) →
      PSs (cxOf CX0 P w K mg base N ("Table." ++ m) (defScope st) f cdv A outer s H E).nox (defBody st) (tS K b)) : HasM P w K mg base m n (runFn N.length b) (k + 1) := by
  obtain ⟨f, fd, h1, h2, h3⟩ := h
  exact ⟨f, fd, ps, fn_ok h1 Sc hn fun cdv A outer s H E hr => hbody f cdv A outer s H E hr, h2, h3⟩
def AtM1 (K : PySem.W.Frag) (m : Str) (st : Stmt) (ps : List Str) : Prop := ∃ f fd ds, FunD K m ("Table." ++ m) (defArgs st) (defBody st) (defScope st) [V.int 1] [] f fd ∧ (∀ C, FnK K "Table" C → Meth K C m f) ∧ Vals [V.int 1] ds ∧ Binds K fd ps ds ∧ Binds K fd ps []
def HasM1 (P : Program) (w : World) (K : PySem.W.Frag) (mg : Str → Option Value) (base : Heap) (m : Str) (n : Nat) (F : FnD) (k : Nat) : Prop := ∃ f fd ps ds, FnOk P w K mg base CX0 k f fd ps (spF K F (n + 1)) ∧ (∀ C, FnK K "Table" C → Meth K C m f) ∧ Vals [V.int 1] ds ∧ Binds K fd ps ds ∧ Binds K fd ps []
theorem hasM1_of {P : Program} {w : World} {K : PySem.W.Frag} {mg : Str → Option Value} {base : Heap} {m : Str} {st : Stmt} {N ps : List Str} {k n : Nat} {b : SS} (h : AtM1 K m st ps) (Sc : FnScope N ps (defScope st)) (hn : n + 1 = ps.length)
    (hbody : ∀ (f : Addr) (cdv : Value) (A : Around) (outer : List Env) (s : Shared) (H : Hp) (E : XK), Room k (A.deeper (PyProof.Rows.envOfC ("Table." ++ m) (defScope st) s.heap.objs.size f cdv)) →
      PSs (cxOf CX0 P w K mg base N ("Table." ++ m) (defScope st) f cdv A outer s H E).nox (defBody st) (tS K b)) : HasM1 P w K mg base m n (runFn N.length b) (k + 1) := by
  obtain ⟨f, fd, ds, h1, h2, h3, h4, h5⟩ := h
  exact ⟨f, fd, ps, ds, h1.ok Sc (spF_len hn) fun cdv A outer s H vs Q E hr h => ⟨_, (hbody f cdv A outer s H E hr).nox, fn_body h⟩, h2, h3, h4, h5⟩
def isTb (env : Sl) (i : Nat) : Bool := match env[i]? with
  | some (some (.mu _ (.tb ..))) => true
  | _ => false
def eMeth (i : Nat) (F : FnD) (fa : EA) : EE := fun env => if isTb env i = true then eCall F (eCons (eVar i) fa) env else none
theorem isTb_at {K : PySem.W.Frag} {B : Mset} {H : Hp} {σ : L2.St} {env : Sl} {i : Nat} (en : EnvR K B H σ env) (h : isTb env i = true) : ∃ a C dx fs, σ[i]? = some (some (V.ref a)) ∧ H a = some (.ins C dx fs) ∧ FnK K "Table" C ∧ fs.map (·.1) = flds := by
  unfold isTb at h
  split at h
  · rename_i m fl here held rl past hi
    obtain ⟨a, hσ, hB, C, dx, af, p, v2, v3, v4, vs, k1, k2, _⟩ := en.mu _ _ _ hi
    exact ⟨a, C, dx, _, hσ, k1, k2, rfl⟩
  · cases h
theorem no_fld {fs : List (Str × V)} {m : Str} (h : fs.map (·.1) = flds) (n : m ∉ flds) : fs.lookup m = none := by
  rw [← h] at n
  clear h
  induction fs with
  | nil => rfl
  | cons q fs ih =>
    simp only [List.map_cons, List.mem_cons, not_or] at n
    rw [List.lookup_cons]
    have : (m == q.1) = false := by simpa using n.1
    rw [this]
    exact ih n.2
theorem rd_var {K : PySem.W.Frag} {i : Nat} {σ : L2.St} {H : Hp} {Q : VK} (h : tE K (eVar i) σ H Q) : tVar i σ H Q := by
  obtain ⟨B, env, d, env', en, ev, q⟩ := h
  unfold eVar at ev
  split at ev
  · rename_i x hx
    cases ev
    obtain ⟨v, hv, r⟩ := en.pd _ _ hx
    exact ⟨_, hv, q B H _ (.refl en) r⟩
  · rename_i x hx
    cases ev
    obtain ⟨a, hv, r⟩ := en.nt _ _ hx
    exact ⟨_, hv, q B H _ (.refl en) ⟨a, rfl, r⟩⟩
  · rename_i m c hx
    cases ev
    obtain ⟨a, hv, _, r⟩ := en.mu _ _ _ hx
    exact ⟨_, hv, q B H _ (.refl en) ⟨hv, _, _, hx⟩⟩
  · cases ev
theorem fnK_inj {K : PySem.W.Frag} {nm : Str} {a b : Addr} (h : FnK K nm a) (k : FnK K nm b) : a = b := by
  unfold FnK at h k
  rw [h] at k
  cases k
  rfl
theorem rd_meth {K : PySem.W.Frag} {C : Addr} {i n : Nat} {m : Str} {F : FnD} {fa : EA} {σ : L2.St} {H : Hp} {Q : VK} {E : XK} (hC : FnK K "Table" C) (hm : m ∉ flds) (hn : lenA fa n) (h : tE K (eMeth i F fa) σ H Q) : tMeth C m (spF K F (n + 1)) [] E (tVar i) (tA K fa) σ H Q := by
  obtain ⟨B, env, d, env', en, ev, q⟩ := h
  unfold eMeth at ev
  split at ev
  · rename_i ht
    obtain ⟨a, C', dx, fs, hσ, k1, k2, k3⟩ := isTb_at en ht
    obtain rfl := fnK_inj hC k2
    have c := rd_call (E := E) (lenA_cons hn) (⟨B, env, d, env', en, ev, q⟩ : tE K (eCall F (eCons (eVar i) fa)) σ H Q)
    obtain ⟨v, hv, t⟩ := rd_var (rd_cons c)
    rw [hσ] at hv
    cases hv
    refine ⟨_, hσ, a, dx, fs, rfl, k1, no_fld k3 hm, ?_⟩
    exact t
  · cases ev
section
variable {X : Cx} {k n i : Nat} {m : Str} {F : FnD} {fa : EA} {o e : Expr} {es : List Expr} {apos pos : Pos}
theorem e_meth {pl : Sem Bool} (T : TabK X.K) (hC : ∃ C, FnK X.K "Table" C) (h : HasM X.prog X.w X.K X.mg X.base m (n + 1) F k) (hr : Room k X.A) (hn : lenA fa n) (hm : m ∉ flds) (ho : PE X o (tVar i)) (ha : PA X (e :: es) (tA X.K fa))
    (hst : starEach (e :: es) X.env = (false, eval e X.env) :: starEach es X.env := by rfl) (hpl : (backTo pos (starEach es X.env)).any (·.1) = false := by rfl)
    (ht : eval (.Call (.Attribute o m apos) (e :: es) [] pos) X.env = (do
      let ov ← eval o X.env
      standAt apos.atName
      let (f, first) ← holding [ov] (getMethod ov m pl)
      callWith pos f first (backTo pos (starEach (e :: es) X.env)) (backToKw pos (keywordEach [] X.env))) := by rfl) :
    PE X (.Call (.Attribute o m apos) (e :: es) [] pos) (tE X.K (eMeth i F fa)) := by
  obtain ⟨C, hC⟩ := hC
  obtain ⟨f, fd, ps, h1, h2, h3⟩ := h
  exact PE.imp (pe_meth (pl := pl) ho (T.cls C hC) (h2 C hC) h1 hr h3 .nil pass0 ha hst hpl ht) fun σ H Q t => rd_meth hC hm hn t
theorem e_meth0 {pl : Sem Bool} (T : TabK X.K) (hC : ∃ C, FnK X.K "Table" C) (h : HasM X.prog X.w X.K X.mg X.base m 1 F k) (hr : Room k X.A) (hm : m ∉ flds) (ho : PE X o (tVar i))
    (ht : eval (.Call (.Attribute o m apos) [] [] pos) X.env = (do
      let ov ← eval o X.env
      standAt apos.atName
      let (f, first) ← holding [ov] (getMethod ov m pl)
      callWith pos f first (backTo pos (starEach [] X.env)) (backToKw pos (keywordEach [] X.env))) := by rfl) :
    PE X (.Call (.Attribute o m apos) [] [] pos) (tE X.K (eMeth i F eNil)) := by
  obtain ⟨C, hC⟩ := hC
  obtain ⟨f, fd, ps, h1, h2, h3⟩ := h
  exact PE.imp (pe_meth0 (pl := pl) ho (T.cls C hC) (h2 C hC) h1 hr h3 .nil pass0 ht) fun σ H Q t => by
    obtain ⟨v, hv, a, dx, fs, e1, e2, e3, t2⟩ := rd_meth (n := 0) (E := E0) hC hm lenA_nil t
    exact ⟨v, hv, a, dx, fs, e1, e2, e3, rd_nil t2⟩
theorem e_meth1 {pl : Sem Bool} (T : TabK X.K) (hC : ∃ C, FnK X.K "Table" C) (h : HasM1 X.prog X.w X.K X.mg X.base m (n + 1) F k) (hr : Room k X.A) (hn : lenA fa n) (hm : m ∉ flds) (ho : PE X o (tVar i)) (ha : PA X (e :: es) (tA X.K fa))
    (hst : starEach (e :: es) X.env = (false, eval e X.env) :: starEach es X.env := by rfl) (hpl : (backTo pos (starEach es X.env)).any (·.1) = false := by rfl)
    (ht : eval (.Call (.Attribute o m apos) (e :: es) [] pos) X.env = (do
      let ov ← eval o X.env
      standAt apos.atName
      let (f, first) ← holding [ov] (getMethod ov m pl)
      callWith pos f first (backTo pos (starEach (e :: es) X.env)) (backToKw pos (keywordEach [] X.env))) := by rfl) :
    PE X (.Call (.Attribute o m apos) (e :: es) [] pos) (tE X.K (eMeth i (FD1 F) fa)) := by
  obtain ⟨C, hC⟩ := hC
  obtain ⟨f, fd, ps, ds, h1, h2, h3, h4, h5⟩ := h
  exact PE.imp (pe_meth (pl := pl) ho (T.cls C hC) (h2 C hC) h1 hr h4 h3 pass0 ha hst hpl ht) fun σ H Q t => by
    obtain ⟨v, hv, a, dx, fs, e1, e2, e3, B, env, ds2, e4, en, ev, q⟩ := rd_meth (E := E0) hC hm hn t
    refine ⟨v, hv, a, dx, fs, e1, e2, e3, B, env, ds2, e4, en, ev, fun B1 H1 vs a1 r1 => ?_⟩
    have := spD1 (q B1 H1 vs a1 r1)
    simpa using this
end
end T3

end
section
set_option linter.all false
set_option autoImplicit false
set_option Elab.async false
set_option maxRecDepth 100000
namespace T3
open PySem PySem.Spec L2
variable [TabL]
def fullF (w1 w4 : V) (T p : Addr) : List (Str × V) := [("floor", w1), ("here", .ref T), ("held", w4), ("rolled", .int 0), ("past", .ref p)]
def sFldPa (K : PySem.W.Frag) (i : Nat) : TS := fun D σ H => ∃ a C dx fs, σ[i]? = some (some (V.ref a)) ∧ H a = some (.ins C dx fs) ∧ Cls K C ∧ NoAttr K C "past" ∧ fs.length < 1000 ∧
  ∀ p, H p = none → D.nx σ (upd (upd (upd H p (.lst [])) a (.ins C dx (putF "past" (.ref p) fs))) p (PaO p []))
theorem s_pastNew {X : Cx} {st : Stmt} {i : Nat} (h : PS X st (L2.sFld X.K (tVar i) (tLst tNil) "past")) : PS X st (sFldPa X.K i) := ⟨fun pins s σ H D I t => by
  refine thn (h.run pins s σ H { nx := fun σ' H' => ∃ p, H' p = some (.lst []) ∧ D.nx σ' (upd H' p (PaO p [])), rt := fun _ _ => False } I ?_) fun f s1 q => ?_
  · obtain ⟨a, C, dx, fs, hσ, h1, h2, h3, h4, q⟩ := t
    refine ⟨Nat.zero_le _, fun p hp => ⟨_, hσ, a, C, dx, fs, rfl, ?_, h2, h3, h4, p, ?_, q p hp⟩⟩
    · rw [upd_ne (show a ≠ p from fun z => by rw [← z, h1] at hp; cases hp)]; exact h1
    · rw [upd_ne (show p ≠ a from fun z => by rw [z, h1] at hp; cases hp), upd_same]
  · cases f with
    | next =>
      obtain ⟨σ', H', I', p, k, q⟩ := q
      exact ⟨σ', _, inv_pa I' k, q⟩
    | brk => obtain ⟨σ', H', I', q⟩ := q; exact q.elim
    | cont => obtain ⟨σ', H', I', q⟩ := q; exact q.elim
    | ret u => obtain ⟨v, σ', H', I', r, q⟩ := q; exact q.elim⟩
def tInit (K : PySem.W.Frag) : TS := tSeq (L2.sFld K (tVar 0) (tVar 1) "floor") (tSeq (L2.sFld K (tVar 0) (tTup (tCons (tVar 2) (tCons (tVar 3) tNil))) "here") (tSeq (L2.sFld K (tVar 0) (tVar 4) "held") (tSeq (L2.sFld K (tVar 0) (tC (.int 0)) "rolled") (sFldPa K 0))))
theorem rd_init {K : PySem.W.Frag} (TK : TabK K) {σ : L2.St} {H : Hp} {D : Ends} {x C dx : Addr} {w1 w2 w3 w4 : V} (e0 : σ[0]? = some (some (V.ref x))) (e1 : σ[1]? = some (some w1)) (e2 : σ[2]? = some (some w2)) (e3 : σ[3]? = some (some w3)) (e4 : σ[4]? = some (some w4))
    (hx : H x = some (.ins C dx [])) (hC : FnK K "Table" C)
    (q : ∀ (T p : Addr) (Hf : Hp), H T = none → H p = none → T ≠ p → Hf x = some (.ins C dx (fullF w1 w4 T p)) → Hf T = some (.tup [w2, w3]) → Hf p = some (PaO p []) → (∀ b, b ≠ x → b ≠ T → b ≠ p → Hf b = H b) → D.nx σ Hf) : tInit K D σ H := by
  have c := TK.cls C hC
  refine ⟨w1, e1, _, e0, x, C, dx, [], rfl, hx, c, TK.na C hC _ (by decide), by simp, ?_⟩
  refine ⟨w2, e2, w3, e3, Nat.le_trans (show 2 ≤ 100000 by decide) (show 100000 ≤ sizeLine by decide), fun T hT => ?_⟩
  have xT : x ≠ T := fun z => by rw [← z, upd_same] at hT; cases hT
  have hT0 : H T = none := by rw [upd_ne (Ne.symm xT)] at hT; exact hT
  refine ⟨_, e0, x, C, dx, [("floor", w1)], rfl, by rw [upd_ne xT, upd_same]; rfl, c, TK.na C hC _ (by decide), by simp, ?_⟩
  refine ⟨w4, e4, _, e0, x, C, dx, [("floor", w1), ("here", .ref T)], rfl, by rw [upd_same]; rfl, c, TK.na C hC _ (by decide), by simp, ?_⟩
  refine ⟨_, e0, x, C, dx, [("floor", w1), ("here", .ref T), ("held", w4)], rfl, by rw [upd_same]; rfl, c, TK.na C hC _ (by decide), by simp, ?_⟩
  refine ⟨x, C, dx, [("floor", w1), ("here", .ref T), ("held", w4), ("rolled", .int 0)], e0, by rw [upd_same]; rfl, c, TK.na C hC _ (by decide), by simp, fun p hp => ?_⟩
  have xp : x ≠ p := fun z => by rw [← z, upd_same] at hp; cases hp
  have Tp : T ≠ p := fun z => by
    rw [← z] at hp
    rw [upd_ne (Ne.symm xT), upd_ne (Ne.symm xT), upd_ne (Ne.symm xT), upd_same] at hp
    cases hp
  have hp0 : H p = none := by
    rw [upd_ne (Ne.symm xp), upd_ne (Ne.symm xp), upd_ne (Ne.symm xp), upd_ne (Ne.symm Tp), upd_ne (Ne.symm xp)] at hp
    exact hp
  refine q T p _ hT0 hp0 Tp ?_ ?_ ?_ fun b h1 h2 h3 => ?_
  · rw [upd_ne xp, upd_same]; rfl
  · rw [upd_ne Tp, upd_ne (Ne.symm xT), upd_ne Tp, upd_ne (Ne.symm xT), upd_ne (Ne.symm xT), upd_ne (Ne.symm xT), upd_same]
  · rw [upd_same]
  · rw [upd_ne h3, upd_ne h1, upd_ne h3, upd_ne h1, upd_ne h1, upd_ne h1, upd_ne h2, upd_ne h1]
end T3

end
section
set_option linter.all false
set_option autoImplicit false
set_option Elab.async false
set_option maxRecDepth 100000
namespace T3
open PySem PySem.Spec L2
variable [TabL]
abbrev ini (x : Addr) (s1 s2 s3 s4 : S) : Sl := [some (.pd (exD x)), some s1, some s2, some s3, some s4]
def noM : S → Bool
  | .mu _ _ => false
  | _ => true
def Chk (g : SS) (s1 s2 s3 s4 : S) : Prop := ∀ x, g (ini x s1 s2 s3 s4) = some (.nx, ini x s1 s2 s3 s4)
def spInit (K : PySem.W.Frag) (g1 g2 g3 g4 : SS) : Sp := fun vs H Q E => ∃ (x C dx : Addr) (v1 v2 v3 v4 : V) (B : Mset) (s1 s2 s3 s4 : S),
  vs = [.ref x, v1, v2, v3, v4] ∧ H x = some (.ins C dx []) ∧ FnK K "Table" C ∧ EnvR K B H [some (.ref x), some v1, some v2, some v3, some v4] (ini x s1 s2 s3 s4) ∧ (noM s1 && noM s2 && noM s3 && noM s4) = true ∧
  (Chk g1 s1 s2 s3 s4 ∧ Chk g2 s1 s2 s3 s4 ∧ Chk g3 s1 s2 s3 s4 ∧ Chk g4 s1 s2 s3 s4) ∧
  ∀ B' σ' H' w1 w2 w3 w4 T p Hf, AtS K [some (.ref x), some v1, some v2, some v3, some v4] B H (ini x s1 s2 s3 s4) σ' B' H' (ini x s1 s2 s3 s4) →
    σ'[1]? = some (some w1) → σ'[2]? = some (some w2) → σ'[3]? = some (some w3) → σ'[4]? = some (some w4) → H' x = some (.ins C dx []) → H' T = none → H' p = none → T ≠ p →
    Hf x = some (.ins C dx (fullF w1 w4 T p)) → Hf T = some (.tup [w2, w3]) → Hf p = some (PaO p []) → (∀ b, b ≠ x → b ≠ T → b ≠ p → Hf b = H' b) → Q .non Hf
theorem ini_no {x : Addr} {s1 s2 s3 s4 : S} (h : (noM s1 && noM s2 && noM s3 && noM s4) = true) (i : Nat) (m : Md) (c : Ct) : (ini x s1 s2 s3 s4)[i]? ≠ some (some (.mu m c)) := fun e => by
  simp only [Bool.and_eq_true] at h
  obtain ⟨⟨⟨h1, h2⟩, h3⟩, h4⟩ := h
  match i with
  | 0 => simp at e
  | 1 => simp at e; rw [e] at h1; cases h1
  | 2 => simp at e; rw [e] at h2; cases h2
  | 3 => simp at e; rw [e] at h3; cases h3
  | 4 => simp at e; rw [e] at h4; cases h4
  | n + 5 => simp at e
theorem slot_ex {K : PySem.W.Frag} {B : Mset} {H : Hp} {σ : L2.St} {env : Sl} {i : Nat} {s : S} (en : EnvR K B H σ env) (h : env[i]? = some (some s)) : ∃ v, σ[i]? = some (some v) := by
  cases s with
  | pd x => obtain ⟨v, hv, _⟩ := en.pd _ _ h; exact ⟨v, hv⟩
  | nt x => obtain ⟨v, hv, _⟩ := en.nt _ _ h; exact ⟨_, hv⟩
  | mu m c => obtain ⟨v, hv, _⟩ := en.mu _ _ _ h; exact ⟨_, hv⟩
theorem init_ok {P : Program} {w : World} {K : PySem.W.Frag} {mg : Str → Option Value} {base : Heap} {st : Stmt} {f : Addr} {fd : FuncData} {N ps : List Str} {k : Nat} {g1 g2 g3 g4 : SS} (TK : TabK K) (Fn : Fun K "__init__" "Table.__init__" st f fd) (Sc : FnScope N ps (defScope st)) (hN : N.length = 5) (hn : 5 = ps.length)
    (hbody : ∀ (cdv : Value) (A : Around) (outer : List Env) (s : Shared) (H : Hp) (E : XK), Room k (A.deeper (PyProof.Rows.envOfC "Table.__init__" (defScope st) s.heap.objs.size f cdv)) →
      PSs (cxOf CX0 P w K mg base N "Table.__init__" (defScope st) f cdv A outer s H E).nox (defBody st) (tSeq (tS K g1) (tSeq (tS K g2) (tSeq (tS K g3) (tSeq (tS K g4) (tInit K)))))) : FnOk P w K mg base CX0 (k + 1) f fd ps (spInit K g1 g2 g3 g4) := by
  refine Fn.ok Sc (fun vs H Q E h => ?_) fun cdv A outer s H vs Q E hr h => ⟨_, hbody cdv A outer s H E hr, ?_⟩
  · obtain ⟨x, C, dx, v1, v2, v3, v4, B, s1, s2, s3, s4, rfl, _⟩ := h
    simpa using hn
  · obtain ⟨x, C, dx, v1, v2, v3, v4, B, s1, s2, s3, s4, rfl, hx, hC, en, no, ⟨c1, c2, c3, c4⟩, q⟩ := h
    have st0 : L2.start N [.ref x, v1, v2, v3, v4] = [some (.ref x), some v1, some v2, some v3, some v4] := by
      unfold L2.start
      rw [hN]
      rfl
    rw [st0]
    refine ⟨B, ini x s1 s2 s3 s4, .nx, _, en, c1 x, fun B1 σ1 H1 a1 => ?_⟩
    refine ⟨B1, ini x s1 s2 s3 s4, .nx, _, a1.en, c2 x, fun B2 σ2 H2 a2 => ?_⟩
    refine ⟨B2, ini x s1 s2 s3 s4, .nx, _, a2.en, c3 x, fun B3 σ3 H3 a3 => ?_⟩
    refine ⟨B3, ini x s1 s2 s3 s4, .nx, _, a3.en, c4 x, fun B4 σ4 H4 a4 => ?_⟩
    have a := ((a1.trans en a2).trans en a3).trans en a4
    have nw : ¬ Wof [some (V.ref x), some v1, some v2, some v3, some v4] (ini x s1 s2 s3 s4) x := fun ⟨i, m, c, h, _⟩ => ini_no no i m c h
    have hx4 := a.st.keep x _ hx (.inl ⟨nw, nt_ins⟩)
    obtain ⟨w0, e0, r0⟩ := a.en.pd 0 _ rfl
    obtain rfl := r0.exn_inv
    obtain ⟨w1, e1⟩ := slot_ex (i := 1) a.en rfl
    obtain ⟨w2, e2⟩ := slot_ex (i := 2) a.en rfl
    obtain ⟨w3, e3⟩ := slot_ex (i := 3) a.en rfl
    obtain ⟨w4, e4⟩ := slot_ex (i := 4) a.en rfl
    exact rd_init TK e0 e1 e2 e3 e4 hx4 hC fun T p Hf hT hp n1 f1 f2 f3 f4 => q B4 σ4 H4 w1 w2 w3 w4 T p Hf a e1 e2 e3 e4 hx4 hT hp n1 f1 f2 f3 f4
theorem At.ext {K : PySem.W.Frag} {σ : L2.St} {B B1 : Mset} {H H1 H2 : Hp} {env env1 : Sl} {x : Addr} (en : EnvR K B H σ env) (a : At K σ B H env B1 H1 env1) (k : ∀ q o, H1 q = some o → H2 q = some o) (nx : H1 x = none) (hx : ∃ o, H2 x = some o) (pu : PU H2) :
    Grow B1 H1 (fun q => B1 q ∨ q = x) H2 ∧ At K σ B H env (fun q => B1 q ∨ q = x) H2 env1 := by
  have g : Grow B1 H1 (fun q => B1 q ∨ q = x) H2 := ⟨fun q o' h _ => k q o' h, fun q h => by
    rcases h with h | h
    · exact .inl h
    · rw [h]; exact .inr nx⟩
  refine ⟨g, ⟨fun q o' h c => k _ _ (a.st.keep q o' h c), fun q h => ?_, fun q h w => .inl (a.st.old q h w), a.st.sub, fun q h => ?_, fun y p q us h w e => k _ _ (a.st.pa y p q us h w e)⟩, ⟨a.en.len, fun i y h => ?_, fun i y h => ?_, fun i m c h => ?_, a.en.inj, fun q h => ?_, a.en.tb.on (fun q o' h _ _ => k _ _ h) g.new pu⟩, a.sm, a.ks⟩
  · rcases h with h | h
    · exact a.st.new q h
    · rw [h]; exact .inr (a.st.liv _ nx)
  · refine a.st.liv q ?_
    cases e : H1 q with
    | none => rfl
    | some o => rw [k _ _ e] at h; cases h
  · obtain ⟨v, h1, h2⟩ := a.en.pd i y h
    exact ⟨v, h1, h2.grow g⟩
  · obtain ⟨v, h1, h2⟩ := a.en.nt i y h
    exact ⟨v, h1, h2.grow g⟩
  · obtain ⟨q, h1, h2, h3⟩ := a.en.mu i m c h
    exact ⟨q, h1, .inl h2, h3.hop g fun b o' _ e => k _ _ e⟩
  · rcases h with h | h
    · obtain ⟨o', ho⟩ := a.en.dom q h
      exact ⟨o', k _ _ ho⟩
    · rw [h]; exact hx
theorem At.filled {K : PySem.W.Frag} {σ : L2.St} {B B1 : Mset} {H H1 H2 : Hp} {env env1 : Sl} {x C dx : Addr} (en : EnvR K B H σ env) (a : At K σ B H env B1 H1 env1) (hx0 : H x = none) (bx : B1 x) (hx : H1 x = some (.ins C dx [])) (k : ∀ q o, q ≠ x → H1 q = some o → H2 q = some o) (hx2 : ∃ o, H2 x = some o) (pu : PU H2) :
    Grow B1 H1 B1 H2 ∧ At K σ B H env B1 H2 env1 := by
  have g : Grow B1 H1 B1 H2 := ⟨fun q o' h n => by
    by_cases z : q = x
    · subst z
      rcases n with n | n
      · exact absurd bx n.1
      · rw [hx] at h; cases h; exact n.elim
    · exact k q o' z h, fun q h => .inl h⟩
  have ne : ∀ q o, H q = some o → q ≠ x := fun q o e z => by rw [z, hx0] at e; cases e
  have pne : ∀ p q us, H1 p = some (PaO q us) → p ≠ x := fun p q us e z => by rw [z, hx] at e; cases e
  refine ⟨g, ⟨fun q o' h c => k _ _ (ne _ _ h) (a.st.keep q o' h c), a.st.new, a.st.old, a.st.sub, fun q h => ?_, fun y p q us h w e => ?_⟩, ⟨a.en.len, fun i y h => ?_, fun i y h => ?_, fun i m c h => ?_, a.en.inj, fun q h => ?_, a.en.tb.on (fun q o' h nb _ => k _ _ (fun z => nb (by rw [z]; exact bx)) h) g.new pu⟩, a.sm, a.ks⟩
  · by_cases z : q = x
    · rw [z]; exact hx0
    · refine a.st.liv q ?_
      cases e : H1 q with
      | none => rfl
      | some o => rw [k _ _ z e] at h; cases h
  · have := a.st.pa y p q us h w e
    exact k _ _ (pne _ _ _ this) this
  · obtain ⟨v, h1, h2⟩ := a.en.pd i y h
    exact ⟨v, h1, h2.grow g⟩
  · obtain ⟨v, h1, h2⟩ := a.en.nt i y h
    exact ⟨v, h1, h2.grow g⟩
  · obtain ⟨q, h1, h2, h3⟩ := a.en.mu i m c h
    obtain ⟨c', h4⟩ := a.sm i m c h
    obtain ⟨q', k1, k2, _⟩ := en.mu i m c' h4
    rw [h1] at k1
    cases k1
    obtain ⟨o, ho⟩ := en.dom q k2
    refine ⟨q, h1, h2, h3.hop g fun b o' hb e => ?_⟩
    rcases hb with rfl | ⟨_, r, us, rfl⟩
    · exact k _ _ (ne _ _ ho) e
    · exact k _ _ (pne _ _ _ e) e
  · by_cases z : q = x
    · rw [z]; exact hx2
    · obtain ⟨o', ho⟩ := a.en.dom q h
      exact ⟨o', k _ _ z ho⟩
end T3

end
section
set_option linter.all false
set_option autoImplicit false
set_option Elab.async false
set_option maxRecDepth 100000
namespace T3
open PySem PySem.Spec L2
variable [TabL]
def sR : R → Option S
  | .pd y => some (.pd y)
  | .nt xs => some (.nt xs)
  | _ => none
noncomputable instance (g : SS) (s1 s2 s3 s4 : S) : Decidable (Chk g s1 s2 s3 s4) := Classical.propDecidable _
noncomputable def eMkT (g1 g2 g3 g4 : SS) (fa : EA) : EE := fun env => match fa env with
  | some ([.nt fl, d2, d3, d4], e1) => match pdOf d2, pdOf d3, pdOf d4, sR d2, sR d3, sR d4 with
    | some c, some l, some h, some s2, some s3, some s4 => if Chk g1 (.nt fl) s2 s3 s4 ∧ Chk g2 (.nt fl) s2 s3 s4 ∧ Chk g3 (.nt fl) s2 s3 s4 ∧ Chk g4 (.nt fl) s2 s3 s4 then some (.tmp (.tb fl (.tuple [c, l]) h (.int 0) []), e1) else none
    | _, _, _, _, _, _ => none
  | _ => none
def MkT (P : Program) (w : World) (K : PySem.W.Frag) (mg : Str → Option Value) (base : Heap) (g1 g2 g3 g4 : SS) (k : Nat) : Prop := ∃ C f fd ps, FnK K "Table" C ∧ Mk K C f ∧ FnOk P w K mg base CX0 k f fd ps (spInit K g1 g2 g3 g4) ∧ mg "Table" = some (.ref C) ∧ Binds K fd ps []
theorem sR_noM {d : R} {s : S} (h : sR d = some s) : noM s = true := by
  cases d with
  | pd y => cases h; rfl
  | nt xs => cases h; rfl
  | tmp c => cases h
  | var i => cases h
def VS (K : PySem.W.Frag) (B : Mset) (H : Hp) (v : V) : S → Prop
  | .pd y => Rp K B H v y
  | .nt xs => ∃ a, v = .ref a ∧ NtR K B H a xs
  | .mu _ _ => False
theorem vs_of {K : PySem.W.Frag} {H₀ : Hp} {B : Mset} {H : Hp} {σ : L2.St} {env : Sl} {v : V} {d : R} {s : S} (r : RA K H₀ B H σ env v d) (h : sR d = some s) : VS K B H v s := by
  cases d with
  | pd y => cases h; exact r
  | nt xs => cases h; exact r
  | tmp c => cases h
  | var i => cases h
theorem VS.grow {K : PySem.W.Frag} {B B' : Mset} {H H' : Hp} {v : V} {s : S} (g : Grow B H B' H') (h : VS K B H v s) : VS K B' H' v s := by
  cases s with
  | pd y => exact Rp.grow g h
  | nt xs => obtain ⟨a, e, h⟩ := h; exact ⟨a, e, h.grow g⟩
  | mu m c => exact h
theorem vs_rp {K : PySem.W.Frag} {B : Mset} {H : Hp} {v : V} {d : R} {s : S} {y : PyData} (h : VS K B H v s) (e : sR d = some s) (p : pdOf d = some y) : Rp K B H v y := by
  cases d with
  | pd z => cases e; cases p; exact h
  | nt xs => cases e; cases p; obtain ⟨a, rfl, h⟩ := h; exact h.rp
  | tmp c => cases e
  | var i => cases e
theorem en_ini {K : PySem.W.Frag} {B : Mset} {H : Hp} {x : Addr} {v1 v2 v3 v4 : V} {s1 s2 s3 s4 : S} (h1 : VS K B H v1 s1) (h2 : VS K B H v2 s2) (h3 : VS K B H v3 s3) (h4 : VS K B H v4 s4) (dom : ∀ a, B a → ∃ o, H a = some o) (tb : TbB B H) :
    EnvR K B H [some (.ref x), some v1, some v2, some v3, some v4] (ini x s1 s2 s3 s4) := by
  have no : ∀ (i : Nat) m c, (ini x s1 s2 s3 s4)[i]? ≠ some (some (.mu m c)) := fun i m c e => by
    match i with
    | 0 => simp at e
    | 1 => simp at e; rw [e] at h1; exact h1
    | 2 => simp at e; rw [e] at h2; exact h2
    | 3 => simp at e; rw [e] at h3; exact h3
    | 4 => simp at e; rw [e] at h4; exact h4
    | n + 5 => simp at e
  refine ⟨rfl, fun i y e => ?_, fun i y e => ?_, fun i m c e => absurd e (no i m c), fun i j m n c d a e => absurd e (no i m c), dom, tb⟩
  · match i with
    | 0 => simp at e; subst e; exact ⟨_, rfl, .exn⟩
    | 1 => simp at e; rw [e] at h1; exact ⟨_, rfl, h1⟩
    | 2 => simp at e; rw [e] at h2; exact ⟨_, rfl, h2⟩
    | 3 => simp at e; rw [e] at h3; exact ⟨_, rfl, h3⟩
    | 4 => simp at e; rw [e] at h4; exact ⟨_, rfl, h4⟩
    | n + 5 => simp at e
  · match i with
    | 0 => simp at e
    | 1 => simp at e; rw [e] at h1; obtain ⟨a, rfl, h⟩ := h1; exact ⟨a, rfl, h⟩
    | 2 => simp at e; rw [e] at h2; obtain ⟨a, rfl, h⟩ := h2; exact ⟨a, rfl, h⟩
    | 3 => simp at e; rw [e] at h3; obtain ⟨a, rfl, h⟩ := h3; exact ⟨a, rfl, h⟩
    | 4 => simp at e; rw [e] at h4; obtain ⟨a, rfl, h⟩ := h4; exact ⟨a, rfl, h⟩
    | n + 5 => simp at e
theorem en_vs {K : PySem.W.Frag} {B : Mset} {H : Hp} {σ : L2.St} {env : Sl} {i : Nat} {s : S} {w : V} (en : EnvR K B H σ env) (h : env[i]? = some (some s)) (n : noM s = true) (e : σ[i]? = some (some w)) : VS K B H w s := by
  cases s with
  | pd y => obtain ⟨v, hv, r⟩ := en.pd _ _ h; rw [e] at hv; cases hv; exact r
  | nt xs => obtain ⟨a, hv, r⟩ := en.nt _ _ h; rw [e] at hv; cases hv; exact ⟨a, rfl, r⟩
  | mu m c => cases n
theorem rd_mkT {K : PySem.W.Frag} {C : Addr} {g1 g2 g3 g4 : SS} {fa : EA} {σ : L2.St} {H : Hp} {Q : VK} {E : XK} (hC : FnK K "Table" C) (h : tE K (eMkT g1 g2 g3 g4 fa) σ H Q) : tMake C (spInit K g1 g2 g3 g4) [] E (tA K fa) σ H Q := by
  obtain ⟨B, env, d, env', en, ev, q⟩ := h
  unfold eMkT at ev
  split at ev
  · rename_i fl d2 d3 d4 e1 h1
    split at ev
    · rename_i c l hh s2 s3 s4 p2 p3 p4 r2 r3 r4
      split at ev
      · rename_i hck
        cases ev
        refine ⟨B, env, _, _, en, h1, fun B1 H1 vs a1 rr x dx hx hdx ne => ?_⟩
        have lv : vs.length = 4 := by rw [rr.len]; rfl
        match vs, lv with
        | [v1, v2, v3, v4], _ =>
          have k1 : ∀ q o, H1 q = some o → upd (upd H1 dx (.own x)) x (.ins C dx []) q = some o := fun q o e => by
            rw [upd_ne (show q ≠ x from fun z => by rw [z, hx] at e; cases e), upd_ne (show q ≠ dx from fun z => by rw [z, hdx] at e; cases e)]
            exact e
          obtain ⟨g2', a2⟩ := At.ext (x := x) en a1 k1 hx ⟨_, upd_same⟩ (a1.en.tb.2.put (by (intro _ _ _ z; cases z))).ins0
          have y1 : VS K B1 H1 v1 (.nt fl) := rr.each 0 v1 _ rfl rfl
          have y2 := vs_of (rr.each 1 v2 d2 rfl rfl) r2
          have y3 := vs_of (rr.each 2 v3 d3 rfl rfl) r3
          have y4 := vs_of (rr.each 3 v4 d4 rfl rfl) r4
          have no : (noM (.nt fl) && noM s2 && noM s3 && noM s4) = true := by rw [sR_noM r2, sR_noM r3, sR_noM r4]; rfl
          refine ⟨x, C, dx, v1, v2, v3, v4, _, .nt fl, s2, s3, s4, rfl, upd_same, hC, en_ini (y1.grow g2') (y2.grow g2') (y3.grow g2') (y4.grow g2') a2.en.dom a2.en.tb, no, hck, fun B' σ' H' w1 w2 w3 w4 T p Hf b f1 f2 f3 f4 hx' hT hp nTp z1 z2 z3 z4 => ⟨rfl, ?_⟩⟩
          have a3 := At.over en a2 (ini_no no) b
          have hx0 : H x = none := a1.st.liv x hx
          have bx : B' x := b.st.old x (.inr rfl) fun ⟨i, m, c, h, _⟩ => ini_no no i m c h
          have kf : ∀ q o, q ≠ x → H' q = some o → Hf q = some o := fun q o n e => by
            rw [z4 q n (fun y => by rw [y, hT] at e; cases e) (fun y => by rw [y, hp] at e; cases e)]
            exact e
          have xT : x ≠ T := fun y => by rw [← y, hx'] at hT; cases hT
          have pu' := a3.en.tb.2
          have old : ∀ a p', PastOf Hf a p' → (a = x ∧ p' = p) ∨ PastOf H' a p' := by
            rintro a p' ⟨C1, d1, fs, q1, q2⟩
            by_cases ex : a = x
            · subst ex
              rw [z1] at q1
              cases q1
              left
              have : (some (V.ref p) : Option V) = some (V.ref p') := q2
              cases this
              exact ⟨rfl, rfl⟩
            · by_cases eT : a = T
              · rw [eT, z2] at q1; cases q1
              · by_cases ep : a = p
                · rw [ep, z3] at q1; cases q1
                · rw [z4 a ex eT ep] at q1
                  exact .inr ⟨C1, d1, fs, q1, q2⟩
          have puf : PU Hf := by
            have fr : ∀ a p', PastOf H' a p' → p' ≠ p := fun a p' h e => by
              obtain ⟨o, ho⟩ := pu'.2 a p' h
              rw [e, hp] at ho; cases ho
            refine ⟨fun a b p' u1 u2 => ?_, fun a p' u1 => ?_⟩
            · rcases old _ _ u1 with ⟨rfl, rfl⟩ | u1
              · rcases old _ _ u2 with ⟨rfl, _⟩ | u2
                · rfl
                · exact absurd rfl (fr _ _ u2)
              · rcases old _ _ u2 with ⟨rfl, rfl⟩ | u2
                · exact absurd rfl (fr _ _ u1)
                · exact pu'.1 a b p' u1 u2
            · rcases old _ _ u1 with ⟨rfl, rfl⟩ | u1
              · exact ⟨_, z3⟩
              · obtain ⟨o, ho⟩ := pu'.2 a p' u1
                by_cases ex : p' = x
                · rw [ex]; exact ⟨_, z1⟩
                · exact ⟨o, kf _ _ ex ho⟩
          obtain ⟨g4, a4⟩ := At.filled en a3 hx0 bx hx' kf ⟨_, z1⟩ puf
          have t1 : VS K B' H' w1 (.nt fl) := en_vs (i := 1) b.en rfl rfl f1
          obtain ⟨af, rfl, nf⟩ := t1
          have t2 := vs_rp (en_vs (i := 2) b.en rfl (sR_noM r2) f2) r2 p2
          have t3 := vs_rp (en_vs (i := 3) b.en rfl (sR_noM r3) f3) r3 p3
          have t4 := vs_rp (en_vs (i := 4) b.en rfl (sR_noM r4) f4) r4 p4
          refine q _ _ _ a4 ⟨x, rfl, hx0, bx, ⟨C, dx, af, p, .ref T, w4, .int 0, [], z1, hC, nf.grow g4, .tup (.inl (.inl z2)) (.cons (t2.grow g4) (.cons (t3.grow g4) .nil)), t4.grow g4, .int 0, z3, by simp, .nil⟩, fun i m d e1 e2 => ?_⟩
          obtain ⟨c', e3⟩ := a4.sm i m d e1
          obtain ⟨a', e4, e5, _⟩ := en.mu i m c' e3
          rw [e2] at e4
          cases e4
          obtain ⟨o, ho⟩ := en.dom _ e5
          rw [hx0] at ho; cases ho
      · cases ev
    · cases ev
  · cases ev
theorem e_mkT {X : Cx} {k : Nat} {g1 g2 g3 g4 : SS} {fa : EA} {e : Expr} {es : List Expr} {p pos : Pos} (M : MkT X.prog X.w X.K X.mg X.base g1 g2 g3 g4 k) (hr : Room (k + 1) X.A) (hg : Gl X "Table") (ha : PA X (e :: es) (tA X.K fa)) (hdb : (("Table" : Str) == ("__debug__" : Str)) = false := by decide)
    (he : starEach (e :: es) X.env = (false, eval e X.env) :: starEach es X.env := by rfl) (hpl : (backTo pos (starEach es X.env)).any (·.1) = false := by rfl) : PE X (.Call (.Name "Table" p) (e :: es) [] pos) (tE X.K (eMkT g1 g2 g3 g4 fa)) := by
  obtain ⟨C, f, fd, ps, hC, mk, F, hm, hb⟩ := M
  exact PE.imp (pe_make (E := E0) mk F hr hg hm hb .nil pass0 ha hdb he hpl) fun σ H Q t => rd_mkT hC t
end T3

end
section
set_option linter.all false
set_option autoImplicit false
set_option Elab.async false
set_option maxRecDepth 100000
namespace T3
open PySem PySem.Spec L2
variable [TabL]
def AtI (K : PySem.W.Frag) (mg : Str → Option Value) (st : Stmt) (ps : List Str) : Prop := ∃ C f fd, FnK K "Table" C ∧ Mk K C f ∧ Fun K "__init__" "Table.__init__" st f fd ∧ mg "Table" = some (.ref C) ∧ Binds K fd ps []
theorem mkT_of {P : Program} {w : World} {K : PySem.W.Frag} {mg : Str → Option Value} {base : Heap} {st : Stmt} {N ps : List Str} {k : Nat} {g1 g2 g3 g4 : SS} (TK : TabK K) (h : AtI K mg st ps) (Sc : FnScope N ps (defScope st)) (hN : N.length = 5) (hn : 5 = ps.length)
    (hbody : ∀ (f : Addr) (cdv : Value) (A : Around) (outer : List Env) (s : Shared) (H : Hp) (E : XK), Room k (A.deeper (PyProof.Rows.envOfC "Table.__init__" (defScope st) s.heap.objs.size f cdv)) →
      PSs (cxOf CX0 P w K mg base N "Table.__init__" (defScope st) f cdv A outer s H E).nox (defBody st) (tSeq (tS K g1) (tSeq (tS K g2) (tSeq (tS K g3) (tSeq (tS K g4) (tInit K)))))) : MkT P w K mg base g1 g2 g3 g4 (k + 1) := by
  obtain ⟨C, f, fd, h1, h2, h3, h4, h5⟩ := h
  exact ⟨C, f, fd, ps, h1, h2, init_ok TK h3 Sc hN hn fun cdv A outer s H E hr => hbody f cdv A outer s H E hr, h4, h5⟩
def isInt1 (o : Obj) : Bool := match o.data with
  | .seq its _ => match its.toList with
    | [.int 1 _] => true
    | _ => false
  | _ => false
theorem isInt1_of {o : Obj} (h : isInt1 o = true) : ∃ t m, o.data = .seq ([Value.int 1 t] : List Value).toArray m := by
  unfold isInt1 at h
  split at h
  · rename_i its m e
    split at h
    · rename_i t e2
      refine ⟨t, m, ?_⟩
      rw [e, ← e2, Array.toArray_toList]
    · cases h
  · cases h
theorem meth_mk {K : PySem.W.Frag} {C f : Addr} {m : Str} (hC : FnK K "Table" C) (a : PySem.W.findIn K (.ref C) m = some (some (.ref f))) (b : PySem.W.isFn K (.ref f) = true) (k : PySem.W.keepIn K (.ref f) = true) : ∀ D, FnK K "Table" D → Meth K D m f := fun D hD => by
  cases fnK_inj hC hD
  exact ⟨a, b, k⟩
theorem atM_mk {K : PySem.W.Frag} {m q : Str} {st : Stmt} {ps : List Str} {f C : Addr} {oc : Value} {od an : Option Addr} {osl : Array (Option Value)} {kV doc pm cdv ct : Value} (hq : q = "Table." ++ m) (hC : FnK K "Table" C) (me : PySem.W.findIn K (.ref C) m = some (some (.ref f))) (mf : PySem.W.isFn K (.ref f) = true)
    (l : K.lookup f = some ⟨oc, od, .func (PySem.W.fnOf m q (defArgs st) (defBody st) (defScope st) .none kV doc pm an cdv ct), osl⟩) (c : PySem.W.codeIn K cdv q = true) (k : PySem.W.keepIn K (.ref f) = true)
    (hb : ∀ (kV doc pm : Value) (an : Option Addr) (cdv ct : Value) (us : List Value), us.length = ps.length → bindArgs (PySem.W.fnOf m q (defArgs st) (defBody st) (defScope st) .none kV doc pm an cdv ct) ⟨us, []⟩ = pure (ps.zip us)) : AtM K m st ps := by
  subst hq
  have F := fun_mk (st := st) l c k
  exact ⟨f, _, F, meth_mk hC me mf k, F.binds hb⟩
theorem atM1_mk {K : PySem.W.Frag} {m q : Str} {st : Stmt} {ps : List Str} {f T C : Addr} {oc : Value} {od an : Option Addr} {osl : Array (Option Value)} {kV doc pm cdv ct : Value} {oT : Obj} (n : Nat) (hq : q = "Table." ++ m) (hC : FnK K "Table" C) (me : PySem.W.findIn K (.ref C) m = some (some (.ref f))) (mf : PySem.W.isFn K (.ref f) = true)
    (l : K.lookup f = some ⟨oc, od, .func (PySem.W.fnOf m q (defArgs st) (defBody st) (defScope st) (.ref T) kV doc pm an cdv ct), osl⟩) (t : K.lookup T = some oT) (u : isInt1 oT = true) (c : PySem.W.codeIn K cdv q = true) (k : PySem.W.keepIn K (.ref f) = true)
    (hn : n + 1 = ps.length)
    (hb : ∀ (T : Addr) (kV doc pm : Value) (an : Option Addr) (cdv ct : Value) (us its : List Value), us.length = n → its.length = 1 →
      ∃ k, bindArgs (PySem.W.fnOf m q (defArgs st) (defBody st) (defScope st) (.ref T) kV doc pm an cdv ct) ⟨us, []⟩ = seqItems? (.ref T) >>= k ∧ k (some its.toArray) = pure (ps.zip (us ++ its.drop 0)))
    (hb2 : ∀ (T : Addr) (kV doc pm : Value) (an : Option Addr) (cdv ct : Value) (us its : List Value), us.length = n + 1 → its.length = 1 →
      ∃ k, bindArgs (PySem.W.fnOf m q (defArgs st) (defBody st) (defScope st) (.ref T) kV doc pm an cdv ct) ⟨us, []⟩ = seqItems? (.ref T) >>= k ∧ k (some its.toArray) = pure (ps.zip (us ++ its.drop 1))) : AtM1 K m st ps := by
  subst hq
  obtain ⟨tk, mm, hm⟩ := isInt1_of u
  have F : FunD K m ("Table." ++ m) (defArgs st) (defBody st) (defScope st) [V.int 1] [] f _ := ⟨⟨oc, od, .ref T, kV, doc, pm, an, cdv, ct, osl, rfl, l, c, .inr ⟨by simp, T, oT, [.int 1 tk], mm, rfl, t, hm, .cons ⟨tk, rfl⟩ .nil⟩, .inl rfl⟩, k⟩
  obtain ⟨ds, h1, h2⟩ := F.binds1 (ps := ps) n 0 (by simp) hn hb
  obtain ⟨ds2, h3, h4⟩ := F.binds1 (ps := ps) (n + 1) 1 (by simp) hn hb2
  cases h3
  exact ⟨f, _, ds, F, meth_mk hC me mf k, h1, h2, h4⟩
theorem atI_mk {K : PySem.W.Frag} {h : Heap} {mg : Str → Option Value} {st : Stmt} {ps : List Str} {f C : Addr} {oc : Value} {od an : Option Addr} {osl : Array (Option Value)} {kV doc pm cdv ct : Value} (X : K.In h) (G : h.Ns mainGlobals mg) (hC : FnK K "Table" C) (mk : PySem.W.makesIn K C = true) (me : PySem.W.findIn K (.ref C) "__init__" = some (some (.ref f))) (mf : PySem.W.isFn K (.ref f) = true) (mp : PySem.W.keepIn K (.ref C) = true)
    (l : K.lookup f = some ⟨oc, od, .func (PySem.W.fnOf "__init__" "Table.__init__" (defArgs st) (defBody st) (defScope st) .none kV doc pm an cdv ct), osl⟩) (c : PySem.W.codeIn K cdv "Table.__init__" = true) (k : PySem.W.keepIn K (.ref f) = true)
    (hb : ∀ (kV doc pm : Value) (an : Option Addr) (cdv ct : Value) (us : List Value), us.length = ps.length → bindArgs (PySem.W.fnOf "__init__" "Table.__init__" (defArgs st) (defBody st) (defScope st) .none kV doc pm an cdv ct) ⟨us, []⟩ = pure (ps.zip us)) : AtI K mg st ps := by
  have F := fun_mk (st := st) l c k
  exact ⟨C, f, _, hC, ⟨mk, me, mf, mp⟩, F, PySem.W.mg_of X G hC, F.binds hb⟩
theorem tabK_mk {K : PySem.W.Frag} {C : Addr} (hC : FnK K "Table" C) (pg : PySem.W.plainGet K C Str.empty = true) (hd : PySem.W.hasDictIn K C = true) (po : PySem.W.plainOver K C = true) (sa : PySem.W.findIn K (.ref C) "__setattr__" = some (some (.builtin "object.__setattr__")))
    (n1 : PySem.W.findIn K (.ref C) "floor" = some none) (n2 : PySem.W.findIn K (.ref C) "here" = some none) (n3 : PySem.W.findIn K (.ref C) "held" = some none) (n4 : PySem.W.findIn K (.ref C) "rolled" = some none) (n5 : PySem.W.findIn K (.ref C) "past" = some none) : TabK K where
  cls D hD := by cases fnK_inj hC hD; exact ⟨pg, hd, po, sa⟩
  na D hD f hf := by
    cases fnK_inj hC hD
    simp only [flds, List.mem_cons, List.not_mem_nil, or_false] at hf
    rcases hf with rfl | rfl | rfl | rfl | rfl
    · exact n1
    · exact n2
    · exact n3
    · exact n4
    · exact n5
end T3

end
section
set_option linter.all false
set_option autoImplicit false
set_option Elab.async false
set_option maxRecDepth 100000
namespace T3
open PySem PySem.Spec L2
variable [TabL]
structure IsK (K : PySem.W.Frag) : Prop where
  ha : ∀ C, FnK K "Table" C → PySem.W.findIn K (.ref C) "__class__" = some (some (.builtin "object.__class__"))
  hn : PySem.W.specialIn K (.builtin "object.__class__") "__get__" = some (some (.builtin "getset_descriptor.__get__"))
  htk : PySem.W.takesIn K (.builtin "object.__class__") = some true
  hm : ∀ C, FnK K "Table" C → PySem.W.mroIn K C (.type "object") = some true
  hk : ∀ C, FnK K "Table" C → PySem.W.kitOne K (.ref C) (.ref C) = some true
def eIsT (i : Nat) : EE := fun env => if isTb env i = true then some (.pd (.bool true), env) else none
theorem e_isT {X : Cx} {i : Nat} {e : Expr} {p p2 pos : Pos} (T : TabK X.K) (I : IsK X.K) (hC : ∃ C, FnK X.K "Table" C ∧ X.mg "Table" = some (.ref C)) (h : PE X e (tVar i)) (hm : X.mg "isinstance" = none) (hg : Gl X "isinstance" := by rfl) (hg2 : Gl X "Table" := by rfl)
    (hs1 : starEach [e, .Name "Table" p2] X.env = (false, eval e X.env) :: starEach [.Name "Table" p2] X.env := by rfl) (hs2 : starEach [.Name "Table" p2] X.env = (false, eval (.Name "Table" p2) X.env) :: starEach [] X.env := by rfl) (hpl : (backTo pos (starEach [.Name "Table" p2] X.env)).any (·.1) = false := by rfl) :
    PE X (.Call (.Name "isinstance" p) [e, .Name "Table" p2] [] pos) (tE X.K (eIsT i)) := by
  obtain ⟨C, hC, hm2⟩ := hC
  refine PE.imp (pe_callB call_isi hg hm PyProof.Rows.boot_isinstance (pa_cons h (pa_cons (pe_glob (v := .ref C) hg2 hm2 rfl) pa_nil hs2) hs1) (by decide) (by decide) hs1 hpl) fun σ H Q t => ?_
  obtain ⟨B, env, d, env', en, ev, q⟩ := t
  unfold eIsT at ev
  split at ev
  · rename_i ht
    cases ev
    obtain ⟨a, C', dx, fs, hσ, k1, k2, k3⟩ := isTb_at en ht
    obtain rfl := fnK_inj hC k2
    exact ⟨_, hσ, _, _, _, _, true, rfl, .own C, .base (.ins k1 (T.cls C hC) (I.ha C hC) I.hn I.htk (I.hm C hC)), I.hk C hC, q B H _ (.refl en) (.bl true)⟩
  · cases ev
def rEqT (K : PySem.W.Frag) (F : FnD) : R2 := fun x y H Q => ∃ a b C dx dy fs gs, x = .ref a ∧ y = .ref b ∧ H a = some (.ins C dx fs) ∧ H b = some (.ins C dy gs) ∧ FnK K "Table" C ∧ spF K F 2 [.ref a, .ref b] H Q E0
theorem op_eqT {X : Cx} {F : FnD} {n : Nat} (h : HasM X.prog X.w X.K X.mg X.base "__eq__" 2 F n) (hr : Room n X.A) : OpR X (compareOp .Eq) (rEqT X.K F) := by
  intro pins s σ H x y v u Q I rx ry hq
  obtain ⟨a, b, C, dx, dy, fs, gs, rfl, rfl, ha, hb', hC, hsp⟩ := hq
  cases rx
  cases ry
  show wpAny (model X.prog X.w) X.A (richCompare .Eq (.ref a) (.ref b)) (L2.EP X pins σ Q) X.xe s
  obtain ⟨f, fd, ps, Fk, me, hb⟩ := h
  obtain ⟨mA, J, _⟩ := ins_get I.hok ha
  obtain ⟨mB, J', _⟩ := ins_get I.hok hb'
  obtain ⟨od, J, _⟩ := J.look
  obtain ⟨od', J', _⟩ := J'.look
  have e0 := I.env0
  obtain ⟨m, hF⟩ := I.fr
  refine PySem.W.cmp_K (op := .Eq) (tb := .ref C) (Room.units0 hr) hF I.ok.mod.kin J J'.type (by simp [PySem.W.notFirst]) (me C hC).at_ (beq_iff_eq.mp (beq_iff_eq.mpr (me C hC).fn)) ?_
  have hl := Fk.len _ _ _ _ hsp
  have r2 : Vals [V.ref a, V.ref b] [Value.ref a, Value.ref b] := .cons rfl (.cons rfl .nil)
  refine wpAny_call (codeAny_mono (Fk.run X.A X.stack s H ⟨[.ref a, .ref b], []⟩ [.ref a, .ref b] [.ref a, .ref b] _ E0 hr e0 (by
    have := hb s [.ref a, .ref b] I.kIn (by simpa using hl)
    simpa using this) r2 hsp) fun r s' hq => ?_)
  cases r with
  | error e => exact pass0 pins σ H s e s' I hq
  | ok fl =>
    cases fl with
    | ret w =>
      obtain ⟨z, H', I', rz, q⟩ := I.after hq
      have fin : L2.EP X pins σ Q w s' := ⟨z, H', I', rz, q⟩
      show PySem.W.CmpBack (L2.EP X pins σ Q) w s'
      cases w <;> first | exact fin | skip
      cases z with
      | int i => obtain ⟨t, rz⟩ := rz; cases rz
      | str i => obtain ⟨t, rz⟩ := rz; cases rz
      | byt i => obtain ⟨t, rz⟩ := rz; cases rz
      | flt i => obtain ⟨t, rz⟩ := rz; cases rz
      | _ => cases rz
    | next => exact False.elim hq
    | brk => exact False.elim hq
    | cont => exact False.elim hq
def eEqT (i j : Nat) (F : FnD) : EE := fun env => if (isTb env i && isTb env j) = true then eCall F (eCons (eVar i) (eCons (eVar j) eNil)) env else none
theorem e_eqT {X : Cx} {F : FnD} {n i j : Nat} {a b : Expr} {pos : Pos} (h : HasM X.prog X.w X.K X.mg X.base "__eq__" 2 F n) (hr : Room n X.A) (ha : PE X a (tVar i)) (hb : PE X b (tVar j)) (hm : behindInMarks .Eq b = false := by rfl) : PE X (.Compare a [.Eq] [b] pos) (tE X.K (eEqT i j F)) :=
  PE.imp (pe_cmpR (op_eqT h hr) ha hb hm) fun σ H Q t => by
    obtain ⟨B, env, d, env', en, ev, q⟩ := t
    unfold eEqT at ev
    split at ev
    · rename_i ht
      rw [Bool.and_eq_true] at ht
      obtain ⟨x, C, dx, fs, hσ, k1, k2, k3⟩ := isTb_at en ht.1
      obtain ⟨y, C', dy, gs, hσ2, l1, l2, l3⟩ := isTb_at en ht.2
      obtain rfl := fnK_inj k2 l2
      have c := rd_call (E := E0) (lenA_cons (lenA_cons lenA_nil)) (⟨B, env, d, env', en, ev, q⟩ : tE X.K (eCall F (eCons (eVar i) (eCons (eVar j) eNil))) σ H Q)
      obtain ⟨v, hv, t⟩ := rd_var (rd_cons c)
      rw [hσ] at hv
      cases hv
      obtain ⟨v, hv, t⟩ := rd_var (rd_cons t)
      rw [hσ2] at hv
      cases hv
      exact ⟨_, hσ, _, hσ2, x, y, C, dx, dy, fs, gs, rfl, rfl, k1, l1, k2, rd_nil t⟩
    · cases ev
theorem isK_mk {K : PySem.W.Frag} {C : Addr} (hC : FnK K "Table" C) (h1 : PySem.W.findIn K (.ref C) "__class__" = some (some (.builtin "object.__class__"))) (h2 : PySem.W.specialIn K (.builtin "object.__class__") "__get__" = some (some (.builtin "getset_descriptor.__get__"))) (h3 : PySem.W.takesIn K (.builtin "object.__class__") = some true) (h4 : PySem.W.mroIn K C (.type "object") = some true) (h5 : PySem.W.kitOne K (.ref C) (.ref C) = some true) : IsK K :=
  ⟨fun D hD => by cases fnK_inj hC hD; exact h1, h2, h3, fun D hD => by cases fnK_inj hC hD; exact h4, fun D hD => by cases fnK_inj hC hD; exact h5⟩
end T3

end
section
set_option linter.all false
set_option autoImplicit false
set_option Elab.async false
set_option maxRecDepth 100000
set_option maxHeartbeats 4000000
namespace L77
open PySem L2 T3
noncomputable section
variable [TabL]
-- CASES gT pgT hdT poT saT mkT kpT naT0 naT1 naT2 naT3 naT4 is1 is2 is3 is4 kt_is a0 l0 c0 k0 a1 l1 c1 k1 a2 l2 c2 k2 a3 l3 c3 k3 a4 l4 c4 k4 a5 l5 c5 k5 a6 l6 c6 k6 a7 l7 c7 k7 a8 l8 c8 k8 a9 l9 c9 k9 a10 l10 c10 k10 a11 l11 c11 k11 a12 l12 c12 k12 a13 l13 c13 k13 a14 l14 c14 k14 a15 l15 c15 k15 a16 l16 c16 k16 a17 l17 c17 k17 a18 l18 c18 k18 a19 l19 c19 k19 a20 l20 c20 k20 a21 l21 c21 k21 a22 l22 c22 k22 a23 l23 c23 k23 a24 l24 c24 k24 a25 l25 c25 k25 a26 l26 c26 k26 a27 l27 c27 k27 a28 l28 c28 k28 a29 l29 c29 k29 a30 l30 c30 k30 a31 l31 c31 k31 a32 l32 c32 k32 a33 l33 c33 k33 a34 l34 c34 k34 a35 l35 c35 k35 a36 l36 c36 k36 a37 l37 c37 k37 a38 l38 c38 k38 a39 l39 c39 k39 a40 l40 c40 k40 a41 l41 c41 k41 a42 l42 c42 k42 a43 l43 c43 k43 a44 l44 c44 k44 a45 l45 c45 k45 a46 l46 c46 k46 a47 l47 c47 k47 a48 l48 c48 k48 a49 l49 c49 k49 a50 l50 c50 k50 a51 l51 c51 k51 a52 mf52 l52 c52 k52 a53 mf53 l53 c53 k53 a54 mf54 l54 c54 k54 a55 mf55 l55 c55 k55 a56 mf56 l56 c56 k56 a57 mf57 l57 c57 k57 a58 mf58 l58 c58 k58 a59 mf59 l59 c59 k59 a60 l60 c60 k60 a61 l61 c61 k61 a62 l62 c62 k62 a63 l63 c63 k63 a64 l64 c64 k64 a65 l65 c65 k65 a66 l66 c66 k66 a67 l67 c67 k67 a68 l68 c68 k68 a69 mf69 l69 t69 db_u69 c69 k69 a70 l70 c70 k70 a71 mf71 l71 c71 k71 a72 l72 c72 k72 z_isinstance z_bool z_int z_len z_tuple z_all z_zip z_str z_enumerate z_range z_list z_min z_max z_abs z_sorted ca_LAST_LINE cb_LAST_LINE ca_MOST_CELLS cb_MOST_CELLS ca_LYINGS cb_LYINGS ca_OPPOSITE_SUM cb_OPPOSITE_SUM ca_LETTERS cb_LETTERS ca_FACES cb_FACES ca_MOST_MARK cb_MOST_MARK ca_MOST_TIMES cb_MOST_TIMES da_STEPS dl_STEPS dk_STEPS db_STEPS
-- LEVEL 11
-- HOT 0
def topS (i : Nat) : Stmt := PySem.Challenge.pw_tumblemarks_k77_whole_marks_never_steer.main.body.getD i (.Pass ⟨0, 0, 0, 0⟩)
def methS (i j : Nat) : Stmt := match topS i with
  | .ClassDef (body := b) .. => b.getD j (.Pass ⟨0, 0, 0, 0⟩)
  | _ => .Pass ⟨0, 0, 0, 0⟩
def v_LAST_LINE : PyData := (.int 3)
def v_MOST_CELLS : PyData := (.int 9)
def v_OPPOSITE_SUM : PyData := (.int 5)
def v_LETTERS : PyData := (.tuple [(.str "n"), (.str "e"), (.str "s"), (.str "w")])
def v_LYINGS : PyData := (.tuple [(.tuple [(.int 0), (.int 1), (.int 2)]), (.tuple [(.int 0), (.int 2), (.int 4)]), (.tuple [(.int 0), (.int 3), (.int 1)]), (.tuple [(.int 0), (.int 4), (.int 3)]), (.tuple [(.int 1), (.int 0), (.int 3)]), (.tuple [(.int 1), (.int 2), (.int 0)]), (.tuple [(.int 1), (.int 3), (.int 5)]), (.tuple [(.int 1), (.int 5), (.int 2)]), (.tuple [(.int 2), (.int 0), (.int 1)]), (.tuple [(.int 2), (.int 1), (.int 5)]), (.tuple [(.int 2), (.int 4), (.int 0)]), (.tuple [(.int 2), (.int 5), (.int 4)]), (.tuple [(.int 3), (.int 0), (.int 4)]), (.tuple [(.int 3), (.int 1), (.int 0)]), (.tuple [(.int 3), (.int 4), (.int 5)]), (.tuple [(.int 3), (.int 5), (.int 1)]), (.tuple [(.int 4), (.int 0), (.int 2)]), (.tuple [(.int 4), (.int 2), (.int 5)]), (.tuple [(.int 4), (.int 3), (.int 0)]), (.tuple [(.int 4), (.int 5), (.int 3)]), (.tuple [(.int 5), (.int 1), (.int 3)]), (.tuple [(.int 5), (.int 2), (.int 1)]), (.tuple [(.int 5), (.int 3), (.int 4)]), (.tuple [(.int 5), (.int 4), (.int 2)])])
def v_FACES : PyData := (.int 6)
def v_MOST_MARK : PyData := (.int 999)
def v_MOST_TIMES : PyData := (.int 1000000000000)
def v_STEPS : List (Str × PyData) := [("n", (.tuple [(.int 0), (.int 1)])), ("e", (.tuple [(.int 1), (.int 0)])), ("s", (.tuple [(.int 0), (.int (-1))])), ("w", (.tuple [(.int (-1)), (.int 0)]))]
abbrev s_is_whole : Stmt := topS 22
abbrev N_is_whole : List Str := ["thing", "most"]
theorem sc_is_whole : FnScope N_is_whole ["thing", "most"] (defScope s_is_whole) := ⟨rfl, rfl, rfl, by decide +kernel, rfl, by decide +kernel, by decide +kernel⟩
def m_is_whole : SS := (sRet (eB (bAnd (bT (eThen (eOne (eVar 0)) (kE (oIsi .int)))) (bAnd (bNot (bT (eThen (eOne (eVar 0)) (kE (oIsi .bool))))) (bT (eCh (Cm.f .le) (Cm.f .le) (eC (.int 0)) (eVar 0) (eVar 1)))))))
def f_is_whole : FnD := runFn 2 m_is_whole
theorem p_is_whole {P : Program} {w : World} [WdOk w] {K : PySem.W.Frag} {mg : Str → Option Value} {base : Heap} (at_ : At0 K mg "is_whole" s_is_whole ["thing", "most"]) (z_isinstance : mg "isinstance" = none) (z_bool : mg "bool" = none) (z_int : mg "int" = none) : Has P w K mg base "is_whole" 2 f_is_whole 1 := by
  have nd := sc_is_whole.nd
  refine has_of (b := m_is_whole) (N := N_is_whole) (k := 0) at_ sc_is_whole rfl fun f cdv A outer s H E hr => ?_
  exact (ss_one (s_ret (e_and (e_bool (e_isi .int (e_var (pv 0)) (by rfl) z_isinstance (by rfl) z_int (by decide +kernel))) (e_and (e_not (e_bool (e_isi .bool (e_var (pv 0)) (by rfl) z_isinstance (by rfl) z_bool (by decide +kernel)))) (e_and1 (e_chain .le .le k_int (e_var (pv 0)) (e_var (pv 1))))))))
abbrev s_is_cell : Stmt := topS 23
abbrev N_is_cell : List Str := ["thing", "column", "line"]
theorem sc_is_cell : FnScope N_is_cell ["thing"] (defScope s_is_cell) := ⟨rfl, rfl, rfl, by decide +kernel, rfl, by decide +kernel, by decide +kernel⟩
def m_is_cell : SS := (sSeq (sIf (bOr (bNot (bT (eThen (eOne (eVar 0)) (kE (oIsi .tuple))))) (bT (eNe (eThen (eCons (eVar 0) eNil) (kE oLen)) (eC (.int 2))))) (sRet (eC (.bool false))) sPass)
  (sSeq (sAsg (eVar 0) (gT 2 (gCn (gN 1) (gCn (gN 2) gNl))))
  (sRet (eB (bAnd (bT (eCall f_is_whole (eCons (eVar 1) (eCons (eC v_LAST_LINE) eNil)))) (bT (eCall f_is_whole (eCons (eVar 2) (eCons (eC v_LAST_LINE) eNil)))))))))
def f_is_cell : FnD := runFn 3 m_is_cell
theorem p_is_cell {P : Program} {w : World} [WdOk w] {K : PySem.W.Frag} {mg : Str → Option Value} {base : Heap} (at_ : At0 K mg "is_cell" s_is_cell ["thing"]) (h_is_whole : Has P w K mg base "is_whole" 2 f_is_whole 1) (z_len : mg "len" = none) (z_isinstance : mg "isinstance" = none) (z_tuple : mg "tuple" = none) (c_LAST_LINE : KC K mg "LAST_LINE" v_LAST_LINE) : Has P w K mg base "is_cell" 1 f_is_cell 2 := by
  have nd := sc_is_cell.nd
  refine has_of (b := m_is_cell) (N := N_is_cell) (k := 1) at_ sc_is_cell rfl fun f cdv A outer s H E hr => ?_
  exact (ss_cons (s_if (PW.pt (b_or (b_not (b_truth (e_isi .tuple (e_var (pv 0)) (by rfl) z_isinstance (by rfl) z_tuple (by decide +kernel)))) (b_or1 (y_cmp (q_ne hr) (x_blt (w_len rfl hr) z_len (a_cons (e_var (pv 0)) a_nil)) k_int)))) (ss_one (s_ret k_bl)) ss_nil)
    (ss_cons (s_asg (e_var (pv 0)) (g_tup rfl (gs_cons (g_name (i := 1) nd rfl (.inl rfl)) (gs_cons (g_name (i := 2) nd rfl (.inl rfl)) gs_nil))))
    (ss_one (s_ret (e_and (e_bool (e_fn h_is_whole (hr.mono (by decide)) (lenA_cons (lenA_cons lenA_nil)) (a_cons (e_var (pv 1)) (a_cons (e_glob c_LAST_LINE) a_nil)))) (e_and1 (e_fn h_is_whole (hr.mono (by decide)) (lenA_cons (lenA_cons lenA_nil)) (a_cons (e_var (pv 2)) (a_cons (e_glob c_LAST_LINE) a_nil)))))))))
abbrev s_is_rising : Stmt := topS 24
abbrev N_is_rising : List Str := ["things", "one", "other"]
theorem sc_is_rising : FnScope N_is_rising ["things"] (defScope s_is_rising) := ⟨rfl, rfl, rfl, by decide +kernel, rfl, by decide +kernel, by decide +kernel⟩
def m_is_rising : SS := (sRet (eThen (eCons (eLc (iZt (eCons (eVar 0) (eCons (eSl (eVar 0) (oSome (eC (.int 1))) oNo) eNil))) (gT 2 (gCn (gN 1) (gCn (gN 2) gNl))) bYes (eLt (eVar 1) (eVar 2)) [1, 2]) eNil) (kE oAll)))
def f_is_rising : FnD := runFn 3 m_is_rising
theorem p_is_rising {P : Program} {w : World} [WdOk w] {K : PySem.W.Frag} {mg : Str → Option Value} {base : Heap} (at_ : At0 K mg "is_rising" s_is_rising ["things"]) (z_all : mg "all" = none) (z_zip : mg "zip" = none) : Has P w K mg base "is_rising" 1 f_is_rising 1 := by
  have nd := sc_is_rising.nd
  refine has_of (b := m_is_rising) (N := N_is_rising) (k := 0) at_ sc_is_rising rfl fun f cdv A outer s H E hr => ?_
  exact (ss_one (s_ret (x_blt (w_all rfl hr) z_all (a_cons (x_lc [("one", 1), ("other", 2)] rfl nd rfl (i_zip (by rfl) z_zip (a_cons (e_var (pv 0)) (a_cons (e_sl (e_var (pv 0)) (o_some k_int) o_no) a_nil))) (blkOk_by (N := N_is_rising) (sc := defScope s_is_rising) (by decide +kernel)) (only_gT (only_gCn (only_gN (by decide)) (only_gCn (only_gN (by decide)) only_gNl))) (fun _ _ _ _ _ => (v_tup rfl (vs_cons (v_name (i := 1) (by decide) nd rfl (.inl rfl)) (vs_cons (v_name (i := 2) (by decide) nd rfl (.inl rfl)) vs_nil)))) (fun _ _ _ _ _ => ts_yes) (fun _ _ _ _ _ => (x_cmp (q_lt hr) (e_var (pv 1)) (e_var (pv 2))))) a_nil))))
abbrev s_is_floor : Stmt := topS 25
abbrev N_is_floor : List Str := ["thing", "part"]
theorem sc_is_floor : FnScope N_is_floor ["thing"] (defScope s_is_floor) := ⟨rfl, rfl, rfl, by decide +kernel, rfl, by decide +kernel, by decide +kernel⟩
def m_is_floor : SS := (sSeq (sIf (bOr (bNot (bT (eThen (eOne (eVar 0)) (kE (oIsi .tuple))))) (bNot (bT (eCh (Cm.f .le) (Cm.f .le) (eC (.int 1)) (eThen (eCons (eVar 0) eNil) (kE oLen)) (eC v_MOST_CELLS))))) (sRet (eC (.bool false))) sPass)
  (sRet (eB (bAnd (bT (eThen (eCons (eLc (iSeq (eVar 0)) (gN 1) bYes (eCall f_is_cell (eCons (eVar 1) eNil)) [1]) eNil) (kE oAll))) (bT (eCall f_is_rising (eCons (eVar 0) eNil)))))))
def f_is_floor : FnD := runFn 2 m_is_floor
theorem p_is_floor {P : Program} {w : World} [WdOk w] {K : PySem.W.Frag} {mg : Str → Option Value} {base : Heap} (at_ : At0 K mg "is_floor" s_is_floor ["thing"]) (h_is_rising : Has P w K mg base "is_rising" 1 f_is_rising 1) (h_is_cell : Has P w K mg base "is_cell" 1 f_is_cell 2) (z_len : mg "len" = none) (z_isinstance : mg "isinstance" = none) (z_tuple : mg "tuple" = none) (z_all : mg "all" = none) (c_MOST_CELLS : KC K mg "MOST_CELLS" v_MOST_CELLS) : Has P w K mg base "is_floor" 1 f_is_floor 3 := by
  have nd := sc_is_floor.nd
  refine has_of (b := m_is_floor) (N := N_is_floor) (k := 2) at_ sc_is_floor rfl fun f cdv A outer s H E hr => ?_
  exact (ss_cons (s_if (PW.pt (b_or (b_not (b_truth (e_isi .tuple (e_var (pv 0)) (by rfl) z_isinstance (by rfl) z_tuple (by decide +kernel)))) (b_or1 (b_not (b_chain .le .le k_int (x_blt (w_len rfl hr) z_len (a_cons (e_var (pv 0)) a_nil)) (e_glob c_MOST_CELLS)))))) (ss_one (s_ret k_bl)) ss_nil)
    (ss_one (s_ret (e_and (e_bool (x_blt (w_all rfl hr) z_all (a_cons (x_lc [("part", 1)] rfl nd rfl (i_seq (e_var (pv 0))) (blkOk_by (N := N_is_floor) (sc := defScope s_is_floor) (by decide +kernel)) (only_gN (by decide)) (fun _ _ _ _ _ => (v_name (i := 1) (by decide) nd rfl (.inl rfl))) (fun _ _ _ _ _ => ts_yes) (fun _ _ _ _ _ => (e_fn h_is_cell (hr.mono (by decide)) (lenA_cons lenA_nil) (a_cons (e_var (pv 1)) a_nil)))) a_nil))) (e_and1 (e_fn h_is_rising (hr.mono (by decide)) (lenA_cons lenA_nil) (a_cons (e_var (pv 0)) a_nil)))))))
abbrev s_is_cell_of : Stmt := topS 26
abbrev N_is_cell_of : List Str := ["floor", "thing"]
theorem sc_is_cell_of : FnScope N_is_cell_of ["floor", "thing"] (defScope s_is_cell_of) := ⟨rfl, rfl, rfl, by decide +kernel, rfl, by decide +kernel, by decide +kernel⟩
def m_is_cell_of : SS := (sRet (eB (bAnd (bT (eCall f_is_cell (eCons (eVar 1) eNil))) (bT (eIn (eVar 1) (eVar 0))))))
def f_is_cell_of : FnD := runFn 2 m_is_cell_of
theorem p_is_cell_of {P : Program} {w : World} [WdOk w] {K : PySem.W.Frag} {mg : Str → Option Value} {base : Heap} (at_ : At0 K mg "is_cell_of" s_is_cell_of ["floor", "thing"]) (h_is_cell : Has P w K mg base "is_cell" 1 f_is_cell 2) : Has P w K mg base "is_cell_of" 2 f_is_cell_of 3 := by
  have nd := sc_is_cell_of.nd
  refine has_of (b := m_is_cell_of) (N := N_is_cell_of) (k := 2) at_ sc_is_cell_of rfl fun f cdv A outer s H E hr => ?_
  exact (ss_one (s_ret (e_and (e_bool (e_fn h_is_cell (hr.mono (by decide)) (lenA_cons lenA_nil) (a_cons (e_var (pv 1)) a_nil))) (e_and1 (x_cmp (q_in hr) (e_var (pv 1)) (e_var (pv 0)))))))
abbrev s_is_lying : Stmt := topS 27
abbrev N_is_lying : List Str := ["thing", "face"]
theorem sc_is_lying : FnScope N_is_lying ["thing"] (defScope s_is_lying) := ⟨rfl, rfl, rfl, by decide +kernel, rfl, by decide +kernel, by decide +kernel⟩
def m_is_lying : SS := (sSeq (sIf (bNot (bT (eThen (eOne (eVar 0)) (kE (oIsi .tuple))))) (sRet (eC (.bool false))) sPass)
  (sRet (eB (bAnd (bT (eThen (eCons (eLc (iSeq (eVar 0)) (gN 1) bYes (eCall f_is_whole (eCons (eVar 1) (eCons (eC v_OPPOSITE_SUM) eNil))) [1]) eNil) (kE oAll))) (bT (eIn (eVar 0) (eC v_LYINGS)))))))
def f_is_lying : FnD := runFn 2 m_is_lying
theorem p_is_lying {P : Program} {w : World} [WdOk w] {K : PySem.W.Frag} {mg : Str → Option Value} {base : Heap} (at_ : At0 K mg "is_lying" s_is_lying ["thing"]) (h_is_whole : Has P w K mg base "is_whole" 2 f_is_whole 1) (z_isinstance : mg "isinstance" = none) (z_tuple : mg "tuple" = none) (z_all : mg "all" = none) (c_LYINGS : KC K mg "LYINGS" v_LYINGS) (c_OPPOSITE_SUM : KC K mg "OPPOSITE_SUM" v_OPPOSITE_SUM) : Has P w K mg base "is_lying" 1 f_is_lying 2 := by
  have nd := sc_is_lying.nd
  refine has_of (b := m_is_lying) (N := N_is_lying) (k := 1) at_ sc_is_lying rfl fun f cdv A outer s H E hr => ?_
  exact (ss_cons (s_if (b_not (b_truth (e_isi .tuple (e_var (pv 0)) (by rfl) z_isinstance (by rfl) z_tuple (by decide +kernel)))) (ss_one (s_ret k_bl)) ss_nil)
    (ss_one (s_ret (e_and (e_bool (x_blt (w_all rfl hr) z_all (a_cons (x_lc [("face", 1)] rfl nd rfl (i_seq (e_var (pv 0))) (blkOk_by (N := N_is_lying) (sc := defScope s_is_lying) (by decide +kernel)) (only_gN (by decide)) (fun _ _ _ _ _ => (v_name (i := 1) (by decide) nd rfl (.inl rfl))) (fun _ _ _ _ _ => ts_yes) (fun _ _ _ _ _ => (e_fn h_is_whole (hr.mono (by decide)) (lenA_cons (lenA_cons lenA_nil)) (a_cons (e_var (pv 1)) (a_cons (e_glob c_OPPOSITE_SUM) a_nil))))) a_nil))) (e_and1 (x_cmp (q_in hr) (e_var (pv 0)) (e_glob c_LYINGS)))))))
abbrev s_is_stand : Stmt := topS 28
abbrev N_is_stand : List Str := ["floor", "thing", "cell", "lying"]
theorem sc_is_stand : FnScope N_is_stand ["floor", "thing"] (defScope s_is_stand) := ⟨rfl, rfl, rfl, by decide +kernel, rfl, by decide +kernel, by decide +kernel⟩
def m_is_stand : SS := (sSeq (sIf (bOr (bNot (bT (eThen (eOne (eVar 1)) (kE (oIsi .tuple))))) (bT (eNe (eThen (eCons (eVar 1) eNil) (kE oLen)) (eC (.int 2))))) (sRet (eC (.bool false))) sPass)
  (sSeq (sAsg (eVar 1) (gT 2 (gCn (gN 2) (gCn (gN 3) gNl))))
  (sRet (eB (bAnd (bT (eCall f_is_cell_of (eCons (eVar 0) (eCons (eVar 2) eNil)))) (bT (eCall f_is_lying (eCons (eVar 3) eNil))))))))
def f_is_stand : FnD := runFn 4 m_is_stand
theorem p_is_stand {P : Program} {w : World} [WdOk w] {K : PySem.W.Frag} {mg : Str → Option Value} {base : Heap} (at_ : At0 K mg "is_stand" s_is_stand ["floor", "thing"]) (h_is_lying : Has P w K mg base "is_lying" 1 f_is_lying 2) (h_is_cell_of : Has P w K mg base "is_cell_of" 2 f_is_cell_of 3) (z_len : mg "len" = none) (z_isinstance : mg "isinstance" = none) (z_tuple : mg "tuple" = none) : Has P w K mg base "is_stand" 2 f_is_stand 4 := by
  have nd := sc_is_stand.nd
  refine has_of (b := m_is_stand) (N := N_is_stand) (k := 3) at_ sc_is_stand rfl fun f cdv A outer s H E hr => ?_
  exact (ss_cons (s_if (PW.pt (b_or (b_not (b_truth (e_isi .tuple (e_var (pv 1)) (by rfl) z_isinstance (by rfl) z_tuple (by decide +kernel)))) (b_or1 (y_cmp (q_ne hr) (x_blt (w_len rfl hr) z_len (a_cons (e_var (pv 1)) a_nil)) k_int)))) (ss_one (s_ret k_bl)) ss_nil)
    (ss_cons (s_asg (e_var (pv 1)) (g_tup rfl (gs_cons (g_name (i := 2) nd rfl (.inl rfl)) (gs_cons (g_name (i := 3) nd rfl (.inl rfl)) gs_nil))))
    (ss_one (s_ret (e_and (e_bool (e_fn h_is_cell_of (hr.mono (by decide)) (lenA_cons (lenA_cons lenA_nil)) (a_cons (e_var (pv 0)) (a_cons (e_var (pv 2)) a_nil)))) (e_and1 (e_fn h_is_lying (hr.mono (by decide)) (lenA_cons lenA_nil) (a_cons (e_var (pv 3)) a_nil))))))))
abbrev s_is_letter : Stmt := topS 29
abbrev N_is_letter : List Str := ["thing"]
theorem sc_is_letter : FnScope N_is_letter ["thing"] (defScope s_is_letter) := ⟨rfl, rfl, rfl, by decide +kernel, rfl, by decide +kernel, by decide +kernel⟩
def m_is_letter : SS := (sRet (eB (bAnd (bT (eThen (eOne (eVar 0)) (kE (oIsi .str)))) (bT (eIn (eVar 0) (eC v_LETTERS))))))
def f_is_letter : FnD := runFn 1 m_is_letter
theorem p_is_letter {P : Program} {w : World} [WdOk w] {K : PySem.W.Frag} {mg : Str → Option Value} {base : Heap} (at_ : At0 K mg "is_letter" s_is_letter ["thing"]) (z_isinstance : mg "isinstance" = none) (z_str : mg "str" = none) (c_LETTERS : KC K mg "LETTERS" v_LETTERS) : Has P w K mg base "is_letter" 1 f_is_letter 1 := by
  have nd := sc_is_letter.nd
  refine has_of (b := m_is_letter) (N := N_is_letter) (k := 0) at_ sc_is_letter rfl fun f cdv A outer s H E hr => ?_
  exact (ss_one (s_ret (e_and (e_bool (e_isi .str (e_var (pv 0)) (by rfl) z_isinstance (by rfl) z_str (by decide +kernel))) (e_and1 (x_cmp (q_in hr) (e_var (pv 0)) (e_glob c_LETTERS))))))
abbrev s_is_row : Stmt := topS 30
abbrev N_is_row : List Str := ["thing", "sign"]
theorem sc_is_row : FnScope N_is_row ["thing"] (defScope s_is_row) := ⟨rfl, rfl, rfl, by decide +kernel, rfl, by decide +kernel, by decide +kernel⟩
def m_is_row : SS := (sRet (eB (bAnd (bT (eThen (eOne (eVar 0)) (kE (oIsi .str)))) (bT (eThen (eCons (eLc (iSeq (eVar 0)) (gN 1) bYes (eCall f_is_letter (eCons (eVar 1) eNil)) [1]) eNil) (kE oAll))))))
def f_is_row : FnD := runFn 2 m_is_row
theorem p_is_row {P : Program} {w : World} [WdOk w] {K : PySem.W.Frag} {mg : Str → Option Value} {base : Heap} (at_ : At0 K mg "is_row" s_is_row ["thing"]) (h_is_letter : Has P w K mg base "is_letter" 1 f_is_letter 1) (z_all : mg "all" = none) (z_isinstance : mg "isinstance" = none) (z_str : mg "str" = none) : Has P w K mg base "is_row" 1 f_is_row 2 := by
  have nd := sc_is_row.nd
  refine has_of (b := m_is_row) (N := N_is_row) (k := 1) at_ sc_is_row rfl fun f cdv A outer s H E hr => ?_
  exact (ss_one (s_ret (e_and (e_bool (e_isi .str (e_var (pv 0)) (by rfl) z_isinstance (by rfl) z_str (by decide +kernel))) (e_and1 (x_blt (w_all rfl hr) z_all (a_cons (x_lc [("sign", 1)] rfl nd rfl (i_seq (e_var (pv 0))) (blkOk_by (N := N_is_row) (sc := defScope s_is_row) (by decide +kernel)) (only_gN (by decide)) (fun _ _ _ _ _ => (v_name (i := 1) (by decide) nd rfl (.inl rfl))) (fun _ _ _ _ _ => ts_yes) (fun _ _ _ _ _ => (e_fn h_is_letter (hr.mono (by decide)) (lenA_cons lenA_nil) (a_cons (e_var (pv 1)) a_nil)))) a_nil))))))
abbrev s_need_floor : Stmt := topS 31
abbrev N_need_floor : List Str := ["floor"]
theorem sc_need_floor : FnScope N_need_floor ["floor"] (defScope s_need_floor) := ⟨rfl, rfl, rfl, by decide +kernel, rfl, by decide +kernel, by decide +kernel⟩
def m_need_floor : SS := (sIf (bNot (bT (eCall f_is_floor (eCons (eVar 0) eNil)))) sNever sPass)
def f_need_floor : FnD := runFn 1 m_need_floor
theorem p_need_floor {P : Program} {w : World} [WdOk w] {K : PySem.W.Frag} {mg : Str → Option Value} {base : Heap} (at_ : At0 K mg "need_floor" s_need_floor ["floor"]) (h_is_floor : Has P w K mg base "is_floor" 1 f_is_floor 3) : Has P w K mg base "need_floor" 1 f_need_floor 4 := by
  have nd := sc_need_floor.nd
  refine has_of (b := m_need_floor) (N := N_need_floor) (k := 3) at_ sc_need_floor rfl fun f cdv A outer s H E hr => ?_
  exact (ss_one (s_if (b_not (b_truth (e_fn h_is_floor (hr.mono (by decide)) (lenA_cons lenA_nil) (a_cons (e_var (pv 0)) a_nil)))) (ss_one s_never) ss_nil))
abbrev s_need_cell : Stmt := topS 32
abbrev N_need_cell : List Str := ["floor", "cell"]
theorem sc_need_cell : FnScope N_need_cell ["floor", "cell"] (defScope s_need_cell) := ⟨rfl, rfl, rfl, by decide +kernel, rfl, by decide +kernel, by decide +kernel⟩
def m_need_cell : SS := (sIf (bNot (bT (eCall f_is_cell_of (eCons (eVar 0) (eCons (eVar 1) eNil))))) sNever sPass)
def f_need_cell : FnD := runFn 2 m_need_cell
theorem p_need_cell {P : Program} {w : World} [WdOk w] {K : PySem.W.Frag} {mg : Str → Option Value} {base : Heap} (at_ : At0 K mg "need_cell" s_need_cell ["floor", "cell"]) (h_is_cell_of : Has P w K mg base "is_cell_of" 2 f_is_cell_of 3) : Has P w K mg base "need_cell" 2 f_need_cell 4 := by
  have nd := sc_need_cell.nd
  refine has_of (b := m_need_cell) (N := N_need_cell) (k := 3) at_ sc_need_cell rfl fun f cdv A outer s H E hr => ?_
  exact (ss_one (s_if (b_not (b_truth (e_fn h_is_cell_of (hr.mono (by decide)) (lenA_cons (lenA_cons lenA_nil)) (a_cons (e_var (pv 0)) (a_cons (e_var (pv 1)) a_nil))))) (ss_one s_never) ss_nil))
abbrev s_need_lying : Stmt := topS 33
abbrev N_need_lying : List Str := ["lying"]
theorem sc_need_lying : FnScope N_need_lying ["lying"] (defScope s_need_lying) := ⟨rfl, rfl, rfl, by decide +kernel, rfl, by decide +kernel, by decide +kernel⟩
def m_need_lying : SS := (sIf (bNot (bT (eCall f_is_lying (eCons (eVar 0) eNil)))) sNever sPass)
def f_need_lying : FnD := runFn 1 m_need_lying
theorem p_need_lying {P : Program} {w : World} [WdOk w] {K : PySem.W.Frag} {mg : Str → Option Value} {base : Heap} (at_ : At0 K mg "need_lying" s_need_lying ["lying"]) (h_is_lying : Has P w K mg base "is_lying" 1 f_is_lying 2) : Has P w K mg base "need_lying" 1 f_need_lying 3 := by
  have nd := sc_need_lying.nd
  refine has_of (b := m_need_lying) (N := N_need_lying) (k := 2) at_ sc_need_lying rfl fun f cdv A outer s H E hr => ?_
  exact (ss_one (s_if (b_not (b_truth (e_fn h_is_lying (hr.mono (by decide)) (lenA_cons lenA_nil) (a_cons (e_var (pv 0)) a_nil)))) (ss_one s_never) ss_nil))
abbrev s_need_stand : Stmt := topS 34
abbrev N_need_stand : List Str := ["floor", "stand"]
theorem sc_need_stand : FnScope N_need_stand ["floor", "stand"] (defScope s_need_stand) := ⟨rfl, rfl, rfl, by decide +kernel, rfl, by decide +kernel, by decide +kernel⟩
def m_need_stand : SS := (sIf (bNot (bT (eCall f_is_stand (eCons (eVar 0) (eCons (eVar 1) eNil))))) sNever sPass)
def f_need_stand : FnD := runFn 2 m_need_stand
theorem p_need_stand {P : Program} {w : World} [WdOk w] {K : PySem.W.Frag} {mg : Str → Option Value} {base : Heap} (at_ : At0 K mg "need_stand" s_need_stand ["floor", "stand"]) (h_is_stand : Has P w K mg base "is_stand" 2 f_is_stand 4) : Has P w K mg base "need_stand" 2 f_need_stand 5 := by
  have nd := sc_need_stand.nd
  refine has_of (b := m_need_stand) (N := N_need_stand) (k := 4) at_ sc_need_stand rfl fun f cdv A outer s H E hr => ?_
  exact (ss_one (s_if (b_not (b_truth (e_fn h_is_stand (hr.mono (by decide)) (lenA_cons (lenA_cons lenA_nil)) (a_cons (e_var (pv 0)) (a_cons (e_var (pv 1)) a_nil))))) (ss_one s_never) ss_nil))
abbrev s_need_letter : Stmt := topS 35
abbrev N_need_letter : List Str := ["letter"]
theorem sc_need_letter : FnScope N_need_letter ["letter"] (defScope s_need_letter) := ⟨rfl, rfl, rfl, by decide +kernel, rfl, by decide +kernel, by decide +kernel⟩
def m_need_letter : SS := (sIf (bNot (bT (eCall f_is_letter (eCons (eVar 0) eNil)))) sNever sPass)
def f_need_letter : FnD := runFn 1 m_need_letter
theorem p_need_letter {P : Program} {w : World} [WdOk w] {K : PySem.W.Frag} {mg : Str → Option Value} {base : Heap} (at_ : At0 K mg "need_letter" s_need_letter ["letter"]) (h_is_letter : Has P w K mg base "is_letter" 1 f_is_letter 1) : Has P w K mg base "need_letter" 1 f_need_letter 2 := by
  have nd := sc_need_letter.nd
  refine has_of (b := m_need_letter) (N := N_need_letter) (k := 1) at_ sc_need_letter rfl fun f cdv A outer s H E hr => ?_
  exact (ss_one (s_if (b_not (b_truth (e_fn h_is_letter (hr.mono (by decide)) (lenA_cons lenA_nil) (a_cons (e_var (pv 0)) a_nil)))) (ss_one s_never) ss_nil))
abbrev s_need_row : Stmt := topS 36
abbrev N_need_row : List Str := ["row"]
theorem sc_need_row : FnScope N_need_row ["row"] (defScope s_need_row) := ⟨rfl, rfl, rfl, by decide +kernel, rfl, by decide +kernel, by decide +kernel⟩
def m_need_row : SS := (sIf (bNot (bT (eCall f_is_row (eCons (eVar 0) eNil)))) sNever sPass)
def f_need_row : FnD := runFn 1 m_need_row
theorem p_need_row {P : Program} {w : World} [WdOk w] {K : PySem.W.Frag} {mg : Str → Option Value} {base : Heap} (at_ : At0 K mg "need_row" s_need_row ["row"]) (h_is_row : Has P w K mg base "is_row" 1 f_is_row 2) : Has P w K mg base "need_row" 1 f_need_row 3 := by
  have nd := sc_need_row.nd
  refine has_of (b := m_need_row) (N := N_need_row) (k := 2) at_ sc_need_row rfl fun f cdv A outer s H E hr => ?_
  exact (ss_one (s_if (b_not (b_truth (e_fn h_is_row (hr.mono (by decide)) (lenA_cons lenA_nil) (a_cons (e_var (pv 0)) a_nil)))) (ss_one s_never) ss_nil))
abbrev s_rolled_cell : Stmt := topS 38
abbrev N_rolled_cell : List Str := ["cell", "letter", "column", "line", "eastward", "northward"]
theorem sc_rolled_cell : FnScope N_rolled_cell ["cell", "letter"] (defScope s_rolled_cell) := ⟨rfl, rfl, rfl, by decide +kernel, rfl, by decide +kernel, by decide +kernel⟩
def m_rolled_cell : SS := (sSeq (sAsg (eVar 0) (gT 2 (gCn (gN 2) (gCn (gN 3) gNl))))
  (sSeq (sAsg (eKd v_STEPS (eVar 1)) (gT 2 (gCn (gN 4) (gCn (gN 5) gNl))))
  (sRet (eThen (eCons (eAdd (eVar 2) (eVar 4)) (eCons (eAdd (eVar 3) (eVar 5)) eNil)) kTup))))
def f_rolled_cell : FnD := runFn 6 m_rolled_cell
theorem p_rolled_cell {P : Program} {w : World} [WdOk w] {K : PySem.W.Frag} {mg : Str → Option Value} {base : Heap} (at_ : At0 K mg "rolled_cell" s_rolled_cell ["cell", "letter"]) (d_STEPS : KD K w mg "STEPS" v_STEPS) : Has P w K mg base "rolled_cell" 2 f_rolled_cell 1 := by
  have nd := sc_rolled_cell.nd
  refine has_of (b := m_rolled_cell) (N := N_rolled_cell) (k := 0) at_ sc_rolled_cell rfl fun f cdv A outer s H E hr => ?_
  exact (ss_cons (s_asg (e_var (pv 0)) (g_tup rfl (gs_cons (g_name (i := 2) nd rfl (.inl rfl)) (gs_cons (g_name (i := 3) nd rfl (.inl rfl)) gs_nil))))
    (ss_cons (s_asg (e_kdn d_STEPS (e_var (pv 1))) (g_tup rfl (gs_cons (g_name (i := 4) nd rfl (.inl rfl)) (gs_cons (g_name (i := 5) nd rfl (.inl rfl)) gs_nil))))
    (ss_one (s_ret (e_tup (a_cons (x_add (e_var (pv 2)) (e_var (pv 4))) (a_cons (x_add (e_var (pv 3)) (e_var (pv 5))) a_nil)))))))
abbrev s_rolled_lying : Stmt := topS 39
abbrev N_rolled_lying : List Str := ["lying", "letter", "low", "north", "east"]
theorem sc_rolled_lying : FnScope N_rolled_lying ["lying", "letter"] (defScope s_rolled_lying) := ⟨rfl, rfl, rfl, by decide +kernel, rfl, by decide +kernel, by decide +kernel⟩
def m_rolled_lying : SS := (sSeq (sAsg (eVar 0) (gT 3 (gCn (gN 2) (gCn (gN 3) (gCn (gN 4) gNl)))))
  (sSeq (sIf (bT (eEq (eVar 1) (eC (.str "n")))) (sRet (eThen (eCons (eVar 3) (eCons (eSub (eC v_OPPOSITE_SUM) (eVar 2)) (eCons (eVar 4) eNil))) kTup)) sPass)
  (sSeq (sIf (bT (eEq (eVar 1) (eC (.str "s")))) (sRet (eThen (eCons (eSub (eC v_OPPOSITE_SUM) (eVar 3)) (eCons (eVar 2) (eCons (eVar 4) eNil))) kTup)) sPass)
  (sSeq (sIf (bT (eEq (eVar 1) (eC (.str "e")))) (sRet (eThen (eCons (eVar 4) (eCons (eVar 3) (eCons (eSub (eC v_OPPOSITE_SUM) (eVar 2)) eNil))) kTup)) sPass)
  (sRet (eThen (eCons (eSub (eC v_OPPOSITE_SUM) (eVar 4)) (eCons (eVar 3) (eCons (eVar 2) eNil))) kTup))))))
def f_rolled_lying : FnD := runFn 5 m_rolled_lying
theorem p_rolled_lying {P : Program} {w : World} [WdOk w] {K : PySem.W.Frag} {mg : Str → Option Value} {base : Heap} (at_ : At0 K mg "rolled_lying" s_rolled_lying ["lying", "letter"]) (c_OPPOSITE_SUM : KC K mg "OPPOSITE_SUM" v_OPPOSITE_SUM) : Has P w K mg base "rolled_lying" 2 f_rolled_lying 1 := by
  have nd := sc_rolled_lying.nd
  refine has_of (b := m_rolled_lying) (N := N_rolled_lying) (k := 0) at_ sc_rolled_lying rfl fun f cdv A outer s H E hr => ?_
  exact (ss_cons (s_asg (e_var (pv 0)) (g_tup rfl (gs_cons (g_name (i := 2) nd rfl (.inl rfl)) (gs_cons (g_name (i := 3) nd rfl (.inl rfl)) (gs_cons (g_name (i := 4) nd rfl (.inl rfl)) gs_nil)))))
    (ss_cons (s_if (y_cmp (q_eq hr) (e_var (pv 1)) k_str) (ss_one (s_ret (e_tup (a_cons (e_var (pv 3)) (a_cons (x_sub (e_glob c_OPPOSITE_SUM) (e_var (pv 2))) (a_cons (e_var (pv 4)) a_nil)))))) ss_nil)
    (ss_cons (s_if (y_cmp (q_eq hr) (e_var (pv 1)) k_str) (ss_one (s_ret (e_tup (a_cons (x_sub (e_glob c_OPPOSITE_SUM) (e_var (pv 3))) (a_cons (e_var (pv 2)) (a_cons (e_var (pv 4)) a_nil)))))) ss_nil)
    (ss_cons (s_if (y_cmp (q_eq hr) (e_var (pv 1)) k_str) (ss_one (s_ret (e_tup (a_cons (e_var (pv 4)) (a_cons (e_var (pv 3)) (a_cons (x_sub (e_glob c_OPPOSITE_SUM) (e_var (pv 2))) a_nil)))))) ss_nil)
    (ss_one (s_ret (e_tup (a_cons (x_sub (e_glob c_OPPOSITE_SUM) (e_var (pv 4))) (a_cons (e_var (pv 3)) (a_cons (e_var (pv 2)) a_nil))))))))))
abbrev s_rolled_stand : Stmt := topS 40
abbrev N_rolled_stand : List Str := ["stand", "letter", "cell", "lying"]
theorem sc_rolled_stand : FnScope N_rolled_stand ["stand", "letter"] (defScope s_rolled_stand) := ⟨rfl, rfl, rfl, by decide +kernel, rfl, by decide +kernel, by decide +kernel⟩
def m_rolled_stand : SS := (sSeq (sAsg (eVar 0) (gT 2 (gCn (gN 2) (gCn (gN 3) gNl))))
  (sRet (eThen (eCons (eCall f_rolled_cell (eCons (eVar 2) (eCons (eVar 1) eNil))) (eCons (eCall f_rolled_lying (eCons (eVar 3) (eCons (eVar 1) eNil))) eNil)) kTup)))
def f_rolled_stand : FnD := runFn 4 m_rolled_stand
theorem p_rolled_stand {P : Program} {w : World} [WdOk w] {K : PySem.W.Frag} {mg : Str → Option Value} {base : Heap} (at_ : At0 K mg "rolled_stand" s_rolled_stand ["stand", "letter"]) (h_rolled_lying : Has P w K mg base "rolled_lying" 2 f_rolled_lying 1) (h_rolled_cell : Has P w K mg base "rolled_cell" 2 f_rolled_cell 1) : Has P w K mg base "rolled_stand" 2 f_rolled_stand 2 := by
  have nd := sc_rolled_stand.nd
  refine has_of (b := m_rolled_stand) (N := N_rolled_stand) (k := 1) at_ sc_rolled_stand rfl fun f cdv A outer s H E hr => ?_
  exact (ss_cons (s_asg (e_var (pv 0)) (g_tup rfl (gs_cons (g_name (i := 2) nd rfl (.inl rfl)) (gs_cons (g_name (i := 3) nd rfl (.inl rfl)) gs_nil))))
    (ss_one (s_ret (e_tup (a_cons (e_fn h_rolled_cell (hr.mono (by decide)) (lenA_cons (lenA_cons lenA_nil)) (a_cons (e_var (pv 2)) (a_cons (e_var (pv 1)) a_nil))) (a_cons (e_fn h_rolled_lying (hr.mono (by decide)) (lenA_cons (lenA_cons lenA_nil)) (a_cons (e_var (pv 3)) (a_cons (e_var (pv 1)) a_nil))) a_nil))))))
abbrev s_place_off : Stmt := topS 41
abbrev N_place_off : List Str := ["floor", "cell", "row", "here", "place", "letter"]
theorem sc_place_off : FnScope N_place_off ["floor", "cell", "row"] (defScope s_place_off) := ⟨rfl, rfl, rfl, by decide +kernel, rfl, by decide +kernel, by decide +kernel⟩
def m_place_off : SS := (sSeq (sSet 3 (eVar 1))
  (sSeq (sFor (iEn (eVar 2)) (gT 2 (gCn (gN 4) (gCn (gN 5) gNl))) (sSeq (sSet 3 (eCall f_rolled_cell (eCons (eVar 3) (eCons (eVar 5) eNil))))
  (sIf (bT (eNin (eVar 3) (eVar 0))) (sRet (eVar 4)) sPass)))
  (sRet (eC .none))))
def f_place_off : FnD := runFn 6 m_place_off
theorem p_place_off {P : Program} {w : World} [WdOk w] {K : PySem.W.Frag} {mg : Str → Option Value} {base : Heap} (at_ : At0 K mg "place_off" s_place_off ["floor", "cell", "row"]) (h_rolled_cell : Has P w K mg base "rolled_cell" 2 f_rolled_cell 1) (z_enumerate : mg "enumerate" = none) : Has P w K mg base "place_off" 3 f_place_off 2 := by
  have nd := sc_place_off.nd
  refine has_of (b := m_place_off) (N := N_place_off) (k := 1) at_ sc_place_off rfl fun f cdv A outer s H E hr => ?_
  exact (ss_cons (s_set (i := 3) nd rfl (.inl rfl) (e_var (pv 1)))
    (ss_cons (s_for PassesOwn.never rfl (i_en (by rfl) z_enumerate (e_var (pv 2))) (g_tup rfl (gs_cons (g_name (i := 4) nd rfl (.inl rfl)) (gs_cons (g_name (i := 5) nd rfl (.inl rfl)) gs_nil))) (ss_cons (s_set (i := 3) nd rfl (.inl rfl) (e_fn h_rolled_cell (hr.mono (by decide)) (lenA_cons (lenA_cons lenA_nil)) (a_cons (e_var (pv 3)) (a_cons (e_var (pv 5)) a_nil))))
    (ss_one (s_if (y_cmp (q_nin hr) (e_var (pv 3)) (e_var (pv 0))) (ss_one (s_ret (e_var (pv 4)))) ss_nil))))
    (ss_one (s_ret k_non))))
abbrev s_spots_of : Stmt := topS 46
abbrev N_spots_of : List Str := ["floor"]
theorem sc_spots_of : FnScope N_spots_of ["floor"] (defScope s_spots_of) := ⟨rfl, rfl, rfl, by decide +kernel, rfl, by decide +kernel, by decide +kernel⟩
def m_spots_of : SS := (sRet (eTrg (eCons (eAdd (eC v_FACES) (eThen (eCons (eVar 0) eNil) (kE oLen))) eNil)))
def f_spots_of : FnD := runFn 1 m_spots_of
theorem p_spots_of {P : Program} {w : World} [WdOk w] {K : PySem.W.Frag} {mg : Str → Option Value} {base : Heap} (at_ : At0 K mg "spots_of" s_spots_of ["floor"]) (z_tuple : mg "tuple" = none) (z_range : mg "range" = none) (z_len : mg "len" = none) (c_FACES : KC K mg "FACES" v_FACES) : Has P w K mg base "spots_of" 1 f_spots_of 1 := by
  have nd := sc_spots_of.nd
  refine has_of (b := m_spots_of) (N := N_spots_of) (k := 0) at_ sc_spots_of rfl fun f cdv A outer s H E hr => ?_
  exact (ss_one (s_ret (x_trg1 z_tuple z_range (x_add (e_glob c_FACES) (x_blt (w_len rfl hr) z_len (a_cons (e_var (pv 0)) a_nil))))))
abbrev s_spot_of_cell : Stmt := topS 47
abbrev N_spot_of_cell : List Str := ["floor", "cell"]
theorem sc_spot_of_cell : FnScope N_spot_of_cell ["floor", "cell"] (defScope s_spot_of_cell) := ⟨rfl, rfl, rfl, by decide +kernel, rfl, by decide +kernel, by decide +kernel⟩
def m_spot_of_cell : SS := (sRet (eAdd (eC v_FACES) (eBM isNt (eVar 0) (eCons (eVar 1) eNil) kIxT)))
def f_spot_of_cell : FnD := runFn 2 m_spot_of_cell
theorem p_spot_of_cell {P : Program} {w : World} [WdOk w] {K : PySem.W.Frag} {mg : Str → Option Value} {base : Heap} (at_ : At0 K mg "spot_of_cell" s_spot_of_cell ["floor", "cell"]) (c_FACES : KC K mg "FACES" v_FACES) : Has P w K mg base "spot_of_cell" 2 f_spot_of_cell 1 := by
  have nd := sc_spot_of_cell.nd
  refine has_of (b := m_spot_of_cell) (N := N_spot_of_cell) (k := 0) at_ sc_spot_of_cell rfl fun f cdv A outer s H E hr => ?_
  exact (ss_one (s_ret (x_add (e_glob c_FACES) (e_tix (u65 hr) (e_var (pv 0)) (a_cons (e_var (pv 1)) a_nil)))))
abbrev s_is_spot : Stmt := topS 48
abbrev N_is_spot : List Str := ["floor", "thing"]
theorem sc_is_spot : FnScope N_is_spot ["floor", "thing"] (defScope s_is_spot) := ⟨rfl, rfl, rfl, by decide +kernel, rfl, by decide +kernel, by decide +kernel⟩
def m_is_spot : SS := (sRet (eCall f_is_whole (eCons (eVar 1) (eCons (eSub (eAdd (eC v_FACES) (eThen (eCons (eVar 0) eNil) (kE oLen))) (eC (.int 1))) eNil))))
def f_is_spot : FnD := runFn 2 m_is_spot
theorem p_is_spot {P : Program} {w : World} [WdOk w] {K : PySem.W.Frag} {mg : Str → Option Value} {base : Heap} (at_ : At0 K mg "is_spot" s_is_spot ["floor", "thing"]) (h_is_whole : Has P w K mg base "is_whole" 2 f_is_whole 1) (z_len : mg "len" = none) (c_FACES : KC K mg "FACES" v_FACES) : Has P w K mg base "is_spot" 2 f_is_spot 2 := by
  have nd := sc_is_spot.nd
  refine has_of (b := m_is_spot) (N := N_is_spot) (k := 1) at_ sc_is_spot rfl fun f cdv A outer s H E hr => ?_
  exact (ss_one (s_ret (e_fn h_is_whole (hr.mono (by decide)) (lenA_cons (lenA_cons lenA_nil)) (a_cons (e_var (pv 1)) (a_cons (x_sub (x_add (e_glob c_FACES) (x_blt (w_len rfl hr) z_len (a_cons (e_var (pv 0)) a_nil))) k_int) a_nil)))))
abbrev s_is_marks : Stmt := topS 49
abbrev N_is_marks : List Str := ["floor", "thing", "mark"]
theorem sc_is_marks : FnScope N_is_marks ["floor", "thing"] (defScope s_is_marks) := ⟨rfl, rfl, rfl, by decide +kernel, rfl, by decide +kernel, by decide +kernel⟩
def m_is_marks : SS := (sSeq (sIf (bOr (bNot (bT (eThen (eOne (eVar 1)) (kE (oIsi .tuple))))) (bT (eNe (eThen (eCons (eVar 1) eNil) (kE oLen)) (eThen (eCons (eCall f_spots_of (eCons (eVar 0) eNil)) eNil) (kE oLen))))) (sRet (eC (.bool false))) sPass)
  (sRet (eThen (eCons (eLc (iSeq (eVar 1)) (gN 2) bYes (eCall f_is_whole (eCons (eVar 2) (eCons (eC v_MOST_MARK) eNil))) [2]) eNil) (kE oAll))))
def f_is_marks : FnD := runFn 3 m_is_marks
theorem p_is_marks {P : Program} {w : World} [WdOk w] {K : PySem.W.Frag} {mg : Str → Option Value} {base : Heap} (at_ : At0 K mg "is_marks" s_is_marks ["floor", "thing"]) (h_spots_of : Has P w K mg base "spots_of" 1 f_spots_of 1) (h_is_whole : Has P w K mg base "is_whole" 2 f_is_whole 1) (z_len : mg "len" = none) (z_isinstance : mg "isinstance" = none) (z_tuple : mg "tuple" = none) (z_all : mg "all" = none) (c_MOST_MARK : KC K mg "MOST_MARK" v_MOST_MARK) : Has P w K mg base "is_marks" 2 f_is_marks 2 := by
  have nd := sc_is_marks.nd
  refine has_of (b := m_is_marks) (N := N_is_marks) (k := 1) at_ sc_is_marks rfl fun f cdv A outer s H E hr => ?_
  exact (ss_cons (s_if (PW.pt (b_or (b_not (b_truth (e_isi .tuple (e_var (pv 1)) (by rfl) z_isinstance (by rfl) z_tuple (by decide +kernel)))) (b_or1 (y_cmp (q_ne hr) (x_blt (w_len rfl hr) z_len (a_cons (e_var (pv 1)) a_nil)) (x_blt (w_len rfl hr) z_len (a_cons (e_fn h_spots_of (hr.mono (by decide)) (lenA_cons lenA_nil) (a_cons (e_var (pv 0)) a_nil)) a_nil)))))) (ss_one (s_ret k_bl)) ss_nil)
    (ss_one (s_ret (x_blt (w_all rfl hr) z_all (a_cons (x_lc [("mark", 2)] rfl nd rfl (i_seq (e_var (pv 1))) (blkOk_by (N := N_is_marks) (sc := defScope s_is_marks) (by decide +kernel)) (only_gN (by decide)) (fun _ _ _ _ _ => (v_name (i := 2) (by decide) nd rfl (.inl rfl))) (fun _ _ _ _ _ => ts_yes) (fun _ _ _ _ _ => (e_fn h_is_whole (hr.mono (by decide)) (lenA_cons (lenA_cons lenA_nil)) (a_cons (e_var (pv 2)) (a_cons (e_glob c_MOST_MARK) a_nil))))) a_nil)))))
abbrev s_need_marks : Stmt := topS 50
abbrev N_need_marks : List Str := ["floor", "marks"]
theorem sc_need_marks : FnScope N_need_marks ["floor", "marks"] (defScope s_need_marks) := ⟨rfl, rfl, rfl, by decide +kernel, rfl, by decide +kernel, by decide +kernel⟩
def m_need_marks : SS := (sIf (bNot (bT (eCall f_is_marks (eCons (eVar 0) (eCons (eVar 1) eNil))))) sNever sPass)
def f_need_marks : FnD := runFn 2 m_need_marks
theorem p_need_marks {P : Program} {w : World} [WdOk w] {K : PySem.W.Frag} {mg : Str → Option Value} {base : Heap} (at_ : At0 K mg "need_marks" s_need_marks ["floor", "marks"]) (h_is_marks : Has P w K mg base "is_marks" 2 f_is_marks 2) : Has P w K mg base "need_marks" 2 f_need_marks 3 := by
  have nd := sc_need_marks.nd
  refine has_of (b := m_need_marks) (N := N_need_marks) (k := 2) at_ sc_need_marks rfl fun f cdv A outer s H E hr => ?_
  exact (ss_one (s_if (b_not (b_truth (e_fn h_is_marks (hr.mono (by decide)) (lenA_cons (lenA_cons lenA_nil)) (a_cons (e_var (pv 0)) (a_cons (e_var (pv 1)) a_nil))))) (ss_one s_never) ss_nil))
abbrev s_need_spot : Stmt := topS 51
abbrev N_need_spot : List Str := ["floor", "spot"]
theorem sc_need_spot : FnScope N_need_spot ["floor", "spot"] (defScope s_need_spot) := ⟨rfl, rfl, rfl, by decide +kernel, rfl, by decide +kernel, by decide +kernel⟩
def m_need_spot : SS := (sIf (bNot (bT (eCall f_is_spot (eCons (eVar 0) (eCons (eVar 1) eNil))))) sNever sPass)
def f_need_spot : FnD := runFn 2 m_need_spot
theorem p_need_spot {P : Program} {w : World} [WdOk w] {K : PySem.W.Frag} {mg : Str → Option Value} {base : Heap} (at_ : At0 K mg "need_spot" s_need_spot ["floor", "spot"]) (h_is_spot : Has P w K mg base "is_spot" 2 f_is_spot 2) : Has P w K mg base "need_spot" 2 f_need_spot 3 := by
  have nd := sc_need_spot.nd
  refine has_of (b := m_need_spot) (N := N_need_spot) (k := 2) at_ sc_need_spot rfl fun f cdv A outer s H E hr => ?_
  exact (ss_one (s_if (b_not (b_truth (e_fn h_is_spot (hr.mono (by decide)) (lenA_cons (lenA_cons lenA_nil)) (a_cons (e_var (pv 0)) (a_cons (e_var (pv 1)) a_nil))))) (ss_one s_never) ss_nil))
abbrev s_trade_at : Stmt := topS 52
abbrev N_trade_at : List Str := ["floor", "stand", "cell", "lying"]
theorem sc_trade_at : FnScope N_trade_at ["floor", "stand"] (defScope s_trade_at) := ⟨rfl, rfl, rfl, by decide +kernel, rfl, by decide +kernel, by decide +kernel⟩
def m_trade_at : SS := (sSeq (sAsg (eVar 1) (gT 2 (gCn (gN 2) (gCn (gN 3) gNl))))
  (sRet (eThen (eCons (eIx (eVar 3) (eC (.int 0))) (eCons (eCall f_spot_of_cell (eCons (eVar 0) (eCons (eVar 2) eNil))) eNil)) kTup)))
def f_trade_at : FnD := runFn 4 m_trade_at
theorem p_trade_at {P : Program} {w : World} [WdOk w] {K : PySem.W.Frag} {mg : Str → Option Value} {base : Heap} (at_ : At0 K mg "trade_at" s_trade_at ["floor", "stand"]) (h_spot_of_cell : Has P w K mg base "spot_of_cell" 2 f_spot_of_cell 1) : Has P w K mg base "trade_at" 2 f_trade_at 2 := by
  have nd := sc_trade_at.nd
  refine has_of (b := m_trade_at) (N := N_trade_at) (k := 1) at_ sc_trade_at rfl fun f cdv A outer s H E hr => ?_
  exact (ss_cons (s_asg (e_var (pv 1)) (g_tup rfl (gs_cons (g_name (i := 2) nd rfl (.inl rfl)) (gs_cons (g_name (i := 3) nd rfl (.inl rfl)) gs_nil))))
    (ss_one (s_ret (e_tup (a_cons (x_ix (e_var (pv 3)) k_int) (a_cons (e_fn h_spot_of_cell (hr.mono (by decide)) (lenA_cons (lenA_cons lenA_nil)) (a_cons (e_var (pv 0)) (a_cons (e_var (pv 2)) a_nil))) a_nil))))))
abbrev s_trades : Stmt := topS 53
abbrev N_trades : List Str := ["floor", "stand", "row", "traded", "here", "letter"]
theorem sc_trades : FnScope N_trades ["floor", "stand", "row"] (defScope s_trades) := ⟨rfl, rfl, rfl, by decide +kernel, rfl, by decide +kernel, by decide +kernel⟩
def m_trades : SS := (sSeq (sSet 3 (eThen eNil kLst))
  (sSeq (sSet 4 (eVar 1))
  (sSeq (sFor (iSeq (eVar 2)) (gN 5) (sSeq (sSet 4 (eCall f_rolled_stand (eCons (eVar 4) (eCons (eVar 5) eNil))))
  (sExpr (eBM isL (eVar 3) (eCons (eCall f_trade_at (eCons (eVar 0) (eCons (eVar 4) eNil))) eNil) kAppend))))
  (sRet (eVar 3)))))
def f_trades : FnD := runFn 6 m_trades
theorem p_trades {P : Program} {w : World} [WdOk w] {K : PySem.W.Frag} {mg : Str → Option Value} {base : Heap} (at_ : At0 K mg "trades" s_trades ["floor", "stand", "row"]) (h_rolled_stand : Has P w K mg base "rolled_stand" 2 f_rolled_stand 2) (h_trade_at : Has P w K mg base "trade_at" 2 f_trade_at 2) : Has P w K mg base "trades" 3 f_trades 3 := by
  have nd := sc_trades.nd
  refine has_of (b := m_trades) (N := N_trades) (k := 2) at_ sc_trades rfl fun f cdv A outer s H E hr => ?_
  exact (ss_cons (s_set (i := 3) nd rfl (.inl rfl) (e_lst a_nil))
    (ss_cons (s_set (i := 4) nd rfl (.inl rfl) (e_var (pv 1)))
    (ss_cons (s_for PassesOwn.never rfl (i_seq (e_var (pv 2))) (g_name (i := 5) nd rfl (.inl rfl)) (ss_cons (s_set (i := 4) nd rfl (.inl rfl) (e_fn h_rolled_stand (hr.mono (by decide)) (lenA_cons (lenA_cons lenA_nil)) (a_cons (e_var (pv 4)) (a_cons (e_var (pv 5)) a_nil))))
    (ss_one (s_expr (m_append (e_var (pv 3)) (a_cons (e_fn h_trade_at (hr.mono (by decide)) (lenA_cons (lenA_cons lenA_nil)) (a_cons (e_var (pv 0)) (a_cons (e_var (pv 4)) a_nil))) a_nil))))))
    (ss_one (s_ret (e_var (pv 3)))))))
abbrev s_held_traded : Stmt := topS 54
abbrev N_held_traded : List Str := ["traded", "held", "now", "one", "other"]
theorem sc_held_traded : FnScope N_held_traded ["traded", "held"] (defScope s_held_traded) := ⟨rfl, rfl, rfl, by decide +kernel, rfl, by decide +kernel, by decide +kernel⟩
def m_held_traded : SS := (sSeq (sSet 2 (eThen (eCons (eVar 1) eNil) (kL oList)))
  (sSeq (sFor (iSeq (eVar 0)) (gT 2 (gCn (gN 3) (gCn (gN 4) gNl))) (sAsg (eThen (eCons (eIx (eVar 2) (eVar 4)) (eCons (eIx (eVar 2) (eVar 3)) eNil)) kTup) (gT 2 (gCn (gS (eVar 2) (eVar 3)) (gCn (gS (eVar 2) (eVar 4)) gNl)))))
  (sRet (eThen (eCons (eVar 2) eNil) kTupN))))
def f_held_traded : FnD := runFn 5 m_held_traded
theorem p_held_traded {P : Program} {w : World} [WdOk w] {K : PySem.W.Frag} {mg : Str → Option Value} {base : Heap} (at_ : At0 K mg "held_traded" s_held_traded ["traded", "held"]) (z_list : mg "list" = none) (z_tuple : mg "tuple" = none) : Has P w K mg base "held_traded" 2 f_held_traded 1 := by
  have nd := sc_held_traded.nd
  refine has_of (b := m_held_traded) (N := N_held_traded) (k := 0) at_ sc_held_traded rfl fun f cdv A outer s H E hr => ?_
  exact (ss_cons (s_set (i := 2) nd rfl (.inl rfl) (x_bty (w_list rfl hr) z_list (a_cons (e_var (pv 1)) a_nil)))
    (ss_cons (s_for PassesOwn.never rfl (i_seq (e_var (pv 0))) (g_tup rfl (gs_cons (g_name (i := 3) nd rfl (.inl rfl)) (gs_cons (g_name (i := 4) nd rfl (.inl rfl)) gs_nil))) (ss_one (s_asg (e_tup (a_cons (x_ix (e_var (pv 2)) (e_var (pv 4))) (a_cons (x_ix (e_var (pv 2)) (e_var (pv 3))) a_nil))) (g_tup rfl (gs_cons (g_sub (e_var (pv 2)) (e_var (pv 3))) (gs_cons (g_sub (e_var (pv 2)) (e_var (pv 4))) gs_nil))))))
    (ss_one (s_ret (x_bty (w_tuple rfl hr) z_tuple (a_cons (e_var (pv 2)) a_nil))))))
abbrev s_held_behind : Stmt := topS 55
abbrev N_held_behind : List Str := ["floor", "stand", "row", "held"]
theorem sc_held_behind : FnScope N_held_behind ["floor", "stand", "row", "held"] (defScope s_held_behind) := ⟨rfl, rfl, rfl, by decide +kernel, rfl, by decide +kernel, by decide +kernel⟩
def m_held_behind : SS := (sRet (eCall f_held_traded (eCons (eCall f_trades (eCons (eVar 0) (eCons (eVar 1) (eCons (eVar 2) eNil)))) (eCons (eVar 3) eNil))))
def f_held_behind : FnD := runFn 4 m_held_behind
theorem p_held_behind {P : Program} {w : World} [WdOk w] {K : PySem.W.Frag} {mg : Str → Option Value} {base : Heap} (at_ : At0 K mg "held_behind" s_held_behind ["floor", "stand", "row", "held"]) (h_held_traded : Has P w K mg base "held_traded" 2 f_held_traded 1) (h_trades : Has P w K mg base "trades" 3 f_trades 3) : Has P w K mg base "held_behind" 4 f_held_behind 4 := by
  have nd := sc_held_behind.nd
  refine has_of (b := m_held_behind) (N := N_held_behind) (k := 3) at_ sc_held_behind rfl fun f cdv A outer s H E hr => ?_
  exact (ss_one (s_ret (e_fn h_held_traded (hr.mono (by decide)) (lenA_cons (lenA_cons lenA_nil)) (a_cons (e_fn h_trades (hr.mono (by decide)) (lenA_cons (lenA_cons (lenA_cons lenA_nil))) (a_cons (e_var (pv 0)) (a_cons (e_var (pv 1)) (a_cons (e_var (pv 2)) a_nil)))) (a_cons (e_var (pv 3)) a_nil)))))
abbrev s_exchange_by : Stmt := topS 56
abbrev N_exchange_by : List Str := ["traded", "spots", "origins", "spot"]
theorem sc_exchange_by : FnScope N_exchange_by ["traded", "spots"] (defScope s_exchange_by) := ⟨rfl, rfl, rfl, by decide +kernel, rfl, by decide +kernel, by decide +kernel⟩
def m_exchange_by : SS := (sSeq (sSet 2 (eCall f_held_traded (eCons (eVar 0) (eCons (eVar 1) eNil))))
  (sRet (eThen (eCons (eLc (iSeq (eVar 1)) (gN 3) bYes (eBM isNt (eVar 2) (eCons (eVar 3) eNil) kIxT) [3]) eNil) kTupN)))
def f_exchange_by : FnD := runFn 4 m_exchange_by
theorem p_exchange_by {P : Program} {w : World} [WdOk w] {K : PySem.W.Frag} {mg : Str → Option Value} {base : Heap} (at_ : At0 K mg "exchange_by" s_exchange_by ["traded", "spots"]) (h_held_traded : Has P w K mg base "held_traded" 2 f_held_traded 1) (z_tuple : mg "tuple" = none) : Has P w K mg base "exchange_by" 2 f_exchange_by 2 := by
  have nd := sc_exchange_by.nd
  refine has_of (b := m_exchange_by) (N := N_exchange_by) (k := 1) at_ sc_exchange_by rfl fun f cdv A outer s H E hr => ?_
  exact (ss_cons (s_set (i := 2) nd rfl (.inr rfl) (e_fn h_held_traded (hr.mono (by decide)) (lenA_cons (lenA_cons lenA_nil)) (a_cons (e_var (pv 0)) (a_cons (e_var (pv 1)) a_nil))))
    (ss_one (s_ret (x_bty (w_tuple rfl hr) z_tuple (a_cons (x_lc [("spot", 3)] rfl nd rfl (i_seq (e_var (pv 1))) (blkOk_by (N := N_exchange_by) (sc := defScope s_exchange_by) (by decide +kernel)) (only_gN (by decide)) (fun _ _ _ _ _ => (v_name (i := 3) (by decide) nd rfl (.inl rfl))) (fun _ _ _ _ _ => ts_yes) (fun _ _ _ _ _ => (e_tix (u65 hr) (e_var (pv 2)) (a_cons (e_var (pv 3)) a_nil)))) a_nil)))))
abbrev s_round_from : Stmt := topS 57
abbrev N_round_from : List Str := ["exchanged", "first", "spots", "spot"]
theorem sc_round_from : FnScope N_round_from ["exchanged", "first"] (defScope s_round_from) := ⟨rfl, rfl, rfl, by decide +kernel, rfl, by decide +kernel, by decide +kernel⟩
noncomputable def m_round_from : SS := (sSeq (sSet 2 (eThen (eCons (eVar 1) eNil) kLst))
  (sSeq (sSet 3 (eIx (eVar 0) (eVar 1)))
  (sSeq (sWhile (bT (eNe (eVar 3) (eVar 1))) (sSeq (sExpr (eBM isL (eVar 2) (eCons (eVar 3) eNil) kAppend))
  (sSet 3 (eIx (eVar 0) (eVar 3)))))
  (sRet (eThen (eCons (eVar 2) eNil) kTupN)))))
noncomputable def f_round_from : FnD := runFn 4 m_round_from
theorem p_round_from {P : Program} {w : World} [WdOk w] {K : PySem.W.Frag} {mg : Str → Option Value} {base : Heap} (at_ : At0 K mg "round_from" s_round_from ["exchanged", "first"]) (z_tuple : mg "tuple" = none) : Has P w K mg base "round_from" 2 f_round_from 1 := by
  have nd := sc_round_from.nd
  refine has_of (b := m_round_from) (N := N_round_from) (k := 0) at_ sc_round_from rfl fun f cdv A outer s H E hr => ?_
  exact (ss_cons (s_set (i := 2) nd rfl (.inl rfl) (e_lst (a_cons (e_var (pv 1)) a_nil)))
    (ss_cons (s_set (i := 3) nd rfl (.inl rfl) (x_ix (e_var (pv 0)) (e_var (pv 1))))
    (ss_cons (s_while PassesOwn.never (y_cmp (q_ne hr) (e_var (pv 3)) (e_var (pv 1))) (ss_cons (s_expr (m_append (e_var (pv 2)) (a_cons (e_var (pv 3)) a_nil)))
    (ss_one (s_set (i := 3) nd rfl (.inl rfl) (x_ix (e_var (pv 0)) (e_var (pv 3)))))))
    (ss_one (s_ret (x_bty (w_tuple rfl hr) z_tuple (a_cons (e_var (pv 2)) a_nil)))))))
abbrev s_rounds_in : Stmt := topS 58
abbrev N_rounds_in : List Str := ["exchanged", "turns", "first", "turn"]
theorem sc_rounds_in : FnScope N_rounds_in ["exchanged"] (defScope s_rounds_in) := ⟨rfl, rfl, rfl, by decide +kernel, rfl, by decide +kernel, by decide +kernel⟩
noncomputable def m_rounds_in : SS := (sSeq (sSet 1 (eLc (iRg1 (eCons (eThen (eCons (eVar 0) eNil) (kE oLen)) eNil)) (gN 2) bYes (eCall f_round_from (eCons (eVar 0) (eCons (eVar 2) eNil))) [2]))
  (sRet (eThen (eCons (eLc (iSeq (eVar 1)) (gN 3) (bAnd (bT (eGt (eThen (eCons (eVar 3) eNil) (kE oLen)) (eC (.int 1)))) (bT (eEq (eIx (eVar 3) (eC (.int 0))) (eThen (eCons (eVar 3) eNil) (kE oMin))))) (eVar 3) [3]) eNil) kTupN)))
noncomputable def f_rounds_in : FnD := runFn 4 m_rounds_in
theorem p_rounds_in {P : Program} {w : World} [WdOk w] {K : PySem.W.Frag} {mg : Str → Option Value} {base : Heap} (at_ : At0 K mg "rounds_in" s_rounds_in ["exchanged"]) (h_round_from : Has P w K mg base "round_from" 2 f_round_from 1) (z_range : mg "range" = none) (z_len : mg "len" = none) (z_tuple : mg "tuple" = none) (z_min : mg "min" = none) : Has P w K mg base "rounds_in" 1 f_rounds_in 2 := by
  have nd := sc_rounds_in.nd
  refine has_of (b := m_rounds_in) (N := N_rounds_in) (k := 1) at_ sc_rounds_in rfl fun f cdv A outer s H E hr => ?_
  exact (ss_cons (x_setLc (i := 1) [("first", 2)] rfl nd rfl rfl rfl (sw_true rfl rfl rfl (by decide +kernel)) (i_rg1 (by rfl) z_range (a_cons (x_blt (w_len rfl hr) z_len (a_cons (e_var (pv 0)) a_nil)) a_nil)) (blkOk_by (N := N_rounds_in) (sc := defScope s_rounds_in) (by decide +kernel)) (only_gN (by decide)) (fun _ _ _ _ _ => (v_name (i := 2) (by decide) nd rfl (.inl rfl))) (fun _ _ _ _ _ => ts_yes) (fun _ _ _ _ _ => (e_fn h_round_from (hr.mono (by decide)) (lenA_cons (lenA_cons lenA_nil)) (a_cons (e_var (pv 0)) (a_cons (e_var (pv 2)) a_nil)))))
    (ss_one (s_ret (x_bty (w_tuple rfl hr) z_tuple (a_cons (x_lc [("turn", 3)] rfl nd rfl (i_seq (e_var (pv 1))) (blkOk_by (N := N_rounds_in) (sc := defScope s_rounds_in) (by decide +kernel)) (only_gN (by decide)) (fun _ _ _ _ _ => (v_name (i := 3) (by decide) nd rfl (.inl rfl))) (fun _ _ _ _ _ => (ts_one (PW.pt (b_and (y_cmp (q_gt hr) (x_blt (w_len rfl hr) z_len (a_cons (e_var (pv 3)) a_nil)) k_int) (b_and1 (y_cmp (q_eq hr) (x_ix (e_var (pv 3)) k_int) (x_blt (w_min rfl hr) z_min (a_cons (e_var (pv 3)) a_nil)))))))) (fun _ _ _ _ _ => (e_var (pv 3)))) a_nil)))))
abbrev s_cell_behind : Stmt := topS 63
abbrev N_cell_behind : List Str := ["cell", "row", "here", "letter"]
theorem sc_cell_behind : FnScope N_cell_behind ["cell", "row"] (defScope s_cell_behind) := ⟨rfl, rfl, rfl, by decide +kernel, rfl, by decide +kernel, by decide +kernel⟩
def m_cell_behind : SS := (sSeq (sSet 2 (eVar 0))
  (sSeq (sFor (iSeq (eVar 1)) (gN 3) (sSet 2 (eCall f_rolled_cell (eCons (eVar 2) (eCons (eVar 3) eNil)))))
  (sRet (eVar 2))))
def f_cell_behind : FnD := runFn 4 m_cell_behind
theorem p_cell_behind {P : Program} {w : World} [WdOk w] {K : PySem.W.Frag} {mg : Str → Option Value} {base : Heap} (at_ : At0 K mg "cell_behind" s_cell_behind ["cell", "row"]) (h_rolled_cell : Has P w K mg base "rolled_cell" 2 f_rolled_cell 1) : Has P w K mg base "cell_behind" 2 f_cell_behind 2 := by
  have nd := sc_cell_behind.nd
  refine has_of (b := m_cell_behind) (N := N_cell_behind) (k := 1) at_ sc_cell_behind rfl fun f cdv A outer s H E hr => ?_
  exact (ss_cons (s_set (i := 2) nd rfl (.inl rfl) (e_var (pv 0)))
    (ss_cons (s_for PassesOwn.never rfl (i_seq (e_var (pv 1))) (g_name (i := 3) nd rfl (.inl rfl)) (ss_one (s_set (i := 2) nd rfl (.inl rfl) (e_fn h_rolled_cell (hr.mono (by decide)) (lenA_cons (lenA_cons lenA_nil)) (a_cons (e_var (pv 2)) (a_cons (e_var (pv 3)) a_nil))))))
    (ss_one (s_ret (e_var (pv 2))))))
abbrev s_is_endless : Stmt := topS 64
abbrev N_is_endless : List Str := ["floor", "cell", "row"]
theorem sc_is_endless : FnScope N_is_endless ["floor", "cell", "row"] (defScope s_is_endless) := ⟨rfl, rfl, rfl, by decide +kernel, rfl, by decide +kernel, by decide +kernel⟩
def m_is_endless : SS := (sRet (eB (bAnd (bT (eIs (eCall f_place_off (eCons (eVar 0) (eCons (eVar 1) (eCons (eVar 2) eNil)))) (eC .none))) (bT (eEq (eCall f_cell_behind (eCons (eVar 1) (eCons (eVar 2) eNil))) (eVar 1))))))
def f_is_endless : FnD := runFn 3 m_is_endless
theorem p_is_endless {P : Program} {w : World} [WdOk w] {K : PySem.W.Frag} {mg : Str → Option Value} {base : Heap} (at_ : At0 K mg "is_endless" s_is_endless ["floor", "cell", "row"]) (h_cell_behind : Has P w K mg base "cell_behind" 2 f_cell_behind 2) (h_place_off : Has P w K mg base "place_off" 3 f_place_off 2) : Has P w K mg base "is_endless" 3 f_is_endless 3 := by
  have nd := sc_is_endless.nd
  refine has_of (b := m_is_endless) (N := N_is_endless) (k := 2) at_ sc_is_endless rfl fun f cdv A outer s H E hr => ?_
  exact (ss_one (s_ret (e_and (e_bool (x_cmp (q_is hr) (e_fn h_place_off (hr.mono (by decide)) (lenA_cons (lenA_cons (lenA_cons lenA_nil))) (a_cons (e_var (pv 0)) (a_cons (e_var (pv 1)) (a_cons (e_var (pv 2)) a_nil)))) k_non)) (e_and1 (x_cmp (q_eq hr) (e_fn h_cell_behind (hr.mono (by decide)) (lenA_cons (lenA_cons lenA_nil)) (a_cons (e_var (pv 1)) (a_cons (e_var (pv 2)) a_nil))) (e_var (pv 1)))))))
abbrev s_most_plays : Stmt := topS 65
abbrev N_most_plays : List Str := ["floor", "cell", "row", "plays", "here"]
theorem sc_most_plays : FnScope N_most_plays ["floor", "cell", "row"] (defScope s_most_plays) := ⟨rfl, rfl, rfl, by decide +kernel, rfl, by decide +kernel, by decide +kernel⟩
noncomputable def m_most_plays : SS := (sSeq (sIf (bT (eCall f_is_endless (eCons (eVar 0) (eCons (eVar 1) (eCons (eVar 2) eNil))))) (sRet (eC .none)) sPass)
  (sSeq (sSet 3 (eC (.int 0)))
  (sSeq (sSet 4 (eVar 1))
  (sSeq (sWhile (bT (eIs (eCall f_place_off (eCons (eVar 0) (eCons (eVar 4) (eCons (eVar 2) eNil)))) (eC .none))) (sSeq (sSet 4 (eCall f_cell_behind (eCons (eVar 4) (eCons (eVar 2) eNil))))
  (sAug 3 (eC (.int 1)))))
  (sRet (eVar 3))))))
noncomputable def f_most_plays : FnD := runFn 5 m_most_plays
theorem p_most_plays {P : Program} {w : World} [WdOk w] {K : PySem.W.Frag} {mg : Str → Option Value} {base : Heap} (at_ : At0 K mg "most_plays" s_most_plays ["floor", "cell", "row"]) (h_is_endless : Has P w K mg base "is_endless" 3 f_is_endless 3) (h_place_off : Has P w K mg base "place_off" 3 f_place_off 2) (h_cell_behind : Has P w K mg base "cell_behind" 2 f_cell_behind 2) : Has P w K mg base "most_plays" 3 f_most_plays 4 := by
  have nd := sc_most_plays.nd
  refine has_of (b := m_most_plays) (N := N_most_plays) (k := 3) at_ sc_most_plays rfl fun f cdv A outer s H E hr => ?_
  exact (ss_cons (s_if (b_truth (e_fn h_is_endless (hr.mono (by decide)) (lenA_cons (lenA_cons (lenA_cons lenA_nil))) (a_cons (e_var (pv 0)) (a_cons (e_var (pv 1)) (a_cons (e_var (pv 2)) a_nil))))) (ss_one (s_ret k_non)) ss_nil)
    (ss_cons (s_set (i := 3) nd rfl (.inl rfl) k_int)
    (ss_cons (s_set (i := 4) nd rfl (.inl rfl) (e_var (pv 1)))
    (ss_cons (s_while PassesOwn.never (y_cmp (q_is hr) (e_fn h_place_off (hr.mono (by decide)) (lenA_cons (lenA_cons (lenA_cons lenA_nil))) (a_cons (e_var (pv 0)) (a_cons (e_var (pv 4)) (a_cons (e_var (pv 2)) a_nil)))) k_non) (ss_cons (s_set (i := 4) nd rfl (.inl rfl) (e_fn h_cell_behind (hr.mono (by decide)) (lenA_cons (lenA_cons lenA_nil)) (a_cons (e_var (pv 4)) (a_cons (e_var (pv 2)) a_nil))))
    (ss_one (s_aug (i := 3) nd rfl (.inl rfl) k_int))))
    (ss_one (s_ret (e_var (pv 3))))))))
abbrev s_need_times : Stmt := topS 66
abbrev N_need_times : List Str := ["times"]
theorem sc_need_times : FnScope N_need_times ["times"] (defScope s_need_times) := ⟨rfl, rfl, rfl, by decide +kernel, rfl, by decide +kernel, by decide +kernel⟩
def m_need_times : SS := (sIf (bNot (bT (eCall f_is_whole (eCons (eVar 0) (eCons (eC v_MOST_TIMES) eNil))))) sNever sPass)
def f_need_times : FnD := runFn 1 m_need_times
theorem p_need_times {P : Program} {w : World} [WdOk w] {K : PySem.W.Frag} {mg : Str → Option Value} {base : Heap} (at_ : At0 K mg "need_times" s_need_times ["times"]) (h_is_whole : Has P w K mg base "is_whole" 2 f_is_whole 1) (c_MOST_TIMES : KC K mg "MOST_TIMES" v_MOST_TIMES) : Has P w K mg base "need_times" 1 f_need_times 2 := by
  have nd := sc_need_times.nd
  refine has_of (b := m_need_times) (N := N_need_times) (k := 1) at_ sc_need_times rfl fun f cdv A outer s H E hr => ?_
  exact (ss_one (s_if (b_not (b_truth (e_fn h_is_whole (hr.mono (by decide)) (lenA_cons (lenA_cons lenA_nil)) (a_cons (e_var (pv 0)) (a_cons (e_glob c_MOST_TIMES) a_nil))))) (ss_one s_never) ss_nil))
abbrev s_need_plays : Stmt := topS 67
abbrev N_need_plays : List Str := ["floor", "cell", "row", "times", "most"]
theorem sc_need_plays : FnScope N_need_plays ["floor", "cell", "row", "times"] (defScope s_need_plays) := ⟨rfl, rfl, rfl, by decide +kernel, rfl, by decide +kernel, by decide +kernel⟩
noncomputable def m_need_plays : SS := (sSeq (sSet 4 (eCall f_most_plays (eCons (eVar 0) (eCons (eVar 1) (eCons (eVar 2) eNil)))))
  (sIf (bAnd (bT (eIsn (eVar 4) (eC .none))) (bT (eGt (eVar 3) (eVar 4)))) sNever sPass))
noncomputable def f_need_plays : FnD := runFn 5 m_need_plays
theorem p_need_plays {P : Program} {w : World} [WdOk w] {K : PySem.W.Frag} {mg : Str → Option Value} {base : Heap} (at_ : At0 K mg "need_plays" s_need_plays ["floor", "cell", "row", "times"]) (h_most_plays : Has P w K mg base "most_plays" 3 f_most_plays 4) : Has P w K mg base "need_plays" 4 f_need_plays 5 := by
  have nd := sc_need_plays.nd
  refine has_of (b := m_need_plays) (N := N_need_plays) (k := 4) at_ sc_need_plays rfl fun f cdv A outer s H E hr => ?_
  exact (ss_cons (s_set (i := 4) nd rfl (.inl rfl) (e_fn h_most_plays (hr.mono (by decide)) (lenA_cons (lenA_cons (lenA_cons lenA_nil))) (a_cons (e_var (pv 0)) (a_cons (e_var (pv 1)) (a_cons (e_var (pv 2)) a_nil)))))
    (ss_one (s_if (PW.pt (b_and (y_cmp (q_isn hr) (e_var (pv 4)) k_non) (b_and1 (y_cmp (q_gt hr) (e_var (pv 3)) (e_var (pv 4)))))) (ss_one s_never) ss_nil)))
abbrev s_repeated : Stmt := topS 69
abbrev N_repeated : List Str := ["exchanged", "times", "spots", "turn", "place", "spot"]
theorem sc_repeated : FnScope N_repeated ["exchanged", "times"] (defScope s_repeated) := ⟨rfl, rfl, rfl, by decide +kernel, rfl, by decide +kernel, by decide +kernel⟩
noncomputable def m_repeated : SS := (sSeq (sSet 2 (eLrg (eCons (eThen (eCons (eVar 0) eNil) (kE oLen)) eNil)))
  (sSeq (sFor (iSeq (eCall f_rounds_in (eCons (eVar 0) eNil))) (gN 3) (sFor (iEnT (eVar 3)) (gT 2 (gCn (gN 4) (gCn (gN 5) gNl))) (sAsg (eIx (eVar 3) (eMod (eAdd (eVar 4) (eVar 1)) (eThen (eCons (eVar 3) eNil) (kE oLen)))) (gS (eVar 2) (eVar 5)))))
  (sRet (eThen (eCons (eVar 2) eNil) kTupN))))
noncomputable def f_repeated : FnD := runFn 6 m_repeated
theorem p_repeated {P : Program} {w : World} [WdOk w] {K : PySem.W.Frag} {mg : Str → Option Value} {base : Heap} (at_ : At0 K mg "repeated" s_repeated ["exchanged", "times"]) (h_rounds_in : Has P w K mg base "rounds_in" 1 f_rounds_in 2) (z_list : mg "list" = none) (z_range : mg "range" = none) (z_len : mg "len" = none) (z_enumerate : mg "enumerate" = none) (z_tuple : mg "tuple" = none) : Has P w K mg base "repeated" 2 f_repeated 3 := by
  have nd := sc_repeated.nd
  refine has_of (b := m_repeated) (N := N_repeated) (k := 2) at_ sc_repeated rfl fun f cdv A outer s H E hr => ?_
  exact (ss_cons (s_set (i := 2) nd rfl (.inl rfl) (x_lrg1 z_list z_range (x_blt (w_len rfl hr) z_len (a_cons (e_var (pv 0)) a_nil))))
    (ss_cons (s_for PassesOwn.never rfl (i_seq (e_fn h_rounds_in (hr.mono (by decide)) (lenA_cons lenA_nil) (a_cons (e_var (pv 0)) a_nil))) (g_name (i := 3) nd rfl (.inl rfl)) (ss_one (s_for PassesOwn.never rfl (i_enT (by rfl) z_enumerate (e_var (pv 3))) (g_tup rfl (gs_cons (g_name (i := 4) nd rfl (.inl rfl)) (gs_cons (g_name (i := 5) nd rfl (.inl rfl)) gs_nil))) (ss_one (s_asg (x_ix (e_var (pv 3)) (x_mod (x_add (e_var (pv 4)) (e_var (pv 1))) (x_blt (w_len rfl hr) z_len (a_cons (e_var (pv 3)) a_nil)))) (g_sub (e_var (pv 2)) (e_var (pv 5))))))))
    (ss_one (s_ret (x_bty (w_tuple rfl hr) z_tuple (a_cons (e_var (pv 2)) a_nil))))))
abbrev s_need_far : Stmt := topS 70
abbrev N_need_far : List Str := ["floor", "stand", "row", "times"]
theorem sc_need_far : FnScope N_need_far ["floor", "stand", "row", "times"] (defScope s_need_far) := ⟨rfl, rfl, rfl, by decide +kernel, rfl, by decide +kernel, by decide +kernel⟩
noncomputable def m_need_far : SS := (sSeq (sExpr (eCall f_need_floor (eCons (eVar 0) eNil)))
  (sSeq (sExpr (eCall f_need_stand (eCons (eVar 0) (eCons (eVar 1) eNil))))
  (sSeq (sExpr (eCall f_need_row (eCons (eVar 2) eNil)))
  (sSeq (sExpr (eCall f_need_times (eCons (eVar 3) eNil)))
  (sExpr (eCall f_need_plays (eCons (eVar 0) (eCons (eIx (eVar 1) (eC (.int 0))) (eCons (eVar 2) (eCons (eVar 3) eNil))))))))))
noncomputable def f_need_far : FnD := runFn 4 m_need_far
theorem p_need_far {P : Program} {w : World} [WdOk w] {K : PySem.W.Frag} {mg : Str → Option Value} {base : Heap} (at_ : At0 K mg "need_far" s_need_far ["floor", "stand", "row", "times"]) (h_need_floor : Has P w K mg base "need_floor" 1 f_need_floor 4) (h_need_stand : Has P w K mg base "need_stand" 2 f_need_stand 5) (h_need_row : Has P w K mg base "need_row" 1 f_need_row 3) (h_need_times : Has P w K mg base "need_times" 1 f_need_times 2) (h_need_plays : Has P w K mg base "need_plays" 4 f_need_plays 5) : Has P w K mg base "need_far" 4 f_need_far 6 := by
  have nd := sc_need_far.nd
  refine has_of (b := m_need_far) (N := N_need_far) (k := 5) at_ sc_need_far rfl fun f cdv A outer s H E hr => ?_
  exact (ss_cons (s_expr (e_fn h_need_floor (hr.mono (by decide)) (lenA_cons lenA_nil) (a_cons (e_var (pv 0)) a_nil)))
    (ss_cons (s_expr (e_fn h_need_stand (hr.mono (by decide)) (lenA_cons (lenA_cons lenA_nil)) (a_cons (e_var (pv 0)) (a_cons (e_var (pv 1)) a_nil))))
    (ss_cons (s_expr (e_fn h_need_row (hr.mono (by decide)) (lenA_cons lenA_nil) (a_cons (e_var (pv 2)) a_nil)))
    (ss_cons (s_expr (e_fn h_need_times (hr.mono (by decide)) (lenA_cons lenA_nil) (a_cons (e_var (pv 3)) a_nil)))
    (ss_one (s_expr (e_fn h_need_plays (hr.mono (by decide)) (lenA_cons (lenA_cons (lenA_cons (lenA_cons lenA_nil)))) (a_cons (e_var (pv 0)) (a_cons (x_ix (e_var (pv 1)) k_int) (a_cons (e_var (pv 2)) (a_cons (e_var (pv 3)) a_nil)))))))))))
abbrev s_exchanged_marks : Stmt := topS 75
abbrev N_exchanged_marks : List Str := ["exchanged", "marks", "now", "spot", "to"]
theorem sc_exchanged_marks : FnScope N_exchanged_marks ["exchanged", "marks"] (defScope s_exchanged_marks) := ⟨rfl, rfl, rfl, by decide +kernel, rfl, by decide +kernel, by decide +kernel⟩
def m_exchanged_marks : SS := (sSeq (sSet 2 (eThen (eCons (eVar 1) eNil) (kL oList)))
  (sSeq (sFor (iEnT (eVar 0)) (gT 2 (gCn (gN 3) (gCn (gN 4) gNl))) (sAsg (eIx (eVar 1) (eVar 3)) (gS (eVar 2) (eVar 4))))
  (sRet (eThen (eCons (eVar 2) eNil) kTupN))))
def f_exchanged_marks : FnD := runFn 5 m_exchanged_marks
theorem p_exchanged_marks {P : Program} {w : World} [WdOk w] {K : PySem.W.Frag} {mg : Str → Option Value} {base : Heap} (at_ : At0 K mg "exchanged_marks" s_exchanged_marks ["exchanged", "marks"]) (z_list : mg "list" = none) (z_enumerate : mg "enumerate" = none) (z_tuple : mg "tuple" = none) : Has P w K mg base "exchanged_marks" 2 f_exchanged_marks 1 := by
  have nd := sc_exchanged_marks.nd
  refine has_of (b := m_exchanged_marks) (N := N_exchanged_marks) (k := 0) at_ sc_exchanged_marks rfl fun f cdv A outer s H E hr => ?_
  exact (ss_cons (s_set (i := 2) nd rfl (.inl rfl) (x_bty (w_list rfl hr) z_list (a_cons (e_var (pv 1)) a_nil)))
    (ss_cons (s_for PassesOwn.never rfl (i_enT (by rfl) z_enumerate (e_var (pv 0))) (g_tup rfl (gs_cons (g_name (i := 3) nd rfl (.inl rfl)) (gs_cons (g_name (i := 4) nd rfl (.inl rfl)) gs_nil))) (ss_one (s_asg (x_ix (e_var (pv 1)) (e_var (pv 3))) (g_sub (e_var (pv 2)) (e_var (pv 4))))))
    (ss_one (s_ret (x_bty (w_tuple rfl hr) z_tuple (a_cons (e_var (pv 2)) a_nil))))))
abbrev s_need_mark : Stmt := topS 76
abbrev N_need_mark : List Str := ["number"]
theorem sc_need_mark : FnScope N_need_mark ["number"] (defScope s_need_mark) := ⟨rfl, rfl, rfl, by decide +kernel, rfl, by decide +kernel, by decide +kernel⟩
def m_need_mark : SS := (sIf (bNot (bT (eCall f_is_whole (eCons (eVar 0) (eCons (eC v_MOST_MARK) eNil))))) sNever sPass)
def f_need_mark : FnD := runFn 1 m_need_mark
theorem p_need_mark {P : Program} {w : World} [WdOk w] {K : PySem.W.Frag} {mg : Str → Option Value} {base : Heap} (at_ : At0 K mg "need_mark" s_need_mark ["number"]) (h_is_whole : Has P w K mg base "is_whole" 2 f_is_whole 1) (c_MOST_MARK : KC K mg "MOST_MARK" v_MOST_MARK) : Has P w K mg base "need_mark" 1 f_need_mark 2 := by
  have nd := sc_need_mark.nd
  refine has_of (b := m_need_mark) (N := N_need_mark) (k := 1) at_ sc_need_mark rfl fun f cdv A outer s H E hr => ?_
  exact (ss_one (s_if (b_not (b_truth (e_fn h_is_whole (hr.mono (by decide)) (lenA_cons (lenA_cons lenA_nil)) (a_cons (e_var (pv 0)) (a_cons (e_glob c_MOST_MARK) a_nil))))) (ss_one s_never) ss_nil))
abbrev s__law_cell_at : Stmt := topS 79
abbrev N__law_cell_at : List Str := ["_law_script", "_law_k"]
theorem sc__law_cell_at : FnScope N__law_cell_at ["_law_script", "_law_k"] (defScope s__law_cell_at) := ⟨rfl, rfl, rfl, by decide +kernel, rfl, by decide +kernel, by decide +kernel⟩
def m__law_cell_at : SS := (sSeq (sIf (bT (eLt (eVar 1) (eThen (eCons (eVar 0) eNil) (kE oLen)))) (sRet (eIx (eVar 0) (eVar 1))) sPass)
  (sRet (eC (.int 0))))
def f__law_cell_at : FnD := runFn 2 m__law_cell_at
theorem p__law_cell_at {P : Program} {w : World} [WdOk w] {K : PySem.W.Frag} {mg : Str → Option Value} {base : Heap} (at_ : At0 K mg "_law_cell_at" s__law_cell_at ["_law_script", "_law_k"]) (z_len : mg "len" = none) : Has P w K mg base "_law_cell_at" 2 f__law_cell_at 1 := by
  have nd := sc__law_cell_at.nd
  refine has_of (b := m__law_cell_at) (N := N__law_cell_at) (k := 0) at_ sc__law_cell_at rfl fun f cdv A outer s H E hr => ?_
  exact (ss_cons (s_if (y_cmp (q_lt hr) (e_var (pv 1)) (x_blt (w_len rfl hr) z_len (a_cons (e_var (pv 0)) a_nil))) (ss_one (s_ret (x_ix (e_var (pv 0)) (e_var (pv 1))))) ss_nil)
    (ss_one (s_ret k_int)))
abbrev s__law_pen : Stmt := topS 80
abbrev N__law_pen : List Str := ["_law_cell"]
theorem sc__law_pen : FnScope N__law_pen ["_law_cell"] (defScope s__law_pen) := ⟨rfl, rfl, rfl, by decide +kernel, rfl, by decide +kernel, by decide +kernel⟩
def m__law_pen : SS := (sRet (eThen (eCons (eThen (eCons (eC (.int 0)) (eCons (eSub (eVar 0) (ePow (eC (.int 10)) (eC (.int 18)))) eNil)) (kE oMax)) (eCons (eMod (eVar 0) (eC (.int 1000000007))) (eCons (eC (.int 0)) eNil))) kLst))
def f__law_pen : FnD := runFn 1 m__law_pen
theorem p__law_pen {P : Program} {w : World} [WdOk w] {K : PySem.W.Frag} {mg : Str → Option Value} {base : Heap} (at_ : At0 K mg "_law_pen" s__law_pen ["_law_cell"]) (z_max : mg "max" = none) : Has P w K mg base "_law_pen" 1 f__law_pen 1 := by
  have nd := sc__law_pen.nd
  refine has_of (b := m__law_pen) (N := N__law_pen) (k := 0) at_ sc__law_pen rfl fun f cdv A outer s H E hr => ?_
  exact (ss_one (s_ret (e_lst (a_cons (x_blt (w_max rfl hr) z_max (a_cons k_int (a_cons (x_sub (e_var (pv 0)) (x_pow k_int k_int)) a_nil))) (a_cons (x_mod (e_var (pv 0)) k_int) (a_cons k_int a_nil))))))
abbrev s__law_draw : Stmt := topS 81
abbrev N__law_draw : List Str := ["_law_pen_here", "_law_many", "_law_digit", "_law_stir"]
theorem sc__law_draw : FnScope N__law_draw ["_law_pen_here", "_law_many"] (defScope s__law_draw) := ⟨rfl, rfl, rfl, by decide +kernel, rfl, by decide +kernel, by decide +kernel⟩
def m__law_draw : SS := (sSeq (sIf (bT (eGt (eIx (eVar 0) (eC (.int 0))) (eC (.int 0)))) (sSeq (sSet 2 (eMod (eIx (eVar 0) (eC (.int 0))) (eVar 1)))
  (sSeq (sAsg (eFdiv (eIx (eVar 0) (eC (.int 0))) (eVar 1)) (gS (eVar 0) (eC (.int 0))))
  (sRet (eVar 2)))) sPass)
  (sSeq (sAsg (eAdd (eIx (eVar 0) (eC (.int 2))) (eC (.int 1))) (gS (eVar 0) (eC (.int 2))))
  (sSeq (sSet 3 (eMod (eMul (eAdd (eIx (eVar 0) (eC (.int 1))) (eMul (eC (.int 17)) (eIx (eVar 0) (eC (.int 2))))) (eAdd (eC (.int 69621)) (eMul (eC (.int 2)) (eIx (eVar 0) (eC (.int 2)))))) (eC (.int 2147483647))))
  (sSeq (sSet 3 (eMod (eAdd (eAdd (eMul (eVar 3) (eVar 3)) (eMul (eC (.int 40503)) (eIx (eVar 0) (eC (.int 2))))) (eC (.int 5))) (eC (.int 2147483629))))
  (sRet (eMod (eFdiv (eMod (eMul (eVar 3) (eC (.int 48271))) (eC (.int 2147483647))) (eC (.int 32))) (eVar 1)))))))
def f__law_draw : FnD := runFn 4 m__law_draw
theorem p__law_draw {P : Program} {w : World} [WdOk w] {K : PySem.W.Frag} {mg : Str → Option Value} {base : Heap} (at_ : At0 K mg "_law_draw" s__law_draw ["_law_pen_here", "_law_many"])  : Has P w K mg base "_law_draw" 2 f__law_draw 1 := by
  have nd := sc__law_draw.nd
  refine has_of (b := m__law_draw) (N := N__law_draw) (k := 0) at_ sc__law_draw rfl fun f cdv A outer s H E hr => ?_
  exact (ss_cons (s_if (y_cmp (q_gt hr) (x_ix (e_var (pv 0)) k_int) k_int) (ss_cons (s_set (i := 2) nd rfl (.inl rfl) (x_mod (x_ix (e_var (pv 0)) k_int) (e_var (pv 1))))
    (ss_cons (s_asg (x_fdiv (x_ix (e_var (pv 0)) k_int) (e_var (pv 1))) (g_sub (e_var (pv 0)) k_int))
    (ss_one (s_ret (e_var (pv 2)))))) ss_nil)
    (ss_cons (s_asg (x_add (x_ix (e_var (pv 0)) k_int) k_int) (g_sub (e_var (pv 0)) k_int))
    (ss_cons (s_set (i := 3) nd rfl (.inl rfl) (x_mod (x_mul (x_add (x_ix (e_var (pv 0)) k_int) (x_mul k_int (x_ix (e_var (pv 0)) k_int))) (x_add k_int (x_mul k_int (x_ix (e_var (pv 0)) k_int)))) k_int))
    (ss_cons (s_set (i := 3) nd rfl (.inl rfl) (x_mod (x_add (x_add (x_mul (e_var (pv 3)) (e_var (pv 3))) (x_mul k_int (x_ix (e_var (pv 0)) k_int))) k_int) k_int))
    (ss_one (s_ret (x_mod (x_fdiv (x_mod (x_mul (e_var (pv 3)) k_int) k_int) k_int) (e_var (pv 1)))))))))
abbrev s__law_pick : Stmt := topS 82
abbrev N__law_pick : List Str := ["_law_pen_here", "_law_some"]
theorem sc__law_pick : FnScope N__law_pick ["_law_pen_here", "_law_some"] (defScope s__law_pick) := ⟨rfl, rfl, rfl, by decide +kernel, rfl, by decide +kernel, by decide +kernel⟩
def m__law_pick : SS := (sRet (eIx (eVar 1) (eCall f__law_draw (eCons (eVar 0) (eCons (eThen (eCons (eVar 1) eNil) (kE oLen)) eNil)))))
def f__law_pick : FnD := runFn 2 m__law_pick
theorem p__law_pick {P : Program} {w : World} [WdOk w] {K : PySem.W.Frag} {mg : Str → Option Value} {base : Heap} (at_ : At0 K mg "_law_pick" s__law_pick ["_law_pen_here", "_law_some"]) (h__law_draw : Has P w K mg base "_law_draw" 2 f__law_draw 1) (z_len : mg "len" = none) : Has P w K mg base "_law_pick" 2 f__law_pick 2 := by
  have nd := sc__law_pick.nd
  refine has_of (b := m__law_pick) (N := N__law_pick) (k := 1) at_ sc__law_pick rfl fun f cdv A outer s H E hr => ?_
  exact (ss_one (s_ret (x_ix (e_var (pv 1)) (e_fn h__law_draw (hr.mono (by decide)) (lenA_cons (lenA_cons lenA_nil)) (a_cons (e_var (pv 0)) (a_cons (x_blt (w_len rfl hr) z_len (a_cons (e_var (pv 1)) a_nil)) a_nil))))))
abbrev s__law_is_near : Stmt := topS 84
abbrev N__law_is_near : List Str := ["_law_cell", "_law_some", "_law_one"]
theorem sc__law_is_near : FnScope N__law_is_near ["_law_cell", "_law_some"] (defScope s__law_is_near) := ⟨rfl, rfl, rfl, by decide +kernel, rfl, by decide +kernel, by decide +kernel⟩
def m__law_is_near : SS := (sRet (eNe (eLc (iSeq (eVar 1)) (gN 2) (bT (eEq (eAdd (eThen (eCons (eSub (eIx (eVar 2) (eC (.int 0))) (eIx (eVar 0) (eC (.int 0)))) eNil) (kE oAbs)) (eThen (eCons (eSub (eIx (eVar 2) (eC (.int 1))) (eIx (eVar 0) (eC (.int 1)))) eNil) (kE oAbs))) (eC (.int 1)))) (eVar 2) [2]) (eThen eNil kLst)))
def f__law_is_near : FnD := runFn 3 m__law_is_near
theorem p__law_is_near {P : Program} {w : World} [WdOk w] {K : PySem.W.Frag} {mg : Str → Option Value} {base : Heap} (at_ : At0 K mg "_law_is_near" s__law_is_near ["_law_cell", "_law_some"]) (z_abs : mg "abs" = none) : Has P w K mg base "_law_is_near" 2 f__law_is_near 1 := by
  have nd := sc__law_is_near.nd
  refine has_of (b := m__law_is_near) (N := N__law_is_near) (k := 0) at_ sc__law_is_near rfl fun f cdv A outer s H E hr => ?_
  exact (ss_one (s_ret (x_cmp (q_ne hr) (x_lc [("_law_one", 2)] rfl nd rfl (i_seq (e_var (pv 1))) (blkOk_by (N := N__law_is_near) (sc := defScope s__law_is_near) (by decide +kernel)) (only_gN (by decide)) (fun _ _ _ _ _ => (v_name (i := 2) (by decide) nd rfl (.inl rfl))) (fun _ _ _ _ _ => (ts_one (y_cmp (q_eq hr) (x_add (x_blt (w_abs rfl hr) z_abs (a_cons (x_sub (x_ix (e_var (pv 2)) k_int) (x_ix (e_var (pv 0)) k_int)) a_nil)) (x_blt (w_abs rfl hr) z_abs (a_cons (x_sub (x_ix (e_var (pv 2)) k_int) (x_ix (e_var (pv 0)) k_int)) a_nil))) k_int))) (fun _ _ _ _ _ => (e_var (pv 2)))) (e_lst a_nil))))
abbrev s__law_beside : Stmt := topS 85
abbrev N__law_beside : List Str := ["_law_cell", "_law_letter", "_law_across", "_law_up"]
theorem sc__law_beside : FnScope N__law_beside ["_law_cell", "_law_letter"] (defScope s__law_beside) := ⟨rfl, rfl, rfl, by decide +kernel, rfl, by decide +kernel, by decide +kernel⟩
def m__law_beside : SS := (sSeq (sAsg (eDx (eDisp [((eC (.str "e")), (eThen (eCons (eC (.int 1)) (eCons (eC (.int 0)) eNil)) kTup)), ((eC (.str "n")), (eThen (eCons (eC (.int 0)) (eCons (eC (.int 1)) eNil)) kTup)), ((eC (.str "s")), (eThen (eCons (eC (.int 0)) (eCons (eNeg (eC (.int 1))) eNil)) kTup)), ((eC (.str "w")), (eThen (eCons (eNeg (eC (.int 1))) (eCons (eC (.int 0)) eNil)) kTup))]) (eVar 1)) (gT 2 (gCn (gN 2) (gCn (gN 3) gNl))))
  (sRet (eThen (eCons (eAdd (eIx (eVar 0) (eC (.int 0))) (eVar 2)) (eCons (eAdd (eIx (eVar 0) (eC (.int 1))) (eVar 3)) eNil)) kTup)))
def f__law_beside : FnD := runFn 4 m__law_beside
theorem p__law_beside {P : Program} {w : World} [WdOk w] {K : PySem.W.Frag} {mg : Str → Option Value} {base : Heap} (at_ : At0 K mg "_law_beside" s__law_beside ["_law_cell", "_law_letter"])  : Has P w K mg base "_law_beside" 2 f__law_beside 1 := by
  have nd := sc__law_beside.nd
  refine has_of (b := m__law_beside) (N := N__law_beside) (k := 0) at_ sc__law_beside rfl fun f cdv A outer s H E hr => ?_
  exact (ss_cons (s_asg (e_dx (u9 hr) (e_disp (u9 hr) (ds_cons k_str (e_tup (a_cons k_int (a_cons k_int a_nil))) (ds_cons k_str (e_tup (a_cons k_int (a_cons k_int a_nil))) (ds_cons k_str (e_tup (a_cons k_int (a_cons (x_neg k_int) a_nil))) (ds_cons k_str (e_tup (a_cons (x_neg k_int) (a_cons k_int a_nil))) ds_nil))))) (e_var (pv 1))) (g_tup rfl (gs_cons (g_name (i := 2) nd rfl (.inl rfl)) (gs_cons (g_name (i := 3) nd rfl (.inl rfl)) gs_nil))))
    (ss_one (s_ret (e_tup (a_cons (x_add (x_ix (e_var (pv 0)) k_int) (e_var (pv 2))) (a_cons (x_add (x_ix (e_var (pv 0)) k_int) (e_var (pv 3))) a_nil))))))
abbrev s__law_rolled : Stmt := topS 86
abbrev N__law_rolled : List Str := ["_law_lying_here", "_law_letter", "_law_low", "_law_north", "_law_east"]
theorem sc__law_rolled : FnScope N__law_rolled ["_law_lying_here", "_law_letter"] (defScope s__law_rolled) := ⟨rfl, rfl, rfl, by decide +kernel, rfl, by decide +kernel, by decide +kernel⟩
def m__law_rolled : SS := (sSeq (sAsg (eVar 0) (gT 3 (gCn (gN 2) (gCn (gN 3) (gCn (gN 4) gNl)))))
  (sSeq (sIf (bT (eEq (eVar 1) (eC (.str "n")))) (sRet (eThen (eCons (eVar 3) (eCons (eSub (eC (.int 5)) (eVar 2)) (eCons (eVar 4) eNil))) kTup)) sPass)
  (sSeq (sIf (bT (eEq (eVar 1) (eC (.str "s")))) (sRet (eThen (eCons (eSub (eC (.int 5)) (eVar 3)) (eCons (eVar 2) (eCons (eVar 4) eNil))) kTup)) sPass)
  (sRet (eIf (bT (eEq (eVar 1) (eC (.str "e")))) (eThen (eCons (eVar 4) (eCons (eVar 3) (eCons (eSub (eC (.int 5)) (eVar 2)) eNil))) kTup) (eThen (eCons (eSub (eC (.int 5)) (eVar 4)) (eCons (eVar 3) (eCons (eVar 2) eNil))) kTup))))))
def f__law_rolled : FnD := runFn 5 m__law_rolled
theorem p__law_rolled {P : Program} {w : World} [WdOk w] {K : PySem.W.Frag} {mg : Str → Option Value} {base : Heap} (at_ : At0 K mg "_law_rolled" s__law_rolled ["_law_lying_here", "_law_letter"])  : Has P w K mg base "_law_rolled" 2 f__law_rolled 1 := by
  have nd := sc__law_rolled.nd
  refine has_of (b := m__law_rolled) (N := N__law_rolled) (k := 0) at_ sc__law_rolled rfl fun f cdv A outer s H E hr => ?_
  exact (ss_cons (s_asg (e_var (pv 0)) (g_tup rfl (gs_cons (g_name (i := 2) nd rfl (.inl rfl)) (gs_cons (g_name (i := 3) nd rfl (.inl rfl)) (gs_cons (g_name (i := 4) nd rfl (.inl rfl)) gs_nil)))))
    (ss_cons (s_if (y_cmp (q_eq hr) (e_var (pv 1)) k_str) (ss_one (s_ret (e_tup (a_cons (e_var (pv 3)) (a_cons (x_sub k_int (e_var (pv 2))) (a_cons (e_var (pv 4)) a_nil)))))) ss_nil)
    (ss_cons (s_if (y_cmp (q_eq hr) (e_var (pv 1)) k_str) (ss_one (s_ret (e_tup (a_cons (x_sub k_int (e_var (pv 3))) (a_cons (e_var (pv 2)) (a_cons (e_var (pv 4)) a_nil)))))) ss_nil)
    (ss_one (s_ret (e_if (y_cmp (q_eq hr) (e_var (pv 1)) k_str) (e_tup (a_cons (e_var (pv 4)) (a_cons (e_var (pv 3)) (a_cons (x_sub k_int (e_var (pv 2))) a_nil)))) (e_tup (a_cons (x_sub k_int (e_var (pv 4))) (a_cons (e_var (pv 3)) (a_cons (e_var (pv 2)) a_nil))))))))))
abbrev s__law_lying : Stmt := topS 87
abbrev N__law_lying : List Str := ["_law_pen_here", "_law_lying_here", "_law_turn"]
theorem sc__law_lying : FnScope N__law_lying ["_law_pen_here"] (defScope s__law_lying) := ⟨rfl, rfl, rfl, by decide +kernel, rfl, by decide +kernel, by decide +kernel⟩
def m__law_lying : SS := (sSeq (sSet 1 (eThen (eCons (eC (.int 0)) (eCons (eC (.int 1)) (eCons (eC (.int 2)) eNil))) kTup))
  (sSeq (sFor (iRg1 (eCons (eCall f__law_draw (eCons (eVar 0) (eCons (eC (.int 7)) eNil))) eNil)) (gN 2) (sSet 1 (eCall f__law_rolled (eCons (eVar 1) (eCons (eIx (eC (.str "ensw")) (eCall f__law_draw (eCons (eVar 0) (eCons (eC (.int 4)) eNil)))) eNil)))))
  (sRet (eVar 1))))
def f__law_lying : FnD := runFn 3 m__law_lying
theorem p__law_lying {P : Program} {w : World} [WdOk w] {K : PySem.W.Frag} {mg : Str → Option Value} {base : Heap} (at_ : At0 K mg "_law_lying" s__law_lying ["_law_pen_here"]) (h__law_draw : Has P w K mg base "_law_draw" 2 f__law_draw 1) (h__law_rolled : Has P w K mg base "_law_rolled" 2 f__law_rolled 1) (z_range : mg "range" = none) : Has P w K mg base "_law_lying" 1 f__law_lying 2 := by
  have nd := sc__law_lying.nd
  refine has_of (b := m__law_lying) (N := N__law_lying) (k := 1) at_ sc__law_lying rfl fun f cdv A outer s H E hr => ?_
  exact (ss_cons (s_set (i := 1) nd rfl (.inl rfl) (e_tup (a_cons k_int (a_cons k_int (a_cons k_int a_nil)))))
    (ss_cons (s_for PassesOwn.never rfl (i_rg1 (by rfl) z_range (a_cons (e_fn h__law_draw (hr.mono (by decide)) (lenA_cons (lenA_cons lenA_nil)) (a_cons (e_var (pv 0)) (a_cons k_int a_nil))) a_nil)) (g_name (i := 2) nd rfl (.inl rfl)) (ss_one (s_set (i := 1) nd rfl (.inl rfl) (e_fn h__law_rolled (hr.mono (by decide)) (lenA_cons (lenA_cons lenA_nil)) (a_cons (e_var (pv 1)) (a_cons (x_ix k_str (e_fn h__law_draw (hr.mono (by decide)) (lenA_cons (lenA_cons lenA_nil)) (a_cons (e_var (pv 0)) (a_cons k_int a_nil)))) a_nil))))))
    (ss_one (s_ret (e_var (pv 1))))))
abbrev s__law_row : Stmt := topS 88
abbrev N__law_row : List Str := ["_law_pen_here", "_law_floor_here", "_law_cell", "_law_most", "_law_row_here", "_law_turn", "_law_some", "_law_letter"]
theorem sc__law_row : FnScope N__law_row ["_law_pen_here", "_law_floor_here", "_law_cell", "_law_most"] (defScope s__law_row) := ⟨rfl, rfl, rfl, by decide +kernel, rfl, by decide +kernel, by decide +kernel⟩
def m__law_row : SS := (sSeq (sSet 4 (eC (.str "")))
  (sSeq (sFor (iRg1 (eCons (eCall f__law_draw (eCons (eVar 0) (eCons (eAdd (eVar 3) (eC (.int 1))) eNil))) eNil)) (gN 5) (sSeq (sSet 6 (eLc (iSeq (eC (.str "ensw"))) (gN 7) (bT (eIn (eCall f__law_beside (eCons (eVar 2) (eCons (eVar 7) eNil))) (eVar 1))) (eVar 7) [7]))
  (sIf (bT (eNe (eVar 6) (eThen eNil kLst))) (sSeq (sSet 4 (eAdd (eVar 4) (eCall f__law_pick (eCons (eVar 0) (eCons (eVar 6) eNil)))))
  (sSet 2 (eCall f__law_beside (eCons (eVar 2) (eCons (eIx (eVar 4) (eNeg (eC (.int 1)))) eNil))))) sPass)))
  (sRet (eVar 4))))
def f__law_row : FnD := runFn 8 m__law_row
theorem p__law_row {P : Program} {w : World} [WdOk w] {K : PySem.W.Frag} {mg : Str → Option Value} {base : Heap} (at_ : At0 K mg "_law_row" s__law_row ["_law_pen_here", "_law_floor_here", "_law_cell", "_law_most"]) (h__law_draw : Has P w K mg base "_law_draw" 2 f__law_draw 1) (h__law_beside : Has P w K mg base "_law_beside" 2 f__law_beside 1) (h__law_pick : Has P w K mg base "_law_pick" 2 f__law_pick 2) (z_range : mg "range" = none) : Has P w K mg base "_law_row" 4 f__law_row 3 := by
  have nd := sc__law_row.nd
  refine has_of (b := m__law_row) (N := N__law_row) (k := 2) at_ sc__law_row rfl fun f cdv A outer s H E hr => ?_
  exact (ss_cons (s_set (i := 4) nd rfl (.inl rfl) k_str)
    (ss_cons (s_for PassesOwn.never rfl (i_rg1 (by rfl) z_range (a_cons (e_fn h__law_draw (hr.mono (by decide)) (lenA_cons (lenA_cons lenA_nil)) (a_cons (e_var (pv 0)) (a_cons (x_add (e_var (pv 3)) k_int) a_nil))) a_nil)) (g_name (i := 5) nd rfl (.inl rfl)) (ss_cons (x_setLc (i := 6) [("_law_letter", 7)] rfl nd rfl rfl rfl (sw_true rfl rfl rfl (by decide +kernel)) (i_seq k_str) (blkOk_by (N := N__law_row) (sc := defScope s__law_row) (by decide +kernel)) (only_gN (by decide)) (fun _ _ _ _ _ => (v_name (i := 7) (by decide) nd rfl (.inl rfl))) (fun _ _ _ _ _ => (ts_one (y_cmp (q_in hr) (e_fn h__law_beside (hr.mono (by decide)) (lenA_cons (lenA_cons lenA_nil)) (a_cons (e_var (pv 2)) (a_cons (e_var (pv 7)) a_nil))) (e_var (pv 1))))) (fun _ _ _ _ _ => (e_var (pv 7))))
    (ss_one (s_if (y_cmp (q_ne hr) (e_var (pv 6)) (e_lst a_nil)) (ss_cons (s_set (i := 4) nd rfl (.inl rfl) (x_add (e_var (pv 4)) (e_fn h__law_pick (hr.mono (by decide)) (lenA_cons (lenA_cons lenA_nil)) (a_cons (e_var (pv 0)) (a_cons (e_var (pv 6)) a_nil)))))
    (ss_one (s_set (i := 2) nd rfl (.inr rfl) (e_fn h__law_beside (hr.mono (by decide)) (lenA_cons (lenA_cons lenA_nil)) (a_cons (e_var (pv 2)) (a_cons (x_ix (e_var (pv 4)) (x_neg k_int)) a_nil)))))) ss_nil))))
    (ss_one (s_ret (e_var (pv 4))))))
abbrev s__law_marks : Stmt := topS 89
abbrev N__law_marks : List Str := ["_law_pen_here", "_law_floor_here", "_law_far", "_law_spot"]
theorem sc__law_marks : FnScope N__law_marks ["_law_pen_here", "_law_floor_here"] (defScope s__law_marks) := ⟨rfl, rfl, rfl, by decide +kernel, rfl, by decide +kernel, by decide +kernel⟩
def m__law_marks : SS := (sSeq (sSet 2 (eIx (eThen (eCons (eC (.int 2)) (eCons (eC (.int 9)) (eCons (eC (.int 1000)) eNil))) kLst) (eCall f__law_draw (eCons (eVar 0) (eCons (eC (.int 3)) eNil)))))
  (sRet (eThen (eCons (eLc (iRg1 (eCons (eAdd (eC (.int 6)) (eThen (eCons (eVar 1) eNil) (kE oLen))) eNil)) (gN 3) bYes (eCall f__law_draw (eCons (eVar 0) (eCons (eVar 2) eNil))) [3]) eNil) kTupN)))
def f__law_marks : FnD := runFn 4 m__law_marks
theorem p__law_marks {P : Program} {w : World} [WdOk w] {K : PySem.W.Frag} {mg : Str → Option Value} {base : Heap} (at_ : At0 K mg "_law_marks" s__law_marks ["_law_pen_here", "_law_floor_here"]) (h__law_draw : Has P w K mg base "_law_draw" 2 f__law_draw 1) (z_tuple : mg "tuple" = none) (z_range : mg "range" = none) (z_len : mg "len" = none) : Has P w K mg base "_law_marks" 2 f__law_marks 2 := by
  have nd := sc__law_marks.nd
  refine has_of (b := m__law_marks) (N := N__law_marks) (k := 1) at_ sc__law_marks rfl fun f cdv A outer s H E hr => ?_
  exact (ss_cons (s_set (i := 2) nd rfl (.inr rfl) (x_ix (e_lst (a_cons k_int (a_cons k_int (a_cons k_int a_nil)))) (e_fn h__law_draw (hr.mono (by decide)) (lenA_cons (lenA_cons lenA_nil)) (a_cons (e_var (pv 0)) (a_cons k_int a_nil)))))
    (ss_one (s_ret (x_bty (w_tuple rfl hr) z_tuple (a_cons (x_lc [("_law_spot", 3)] rfl nd rfl (i_rg1 (by rfl) z_range (a_cons (x_add k_int (x_blt (w_len rfl hr) z_len (a_cons (e_var (pv 1)) a_nil))) a_nil)) (blkOk_by (N := N__law_marks) (sc := defScope s__law_marks) (by decide +kernel)) (only_gN (by decide)) (fun _ _ _ _ _ => (v_name (i := 3) (by decide) nd rfl (.inl rfl))) (fun _ _ _ _ _ => ts_yes) (fun _ _ _ _ _ => (e_fn h__law_draw (hr.mono (by decide)) (lenA_cons (lenA_cons lenA_nil)) (a_cons (e_var (pv 0)) (a_cons (e_var (pv 2)) a_nil))))) a_nil)))))
abbrev s__law_start : Stmt := topS 90
abbrev N__law_start : List Str := ["_law_pen_here", "_law_floor_here"]
theorem sc__law_start : FnScope N__law_start ["_law_pen_here", "_law_floor_here"] (defScope s__law_start) := ⟨rfl, rfl, rfl, by decide +kernel, rfl, by decide +kernel, by decide +kernel⟩
def m__law_start : SS := (sRet (eThen (eCons (eCall f__law_pick (eCons (eVar 0) (eCons (eThen (eCons (eVar 1) eNil) (kL oList)) eNil))) (eCons (eCall f__law_lying (eCons (eVar 0) eNil)) eNil)) kTup))
def f__law_start : FnD := runFn 2 m__law_start
theorem p__law_start {P : Program} {w : World} [WdOk w] {K : PySem.W.Frag} {mg : Str → Option Value} {base : Heap} (at_ : At0 K mg "_law_start" s__law_start ["_law_pen_here", "_law_floor_here"]) (h__law_lying : Has P w K mg base "_law_lying" 1 f__law_lying 2) (h__law_pick : Has P w K mg base "_law_pick" 2 f__law_pick 2) (z_list : mg "list" = none) : Has P w K mg base "_law_start" 2 f__law_start 3 := by
  have nd := sc__law_start.nd
  refine has_of (b := m__law_start) (N := N__law_start) (k := 2) at_ sc__law_start rfl fun f cdv A outer s H E hr => ?_
  exact (ss_one (s_ret (e_tup (a_cons (e_fn h__law_pick (hr.mono (by decide)) (lenA_cons (lenA_cons lenA_nil)) (a_cons (e_var (pv 0)) (a_cons (x_bty (w_list rfl hr) z_list (a_cons (e_var (pv 1)) a_nil)) a_nil))) (a_cons (e_fn h__law_lying (hr.mono (by decide)) (lenA_cons lenA_nil) (a_cons (e_var (pv 0)) a_nil)) a_nil)))))
abbrev s_Table___init__ : Stmt := methS 77 0
abbrev N_Table___init__ : List Str := ["self", "floor", "cell", "lying", "marks"]
theorem sc_Table___init__ : FnScope N_Table___init__ N_Table___init__ (defScope s_Table___init__) := ⟨rfl, rfl, rfl, by decide +kernel, rfl, by decide +kernel, by decide +kernel⟩
def g_Table_1 : SS := (sExpr (eCall f_need_floor (eCons (eVar 1) eNil)))
def g_Table_2 : SS := (sExpr (eCall f_need_cell (eCons (eVar 1) (eCons (eVar 2) eNil))))
def g_Table_3 : SS := (sExpr (eCall f_need_lying (eCons (eVar 3) eNil)))
def g_Table_4 : SS := (sExpr (eCall f_need_marks (eCons (eVar 1) (eCons (eVar 4) eNil))))
theorem p_Table___init__ {P : Program} {w : World} [WdOk w] {K : PySem.W.Frag} {mg : Str → Option Value} {base : Heap} (at_ : AtI K mg s_Table___init__ N_Table___init__) (h_need_floor : Has P w K mg base "need_floor" 1 f_need_floor 4) (h_need_cell : Has P w K mg base "need_cell" 2 f_need_cell 4) (h_need_lying : Has P w K mg base "need_lying" 1 f_need_lying 3) (h_need_marks : Has P w K mg base "need_marks" 2 f_need_marks 3) (TK : TabK K) : MkT P w K mg base g_Table_1 g_Table_2 g_Table_3 g_Table_4 5 := by
  have nd := sc_Table___init__.nd
  refine mkT_of TK at_ sc_Table___init__ rfl rfl fun f cdv A outer s H E hr => ?_
  exact (pss_cons (s_expr (e_fn h_need_floor (hr.mono (by decide)) (lenA_cons lenA_nil) (a_cons (e_var (pv 1)) a_nil)))
    (pss_cons (s_expr (e_fn h_need_cell (hr.mono (by decide)) (lenA_cons (lenA_cons lenA_nil)) (a_cons (e_var (pv 1)) (a_cons (e_var (pv 2)) a_nil))))
    (pss_cons (s_expr (e_fn h_need_lying (hr.mono (by decide)) (lenA_cons lenA_nil) (a_cons (e_var (pv 3)) a_nil)))
    (pss_cons (s_expr (e_fn h_need_marks (hr.mono (by decide)) (lenA_cons (lenA_cons lenA_nil)) (a_cons (e_var (pv 1)) (a_cons (e_var (pv 4)) a_nil))))
    (pss_cons (ps_fld (pv 0) (pv 1) rfl) (pss_cons (ps_fld (pv 0) (pe_tup (pa_cons (pv 2) (pa_cons (pv 3) pa_nil))) rfl) (pss_cons (ps_fld (pv 0) (pv 4) rfl) (pss_cons (ps_fld (pv 0) pe_int rfl) (pss_one (s_pastNew (ps_fld (pv 0) (pe_lst pa_nil) rfl)))))))))))
abbrev s_Table_keep : Stmt := methS 77 1
abbrev N_Table_keep : List Str := ["self", "here", "held", "rolled"]
theorem sc_Table_keep : FnScope N_Table_keep ["self", "here", "held", "rolled"] (defScope s_Table_keep) := ⟨rfl, rfl, rfl, by decide +kernel, rfl, by decide +kernel, by decide +kernel⟩
def m_Table_keep : SS := (sSeq (sPastKeep 0)
  (sSeq (sFldT 0 "here" (eVar 1))
  (sSeq (sFldT 0 "held" (eVar 2))
  (sFldT 0 "rolled" (eVar 3)))))
def f_Table_keep : FnD := runFn 4 m_Table_keep
theorem p_Table_keep {P : Program} {w : World} [WdOk w] {K : PySem.W.Frag} {mg : Str → Option Value} {base : Heap} (at_ : AtM K "keep" s_Table_keep ["self", "here", "held", "rolled"]) (TK : TabK K) (hC : ∃ C, FnK K "Table" C) : HasM P w K mg base "keep" 4 f_Table_keep 1 := by
  have nd := sc_Table_keep.nd
  refine hasM_of (b := m_Table_keep) (N := N_Table_keep) (k := 0) at_ sc_Table_keep rfl fun f cdv A outer s H E hr => ?_
  exact (ss_cons (s_pastKeep TK (pv 0) (pv 0) (pv 0) (pv 0))
    (ss_cons (s_fldT TK (pv 0) (e_var (pv 1)))
    (ss_cons (s_fldT TK (pv 0) (e_var (pv 2)))
    (ss_one (s_fldT TK (pv 0) (e_var (pv 3)))))))
abbrev s_Table_mark : Stmt := methS 77 4
abbrev N_Table_mark : List Str := ["self", "spot", "number", "held"]
theorem sc_Table_mark : FnScope N_Table_mark ["self", "spot", "number"] (defScope s_Table_mark) := ⟨rfl, rfl, rfl, by decide +kernel, rfl, by decide +kernel, by decide +kernel⟩
def m_Table_mark : SS := (sSeq (sExpr (eCall f_need_spot (eCons (eFld 0 "floor") (eCons (eVar 1) eNil))))
  (sSeq (sExpr (eCall f_need_mark (eCons (eVar 2) eNil)))
  (sSeq (sSet 3 (eThen (eCons (eFld 0 "held") eNil) (kL oList)))
  (sSeq (sAsg (eVar 2) (gS (eVar 3) (eVar 1)))
  (sExpr (eMeth 0 f_Table_keep (eCons (eFld 0 "here") (eCons (eThen (eCons (eVar 3) eNil) kTupN) (eCons (eFld 0 "rolled") eNil)))))))))
def f_Table_mark : FnD := runFn 4 m_Table_mark
theorem p_Table_mark {P : Program} {w : World} [WdOk w] {K : PySem.W.Frag} {mg : Str → Option Value} {base : Heap} (at_ : AtM K "mark" s_Table_mark ["self", "spot", "number"]) (h_need_spot : Has P w K mg base "need_spot" 2 f_need_spot 3) (h_need_mark : Has P w K mg base "need_mark" 1 f_need_mark 2) (h_Table_keep : HasM P w K mg base "keep" 4 f_Table_keep 1) (z_list : mg "list" = none) (z_tuple : mg "tuple" = none) (TK : TabK K) (hC : ∃ C, FnK K "Table" C) : HasM P w K mg base "mark" 3 f_Table_mark 4 := by
  have nd := sc_Table_mark.nd
  refine hasM_of (b := m_Table_mark) (N := N_Table_mark) (k := 3) at_ sc_Table_mark rfl fun f cdv A outer s H E hr => ?_
  exact (ss_cons (s_expr (e_fn h_need_spot (hr.mono (by decide)) (lenA_cons (lenA_cons lenA_nil)) (a_cons (e_fld TK (pv 0)) (a_cons (e_var (pv 1)) a_nil))))
    (ss_cons (s_expr (e_fn h_need_mark (hr.mono (by decide)) (lenA_cons lenA_nil) (a_cons (e_var (pv 2)) a_nil)))
    (ss_cons (s_set (i := 3) nd rfl (.inl rfl) (x_bty (w_list rfl hr) z_list (a_cons (e_fld TK (pv 0)) a_nil)))
    (ss_cons (s_asg (e_var (pv 2)) (g_sub (e_var (pv 3)) (e_var (pv 1))))
    (ss_one (s_expr (e_meth TK hC h_Table_keep (hr.mono (by decide)) (lenA_cons (lenA_cons (lenA_cons lenA_nil))) (by decide) (pv 0) (a_cons (e_fld TK (pv 0)) (a_cons (x_bty (w_tuple rfl hr) z_tuple (a_cons (e_var (pv 3)) a_nil)) (a_cons (e_fld TK (pv 0)) a_nil))))))))))
abbrev s_Table_trade : Stmt := methS 77 5
abbrev N_Table_trade : List Str := ["self", "one", "other"]
theorem sc_Table_trade : FnScope N_Table_trade ["self", "one", "other"] (defScope s_Table_trade) := ⟨rfl, rfl, rfl, by decide +kernel, rfl, by decide +kernel, by decide +kernel⟩
def m_Table_trade : SS := (sSeq (sExpr (eCall f_need_spot (eCons (eFld 0 "floor") (eCons (eVar 1) eNil))))
  (sSeq (sExpr (eCall f_need_spot (eCons (eFld 0 "floor") (eCons (eVar 2) eNil))))
  (sExpr (eMeth 0 f_Table_keep (eCons (eFld 0 "here") (eCons (eCall f_held_traded (eCons (eThen (eCons (eThen (eCons (eVar 1) (eCons (eVar 2) eNil)) kTup) eNil) kLst) (eCons (eFld 0 "held") eNil))) (eCons (eFld 0 "rolled") eNil)))))))
def f_Table_trade : FnD := runFn 3 m_Table_trade
theorem p_Table_trade {P : Program} {w : World} [WdOk w] {K : PySem.W.Frag} {mg : Str → Option Value} {base : Heap} (at_ : AtM K "trade" s_Table_trade ["self", "one", "other"]) (h_need_spot : Has P w K mg base "need_spot" 2 f_need_spot 3) (h_Table_keep : HasM P w K mg base "keep" 4 f_Table_keep 1) (h_held_traded : Has P w K mg base "held_traded" 2 f_held_traded 1) (TK : TabK K) (hC : ∃ C, FnK K "Table" C) : HasM P w K mg base "trade" 3 f_Table_trade 4 := by
  have nd := sc_Table_trade.nd
  refine hasM_of (b := m_Table_trade) (N := N_Table_trade) (k := 3) at_ sc_Table_trade rfl fun f cdv A outer s H E hr => ?_
  exact (ss_cons (s_expr (e_fn h_need_spot (hr.mono (by decide)) (lenA_cons (lenA_cons lenA_nil)) (a_cons (e_fld TK (pv 0)) (a_cons (e_var (pv 1)) a_nil))))
    (ss_cons (s_expr (e_fn h_need_spot (hr.mono (by decide)) (lenA_cons (lenA_cons lenA_nil)) (a_cons (e_fld TK (pv 0)) (a_cons (e_var (pv 2)) a_nil))))
    (ss_one (s_expr (e_meth TK hC h_Table_keep (hr.mono (by decide)) (lenA_cons (lenA_cons (lenA_cons lenA_nil))) (by decide) (pv 0) (a_cons (e_fld TK (pv 0)) (a_cons (e_fn h_held_traded (hr.mono (by decide)) (lenA_cons (lenA_cons lenA_nil)) (a_cons (e_lst (a_cons (e_tup (a_cons (e_var (pv 1)) (a_cons (e_var (pv 2)) a_nil))) a_nil)) (a_cons (e_fld TK (pv 0)) a_nil))) (a_cons (e_fld TK (pv 0)) a_nil))))))))
abbrev s_Table_stand : Stmt := methS 77 7
abbrev N_Table_stand : List Str := ["self"]
theorem sc_Table_stand : FnScope N_Table_stand ["self"] (defScope s_Table_stand) := ⟨rfl, rfl, rfl, by decide +kernel, rfl, by decide +kernel, by decide +kernel⟩
def m_Table_stand : SS := (sRet (eFld 0 "here"))
def f_Table_stand : FnD := runFn 1 m_Table_stand
theorem p_Table_stand {P : Program} {w : World} [WdOk w] {K : PySem.W.Frag} {mg : Str → Option Value} {base : Heap} (at_ : AtM K "stand" s_Table_stand ["self"]) (TK : TabK K) (hC : ∃ C, FnK K "Table" C) : HasM P w K mg base "stand" 1 f_Table_stand 1 := by
  have nd := sc_Table_stand.nd
  refine hasM_of (b := m_Table_stand) (N := N_Table_stand) (k := 0) at_ sc_Table_stand rfl fun f cdv A outer s H E hr => ?_
  exact (ss_one (s_ret (e_fld TK (pv 0))))
abbrev s_Table_marks : Stmt := methS 77 8
abbrev N_Table_marks : List Str := ["self"]
theorem sc_Table_marks : FnScope N_Table_marks ["self"] (defScope s_Table_marks) := ⟨rfl, rfl, rfl, by decide +kernel, rfl, by decide +kernel, by decide +kernel⟩
def m_Table_marks : SS := (sRet (eFld 0 "held"))
def f_Table_marks : FnD := runFn 1 m_Table_marks
theorem p_Table_marks {P : Program} {w : World} [WdOk w] {K : PySem.W.Frag} {mg : Str → Option Value} {base : Heap} (at_ : AtM K "marks" s_Table_marks ["self"]) (TK : TabK K) (hC : ∃ C, FnK K "Table" C) : HasM P w K mg base "marks" 1 f_Table_marks 1 := by
  have nd := sc_Table_marks.nd
  refine hasM_of (b := m_Table_marks) (N := N_Table_marks) (k := 0) at_ sc_Table_marks rfl fun f cdv A outer s H E hr => ?_
  exact (ss_one (s_ret (e_fld TK (pv 0))))
abbrev s_Table_rolls : Stmt := methS 77 9
abbrev N_Table_rolls : List Str := ["self"]
theorem sc_Table_rolls : FnScope N_Table_rolls ["self"] (defScope s_Table_rolls) := ⟨rfl, rfl, rfl, by decide +kernel, rfl, by decide +kernel, by decide +kernel⟩
def m_Table_rolls : SS := (sRet (eFld 0 "rolled"))
def f_Table_rolls : FnD := runFn 1 m_Table_rolls
theorem p_Table_rolls {P : Program} {w : World} [WdOk w] {K : PySem.W.Frag} {mg : Str → Option Value} {base : Heap} (at_ : AtM K "rolls" s_Table_rolls ["self"]) (TK : TabK K) (hC : ∃ C, FnK K "Table" C) : HasM P w K mg base "rolls" 1 f_Table_rolls 1 := by
  have nd := sc_Table_rolls.nd
  refine hasM_of (b := m_Table_rolls) (N := N_Table_rolls) (k := 0) at_ sc_Table_rolls rfl fun f cdv A outer s H E hr => ?_
  exact (ss_one (s_ret (e_fld TK (pv 0))))
abbrev s_Table___eq__ : Stmt := methS 77 13
abbrev N_Table___eq__ : List Str := ["self", "other"]
theorem sc_Table___eq__ : FnScope N_Table___eq__ ["self", "other"] (defScope s_Table___eq__) := ⟨rfl, rfl, rfl, by decide +kernel, rfl, by decide +kernel, by decide +kernel⟩
def m_Table___eq__ : SS := (sRet (eB (bAnd (bT (eIsT 1)) (bAnd (bT (eEq (eFld 0 "floor") (eFld 1 "floor"))) (bAnd (bT (eEq (eFld 0 "here") (eFld 1 "here"))) (bT (eEq (eFld 0 "held") (eFld 1 "held"))))))))
def f_Table___eq__ : FnD := runFn 2 m_Table___eq__
theorem p_Table___eq__ {P : Program} {w : World} [WdOk w] {K : PySem.W.Frag} {mg : Str → Option Value} {base : Heap} (at_ : AtM K "__eq__" s_Table___eq__ ["self", "other"]) (z_isinstance : mg "isinstance" = none) (TK : TabK K) (hC : ∃ C, FnK K "Table" C) (IS : IsK K) (hCT : ∃ C, FnK K "Table" C ∧ mg "Table" = some (.ref C)) : HasM P w K mg base "__eq__" 2 f_Table___eq__ 1 := by
  have nd := sc_Table___eq__.nd
  refine hasM_of (b := m_Table___eq__) (N := N_Table___eq__) (k := 0) at_ sc_Table___eq__ rfl fun f cdv A outer s H E hr => ?_
  exact (ss_one (s_ret (e_and (e_bool (e_isT TK IS hCT (pv 1) z_isinstance)) (e_and (e_bool (x_cmp (q_eq hr) (e_fld TK (pv 0)) (e_fld TK (pv 1)))) (e_and (e_bool (x_cmp (q_eq hr) (e_fld TK (pv 0)) (e_fld TK (pv 1)))) (e_and1 (x_cmp (q_eq hr) (e_fld TK (pv 0)) (e_fld TK (pv 1)))))))))
abbrev s_need_let : Stmt := topS 37
abbrev N_need_let : List Str := ["floor", "cell", "row"]
theorem sc_need_let : FnScope N_need_let ["floor", "cell", "row"] (defScope s_need_let) := ⟨rfl, rfl, rfl, by decide +kernel, rfl, by decide +kernel, by decide +kernel⟩
def m_need_let : SS := (sIf (bT (eIsn (eCall f_place_off (eCons (eVar 0) (eCons (eVar 1) (eCons (eVar 2) eNil)))) (eC .none))) sNever sPass)
def f_need_let : FnD := runFn 3 m_need_let
theorem p_need_let {P : Program} {w : World} [WdOk w] {K : PySem.W.Frag} {mg : Str → Option Value} {base : Heap} (at_ : At0 K mg "need_let" s_need_let ["floor", "cell", "row"]) (h_place_off : Has P w K mg base "place_off" 3 f_place_off 2) : Has P w K mg base "need_let" 3 f_need_let 3 := by
  have nd := sc_need_let.nd
  refine has_of (b := m_need_let) (N := N_need_let) (k := 2) at_ sc_need_let rfl fun f cdv A outer s H E hr => ?_
  exact (ss_one (s_if (y_cmp (q_isn hr) (e_fn h_place_off (hr.mono (by decide)) (lenA_cons (lenA_cons (lenA_cons lenA_nil))) (a_cons (e_var (pv 0)) (a_cons (e_var (pv 1)) (a_cons (e_var (pv 2)) a_nil)))) k_non) (ss_one s_never) ss_nil))
abbrev s_stand_behind : Stmt := topS 42
abbrev N_stand_behind : List Str := ["floor", "cell", "lying", "row", "stand", "letter"]
theorem sc_stand_behind : FnScope N_stand_behind ["floor", "cell", "lying", "row"] (defScope s_stand_behind) := ⟨rfl, rfl, rfl, by decide +kernel, rfl, by decide +kernel, by decide +kernel⟩
def m_stand_behind : SS := (sSeq (sExpr (eCall f_need_floor (eCons (eVar 0) eNil)))
  (sSeq (sExpr (eCall f_need_cell (eCons (eVar 0) (eCons (eVar 1) eNil))))
  (sSeq (sExpr (eCall f_need_lying (eCons (eVar 2) eNil)))
  (sSeq (sExpr (eCall f_need_row (eCons (eVar 3) eNil)))
  (sSeq (sExpr (eCall f_need_let (eCons (eVar 0) (eCons (eVar 1) (eCons (eVar 3) eNil)))))
  (sSeq (sSet 4 (eThen (eCons (eVar 1) (eCons (eVar 2) eNil)) kTup))
  (sSeq (sFor (iSeq (eVar 3)) (gN 5) (sSet 4 (eCall f_rolled_stand (eCons (eVar 4) (eCons (eVar 5) eNil)))))
  (sRet (eVar 4)))))))))
def f_stand_behind : FnD := runFn 6 m_stand_behind
theorem p_stand_behind {P : Program} {w : World} [WdOk w] {K : PySem.W.Frag} {mg : Str → Option Value} {base : Heap} (at_ : At0 K mg "stand_behind" s_stand_behind ["floor", "cell", "lying", "row"]) (h_need_floor : Has P w K mg base "need_floor" 1 f_need_floor 4) (h_need_cell : Has P w K mg base "need_cell" 2 f_need_cell 4) (h_need_lying : Has P w K mg base "need_lying" 1 f_need_lying 3) (h_need_row : Has P w K mg base "need_row" 1 f_need_row 3) (h_need_let : Has P w K mg base "need_let" 3 f_need_let 3) (h_rolled_stand : Has P w K mg base "rolled_stand" 2 f_rolled_stand 2) : Has P w K mg base "stand_behind" 4 f_stand_behind 5 := by
  have nd := sc_stand_behind.nd
  refine has_of (b := m_stand_behind) (N := N_stand_behind) (k := 4) at_ sc_stand_behind rfl fun f cdv A outer s H E hr => ?_
  exact (ss_cons (s_expr (e_fn h_need_floor (hr.mono (by decide)) (lenA_cons lenA_nil) (a_cons (e_var (pv 0)) a_nil)))
    (ss_cons (s_expr (e_fn h_need_cell (hr.mono (by decide)) (lenA_cons (lenA_cons lenA_nil)) (a_cons (e_var (pv 0)) (a_cons (e_var (pv 1)) a_nil))))
    (ss_cons (s_expr (e_fn h_need_lying (hr.mono (by decide)) (lenA_cons lenA_nil) (a_cons (e_var (pv 2)) a_nil)))
    (ss_cons (s_expr (e_fn h_need_row (hr.mono (by decide)) (lenA_cons lenA_nil) (a_cons (e_var (pv 3)) a_nil)))
    (ss_cons (s_expr (e_fn h_need_let (hr.mono (by decide)) (lenA_cons (lenA_cons (lenA_cons lenA_nil))) (a_cons (e_var (pv 0)) (a_cons (e_var (pv 1)) (a_cons (e_var (pv 3)) a_nil)))))
    (ss_cons (s_set (i := 4) nd rfl (.inl rfl) (e_tup (a_cons (e_var (pv 1)) (a_cons (e_var (pv 2)) a_nil))))
    (ss_cons (s_for PassesOwn.never rfl (i_seq (e_var (pv 3))) (g_name (i := 5) nd rfl (.inl rfl)) (ss_one (s_set (i := 4) nd rfl (.inl rfl) (e_fn h_rolled_stand (hr.mono (by decide)) (lenA_cons (lenA_cons lenA_nil)) (a_cons (e_var (pv 4)) (a_cons (e_var (pv 5)) a_nil))))))
    (ss_one (s_ret (e_var (pv 4)))))))))))
abbrev s_marks_behind : Stmt := topS 59
abbrev N_marks_behind : List Str := ["floor", "stand", "row", "marks"]
theorem sc_marks_behind : FnScope N_marks_behind ["floor", "stand", "row", "marks"] (defScope s_marks_behind) := ⟨rfl, rfl, rfl, by decide +kernel, rfl, by decide +kernel, by decide +kernel⟩
def m_marks_behind : SS := (sSeq (sExpr (eCall f_need_floor (eCons (eVar 0) eNil)))
  (sSeq (sExpr (eCall f_need_stand (eCons (eVar 0) (eCons (eVar 1) eNil))))
  (sSeq (sExpr (eCall f_need_row (eCons (eVar 2) eNil)))
  (sSeq (sExpr (eCall f_need_marks (eCons (eVar 0) (eCons (eVar 3) eNil))))
  (sSeq (sExpr (eCall f_need_let (eCons (eVar 0) (eCons (eIx (eVar 1) (eC (.int 0))) (eCons (eVar 2) eNil)))))
  (sRet (eCall f_held_behind (eCons (eVar 0) (eCons (eVar 1) (eCons (eVar 2) (eCons (eVar 3) eNil)))))))))))
def f_marks_behind : FnD := runFn 4 m_marks_behind
theorem p_marks_behind {P : Program} {w : World} [WdOk w] {K : PySem.W.Frag} {mg : Str → Option Value} {base : Heap} (at_ : At0 K mg "marks_behind" s_marks_behind ["floor", "stand", "row", "marks"]) (h_need_floor : Has P w K mg base "need_floor" 1 f_need_floor 4) (h_need_stand : Has P w K mg base "need_stand" 2 f_need_stand 5) (h_need_row : Has P w K mg base "need_row" 1 f_need_row 3) (h_need_marks : Has P w K mg base "need_marks" 2 f_need_marks 3) (h_need_let : Has P w K mg base "need_let" 3 f_need_let 3) (h_held_behind : Has P w K mg base "held_behind" 4 f_held_behind 4) : Has P w K mg base "marks_behind" 4 f_marks_behind 6 := by
  have nd := sc_marks_behind.nd
  refine has_of (b := m_marks_behind) (N := N_marks_behind) (k := 5) at_ sc_marks_behind rfl fun f cdv A outer s H E hr => ?_
  exact (ss_cons (s_expr (e_fn h_need_floor (hr.mono (by decide)) (lenA_cons lenA_nil) (a_cons (e_var (pv 0)) a_nil)))
    (ss_cons (s_expr (e_fn h_need_stand (hr.mono (by decide)) (lenA_cons (lenA_cons lenA_nil)) (a_cons (e_var (pv 0)) (a_cons (e_var (pv 1)) a_nil))))
    (ss_cons (s_expr (e_fn h_need_row (hr.mono (by decide)) (lenA_cons lenA_nil) (a_cons (e_var (pv 2)) a_nil)))
    (ss_cons (s_expr (e_fn h_need_marks (hr.mono (by decide)) (lenA_cons (lenA_cons lenA_nil)) (a_cons (e_var (pv 0)) (a_cons (e_var (pv 3)) a_nil))))
    (ss_cons (s_expr (e_fn h_need_let (hr.mono (by decide)) (lenA_cons (lenA_cons (lenA_cons lenA_nil))) (a_cons (e_var (pv 0)) (a_cons (x_ix (e_var (pv 1)) k_int) (a_cons (e_var (pv 2)) a_nil)))))
    (ss_one (s_ret (e_fn h_held_behind (hr.mono (by decide)) (lenA_cons (lenA_cons (lenA_cons (lenA_cons lenA_nil)))) (a_cons (e_var (pv 0)) (a_cons (e_var (pv 1)) (a_cons (e_var (pv 2)) (a_cons (e_var (pv 3)) a_nil))))))))))))
abbrev s_exchange : Stmt := topS 60
abbrev N_exchange : List Str := ["floor", "stand", "row"]
theorem sc_exchange : FnScope N_exchange ["floor", "stand", "row"] (defScope s_exchange) := ⟨rfl, rfl, rfl, by decide +kernel, rfl, by decide +kernel, by decide +kernel⟩
def m_exchange : SS := (sSeq (sExpr (eCall f_need_floor (eCons (eVar 0) eNil)))
  (sSeq (sExpr (eCall f_need_stand (eCons (eVar 0) (eCons (eVar 1) eNil))))
  (sSeq (sExpr (eCall f_need_row (eCons (eVar 2) eNil)))
  (sSeq (sExpr (eCall f_need_let (eCons (eVar 0) (eCons (eIx (eVar 1) (eC (.int 0))) (eCons (eVar 2) eNil)))))
  (sRet (eCall f_exchange_by (eCons (eCall f_trades (eCons (eVar 0) (eCons (eVar 1) (eCons (eVar 2) eNil)))) (eCons (eCall f_spots_of (eCons (eVar 0) eNil)) eNil))))))))
def f_exchange : FnD := runFn 3 m_exchange
theorem p_exchange {P : Program} {w : World} [WdOk w] {K : PySem.W.Frag} {mg : Str → Option Value} {base : Heap} (at_ : At0 K mg "exchange" s_exchange ["floor", "stand", "row"]) (h_need_floor : Has P w K mg base "need_floor" 1 f_need_floor 4) (h_need_stand : Has P w K mg base "need_stand" 2 f_need_stand 5) (h_need_row : Has P w K mg base "need_row" 1 f_need_row 3) (h_need_let : Has P w K mg base "need_let" 3 f_need_let 3) (h_exchange_by : Has P w K mg base "exchange_by" 2 f_exchange_by 2) (h_spots_of : Has P w K mg base "spots_of" 1 f_spots_of 1) (h_trades : Has P w K mg base "trades" 3 f_trades 3) : Has P w K mg base "exchange" 3 f_exchange 6 := by
  have nd := sc_exchange.nd
  refine has_of (b := m_exchange) (N := N_exchange) (k := 5) at_ sc_exchange rfl fun f cdv A outer s H E hr => ?_
  exact (ss_cons (s_expr (e_fn h_need_floor (hr.mono (by decide)) (lenA_cons lenA_nil) (a_cons (e_var (pv 0)) a_nil)))
    (ss_cons (s_expr (e_fn h_need_stand (hr.mono (by decide)) (lenA_cons (lenA_cons lenA_nil)) (a_cons (e_var (pv 0)) (a_cons (e_var (pv 1)) a_nil))))
    (ss_cons (s_expr (e_fn h_need_row (hr.mono (by decide)) (lenA_cons lenA_nil) (a_cons (e_var (pv 2)) a_nil)))
    (ss_cons (s_expr (e_fn h_need_let (hr.mono (by decide)) (lenA_cons (lenA_cons (lenA_cons lenA_nil))) (a_cons (e_var (pv 0)) (a_cons (x_ix (e_var (pv 1)) k_int) (a_cons (e_var (pv 2)) a_nil)))))
    (ss_one (s_ret (e_fn h_exchange_by (hr.mono (by decide)) (lenA_cons (lenA_cons lenA_nil)) (a_cons (e_fn h_trades (hr.mono (by decide)) (lenA_cons (lenA_cons (lenA_cons lenA_nil))) (a_cons (e_var (pv 0)) (a_cons (e_var (pv 1)) (a_cons (e_var (pv 2)) a_nil)))) (a_cons (e_fn h_spots_of (hr.mono (by decide)) (lenA_cons lenA_nil) (a_cons (e_var (pv 0)) a_nil)) a_nil)))))))))
abbrev s_turn_plays : Stmt := topS 68
abbrev N_turn_plays : List Str := ["floor", "stand", "row", "cell", "lying", "plays", "here"]
theorem sc_turn_plays : FnScope N_turn_plays ["floor", "stand", "row"] (defScope s_turn_plays) := ⟨rfl, rfl, rfl, by decide +kernel, rfl, by decide +kernel, by decide +kernel⟩
noncomputable def m_turn_plays : SS := (sSeq (sAsg (eVar 1) (gT 2 (gCn (gN 3) (gCn (gN 4) gNl))))
  (sSeq (sSet 5 (eC (.int 1)))
  (sSeq (sSet 6 (eCall f_stand_behind (eCons (eVar 0) (eCons (eVar 3) (eCons (eVar 4) (eCons (eVar 2) eNil))))))
  (sSeq (sWhile (bT (eNe (eVar 6) (eVar 1))) (sSeq (sSet 6 (eCall f_stand_behind (eCons (eVar 0) (eCons (eVar 3) (eCons (eIx (eVar 6) (eC (.int 1))) (eCons (eVar 2) eNil))))))
  (sAug 5 (eC (.int 1)))))
  (sRet (eVar 5))))))
noncomputable def f_turn_plays : FnD := runFn 7 m_turn_plays
theorem p_turn_plays {P : Program} {w : World} [WdOk w] {K : PySem.W.Frag} {mg : Str → Option Value} {base : Heap} (at_ : At0 K mg "turn_plays" s_turn_plays ["floor", "stand", "row"]) (h_stand_behind : Has P w K mg base "stand_behind" 4 f_stand_behind 5) : Has P w K mg base "turn_plays" 3 f_turn_plays 6 := by
  have nd := sc_turn_plays.nd
  refine has_of (b := m_turn_plays) (N := N_turn_plays) (k := 5) at_ sc_turn_plays rfl fun f cdv A outer s H E hr => ?_
  exact (ss_cons (s_asg (e_var (pv 1)) (g_tup rfl (gs_cons (g_name (i := 3) nd rfl (.inl rfl)) (gs_cons (g_name (i := 4) nd rfl (.inl rfl)) gs_nil))))
    (ss_cons (s_set (i := 5) nd rfl (.inl rfl) k_int)
    (ss_cons (s_set (i := 6) nd rfl (.inl rfl) (e_fn h_stand_behind (hr.mono (by decide)) (lenA_cons (lenA_cons (lenA_cons (lenA_cons lenA_nil)))) (a_cons (e_var (pv 0)) (a_cons (e_var (pv 3)) (a_cons (e_var (pv 4)) (a_cons (e_var (pv 2)) a_nil))))))
    (ss_cons (s_while PassesOwn.never (y_cmp (q_ne hr) (e_var (pv 6)) (e_var (pv 1))) (ss_cons (s_set (i := 6) nd rfl (.inl rfl) (e_fn h_stand_behind (hr.mono (by decide)) (lenA_cons (lenA_cons (lenA_cons (lenA_cons lenA_nil)))) (a_cons (e_var (pv 0)) (a_cons (e_var (pv 3)) (a_cons (x_ix (e_var (pv 6)) k_int) (a_cons (e_var (pv 2)) a_nil))))))
    (ss_one (s_aug (i := 5) nd rfl (.inl rfl) k_int))))
    (ss_one (s_ret (e_var (pv 5))))))))
abbrev s_split_times : Stmt := topS 71
abbrev N_split_times : List Str := ["floor", "stand", "row", "times", "turn"]
theorem sc_split_times : FnScope N_split_times ["floor", "stand", "row", "times"] (defScope s_split_times) := ⟨rfl, rfl, rfl, by decide +kernel, rfl, by decide +kernel, by decide +kernel⟩
noncomputable def m_split_times : SS := (sSeq (sIf (bNot (bT (eCall f_is_endless (eCons (eVar 0) (eCons (eIx (eVar 1) (eC (.int 0))) (eCons (eVar 2) eNil)))))) (sRet (eThen (eCons (eC (.int 0)) (eCons (eC (.int 0)) (eCons (eVar 3) eNil))) kTup)) sPass)
  (sSeq (sSet 4 (eCall f_turn_plays (eCons (eVar 0) (eCons (eVar 1) (eCons (eVar 2) eNil)))))
  (sRet (eThen (eCons (eVar 4) (eCons (eFdiv (eVar 3) (eVar 4)) (eCons (eMod (eVar 3) (eVar 4)) eNil))) kTup))))
noncomputable def f_split_times : FnD := runFn 5 m_split_times
theorem p_split_times {P : Program} {w : World} [WdOk w] {K : PySem.W.Frag} {mg : Str → Option Value} {base : Heap} (at_ : At0 K mg "split_times" s_split_times ["floor", "stand", "row", "times"]) (h_is_endless : Has P w K mg base "is_endless" 3 f_is_endless 3) (h_turn_plays : Has P w K mg base "turn_plays" 3 f_turn_plays 6) : Has P w K mg base "split_times" 4 f_split_times 7 := by
  have nd := sc_split_times.nd
  refine has_of (b := m_split_times) (N := N_split_times) (k := 6) at_ sc_split_times rfl fun f cdv A outer s H E hr => ?_
  exact (ss_cons (s_if (b_not (b_truth (e_fn h_is_endless (hr.mono (by decide)) (lenA_cons (lenA_cons (lenA_cons lenA_nil))) (a_cons (e_var (pv 0)) (a_cons (x_ix (e_var (pv 1)) k_int) (a_cons (e_var (pv 2)) a_nil)))))) (ss_one (s_ret (e_tup (a_cons k_int (a_cons k_int (a_cons (e_var (pv 3)) a_nil)))))) ss_nil)
    (ss_cons (s_set (i := 4) nd rfl (.inl rfl) (e_fn h_turn_plays (hr.mono (by decide)) (lenA_cons (lenA_cons (lenA_cons lenA_nil))) (a_cons (e_var (pv 0)) (a_cons (e_var (pv 1)) (a_cons (e_var (pv 2)) a_nil)))))
    (ss_one (s_ret (e_tup (a_cons (e_var (pv 4)) (a_cons (x_fdiv (e_var (pv 3)) (e_var (pv 4))) (a_cons (x_mod (e_var (pv 3)) (e_var (pv 4))) a_nil))))))))
abbrev s_stand_far : Stmt := topS 72
abbrev N_stand_far : List Str := ["floor", "stand", "row", "times", "left"]
theorem sc_stand_far : FnScope N_stand_far ["floor", "stand", "row", "times"] (defScope s_stand_far) := ⟨rfl, rfl, rfl, by decide +kernel, rfl, by decide +kernel, by decide +kernel⟩
noncomputable def m_stand_far : SS := (sSeq (sExpr (eCall f_need_far (eCons (eVar 0) (eCons (eVar 1) (eCons (eVar 2) (eCons (eVar 3) eNil))))))
  (sSeq (sSet 4 (eIx (eCall f_split_times (eCons (eVar 0) (eCons (eVar 1) (eCons (eVar 2) (eCons (eVar 3) eNil))))) (eC (.int 2))))
  (sRet (eCall f_stand_behind (eCons (eVar 0) (eCons (eIx (eVar 1) (eC (.int 0))) (eCons (eIx (eVar 1) (eC (.int 1))) (eCons (eMul2 (eVar 2) (eVar 4)) eNil))))))))
noncomputable def f_stand_far : FnD := runFn 5 m_stand_far
theorem p_stand_far {P : Program} {w : World} [WdOk w] {K : PySem.W.Frag} {mg : Str → Option Value} {base : Heap} (at_ : At0 K mg "stand_far" s_stand_far ["floor", "stand", "row", "times"]) (h_need_far : Has P w K mg base "need_far" 4 f_need_far 6) (h_split_times : Has P w K mg base "split_times" 4 f_split_times 7) (h_stand_behind : Has P w K mg base "stand_behind" 4 f_stand_behind 5) : Has P w K mg base "stand_far" 4 f_stand_far 8 := by
  have nd := sc_stand_far.nd
  refine has_of (b := m_stand_far) (N := N_stand_far) (k := 7) at_ sc_stand_far rfl fun f cdv A outer s H E hr => ?_
  exact (ss_cons (s_expr (e_fn h_need_far (hr.mono (by decide)) (lenA_cons (lenA_cons (lenA_cons (lenA_cons lenA_nil)))) (a_cons (e_var (pv 0)) (a_cons (e_var (pv 1)) (a_cons (e_var (pv 2)) (a_cons (e_var (pv 3)) a_nil))))))
    (ss_cons (s_set (i := 4) nd rfl (.inl rfl) (x_ix (e_fn h_split_times (hr.mono (by decide)) (lenA_cons (lenA_cons (lenA_cons (lenA_cons lenA_nil)))) (a_cons (e_var (pv 0)) (a_cons (e_var (pv 1)) (a_cons (e_var (pv 2)) (a_cons (e_var (pv 3)) a_nil))))) k_int))
    (ss_one (s_ret (e_fn h_stand_behind (hr.mono (by decide)) (lenA_cons (lenA_cons (lenA_cons (lenA_cons lenA_nil)))) (a_cons (e_var (pv 0)) (a_cons (x_ix (e_var (pv 1)) k_int) (a_cons (x_ix (e_var (pv 1)) k_int) (a_cons (x_mul2 (e_var (pv 2)) (e_var (pv 4))) a_nil)))))))))
abbrev s_exchange_far : Stmt := topS 73
abbrev N_exchange_far : List Str := ["floor", "stand", "row", "times", "turn", "often", "left", "ahead", "behind", "spot"]
theorem sc_exchange_far : FnScope N_exchange_far ["floor", "stand", "row", "times"] (defScope s_exchange_far) := ⟨rfl, rfl, rfl, by decide +kernel, rfl, by decide +kernel, by decide +kernel⟩
noncomputable def m_exchange_far : SS := (sSeq (sExpr (eCall f_need_far (eCons (eVar 0) (eCons (eVar 1) (eCons (eVar 2) (eCons (eVar 3) eNil))))))
  (sSeq (sAsg (eCall f_split_times (eCons (eVar 0) (eCons (eVar 1) (eCons (eVar 2) (eCons (eVar 3) eNil))))) (gT 3 (gCn (gN 4) (gCn (gN 5) (gCn (gN 6) gNl)))))
  (sSeq (sSet 7 (eCall f_repeated (eCons (eCall f_exchange (eCons (eVar 0) (eCons (eVar 1) (eCons (eMul2 (eVar 2) (eVar 4)) eNil)))) (eCons (eVar 5) eNil))))
  (sSeq (sSet 8 (eCall f_exchange (eCons (eVar 0) (eCons (eVar 1) (eCons (eMul2 (eVar 2) (eVar 6)) eNil)))))
  (sRet (eThen (eCons (eLc (iSeq (eVar 7)) (gN 9) bYes (eIx (eVar 8) (eVar 9)) [9]) eNil) kTupN))))))
noncomputable def f_exchange_far : FnD := runFn 10 m_exchange_far
theorem p_exchange_far {P : Program} {w : World} [WdOk w] {K : PySem.W.Frag} {mg : Str → Option Value} {base : Heap} (at_ : At0 K mg "exchange_far" s_exchange_far ["floor", "stand", "row", "times"]) (h_need_far : Has P w K mg base "need_far" 4 f_need_far 6) (h_split_times : Has P w K mg base "split_times" 4 f_split_times 7) (h_repeated : Has P w K mg base "repeated" 2 f_repeated 3) (h_exchange : Has P w K mg base "exchange" 3 f_exchange 6) (z_tuple : mg "tuple" = none) : Has P w K mg base "exchange_far" 4 f_exchange_far 8 := by
  have nd := sc_exchange_far.nd
  refine has_of (b := m_exchange_far) (N := N_exchange_far) (k := 7) at_ sc_exchange_far rfl fun f cdv A outer s H E hr => ?_
  exact (ss_cons (s_expr (e_fn h_need_far (hr.mono (by decide)) (lenA_cons (lenA_cons (lenA_cons (lenA_cons lenA_nil)))) (a_cons (e_var (pv 0)) (a_cons (e_var (pv 1)) (a_cons (e_var (pv 2)) (a_cons (e_var (pv 3)) a_nil))))))
    (ss_cons (s_asg (e_fn h_split_times (hr.mono (by decide)) (lenA_cons (lenA_cons (lenA_cons (lenA_cons lenA_nil)))) (a_cons (e_var (pv 0)) (a_cons (e_var (pv 1)) (a_cons (e_var (pv 2)) (a_cons (e_var (pv 3)) a_nil))))) (g_tup rfl (gs_cons (g_name (i := 4) nd rfl (.inl rfl)) (gs_cons (g_name (i := 5) nd rfl (.inl rfl)) (gs_cons (g_name (i := 6) nd rfl (.inl rfl)) gs_nil)))))
    (ss_cons (s_set (i := 7) nd rfl (.inl rfl) (e_fn h_repeated (hr.mono (by decide)) (lenA_cons (lenA_cons lenA_nil)) (a_cons (e_fn h_exchange (hr.mono (by decide)) (lenA_cons (lenA_cons (lenA_cons lenA_nil))) (a_cons (e_var (pv 0)) (a_cons (e_var (pv 1)) (a_cons (x_mul2 (e_var (pv 2)) (e_var (pv 4))) a_nil)))) (a_cons (e_var (pv 5)) a_nil))))
    (ss_cons (s_set (i := 8) nd rfl (.inr rfl) (e_fn h_exchange (hr.mono (by decide)) (lenA_cons (lenA_cons (lenA_cons lenA_nil))) (a_cons (e_var (pv 0)) (a_cons (e_var (pv 1)) (a_cons (x_mul2 (e_var (pv 2)) (e_var (pv 6))) a_nil)))))
    (ss_one (s_ret (x_bty (w_tuple rfl hr) z_tuple (a_cons (x_lc [("spot", 9)] rfl nd rfl (i_seq (e_var (pv 7))) (blkOk_by (N := N_exchange_far) (sc := defScope s_exchange_far) (by decide +kernel)) (only_gN (by decide)) (fun _ _ _ _ _ => (v_name (i := 9) (by decide) nd rfl (.inl rfl))) (fun _ _ _ _ _ => ts_yes) (fun _ _ _ _ _ => (x_ix (e_var (pv 8)) (e_var (pv 9))))) a_nil))))))))
abbrev s__law_floor : Stmt := topS 83
abbrev N__law_floor : List Str := ["_law_pen_here", "_law_found", "_law_turn", "_law_every", "_law_near", "_law_at", "_law_cell"]
theorem sc__law_floor : FnScope N__law_floor ["_law_pen_here"] (defScope s__law_floor) := ⟨rfl, rfl, rfl, by decide +kernel, rfl, by decide +kernel, by decide +kernel⟩
def m__law_floor : SS := (sSeq (sSet 1 (eThen (eCons (eThen (eCons (eCall f__law_draw (eCons (eVar 0) (eCons (eC (.int 4)) eNil))) (eCons (eCall f__law_draw (eCons (eVar 0) (eCons (eC (.int 4)) eNil))) eNil)) kTup) eNil) kLst))
  (sSeq (sFor (iRg1 (eCons (eIx (eThen (eCons (eCall f__law_draw (eCons (eVar 0) (eCons (eC (.int 9)) eNil))) (eCons (eAdd (eC (.int 3)) (eCall f__law_draw (eCons (eVar 0) (eCons (eC (.int 6)) eNil)))) eNil)) kLst) (eCall f__law_draw (eCons (eVar 0) (eCons (eC (.int 2)) eNil)))) eNil)) (gN 2) (sSeq (sSet 3 (eLc (iRg1 (eCons (eC (.int 16)) eNil)) (gN 5) (bT (eNin (eThen (eCons (eMod (eVar 5) (eC (.int 4))) (eCons (eFdiv (eVar 5) (eC (.int 4))) eNil)) kTup) (eVar 1))) (eThen (eCons (eMod (eVar 5) (eC (.int 4))) (eCons (eFdiv (eVar 5) (eC (.int 4))) eNil)) kTup) [5]))
  (sSeq (sSet 4 (eLc (iSeq (eVar 3)) (gN 6) (bT (eCall f__law_is_near (eCons (eVar 6) (eCons (eVar 1) eNil)))) (eVar 6) [6]))
  (sExpr (eBM isL (eVar 1) (eCons (eCall f__law_pick (eCons (eVar 0) (eCons (eIf (bT (eEq (eCall f__law_draw (eCons (eVar 0) (eCons (eC (.int 9)) eNil))) (eC (.int 0)))) (eVar 3) (eVar 4)) eNil))) eNil) kAppend)))))
  (sRet (eThen (eCons (eThen (eCons (eVar 1) eNil) kSorted) eNil) kTupN))))
def f__law_floor : FnD := runFn 7 m__law_floor
theorem p__law_floor {P : Program} {w : World} [WdOk w] {K : PySem.W.Frag} {mg : Str → Option Value} {base : Heap} (at_ : At0 K mg "_law_floor" s__law_floor ["_law_pen_here"]) (h__law_draw : Has P w K mg base "_law_draw" 2 f__law_draw 1) (h__law_is_near : Has P w K mg base "_law_is_near" 2 f__law_is_near 1) (h__law_pick : Has P w K mg base "_law_pick" 2 f__law_pick 2) (z_range : mg "range" = none) (z_tuple : mg "tuple" = none) (z_sorted : mg "sorted" = none) : Has P w K mg base "_law_floor" 1 f__law_floor 3 := by
  have nd := sc__law_floor.nd
  refine has_of (b := m__law_floor) (N := N__law_floor) (k := 2) at_ sc__law_floor rfl fun f cdv A outer s H E hr => ?_
  exact (ss_cons (s_set (i := 1) nd rfl (.inr rfl) (e_lst (a_cons (e_tup (a_cons (e_fn h__law_draw (hr.mono (by decide)) (lenA_cons (lenA_cons lenA_nil)) (a_cons (e_var (pv 0)) (a_cons k_int a_nil))) (a_cons (e_fn h__law_draw (hr.mono (by decide)) (lenA_cons (lenA_cons lenA_nil)) (a_cons (e_var (pv 0)) (a_cons k_int a_nil))) a_nil))) a_nil)))
    (ss_cons (s_for PassesOwn.never rfl (i_rg1 (by rfl) z_range (a_cons (x_ix (e_lst (a_cons (e_fn h__law_draw (hr.mono (by decide)) (lenA_cons (lenA_cons lenA_nil)) (a_cons (e_var (pv 0)) (a_cons k_int a_nil))) (a_cons (x_add k_int (e_fn h__law_draw (hr.mono (by decide)) (lenA_cons (lenA_cons lenA_nil)) (a_cons (e_var (pv 0)) (a_cons k_int a_nil)))) a_nil))) (e_fn h__law_draw (hr.mono (by decide)) (lenA_cons (lenA_cons lenA_nil)) (a_cons (e_var (pv 0)) (a_cons k_int a_nil)))) a_nil)) (g_name (i := 2) nd rfl (.inl rfl)) (ss_cons (x_setLc (i := 3) [("_law_at", 5)] rfl nd rfl rfl rfl (sw_true rfl rfl rfl (by decide +kernel)) (i_rg1 (by rfl) z_range (a_cons k_int a_nil)) (blkOk_by (N := N__law_floor) (sc := defScope s__law_floor) (by decide +kernel)) (only_gN (by decide)) (fun _ _ _ _ _ => (v_name (i := 5) (by decide) nd rfl (.inl rfl))) (fun _ _ _ _ _ => (ts_one (y_cmp (q_nin hr) (e_tup (a_cons (x_mod (e_var (pv 5)) k_int) (a_cons (x_fdiv (e_var (pv 5)) k_int) a_nil))) (e_var (pv 1))))) (fun _ _ _ _ _ => (e_tup (a_cons (x_mod (e_var (pv 5)) k_int) (a_cons (x_fdiv (e_var (pv 5)) k_int) a_nil)))))
    (ss_cons (x_setLc (i := 4) [("_law_cell", 6)] rfl nd rfl rfl rfl (sw_true rfl rfl rfl (by decide +kernel)) (i_seq (e_var (pv 3))) (blkOk_by (N := N__law_floor) (sc := defScope s__law_floor) (by decide +kernel)) (only_gN (by decide)) (fun _ _ _ _ _ => (v_name (i := 6) (by decide) nd rfl (.inl rfl))) (fun _ _ _ _ _ => (ts_one (b_truth (e_fn h__law_is_near (hr.mono (by decide)) (lenA_cons (lenA_cons lenA_nil)) (a_cons (e_var (pv 6)) (a_cons (e_var (pv 1)) a_nil)))))) (fun _ _ _ _ _ => (e_var (pv 6))))
    (ss_one (s_expr (m_append (e_var (pv 1)) (a_cons (e_fn h__law_pick (hr.mono (by decide)) (lenA_cons (lenA_cons lenA_nil)) (a_cons (e_var (pv 0)) (a_cons (e_if (y_cmp (q_eq hr) (e_fn h__law_draw (hr.mono (by decide)) (lenA_cons (lenA_cons lenA_nil)) (a_cons (e_var (pv 0)) (a_cons k_int a_nil))) k_int) (e_var (pv 3)) (e_var (pv 4))) a_nil))) a_nil)))))))
    (ss_one (s_ret (x_bty (w_tuple rfl hr) z_tuple (a_cons (x_blt (w_sorted rfl hr) z_sorted (a_cons (e_var (pv 1)) a_nil)) a_nil))))))
abbrev s_Table_play : Stmt := methS 77 3
abbrev N_Table_play : List Str := ["self", "row", "times", "here", "exchanged"]
theorem sc_Table_play : FnScope N_Table_play ["self", "row", "times"] (defScope s_Table_play) := ⟨rfl, rfl, rfl, by decide +kernel, rfl, by decide +kernel, by decide +kernel⟩
noncomputable def m_Table_play : SS := (sSeq (sSet 3 (eCall f_stand_far (eCons (eFld 0 "floor") (eCons (eFld 0 "here") (eCons (eVar 1) (eCons (eVar 2) eNil))))))
  (sSeq (sSet 4 (eCall f_exchange_far (eCons (eFld 0 "floor") (eCons (eFld 0 "here") (eCons (eVar 1) (eCons (eVar 2) eNil))))))
  (sExpr (eMeth 0 f_Table_keep (eCons (eVar 3) (eCons (eCall f_exchanged_marks (eCons (eVar 4) (eCons (eFld 0 "held") eNil))) (eCons (eAdd (eFld 0 "rolled") (eMul (eThen (eCons (eVar 1) eNil) (kE oLen)) (eVar 2))) eNil)))))))
noncomputable def f_Table_play : FnD := runFn 5 m_Table_play
theorem p_Table_play {P : Program} {w : World} [WdOk w] {K : PySem.W.Frag} {mg : Str → Option Value} {base : Heap} (at_ : AtM1 K "play" s_Table_play ["self", "row", "times"]) (h_stand_far : Has P w K mg base "stand_far" 4 f_stand_far 8) (h_exchange_far : Has P w K mg base "exchange_far" 4 f_exchange_far 8) (h_Table_keep : HasM P w K mg base "keep" 4 f_Table_keep 1) (h_exchanged_marks : Has P w K mg base "exchanged_marks" 2 f_exchanged_marks 1) (z_len : mg "len" = none) (TK : TabK K) (hC : ∃ C, FnK K "Table" C) : HasM1 P w K mg base "play" 2 f_Table_play 9 := by
  have nd := sc_Table_play.nd
  refine hasM1_of (b := m_Table_play) (N := N_Table_play) (k := 8) at_ sc_Table_play rfl fun f cdv A outer s H E hr => ?_
  exact (ss_cons (s_set (i := 3) nd rfl (.inl rfl) (e_fn h_stand_far (hr.mono (by decide)) (lenA_cons (lenA_cons (lenA_cons (lenA_cons lenA_nil)))) (a_cons (e_fld TK (pv 0)) (a_cons (e_fld TK (pv 0)) (a_cons (e_var (pv 1)) (a_cons (e_var (pv 2)) a_nil))))))
    (ss_cons (s_set (i := 4) nd rfl (.inl rfl) (e_fn h_exchange_far (hr.mono (by decide)) (lenA_cons (lenA_cons (lenA_cons (lenA_cons lenA_nil)))) (a_cons (e_fld TK (pv 0)) (a_cons (e_fld TK (pv 0)) (a_cons (e_var (pv 1)) (a_cons (e_var (pv 2)) a_nil))))))
    (ss_one (s_expr (e_meth TK hC h_Table_keep (hr.mono (by decide)) (lenA_cons (lenA_cons (lenA_cons lenA_nil))) (by decide) (pv 0) (a_cons (e_var (pv 3)) (a_cons (e_fn h_exchanged_marks (hr.mono (by decide)) (lenA_cons (lenA_cons lenA_nil)) (a_cons (e_var (pv 4)) (a_cons (e_fld TK (pv 0)) a_nil))) (a_cons (x_add (e_fld TK (pv 0)) (x_mul (x_blt (w_len rfl hr) z_len (a_cons (e_var (pv 1)) a_nil)) (e_var (pv 2)))) a_nil))))))))
abbrev s__law_moved_right : Stmt := topS 91
abbrev N__law_moved_right : List Str := ["_law_pen_here", "_law_floor_here", "_law_here", "_law_kept", "_law_row_here", "_law_moves", "_law_ahead", "_law_behind", "_law_one", "_law_other", "_law_number"]
theorem sc__law_moved_right : FnScope N__law_moved_right ["_law_pen_here", "_law_floor_here", "_law_here", "_law_kept", "_law_row_here"] (defScope s__law_moved_right) := ⟨rfl, rfl, rfl, by decide +kernel, rfl, by decide +kernel, by decide +kernel⟩
noncomputable def m__law_moved_right : SS := (sSeq (sSet 5 (eCall f_exchange (eCons (eVar 1) (eCons (eVar 2) (eCons (eVar 4) eNil)))))
  (sSeq (sPar 6 7 (eCons (eMkT g_Table_1 g_Table_2 g_Table_3 g_Table_4 (eCons (eVar 1) (eCons (eIx (eVar 2) (eC (.int 0))) (eCons (eIx (eVar 2) (eC (.int 1))) (eCons (eVar 3) eNil))))) (eCons (eMkT g_Table_1 g_Table_2 g_Table_3 g_Table_4 (eCons (eVar 1) (eCons (eIx (eVar 2) (eC (.int 0))) (eCons (eIx (eVar 2) (eC (.int 1))) (eCons (eVar 3) eNil))))) eNil)))
  (sSeq (sPar3 8 9 10 (eCons (eCall f__law_draw (eCons (eVar 0) (eCons (eThen (eCons (eVar 3) eNil) (kE oLen)) eNil))) (eCons (eCall f__law_draw (eCons (eVar 0) (eCons (eThen (eCons (eVar 3) eNil) (kE oLen)) eNil))) (eCons (eCall f__law_draw (eCons (eVar 0) (eCons (eC (.int 1000)) eNil))) eNil))))
  (sSeq (sExpr (eMeth 6 f_Table_trade (eCons (eVar 8) (eCons (eVar 9) eNil))))
  (sSeq (sExpr (eMeth 6 f_Table_mark (eCons (eVar 9) (eCons (eVar 10) eNil))))
  (sSeq (sExpr (eMeth 6 (FD1 f_Table_play) (eCons (eVar 4) eNil)))
  (sSeq (sExpr (eMeth 7 (FD1 f_Table_play) (eCons (eVar 4) eNil)))
  (sSeq (sIf (bOr (bT (eNe (eMeth 7 f_Table_marks eNil) (eCall f_marks_behind (eCons (eVar 1) (eCons (eVar 2) (eCons (eVar 4) (eCons (eVar 3) eNil))))))) (bT (eNe (eThen (eCons (eMeth 7 f_Table_marks eNil) eNil) kSorted) (eThen (eCons (eVar 3) eNil) kSorted)))) (sRet (eC (.bool false))) sPass)
  (sSeq (sExpr (eMeth 7 f_Table_trade (eCons (eIx (eVar 5) (eVar 8)) (eCons (eIx (eVar 5) (eVar 9)) eNil))))
  (sSeq (sExpr (eMeth 7 f_Table_mark (eCons (eIx (eVar 5) (eVar 9)) (eCons (eVar 10) eNil))))
  (sRet (eB (bAnd (bT (eEqT 6 7 f_Table___eq__)) (bT (eEq (eMeth 6 f_Table_rolls eNil) (eMeth 7 f_Table_rolls eNil))))))))))))))))
noncomputable def f__law_moved_right : FnD := runFn 11 m__law_moved_right
theorem p__law_moved_right {P : Program} {w : World} [WdOk w] {K : PySem.W.Frag} {mg : Str → Option Value} {base : Heap} (at_ : At0 K mg "_law_moved_right" s__law_moved_right ["_law_pen_here", "_law_floor_here", "_law_here", "_law_kept", "_law_row_here"]) (h_exchange : Has P w K mg base "exchange" 3 f_exchange 6) (h_Table___init__ : MkT P w K mg base g_Table_1 g_Table_2 g_Table_3 g_Table_4 5) (h__law_draw : Has P w K mg base "_law_draw" 2 f__law_draw 1) (h_Table_trade : HasM P w K mg base "trade" 3 f_Table_trade 4) (h_Table_mark : HasM P w K mg base "mark" 3 f_Table_mark 4) (h_Table_play : HasM1 P w K mg base "play" 2 f_Table_play 9) (h_Table_marks : HasM P w K mg base "marks" 1 f_Table_marks 1) (h_marks_behind : Has P w K mg base "marks_behind" 4 f_marks_behind 6) (h_Table_rolls : HasM P w K mg base "rolls" 1 f_Table_rolls 1) (h_Table___eq__ : HasM P w K mg base "__eq__" 2 f_Table___eq__ 1) (z_len : mg "len" = none) (z_sorted : mg "sorted" = none) (TK : TabK K) (hC : ∃ C, FnK K "Table" C) : Has P w K mg base "_law_moved_right" 5 f__law_moved_right 10 := by
  have nd := sc__law_moved_right.nd
  refine has_of (b := m__law_moved_right) (N := N__law_moved_right) (k := 9) at_ sc__law_moved_right rfl fun f cdv A outer s H E hr => ?_
  exact (ss_cons (s_set (i := 5) nd rfl (.inl rfl) (e_fn h_exchange (hr.mono (by decide)) (lenA_cons (lenA_cons (lenA_cons lenA_nil))) (a_cons (e_var (pv 1)) (a_cons (e_var (pv 2)) (a_cons (e_var (pv 4)) a_nil)))))
    (ss_cons (s_par (i := 6) (j := 7) rfl nd rfl rfl (by decide) rfl rfl (a_cons (e_mkT h_Table___init__ (hr.mono (by decide)) rfl (a_cons (e_var (pv 1)) (a_cons (x_ix (e_var (pv 2)) k_int) (a_cons (x_ix (e_var (pv 2)) k_int) (a_cons (e_var (pv 3)) a_nil))))) (a_cons (e_mkT h_Table___init__ (hr.mono (by decide)) rfl (a_cons (e_var (pv 1)) (a_cons (x_ix (e_var (pv 2)) k_int) (a_cons (x_ix (e_var (pv 2)) k_int) (a_cons (e_var (pv 3)) a_nil))))) a_nil)) rfl)
    (ss_cons (s_par3 (i := 8) (j := 9) (l := 10) rfl nd rfl rfl rfl (by decide) (by decide) (by decide) rfl rfl rfl (a_cons (e_fn h__law_draw (hr.mono (by decide)) (lenA_cons (lenA_cons lenA_nil)) (a_cons (e_var (pv 0)) (a_cons (x_blt (w_len rfl hr) z_len (a_cons (e_var (pv 3)) a_nil)) a_nil))) (a_cons (e_fn h__law_draw (hr.mono (by decide)) (lenA_cons (lenA_cons lenA_nil)) (a_cons (e_var (pv 0)) (a_cons (x_blt (w_len rfl hr) z_len (a_cons (e_var (pv 3)) a_nil)) a_nil))) (a_cons (e_fn h__law_draw (hr.mono (by decide)) (lenA_cons (lenA_cons lenA_nil)) (a_cons (e_var (pv 0)) (a_cons k_int a_nil))) a_nil))) rfl)
    (ss_cons (s_expr (e_meth TK hC h_Table_trade (hr.mono (by decide)) (lenA_cons (lenA_cons lenA_nil)) (by decide) (pv 6) (a_cons (e_var (pv 8)) (a_cons (e_var (pv 9)) a_nil))))
    (ss_cons (s_expr (e_meth TK hC h_Table_mark (hr.mono (by decide)) (lenA_cons (lenA_cons lenA_nil)) (by decide) (pv 6) (a_cons (e_var (pv 9)) (a_cons (e_var (pv 10)) a_nil))))
    (ss_cons (s_expr (e_meth1 TK hC h_Table_play (hr.mono (by decide)) (lenA_cons lenA_nil) (by decide) (pv 6) (a_cons (e_var (pv 4)) a_nil)))
    (ss_cons (s_expr (e_meth1 TK hC h_Table_play (hr.mono (by decide)) (lenA_cons lenA_nil) (by decide) (pv 7) (a_cons (e_var (pv 4)) a_nil)))
    (ss_cons (s_if (PW.pt (b_or (y_cmp (q_ne hr) (e_meth0 TK hC h_Table_marks (hr.mono (by decide)) (by decide) (pv 7)) (e_fn h_marks_behind (hr.mono (by decide)) (lenA_cons (lenA_cons (lenA_cons (lenA_cons lenA_nil)))) (a_cons (e_var (pv 1)) (a_cons (e_var (pv 2)) (a_cons (e_var (pv 4)) (a_cons (e_var (pv 3)) a_nil)))))) (b_or1 (y_cmp (q_ne hr) (x_blt (w_sorted rfl hr) z_sorted (a_cons (e_meth0 TK hC h_Table_marks (hr.mono (by decide)) (by decide) (pv 7)) a_nil)) (x_blt (w_sorted rfl hr) z_sorted (a_cons (e_var (pv 3)) a_nil)))))) (ss_one (s_ret k_bl)) ss_nil)
    (ss_cons (s_expr (e_meth TK hC h_Table_trade (hr.mono (by decide)) (lenA_cons (lenA_cons lenA_nil)) (by decide) (pv 7) (a_cons (x_ix (e_var (pv 5)) (e_var (pv 8))) (a_cons (x_ix (e_var (pv 5)) (e_var (pv 9))) a_nil))))
    (ss_cons (s_expr (e_meth TK hC h_Table_mark (hr.mono (by decide)) (lenA_cons (lenA_cons lenA_nil)) (by decide) (pv 7) (a_cons (x_ix (e_var (pv 5)) (e_var (pv 9))) (a_cons (e_var (pv 10)) a_nil))))
    (ss_one (s_ret (e_and (e_bool (e_eqT h_Table___eq__ (hr.mono (by decide)) (pv 6) (pv 7))) (e_and1 (x_cmp (q_eq hr) (e_meth0 TK hC h_Table_rolls (hr.mono (by decide)) (by decide) (pv 6)) (e_meth0 TK hC h_Table_rolls (hr.mono (by decide)) (by decide) (pv 7)))))))))))))))))
abbrev s_Table_roll : Stmt := methS 77 2
abbrev N_Table_roll : List Str := ["self", "letter"]
theorem sc_Table_roll : FnScope N_Table_roll ["self", "letter"] (defScope s_Table_roll) := ⟨rfl, rfl, rfl, by decide +kernel, rfl, by decide +kernel, by decide +kernel⟩
noncomputable def m_Table_roll : SS := (sSeq (sExpr (eCall f_need_letter (eCons (eVar 1) eNil)))
  (sExpr (eMeth 0 (FD1 f_Table_play) (eCons (eVar 1) eNil))))
noncomputable def f_Table_roll : FnD := runFn 2 m_Table_roll
theorem p_Table_roll {P : Program} {w : World} [WdOk w] {K : PySem.W.Frag} {mg : Str → Option Value} {base : Heap} (at_ : AtM K "roll" s_Table_roll ["self", "letter"]) (h_need_letter : Has P w K mg base "need_letter" 1 f_need_letter 2) (h_Table_play : HasM1 P w K mg base "play" 2 f_Table_play 9) (TK : TabK K) (hC : ∃ C, FnK K "Table" C) : HasM P w K mg base "roll" 2 f_Table_roll 10 := by
  have nd := sc_Table_roll.nd
  refine hasM_of (b := m_Table_roll) (N := N_Table_roll) (k := 9) at_ sc_Table_roll rfl fun f cdv A outer s H E hr => ?_
  exact (ss_cons (s_expr (e_fn h_need_letter (hr.mono (by decide)) (lenA_cons lenA_nil) (a_cons (e_var (pv 1)) a_nil)))
    (ss_one (s_expr (e_meth1 TK hC h_Table_play (hr.mono (by decide)) (lenA_cons lenA_nil) (by decide) (pv 0) (a_cons (e_var (pv 1)) a_nil)))))
abbrev s_law : Stmt := topS 92
abbrev N_law : List Str := ["_law_script", "_law_k", "_law_pen_here", "_law_floor_here", "_law_here", "_law_kept", "_law_by", "_law_spare", "_law_one", "_law_other", "_law_turn", "_law_row_here", "_law_letter", "_law_mark"]
theorem sc_law : FnScope N_law ["_law_script"] (defScope s_law) := ⟨rfl, rfl, rfl, by decide +kernel, rfl, by decide +kernel, by decide +kernel⟩
noncomputable def m_law : SS := (sSeq (sFor (iRg1 (eCons (eThen (eCons (eC (.int 1)) (eCons (eThen (eCons (eThen (eCons (eVar 0) eNil) (kE oLen)) (eCons (eC (.int 3)) eNil)) (kE oMin)) eNil)) (kE oMax)) eNil)) (gN 1) (sSeq (sSet 2 (eCall f__law_pen (eCons (eCall f__law_cell_at (eCons (eVar 0) (eCons (eVar 1) eNil))) eNil)))
  (sSeq (sSet 3 (eCall f__law_floor (eCons (eVar 2) eNil)))
  (sSeq (sParN [4, 5, 6] (eCons (eCall f__law_start (eCons (eVar 2) (eCons (eVar 3) eNil))) (eCons (eCall f__law_marks (eCons (eVar 2) (eCons (eVar 3) eNil))) (eCons (eAdd (eC (.int 1)) (eCall f__law_draw (eCons (eVar 2) (eCons (eC (.int 998)) eNil)))) eNil))))
  (sSeq (sSet 7 (eThen (eCons (eLc (iSeq (eVar 5)) (gN 13) bYes (eMod (eAdd (eMul (eVar 13) (eVar 6)) (eC (.int 7))) (eC (.int 1000))) [13]) eNil) kTupN))
  (sSeq (sPar 8 9 (eCons (eMkT g_Table_1 g_Table_2 g_Table_3 g_Table_4 (eCons (eVar 3) (eCons (eIx (eVar 4) (eC (.int 0))) (eCons (eIx (eVar 4) (eC (.int 1))) (eCons (eVar 5) eNil))))) (eCons (eMkT g_Table_1 g_Table_2 g_Table_3 g_Table_4 (eCons (eVar 3) (eCons (eIx (eVar 4) (eC (.int 0))) (eCons (eIx (eVar 4) (eC (.int 1))) (eCons (eVar 7) eNil))))) eNil)))
  (sFor (iRg1 (eCons (eC (.int 8)) eNil)) (gN 10) (sSeq (sSet 11 (eCall f__law_row (eCons (eVar 2) (eCons (eVar 3) (eCons (eIx (eMeth 8 f_Table_stand eNil) (eC (.int 0))) (eCons (eC (.int 12)) eNil))))))
  (sSeq (sIf (bNot (bT (eCall f__law_moved_right (eCons (eVar 2) (eCons (eVar 3) (eCons (eMeth 8 f_Table_stand eNil) (eCons (eMeth 8 f_Table_marks eNil) (eCons (eVar 11) eNil)))))))) (sRet (eC (.bool false))) sPass)
  (sSeq (sExpr (eMeth 8 (FD1 f_Table_play) (eCons (eVar 11) eNil)))
  (sSeq (sFor (iSeq (eVar 11)) (gN 12) (sExpr (eMeth 9 f_Table_roll (eCons (eVar 12) eNil))))
  (sSeq (sIf (bOr (bT (eNe (eMeth 8 f_Table_stand eNil) (eMeth 9 f_Table_stand eNil))) (bT (eNe (eMeth 8 f_Table_rolls eNil) (eMeth 9 f_Table_rolls eNil)))) (sRet (eC (.bool false))) sPass)
  (sIf (bT (eNe (eMeth 9 f_Table_marks eNil) (eThen (eCons (eLc (iSeq (eMeth 8 f_Table_marks eNil)) (gN 13) bYes (eMod (eAdd (eMul (eVar 13) (eVar 6)) (eC (.int 7))) (eC (.int 1000))) [13]) eNil) kTupN))) (sRet (eC (.bool false))) sPass)))))))))))))
  (sRet (eC (.bool true))))
noncomputable def f_law : FnD := runFn 14 m_law
theorem q_law {P : Program} {w : World} [WdOk w] {K : PySem.W.Frag} {mg : Str → Option Value} {base : Heap} {f : Addr} {fd : FuncData} (Fn : Fun K "law" "law" s_law f fd) (h__law_pen : Has P w K mg base "_law_pen" 1 f__law_pen 1) (h__law_cell_at : Has P w K mg base "_law_cell_at" 2 f__law_cell_at 1) (h__law_floor : Has P w K mg base "_law_floor" 1 f__law_floor 3) (h__law_draw : Has P w K mg base "_law_draw" 2 f__law_draw 1) (h__law_marks : Has P w K mg base "_law_marks" 2 f__law_marks 2) (h__law_start : Has P w K mg base "_law_start" 2 f__law_start 3) (h_Table___init__ : MkT P w K mg base g_Table_1 g_Table_2 g_Table_3 g_Table_4 5) (h__law_row : Has P w K mg base "_law_row" 4 f__law_row 3) (h_Table_stand : HasM P w K mg base "stand" 1 f_Table_stand 1) (h__law_moved_right : Has P w K mg base "_law_moved_right" 5 f__law_moved_right 10) (h_Table_marks : HasM P w K mg base "marks" 1 f_Table_marks 1) (h_Table_play : HasM1 P w K mg base "play" 2 f_Table_play 9) (h_Table_roll : HasM P w K mg base "roll" 2 f_Table_roll 10) (h_Table_rolls : HasM P w K mg base "rolls" 1 f_Table_rolls 1) (z_range : mg "range" = none) (z_max : mg "max" = none) (z_min : mg "min" = none) (z_len : mg "len" = none) (z_tuple : mg "tuple" = none) (TK : TabK K) (hC : ∃ C, FnK K "Table" C) : FnOk P w K mg base CX0 11 f fd ["_law_script"] (spF K f_law 1) := by
  have nd := sc_law.nd
  refine fn_ok (b := m_law) (N := N_law) (k := 10) Fn sc_law rfl fun cdv A outer s H E hr => ?_
  exact (ss_cons (s_for PassesOwn.never rfl (i_rg1 (by rfl) z_range (a_cons (x_blt (w_max rfl hr) z_max (a_cons k_int (a_cons (x_blt (w_min rfl hr) z_min (a_cons (x_blt (w_len rfl hr) z_len (a_cons (e_var (pv 0)) a_nil)) (a_cons k_int a_nil))) a_nil))) a_nil)) (g_name (i := 1) nd rfl (.inl rfl)) (ss_cons (s_set (i := 2) nd rfl (.inl rfl) (e_fn h__law_pen (hr.mono (by decide)) (lenA_cons lenA_nil) (a_cons (e_fn h__law_cell_at (hr.mono (by decide)) (lenA_cons (lenA_cons lenA_nil)) (a_cons (e_var (pv 0)) (a_cons (e_var (pv 1)) a_nil))) a_nil)))
    (ss_cons (s_set (i := 3) nd rfl (.inl rfl) (e_fn h__law_floor (hr.mono (by decide)) (lenA_cons lenA_nil) (a_cons (e_var (pv 2)) a_nil)))
    (ss_cons (s_parN rfl (a_cons (e_fn h__law_start (hr.mono (by decide)) (lenA_cons (lenA_cons lenA_nil)) (a_cons (e_var (pv 2)) (a_cons (e_var (pv 3)) a_nil))) (a_cons (e_fn h__law_marks (hr.mono (by decide)) (lenA_cons (lenA_cons lenA_nil)) (a_cons (e_var (pv 2)) (a_cons (e_var (pv 3)) a_nil))) (a_cons (x_add k_int (e_fn h__law_draw (hr.mono (by decide)) (lenA_cons (lenA_cons lenA_nil)) (a_cons (e_var (pv 2)) (a_cons k_int a_nil)))) a_nil))) (ns_cons (pg_name (i := 4) nd rfl (.inl rfl)) (ns_cons (pg_name (i := 5) nd rfl (.inl rfl)) (ns_cons (pg_name (i := 6) nd rfl (.inr rfl)) ns_nil))))
    (ss_cons (s_set (i := 7) nd rfl (.inl rfl) (x_bty (w_tuple rfl hr) z_tuple (a_cons (x_lc [("_law_mark", 13)] rfl nd rfl (i_seq (e_var (pv 5))) (blkOk_by (N := N_law) (sc := defScope s_law) (by decide +kernel)) (only_gN (by decide)) (fun _ _ _ _ _ => (v_name (i := 13) (by decide) nd rfl (.inl rfl))) (fun _ _ _ _ _ => ts_yes) (fun _ _ _ _ _ => (x_mod (x_add (x_mul (e_var (pv 13)) (e_var (pv 6))) k_int) k_int))) a_nil)))
    (ss_cons (s_par (i := 8) (j := 9) rfl nd rfl rfl (by decide) rfl rfl (a_cons (e_mkT h_Table___init__ (hr.mono (by decide)) rfl (a_cons (e_var (pv 3)) (a_cons (x_ix (e_var (pv 4)) k_int) (a_cons (x_ix (e_var (pv 4)) k_int) (a_cons (e_var (pv 5)) a_nil))))) (a_cons (e_mkT h_Table___init__ (hr.mono (by decide)) rfl (a_cons (e_var (pv 3)) (a_cons (x_ix (e_var (pv 4)) k_int) (a_cons (x_ix (e_var (pv 4)) k_int) (a_cons (e_var (pv 7)) a_nil))))) a_nil)) rfl)
    (ss_one (s_for PassesOwn.never rfl (i_rg1 (by rfl) z_range (a_cons k_int a_nil)) (g_name (i := 10) nd rfl (.inl rfl)) (ss_cons (s_set (i := 11) nd rfl (.inl rfl) (e_fn h__law_row (hr.mono (by decide)) (lenA_cons (lenA_cons (lenA_cons (lenA_cons lenA_nil)))) (a_cons (e_var (pv 2)) (a_cons (e_var (pv 3)) (a_cons (x_ix (e_meth0 TK hC h_Table_stand (hr.mono (by decide)) (by decide) (pv 8)) k_int) (a_cons k_int a_nil))))))
    (ss_cons (s_if (b_not (b_truth (e_fn h__law_moved_right (hr.mono (by decide)) (lenA_cons (lenA_cons (lenA_cons (lenA_cons (lenA_cons lenA_nil))))) (a_cons (e_var (pv 2)) (a_cons (e_var (pv 3)) (a_cons (e_meth0 TK hC h_Table_stand (hr.mono (by decide)) (by decide) (pv 8)) (a_cons (e_meth0 TK hC h_Table_marks (hr.mono (by decide)) (by decide) (pv 8)) (a_cons (e_var (pv 11)) a_nil)))))))) (ss_one (s_ret k_bl)) ss_nil)
    (ss_cons (s_expr (e_meth1 TK hC h_Table_play (hr.mono (by decide)) (lenA_cons lenA_nil) (by decide) (pv 8) (a_cons (e_var (pv 11)) a_nil)))
    (ss_cons (s_for PassesOwn.never rfl (i_seq (e_var (pv 11))) (g_name (i := 12) nd rfl (.inl rfl)) (ss_one (s_expr (e_meth TK hC h_Table_roll (hr.mono (by decide)) (lenA_cons lenA_nil) (by decide) (pv 9) (a_cons (e_var (pv 12)) a_nil)))))
    (ss_cons (s_if (PW.pt (b_or (y_cmp (q_ne hr) (e_meth0 TK hC h_Table_stand (hr.mono (by decide)) (by decide) (pv 8)) (e_meth0 TK hC h_Table_stand (hr.mono (by decide)) (by decide) (pv 9))) (b_or1 (y_cmp (q_ne hr) (e_meth0 TK hC h_Table_rolls (hr.mono (by decide)) (by decide) (pv 8)) (e_meth0 TK hC h_Table_rolls (hr.mono (by decide)) (by decide) (pv 9)))))) (ss_one (s_ret k_bl)) ss_nil)
    (ss_one (s_if (y_cmp (q_ne hr) (e_meth0 TK hC h_Table_marks (hr.mono (by decide)) (by decide) (pv 9)) (x_bty (w_tuple rfl hr) z_tuple (a_cons (x_lc [("_law_mark", 13)] rfl nd rfl (i_seq (e_meth0 TK hC h_Table_marks (hr.mono (by decide)) (by decide) (pv 8))) (blkOk_by (N := N_law) (sc := defScope s_law) (by decide +kernel)) (only_gN (by decide)) (fun _ _ _ _ _ => (v_name (i := 13) (by decide) nd rfl (.inl rfl))) (fun _ _ _ _ _ => ts_yes) (fun _ _ _ _ _ => (x_mod (x_add (x_mul (e_var (pv 13)) (e_var (pv 6))) k_int) k_int))) a_nil))) (ss_one (s_ret k_bl)) ss_nil)))))))))))))))
    (ss_one (s_ret k_bl)))
-- LEFT OUT _wall: test Constant
end
end L77

end
section
set_option linter.all false
set_option autoImplicit false
set_option Elab.async false
namespace MM
open PySem L2 T3
theorem pl_cell (c : Cell) : pl 1 (clD c) = true := rfl
theorem pl_tup {α : Type} {n : Nat} {f : α → PyData} {xs : List α} (h : ∀ x ∈ xs, pl n (f x) = true) : pl (n + 1) (.tuple (xs.map f)) = true := by
  simpa [pl] using h
theorem pl_lst {α : Type} {n : Nat} {f : α → PyData} {xs : List α} (h : ∀ x ∈ xs, pl n (f x) = true) : pl (n + 1) (.list (xs.map f)) = true := by
  simpa [pl] using h
end MM

end
section
set_option linter.all false
set_option autoImplicit false
set_option Elab.async false
namespace MM
open PySem L2 T3
theorem pl_in1 {x : PyData} {xs : List PyData} {n m : Nat} (h : pl n x = true) (h' : ∀ y ∈ xs, pl m y = true) (hn : n ≤ 50) (hm : m ≤ 50) (neg : Bool) {c : PyData} (hc : c = .tuple xs ∨ c = .list xs) (hx : x ∈ xs) : oIn neg [x, c] = some (.bool (!neg)) := by
  haveI := Classical.propDecidable (x ∈ xs)
  rw [pl_in h h' hn hm neg c hc]
  cases neg <;> simp [hx]
theorem pl_in0 {x : PyData} {xs : List PyData} {n m : Nat} (h : pl n x = true) (h' : ∀ y ∈ xs, pl m y = true) (hn : n ≤ 50) (hm : m ≤ 50) (neg : Bool) {c : PyData} (hc : c = .tuple xs ∨ c = .list xs) (hx : x ∉ xs) : oIn neg [x, c] = some (.bool neg) := by
  haveI := Classical.propDecidable (x ∈ xs)
  rw [pl_in h h' hn hm neg c hc]
  cases neg <;> simp [hx]
theorem clD_inj {a b : Cell} (h : clD a = clD b) : a = b := by
  obtain ⟨a1, a2⟩ := a
  obtain ⟨b1, b2⟩ := b
  simp [clD] at h
  rw [h.1, h.2]
theorem mem_clD {c : Cell} {F : List Cell} : clD c ∈ F.map clD ↔ c ∈ F := by
  constructor
  · intro h
    obtain ⟨d, hd, e⟩ := List.mem_map.mp h
    rw [← clD_inj e]
    exact hd
  · exact fun h => List.mem_map.mpr ⟨c, h, rfl⟩
theorem pl_cells (F : List Cell) : ∀ y ∈ F.map clD, pl 1 y = true := by
  intro y hy
  obtain ⟨c, _, rfl⟩ := List.mem_map.mp hy
  rfl
theorem ix20 (a b : PyData) : oIx [.tuple [a, b], .int 0] = some a := rfl
theorem ix21 (a b : PyData) : oIx [.tuple [a, b], .int 1] = some b := rfl
theorem wS_gen {f : SS} {env : Sl} {P : Fl → Sl → Prop} (h : ∀ E, E = env → wS f E P) : wS f env P := h env rfl
theorem al_start {k n : Nat} {as : List S} (h : as.length = k) (l : k ≤ n) : Al k n (startE n as) := by
  subst h
  exact Al.start as l
end MM

end
section
set_option linter.all false
set_option autoImplicit false
set_option Elab.async false
set_option maxRecDepth 10000
set_option maxHeartbeats 4000000
namespace L77
open PySem L2 T3 MM
theorem is_whole_int (i m : Int) : f_is_whole [.pd (.int i), .pd (.int m)] = some (.pd (.bool (decide (0 ≤ i) && decide (i ≤ m))), [.pd (.int i), .pd (.int m)]) := by
  unfold f_is_whole
  rw [run_of (e := [some (.pd (.int i)), some (.pd (.int m))]) rfl]
  simp [m_is_whole, oIsi, isi5, eCh, Cm.f]
  by_cases h : 0 ≤ i <;> simp [h]
def inB (c : Cell) : Bool := (decide (0 ≤ c.1) && decide (c.1 ≤ 3)) && (decide (0 ≤ c.2) && decide (c.2 ≤ 3))
theorem is_cell_sp (c : Cell) : f_is_cell [.pd (clD c)] = some (.pd (.bool (inB c)), [.pd (clD c)]) := by
  unfold f_is_cell
  rw [run_of (e := [some (.pd (clD c)), none, none]) rfl]
  simp [m_is_cell, clD, oIsi, isi5, oLen, eNe, oNe, sh_int, eqv_int, is_whole_int, v_LAST_LINE, inB]
  by_cases h1 : 0 ≤ c.1 <;> by_cases h2 : c.1 ≤ 3 <;> simp [h1, h2]
def ltC (c d : Cell) : Bool := HT.lexLt [c.1, c.2] [d.1, d.2]
def chain : List Cell → Bool
  | c :: d :: r => ltC c d && chain (d :: r)
  | _ => true
theorem zip_cells : ∀ cs : List Cell, zipD (cs.map clD) (cs.tail.map clD) = (cs.zip cs.tail).map fun p => .tuple [clD p.1, clD p.2] := by
  intro cs
  have : ∀ (as bs : List Cell), zipD (as.map clD) (bs.map clD) = (as.zip bs).map fun p => .tuple [clD p.1, clD p.2] := by
    intro as
    induction as with
    | nil => intro bs; simp [zipD]
    | cons a as ih =>
      intro bs
      cases bs with
      | nil => simp [zipD]
      | cons b bs =>
        have := ih bs
        simp only [zipD] at this ⊢
        simp [this]
  exact this cs cs.tail
theorem chain_all : ∀ cs : List Cell, ((cs.zip cs.tail).map fun p => ltC p.1 p.2).all id = chain cs
  | [] => rfl
  | [_] => rfl
  | c :: d :: r => by
    have := chain_all (d :: r)
    simp only [List.tail_cons] at this ⊢
    simp [chain, this]
theorem cut1_d (xs : List PyData) : cutD xs (some 1) none = xs.tail := by
  unfold cutD
  rw [show HT.sIx xs.length 0 (some 1) = min 1 xs.length from HT.sIx_nat xs.length 0 1, HT.sIx_none]
  cases xs with
  | nil => rfl
  | cons x r => simp
theorem is_rising_sp (cs : List Cell) (h9 : cs.length ≤ 1000) : f_is_rising [.nt (cs.map clD)] = some (.pd (.bool (chain cs)), [.nt (cs.map clD)]) := by
  unfold f_is_rising
  rw [run_of (e := [some (.nt (cs.map clD)), none, none]) rfl]
  have e : lcL (gT 2 (gCn (gN 1) (gCn (gN 2) gNl))) bYes (eLt (eVar 1) (eVar 2)) [1, 2] ((cs.zip cs.tail).map fun p => .tuple [clD p.1, clD p.2]) [some (.nt (cs.map clD)), none, none] [] = some ((cs.zip cs.tail).map (fun p => .bool (ltC p.1 p.2)), [some (.nt (cs.map clD)), none, none]) :=
    lcL_all (cs.zip cs.tail) fun p _ => ⟨[some (.nt (cs.map clD)), some (.pd (clD p.1)), some (.pd (clD p.2))], .pd (.bool (ltC p.1 p.2)), [some (.nt (cs.map clD)), some (.pd (clD p.1)), some (.pd (clD p.2))], by simp [wipeE], by simp [eLt, kLt, kLt0, oI, oLtT, clD, ints?, ltC], rfl, by simp [unwipe]⟩
  have ht : (cs.map clD).tail = cs.tail.map clD := by simp
  have hl : cs.length ≤ 1000001 := by omega
  have hc := chain_all cs
  simp [m_is_rising, eLc, iZt, eSl, oSome, oNo, kSl, cut1_d, tupOf, ht, zip_cells, e, oAll, bools_of, hl, -List.map_tail, -List.all_map, hc]
def okFl (cs : List Cell) : Prop := 1 ≤ cs.length ∧ cs.length ≤ 9 ∧ (∀ c ∈ cs, inB c = true) ∧ chain cs = true
theorem is_floor_sp (cs : List Cell) (h : okFl cs) : f_is_floor [.nt (cs.map clD)] = some (.pd (.bool true), [.nt (cs.map clD)]) := by
  unfold f_is_floor
  rw [run_of (e := [some (.nt (cs.map clD)), none]) rfl]
  have e : lcL (gN 1) bYes (eCall f_is_cell (eCons (eVar 1) eNil)) [1] (cs.map clD) [some (.nt (cs.map clD)), none] [] = some (cs.map (fun c => .bool (inB c)), [some (.nt (cs.map clD)), none]) :=
    lcL_all cs fun c _ => ⟨[some (.nt (cs.map clD)), some (.pd (clD c))], .pd (.bool (inB c)), [some (.nt (cs.map clD)), some (.pd (clD c))], by simp [wipeE], by simp [is_cell_sp], rfl, by simp [unwipe]⟩
  obtain ⟨h1, h2, h3, h4⟩ := h
  have ha : (cs.map inB).all id = true := by simpa using h3
  have l1 : (1 : Int) ≤ cs.length := by omega
  have l2 : (cs.length : Int) ≤ 9 := by omega
  have l3 : cs.length ≤ 1000000 := by omega
  simp [m_is_floor, oIsi, isi5, eCh, Cm.f, oLen, v_MOST_CELLS, eLc, iSeq, e, oAll, bools_of, is_rising_sp cs (by omega), l1, l2, l3, h4, ha, -List.all_map, -List.length_map]
  simp [l1, l2, l3, e, oAll, bools_of, is_rising_sp cs (by omega), ha, h4, List.length_map, -List.all_map]
theorem need_floor_sp (cs : List Cell) (h : okFl cs) : f_need_floor [.nt (cs.map clD)] = some (.pd .none, [.nt (cs.map clD)]) := by
  unfold f_need_floor
  rw [run_of (e := [some (.nt (cs.map clD))]) rfl]
  simp [m_need_floor, is_floor_sp cs h]
theorem is_cell_of_sp (cs : List Cell) (c : Cell) (hc : c ∈ cs) (hb : inB c = true) : f_is_cell_of [.nt (cs.map clD), .pd (clD c)] = some (.pd (.bool true), [.nt (cs.map clD), .pd (clD c)]) := by
  unfold f_is_cell_of
  rw [run_of (e := [some (.nt (cs.map clD)), some (.pd (clD c))]) rfl]
  simp [m_is_cell_of, is_cell_sp, hb, eIn, oIn, sh_cell, sh_cells, any_cell, hc, -List.any_map, -List.any_eq_true]
theorem ly_all : ∀ l ∈ lyings, 0 ≤ l.1 ∧ l.1 ≤ 5 ∧ 0 ≤ l.2.1 ∧ l.2.1 ≤ 5 ∧ 0 ≤ l.2.2 ∧ l.2.2 ≤ 5 := by decide
theorem is_lying_sp (l : Ly) (hl : l ∈ lyings) : f_is_lying [.pd (lyD l)] = some (.pd (.bool true), [.pd (lyD l)]) := by
  have e : lcL (gN 1) bYes (eCall f_is_whole (eCons (eVar 1) (eCons (eC v_OPPOSITE_SUM) eNil))) [1] ([l.1, l.2.1, l.2.2].map .int) [some (.pd (lyD l)), none] [] = some ([l.1, l.2.1, l.2.2].map (fun i => .bool (decide (0 ≤ i) && decide (i ≤ 5))), [some (.pd (lyD l)), none]) :=
    lcL_all [l.1, l.2.1, l.2.2] fun i _ => ⟨[some (.pd (lyD l)), some (.pd (.int i))], .pd (.bool (decide (0 ≤ i) && decide (i ≤ 5))), [some (.pd (lyD l)), some (.pd (.int i))], by simp [wipeE], by simp [is_whole_int, v_OPPOSITE_SUM], rfl, by simp [unwipe]⟩
  obtain ⟨b1, b2, b3, b4, b5, b6⟩ := ly_all l hl
  have hv : v_LYINGS = .tuple (lyings.map lyD) := by rfl
  have hs : SeqAt.shaped (.tuple (lyings.map lyD)) = true := sh_tup lyD (fun c => by simp [lyD, PyData.canLay0, PyData.canLayAll0]) (fun c => by simp [lyD, PyData.depth, PyData.depthAll]) lyings
  have hi : ((lyings.map lyD).any fun z => PyData.eqv z (lyD l)) = true := by
    rw [List.any_eq_true]
    exact ⟨lyD l, List.mem_map.mpr ⟨l, hl, rfl⟩, by rw [eqv_ly]; simp⟩
  unfold f_is_lying
  rw [run_of (e := [some (.pd (lyD l)), none]) rfl]
  have es : iSeq (eVar 0) [some (.pd (lyD l)), none] = some ([l.1, l.2.1, l.2.2].map .int, none, [some (.pd (lyD l)), none]) := by simp [iSeq, lyD]
  have eo : oIsi .tuple [lyD l] = some (.bool true) := rfl
  simp only [m_is_lying, z_seq, z_if, z_bNot, z_bT, z_then, z_one, z_cons, z_var, z_nil, List.getElem?_cons_zero, z_kE, z_ctns1, z_ctns0, z_ctn1, eo, Bool.not_true, Bool.false_eq_true, if_false, z_pass, z_ret, z_eB, z_bAnd, eLc, es, e, List.length_map, z_unl, z_ctn3, oAll]
  simp [bools?, b1, b2, b3, b4, b5, b6, eIn, oIn, hv, sh_ly, hs, hi, -List.any_map, -List.any_eq_true]
theorem is_stand_sp (cs : List Cell) (c : Cell) (l : Ly) (hc : c ∈ cs) (hb : inB c = true) (hl : l ∈ lyings) : f_is_stand [.nt (cs.map clD), .pd (stD c l)] = some (.pd (.bool true), [.nt (cs.map clD), .pd (stD c l)]) := by
  unfold f_is_stand
  rw [run_of (e := [some (.nt (cs.map clD)), some (.pd (stD c l)), none, none]) rfl]
  simp [m_is_stand, stD, oIsi, isi5, oLen, eNe, oNe, sh_int, eqv_int, is_cell_of_sp cs c hc hb, is_lying_sp l hl]
theorem need_stand_sp (cs : List Cell) (c : Cell) (l : Ly) (hc : c ∈ cs) (hb : inB c = true) (hl : l ∈ lyings) : f_need_stand [.nt (cs.map clD), .pd (stD c l)] = some (.pd .none, [.nt (cs.map clD), .pd (stD c l)]) := by
  unfold f_need_stand
  rw [run_of (e := [some (.nt (cs.map clD)), some (.pd (stD c l))]) rfl]
  simp [m_need_stand, is_stand_sp cs c l hc hb hl]
theorem is_letter_sp (d : Dir) : f_is_letter [.pd (.str (chS d))] = some (.pd (.bool true), [.pd (.str (chS d))]) := by
  unfold f_is_letter
  rw [run_of (e := [some (.pd (.str (chS d)))]) rfl]
  have hv : v_LETTERS = .tuple ([Dir.n, .e, .s, .w].map fun d => .str (chS d)) := by
    simp only [v_LETTERS, List.map_cons, List.map_nil, chS_n, chS_e, chS_s, chS_w]
  have hs : SeqAt.shaped (.tuple ([Dir.n, .e, .s, .w].map fun d => .str (chS d))) = true := sh_tup _ (fun d => by have := SeqAt.canLay_of_shaped (sh_ch d); exact this) (fun d => by simp [PyData.depth]) _
  have hi : (([Dir.n, .e, .s, .w].map fun d => PyData.str (chS d)).any fun z => PyData.eqv z (.str (chS d))) = true := by
    rw [List.any_eq_true]
    exact ⟨.str (chS d), List.mem_map.mpr ⟨d, by cases d <;> simp, rfl⟩, by rw [eqv_ch]; simp⟩
  simp only [m_is_letter, hv]
  simp only [z_ret, z_eB, z_bAnd, z_bT, z_then, z_one, z_cons, z_var, z_nil, List.getElem?_cons_zero, z_kE, z_ctns1, z_ctns0, z_ctn1, oIsi, isi5, if_true, eIn, z_two, z_c, oIn, sh_ch, hs, hi, and_self, z_out1, z_fin1, z_fin0]
  rfl
theorem is_row_sp (ds : List Dir) (hl : ds.length ≤ 1000) : f_is_row [.pd (.str (rowS ds))] = some (.pd (.bool true), [.pd (.str (rowS ds))]) := by
  unfold f_is_row
  rw [run_of (e := [some (.pd (.str (rowS ds))), none]) rfl]
  have e : lcL (gN 1) bYes (eCall f_is_letter (eCons (eVar 1) eNil)) [1] (ds.map fun d => .str (chS d)) [some (.pd (.str (rowS ds))), none] [] = some (ds.map (fun _ => .bool true), [some (.pd (.str (rowS ds))), none]) :=
    lcL_all ds fun d _ => ⟨[some (.pd (.str (rowS ds))), some (.pd (.str (chS d)))], .pd (.bool true), [some (.pd (.str (rowS ds))), some (.pd (.str (chS d)))], by simp [wipeE], by simp [is_letter_sp], rfl, by simp [unwipe]⟩
  have l3 : ds.length ≤ 1000000 := by omega
  have bs := bools_of (fun _ : Dir => true) ds
  have hb : (ds.map (fun _ : Dir => true)).all id = true := by simp
  simp [m_is_row, oIsi, isi5, eLc, iSeq, signs_row, e, l3, oAll, bs, hb, -List.all_map, -List.map_const']
theorem need_row_sp (ds : List Dir) (hl : ds.length ≤ 1000) : f_need_row [.pd (.str (rowS ds))] = some (.pd .none, [.pd (.str (rowS ds))]) := by
  unfold f_need_row
  rw [run_of (e := [some (.pd (.str (rowS ds)))]) rfl]
  simp [m_need_row, is_row_sp ds hl]
theorem steps_look (d : Dir) : v_STEPS.lookup (chS d) = some (.tuple [.int (stepC (0, 0) d).1, .int (stepC (0, 0) d).2]) := by
  cases d <;> rfl
theorem rolled_cell_sp (c : Cell) (d : Dir) : f_rolled_cell [.pd (clD c), .pd (.str (chS d))] = some (.pd (clD (stepC c d)), [.pd (clD c), .pd (.str (chS d))]) := by
  unfold f_rolled_cell
  rw [run_of (e := [some (.pd (clD c)), some (.pd (.str (chS d))), none, none, none, none]) rfl]
  simp [m_rolled_cell, clD, eKd, steps_look, eAdd, kAdd, oI]
  cases d <;> simp [stepC] <;> omega
theorem rolled_lying_sp (l : Ly) (d : Dir) : f_rolled_lying [.pd (lyD l), .pd (.str (chS d))] = some (.pd (lyD (roll l d)), [.pd (lyD l), .pd (.str (chS d))]) := by
  unfold f_rolled_lying
  rw [run_of (e := [some (.pd (lyD l)), some (.pd (.str (chS d))), none, none, none]) rfl]
  cases d <;> simp [m_rolled_lying, lyD, eEq, oEq, ← chS_n, ← chS_s, ← chS_e, sh_ch, eqv_ch, eSub, kSub, oI, v_OPPOSITE_SUM, roll]
theorem rolled_stand_sp (c : Cell) (l : Ly) (d : Dir) : f_rolled_stand [.pd (stD c l), .pd (.str (chS d))] = some (.pd (stD (stepC c d) (roll l d)), [.pd (stD c l), .pd (.str (chS d))]) := by
  unfold f_rolled_stand
  rw [run_of (e := [some (.pd (stD c l)), some (.pd (.str (chS d))), none, none]) rfl]
  simp [m_rolled_stand, stD, rolled_cell_sp, rolled_lying_sp]
def letR (cs : List Cell) : Cell → List Dir → Prop
  | _, [] => True
  | c, d :: ds => stepC c d ∈ cs ∧ letR cs (stepC c d) ds
def endC (c : Cell) (ds : List Dir) : Cell := ds.foldl stepC c
def endL (l : Ly) (ds : List Dir) : Ly := ds.foldl roll l
theorem enum_row (ds : List Dir) : enumD (signs (rowS ds)) 0 = (ds.zipIdx).map fun p => .tuple [.int (p.2 : Nat), .str (chS p.1)] := by
  rw [signs_row]
  apply List.ext_getElem?
  intro i
  by_cases h : i < ds.length
  · simp [enumD, h]
  · simp [enumD, h]
theorem place_off_loop (cs : List Cell) (a1 a2 : S) : ∀ (ds : List Dir) (k : Nat) (c : Cell) (s4 s5 : Option S), letR cs c ds → (s4 = none ∨ ∃ x, s4 = some (.pd x)) → (s5 = none ∨ ∃ x, s5 = some (.pd x)) →
    ∃ c' s4' s5', forL (gT 2 (gCn (gN 4) (gCn (gN 5) gNl))) (sSeq (sSet 3 (eCall f_rolled_cell (eCons (eVar 3) (eCons (eVar 5) eNil)))) (sIf (bT (eNin (eVar 3) (eVar 0))) (sRet (eVar 4)) sPass)) ((ds.zipIdx k).map fun p => .tuple [.int (p.2 : Nat), .str (chS p.1)]) [some (.nt (cs.map clD)), some a1, some a2, some (.pd (clD c)), s4, s5] = some (.nx, [some (.nt (cs.map clD)), some a1, some a2, some (.pd (clD c')), s4', s5'])
  | [], k, c, s4, s5, _, _, _ => ⟨c, s4, s5, rfl⟩
  | d :: ds, k, c, s4, s5, h, h4, h5 => by
    obtain ⟨h1, h2⟩ := h
    obtain ⟨c', s4', s5', ih⟩ := place_off_loop cs a1 a2 ds (k + 1) (stepC c d) (some (.pd (.int (k : Nat)))) (some (.pd (.str (chS d)))) h2 (.inr ⟨_, rfl⟩) (.inr ⟨_, rfl⟩)
    refine ⟨c', s4', s5', ?_⟩
    rw [List.zipIdx_cons, List.map_cons]
    unfold forL
    have hn : ¬ ((cs.map clD).any fun z => PyData.eqv z (clD (stepC c d))) = false := by rw [any_cell]; simp [h1]
    rcases h4 with rfl | ⟨x4, rfl⟩ <;> rcases h5 with rfl | ⟨x5, rfl⟩ <;>
      (simp [rolled_cell_sp, eNin, oIn, sh_cell, sh_cells, any_cell, h1, -List.any_map, -List.any_eq_true]; exact ih)
theorem place_off_sp (cs : List Cell) (c : Cell) (ds : List Dir) (h : letR cs c ds) : f_place_off [.nt (cs.map clD), .pd (clD c), .pd (.str (rowS ds))] = some (.pd .none, [.nt (cs.map clD), .pd (clD c), .pd (.str (rowS ds))]) := by
  unfold f_place_off
  rw [run_of (e := [some (.nt (cs.map clD)), some (.pd (clD c)), some (.pd (.str (rowS ds))), none, none, none]) rfl]
  obtain ⟨c', s4', s5', e⟩ := place_off_loop cs (.pd (clD c)) (.pd (.str (rowS ds))) ds 0 c none none h (.inl rfl) (.inl rfl)
  simp [m_place_off, iEn, enum_row, e]
theorem need_let_sp (cs : List Cell) (c : Cell) (ds : List Dir) (h : letR cs c ds) : f_need_let [.nt (cs.map clD), .pd (clD c), .pd (.str (rowS ds))] = some (.pd .none, [.nt (cs.map clD), .pd (clD c), .pd (.str (rowS ds))]) := by
  unfold f_need_let
  rw [run_of (e := [some (.nt (cs.map clD)), some (.pd (clD c)), some (.pd (.str (rowS ds)))]) rfl]
  simp [m_need_let, place_off_sp cs c ds h, eIsn, oIsN, isN]
theorem atI_at {α : Type} {xs : List α} {i : Int} {x : α} (h0 : 0 ≤ i) (h : xs[i.toNat]? = some x) : atI xs i = some x := by
  obtain ⟨hl, e⟩ := List.getElem?_eq_some_iff.mp h
  unfold atI ixN
  have : i < xs.length := by omega
  simp [h0, this, e]
theorem ixN_at {n : Nat} {i : Int} (h0 : 0 ≤ i) (h : i < n) : ixN n i = some i.toNat := by
  unfold ixN; simp [h0, h]
def ups (n : Nat) : List Int := (List.range n).map fun k => ((k : Nat) : Int)
theorem ups_len (n : Nat) : (ups n).length = n := by simp [ups]
theorem rgT_ups (n : Nat) : rgT 0 (n : Int) = (ups n).map .int := by
  simp [rgT, ups]
theorem rgD_ups (n : Nat) : rgD 0 n 1 = (ups n).map .int := by
  simp [rgD, ups]
theorem rgOk_of (n : Nat) (h : n ≤ 1000) : RgOk 0 (n : Int) := by
  refine ⟨by decide, by decide, ?_, ?_, ?_⟩
  · have : (-2 ^ 62 : Int) ≤ 0 := by decide
    omega
  · have : (1000 : Int) < 2 ^ 62 := by decide
    omega
  · have : 1000 ≤ 2 ^ 24 := by decide
    omega
theorem kTrg1 (n : Int) (env : Sl) (h : RgOk 0 n) : kTrg [.pd (.int n)] env = some (.pd (.tuple (rgT 0 n)), env) := by
  show (if RgOk 0 n then some (R.pd (.tuple (rgT 0 n)), env) else none) = _
  exact if_pos h
theorem spots_of_sp (cs : List Cell) (h9 : cs.length ≤ 9) : f_spots_of [.nt (cs.map clD)] = some (.pd (.tuple ((ups (6 + cs.length)).map .int)), [.nt (cs.map clD)]) := by
  unfold f_spots_of
  rw [run_of (e := [some (.nt (cs.map clD))]) rfl]
  have r : RgOk 0 (6 + (cs.length : Int)) := by
    have := rgOk_of (6 + cs.length) (by omega)
    rw [show ((6 + cs.length : Nat) : Int) = 6 + (cs.length : Int) by omega] at this
    exact this
  have e : rgT 0 (6 + (cs.length : Int)) = (ups (6 + cs.length)).map .int := by
    rw [← rgT_ups]; simp
  simp [m_spots_of, eTrg, eAdd, kAdd, oI, v_FACES, oLen, kTrg1 _ _ r, e]
def okM (n : Nat) (ms : List Int) : Prop := ms.length = n ∧ ∀ m ∈ ms, 0 ≤ m ∧ m ≤ 999
def isT (s : S) (xs : List PyData) : Prop := s = .pd (.tuple xs) ∨ s = .nt xs
theorem is_marks_sp (cs : List Cell) (ms : List Int) (s : S) (hs : isT s (ms.map .int)) (h9 : cs.length ≤ 9) (hm : okM (6 + cs.length) ms) : f_is_marks [.nt (cs.map clD), s] = some (.pd (.bool true), [.nt (cs.map clD), s]) := by
  have e : ∀ s' : S, lcL (gN 2) bYes (eCall f_is_whole (eCons (eVar 2) (eCons (eC v_MOST_MARK) eNil))) [2] (ms.map .int) [some (.nt (cs.map clD)), some s', none] [] = some (ms.map (fun i => .bool (decide (0 ≤ i) && decide (i ≤ 999))), [some (.nt (cs.map clD)), some s', none]) := fun s' =>
    lcL_all ms fun i _ => ⟨[some (.nt (cs.map clD)), some s', some (.pd (.int i))], .pd (.bool (decide (0 ≤ i) && decide (i ≤ 999))), [some (.nt (cs.map clD)), some s', some (.pd (.int i))], by simp [wipeE], by simp [is_whole_int, v_MOST_MARK], rfl, by simp [unwipe]⟩
  obtain ⟨h1, h2⟩ := hm
  have l3 : 6 + cs.length ≤ 1000000 := by omega
  have hb : (ms.map (fun i => (decide (0 ≤ i) && decide (i ≤ 999)))).all id = true := by
    simp only [List.all_map, List.all_eq_true]
    intro x hx
    have := h2 x hx
    simp [this]
  have bs := bools_of (fun i : Int => (decide (0 ≤ i) && decide (i ≤ 999))) ms
  have hl : (ms.length : Int) = (6 + cs.length : Nat) := by omega
  rcases hs with rfl | rfl
  · unfold f_is_marks
    rw [run_of (e := [some (.nt (cs.map clD)), some (.pd (.tuple (ms.map .int))), none]) rfl]
    simp [m_is_marks, oIsi, isi5, eNe, oNe, oLen, spots_of_sp cs h9, ups_len, sh_int, eqv_int, h1, eLc, iSeq, e, oAll, bs, hb, -List.all_map, -List.length_map]
    simp [m_is_marks, oIsi, isi5, eNe, oNe, oLen, spots_of_sp cs h9, ups_len, sh_int, eqv_int, h1, eLc, iSeq, e, oAll, bs, hb, l3, -List.all_map]
  · unfold f_is_marks
    rw [run_of (e := [some (.nt (cs.map clD)), some (.nt (ms.map .int)), none]) rfl]
    simp [m_is_marks, oIsi, isi5, eNe, oNe, oLen, spots_of_sp cs h9, ups_len, sh_int, eqv_int, h1, eLc, iSeq, e, oAll, bs, hb, -List.all_map, -List.length_map]
    simp [m_is_marks, oIsi, isi5, eNe, oNe, oLen, spots_of_sp cs h9, ups_len, sh_int, eqv_int, h1, eLc, iSeq, e, oAll, bs, hb, l3, -List.all_map]
theorem forL_cons {g : GG} {body : SS} {x : PyData} {xs : List PyData} {env e1 e2 : Sl} (h1 : g x env = some e1) (h2 : body e1 = some (.nx, e2)) : forL g body (x :: xs) env = forL g body xs e2 := by
  simp [forL, h1, h2]
theorem need_marks_sp (cs : List Cell) (ms : List Int) (s : S) (hs : isT s (ms.map .int)) (h9 : cs.length ≤ 9) (hm : okM (6 + cs.length) ms) : f_need_marks [.nt (cs.map clD), s] = some (.pd .none, [.nt (cs.map clD), s]) := by
  have e := is_marks_sp cs ms s hs h9 hm
  rcases hs with rfl | rfl
  · unfold f_need_marks
    rw [run_of (e := [some (.nt (cs.map clD)), some (.pd (.tuple (ms.map .int)))]) rfl]
    simp [m_need_marks, e]
  · unfold f_need_marks
    rw [run_of (e := [some (.nt (cs.map clD)), some (.nt (ms.map .int))]) rfl]
    simp [m_need_marks, e]
theorem firstIx_cell (c : Cell) : ∀ cs : List Cell, c ∈ cs → firstIx (clD c) (cs.map clD) = some (cs.idxOf c)
  | [], h => by simp at h
  | a :: cs, h => by
    rw [List.map_cons, firstIx, eqv_cell]
    by_cases e : a = c
    · simp [e]
    · have : c ∈ cs := by
        rcases List.mem_cons.mp h with h | h
        · exact absurd h.symm e
        · exact h
      simp [e, firstIx_cell c cs this, List.idxOf_cons, beq_eq_false_iff_ne.mpr e]
theorem firstIx_nat (c : Nat) : ∀ cs : List Nat, c ∈ cs → firstIx (.int (c : Int)) (cs.map fun k => .int ((k : Nat) : Int)) = some (cs.idxOf c)
  | [], h => by simp at h
  | a :: cs, h => by
    rw [List.map_cons, firstIx, eqv_int]
    by_cases e : a = c
    · simp [e]
    · have : c ∈ cs := by
        rcases List.mem_cons.mp h with h | h
        · exact absurd h.symm e
        · exact h
      have e' : ¬ (a : Int) = c := by omega
      simp [e, e', firstIx_nat c cs this, List.idxOf_cons, beq_eq_false_iff_ne.mpr e]
def trd (cs : List Cell) : Cell → Ly → List Dir → List (Int × Int)
  | _, _, [] => []
  | c, l, d :: ds => ((roll l d).1, 6 + (cs.idxOf (stepC c d) : Int)) :: trd cs (stepC c d) (roll l d) ds
def Fr (s : Option S) : Prop := s = none ∨ ∃ x, s = some (.pd x)
theorem spot_of_cell_sp (cs : List Cell) (c : Cell) (h : c ∈ cs) : f_spot_of_cell [.nt (cs.map clD), .pd (clD c)] = some (.pd (.int (6 + (cs.idxOf c : Int))), [.nt (cs.map clD), .pd (clD c)]) := by
  have hf := firstIx_cell c cs h
  unfold f_spot_of_cell
  rw [run_of (e := [some (.nt (cs.map clD)), some (.pd (clD c))]) rfl]
  simp [m_spot_of_cell, eBM, eAdd, kAdd, oI, v_FACES, isNt, kIxT, oIxT, sh_cells, sh_cell, hf]
theorem trade_at_sp (cs : List Cell) (c : Cell) (l : Ly) (h : c ∈ cs) : f_trade_at [.nt (cs.map clD), .pd (stD c l)] = some (.pd (clD (l.1, 6 + (cs.idxOf c : Int))), [.nt (cs.map clD), .pd (stD c l)]) := by
  have hz : atI [PyData.int l.1, .int l.2.1, .int l.2.2] 0 = some (.int l.1) := rfl
  have sl : stD c l = .tuple [clD c, lyD l] := rfl
  have ll : lyD l = .tuple [.int l.1, .int l.2.1, .int l.2.2] := rfl
  have hd : clD (l.1, 6 + (cs.idxOf c : Int)) = .tuple [.int l.1, .int (6 + (cs.idxOf c : Int))] := rfl
  unfold f_trade_at
  rw [run_of (e := [some (.nt (cs.map clD)), some (.pd (stD c l)), none, none]) rfl]
  simp [m_trade_at, sl, spot_of_cell_sp cs c h, eIx, oIx, ll, hz, hd]
theorem trades_loop (cs : List Cell) (a1 a2 : S) : ∀ (ds : List Dir) (c : Cell) (l : Ly) (acc : List PyData) (s5 : Option S), letR cs c ds → acc.length + ds.length ≤ 1000 → Fr s5 →
    ∃ x s5', forL (gN 5) (sSeq (sSet 4 (eCall f_rolled_stand (eCons (eVar 4) (eCons (eVar 5) eNil))))
  (sExpr (eBM isL (eVar 3) (eCons (eCall f_trade_at (eCons (eVar 0) (eCons (eVar 4) eNil))) eNil) kAppend))) (ds.map fun d => .str (chS d)) [some (.nt (cs.map clD)), some a1, some a2, some (.mu .own (.ls acc)), some (.pd (stD c l)), s5] = some (.nx, [some (.nt (cs.map clD)), some a1, some a2, some (.mu .own (.ls (acc ++ (trd cs c l ds).map clD))), some (.pd x), s5'])
  | [], c, l, acc, s5, _, _, _ => ⟨stD c l, s5, by simp [forL, trd]⟩
  | d :: ds, c, l, acc, s5, h, ha, h5 => by
    obtain ⟨h1, h2⟩ := h
    obtain ⟨x, s5', ih⟩ := trades_loop cs a1 a2 ds (stepC c d) (roll l d) (acc ++ [clD ((roll l d).1, 6 + (cs.idxOf (stepC c d) : Int))]) (some (.pd (.str (chS d)))) h2 (by simp at ha ⊢; omega) (.inr ⟨_, rfl⟩)
    refine ⟨x, s5', ?_⟩
    have hl : acc.length ≤ 1000000 := by omega
    rw [List.map_cons, forL_cons (e1 := [some (.nt (cs.map clD)), some a1, some a2, some (.mu .own (.ls acc)), some (.pd (stD c l)), some (.pd (.str (chS d)))]) (e2 := [some (.nt (cs.map clD)), some a1, some a2, some (.mu .own (.ls (acc ++ [clD ((roll l d).1, 6 + (cs.idxOf (stepC c d) : Int))]))), some (.pd (stD (stepC c d) (roll l d))), some (.pd (.str (chS d)))]) ?_ ?_, ih]
    · simp [trd]
    · rcases h5 with rfl | ⟨x5, rfl⟩ <;> simp
    · simp [rolled_stand_sp, trade_at_sp cs _ (roll l d) h1, eBM, isL, kAppend, hl]
theorem trades_sp (cs : List Cell) (c : Cell) (l : Ly) (ds : List Dir) (h : letR cs c ds) (hl : ds.length ≤ 1000) : f_trades [.nt (cs.map clD), .pd (stD c l), .pd (.str (rowS ds))] = some (.tmp (.ls ((trd cs c l ds).map clD)), [.nt (cs.map clD), .pd (stD c l), .pd (.str (rowS ds))]) := by
  obtain ⟨x, s5', e⟩ := trades_loop cs (.pd (stD c l)) (.pd (.str (rowS ds))) ds c l [] none h (by simpa using hl) (.inl rfl)
  unfold f_trades
  rw [run_of (e := [some (.nt (cs.map clD)), some (.pd (stD c l)), some (.pd (.str (rowS ds))), none, none, none]) rfl]
  simp [m_trades, iSeq, signs_row, e]
theorem held_loop (a0 a1 : S) : ∀ (ps : List (Int × Int)) (xs : List PyData) (s3 s4 : Option S), (∀ p ∈ ps, 0 ≤ p.1 ∧ p.1 < xs.length ∧ 0 ≤ p.2 ∧ p.2 < xs.length) → Fr s3 → Fr s4 →
    ∃ s3' s4', forL (gT 2 (gCn (gN 3) (gCn (gN 4) gNl))) (sAsg (eThen (eCons (eIx (eVar 2) (eVar 4)) (eCons (eIx (eVar 2) (eVar 3)) eNil)) kTup) (gT 2 (gCn (gS (eVar 2) (eVar 3)) (gCn (gS (eVar 2) (eVar 4)) gNl)))) (ps.map clD) [some a0, some a1, some (.mu .own (.ls xs)), s3, s4] = some (.nx, [some a0, some a1, some (.mu .own (.ls (held xs ps))), s3', s4'])
  | [], xs, s5, s6, _, _, _ => ⟨s5, s6, rfl⟩
  | p :: ps, xs, s5, s6, h, h5, h6 => by
    obtain ⟨b1, b2, b3, b4⟩ := h p (by simp)
    obtain ⟨s5', s6', ih⟩ := held_loop a0 a1 ps (swp xs p) (some (.pd (.int p.1))) (some (.pd (.int p.2))) (fun q hq => by rw [swp_len]; exact h q (by simp [hq])) (.inr ⟨_, rfl⟩) (.inr ⟨_, rfl⟩)
    refine ⟨s5', s6', ?_⟩
    have l1 : p.1.toNat < xs.length := by omega
    have l2 : p.2.toNat < xs.length := by omega
    have g1 := atI_at (x := xs[p.1.toNat]) b1 (List.getElem?_eq_getElem l1)
    have g2 := atI_at (x := xs[p.2.toNat]) b3 (List.getElem?_eq_getElem l2)
    have sw : swp xs p = (xs.set p.1.toNat xs[p.2.toNat]).set p.2.toNat xs[p.1.toNat] := by
      simp [swp, List.getElem?_eq_getElem l1, List.getElem?_eq_getElem l2]
    have i1 := ixN_at b1 b2
    have i2 := ixN_at b3 b4
    rw [List.map_cons, forL_cons (e1 := [some a0, some a1, some (.mu .own (.ls xs)), some (.pd (.int p.1)), some (.pd (.int p.2))]) (e2 := [some a0, some a1, some (.mu .own (.ls (swp xs p))), some (.pd (.int p.1)), some (.pd (.int p.2))]) ?_ ?_, ih]
    · rfl
    · rcases h5 with rfl | ⟨x5, rfl⟩ <;> rcases h6 with rfl | ⟨x6, rfl⟩ <;> simp [clD]
    · simp [eIx, oIx, g1, g2, gS, putL, i1, i2, sw]
theorem held_traded_sp (ps : List (Int × Int)) (xs : List PyData) (s : S) (hs : isT s xs) (hp : ∀ p ∈ ps, 0 ≤ p.1 ∧ p.1 < xs.length ∧ 0 ≤ p.2 ∧ p.2 < xs.length) : f_held_traded [.mu .bor (.ls (ps.map clD)), s] = some (.nt (held xs ps), [.mu .bor (.ls (ps.map clD)), s]) := by
  obtain ⟨s5', s6', e⟩ := held_loop (.mu .fro (.ls (ps.map clD))) s ps xs none none hp (.inl rfl) (.inl rfl)
  rcases hs with rfl | rfl
  · unfold f_held_traded
    rw [run_of (e := [some (.mu .bor (.ls (ps.map clD))), some (.pd (.tuple xs)), none, none, none]) rfl]
    simp [m_held_traded, oList, iSeq, e, kTupN]
  · unfold f_held_traded
    rw [run_of (e := [some (.mu .bor (.ls (ps.map clD))), some (.nt xs), none, none, none]) rfl]
    simp [m_held_traded, oList, iSeq, e, kTupN]
theorem held_behind_sp (cs : List Cell) (c : Cell) (l : Ly) (ds : List Dir) (xs : List PyData) (s : S) (hs : isT s xs) (h : letR cs c ds) (hl : ds.length ≤ 1000) (hp : ∀ p ∈ trd cs c l ds, 0 ≤ p.1 ∧ p.1 < xs.length ∧ 0 ≤ p.2 ∧ p.2 < xs.length) : f_held_behind [.nt (cs.map clD), .pd (stD c l), .pd (.str (rowS ds)), s] = some (.nt (held xs (trd cs c l ds)), [.nt (cs.map clD), .pd (stD c l), .pd (.str (rowS ds)), s]) := by
  have e := held_traded_sp (trd cs c l ds) xs s hs hp
  rcases hs with rfl | rfl
  · unfold f_held_behind
    rw [run_of (e := [some (.nt (cs.map clD)), some (.pd (stD c l)), some (.pd (.str (rowS ds))), some (.pd (.tuple xs))]) rfl]
    simp [m_held_behind, trades_sp cs c l ds h hl, e]
  · unfold f_held_behind
    rw [run_of (e := [some (.nt (cs.map clD)), some (.pd (stD c l)), some (.pd (.str (rowS ds))), some (.nt xs)]) rfl]
    simp [m_held_behind, trades_sp cs c l ds h hl, e]
structure Sit (cs : List Cell) (c : Cell) (l : Ly) (ds : List Dir) : Prop where
  fl : okFl cs
  mem : c ∈ cs
  ly : l ∈ lyings
  lt : letR cs c ds
  ln : ds.length ≤ 1000
theorem trd_ok (cs : List Cell) : ∀ (ds : List Dir) (c : Cell) (l : Ly), l ∈ lyings → letR cs c ds → ∀ p ∈ trd cs c l ds, 0 ≤ p.1 ∧ p.1 < 6 ∧ 6 ≤ p.2 ∧ p.2 < 6 + (cs.length : Int)
  | [], _, _, _, _, p, hp => by simp [trd] at hp
  | d :: ds, c, l, hl, h, p, hp => by
    obtain ⟨h1, h2⟩ := h
    rcases List.mem_cons.mp hp with rfl | hp
    · have b := ly_bound _ (roll_mem l hl d)
      have i := List.idxOf_lt_length_iff.mpr h1
      simp only
      omega
    · exact trd_ok cs ds _ _ (roll_mem l hl d) h2 p hp
theorem Sit.trd {cs : List Cell} {c : Cell} {l : Ly} {ds : List Dir} (h : Sit cs c l ds) {n : Nat} (hn : n = 6 + cs.length) : ∀ p ∈ trd cs c l ds, 0 ≤ p.1 ∧ p.1 < n ∧ 0 ≤ p.2 ∧ p.2 < n := by
  intro p hp
  have := trd_ok cs ds c l h.ly h.lt p hp
  omega
theorem Sit.b {cs : List Cell} {c : Cell} {l : Ly} {ds : List Dir} (h : Sit cs c l ds) : inB c = true := h.fl.2.2.1 c h.mem
theorem marks_behind_sp {cs : List Cell} {c : Cell} {l : Ly} {ds : List Dir} (h : Sit cs c l ds) (ms : List Int) (s : S) (hs : isT s (ms.map .int)) (hm : okM (6 + cs.length) ms) : f_marks_behind [.nt (cs.map clD), .pd (stD c l), .pd (.str (rowS ds)), s] = some (.nt ((held ms (trd cs c l ds)).map .int), [.nt (cs.map clD), .pd (stD c l), .pd (.str (rowS ds)), s]) := by
  have h9 := h.fl.2.1
  have e1 := need_floor_sp cs h.fl
  have e2 := need_stand_sp cs c l h.mem h.b h.ly
  have e3 := need_row_sp ds h.ln
  have e4 := need_marks_sp cs ms s hs h9 hm
  have e5 := need_let_sp cs c ds h.lt
  have e6 := held_behind_sp cs c l ds (ms.map .int) s hs h.lt h.ln (h.trd (by rw [List.length_map]; exact hm.1))
  rw [held_map] at e6
  have hz : atI [clD c, lyD l] 0 = some (clD c) := rfl
  have sl : stD c l = .tuple [clD c, lyD l] := rfl
  rw [sl] at e2 e6 ⊢
  rcases hs with rfl | rfl
  · unfold f_marks_behind
    rw [run_of (e := [some (.nt (cs.map clD)), some (.pd (.tuple [clD c, lyD l])), some (.pd (.str (rowS ds))), some (.pd (.tuple (ms.map .int)))]) rfl]
    simp [m_marks_behind, e1, e2, e3, e4, eIx, oIx, hz, e5, e6]
  · unfold f_marks_behind
    rw [run_of (e := [some (.nt (cs.map clD)), some (.pd (.tuple [clD c, lyD l])), some (.pd (.str (rowS ds))), some (.nt (ms.map .int))]) rfl]
    simp [m_marks_behind, e1, e2, e3, e4, eIx, oIx, hz, e5, e6]
theorem ups_map (n : Nat) : (ups n).map PyData.int = (List.range n).map fun k => .int ((k : Nat) : Int) := by simp [ups]
def exI (n : Nat) (ps : List (Int × Int)) : List Int := (List.range n).map fun j => ((mv n ps j : Nat) : Int)
theorem exchange_by_sp (n : Nat) (T : List (Int × Int)) (hn : n ≤ 1000) (hp : ∀ p ∈ T, 0 ≤ p.1 ∧ p.1 < n ∧ 0 ≤ p.2 ∧ p.2 < n) : f_exchange_by [.mu .bor (.ls (T.map clD)), .pd (.tuple ((ups n).map .int))] = some (.nt ((exI n T).map .int), [.mu .bor (.ls (T.map clD)), .pd (.tuple ((ups n).map .int))]) := by
  have e6 := held_traded_sp T ((ups n).map .int) (.pd (.tuple ((ups n).map .int))) (.inl rfl) (by simpa [ups_len] using hp)
  rw [ups_map] at e6 ⊢
  rw [held_map] at e6
  have el : lcL (gN 3) bYes (eBM isNt (eVar 2) (eCons (eVar 3) eNil) kIxT) [3] ((List.range n).map fun k => .int ((k : Nat) : Int)) [some (.mu .bor (.ls (T.map clD))), some (.pd (.tuple ((List.range n).map fun k => .int ((k : Nat) : Int)))), some (.nt ((org n T).map fun k => .int ((k : Nat) : Int))), none] [] = some ((List.range n).map (fun j => .int ((mv n T j : Nat) : Int)), [some (.mu .bor (.ls (T.map clD))), some (.pd (.tuple ((List.range n).map fun k => .int ((k : Nat) : Int)))), some (.nt ((org n T).map fun k => .int ((k : Nat) : Int))), none]) :=
    lcL_all (List.range n) fun j hj => ⟨[some (.mu .bor (.ls (T.map clD))), some (.pd (.tuple ((List.range n).map fun k => .int ((k : Nat) : Int)))), some (.nt ((org n T).map fun k => .int ((k : Nat) : Int))), some (.pd (.int (j : Nat)))], .pd (.int ((mv n T j : Nat) : Int)), [some (.mu .bor (.ls (T.map clD))), some (.pd (.tuple ((List.range n).map fun k => .int ((k : Nat) : Int)))), some (.nt ((org n T).map fun k => .int ((k : Nat) : Int))), some (.pd (.int (j : Nat)))], by simp [wipeE], by
        have hs : SeqAt.shaped (.tuple ((org n T).map fun k => .int ((k : Nat) : Int))) = true := sh_tup _ (fun c => by simp [PyData.canLay0]) (fun c => by simp [PyData.depth]) _
        have hf := firstIx_nat j (org n T) (org_mem.mpr (List.mem_range.mp hj))
        simp [eBM, isNt, kIxT, oIxT, hs, sh_int, hf, mv], rfl, by simp [unwipe]⟩
  have hl : (List.range n).length ≤ 1000000 := by simp; omega
  unfold f_exchange_by
  rw [run_of (e := [some (.mu .bor (.ls (T.map clD))), some (.pd (.tuple ((List.range n).map fun k => .int ((k : Nat) : Int)))), none, none]) rfl]
  have hx : (exI n T).map PyData.int = (List.range n).map (fun j => .int ((mv n T j : Nat) : Int)) := by simp [exI]
  rw [hx]
  rw [show held (List.range n) T = org n T from rfl] at e6
  have hn2 : n ≤ 1000000 := by omega
  simp [m_exchange_by, e6, eLc, iSeq, el, hn2, kTupN]
theorem exchange_sp {cs : List Cell} {c : Cell} {l : Ly} {ds : List Dir} (h : Sit cs c l ds) : f_exchange [.nt (cs.map clD), .pd (stD c l), .pd (.str (rowS ds))] = some (.nt ((exI (6 + cs.length) (trd cs c l ds)).map .int), [.nt (cs.map clD), .pd (stD c l), .pd (.str (rowS ds))]) := by
  have h9 := h.fl.2.1
  have e1 := need_floor_sp cs h.fl
  have e2 := need_stand_sp cs c l h.mem h.b h.ly
  have e3 := need_row_sp ds h.ln
  have e5 := need_let_sp cs c ds h.lt
  have e4 := trades_sp cs c l ds h.lt h.ln
  have e6 := exchange_by_sp (6 + cs.length) (trd cs c l ds) (by omega) (h.trd rfl)
  have es := spots_of_sp cs h9
  have hz : atI [clD c, lyD l] 0 = some (clD c) := rfl
  have sl : stD c l = .tuple [clD c, lyD l] := rfl
  rw [sl] at e2 e4 ⊢
  unfold f_exchange
  rw [run_of (e := [some (.nt (cs.map clD)), some (.pd (.tuple [clD c, lyD l])), some (.pd (.str (rowS ds)))]) rfl]
  simp [m_exchange, e1, e2, e3, e4, eIx, oIx, hz, e5, es, e6]
def nD (xs : List Nat) : List PyData := xs.map fun k => .int ((k : Nat) : Int)
theorem nD_at {xs : List Nat} {i y : Nat} (h : xs[i]? = some y) : atI (nD xs) (i : Int) = some (.int (y : Int)) := by
  apply atI_at (by omega)
  simp [nD, h]
theorem rf_loop {n : Nat} {m : Nat → Nat} (x k : Nat) (hm : ∀ j, j < n → m j < n) (hx : x < n) (hp : PerP n m x k) (hn : n ≤ 1000) : ∀ (j i : Nat), 1 ≤ i → i + j = k → whileN (bT (eNe (eVar 3) (eVar 1))) (sSeq (sExpr (eBM isL (eVar 2) (eCons (eVar 3) eNil) kAppend))
  (sSet 3 (eIx (eVar 0) (eVar 3)))) (j + 1) [some (.nt (nD ((List.range n).map m))), some (.pd (.int (x : Nat))), some (.mu .own (.ls (nD (orb m i x)))), some (.pd (.int (itr m i x : Nat)))] = some (.nx, [some (.nt (nD ((List.range n).map m))), some (.pd (.int (x : Nat))), some (.mu .own (.ls (nD (orb m k x)))), some (.pd (.int (x : Nat)))])
  | 0, i, h1, hk => by
    have e : i = k := by omega
    subst e
    unfold whileN
    simp [eNe, oNe, sh_int, eqv_int, hp.2.2.1]
  | j + 1, i, h1, hk => by
    have ne := hp.2.2.2 i h1 (by omega)
    have ne' : ¬ (itr m i x : Int) = x := by omega
    have lt := itr_lt hm i x hx
    have ih := rf_loop x k hm hx hp hn j (i + 1) (by omega) (by omega)
    have g : atI (nD ((List.range n).map m)) (itr m i x : Nat) = some (.int (m (itr m i x) : Nat)) := nD_at (by simp [lt])
    have hl : (nD (orb m i x)).length ≤ 1000000 := by simp [nD, orb_len]; have := hp.2.1; omega
    unfold whileN
    have c : bT (eNe (eVar 3) (eVar 1)) [some (.nt (nD ((List.range n).map m))), some (.pd (.int (x : Nat))), some (.mu .own (.ls (nD (orb m i x)))), some (.pd (.int (itr m i x : Nat)))] = some (true, [some (.nt (nD ((List.range n).map m))), some (.pd (.int (x : Nat))), some (.mu .own (.ls (nD (orb m i x)))), some (.pd (.int (itr m i x : Nat)))]) := by
      simp [eNe, oNe, sh_int, eqv_int, ne']
    have b : sSeq (sExpr (eBM isL (eVar 2) (eCons (eVar 3) eNil) kAppend)) (sSet 3 (eIx (eVar 0) (eVar 3))) [some (.nt (nD ((List.range n).map m))), some (.pd (.int (x : Nat))), some (.mu .own (.ls (nD (orb m i x)))), some (.pd (.int (itr m i x : Nat)))] = some (.nx, [some (.nt (nD ((List.range n).map m))), some (.pd (.int (x : Nat))), some (.mu .own (.ls (nD (orb m (i + 1) x)))), some (.pd (.int (itr m (i + 1) x : Nat)))]) := by
      have os : nD (orb m (i + 1) x) = nD (orb m i x) ++ [.int (itr m i x : Nat)] := by simp [orb_succ, nD]
      rw [os]
      simp [eBM, isL, kAppend, hl, eIx, oIx, g, itr_succ]
    simp only [c, b]
    exact ih
theorem round_from_sp {n : Nat} {m : Nat → Nat} (hm : ∀ j, j < n → m j < n) (hi : ∀ i j, i < n → j < n → m i = m j → i = j) {x : Nat} (hx : x < n) (hn : n ≤ 1000) : f_round_from [.nt (nD ((List.range n).map m)), .pd (.int (x : Nat))] = some (.nt (nD (orb m (per n m x) x)), [.nt (nD ((List.range n).map m)), .pd (.int (x : Nat))]) := by
  have hp := per_spec hm hi hx
  have g : atI (nD ((List.range n).map m)) (x : Nat) = some (.int (m x : Nat)) := nD_at (by simp [hx])
  have e := sWhile_of (rf_loop x (per n m x) hm hx hp hn (per n m x - 1) 1 (Nat.le_refl _) (by have := hp.1; omega))
  have o1 : nD (orb m 1 x) = [.int (x : Nat)] := rfl
  rw [o1] at e
  unfold f_round_from
  rw [run_of (e := [some (.nt (nD ((List.range n).map m))), some (.pd (.int (x : Nat))), none, none]) rfl]
  have i1 : itr m 1 x = m x := rfl
  rw [i1] at e
  simp [m_round_from, eIx, oIx, g, -z_seq]
  simp only [z_seq]
  simp [eIx, oIx, g]
  simp only [eIx, z_two] at e
  simp [e, kTupN]
theorem iRg1_of {f : EA} {env e : Sl} {n : Nat} (h : f env = some ([.pd (.int (n : Nat))], e)) (hn : n ≤ 1000) : iRg1 f env = some ((ups n).map .int, none, e) := by
  have b : RgI1 (n : Int) := by
    unfold RgI1
    have h1 : (-(2 ^ 62) : Int) ≤ 0 := by decide
    have h2 : (1000 : Int) < 2 ^ 62 := by decide
    omega
  unfold iRg1
  rw [h]
  show (if RgI1 (n : Int) then some (rgD 0 (n : Int).toNat 1, none, e) else none) = _
  rw [if_pos b, Int.toNat_natCast, rgD_ups]
theorem ints_nD : ∀ xs : List Nat, ints? (nD xs) = some (xs.map fun k => ((k : Nat) : Int))
  | [] => rfl
  | x :: xs => by
    show (match ints? (nD xs) with | none => none | some ns => some (((x : Nat) : Int) :: ns)) = _
    rw [ints_nD xs]
    rfl
noncomputable def turnD (n : Nat) (m : Nat → Nat) (x : Nat) : PyData := .tuple (nD (orb m (per n m x) x))
noncomputable def firstB (n : Nat) (m : Nat → Nat) (x : Nat) : Bool := decide (1 < per n m x) && decide ((x : Int) = ((orb m (per n m x) x).tail.map fun k => ((k : Nat) : Int)).foldl min (x : Int))
theorem orb_head {m : Nat → Nat} {k x : Nat} (h : 1 ≤ k) : ∃ os, orb m k x = x :: os := by
  obtain ⟨j, rfl⟩ : ∃ j, k = j + 1 := ⟨k - 1, by omega⟩
  exact ⟨_, by rw [orb, List.range_succ_eq_map, List.map_cons]; rfl⟩
theorem rounds_in_sp {n : Nat} {m : Nat → Nat} (hm : ∀ j, j < n → m j < n) (hi : ∀ i j, i < n → j < n → m i = m j → i = j) (hn : n ≤ 1000) : f_rounds_in [.nt (nD ((List.range n).map m))] = some (.nt (((List.range n).filter (firstB n m)).map (turnD n m)), [.nt (nD ((List.range n).map m))]) := by
  have i1 : iRg1 (eCons (eThen (eCons (eVar 0) eNil) (kE oLen)) eNil) [some (.nt (nD ((List.range n).map m))), none, none, none] = some ((ups n).map .int, none, [some (.nt (nD ((List.range n).map m))), none, none, none]) := iRg1_of (by simp [oLen, nD]) hn
  have l1 : lcL (gN 2) bYes (eCall f_round_from (eCons (eVar 0) (eCons (eVar 2) eNil))) [2] ((List.range n).map fun k => .int ((k : Nat) : Int)) [some (.nt (nD ((List.range n).map m))), none, none, none] [] = some ((List.range n).map (turnD n m), [some (.nt (nD ((List.range n).map m))), none, none, none]) :=
    lcL_all (List.range n) fun x hx => ⟨[some (.nt (nD ((List.range n).map m))), none, some (.pd (.int (x : Nat))), none], .nt (nD (orb m (per n m x) x)), [some (.nt (nD ((List.range n).map m))), none, some (.pd (.int (x : Nat))), none], by simp [wipeE], by simp [round_from_sp hm hi (List.mem_range.mp hx) hn], rfl, by simp [unwipe]⟩
  have l2 : lcL (gN 3) (bAnd (bT (eGt (eThen (eCons (eVar 3) eNil) (kE oLen)) (eC (.int 1)))) (bT (eEq (eIx (eVar 3) (eC (.int 0))) (eThen (eCons (eVar 3) eNil) (kE oMin))))) (eVar 3) [3] ((List.range n).map (turnD n m)) [some (.nt (nD ((List.range n).map m))), some (.mu .fro (.ls ((List.range n).map (turnD n m)))), none, none] [] = some ([] ++ ((List.range n).filter (firstB n m)).map (turnD n m), [some (.nt (nD ((List.range n).map m))), some (.mu .fro (.ls ((List.range n).map (turnD n m)))), none, none]) :=
    lcL_pure (List.range n) [] fun x hx => by
      have hp := per_spec hm hi (List.mem_range.mp hx)
      obtain ⟨os, ho⟩ := orb_head (m := m) (x := x) hp.1
      have hz : atI (nD (x :: os)) 0 = some (.int (x : Nat)) := nD_at (i := 0) rfl
      have hi := ints_nD (x :: os)
      have hl : (nD (x :: os)).length = per n m x := by rw [← ho]; simp [nD, orb_len]
      refine ⟨[some (.nt (nD ((List.range n).map m))), some (.mu .fro (.ls ((List.range n).map (turnD n m)))), none, some (.pd (turnD n m x))], [some (.nt (nD ((List.range n).map m))), some (.mu .fro (.ls ((List.range n).map (turnD n m)))), none, some (.pd (turnD n m x))], by simp [wipeE], ?_, fun _ => ⟨.pd (turnD n m x), [some (.nt (nD ((List.range n).map m))), some (.mu .fro (.ls ((List.range n).map (turnD n m)))), none, some (.pd (turnD n m x))], by simp, rfl, by simp [unwipe]⟩, fun _ => by simp [unwipe]⟩
      unfold turnD firstB
      rw [ho]
      by_cases h1 : 1 < per n m x
      · have h1' : (1 : Int) < per n m x := by omega
        simp [eGt, kGt, oLen, oI, hl, h1, h1', eEq, eIx, oIx, hz, oMin, hi, oEq, sh_int, eqv_int]
        first | done | exact decide_eq_decide.mpr Iff.rfl
      · have h1' : ¬ (1 : Int) < per n m x := by omega
        simp [eGt, kGt, oLen, oI, hl, h1, h1', eEq, eIx, oIx, hz, oMin, hi, oEq, sh_int, eqv_int]
  unfold f_rounds_in
  rw [run_of (e := [some (.nt (nD ((List.range n).map m))), none, none, none]) rfl]
  rw [ups_map] at i1
  have hn2 : n ≤ 1000000 := by omega
  simp [m_rounds_in, eLc, i1, l1, hn2, iSeq, l2, unlock, kTupN]
theorem cmul_r (i j : Int) (h : 0 ≤ j ∧ j < 2147483648) : CMul i j := .inr (by
  have h1 : (2147483648 : Int) < 2 ^ 64 := by decide
  have h2 : (-2 ^ 64 : Int) < 0 := by decide
  omega)
theorem cmul_l (i j : Int) (h : 0 ≤ i ∧ i < 2147483648) : CMul i j := .inl (by
  have h1 : (2147483648 : Int) < 2 ^ 64 := by decide
  have h2 : (-2 ^ 64 : Int) < 0 := by decide
  omega)
def dirAt (r : Int) : Dir := if r = 0 then .e else if r = 1 then .n else if r = 2 then .s else .w
theorem ensw_eq : ("ensw" : Str) = ⟨#[101, 110, 115, 119]⟩ := by decide
theorem ensw_ix (r : Int) (h0 : 0 ≤ r) (h1 : r < 4) : oIx [.str "ensw", .int r] = some (.str (chS (dirAt r))) := by
  have : r = 0 ∨ r = 1 ∨ r = 2 ∨ r = 3 := by omega
  rw [ensw_eq]
  rcases this with rfl | rfl | rfl | rfl <;> rfl
def good (cs : List Cell) : Prop := 0 < cs.length ∧ cs.Nodup ∧ ∀ c ∈ cs, inB c = true
theorem inB_b {c : Cell} (h : inB c = true) : 0 ≤ c.1 ∧ c.1 ≤ 3 ∧ 0 ≤ c.2 ∧ c.2 ≤ 3 := by
  unfold inB at h
  simp at h
  omega
theorem pairs_of : ∀ cs : List Cell, (∀ c ∈ cs, inB c = true) → pairs? (cs.map clD) = some cs
  | [], _ => rfl
  | c :: cs, h => by
    have b := inB_b (h c (by simp))
    have e : pair? (clD c) = some c := by
      show (if 0 ≤ c.1 ∧ c.1 < 64 ∧ 0 ≤ c.2 ∧ c.2 < 64 then some (c.1, c.2) else none) = _
      rw [if_pos (by omega)]
    rw [List.map_cons, pairs?, e, pairs_of cs (fun d hd => h d (by simp [hd]))]
theorem ltC_of {c d : Cell} (hc : inB c = true) (hd : inB d = true) (h : prLe c d = true) (hne : c ≠ d) : ltC c d = true := by
  have b1 := inB_b hc
  have b2 := inB_b hd
  unfold prLe at h
  have h' : c.1 * 64 + c.2 ≤ d.1 * 64 + d.2 := by simpa using h
  have hne' : ¬ (c.1 = d.1 ∧ c.2 = d.2) := fun ⟨x, y⟩ => hne (Prod.ext x y)
  unfold ltC
  simp only [HT.lexLt]
  by_cases e : c.1 = d.1
  · simp [e]; omega
  · simp [e]; omega
theorem chain_of : ∀ cs : List Cell, (∀ c ∈ cs, inB c = true) → cs.Pairwise (fun a b => prLe a b = true) → cs.Nodup → chain cs = true
  | [], _, _, _ => rfl
  | [c], _, _, _ => rfl
  | c :: d :: r, h, hp, hn => by
    have ih := chain_of (d :: r) (fun x hx => h x (by simp [hx])) (List.pairwise_cons.mp hp).2 (List.nodup_cons.mp hn).2
    have l := ltC_of (h c (by simp)) (h d (by simp)) ((List.pairwise_cons.mp hp).1 d (by simp)) (fun e => (List.nodup_cons.mp hn).1 (by simp [e]))
    simp [chain, ih, l]
def all4 : List Dir := [.e, .n, .s, .w]
theorem ensw_row : ("ensw" : Str) = rowS all4 := by decide
def chD (d : Dir) : PyData := .str (chS d)
def ops (cs : List Cell) (c : Cell) : List Dir := all4.filter fun d => decide (stepC c d ∈ cs)
theorem sh_chs (l : List Dir) : SeqAt.shaped (.list (l.map chD)) = true := sh_lst chD (fun d => by have := SeqAt.canLay_of_shaped (sh_ch d); exact this) (fun d => by simp [chD, PyData.depth]) l
theorem eqv_nil (xs : List PyData) : PyData.eqv (.list xs) (.list []) = decide (xs = []) := by
  cases xs <;> simp [PyData.eqv, PyData.eqvAll]
theorem rowS_app (ds : List Dir) (d : Dir) : rowS ds ++ chS d = rowS (ds ++ [d]) := by
  show Str.mk (_ ++ _) = _
  simp [rowS, chS]
theorem row_len (ds : List Dir) : (rowS ds).length = ds.length := by
  show (rowS ds).cps.size = _
  simp [rowS]
theorem row_last (ds : List Dir) (d : Dir) (h : ds.length < 1000) : oIx [.str (rowS (ds ++ [d])), .int (-1)] = some (chD d) := by
  have e : atI (rowS (ds ++ [d])).cps.toList (-1) = some d.code := by
    unfold atI ixN
    have hl : (rowS (ds ++ [d])).cps.toList.length = ds.length + 1 := by simp [rowS]
    rw [hl]
    have h1 : ¬ (0 : Int) ≤ -1 := by decide
    have h2 : -((ds.length + 1 : Nat) : Int) ≤ -1 := by omega
    rw [if_neg h1, if_pos h2]
    have h3 : (-1 + ((ds.length + 1 : Nat) : Int)).toNat = ds.length := by omega
    rw [h3]
    simp [rowS]
  have hl : (rowS (ds ++ [d])).length ≤ 1000000 := by rw [row_len]; simp; omega
  simp only [oIx, hl, if_true, e]
  rfl
theorem letR_app {cs : List Cell} : ∀ (ds : List Dir) (c : Cell) (d : Dir), letR cs c ds → stepC (endC c ds) d ∈ cs → letR cs c (ds ++ [d])
  | [], c, d, _, h => ⟨h, trivial⟩
  | x :: ds, c, d, h1, h => ⟨h1.1, letR_app ds (stepC c x) d h1.2 h⟩
theorem endC_app (c : Cell) (ds : List Dir) (d : Dir) : endC c (ds ++ [d]) = stepC (endC c ds) d := by simp [endC]
def Fr6 (s : Option S) : Prop := s = none ∨ ∃ xs, s = some (.mu .own (.ls xs))
theorem int_at {xs : List Int} {i : Nat} (h : i < xs.length) : atI (xs.map PyData.int) (i : Int) = some (.int (xs.getD i 0)) := by
  apply atI_at (by omega)
  simp [h]
def fre : Option S → Bool
  | none => true
  | some (.pd _) => true
  | some (.nt _) => true
  | some (.mu .own _) => true
  | _ => false
theorem cell_at_sp (ns : List Int) (k : Nat) : ∃ i, f__law_cell_at [.pd (.list (ns.map .int)), .pd (.int (k : Nat))] = some (.pd (.int i), [.pd (.list (ns.map .int)), .pd (.int (k : Nat))]) := by
  by_cases h : k < ns.length
  · refine ⟨ns.getD k 0, ?_⟩
    have g := int_at h
    have h' : (k : Int) < ns.length := by omega
    unfold f__law_cell_at
    rw [run_of (e := [some (.pd (.list (ns.map .int))), some (.pd (.int (k : Nat)))]) rfl]
    simp only [m__law_cell_at]
    simp [kLt, kLt0, oI, oLen, h', oIx, g, h, -List.getD_eq_getElem?_getD]
  · refine ⟨0, ?_⟩
    have h' : ¬ (k : Int) < ns.length := by omega
    unfold f__law_cell_at
    rw [run_of (e := [some (.pd (.list (ns.map .int))), some (.pd (.int (k : Nat)))]) rfl]
    simp only [m__law_cell_at]
    simp [kLt, kLt0, oI, oLen, h', h]
theorem need_cell_sp (cs : List Cell) (c : Cell) (hc : c ∈ cs) (hb : inB c = true) : f_need_cell [.nt (cs.map clD), .pd (clD c)] = some (.pd .none, [.nt (cs.map clD), .pd (clD c)]) := by
  unfold f_need_cell
  rw [run_of (e := [some (.nt (cs.map clD)), some (.pd (clD c))]) rfl]
  simp [m_need_cell, is_cell_of_sp cs c hc hb]
theorem need_lying_sp (l : Ly) (hl : l ∈ lyings) : f_need_lying [.pd (lyD l)] = some (.pd .none, [.pd (lyD l)]) := by
  unfold f_need_lying
  rw [run_of (e := [some (.pd (lyD l))]) rfl]
  simp [m_need_lying, is_lying_sp l hl]
theorem need_letter_sp (d : Dir) : f_need_letter [.pd (.str (chS d))] = some (.pd .none, [.pd (.str (chS d))]) := by
  unfold f_need_letter
  rw [run_of (e := [some (.pd (.str (chS d)))]) rfl]
  simp [m_need_letter, is_letter_sp]
def off (cs : List Cell) : Cell → List Dir → Option Nat
  | _, [] => none
  | c, d :: ds => if stepC c d ∈ cs then (off cs (stepC c d) ds).map (· + 1) else some 0
theorem off_cons (cs : List Cell) (c : Cell) (d : Dir) (ds : List Dir) : off cs c (d :: ds) = if stepC c d ∈ cs then (off cs (stepC c d) ds).map (· + 1) else some 0 := rfl
theorem off_let {cs : List Cell} : ∀ {ds : List Dir} {c : Cell}, off cs c ds = none ↔ letR cs c ds
  | [], c => by simp [off, letR]
  | d :: ds, c => by
    unfold off letR
    split
    · rename_i h
      have := off_let (cs := cs) (ds := ds) (c := stepC c d)
      simp [h, this]
    · rename_i h
      simp [h]
theorem place_off_loop2 (cs : List Cell) (a1 a2 : S) : ∀ (ds : List Dir) (k : Nat) (c : Cell) (s4 s5 : Option S), Fr s4 → Fr s5 →
    ∃ e', forL (gT 2 (gCn (gN 4) (gCn (gN 5) gNl))) (sSeq (sSet 3 (eCall f_rolled_cell (eCons (eVar 3) (eCons (eVar 5) eNil)))) (sIf (bT (eNin (eVar 3) (eVar 0))) (sRet (eVar 4)) sPass)) ((ds.zipIdx k).map fun p => .tuple [.int (p.2 : Nat), .str (chS p.1)]) [some (.nt (cs.map clD)), some a1, some a2, some (.pd (clD c)), s4, s5] = some (match off cs c ds with
      | none => .nx
      | some i => .rt (.pd (.int ((k + i : Nat) : Int))), some (.nt (cs.map clD)) :: some a1 :: some a2 :: e')
  | [], k, c, s4, s5, _, _ => ⟨_, rfl⟩
  | d :: ds, k, c, s4, s5, h4, h5 => by
    have st : gT 2 (gCn (gN 4) (gCn (gN 5) gNl)) (.tuple [.int (k : Nat), .str (chS d)]) [some (.nt (cs.map clD)), some a1, some a2, some (.pd (clD c)), s4, s5] = some [some (.nt (cs.map clD)), some a1, some a2, some (.pd (clD c)), some (.pd (.int (k : Nat))), some (.pd (.str (chS d)))] := by
      rcases h4 with rfl | ⟨x4, rfl⟩ <;> rcases h5 with rfl | ⟨x5, rfl⟩ <;> simp
    rw [List.zipIdx_cons, List.map_cons]
    by_cases h : stepC c d ∈ cs
    · obtain ⟨e', ih⟩ := place_off_loop2 cs a1 a2 ds (k + 1) (stepC c d) (some (.pd (.int (k : Nat)))) (some (.pd (.str (chS d)))) (.inr ⟨_, rfl⟩) (.inr ⟨_, rfl⟩)
      refine ⟨e', ?_⟩
      rw [forL_cons (e2 := [some (.nt (cs.map clD)), some a1, some a2, some (.pd (clD (stepC c d))), some (.pd (.int (k : Nat))), some (.pd (.str (chS d)))]) st ?_, ih]
      · rw [off_cons, if_pos h]
        cases off cs (stepC c d) ds with
        | none => rfl
        | some i =>
          simp only [Option.map_some]
          rw [show k + 1 + i = k + (i + 1) by omega]
      · simp [rolled_cell_sp, oIn, sh_cell, sh_cells, any_cell, h, -List.any_map, -List.any_eq_true]
    · refine ⟨[some (.pd (clD (stepC c d))), some (.pd (.int (k : Nat))), some (.pd (.str (chS d)))], ?_⟩
      unfold forL
      simp only [] at st ⊢
      rw [st]
      rw [off_cons, if_neg h]
      simp [rolled_cell_sp, oIn, sh_cell, sh_cells, any_cell, h, -List.any_map, -List.any_eq_true]
def offD : Option Nat → PyData
  | none => .none
  | some i => .int (i : Nat)
theorem place_off_sp2 (cs : List Cell) (c : Cell) (ds : List Dir) : f_place_off [.nt (cs.map clD), .pd (clD c), .pd (.str (rowS ds))] = some (.pd (offD (off cs c ds)), [.nt (cs.map clD), .pd (clD c), .pd (.str (rowS ds))]) := by
  unfold f_place_off
  rw [run_of (e := [some (.nt (cs.map clD)), some (.pd (clD c)), some (.pd (.str (rowS ds))), none, none, none]) rfl]
  obtain ⟨e', e⟩ := place_off_loop2 cs (.pd (clD c)) (.pd (.str (rowS ds))) ds 0 c none none (.inl rfl) (.inl rfl)
  cases h : off cs c ds with
  | none =>
    rw [h] at e
    simp [m_place_off, iEn, enum_row, e, offD]
  | some i =>
    rw [h] at e
    simp [m_place_off, iEn, enum_row, e, offD]
theorem stand_loop (a0 a1 a2 a3 : S) : ∀ (ds : List Dir) (c : Cell) (l : Ly) (s5 : Option S), Fr s5 → ∃ s5', forL (gN 5) (sSet 4 (eCall f_rolled_stand (eCons (eVar 4) (eCons (eVar 5) eNil)))) (ds.map fun d => .str (chS d)) [some a0, some a1, some a2, some a3, some (.pd (stD c l)), s5] = some (.nx, [some a0, some a1, some a2, some a3, some (.pd (stD (endC c ds) (endL l ds))), s5'])
  | [], c, l, s5, _ => ⟨s5, rfl⟩
  | d :: ds, c, l, s5, h5 => by
    obtain ⟨s5', ih⟩ := stand_loop a0 a1 a2 a3 ds (stepC c d) (roll l d) (some (.pd (.str (chS d)))) (.inr ⟨_, rfl⟩)
    refine ⟨s5', ?_⟩
    rw [List.map_cons, forL_cons (e1 := [some a0, some a1, some a2, some a3, some (.pd (stD c l)), some (.pd (.str (chS d)))]) (e2 := [some a0, some a1, some a2, some a3, some (.pd (stD (stepC c d) (roll l d))), some (.pd (.str (chS d)))]) ?_ ?_, ih]
    · rfl
    · rcases h5 with rfl | ⟨x5, rfl⟩ <;> simp
    · simp [rolled_stand_sp]
theorem stand_behind_sp {cs : List Cell} {c : Cell} {l : Ly} {ds : List Dir} (h : Sit cs c l ds) : f_stand_behind [.nt (cs.map clD), .pd (clD c), .pd (lyD l), .pd (.str (rowS ds))] = some (.pd (stD (endC c ds) (endL l ds)), [.nt (cs.map clD), .pd (clD c), .pd (lyD l), .pd (.str (rowS ds))]) := by
  unfold f_stand_behind
  rw [run_of (e := [some (.nt (cs.map clD)), some (.pd (clD c)), some (.pd (lyD l)), some (.pd (.str (rowS ds))), none, none]) rfl]
  obtain ⟨s5', e⟩ := stand_loop (.nt (cs.map clD)) (.pd (clD c)) (.pd (lyD l)) (.pd (.str (rowS ds))) ds c l none (.inl rfl)
  have sl : PyData.tuple [clD c, lyD l] = stD c l := rfl
  simp [m_stand_behind, need_floor_sp cs h.fl, need_cell_sp cs c h.mem h.b, need_lying_sp l h.ly, need_row_sp ds h.ln, need_let_sp cs c ds h.lt, sl, signs_row, e]
def opp : Dir → Dir
  | .e => .w
  | .n => .s
  | .s => .n
  | .w => .e
def bk (ds : List Dir) : List Dir := ds.reverse.map opp
theorem step_opp (c : Cell) (d : Dir) : stepC (stepC c d) (opp d) = c := by
  cases d <;> simp [stepC, opp] <;> (apply Prod.ext <;> simp <;> omega)
theorem roll_opp (l : Ly) (d : Dir) : roll (roll l d) (opp d) = l := by
  obtain ⟨a, b, c⟩ := l
  cases d <;> simp [roll, opp] <;> omega
theorem endC_snoc (c : Cell) (ds es : List Dir) : endC c (ds ++ es) = endC (endC c ds) es := by simp [endC]
theorem endL_snoc (c : Ly) (ds es : List Dir) : endL c (ds ++ es) = endL (endL c ds) es := by simp [endL]
theorem bk_cons (d : Dir) (ds : List Dir) : bk (d :: ds) = bk ds ++ [opp d] := by simp [bk]
theorem bk_end (c : Cell) (l : Ly) : ∀ ds : List Dir, endC (endC c ds) (bk ds) = c ∧ endL (endL l ds) (bk ds) = l := by
  intro ds
  induction ds generalizing c l with
  | nil => exact ⟨rfl, rfl⟩
  | cons d ds ih =>
    obtain ⟨h1, h2⟩ := ih (stepC c d) (roll l d)
    rw [bk_cons, endC_snoc, endL_snoc]
    refine ⟨?_, ?_⟩
    · show stepC (endC (endC (stepC c d) ds) (bk ds)) (opp d) = c
      rw [h1, step_opp]
    · show roll (endL (endL (roll l d) ds) (bk ds)) (opp d) = l
      rw [h2, roll_opp]
theorem letR_snoc {cs : List Cell} : ∀ (ds es : List Dir) (c : Cell), letR cs c ds → letR cs (endC c ds) es → letR cs c (ds ++ es)
  | [], es, c, _, h => h
  | d :: ds, es, c, h1, h => ⟨h1.1, letR_snoc ds es _ h1.2 h⟩
theorem pmv (n : Nat) (T : List (Int × Int)) : Pm n (mv n T) := ⟨fun j hj => mv_lt hj, fun i j hi hj e => mv_inj hi hj e⟩
theorem fmin_eq (x : Nat) : ∀ ys : List Nat, ((x : Int) = (ys.map fun k => ((k : Nat) : Int)).foldl min (x : Int)) ↔ ∀ y ∈ ys, x ≤ y := by
  have le : ∀ (zs : List Int) (a : Int), zs.foldl min a ≤ a := by
    intro zs
    induction zs with
    | nil => intro a; simp
    | cons z zs ih => intro a; rw [List.foldl_cons]; have := ih (min a z); omega
  intro ys
  induction ys with
  | nil => simp
  | cons y ys ih =>
    rw [List.map_cons, List.foldl_cons]
    by_cases h : x ≤ y
    · have e : min (x : Int) (y : Int) = x := by omega
      rw [e, ih]
      constructor
      · intro z w hw
        rcases List.mem_cons.mp hw with rfl | hw
        · exact h
        · exact z w hw
      · intro z w hw
        exact z w (by simp [hw])
    · constructor
      · intro z
        have e : min (x : Int) (y : Int) = y := by omega
        rw [e] at z
        have := le (ys.map fun k => ((k : Nat) : Int)) y
        omega
      · intro z
        exact absurd (z y (by simp)) h
open Classical in
theorem fsts_eq {n : Nat} {m : Nat → Nat} (h : Pm n m) : (List.range n).filter (firstB n m) = fsts n m := by
  unfold fsts
  refine List.filter_congr fun x hx => ?_
  have hx := List.mem_range.mp hx
  obtain ⟨os, e⟩ := orb_hd (m := m) (x := x) (h.prd hx).1
  unfold firstB
  rw [e, List.tail_cons]
  have : Fst n m x ↔ 1 < per n m x ∧ ((x : Int) = (os.map fun k => ((k : Nat) : Int)).foldl min (x : Int)) := by
    rw [fmin_eq]
    unfold Fst
    rw [e]
    constructor
    · rintro ⟨_, a, b⟩
      exact ⟨a, fun y hy => b y (by simp [hy])⟩
    · rintro ⟨a, b⟩
      refine ⟨hx, a, fun y hy => ?_⟩
      rcases List.mem_cons.mp hy with rfl | hy
      · exact Nat.le_refl _
      · exact b y hy
  by_cases c1 : 1 < per n m x
  · by_cases c2 : ((x : Int) = (os.map fun k => ((k : Nat) : Int)).foldl min (x : Int))
    · have := this.mpr ⟨c1, c2⟩
      simp only [c1, decide_true, Bool.true_and, this]
      exact decide_eq_true c2
    · have : ¬ Fst n m x := fun z => c2 (this.mp z).2
      simp only [c1, decide_true, Bool.true_and, this]
      exact decide_eq_false c2
  · have : ¬ Fst n m x := fun z => c1 (this.mp z).1
    simp only [c1, decide_false, Bool.false_and, this]
abbrev exD (n : Nat) (m : Nat → Nat) : List PyData := nD ((List.range n).map m)
theorem ex_at {n : Nat} {m : Nat → Nat} {i : Nat} (h : i < n) : atI (exD n m) (i : Int) = some (.int ((m i : Nat) : Int)) := nD_at (by simp [List.getElem?_range h])
theorem trd_app (cs : List Cell) : ∀ (ds es : List Dir) (c : Cell) (l : Ly), trd cs c l (ds ++ es) = trd cs c l ds ++ trd cs (endC c ds) (endL l ds) es
  | [], es, c, l => rfl
  | d :: ds, es, c, l => by
    show _ :: trd cs (stepC c d) (roll l d) (ds ++ es) = _ :: (trd cs (stepC c d) (roll l d) ds ++ trd cs (endC (stepC c d) ds) (endL (roll l d) ds) es)
    rw [trd_app cs ds es]
theorem endC_mem {cs : List Cell} : ∀ (ds : List Dir) (c : Cell), c ∈ cs → letR cs c ds → endC c ds ∈ cs
  | [], c, h, _ => h
  | d :: ds, c, h, hl => endC_mem ds (stepC c d) hl.1 hl.2
theorem endL_mem : ∀ (ds : List Dir) (l : Ly), l ∈ lyings → endL l ds ∈ lyings
  | [], l, h => h
  | d :: ds, l, h => endL_mem ds (roll l d) (roll_mem l h d)
theorem exI_exD (n : Nat) (T : List (Int × Int)) : (exI n T).map PyData.int = exD n (mv n T) := by simp [exI, exD, nD]
theorem sh_st (c : Cell) (l : Ly) : SeqAt.shaped (stD c l) = true := by simp [stD, clD, lyD, SeqAt.shaped, PyData.canLay0, PyData.canLayAll0, PyData.depth, PyData.depthAll]
def rep : Nat → List Dir → List Dir
  | 0, _ => []
  | k + 1, ds => rep k ds ++ ds
theorem rep_len (ds : List Dir) : ∀ k, (rep k ds).length = k * ds.length
  | 0 => by simp [rep]
  | k + 1 => by simp [rep, rep_len ds k, Nat.succ_mul]
theorem rep_add (ds : List Dir) (a : Nat) : ∀ b, rep (a + b) ds = rep a ds ++ rep b ds
  | 0 => by simp [rep]
  | b + 1 => by
    show rep (a + b) ds ++ ds = rep a ds ++ (rep b ds ++ ds)
    rw [rep_add ds a b, List.append_assoc]
theorem rep1 (ds : List Dir) : rep 1 ds = ds := by simp [rep]
theorem rep_home {c : Cell} {ds : List Dir} (h : endC c ds = c) : ∀ k, endC c (rep k ds) = c
  | 0 => rfl
  | k + 1 => by
    show endC c (rep k ds ++ ds) = c
    rw [endC_snoc, rep_home h k, h]
theorem rep_let {cs : List Cell} {c : Cell} {ds : List Dir} (h : endC c ds = c) (hl : letR cs c ds) : ∀ k, letR cs c (rep k ds)
  | 0 => trivial
  | k + 1 => letR_snoc _ _ _ (rep_let h hl k) (by rw [rep_home h k]; exact hl)
theorem endL_inj (ds : List Dir) {l l' : Ly} (h : endL l ds = endL l' ds) : l = l' := by
  have h1 := (bk_end (0, 0) l ds).2
  have h2 := (bk_end (0, 0) l' ds).2
  rw [← h1, ← h2, h]
def lyI (l : Ly) : Nat := lyings.idxOf l
def lyA (i : Nat) : Ly := lyings.getD i (0, 1, 2)
theorem lyA_I {l : Ly} (h : l ∈ lyings) : lyA (lyI l) = l := by
  unfold lyA lyI
  rw [List.getD_eq_getElem?_getD, List.getElem?_eq_getElem (List.idxOf_lt_length_iff.mpr h), List.getElem_idxOf]
  rfl
theorem lyI_lt {l : Ly} (h : l ∈ lyings) : lyI l < 24 := List.idxOf_lt_length_iff.mpr h
theorem lyA_mem {i : Nat} (h : i < 24) : lyA i ∈ lyings := by
  unfold lyA
  rw [List.getD_eq_getElem?_getD, List.getElem?_eq_getElem (show i < lyings.length from h)]
  exact List.getElem_mem _
theorem lyI_A : ∀ i, i < 24 → lyI (lyA i) = i := by decide +kernel
def trn (ds : List Dir) (i : Nat) : Nat := lyI (endL (lyA i) ds)
theorem trn_pm (ds : List Dir) : Pm 24 (trn ds) := ⟨fun i hi => lyI_lt (endL_mem ds _ (lyA_mem hi)), fun i j hi hj e => by
  have := congrArg lyA e
  unfold trn at this
  rw [lyA_I (endL_mem ds _ (lyA_mem hi)), lyA_I (endL_mem ds _ (lyA_mem hj))] at this
  have := congrArg lyI (endL_inj ds this)
  rw [lyI_A i hi, lyI_A j hj] at this
  exact this⟩
theorem trn_itr (ds : List Dir) {l : Ly} (h : l ∈ lyings) : ∀ k, itr (trn ds) k (lyI l) = lyI (endL l (rep k ds))
  | 0 => rfl
  | k + 1 => by
    rw [itr_succ, trn_itr ds h k]
    unfold trn
    rw [lyA_I (endL_mem _ _ h)]
    show _ = lyI (endL l (rep k ds ++ ds))
    rw [endL_snoc]
noncomputable def trns (l : Ly) (ds : List Dir) : Nat := per 24 (trn ds) (lyI l)
theorem trns_iff {l : Ly} (h : l ∈ lyings) (ds : List Dir) (k : Nat) : endL l (rep k ds) = l ↔ trns l ds ∣ k := by
  have p := (trn_pm ds).prd (lyI_lt h)
  unfold trns
  rw [← per_dvd p k, trn_itr ds h]
  constructor
  · intro e; rw [e]
  · intro e
    have := congrArg lyA e
    rw [lyA_I (endL_mem _ _ h), lyA_I h] at this
    exact this
theorem trns_b {l : Ly} (h : l ∈ lyings) (ds : List Dir) : 1 ≤ trns l ds ∧ trns l ds ≤ 24 := by
  have p := (trn_pm ds).prd (lyI_lt h)
  exact ⟨p.1, p.2.1⟩
def exM (cs : List Cell) (c : Cell) (l : Ly) (ds : List Dir) : Nat → Nat := mv (6 + cs.length) (trd cs c l ds)
theorem exM_app {cs : List Cell} {c : Cell} {l : Ly} (ds es : List Dir) {j : Nat} (h : j < 6 + cs.length) : exM cs c l (ds ++ es) j = exM cs (endC c ds) (endL l ds) es (exM cs c l ds j) := by
  unfold exM
  rw [trd_app, mv_app h]
theorem exM_pm (cs : List Cell) (c : Cell) (l : Ly) (ds : List Dir) : Pm (6 + cs.length) (exM cs c l ds) := pmv _ _
theorem exM_mul {cs : List Cell} {c : Cell} {l : Ly} {ds : List Dir} (hc : endC c ds = c) {r : Nat} (hr : endL l (rep r ds) = l) {j : Nat} (h : j < 6 + cs.length) : ∀ q, endL l (rep (r * q) ds) = l ∧ exM cs c l (rep (r * q) ds) j = itr (exM cs c l (rep r ds)) q j
  | 0 => ⟨rfl, by
    show exM cs c l [] j = j
    unfold exM
    exact mv_org (by unfold org held trd; simp [List.getElem?_range h])⟩
  | q + 1 => by
    obtain ⟨h1, h2⟩ := exM_mul hc hr h q
    rw [Nat.mul_succ, rep_add]
    refine ⟨by rw [endL_snoc, h1, hr], ?_⟩
    rw [exM_app _ _ h, rep_home hc, h1, h2, itr_succ]
theorem exD_congr {n : Nat} {f g : Nat → Nat} (h : ∀ j, j < n → f j = g j) : exD n f = exD n g := by
  unfold exD
  congr 1
  exact List.map_congr_left fun j hj => h j (List.mem_range.mp hj)
theorem eqv_st2 (c : Cell) (l l' : Ly) : PyData.eqv (stD c l) (stD c l') = decide (l = l') := by
  have h1 := eqv_cell c c
  have h2 := eqv_ly l l'
  simp only [decide_true] at h1
  simp [stD, PyData.eqv, PyData.eqvAll, h1, h2]
theorem letR_mid {cs : List Cell} : ∀ (ds es : List Dir) (c : Cell), letR cs c (ds ++ es) → letR cs c ds ∧ letR cs (endC c ds) es
  | [], es, c, h => ⟨trivial, h⟩
  | d :: ds, es, c, h => by
    obtain ⟨h1, h2⟩ := letR_mid ds es (stepC c d) h.2
    exact ⟨⟨h.1, h1⟩, h2⟩
theorem endC_tr (u : Cell) : ∀ (ds : List Dir) (c : Cell), endC (c.1 + u.1, c.2 + u.2) ds = ((endC c ds).1 + u.1, (endC c ds).2 + u.2)
  | [], c => rfl
  | d :: ds, c => by
    have : stepC (c.1 + u.1, c.2 + u.2) d = ((stepC c d).1 + u.1, (stepC c d).2 + u.2) := by
      cases d <;> simp [stepC] <;> omega
    show endC (stepC (c.1 + u.1, c.2 + u.2) d) ds = _
    rw [this, endC_tr u ds (stepC c d)]
    rfl
theorem endC_rep (c : Cell) (ds : List Dir) : ∀ k : Nat, endC c (rep k ds) = (c.1 + k * ((endC c ds).1 - c.1), c.2 + k * ((endC c ds).2 - c.2))
  | 0 => by simp [rep, endC]
  | k + 1 => by
    show endC c (rep k ds ++ ds) = _
    rw [endC_snoc, endC_rep c ds k, endC_tr (k * ((endC c ds).1 - c.1), k * ((endC c ds).2 - c.2)) ds c]
    have e1 : ((k + 1 : Nat) : Int) * ((endC c ds).1 - c.1) = k * ((endC c ds).1 - c.1) + ((endC c ds).1 - c.1) := by rw [Int.natCast_add, Int.add_mul]; simp
    have e2 : ((k + 1 : Nat) : Int) * ((endC c ds).2 - c.2) = k * ((endC c ds).2 - c.2) + ((endC c ds).2 - c.2) := by rw [Int.natCast_add, Int.add_mul]; simp
    refine Prod.ext ?_ ?_ <;> simp only [e1, e2] <;> omega
theorem few_plays {cs : List Cell} {c : Cell} {ds : List Dir} (hb : ∀ c ∈ cs, inB c = true) (hc : c ∈ cs) (he : endC c ds ≠ c) {k : Nat} (hl : letR cs c (rep k ds)) : k ≤ 3 := by
  have h1 := hb _ (endC_mem _ _ hc hl)
  have h2 := hb _ hc
  rw [endC_rep] at h1
  simp [inB] at h1 h2
  obtain ⟨v, hv⟩ : ∃ v, v = (endC c ds).1 - c.1 := ⟨_, rfl⟩
  obtain ⟨w, hw⟩ : ∃ w, w = (endC c ds).2 - c.2 := ⟨_, rfl⟩
  rw [← hv, ← hw] at h1
  have ne : v ≠ 0 ∨ w ≠ 0 := by
    by_cases z : v = 0
    · refine .inr fun z2 => he (Prod.ext (by omega) (by omega))
    · exact .inl z
  have big : ∀ x : Int, x ≠ 0 → (k : Int) * x ≤ 3 → -3 ≤ (k : Int) * x → k ≤ 3 := fun x hx h3 h4 => by
    rcases Int.lt_or_lt_of_ne hx with z | z
    · have := Int.mul_le_mul_of_nonneg_left (show x ≤ -1 by omega) (show (0 : Int) ≤ k by omega)
      omega
    · have := Int.mul_le_mul_of_nonneg_left (show 1 ≤ x by omega) (show (0 : Int) ≤ k by omega)
      omega
  rcases ne with z | z
  · exact big v z (by omega) (by omega)
  · exact big w z (by omega) (by omega)
theorem rep_nil : ∀ k, rep k [] = []
  | 0 => rfl
  | k + 1 => by show rep k [] ++ [] = []; rw [rep_nil k]; rfl
theorem rep_fold (ds : List Dir) : ∀ (k : Nat) (acc : Array Nat), (List.replicate k (rowS ds).cps).foldl (· ++ ·) acc = acc ++ ((rep k ds).map Dir.code).toArray
  | 0, acc => by simp [rep]
  | k + 1, acc => by
    rw [List.replicate_succ, List.foldl_cons, rep_fold ds k, Nat.add_comm k 1, rep_add, rep1]
    simp [rowS]
theorem mul_row (ds : List Dir) (k : Nat) : Txt.mul (rowS ds) (k : Nat) = rowS (rep k ds) := by
  unfold Txt.mul
  split
  · have : k = 0 := by omega
    subst this
    rfl
  · split
    · rename_i h1 h2
      rw [Bool.or_eq_true, beq_iff_eq, beq_iff_eq, row_len] at h2
      rcases h2 with h2 | h2
      · have : k = 1 := by omega
        subst this
        rw [rep1]
      · have : ds = [] := List.length_eq_zero_iff.mp h2
        subst this
        rw [rep_nil]
    · rw [show ((k : Int)).toNat = k by omega, rep_fold]
      simp [rowS]
def sw1 (a b j : Nat) : Nat := if j = a then b else if j = b then a else j
theorem mv_one {n : Nat} {p : Int × Int} (h1 : 0 ≤ p.1 ∧ p.1 < n) (h2 : 0 ≤ p.2 ∧ p.2 < n) {j : Nat} (hj : j < n) : mv n [p] j = sw1 p.1.toNat p.2.toNat j := by
  obtain ⟨a, ha⟩ : ∃ a : Nat, p.1 = a := ⟨p.1.toNat, by omega⟩
  obtain ⟨b, hb⟩ : ∃ b : Nat, p.2 = b := ⟨p.2.toNat, by omega⟩
  have ga : (List.range n)[a]? = some a := List.getElem?_range (by omega)
  have gb : (List.range n)[b]? = some b := List.getElem?_range (by omega)
  have e : org n [p] = ((List.range n).set a b).set b a := by
    show swp (List.range n) p = _
    unfold swp
    rw [ha, hb]
    simp only [Int.toNat_natCast, ga, gb]
  refine mv_org ?_
  rw [e, ha, hb, Int.toNat_natCast, Int.toNat_natCast]
  unfold sw1
  have la : a < n := by omega
  have lb : b < n := by omega
  by_cases z1 : j = a
  · rw [if_pos z1, List.getElem?_set_self (by simpa using lb), z1]
  · rw [if_neg z1]
    by_cases z2 : j = b
    · rw [if_pos z2]
      by_cases z3 : a = b
      · omega
      · rw [List.getElem?_set_ne (by omega), List.getElem?_set_self (by simpa using la), z2]
    · rw [if_neg z2, List.getElem?_set_ne (by omega), List.getElem?_set_ne (by omega)]
      exact List.getElem?_range hj
def stirB (b : Int) (t : Nat) : Int := (b + 17 * ((t + 1 : Nat) : Int)) * (69621 + 2 * ((t + 1 : Nat) : Int)) % 2147483647
def stirS (s : Int) (t : Nat) : Int := (s * s + 40503 * ((t + 1 : Nat) : Int) + 5) % 2147483629
theorem draw2_sp (p : Pk) (n : Int) (h0 : 0 < n) (h1 : n < 1000000000000000) (ht : p.t ≤ 1000000000000) : ∃ (r : Int) (q : Pk), 0 ≤ r ∧ r < n ∧ q.t ≤ p.t + 1 ∧ f__law_draw [.mu .bor (penK p), .pd (.int n)] = some (.pd (.int r), [.mu .bor (penK q), .pd (.int n)]) := by
  obtain ⟨a, b, t⟩ := p
  have x0 : ∀ x y z : PyData, atI [x, y, z] 0 = some x := fun _ _ _ => rfl
  have x1 : ∀ x y z : PyData, atI [x, y, z] 1 = some y := fun _ _ _ => rfl
  have x2 : ∀ x y z : PyData, atI [x, y, z] 2 = some z := fun _ _ _ => rfl
  have i0 : ixN 3 0 = some 0 := rfl
  have i1 : ixN 3 1 = some 1 := rfl
  have i2 : ixN 3 2 = some 2 := rfl
  by_cases ha : 0 < a
  · refine ⟨a % n, ⟨a / n, b, t⟩, Int.emod_nonneg _ (by omega), Int.emod_lt_of_pos _ h0, by simp, ?_⟩
    have cd : CDivW a n := cdv _ _ h0 h1
    unfold f__law_draw
    rw [run_of (e := [some (.mu .bor (penK ⟨a, b, t⟩)), some (.pd (.int n)), none, none]) rfl]
    simp [m__law_draw, penK, oIx, x0, kGt, oI, ha, kMod, h0, kFdiv, cd, putL, i0]
  · have tt : (t : Int) + 1 = ((t + 1 : Nat) : Int) := by omega
    have ht' : t ≤ 1000000000000 := ht
    have e64 : (2 : Int) ^ 64 = 18446744073709551616 := by decide
    have c1 := cmul_l 17 ((t + 1 : Nat) : Int) (by omega)
    have c2 := cmul_l 2 ((t + 1 : Nat) : Int) (by omega)
    have c3 : CMul (b + 17 * ((t + 1 : Nat) : Int)) (69621 + 2 * ((t + 1 : Nat) : Int)) := .inr (by rw [e64]; omega)
    have s1 : 0 ≤ stirB b t ∧ stirB b t < 2147483647 := ⟨Int.emod_nonneg _ (by decide), Int.emod_lt_of_pos _ (by decide)⟩
    have c4 := cmul_l (stirB b t) (stirB b t) (by omega)
    have c5 := cmul_l 40503 ((t + 1 : Nat) : Int) (by omega)
    have c6 : ∀ i, CMul i 48271 := fun i => cmul_r i 48271 (by omega)
    have cd2 : ∀ i, CDivW i 32 := fun i => cdv _ _ (by decide) (by decide)
    have e1 : (b + 17 * ((t + 1 : Nat) : Int)) * (69621 + 2 * ((t + 1 : Nat) : Int)) % 2147483647 = stirB b t := rfl
    have e2 : (stirB b t * stirB b t + 40503 * ((t + 1 : Nat) : Int) + 5) % 2147483629 = stirS (stirB b t) t := rfl
    refine ⟨stirS (stirB b t) t * 48271 % 2147483647 / 32 % n, ⟨a, b, t + 1⟩, Int.emod_nonneg _ (by omega), Int.emod_lt_of_pos _ h0, by simp, ?_⟩
    unfold f__law_draw
    rw [run_of (e := [some (.mu .bor (penK ⟨a, b, t⟩)), some (.pd (.int n)), none, none]) rfl]
    simp [m__law_draw, penK, oIx, x0, x1, x2, kGt, oI, ha, kMod, kMul, kAdd, h0, kFdiv, cd2, putL, i2, tt, c1, c2, c3, c4, c5, c6, e1, e2, -Int.natCast_add]
theorem pen2_sp (i : Int) : ∃ p : Pk, p.t = 0 ∧ f__law_pen [.pd (.int i)] = some (.tmp (penK p), [.pd (.int i)]) := by
  have cp : CPow 10 18 := ⟨by decide, by decide, by decide⟩
  refine ⟨⟨if i - 10 ^ 18 > 0 then i - 10 ^ 18 else 0, i % 1000000007, 0⟩, rfl, ?_⟩
  unfold f__law_pen
  rw [run_of (e := [some (.pd (.int i))]) rfl]
  simp [m__law_pen, kPow, oI, cp, kSub, oMax, kMod, penK]
theorem at_mem {xs : List PyData} {r : Int} (h0 : 0 ≤ r) (h1 : r < xs.length) : ∃ x ∈ xs, atI xs r = some x := by
  obtain ⟨k, rfl⟩ : ∃ k : Nat, r = k := ⟨r.toNat, by omega⟩
  have hk : k < xs.length := by omega
  exact ⟨xs[k], List.getElem_mem _, atI_at (by omega) (by simp [hk])⟩
theorem pick2_l (p : Pk) (xs : List PyData) (h0 : 0 < xs.length) (h1 : xs.length < 1073741824) (ht : p.t ≤ 1000000000000) : ∃ x ∈ xs, ∃ q : Pk, q.t ≤ p.t + 1 ∧ f__law_pick [.mu .bor (penK p), .mu .bor (.ls xs)] = some (.pd x, [.mu .bor (penK q), .mu .bor (.ls xs)]) := by
  obtain ⟨r, q, b0, b1, hq, d⟩ := draw2_sp p (xs.length : Int) (by omega) (by omega) ht
  obtain ⟨x, hx, e⟩ := at_mem b0 b1
  refine ⟨x, hx, q, hq, ?_⟩
  unfold f__law_pick
  rw [run_of (e := [some (.mu .bor (penK p)), some (.mu .bor (.ls xs))]) rfl]
  simp [m__law_pick, oLen, d, oIx, e]
section
variable {cs : List Cell} (cl : ∀ c ∈ cs, ∀ d, inB (stepC c d) = true → stepC c d ∈ cs)
include cl
theorem goE : ∀ (k : Nat) (x y : Int), (x, y) ∈ cs → 0 ≤ x → x + k ≤ 3 → 0 ≤ y → y ≤ 3 → (x + k, y) ∈ cs
  | 0, x, y, h, _, _, _, _ => by simpa using h
  | k + 1, x, y, h, h0, h1, h2, h3 => by
    have := goE k (x + 1) y (cl (x, y) h .e (by show inB (x + 1, y) = true; unfold inB; simp only [Bool.and_eq_true, decide_eq_true_eq]; omega)) (by omega) (by omega) h2 h3
    rw [show x + ((k + 1 : Nat) : Int) = x + 1 + k by omega]
    exact this
theorem goW : ∀ (k : Nat) (x y : Int), (x, y) ∈ cs → 0 ≤ x - k → x ≤ 3 → 0 ≤ y → y ≤ 3 → (x - k, y) ∈ cs
  | 0, x, y, h, _, _, _, _ => by simpa using h
  | k + 1, x, y, h, h0, h1, h2, h3 => by
    have := goW k (x - 1) y (cl (x, y) h .w (by show inB (x - 1, y) = true; unfold inB; simp only [Bool.and_eq_true, decide_eq_true_eq]; omega)) (by omega) (by omega) h2 h3
    rw [show x - ((k + 1 : Nat) : Int) = x - 1 - k by omega]
    exact this
theorem goN : ∀ (k : Nat) (x y : Int), (x, y) ∈ cs → 0 ≤ y → y + k ≤ 3 → 0 ≤ x → x ≤ 3 → (x, y + k) ∈ cs
  | 0, x, y, h, _, _, _, _ => by simpa using h
  | k + 1, x, y, h, h0, h1, h2, h3 => by
    have := goN k x (y + 1) (cl (x, y) h .n (by show inB (x, y + 1) = true; unfold inB; simp only [Bool.and_eq_true, decide_eq_true_eq]; omega)) (by omega) (by omega) h2 h3
    rw [show y + ((k + 1 : Nat) : Int) = y + 1 + k by omega]
    exact this
theorem goS : ∀ (k : Nat) (x y : Int), (x, y) ∈ cs → 0 ≤ y - k → y ≤ 3 → 0 ≤ x → x ≤ 3 → (x, y - k) ∈ cs
  | 0, x, y, h, _, _, _, _ => by simpa using h
  | k + 1, x, y, h, h0, h1, h2, h3 => by
    have := goS k x (y - 1) (cl (x, y) h .s (by show inB (x, y - 1) = true; unfold inB; simp only [Bool.and_eq_true, decide_eq_true_eq]; omega)) (by omega) (by omega) h2 h3
    rw [show y - ((k + 1 : Nat) : Int) = y - 1 - k by omega]
    exact this
theorem goAny {c g : Cell} (h : c ∈ cs) (hc : inB c = true) (hg : inB g = true) : g ∈ cs := by
  obtain ⟨x, y⟩ := c
  obtain ⟨a, b⟩ := g
  simp [inB] at hc hg
  have h1 : (a, y) ∈ cs := by
    rcases Int.le_total x a with z | z
    · have := goE cl (a - x).toNat x y h (by omega) (by omega) (by omega) (by omega)
      rw [show x + ((a - x).toNat : Int) = a by omega] at this
      exact this
    · have := goW cl (x - a).toNat x y h (by omega) (by omega) (by omega) (by omega)
      rw [show x - ((x - a).toNat : Int) = a by omega] at this
      exact this
  rcases Int.le_total y b with z | z
  · have := goN cl (b - y).toNat a y h1 (by omega) (by omega) (by omega) (by omega)
    rw [show y + ((b - y).toNat : Int) = b by omega] at this
    exact this
  · have := goS cl (y - b).toNat a y h1 (by omega) (by omega) (by omega) (by omega)
    rw [show y - ((y - b).toNat : Int) = b by omega] at this
    exact this
end
def grid : List Cell := [(0, 0), (0, 1), (0, 2), (0, 3), (1, 0), (1, 1), (1, 2), (1, 3), (2, 0), (2, 1), (2, 2), (2, 3), (3, 0), (3, 1), (3, 2), (3, 3)]
theorem grid_in : ∀ c ∈ grid, inB c = true := by decide
theorem some_near {cs : List Cell} (hg : good cs) (hl : cs.length < 16) : ∃ c ∈ cs, ∃ d, inB (stepC c d) = true ∧ stepC c d ∉ cs := by
  refine Classical.byContradiction fun no => ?_
  have cl : ∀ c ∈ cs, ∀ d, inB (stepC c d) = true → stepC c d ∈ cs := fun c hc d hi => Classical.byContradiction fun z => no ⟨c, hc, d, hi, z⟩
  obtain ⟨c, hc⟩ := List.exists_mem_of_length_pos hg.1
  have sub : ∀ g ∈ grid, g ∈ cs := fun g h => goAny cl hc (hg.2.2 c hc) (grid_in g h)
  have nd : grid.Nodup := by decide
  have := nd.length_le_of_subset sub
  simp [grid] at this
  omega
def atF (l : Ly) (f : Int) : Int := if f = 0 then l.1 else if f = 5 then 5 - l.1 else if f = 1 then l.2.1 else if f = 4 then 5 - l.2.1 else if f = 2 then l.2.2 else 5 - l.2.2
def lab (l m : Ly) : Ly := (atF l m.1, atF l m.2.1, atF l m.2.2)
theorem lab_roll4 : ∀ l ∈ lyings, ∀ m ∈ lyings, lab l (roll m .n) = roll (lab l m) .n ∧ lab l (roll m .e) = roll (lab l m) .e ∧ lab l (roll m .s) = roll (lab l m) .s ∧ lab l (roll m .w) = roll (lab l m) .w := by decide +kernel
theorem lab_roll {l m : Ly} (hl : l ∈ lyings) (hm : m ∈ lyings) (d : Dir) : lab l (roll m d) = roll (lab l m) d := by
  have := lab_roll4 l hl m hm
  cases d
  · exact this.1
  · exact this.2.1
  · exact this.2.2.1
  · exact this.2.2.2
theorem lab_one : ∀ l ∈ lyings, lab l (0, 1, 2) = l := by decide +kernel
theorem lab_end {l : Ly} (hl : l ∈ lyings) : ∀ (ds : List Dir) (m : Ly), m ∈ lyings → endL (lab l m) ds = lab l (endL m ds)
  | [], m, _ => rfl
  | d :: ds, m, hm => by
    show endL (roll (lab l m) d) ds = lab l (endL (roll m d) ds)
    rw [← lab_roll hl hm, lab_end hl ds _ (roll_mem m hm d)]
theorem end_lab {l : Ly} (hl : l ∈ lyings) (ds : List Dir) : endL l ds = lab l (endL (0, 1, 2) ds) := by
  have := lab_end hl ds (0, 1, 2) (by decide)
  rw [lab_one l hl] at this
  exact this
theorem lab_four : ∀ l ∈ lyings, ∀ m ∈ lyings, lab l m = l ∨ lab (lab l m) m = l ∨ lab (lab (lab l m) m) m = l ∨ lab (lab (lab (lab l m) m) m) m = l := by decide +kernel
theorem trns_four {l : Ly} (hl : l ∈ lyings) (ds : List Dir) : trns l ds ≤ 4 := by
  have e1 : ∀ k, endL l (rep (k + 1) ds) = lab (endL l (rep k ds)) (endL (0, 1, 2) ds) := fun k => by
    show endL l (rep k ds ++ ds) = _
    rw [endL_snoc, end_lab (endL_mem _ _ hl)]
  have e0 : endL l (rep 0 ds) = l := rfl
  have mm := endL_mem ds (0, 1, 2) (by decide)
  rcases lab_four l hl _ mm with h | h | h | h
  · have := Nat.le_of_dvd (by omega) ((trns_iff hl ds 1).mp (by rw [e1, e0]; exact h)); omega
  · have := Nat.le_of_dvd (by omega) ((trns_iff hl ds 2).mp (by rw [e1, e1, e0]; exact h)); omega
  · have := Nat.le_of_dvd (by omega) ((trns_iff hl ds 3).mp (by rw [e1, e1, e1, e0]; exact h)); omega
  · exact Nat.le_of_dvd (by omega) ((trns_iff hl ds 4).mp (by rw [e1, e1, e1, e1, e0]; exact h))
theorem mul_row2 (ds : List Dir) (k : Nat) (env : Sl) (hk : k ≤ 1000) (hd : ds.length ≤ 1000) : kMul2 [.pd (.str (rowS ds)), .pd (.int (k : Nat))] env = some (.pd (.str (rowS (rep k ds))), env) := by
  have e := mul_row ds k
  have hk' : (k : Int) ≤ 1000 := by omega
  have hk0 : (0 : Int) ≤ k := by omega
  simp [kMul2, kRepL, lsOf, oRepS, row_len, e, hk', hk0, hd]
theorem cell_behind_loop (a0 a1 : S) : ∀ (ds : List Dir) (c : Cell) (s3 : Option S), Fr s3 → ∃ s3', forL (gN 3) (sSet 2 (eCall f_rolled_cell (eCons (eVar 2) (eCons (eVar 3) eNil)))) (ds.map fun d => .str (chS d)) [some a0, some a1, some (.pd (clD c)), s3] = some (.nx, [some a0, some a1, some (.pd (clD (endC c ds))), s3'])
  | [], c, s3, _ => ⟨s3, rfl⟩
  | d :: ds, c, s3, h3 => by
    obtain ⟨s3', ih⟩ := cell_behind_loop a0 a1 ds (stepC c d) (some (.pd (.str (chS d)))) (.inr ⟨_, rfl⟩)
    refine ⟨s3', ?_⟩
    rw [List.map_cons, forL_cons (e1 := [some a0, some a1, some (.pd (clD c)), some (.pd (.str (chS d)))]) (e2 := [some a0, some a1, some (.pd (clD (stepC c d))), some (.pd (.str (chS d)))]) ?_ ?_, ih]
    · rfl
    · rcases h3 with rfl | ⟨x5, rfl⟩ <;> simp
    · simp [rolled_cell_sp]
theorem cell_behind_sp (c : Cell) (ds : List Dir) : f_cell_behind [.pd (clD c), .pd (.str (rowS ds))] = some (.pd (clD (endC c ds)), [.pd (clD c), .pd (.str (rowS ds))]) := by
  unfold f_cell_behind
  rw [run_of (e := [some (.pd (clD c)), some (.pd (.str (rowS ds))), none, none]) rfl]
  obtain ⟨s', e⟩ := cell_behind_loop (.pd (clD c)) (.pd (.str (rowS ds))) ds c none (.inl rfl)
  simp [m_cell_behind, signs_row, e]
theorem is_endless_sp (cs : List Cell) (c : Cell) (ds : List Dir) : f_is_endless [.nt (cs.map clD), .pd (clD c), .pd (.str (rowS ds))] = some (.pd (.bool (decide (off cs c ds = none ∧ endC c ds = c))), [.nt (cs.map clD), .pd (clD c), .pd (.str (rowS ds))]) := by
  unfold f_is_endless
  rw [run_of (e := [some (.nt (cs.map clD)), some (.pd (clD c)), some (.pd (.str (rowS ds)))]) rfl]
  cases h : off cs c ds with
  | none => simp [m_is_endless, place_off_sp2, h, offD, oIsN, isN, cell_behind_sp, oEq, sh_cell, eqv_cell]
  | some i => simp [m_is_endless, place_off_sp2, h, offD, oIsN, isN, cell_behind_sp, oEq, sh_cell, eqv_cell]
def Itp (cs : List Cell) (c : Cell) (l : Ly) (ds : List Dir) (n : Nat) (e : Sl) : Prop := ∃ k, 1 ≤ k ∧ k + n = trns l ds ∧ e = [some (.nt (cs.map clD)), some (.pd (stD c l)), some (.pd (.str (rowS ds))), some (.pd (clD c)), some (.pd (lyD l)), some (.pd (.int (k : Nat))), some (.pd (stD c (endL l (rep k ds))))]
theorem turn_plays_sp {cs : List Cell} {c : Cell} {l : Ly} {ds : List Dir} (h : Sit cs c l ds) (hc : endC c ds = c) : f_turn_plays [.nt (cs.map clD), .pd (stD c l), .pd (.str (rowS ds))] = some (.pd (.int (trns l ds : Nat)), [.nt (cs.map clD), .pd (stD c l), .pd (.str (rowS ds))]) := by
  have b1 := trns_b h.ly ds
  have sb : ∀ m, m ∈ lyings → f_stand_behind [.nt (cs.map clD), .pd (clD c), .pd (lyD m), .pd (.str (rowS ds))] = some (.pd (stD c (endL m ds)), [.nt (cs.map clD), .pd (clD c), .pd (lyD m), .pd (.str (rowS ds))]) := fun m hm => by
    have := stand_behind_sp (cs := cs) (c := c) (l := m) (ds := ds) ⟨h.fl, h.mem, hm, h.lt, h.ln⟩
    rw [hc] at this
    exact this
  have key : wF f_turn_plays [.nt (cs.map clD), .pd (stD c l), .pd (.str (rowS ds))] (fun r as => r = .pd (.int (trns l ds : Nat)) ∧ as = [.nt (cs.map clD), .pd (stD c l), .pd (.str (rowS ds))]) := by
    have sl : stD c l = .tuple [clD c, lyD l] := rfl
    refine wF_run (e := [some (.nt (cs.map clD)), some (.pd (stD c l)), some (.pd (.str (rowS ds))), none, none, none, none]) rfl ?_
    refine wS_seq ?_
    refine wS_of (fl := .nx) (e := [some (.nt (cs.map clD)), some (.pd (stD c l)), some (.pd (.str (rowS ds))), some (.pd (clD c)), some (.pd (lyD l)), none, none]) (by simp [sl]) ?_
    rw [nxt_nx, go]
    refine wS_seq (wS_of (fl := .nx) (e := [some (.nt (cs.map clD)), some (.pd (stD c l)), some (.pd (.str (rowS ds))), some (.pd (clD c)), some (.pd (lyD l)), some (.pd (.int 1)), none]) (by simp) ?_)
    rw [nxt_nx, go]
    refine wS_seq (wS_of (fl := .nx) (e := [some (.nt (cs.map clD)), some (.pd (stD c l)), some (.pd (.str (rowS ds))), some (.pd (clD c)), some (.pd (lyD l)), some (.pd (.int 1)), some (.pd (stD c (endL l ds)))]) (by simp [sb l h.ly]) ?_)
    rw [nxt_nx, go]
    refine wS_seq ?_
    refine wS_while (Itp cs c l ds) (trns l ds - 1) ⟨1, Nat.le_refl _, by omega, by rw [rep1]; rfl⟩ ?_
    rintro n e ⟨k, h1, h2, rfl⟩
    by_cases hk : endL l (rep k ds) = l
    · have hd := Nat.le_of_dvd (by omega) ((trns_iff h.ly ds k).mp hk)
      have ek : k = trns l ds := by omega
      simp only [bW, z_bT, z_ne, z_then, z_cons, z_var, z_nil, z_kE, z_ctns1, z_ctns0, z_ctn1, oNe, sh_st, eqv_st2, hk, List.getElem?_cons_succ, List.getElem?_cons_zero, and_self, if_true, decide_true, Bool.not_true, Bool.false_eq_true, if_false]
      subst ek
      simp only [nxt_nx]
      rw [go]
      simp [wS]
    · have hn : 1 ≤ n := by
        rcases Nat.eq_zero_or_pos n with z | z
        · exact absurd ((trns_iff h.ly ds k).mpr (by rw [show k = trns l ds by omega]; exact Nat.dvd_refl _)) hk
        · exact z
      have s2 := sb _ (endL_mem (rep k ds) l h.ly)
      rw [← endL_snoc] at s2
      have x1 : oIx [stD c (endL l (rep k ds)), .int 1] = some (lyD (endL l (rep k ds))) := rfl
      simp only [bW, z_bT, z_ne, z_then, z_cons, z_var, z_nil, z_kE, z_ctns1, z_ctns0, z_ctn1, oNe, sh_st, eqv_st2, hk, List.getElem?_cons_succ, List.getElem?_cons_zero, and_self, if_true, decide_false, Bool.not_false]
      refine wS_of (fl := .nx) (e := [some (.nt (cs.map clD)), some (.pd (stD c l)), some (.pd (.str (rowS ds))), some (.pd (clD c)), some (.pd (lyD l)), some (.pd (.int ((k + 1 : Nat) : Int))), some (.pd (stD c (endL l (rep (k + 1) ds))))]) ?_ ⟨n - 1, by omega, k + 1, by omega, by omega, rfl⟩
      simp [x1, s2, rep]
  obtain ⟨r, as, e, rfl, rfl⟩ := key
  exact e
open Classical in
noncomputable def upF (m : Nat → Nat) (k : Nat) (ts : List Nat) (g : Nat → Nat) : Nat → Nat := fun j => if j ∈ ts then itr m k j else g j
theorem upF_set {n : Nat} (m : Nat → Nat) (k i x : Nat) (g : Nat → Nat) (hx : itr m i x < n) : (nD ((List.range n).map (upF m k (orb m i x) g))).set (itr m i x) (.int (itr m k (itr m i x) : Nat)) = nD ((List.range n).map (upF m k (orb m (i + 1) x) g)) := by
  apply List.ext_getElem
  · simp [nD]
  · intro j h1 h2
    rw [List.getElem_set]
    split
    · rename_i e
      subst e
      have : itr m i x ∈ orb m (i + 1) x := by rw [orb_succ]; simp
      simp [nD, upF, this]
    · rename_i e
      have : (j ∈ orb m (i + 1) x) = (j ∈ orb m i x) := by
        rw [orb_succ]
        simp
        intro z
        exact absurd z.symm e
      simp [nD, upF, this]
theorem enum_orb (m : Nat → Nat) (p x : Nat) : enumD (nD (orb m p x)) 0 = (List.range' 0 p).map fun t => .tuple [.int ((t : Nat) : Int), .int ((itr m t x : Nat) : Int)] := by
  unfold enumD
  rw [List.range_eq_range']
  have e : (nD (orb m p x)).length = p := by simp [nD, orb_len]
  rw [e]
  refine List.map_congr_left fun t ht => ?_
  have ht' : t < p := by simp at ht; exact ht
  simp [nD, orb, ht']
theorem rep_inner {n p k x : Nat} {m : Nat → Nat} (hm : ∀ j, j < n → m j < n) (hx : x < n) (hp : PerP n m x p) (hn : n ≤ 1000) (a0 : S) (g : Nat → Nat) : ∀ (r i : Nat) (s4 s5 : Option S), i + r = p → Fr s4 → Fr s5 → ∃ s4' s5', Fr s4' ∧ Fr s5' ∧
    forL (gT 2 (gCn (gN 4) (gCn (gN 5) gNl))) (sAsg (eIx (eVar 3) (eMod (eAdd (eVar 4) (eVar 1)) (eThen (eCons (eVar 3) eNil) (kE oLen)))) (gS (eVar 2) (eVar 5))) ((List.range' i r).map fun t => .tuple [.int ((t : Nat) : Int), .int ((itr m t x : Nat) : Int)])
      [some a0, some (.pd (.int (k : Nat))), some (.mu .own (.ls (nD ((List.range n).map (upF m k (orb m i x) g))))), some (.pd (.tuple (nD (orb m p x)))), s4, s5] = some (.nx, [some a0, some (.pd (.int (k : Nat))), some (.mu .own (.ls (nD ((List.range n).map (upF m k (orb m p x) g))))), some (.pd (.tuple (nD (orb m p x)))), s4', s5'])
  | 0, i, s4, s5, hi, h4, h5 => ⟨s4, s5, h4, h5, by
    have : i = p := by omega
    subst this
    rfl⟩
  | r + 1, i, s4, s5, hi, h4, h5 => by
    obtain ⟨s4', s5', f4, f5, ih⟩ := rep_inner hm hx hp hn a0 g r (i + 1) (some (.pd (.int (i : Nat)))) (some (.pd (.int (itr m i x : Nat)))) (by omega) (.inr ⟨_, rfl⟩) (.inr ⟨_, rfl⟩)
    refine ⟨s4', s5', f4, f5, ?_⟩
    have lt := itr_lt hm i x hx
    have p0 : 0 < p := by omega
    have lm : (i + k) % p < p := Nat.mod_lt _ p0
    have e1 : itr m ((i + k) % p) x = itr m k (itr m i x) := by
      have h1 : itr m (p * ((i + k) / p)) x = x := itr_mul hp.2.2.1 _
      have h2 : itr m (i + k) x = itr m ((i + k) % p) x := by
        conv => lhs; rw [← Nat.div_add_mod (i + k) p, Nat.add_comm, itr_add, h1]
      rw [← h2, Nat.add_comm, itr_add]
    have at1 : atI (nD (orb m p x)) (((i + k) % p : Nat) : Int) = some (.int (itr m k (itr m i x) : Nat)) := nD_at (by simp [orb, lm, e1])
    have em : ((i : Int) + (k : Int)) % (p : Int) = (((i + k) % p : Nat) : Int) := by simp
    have ln : (nD (orb m p x)).length = p := by simp [nD, orb_len]
    have ix : ixN n ((itr m i x : Nat) : Int) = some (itr m i x) := by rw [ixN_at (by omega) (by omega)]; simp
    have ll : (nD ((List.range n).map (upF m k (orb m i x) g))).length = n := by simp [nD]
    have p0' : (0 : Int) < (p : Int) := by omega
    rw [List.range'_succ, List.map_cons, forL_cons (e1 := [some a0, some (.pd (.int (k : Nat))), some (.mu .own (.ls (nD ((List.range n).map (upF m k (orb m i x) g))))), some (.pd (.tuple (nD (orb m p x)))), some (.pd (.int (i : Nat))), some (.pd (.int (itr m i x : Nat)))])
      (e2 := [some a0, some (.pd (.int (k : Nat))), some (.mu .own (.ls (nD ((List.range n).map (upF m k (orb m (i + 1) x) g))))), some (.pd (.tuple (nD (orb m p x)))), some (.pd (.int (i : Nat))), some (.pd (.int (itr m i x : Nat)))]) ?_ ?_, ih]
    · rcases h4 with rfl | ⟨x5, rfl⟩ <;> rcases h5 with rfl | ⟨x6, rfl⟩ <;> simp
    · simp only [z_asg, z_ix, z_then, z_cons, z_var, z_nil, z_mod, z_add, kAdd, kMod, z_kOr, z_kE, z_ctns1, z_ctns0, z_ctn1, oI, oLen, oIx, ln, em, at1, p0', if_true, List.getElem?_cons_succ, List.getElem?_cons_zero, z_gS, putL, ll, ix, ← upF_set m k i x g lt]
      simp
theorem kLrg1 (n : Nat) (env : Sl) (h : n ≤ 1000) : kLrg [.pd (.int (n : Nat))] env = some (.tmp (.ls (nD (List.range n))), env) := by
  have e : rgT 0 (n : Int) = nD (List.range n) := by rw [rgT_ups, ups_map]; rfl
  rw [← e]
  show (if RgOk 0 (n : Int) then some (R.tmp (.ls (rgT 0 n)), env) else none) = _
  exact if_pos (rgOk_of n h)
def Irp (n : Nat) (m : Nat → Nat) (k : Nat) (rest : List PyData) (e : Sl) : Prop := ∃ (F : List Nat) (g : Nat → Nat) (s3 s4 s5 : Option S), rest = F.map (turnD n m) ∧ (∀ x ∈ F, Fst n m x) ∧ (∀ j, j < n → g j = itr m k j ∨ ∃ x ∈ F, j ∈ orb m (per n m x) x) ∧ Fr s3 ∧ Fr s4 ∧ Fr s5 ∧
  e = [some (.nt (nD ((List.range n).map m))), some (.pd (.int (k : Nat))), some (.mu .own (.ls (nD ((List.range n).map g)))), s3, s4, s5]
theorem repeated_sp {n : Nat} {m : Nat → Nat} (h : Pm n m) (hn : n ≤ 1000) (k : Nat) : f_repeated [.nt (nD ((List.range n).map m)), .pd (.int (k : Nat))] = some (.nt (exD n (itr m k)), [.nt (nD ((List.range n).map m)), .pd (.int (k : Nat))]) := by
  have key : wF f_repeated [.nt (nD ((List.range n).map m)), .pd (.int (k : Nat))] (fun r as => r = .nt (exD n (itr m k)) ∧ as = [.nt (nD ((List.range n).map m)), .pd (.int (k : Nat))]) := by
    have rs := rounds_in_sp h.lt h.inj hn
    rw [fsts_eq h] at rs
    refine wF_run (e := [some (.nt (nD ((List.range n).map m))), some (.pd (.int (k : Nat))), none, none, none, none]) rfl ?_
    refine wS_seq (wS_of (fl := .nx) (e := [some (.nt (nD ((List.range n).map m))), some (.pd (.int (k : Nat))), some (.mu .own (.ls (nD (List.range n)))), none, none, none]) ?_ ?_)
    · have ln : (nD ((List.range n).map m)).length = n := by simp [nD]
      simp [oLen, ln, kLrg1 n _ hn]
    rw [nxt_nx, go]
    refine wS_seq ?_
    have id0 : nD (List.range n) = nD ((List.range n).map fun j => j) := by simp
    refine wS_for (xs := (fsts n m).map (turnD n m)) (lk := none) (e := [some (.nt (nD ((List.range n).map m))), some (.pd (.int (k : Nat))), some (.mu .own (.ls (nD (List.range n)))), none, none, none]) (by simp [rs]) (Irp n m k) ⟨fsts n m, fun j => j, none, none, none, rfl, fun x hx => mem_fsts.mp hx, fun j hj => ?_, .inl rfl, .inl rfl, .inl rfl, by rw [id0]⟩ ?_ ?_
    · by_cases z : m j = j
      · exact .inl (itr_fix z k).symm
      · obtain ⟨x, f, hx⟩ := (h.nonfix hj).mp z
        exact .inr ⟨x, mem_fsts.mpr f, hx⟩
    · rintro d rest e ⟨F, g, s3, s4, s5, er, hF, hg, f3, f4, f5, rfl⟩
      cases F with
      | nil => simp at er
      | cons x F =>
        obtain ⟨rfl, rfl⟩ : d = turnD n m x ∧ rest = F.map (turnD n m) := by simpa using er
        have fx := hF x (by simp)
        have hp := h.prd fx.1
        obtain ⟨s4', s5', g4, g5, ih⟩ := rep_inner (k := k) h.lt fx.1 hp hn (.nt (nD ((List.range n).map m))) g (per n m x) 0 s4 s5 (by omega) f4 f5
        have o0 : upF m k (orb m 0 x) g = g := by funext j; simp [upF, orb]
        rw [o0] at ih
        have e1 : gN 3 (turnD n m x) [some (.nt (nD ((List.range n).map m))), some (.pd (.int (k : Nat))), some (.mu .own (.ls (nD ((List.range n).map g)))), s3, s4, s5] = some [some (.nt (nD ((List.range n).map m))), some (.pd (.int (k : Nat))), some (.mu .own (.ls (nD ((List.range n).map g)))), some (.pd (.tuple (nD (orb m (per n m x) x)))), s4, s5] := by
          rcases f3 with rfl | ⟨x3, rfl⟩ <;> simp [turnD]
        unfold gW
        rw [e1]
        simp only []
        rw [go]
        refine wS_of (fl := .nx) (e := [some (.nt (nD ((List.range n).map m))), some (.pd (.int (k : Nat))), some (.mu .own (.ls (nD ((List.range n).map (upF m k (orb m (per n m x) x) g))))), some (.pd (.tuple (nD (orb m (per n m x) x)))), s4', s5']) ?_ ?_
        · simp only [z_for, z_enT, z_var, List.getElem?_cons_succ, List.getElem?_cons_zero, tupOf, enum_orb, ih, z_unl]
        · rw [lpP_nx]
          refine ⟨F, _, _, s4', s5', rfl, fun y hy => hF y (by simp [hy]), fun j hj => ?_, .inr ⟨_, rfl⟩, g4, g5, rfl⟩
          by_cases z : j ∈ orb m (per n m x) x
          · exact .inl (by simp [upF, z])
          · rcases hg j hj with w | ⟨y, hy, w⟩
            · exact .inl (by simp [upF, z, w])
            · rcases List.mem_cons.mp hy with rfl | hy
              · exact absurd w z
              · exact .inr ⟨y, hy, w⟩
    · rintro e ⟨F, g, s3, s4, s5, er, hF, hg, f3, f4, f5, rfl⟩
      cases F with
      | cons x F => simp at er
      | nil =>
        have eg : nD ((List.range n).map g) = exD n (itr m k) := by
          unfold exD
          congr 1
          refine List.map_congr_left fun j hj => ?_
          rcases hg j (List.mem_range.mp hj) with w | ⟨y, hy, _⟩
          · exact w
          · simp at hy
        simp only [nxt_nx, z_unl]
        rw [go, eg]
        simp [wS, kTupN]
  obtain ⟨r, as, e, rfl, rfl⟩ := key
  exact e
theorem need_times_sp (k : Nat) (h : k ≤ 1000000000000) : f_need_times [.pd (.int (k : Nat))] = some (.pd .none, [.pd (.int (k : Nat))]) := by
  have h1 : (k : Int) ≤ 1000000000000 := by omega
  have h0 : (0 : Int) ≤ k := by omega
  unfold f_need_times
  rw [run_of (e := [some (.pd (.int (k : Nat)))]) rfl]
  simp [m_need_times, v_MOST_TIMES, is_whole_int, h1, h0]
theorem rep_pre {cs : List Cell} {c : Cell} {ds : List Dir} {k : Nat} (hk : 1 ≤ k) (h : letR cs c (rep k ds)) : letR cs c ds := by
  obtain ⟨j, rfl⟩ : ∃ j, k = 1 + j := ⟨k - 1, by omega⟩
  rw [rep_add, rep1] at h
  exact (letR_mid _ _ _ h).1
theorem rep_less {cs : List Cell} {c : Cell} {ds : List Dir} {k j : Nat} (hk : j ≤ k) (h : letR cs c (rep k ds)) : letR cs c (rep j ds) := by
  obtain ⟨i, rfl⟩ : ∃ i, k = j + i := ⟨k - j, by omega⟩
  rw [rep_add] at h
  exact (letR_mid _ _ _ h).1
def Imp (cs : List Cell) (c : Cell) (ds : List Dir) (n : Nat) (e : Sl) : Prop := ∃ j, j + n = 3 ∧ letR cs c (rep j ds) ∧ e = [some (.nt (cs.map clD)), some (.pd (clD c)), some (.pd (.str (rowS ds))), some (.pd (.int (j : Nat))), some (.pd (clD (endC c (rep j ds))))]
theorem most_plays_sp {cs : List Cell} {c : Cell} {ds : List Dir} (hb : ∀ c ∈ cs, inB c = true) (hc : c ∈ cs) : ∃ o : Option Nat, f_most_plays [.nt (cs.map clD), .pd (clD c), .pd (.str (rowS ds))] = some (.pd (offD o), [.nt (cs.map clD), .pd (clD c), .pd (.str (rowS ds))]) ∧
    (o = none ↔ letR cs c ds ∧ endC c ds = c) ∧ ∀ k, o = some k → letR cs c (rep k ds) ∧ ¬ letR cs c (rep (k + 1) ds) := by
  by_cases he : letR cs c ds ∧ endC c ds = c
  · refine ⟨none, ?_, by simp [he], by simp⟩
    unfold f_most_plays
    rw [run_of (e := [some (.nt (cs.map clD)), some (.pd (clD c)), some (.pd (.str (rowS ds))), none, none]) rfl]
    simp [m_most_plays, is_endless_sp, off_let.mpr he.1, he.2, offD]
  · have he' : ¬ (off cs c ds = none ∧ endC c ds = c) := by rw [off_let]; exact he
    have key : wF f_most_plays [.nt (cs.map clD), .pd (clD c), .pd (.str (rowS ds))] (fun r as => ∃ k : Nat, r = .pd (.int (k : Nat)) ∧ (letR cs c (rep k ds) ∧ ¬ letR cs c (rep (k + 1) ds)) ∧ as = [.nt (cs.map clD), .pd (clD c), .pd (.str (rowS ds))]) := by
      refine wF_run (e := [some (.nt (cs.map clD)), some (.pd (clD c)), some (.pd (.str (rowS ds))), none, none]) rfl ?_
      refine wS_seq (wS_of (fl := .nx) (e := [some (.nt (cs.map clD)), some (.pd (clD c)), some (.pd (.str (rowS ds))), none, none]) ?_ ?_)
      · simp [is_endless_sp, he']
      rw [nxt_nx, go]
      refine wS_seq (wS_of (fl := .nx) (e := [some (.nt (cs.map clD)), some (.pd (clD c)), some (.pd (.str (rowS ds))), some (.pd (.int 0)), none]) (by simp) ?_)
      rw [nxt_nx, go]
      refine wS_seq (wS_of (fl := .nx) (e := [some (.nt (cs.map clD)), some (.pd (clD c)), some (.pd (.str (rowS ds))), some (.pd (.int 0)), some (.pd (clD c))]) (by simp) ?_)
      rw [nxt_nx, go]
      refine wS_seq ?_
      refine wS_while (Imp cs c ds) 3 ⟨0, rfl, trivial, rfl⟩ ?_
      rintro n e ⟨j, h1, h2, rfl⟩
      by_cases hk : letR cs (endC c (rep j ds)) ds
      · have nx : letR cs c (rep (j + 1) ds) := letR_snoc _ _ _ h2 hk
        have l1 := rep_pre (by omega) nx
        have b3 := few_plays hb hc (fun z => he ⟨l1, z⟩) nx
        have ho := off_let.mpr hk
        simp only [bW, z_bT, z_is, z_then, z_cons, z_var, z_c, z_nil, z_call, z_kE, z_ctns1, z_ctns0, z_ctn1, z_arg1, z_arg2, z_args1, z_args0, z_va0, z_va1, z_va2, z_bk0, z_bk1, z_bk2, place_off_sp2, ho, offD, oIsN, isN, List.getElem?_cons_succ, List.getElem?_cons_zero, if_true]
        refine wS_of (fl := .nx) (e := [some (.nt (cs.map clD)), some (.pd (clD c)), some (.pd (.str (rowS ds))), some (.pd (.int ((j + 1 : Nat) : Int))), some (.pd (clD (endC c (rep (j + 1) ds))))]) ?_ ⟨n - 1, by omega, j + 1, by omega, nx, rfl⟩
        have es : endC (endC c (rep j ds)) ds = endC c (rep (j + 1) ds) := (endC_snoc _ _ _).symm
        simp [cell_behind_sp, es]
      · obtain ⟨i, hi⟩ : ∃ i, off cs (endC c (rep j ds)) ds = some i := by
          cases z : off cs (endC c (rep j ds)) ds with
          | none => exact absurd (off_let.mp z) hk
          | some i => exact ⟨i, rfl⟩
        simp only [bW, z_bT, z_is, z_then, z_cons, z_var, z_c, z_nil, z_call, z_kE, z_ctns1, z_ctns0, z_ctn1, z_arg1, z_arg2, z_args1, z_args0, z_va0, z_va1, z_va2, z_bk0, z_bk1, z_bk2, place_off_sp2, hi, offD, oIsN, isN, List.getElem?_cons_succ, List.getElem?_cons_zero, if_true, Bool.false_eq_true, if_false]
        rw [nxt_nx, go]
        have no : ¬ letR cs c (rep (j + 1) ds) := fun z => hk (letR_mid _ _ _ z).2
        have q : ∃ k : Nat, (j : Int) = (k : Int) ∧ (letR cs c (rep k ds) ∧ ¬ letR cs c (rep (k + 1) ds)) := ⟨j, rfl, h2, no⟩
        simp [wS]
        exact ⟨j, rfl, h2, no⟩
    obtain ⟨r, as, e, k, rfl, hk, rfl⟩ := key
    exact ⟨some k, e, by simp [he], fun k' hk' => by cases hk'; exact hk⟩
theorem need_plays_sp {cs : List Cell} {c : Cell} {ds : List Dir} (hb : ∀ c ∈ cs, inB c = true) (hc : c ∈ cs) (k : Nat) (h : letR cs c (rep k ds)) : f_need_plays [.nt (cs.map clD), .pd (clD c), .pd (.str (rowS ds)), .pd (.int (k : Nat))] = some (.pd .none, [.nt (cs.map clD), .pd (clD c), .pd (.str (rowS ds)), .pd (.int (k : Nat))]) := by
  obtain ⟨o, h1, h2, h3⟩ := most_plays_sp (ds := ds) hb hc
  unfold f_need_plays
  rw [run_of (e := [some (.nt (cs.map clD)), some (.pd (clD c)), some (.pd (.str (rowS ds))), some (.pd (.int (k : Nat))), none]) rfl]
  cases o with
  | none => simp [m_need_plays, h1, offD, oIsN, isN]
  | some K =>
    have : ¬ K < k := fun z => (h3 K rfl).2 (rep_less (by omega) h)
    have z : ¬ (K : Int) < (k : Int) := by omega
    simp [m_need_plays, h1, offD, oIsN, isN, kGt, oI, this]
structure Far (cs : List Cell) (c : Cell) (l : Ly) (ds : List Dir) (k : Nat) : Prop where
  fl : okFl cs
  mem : c ∈ cs
  ly : l ∈ lyings
  ln : ds.length ≤ 60
  lt : letR cs c (rep k ds)
  bd : k ≤ 1000000000000
theorem need_far_sp {cs : List Cell} {c : Cell} {l : Ly} {ds : List Dir} {k : Nat} (h : Far cs c l ds k) : f_need_far [.nt (cs.map clD), .pd (stD c l), .pd (.str (rowS ds)), .pd (.int (k : Nat))] = some (.pd .none, [.nt (cs.map clD), .pd (stD c l), .pd (.str (rowS ds)), .pd (.int (k : Nat))]) := by
  have x0 : oIx [stD c l, .int 0] = some (clD c) := rfl
  have ln := h.ln
  unfold f_need_far
  rw [run_of (e := [some (.nt (cs.map clD)), some (.pd (stD c l)), some (.pd (.str (rowS ds))), some (.pd (.int (k : Nat)))]) rfl]
  simp [m_need_far, need_floor_sp cs h.fl, need_stand_sp cs c l h.mem (h.fl.2.2.1 c h.mem) h.ly, need_row_sp ds (by omega), need_times_sp k h.bd, x0, need_plays_sp h.fl.2.2.1 h.mem k h.lt]
theorem split_times_sp1 {cs : List Cell} {c : Cell} {l : Ly} {ds : List Dir} (h : Sit cs c l ds) (hc : endC c ds = c) (k : Nat) : f_split_times [.nt (cs.map clD), .pd (stD c l), .pd (.str (rowS ds)), .pd (.int (k : Nat))] = some (.pd (.tuple [.int (trns l ds : Nat), .int (k / trns l ds : Nat), .int (k % trns l ds : Nat)]), [.nt (cs.map clD), .pd (stD c l), .pd (.str (rowS ds)), .pd (.int (k : Nat))]) := by
  have x0 : oIx [stD c l, .int 0] = some (clD c) := rfl
  have b := trns_b h.ly ds
  have cd := cdv (k : Int) (trns l ds : Nat) (by omega) (by omega)
  have t0 : (0 : Int) < (trns l ds : Nat) := by omega
  have t0' : 0 < trns l ds := by omega
  unfold f_split_times
  rw [run_of (e := [some (.nt (cs.map clD)), some (.pd (stD c l)), some (.pd (.str (rowS ds))), some (.pd (.int (k : Nat))), none]) rfl]
  simp [m_split_times, x0, is_endless_sp, off_let.mpr h.lt, hc, turn_plays_sp h hc, kFdiv, kMod, oI, cd, t0']
theorem split_times_sp2 {cs : List Cell} {c : Cell} {l : Ly} {ds : List Dir} (h : ¬ (letR cs c ds ∧ endC c ds = c)) (k : Nat) : f_split_times [.nt (cs.map clD), .pd (stD c l), .pd (.str (rowS ds)), .pd (.int (k : Nat))] = some (.pd (.tuple [.int 0, .int 0, .int (k : Nat)]), [.nt (cs.map clD), .pd (stD c l), .pd (.str (rowS ds)), .pd (.int (k : Nat))]) := by
  have x0 : oIx [stD c l, .int 0] = some (clD c) := rfl
  have he' : ¬ (off cs c ds = none ∧ endC c ds = c) := by rw [off_let]; exact h
  unfold f_split_times
  rw [run_of (e := [some (.nt (cs.map clD)), some (.pd (stD c l)), some (.pd (.str (rowS ds))), some (.pd (.int (k : Nat))), none]) rfl]
  simp [m_split_times, x0, is_endless_sp, he']
theorem Far.few {cs : List Cell} {c : Cell} {l : Ly} {ds : List Dir} {k : Nat} (h : Far cs c l ds k) (he : ¬ (letR cs c ds ∧ endC c ds = c)) : k ≤ 3 := by
  rcases Nat.eq_zero_or_pos k with z | z
  · omega
  · have l1 := rep_pre z h.lt
    exact few_plays h.fl.2.2.1 h.mem (fun q => he ⟨l1, q⟩) h.lt
theorem rep_mod {l : Ly} (hl : l ∈ lyings) (ds : List Dir) (k : Nat) : endL l (rep k ds) = endL l (rep (k % trns l ds) ds) := by
  conv => lhs; rw [← Nat.div_add_mod k (trns l ds), rep_add, endL_snoc]
  rw [(trns_iff hl ds (trns l ds * (k / trns l ds))).mpr ⟨_, rfl⟩]
theorem stand_far_sp {cs : List Cell} {c : Cell} {l : Ly} {ds : List Dir} {k : Nat} (h : Far cs c l ds k) : f_stand_far [.nt (cs.map clD), .pd (stD c l), .pd (.str (rowS ds)), .pd (.int (k : Nat))] = some (.pd (stD (endC c (rep k ds)) (endL l (rep k ds))), [.nt (cs.map clD), .pd (stD c l), .pd (.str (rowS ds)), .pd (.int (k : Nat))]) := by
  have x0 : oIx [stD c l, .int 0] = some (clD c) := rfl
  have x1 : oIx [stD c l, .int 1] = some (lyD l) := rfl
  have x2 : ∀ a b d : PyData, oIx [.tuple [a, b, d], .int 2] = some d := fun _ _ _ => rfl
  have ln := h.ln
  have nf := need_far_sp h
  by_cases he : letR cs c ds ∧ endC c ds = c
  · have hs : Sit cs c l ds := ⟨h.fl, h.mem, h.ly, he.1, by omega⟩
    have t4 := trns_four h.ly ds
    have t1 := (trns_b h.ly ds).1
    have lm : k % trns l ds < trns l ds := Nat.mod_lt _ (by omega)
    have le : (k % trns l ds) * ds.length ≤ 4 * 60 := Nat.mul_le_mul (by omega) ln
    have sp := split_times_sp1 hs he.2 k
    have mr := fun env => mul_row2 ds (k % trns l ds) env (by omega) (by omega)
    have sb := stand_behind_sp (cs := cs) (c := c) (l := l) (ds := rep (k % trns l ds) ds) ⟨h.fl, h.mem, h.ly, rep_let he.2 he.1 _, by rw [rep_len]; omega⟩
    rw [← rep_mod h.ly, rep_home he.2] at sb
    rw [rep_home he.2]
    generalize k / trns l ds = q at *
    generalize k % trns l ds = r at *
    unfold f_stand_far
    rw [run_of (e := [some (.nt (cs.map clD)), some (.pd (stD c l)), some (.pd (.str (rowS ds))), some (.pd (.int (k : Nat))), none]) rfl]
    simp [m_stand_far, nf, sp, x0, x1, x2, mr, sb]
  · have k3 := h.few he
    have sp := split_times_sp2 (l := l) he k
    have le : k * ds.length ≤ 3 * 60 := Nat.mul_le_mul k3 ln
    have mr := fun env => mul_row2 ds k env (by omega) (by omega)
    have sb := stand_behind_sp (cs := cs) (c := c) (l := l) (ds := rep k ds) ⟨h.fl, h.mem, h.ly, h.lt, by rw [rep_len]; omega⟩
    unfold f_stand_far
    rw [run_of (e := [some (.nt (cs.map clD)), some (.pd (stD c l)), some (.pd (.str (rowS ds))), some (.pd (.int (k : Nat))), none]) rfl]
    simp [m_stand_far, nf, sp, x0, x1, x2, mr, sb]
theorem far_last {n : Nat} {a b : Nat → Nat} (ha : ∀ j, j < n → a j < n) (hn : n ≤ 1000) (a0 a1 a2 a3 : S) (s4 s5 s6 : Option S) : eLc (iSeq (eVar 7)) (gN 9) bYes (eIx (eVar 8) (eVar 9)) [9] [some a0, some a1, some a2, some a3, s4, s5, s6, some (.nt (exD n a)), some (.nt (exD n b)), none] = some (.tmp (.ls (exD n fun j => b (a j))), [some a0, some a1, some a2, some a3, s4, s5, s6, some (.nt (exD n a)), some (.nt (exD n b)), none]) := by
  have el := lc_all (it := iSeq (eVar 7)) (g := gN 9) (f := eIx (eVar 8) (eVar 9)) (vs := [9]) (q := fun j => .int ((a j : Nat) : Int)) (y := fun j => .int ((b (a j) : Nat) : Int)) (lk := none) (e := [some a0, some a1, some a2, some a3, s4, s5, s6, some (.nt (exD n a)), some (.nt (exD n b)), none]) (env := [some a0, some a1, some a2, some a3, s4, s5, s6, some (.nt (exD n a)), some (.nt (exD n b)), none]) (List.range n) (by simp [exD, nD]) (by simp; omega) (fun j hj => by
    have := ex_at (m := b) (ha j (List.mem_range.mp hj))
    simp [lcOk, wipeE, unwipe, oIx, this])
  have hx : (List.range n).map (fun j => PyData.int ((b (a j) : Nat) : Int)) = exD n fun j => b (a j) := by simp [exD, nD]
  rw [hx, z_unl] at el
  exact el
theorem exchange_far_sp {cs : List Cell} {c : Cell} {l : Ly} {ds : List Dir} {k : Nat} (h : Far cs c l ds k) : f_exchange_far [.nt (cs.map clD), .pd (stD c l), .pd (.str (rowS ds)), .pd (.int (k : Nat))] = some (.nt (exD (6 + cs.length) (exM cs c l (rep k ds))), [.nt (cs.map clD), .pd (stD c l), .pd (.str (rowS ds)), .pd (.int (k : Nat))]) := by
  have ln := h.ln
  have l9 := h.fl.2.1
  have nf := need_far_sp h
  have ex : ∀ es, letR cs c es → es.length ≤ 1000 → f_exchange [.nt (cs.map clD), .pd (stD c l), .pd (.str (rowS es))] = some (.nt (exD (6 + cs.length) (exM cs c l es)), [.nt (cs.map clD), .pd (stD c l), .pd (.str (rowS es))]) := fun es h1 h2 => by
    have := exchange_sp (cs := cs) (c := c) (l := l) (ds := es) ⟨h.fl, h.mem, h.ly, h1, h2⟩
    rw [exI_exD] at this
    exact this
  have rp : ∀ (es : List Dir) (q : Nat), f_repeated [.nt (exD (6 + cs.length) (exM cs c l es)), .pd (.int (q : Nat))] = some (.nt (exD (6 + cs.length) (itr (exM cs c l es) q)), [.nt (exD (6 + cs.length) (exM cs c l es)), .pd (.int (q : Nat))]) := fun es q => repeated_sp (exM_pm cs c l es) (by omega) q
  have fin : ∀ (es gs : List Dir) (q : Nat) (s4 s5 s6 : Option S), eLc (iSeq (eVar 7)) (gN 9) bYes (eIx (eVar 8) (eVar 9)) [9] [some (.nt (cs.map clD)), some (.pd (stD c l)), some (.pd (.str (rowS ds))), some (.pd (.int (k : Nat))), s4, s5, s6, some (.nt (exD (6 + cs.length) (itr (exM cs c l es) q))), some (.nt (exD (6 + cs.length) (exM cs c l gs))), none] = some (.tmp (.ls (exD (6 + cs.length) fun j => exM cs c l gs (itr (exM cs c l es) q j))), [some (.nt (cs.map clD)), some (.pd (stD c l)), some (.pd (.str (rowS ds))), some (.pd (.int (k : Nat))), s4, s5, s6, some (.nt (exD (6 + cs.length) (itr (exM cs c l es) q))), some (.nt (exD (6 + cs.length) (exM cs c l gs))), none]) := fun es gs q s4 s5 s6 =>
    far_last (fun j hj => itr_lt (exM_pm cs c l es).lt q j hj) (by omega) _ _ _ _ s4 s5 s6
  by_cases he : letR cs c ds ∧ endC c ds = c
  · have hs : Sit cs c l ds := ⟨h.fl, h.mem, h.ly, he.1, by omega⟩
    have t4 := trns_four h.ly ds
    have t1 := (trns_b h.ly ds).1
    have lm : k % trns l ds < trns l ds := Nat.mod_lt _ (by omega)
    have le : (k % trns l ds) * ds.length ≤ 4 * 60 := Nat.mul_le_mul (by omega) ln
    have le2 : trns l ds * ds.length ≤ 4 * 60 := Nat.mul_le_mul (by omega) ln
    have sp := split_times_sp1 hs he.2 k
    have mr := fun env => mul_row2 ds (k % trns l ds) env (by omega) (by omega)
    have mr2 := fun env => mul_row2 ds (trns l ds) env (by omega) (by omega)
    have e1 := ex (rep (k % trns l ds) ds) (rep_let he.2 he.1 _) (by rw [rep_len]; omega)
    have e2 := ex (rep (trns l ds) ds) (rep_let he.2 he.1 _) (by rw [rep_len]; omega)
    have hr := (trns_iff h.ly ds (trns l ds)).mpr (Nat.dvd_refl _)
    have cg : (exD (6 + cs.length) fun j => exM cs c l (rep (k % trns l ds) ds) (itr (exM cs c l (rep (trns l ds) ds)) (k / trns l ds) j)) = exD (6 + cs.length) (exM cs c l (rep k ds)) := exD_congr fun j hj => by
      obtain ⟨m1, m2⟩ := exM_mul he.2 hr hj (k / trns l ds)
      conv => rhs; rw [← Nat.div_add_mod k (trns l ds), rep_add, exM_app _ _ hj, rep_home he.2, m1, m2]
    have f1 := fin (rep (trns l ds) ds) (rep (k % trns l ds) ds) (k / trns l ds)
    rw [cg] at f1
    have r1 := rp (rep (trns l ds) ds) (k / trns l ds)
    generalize k / trns l ds = q at *
    generalize k % trns l ds = r at *
    generalize trns l ds = t at *
    unfold f_exchange_far
    rw [run_of (e := [some (.nt (cs.map clD)), some (.pd (stD c l)), some (.pd (.str (rowS ds))), some (.pd (.int (k : Nat))), none, none, none, none, none, none]) rfl]
    simp [m_exchange_far, nf, sp, mr, mr2, e1, e2, r1, f1, kTupN, -z_lc]
  · have k3 := h.few he
    have sp := split_times_sp2 (l := l) he k
    have le : k * ds.length ≤ 3 * 60 := Nat.mul_le_mul k3 ln
    have mr := fun env => mul_row2 ds k env (by omega) (by omega)
    have mr2 := fun env => mul_row2 ds 0 env (by omega) (by omega)
    have e1 := ex (rep k ds) h.lt (by rw [rep_len]; omega)
    have e2 := ex (rep 0 ds) trivial (by simp [rep])
    have f1 := fin (rep 0 ds) (rep k ds) 0
    have r1 := rp (rep 0 ds) 0
    have cg : (exD (6 + cs.length) fun j => exM cs c l (rep k ds) (itr (exM cs c l (rep 0 ds)) 0 j)) = exD (6 + cs.length) (exM cs c l (rep k ds)) := exD_congr fun j hj => rfl
    rw [cg] at f1
    unfold f_exchange_far
    rw [run_of (e := [some (.nt (cs.map clD)), some (.pd (stD c l)), some (.pd (.str (rowS ds))), some (.pd (.int (k : Nat))), none, none, none, none, none, none]) rfl]
    simp only [Int.natCast_zero] at mr2 r1
    simp [m_exchange_far, nf, sp, mr, mr2, e1, e2, r1, f1, kTupN, -z_lc]
noncomputable section
end
theorem keysE (a b c d : PyData) : keysK [(.str "e", a), (.str "n", b), (.str "s", c), (.str "w", d)] = some [(.inr "e", a), (.inr "n", b), (.inr "s", c), (.inr "w", d)] := rfl
theorem allE (a b c d : PyData) : allK [(.inr "e", a), (.inr "n", b), (.inr "s", c), (.inr "w", d)] = [(.inr "e", a), (.inr "n", b), (.inr "s", c), (.inr "w", d)] := by rfl
theorem besd_sp (c : Cell) (d : Dir) : f__law_beside [.pd (clD c), .pd (.str (chS d))] = some (.pd (clD (stepC c d)), [.pd (clD c), .pd (.str (chS d))]) := by
  have cl : clD c = .tuple [.int c.1, .int c.2] := rfl
  unfold f__law_beside
  rw [run_of (e := [some (.pd (clD c)), some (.pd (.str (chS d))), none, none]) rfl]
  have g : cGet (.dk [(.inr "e", .tuple [.int 1, .int 0]), (.inr "n", .tuple [.int 0, .int 1]), (.inr "s", .tuple [.int 0, .int (-1)]), (.inr "w", .tuple [.int (-1), .int 0])]) (.str (chS d)) = some (some (.tuple [.int (stepC (0, 0) d).1, .int (stepC (0, 0) d).2])) := by cases d <;> rfl
  have ng : kNeg [.pd (.int 1)] = fun env => some (.pd (.int (-1)), env) := rfl
  simp [m__law_beside, cl, kAdd, oI, keysE, allE, ng, g, ix20, ix21]
  cases d <;> simp [stepC, clD] <;> omega
theorem rolled2_sp (l : Ly) (d : Dir) : f__law_rolled [.pd (lyD l), .pd (.str (chS d))] = some (.pd (lyD (roll l d)), [.pd (lyD l), .pd (.str (chS d))]) := by
  unfold f__law_rolled
  rw [run_of (e := [some (.pd (lyD l)), some (.pd (.str (chS d))), none, none, none]) rfl]
  have g : oInS false [.str (chS d), .str "ns"] = some (.bool (match d with | .n => true | .s => true | _ => false)) := by cases d <;> rfl
  cases d <;> simp [m__law_rolled, lyD, g, oEq, ← chS_n, ← chS_s, ← chS_e, sh_ch, eqv_ch, kSub, oI, roll]
abbrev T2 := Bool × Dir
abbrev Pr := (Cell × Ly) × (Cell × Ly)
def okP (F : List Cell) (p : Pr) : Prop := p.1.1 ∈ F ∧ p.2.1 ∈ F ∧ p.1.1 ≠ p.2.1
instance (F : List Cell) (p : Pr) : Decidable (okP F p) := by unfold okP; infer_instance
theorem in_cellsL (c : Cell) (F : List Cell) (neg : Bool) : oIn neg [clD c, .list (F.map clD)] = some (.bool (if neg = true then !decide (c ∈ F) else decide (c ∈ F))) := by
  by_cases h : c ∈ F
  · rw [pl_in1 (pl_cell c) (pl_cells F) (by decide) (by decide) neg (.inr rfl) (mem_clD.mpr h)]
    cases neg <;> simp [h]
  · rw [pl_in0 (pl_cell c) (pl_cells F) (by decide) (by decide) neg (.inr rfl) (fun z => h (mem_clD.mp z))]
    cases neg <;> simp [h]
end L77

end
section
set_option linter.all false
set_option autoImplicit false
set_option Elab.async false
set_option maxRecDepth 100000
set_option maxHeartbeats 4000000
namespace L77
open PySem L2 T3 MM
noncomputable section
theorem marksC_sp (p : Pk) (cs : List Cell) (h9 : cs.length ≤ 9) (ht : p.t ≤ 1000000000) : ∃ (q : Pk) (ms : List Int), q.t ≤ p.t + 20 ∧ okM (6 + cs.length) ms ∧ f__law_marks [.mu .bor (penK p), .nt (cs.map clD)] = some (.nt (ms.map .int), [.mu .bor (penK q), .nt (cs.map clD)]) := by
  obtain ⟨r, p1, r0, r1, hp1, d1⟩ := draw2_sp p 3 (by omega) (by omega) (by omega)
  obtain ⟨m, m0, m1, em⟩ : ∃ m : Int, 0 < m ∧ m ≤ 1000 ∧ oIx [.list [.int 2, .int 9, .int 1000], .int r] = some (.int m) := by
    have : r = 0 ∨ r = 1 ∨ r = 2 := by omega
    rcases this with rfl | rfl | rfl
    · exact ⟨2, by omega, by omega, rfl⟩
    · exact ⟨9, by omega, by omega, rfl⟩
    · exact ⟨1000, by omega, by omega, rfl⟩
  have e6 : (6 : Int) + (cs.length : Int) = ((6 + cs.length : Nat) : Int) := by omega
  obtain ⟨ys, p7, lc, ly, hQ', hp7⟩ := lc_pen (it := iRg1 (eCons (eAdd (eC (.int 6)) (eThen (eCons (eVar 1) eNil) (kE oLen))) eNil)) (g := gN 3) (f := eCall f__law_draw (eCons (eVar 0) (eCons (eVar 2) eNil))) (vs := [3]) (env := [some (.mu .bor (penK p1)), some (.nt (cs.map clD)), some (.pd (.int m)), none]) (e := [some (.mu .bor (penK p1)), some (.nt (cs.map clD)), some (.pd (.int m)), none]) (j := 0) (m := .bor) (p0 := p1) (as := upD (6 + cs.length)) (fun y => ∃ i : Int, 0 ≤ i ∧ i ≤ 999 ∧ y = .int i) 1 2000000000 (rg1_up (by simp [kAdd, oI, oLen, e6, -Int.natCast_add]) (by omega)) (by rw [upD_len]; omega) (by decide) rfl (by rw [upD_len]; omega) (fun x _ q hq => by
    obtain ⟨i, q2, i0, i1, hq2, dc⟩ := draw2_sp q m m0 (by omega) (by omega)
    refine ⟨q2, .int i, hq2, ⟨i, i0, by omega, rfl⟩, ?_⟩
    simp [lcP, wipeE, dc]
    exact ⟨rfl, fun i hi => by
      simp at hi
      match i, hi with
      | 0, _ => rfl
      | 1, _ => rfl
      | 2, _ => rfl
      | 3, h => exact absurd rfl h
      | n + 4, _ => rfl⟩)
  rw [upD_len] at ly hp7
  obtain ⟨zs, rfl, hzi⟩ : ∃ zs : List Int, ys = zs.map .int ∧ ∀ z ∈ zs, 0 ≤ z ∧ z ≤ 999 := by
    clear lc ly
    induction ys with
    | nil => exact ⟨[], rfl, by simp⟩
    | cons y ys ih =>
      obtain ⟨c, h1, h2, rfl⟩ := hQ' y (by simp)
      obtain ⟨zs, rfl, hz⟩ := ih fun y hy => hQ' y (by simp [hy])
      exact ⟨c :: zs, rfl, fun z hz' => by
        rcases List.mem_cons.mp hz' with rfl | h
        · exact ⟨h1, h2⟩
        · exact hz z h⟩
  refine ⟨p7, zs, by omega, ⟨by simpa using ly, hzi⟩, ?_⟩
  unfold f__law_marks
  rw [run_of (e := [some (.mu .bor (penK p)), some (.nt (cs.map clD)), none, none]) rfl]
  simp [m__law_marks, d1, em, lc, kTupN, -z_lc]
def LyI (p0 : Pk) (m : Nat) (rest : List PyData) (e : Sl) : Prop := ∃ (p : Pk) (l : Ly), p.t + rest.length ≤ p0.t + 1 + m ∧ l ∈ lyings ∧ Al 1 3 e ∧ e[0]? = some (some (.mu .bor (penK p))) ∧ e[1]? = some (some (.pd (lyD l)))
theorem lying_sp2 (p : Pk) (ht : p.t ≤ 1000000000) : ∃ (q : Pk) (l : Ly), q.t ≤ p.t + 8 ∧ l ∈ lyings ∧ f__law_lying [.mu .bor (penK p)] = some (.pd (lyD l), [.mu .bor (penK q)]) := by
  have key : ∀ Q : R → List S → Prop, (∀ (q : Pk) (l : Ly), q.t ≤ p.t + 8 → l ∈ lyings → Q (.pd (lyD l)) [.mu .bor (penK q)]) → wF f__law_lying [.mu .bor (penK p)] Q := by
    intro Q hQ
    refine wF_run (e := startE 3 [.mu .bor (penK p)]) rfl ?_
    have A : Al 1 3 (startE 3 [.mu .bor (penK p)]) := al_start rfl (by decide)
    have h0 : (startE 3 [.mu .bor (penK p)])[0]? = some (some (.mu .bor (penK p))) := rfl
    generalize startE 3 [.mu .bor (penK p)] = e at *
    have fr := A.fre
    have ln := A.len
    obtain ⟨z, p1, z0, z1, hp1, d1⟩ := draw2_sp p 7 (by decide) (by decide) (by omega)
    obtain ⟨k, rfl⟩ : ∃ k : Nat, z = k := ⟨z.toNat, by omega⟩
    refine wS_seq ?_
    simp [wS, free_ne_set, fr, ln, -z_free, -getElem?_pos]
    rw [go]
    refine wS_seq ?_
    refine wS_for (xs := upD k) (lk := none) (e := (e.set 1 (some (.pd (lyD (0, 1, 2))))).set 0 (some (.mu .bor (penK p1)))) (rg1_up (by simp [h0, ln, d1, lyD, -getElem?_pos]) (by omega)) (LyI p k) ⟨p1, (0, 1, 2), by rw [upD_len]; omega, by decide, (A.set rfl).low (by decide), by simp [ln], by simp [ln]⟩ ?_ ?_
    · rintro w rest e ⟨q, l, hq, hl, A, h0, h1⟩
      rw [List.length_cons] at hq
      have fr := A.fre
      have ln := A.len
      obtain ⟨r, q2, r0, r1, hq2, d2⟩ := draw2_sp q 4 (by decide) (by decide) (by omega)
      have ix := ensw_ix r r0 r1
      have ro := rolled2_sp l (dirAt r)
      simp only [gW, z_gN, z_setR, fr 2 (by decide) (by decide), if_true]
      rw [go]
      simp [wS, free_ne_set, fr, ln, h0, h1, d2, ix, ro, -z_free, -getElem?_pos]
      exact ⟨q2, roll l (dirAt r), by omega, roll_mem l hl _, by repeat (first | exact A | refine Al.set ?_ rfl | refine Al.low ?_ (by decide)), by simp [ln], by simp [ln]⟩
    · rintro e ⟨q, l, hq, hl, A, h0, h1⟩
      have ln := A.len
      rw [z_unl, nxt_nx, go]
      refine wS_of (fl := .rt (.pd (lyD l))) (e := e) (by simp [h1]) ?_
      exact ⟨_, _, rfl, fin_mu rfl (by decide) (by simp [ln]) h0, hQ q l (by simp at hq; omega) hl⟩
  obtain ⟨r, as, e, q, l, h1, h2, rfl, rfl⟩ := key (fun r as => ∃ (q : Pk) (l : Ly), q.t ≤ p.t + 8 ∧ l ∈ lyings ∧ r = .pd (lyD l) ∧ as = [.mu .bor (penK q)]) (fun q l h1 h2 => ⟨q, l, h1, h2, rfl, rfl⟩)
  exact ⟨q, l, h1, h2, e⟩
theorem start_sp (p : Pk) (cs : List Cell) (h : okFl cs) (ht : p.t ≤ 100000000) : ∃ (q : Pk) (c : Cell) (l : Ly), q.t ≤ p.t + 10 ∧ c ∈ cs ∧ l ∈ lyings ∧ f__law_start [.mu .bor (penK p), .nt (cs.map clD)] = some (.pd (stD c l), [.mu .bor (penK q), .nt (cs.map clD)]) := by
  obtain ⟨v, hv, q1, hq1, pk⟩ := pick2_l p (cs.map clD) (by have := h.1; simp; omega) (by have := h.2.1; simp; omega) (by omega)
  obtain ⟨c, hc, rfl⟩ := List.mem_map.mp hv
  obtain ⟨q, l, hq, hl, ly⟩ := lying_sp2 q1 (by omega)
  refine ⟨q, c, l, by omega, hc, hl, ?_⟩
  unfold f__law_start
  rw [run_of (e := [some (.mu .bor (penK p)), some (.nt (cs.map clD))]) rfl]
  simp [m__law_start, oList, pk, ly, stD]
theorem ops_lcB (cs : List Cell) (c : Cell) (a0 a3 a4 a5 a6 : Option S) : lcL (gN 7) (bT (eIn (eCall f__law_beside (eCons (eVar 2) (eCons (eVar 7) eNil))) (eVar 1))) (eVar 7) [7] (all4.map chD) [a0, some (.nt (cs.map clD)), some (.pd (clD c)), a3, a4, a5, a6, none] [] = some ((ops cs c).map chD, [a0, some (.nt (cs.map clD)), some (.pd (clD c)), a3, a4, a5, a6, none]) := by
  have := lcL_pure (g := gN 7) (t := bT (eIn (eCall f__law_beside (eCons (eVar 2) (eCons (eVar 7) eNil))) (eVar 1))) (f := eVar 7) (vs := [7]) (env := [a0, some (.nt (cs.map clD)), some (.pd (clD c)), a3, a4, a5, a6, none]) (p := fun d => decide (stepC c d ∈ cs)) (y := chD) (q := chD) all4 [] (fun d _ => by
    refine ⟨[a0, some (.nt (cs.map clD)), some (.pd (clD c)), a3, a4, a5, a6, some (.pd (chD d))], [a0, some (.nt (cs.map clD)), some (.pd (clD c)), a3, a4, a5, a6, some (.pd (chD d))], by simp [wipeE], ?_, fun _ => ⟨.pd (chD d), [a0, some (.nt (cs.map clD)), some (.pd (clD c)), a3, a4, a5, a6, some (.pd (chD d))], by simp, rfl, by simp [unwipe]⟩, fun _ => by simp [unwipe]⟩
    have t := besd_sp c d
    rw [show PyData.str (chS d) = chD d from rfl] at t
    simp [t, oIn, sh_cell, sh_cells, any_cell, -List.any_map, -List.any_eq_true])
  rw [this]
  rfl
theorem row_step (cs : List Cell) (c0 : Cell) (a3 s5 : Option S) (p : Pk) (ds : List Dir) (s6 : Option S) (hl : letR cs c0 ds) (hn : ds.length < 1000) (h6 : Fr6 s6) (ht : p.t ≤ 1000000000) : ∃ (p' : Pk) (ds' : List Dir) (xs : List PyData), p'.t ≤ p.t + 1 ∧ letR cs c0 ds' ∧ ds'.length ≤ ds.length + 1 ∧ (sSeq (sSet 6 (eLc (iSeq (eC (.str "ensw"))) (gN 7) (bT (eIn (eCall f__law_beside (eCons (eVar 2) (eCons (eVar 7) eNil))) (eVar 1))) (eVar 7) [7]))
  (sIf (bT (eNe (eVar 6) (eThen eNil kLst))) (sSeq (sSet 4 (eAdd (eVar 4) (eCall f__law_pick (eCons (eVar 0) (eCons (eVar 6) eNil)))))
  (sSet 2 (eCall f__law_beside (eCons (eVar 2) (eCons (eIx (eVar 4) (eNeg (eC (.int 1)))) eNil))))) sPass)) [some (.mu .bor (penK p)), some (.nt (cs.map clD)), some (.pd (clD (endC c0 ds))), a3, some (.pd (.str (rowS ds))), s5, s6, none] = some (.nx, [some (.mu .bor (penK p')), some (.nt (cs.map clD)), some (.pd (clD (endC c0 ds'))), a3, some (.pd (.str (rowS ds'))), s5, some (.mu .own (.ls xs)), none]) := by
  have oc := ops_lcB cs (endC c0 ds) (some (.mu .bor (penK p))) a3 (some (.pd (.str (rowS ds)))) s5 s6
  have sg : signs "ensw" = all4.map chD := by rw [ensw_row, signs_row]; rfl
  have a4 : (all4.map chD).length ≤ 1000000 := by decide
  have first : sSet 6 (eLc (iSeq (eC (.str "ensw"))) (gN 7) (bT (eIn (eCall f__law_beside (eCons (eVar 2) (eCons (eVar 7) eNil))) (eVar 1))) (eVar 7) [7]) [some (.mu .bor (penK p)), some (.nt (cs.map clD)), some (.pd (clD (endC c0 ds))), a3, some (.pd (.str (rowS ds))), s5, s6, none] = some (.nx, [some (.mu .bor (penK p)), some (.nt (cs.map clD)), some (.pd (clD (endC c0 ds))), a3, some (.pd (.str (rowS ds))), s5, some (.mu .own (.ls ((ops cs (endC c0 ds)).map chD))), none]) := by
    simp only [z_set, z_lc, z_seqI, z_c, sg, a4, if_true, oc, z_unl]
    rcases h6 with rfl | ⟨xs, rfl⟩ <;> simp
  have s0 : SeqAt.shaped (.list []) = true := sh_intsL []
  by_cases hz : ops cs (endC c0 ds) = []
  · refine ⟨p, ds, (ops cs (endC c0 ds)).map chD, by omega, hl, by omega, ?_⟩
    rw [z_seq, first]
    simp [oNe, sh_chs, s0, eqv_nil, hz]
  · have hp : 0 < (ops cs (endC c0 ds)).length := List.length_pos_iff.mpr hz
    have h4 : (ops cs (endC c0 ds)).length ≤ 4 := List.length_filter_le _ all4
    generalize ho : ops cs (endC c0 ds) = os at *
    obtain ⟨v, hv, q1, hq1, k⟩ := pick2_l p (os.map chD) (by simpa using hp) (by simp; omega) (by omega)
    obtain ⟨d, hm, rfl⟩ := List.mem_map.mp hv
    have hs : stepC (endC c0 ds) d ∈ cs := by
      rw [← ho] at hm
      have := (List.mem_filter.mp hm).2
      simpa using this
    refine ⟨q1, ds ++ [d], os.map chD, hq1, letR_app ds c0 d hl hs, by simp, ?_⟩
    rw [z_seq, first]
    have rl := row_last ds d hn
    have t := besd_sp (endC c0 ds) d
    rw [show PyData.str (chS d) = chD d from rfl] at t
    have ln : ds.length + (chS d).length ≤ 1000000 := by have : (chS d).length = 1 := rfl; omega
    rw [endC_app]
    have hne : ¬ os.map chD = [] := by simpa using hz
    have cat : oCatS [.str (rowS ds), chD d] = some (.str (rowS (ds ++ [d]))) := by
      show (if (rowS ds).length + (chS d).length ≤ 1000000 then some (PyData.str (rowS ds ++ chS d)) else none) = _
      rw [row_len, if_pos ln, rowS_app]
    simp [oNe, sh_chs, s0, eqv_nil, hz, k, cat, kAdd, oI, kNeg, oNeg, rl, t]
theorem row_loop (cs : List Cell) (c0 : Cell) (a3 : Option S) : ∀ (xs : List PyData) (p : Pk) (ds : List Dir) (s5 s6 : Option S), letR cs c0 ds → ds.length + xs.length < 1000 → Fr s5 → Fr6 s6 → p.t + xs.length ≤ 1000000000 → ∃ (p' : Pk) (ds' : List Dir) (s5' s6' : Option S), p'.t ≤ p.t + xs.length ∧ letR cs c0 ds' ∧ ds'.length ≤ ds.length + xs.length ∧ forL (gN 5) (sSeq (sSet 6 (eLc (iSeq (eC (.str "ensw"))) (gN 7) (bT (eIn (eCall f__law_beside (eCons (eVar 2) (eCons (eVar 7) eNil))) (eVar 1))) (eVar 7) [7]))
  (sIf (bT (eNe (eVar 6) (eThen eNil kLst))) (sSeq (sSet 4 (eAdd (eVar 4) (eCall f__law_pick (eCons (eVar 0) (eCons (eVar 6) eNil)))))
  (sSet 2 (eCall f__law_beside (eCons (eVar 2) (eCons (eIx (eVar 4) (eNeg (eC (.int 1)))) eNil))))) sPass)) xs [some (.mu .bor (penK p)), some (.nt (cs.map clD)), some (.pd (clD (endC c0 ds))), a3, some (.pd (.str (rowS ds))), s5, s6, none] = some (.nx, [some (.mu .bor (penK p')), some (.nt (cs.map clD)), some (.pd (clD (endC c0 ds'))), a3, some (.pd (.str (rowS ds'))), s5', s6', none])
  | [], p, ds, s5, s6, hl, _, _, _, _ => ⟨p, ds, s5, s6, by omega, hl, by simp, rfl⟩
  | x :: xs, p, ds, s5, s6, hl, hn, h5, h6, ht => by
    simp only [List.length_cons] at hn ht
    obtain ⟨p1, ds1, ys, t1, g1, l1, e1⟩ := row_step cs c0 a3 (some (.pd x)) p ds s6 hl (by omega) h6 (by omega)
    obtain ⟨p', ds', s5', s6', t', g', l', e⟩ := row_loop cs c0 a3 xs p1 ds1 (some (.pd x)) (some (.mu .own (.ls ys))) g1 (by omega) (.inr ⟨_, rfl⟩) (.inr ⟨_, rfl⟩) (by omega)
    refine ⟨p', ds', s5', s6', by simp only [List.length_cons]; omega, g', by simp only [List.length_cons]; omega, ?_⟩
    rw [forL_cons (e1 := [some (.mu .bor (penK p)), some (.nt (cs.map clD)), some (.pd (clD (endC c0 ds))), a3, some (.pd (.str (rowS ds))), some (.pd x), s6, none]) ?_ e1, e]
    rcases h5 with rfl | ⟨x3, rfl⟩ <;> simp
theorem row_sp2 (p : Pk) (cs : List Cell) (c : Cell) (m : Nat) (hm : m ≤ 100) (ht : p.t ≤ 100000000) : ∃ (p' : Pk) (ds : List Dir), p'.t ≤ p.t + 1 + m ∧ letR cs c ds ∧ ds.length ≤ m ∧ f__law_row [.mu .bor (penK p), .nt (cs.map clD), .pd (clD c), .pd (.int (m : Nat))] = some (.pd (.str (rowS ds)), [.mu .bor (penK p'), .nt (cs.map clD), .pd (clD c), .pd (.int (m : Nat))]) := by
  obtain ⟨z, q1, z0, z1, hq1, d1⟩ := draw2_sp p ((m : Int) + 1) (by omega) (by omega) (by omega)
  obtain ⟨k, rfl⟩ : ∃ k : Nat, z = k := ⟨z.toNat, by omega⟩
  have i := iRg1_of (f := eCons (eCall f__law_draw (eCons (eVar 0) (eCons (eAdd (eVar 3) (eC (.int 1))) eNil))) eNil) (env := [some (.mu .bor (penK p)), some (.nt (cs.map clD)), some (.pd (clD c)), some (.pd (.int (m : Nat))), some (.pd (.str "")), none, none, none]) (e := [some (.mu .bor (penK q1)), some (.nt (cs.map clD)), some (.pd (clD c)), some (.pd (.int (m : Nat))), some (.pd (.str "")), none, none, none]) (n := k) (by simp [kAdd, oI, d1]) (by omega)
  obtain ⟨p', ds, s5', s6', t', g', l', e⟩ := row_loop cs c (some (.pd (.int (m : Nat)))) ((ups k).map .int) q1 [] none none trivial (by simp [ups_len]; omega) (.inl rfl) (.inl rfl) (by simp [ups_len]; omega)
  refine ⟨p', ds, by simp [ups_len] at t'; omega, g', by simp [ups_len] at l'; omega, ?_⟩
  have r0 : rowS [] = "" := by decide
  rw [r0, show endC c [] = c from rfl] at e
  unfold f__law_row
  rw [run_of (e := [some (.mu .bor (penK p)), some (.nt (cs.map clD)), some (.pd (clD c)), some (.pd (.int (m : Nat))), none, none, none, none]) rfl]
  simp only [m__law_row]
  simp [i, e]
end
end L77

end
section
set_option linter.all false
set_option autoImplicit false
set_option Elab.async false
set_option maxRecDepth 100000
set_option maxHeartbeats 4000000
namespace L77
open PySem L2 T3 MM
noncomputable section
def cel (k : Nat) : Cell := (((k : Nat) : Int) % 4, ((k : Nat) : Int) / 4)
def evC (cs : List Cell) : List Cell := ((List.range 16).map cel).filter fun c => decide (c ∉ cs)
theorem mem_ev {cs : List Cell} {c : Cell} : c ∈ evC cs ↔ inB c = true ∧ c ∉ cs := by
  unfold evC
  simp only [List.mem_filter, List.mem_map, List.mem_range, decide_eq_true_eq]
  constructor
  · rintro ⟨⟨k, hk, rfl⟩, h⟩
    refine ⟨?_, h⟩
    unfold inB cel
    simp only [Bool.and_eq_true, decide_eq_true_eq]
    omega
  · rintro ⟨hi, h⟩
    have b := inB_b hi
    refine ⟨⟨(c.2 * 4 + c.1).toNat, by omega, ?_⟩, h⟩
    unfold cel
    exact Prod.ext (by simp only; omega) (by simp only; omega)
theorem ev_len (cs : List Cell) : (evC cs).length ≤ 16 := Nat.le_trans (List.length_filter_le _ _) (by simp)
def ab (i : Int) : Int := if i < 0 then -i else i
theorem ab_def (i : Int) : ab i = (i.natAbs : Int) := by unfold ab; by_cases h : i < 0 <;> simp [h] <;> omega
def isN (a b : Cell) : Bool := decide (ab (b.1 - a.1) + ab (b.2 - a.2) = 1)
def nrC (cs : List Cell) : List Cell := (evC cs).filter fun c => decide (cs.filter (isN c) ≠ [])
theorem nr_pos {cs : List Cell} (hg : good cs) (hl : cs.length < 16) : 0 < (nrC cs).length := by
  obtain ⟨c, hc, d, hi, hn⟩ := some_near hg hl
  refine List.length_pos_of_mem (a := stepC c d) ?_
  refine List.mem_filter.mpr ⟨mem_ev.mpr ⟨hi, hn⟩, ?_⟩
  rw [decide_eq_true_eq]
  have m : c ∈ cs.filter (isN (stepC c d)) := List.mem_filter.mpr ⟨hc, by
    unfold isN
    rw [decide_eq_true_eq]
    rw [ab_def, ab_def]
    cases d <;> simp only [stepC] <;> omega⟩
  intro z
  rw [z] at m
  exact absurd m (by simp)
theorem ev_pos {cs : List Cell} (hg : good cs) (hl : cs.length < 16) : 0 < (evC cs).length := Nat.lt_of_lt_of_le (nr_pos hg hl) (List.length_filter_le _ _)
theorem eq_ints (a b : Int) : oEq [.int a, .int b] = some (.bool (decide (a = b))) := by
  by_cases h : a = b
  · rw [pl_eq (n := 0) (m := 0) rfl rfl (by decide) (by decide) (by rw [h])]; simp [h]
  · rw [pl_eq' (n := 0) (m := 0) rfl rfl (by decide) (by decide) (fun z => h (by injection z))]; simp [h]
theorem abs_ab (i : Int) : oAbs [.int i] = some (.int (ab i)) := rfl
theorem is_near_sp (c : Cell) (cs : List Cell) (hl : cs.length ≤ 100) : f__law_is_near [.pd (clD c), .mu .bor (.ls (cs.map clD))] = some (.pd (.bool (decide (cs.filter (isN c) ≠ []))), [.pd (clD c), .mu .bor (.ls (cs.map clD))]) := by
  have inner : ∀ e : Sl, e.length = 3 → e[0]? = some (some (.pd (clD c))) → e[1]? = some (some (.mu .bor (.ls (cs.map clD)))) → eLc (iSeq (eVar 1)) (gN 2) (bT (eEq (eAdd (eThen (eCons (eSub (eIx (eVar 2) (eC (.int 0))) (eIx (eVar 0) (eC (.int 0)))) eNil) (kE oAbs)) (eThen (eCons (eSub (eIx (eVar 2) (eC (.int 1))) (eIx (eVar 0) (eC (.int 1)))) eNil) (kE oAbs))) (eC (.int 1)))) (eVar 2) [2] e = some (.tmp (.ls ((cs.filter (isN c)).map clD)), e) := by
    intro e ln h0 h1
    have lc := lcF (it := iSeq (eVar 1)) (g := gN 2) (t := bT (eEq (eAdd (eThen (eCons (eSub (eIx (eVar 2) (eC (.int 0))) (eIx (eVar 0) (eC (.int 0)))) eNil) (kE oAbs)) (eThen (eCons (eSub (eIx (eVar 2) (eC (.int 1))) (eIx (eVar 0) (eC (.int 1)))) eNil) (kE oAbs))) (eC (.int 1)))) (f := eVar 2) (vs := [2]) (lk := some (1, .bor)) (env := e) (e := e.set 1 (some (.mu .fro (.ls (cs.map clD))))) (q := clD) (as := cs) (isN c) clD (by simp [h1]) (by omega) (fun o _ => by
      have e1 : oEq [.int (ab (o.1 - c.1) + ab (o.2 - c.2)), .int 1] = some (.bool (isN c o)) := eq_ints _ _
      have x0 : ∀ x : Cell, oIx [clD x, .int 0] = some (.int x.1) := fun _ => rfl
      have x1 : ∀ x : Cell, oIx [clD x, .int 1] = some (.int x.2) := fun _ => rfl
      by_cases z : isN c o = true
      · rw [z] at e1 ⊢
        simp [lcI, wipe_at, wipe_free, wipeE_len, ln, h0, x0, x1, kSub, kAdd, oI, abs_ab, e1, Kp.set, -z_free, -getElem?_pos]
      · simp only [Bool.not_eq_true] at z
        rw [z] at e1 ⊢
        simp [lcI, wipe_at, wipe_free, wipeE_len, ln, h0, x0, x1, kSub, kAdd, oI, abs_ab, e1, Kp.set, -z_free, -getElem?_pos])
    rw [lc]
    have : e.set 1 (some (.mu .bor (.ls (cs.map clD)))) = e := by
      refine List.ext_getElem? fun i => ?_
      rw [List.getElem?_set]
      split
      · rename_i z; subst z; rw [if_pos (by rw [ln]; decide), h1]
      · rfl
    simp [ln, this, -getElem?_pos]
  unfold f__law_is_near
  rw [run_of (e := [some (.pd (clD c)), some (.mu .bor (.ls (cs.map clD))), none]) rfl]
  have lc := inner [some (.pd (clD c)), some (.mu .bor (.ls (cs.map clD))), none] rfl rfl rfl
  have ne : oNe [.list ((cs.filter (isN c)).map clD), .list []] = some (.bool (decide (cs.filter (isN c) ≠ []))) := by
    have p1 : pl 2 (.list ((cs.filter (isN c)).map clD)) = true := pl_lst fun x hx => rfl
    by_cases z : cs.filter (isN c) = []
    · rw [pl_ne p1 (by rfl : pl 1 (.list []) = true) (by decide) (by decide) (by rw [z]; rfl)]
      simp [z]
    · rw [pl_ne' p1 (by rfl : pl 1 (.list []) = true) (by decide) (by decide) (by simpa using z)]
      simp [z]
  simp [m__law_is_near, lc, ne, -z_lc]
end
end L77

end
section
set_option linter.all false
set_option autoImplicit false
set_option Elab.async false
set_option maxRecDepth 100000
set_option maxHeartbeats 4000000
namespace L77
open PySem L2 T3 MM
noncomputable section
theorem ev_lc (cs : List Cell) (hl : cs.length ≤ 100) (e : Sl) (ln : e.length = 7) (h1 : e[1]? = some (some (.mu .own (.ls (cs.map clD))))) :
    eLc (iRg1 (eCons (eC (.int 16)) eNil)) (gN 5) (bT (eNin (eThen (eCons (eMod (eVar 5) (eC (.int 4))) (eCons (eFdiv (eVar 5) (eC (.int 4))) eNil)) kTup) (eVar 1))) (eThen (eCons (eMod (eVar 5) (eC (.int 4))) (eCons (eFdiv (eVar 5) (eC (.int 4))) eNil)) kTup) [5] e = some (.tmp (.ls ((evC cs).map clD)), e) := by
  have := lcF (it := iRg1 (eCons (eC (.int 16)) eNil)) (g := gN 5) (t := bT (eNin (eThen (eCons (eMod (eVar 5) (eC (.int 4))) (eCons (eFdiv (eVar 5) (eC (.int 4))) eNil)) kTup) (eVar 1))) (f := eThen (eCons (eMod (eVar 5) (eC (.int 4))) (eCons (eFdiv (eVar 5) (eC (.int 4))) eNil)) kTup) (vs := [5]) (lk := none) (env := e) (e := e) (q := fun b : Nat => .int ((b : Nat) : Int)) (as := List.range 16) (fun k => decide (cel k ∉ cs)) (fun k => clD (cel k)) (rg1_up (n := 16) (by simp) (by decide)) (by decide) (fun k hk => by
    have i := in_cellsL (cel k) cs true
    have cd : CDivW ((k : Nat) : Int) 4 := cdv _ _ (by decide) (by decide)
    have cl : clD (cel k) = .tuple [.int (((k : Nat) : Int) % 4), .int (((k : Nat) : Int) / 4)] := rfl
    rw [cl] at i ⊢
    by_cases z : cel k ∈ cs <;> simp [lcI, wipe_at, wipe_free, wipeE_len, ln, h1, kMod, kFdiv, oI, cd, i, z, Kp.set, -z_free, -getElem?_pos])
  rw [z_unl] at this
  rw [this]
  unfold evC
  rw [List.filter_map, List.map_map]
  rfl
theorem set_id {e : Sl} {i : Nat} {x : Option S} (h : e[i]? = some x) : e.set i x = e := by
  refine List.ext_getElem? fun j => ?_
  rw [List.getElem?_set]
  split
  · rename_i z; subst z
    rw [if_pos (List.getElem?_eq_some_iff.mp h).1, h]
  · rfl
theorem nr_lc (cs : List Cell) (hl : cs.length ≤ 100) (e : Sl) (ln : e.length = 7) (h1 : e[1]? = some (some (.mu .own (.ls (cs.map clD))))) (h3 : e[3]? = some (some (.mu .own (.ls ((evC cs).map clD))))) :
    eLc (iSeq (eVar 3)) (gN 6) (bT (eCall f__law_is_near (eCons (eVar 6) (eCons (eVar 1) eNil)))) (eVar 6) [6] e = some (.tmp (.ls ((nrC cs).map clD)), e) := by
  have el := ev_len cs
  have lc := lcF (it := iSeq (eVar 3)) (g := gN 6) (t := bT (eCall f__law_is_near (eCons (eVar 6) (eCons (eVar 1) eNil)))) (f := eVar 6) (vs := [6]) (lk := some (3, .own)) (env := e) (e := e.set 3 (some (.mu .fro (.ls ((evC cs).map clD))))) (q := clD) (as := evC cs) (fun c => decide (cs.filter (isN c) ≠ [])) clD (by simp [h3]) (by omega) (fun c _ => by
    have nr := is_near_sp c cs hl
    by_cases z : cs.filter (isN c) = []
    all_goals
      simp only [ne_eq, z, not_true, not_false_iff, decide_true, decide_false] at nr ⊢
      simp [lcI, wipe_at, wipe_free, wipeE_len, ln, h1, nr, Kp.set, -z_free, -getElem?_pos]
      have k := set_id (e := (wipeE (e.set 3 (some (.mu .fro (.ls ((evC cs).map clD))))) [6]).set 6 (some (.pd (clD c)))) (i := 1) (x := some (.mu .own (.ls (cs.map clD)))) (by simp [wipe_at, h1, -getElem?_pos])
      rw [k]
      simp [Kp.set])
  rw [lc]
  have := set_id h3
  simp [ln, this, nrC, -getElem?_pos]
end
end L77

end
section
set_option linter.all false
set_option autoImplicit false
set_option Elab.async false
set_option maxRecDepth 100000
set_option maxHeartbeats 4000000
namespace L77
open PySem L2 T3 MM
noncomputable section
theorem good_new {cs : List Cell} {c : Cell} (h : good cs) (hc : c ∈ evC cs) : good (cs ++ [c]) := by
  obtain ⟨hi, hn⟩ := mem_ev.mp hc
  refine ⟨by simp, ?_, ?_⟩
  · rw [List.nodup_append]
    exact ⟨h.2.1, by simp, fun a ha b hb => by
      rw [List.mem_singleton] at hb
      subst hb
      exact fun z => hn (z ▸ ha)⟩
  · intro x hx
    rcases List.mem_append.mp hx with hx | hx
    · exact h.2.2 x hx
    · rw [List.mem_singleton.mp hx]; exact hi
theorem sort_ok {cs : List Cell} (hg : good cs) (h1 : 1 ≤ cs.length) (h9 : cs.length ≤ 9) : okFl (cs.mergeSort prLe) ∧ (cs.mergeSort prLe).length = cs.length := by
  have tr : ∀ a b c : Cell, prLe a b = true → prLe b c = true → prLe a c = true := by
    intro a b c h1 h2; simp [prLe] at *; omega
  have to : ∀ a b : Cell, (prLe a b || prLe b a) = true := by
    intro a b; simp [prLe]; omega
  have pm := List.mergeSort_perm cs prLe
  have pw := List.pairwise_mergeSort tr to cs
  have ln : (cs.mergeSort prLe).length = cs.length := List.length_mergeSort _
  exact ⟨⟨by omega, by omega, fun c hc => hg.2.2 c (pm.mem_iff.mp hc), chain_of _ (fun c hc => hg.2.2 c (pm.mem_iff.mp hc)) pw (pm.nodup_iff.mpr hg.2.1)⟩, ln⟩
def FlJ (p0 : Pk) (m : Nat) (rest : List PyData) (e : Sl) : Prop := ∃ (p : Pk) (cs : List Cell), p.t + 2 * rest.length ≤ p0.t + 5 + 2 * m ∧ good cs ∧ cs.length + rest.length = 1 + m ∧ Al 1 7 e ∧ e[0]? = some (some (.mu .bor (penK p))) ∧ e[1]? = some (some (.mu .own (.ls (cs.map clD))))
theorem flT_sp (p : Pk) (ht : p.t ≤ 100000000) : ∃ (q : Pk) (cs : List Cell), q.t ≤ p.t + 30 ∧ okFl cs ∧ f__law_floor [.mu .bor (penK p)] = some (.nt (cs.map clD), [.mu .bor (penK q)]) := by
  have key : ∀ Q : R → List S → Prop, (∀ (q : Pk) (cs : List Cell), q.t ≤ p.t + 30 → okFl cs → Q (.nt (cs.map clD)) [.mu .bor (penK q)]) → wF f__law_floor [.mu .bor (penK p)] Q := by
    intro Q hQ
    refine wF_run (e := startE 7 [.mu .bor (penK p)]) rfl ?_
    have A : Al 1 7 (startE 7 [.mu .bor (penK p)]) := al_start rfl (by decide)
    have h0 : (startE 7 [.mu .bor (penK p)])[0]? = some (some (.mu .bor (penK p))) := rfl
    generalize startE 7 [.mu .bor (penK p)] = e at *
    have fr := A.fre
    have ln := A.len
    obtain ⟨x, p1, x0, x1, hp1, d1⟩ := draw2_sp p 4 (by decide) (by decide) (by omega)
    obtain ⟨y, p2, y0, y1, hp2, d2⟩ := draw2_sp p1 4 (by decide) (by decide) (by omega)
    obtain ⟨z, p3, z0, z1, hp3, d3⟩ := draw2_sp p2 9 (by decide) (by decide) (by omega)
    obtain ⟨u, p4, u0, u1, hp4, d4⟩ := draw2_sp p3 6 (by decide) (by decide) (by omega)
    obtain ⟨v, p5, v0, v1, hp5, d5⟩ := draw2_sp p4 2 (by decide) (by decide) (by omega)
    obtain ⟨m, hm, ix⟩ : ∃ m : Nat, m ≤ 8 ∧ oIx [.list [.int z, .int (3 + u)], .int v] = some (.int (m : Nat)) := by
      have : v = 0 ∨ v = 1 := by omega
      rcases this with rfl | rfl
      · refine ⟨z.toNat, by omega, ?_⟩
        rw [Int.toNat_of_nonneg z0]; rfl
      · refine ⟨(3 + u).toNat, by omega, ?_⟩
        rw [Int.toNat_of_nonneg (by omega)]; rfl
    refine wS_seq ?_
    simp [wS, free_ne_set, fr, ln, h0, d1, d2, -z_free, -getElem?_pos]
    rw [go]
    refine wS_seq ?_
    refine wS_gen fun E hE => ?_
    have AE : Al 1 7 E := by rw [hE]; repeat (first | exact A | refine Al.set ?_ rfl | refine Al.low ?_ (by decide))
    have g0 : E[0]? = some (some (.mu .bor (penK p2))) := by rw [hE]; simp [ln]
    have g1 : E[1]? = some (some (.mu .own (.ls ([(x, y)].map clD)))) := by rw [hE]; simp [ln, clD]
    clear hE
    have lE := AE.len
    refine wS_for (xs := upD m) (lk := none) (e := E.set 0 (some (.mu .bor (penK p5)))) (rg1_up (by simp [g0, lE, kAdd, oI, d3, d4, d5, ix, -getElem?_pos, -Int.natCast_add]) (by omega)) (FlJ p m) ⟨p5, [(x, y)], by rw [upD_len]; omega, ⟨by simp, by simp, fun c hc => by
      simp at hc
      subst hc
      unfold inB
      simp
      omega⟩, by rw [upD_len]; simp, AE.low (by decide), by simp [lE], by simpa using g1⟩ ?_ ?_
    · rintro w rest e ⟨p, cs, hp, hg, hl, A, h0, h1⟩
      rw [List.length_cons] at hp hl
      have fr := A.fre
      have ln := A.len
      simp only [gW, z_gN, z_setR, fr 2 (by decide) (by decide), if_true]
      rw [go]
      refine wS_seq ?_
      have el := ev_lc cs (by omega) (e.set 2 (some (.pd w))) (by simp [ln]) (by simpa using h1)
      simp [wS, free_ne_set, fr, ln, el, -z_free, -getElem?_pos, -z_lc]
      rw [go]
      refine wS_seq ?_
      refine wS_gen fun E hE => ?_
      have AE : Al 1 7 E := by rw [hE]; repeat (first | exact A | refine Al.set ?_ rfl | refine Al.low ?_ (by decide))
      have g0 : E[0]? = some (some (.mu .bor (penK p))) := by rw [hE]; simpa using h0
      have g1 : E[1]? = some (some (.mu .own (.ls (cs.map clD)))) := by rw [hE]; simpa using h1
      have g3 : E[3]? = some (some (.mu .own (.ls ((evC cs).map clD)))) := by rw [hE]; simp [ln]
      clear hE
      have lE := AE.len
      have fE := AE.fre
      have nl := nr_lc cs (by omega) E lE g1 g3
      simp [wS, free_ne_set, fE, lE, nl, -z_free, -getElem?_pos, -z_lc]
      rw [go]
      refine wS_gen fun E2 hE => ?_
      have A2 : Al 1 7 E2 := by rw [hE]; repeat (first | exact AE | refine Al.set ?_ rfl | refine Al.low ?_ (by decide))
      have k0 : E2[0]? = some (some (.mu .bor (penK p))) := by rw [hE]; simpa using g0
      have k1 : E2[1]? = some (some (.mu .own (.ls (cs.map clD)))) := by rw [hE]; simpa using g1
      have k3 : E2[3]? = some (some (.mu .own (.ls ((evC cs).map clD)))) := by rw [hE]; simpa using g3
      have k4 : E2[4]? = some (some (.mu .own (.ls ((nrC cs).map clD)))) := by rw [hE]; simp [lE]
      clear hE
      have l2 := A2.len
      obtain ⟨z, q1, z0, z1, hq1, d1⟩ := draw2_sp p 9 (by decide) (by decide) (by omega)
      have np := nr_pos hg (by omega)
      have op := ev_pos hg (by omega)
      have ol := ev_len cs
      have nl2 : (nrC cs).length ≤ 16 := Nat.le_trans (List.length_filter_le _ _) ol
      have lim : cs.length ≤ 1000000 := by omega
      have eqz := eq_ints z 0
      by_cases zz : z = 0
      · obtain ⟨v, hv, q2, hq2, pk⟩ := pick2_l q1 ((evC cs).map clD) (by simpa using op) (by simp; omega) (by omega)
        obtain ⟨c, hc, rfl⟩ := List.mem_map.mp hv
        simp only [zz, decide_true] at eqz d1
        simp [wS, isL, k0, k1, k3, k4, l2, d1, eqz, pk, kAppend, lim, -z_free, -getElem?_pos]
        exact ⟨q2, cs ++ [c], by omega, good_new hg hc, by simp; omega, by repeat (first | exact A2 | refine Al.set ?_ rfl | refine Al.low ?_ (by decide)), by simp [l2], by simp [l2]⟩
      · obtain ⟨v, hv, q2, hq2, pk⟩ := pick2_l q1 ((nrC cs).map clD) (by simpa using np) (by simp; omega) (by omega)
        obtain ⟨c, hc, rfl⟩ := List.mem_map.mp hv
        have hc' : c ∈ evC cs := (List.mem_filter.mp hc).1
        simp only [zz, decide_false] at eqz
        simp [wS, isL, k0, k1, k3, k4, l2, d1, eqz, pk, kAppend, lim, -z_free, -getElem?_pos]
        exact ⟨q2, cs ++ [c], by omega, good_new hg hc', by simp; omega, by repeat (first | exact A2 | refine Al.set ?_ rfl | refine Al.low ?_ (by decide)), by simp [l2], by simp [l2]⟩
    · rintro e ⟨p', cs, hp, hg, hl, A, h0, h3⟩
      have ln := A.len
      simp only [List.length_nil, Nat.mul_zero, Nat.add_zero] at hp hl
      obtain ⟨ok, sl⟩ := sort_ok hg (by omega) (by omega)
      have hn : ints? (cs.map clD) = none := by
        cases cs with
        | nil => exact absurd hg.1 (by simp)
        | cons c r => rfl
      have hpr := pairs_of cs hg.2.2
      have hlt : cs.length < 64 := by omega
      rw [z_unl, nxt_nx, go]
      refine wS_of (fl := .rt (.nt ((cs.mergeSort prLe).map clD))) (e := e) (by simp [h3, kSorted, hn, hpr, hlt, kTupN]) ?_
      exact ⟨_, _, rfl, fin_mu rfl (by decide) (by simp [ln]) h0, hQ p' _ (by omega) ok⟩
  obtain ⟨r, as, e, q, cs, h1, h2, rfl, rfl⟩ := key (fun r as => ∃ (q : Pk) (cs : List Cell), q.t ≤ p.t + 30 ∧ okFl cs ∧ r = .nt (cs.map clD) ∧ as = [.mu .bor (penK q)]) (fun q cs h1 h2 => ⟨q, cs, h1, h2, rfl, rfl⟩)
  exact ⟨q, cs, h1, h2, e⟩
end
end L77

end
section
set_option linter.all false
set_option autoImplicit false
set_option Elab.async false
set_option maxRecDepth 100000
namespace T3
open PySem PySem.Spec L2
section
variable {env : Sl} {i j : Nat} {m : Md} {fl : List PyData} {here held rl : PyData} {past : List PyData} {nm : Str} {F : FnD} {fa : EA} {fv : EE}
@[simp] theorem fldR_floor : fldR "floor" (.tb fl here held rl past) = some (.nt fl) := by rfl
@[simp] theorem fldR_here : fldR "here" (.tb fl here held rl past) = some (.pd here) := by rfl
@[simp] theorem fldR_held : fldR "held" (.tb fl here held rl past) = some (.pd held) := by rfl
@[simp] theorem fldR_rolled : fldR "rolled" (.tb fl here held rl past) = some (.pd rl) := by rfl
@[simp] theorem fldP_here {y : PyData} : fldP "here" y (.tb fl here held rl past) = some (.tb fl y held rl past) := by rfl
@[simp] theorem fldP_held {y : PyData} : fldP "held" y (.tb fl here held rl past) = some (.tb fl here y rl past) := by rfl
@[simp] theorem fldP_rolled {y : PyData} : fldP "rolled" y (.tb fl here held rl past) = some (.tb fl here held y past) := by rfl
@[simp] theorem z_fld : eFld i nm env = (match env[i]? with
  | some (some (.mu _ c)) => match fldR nm c with
    | some r => some (r, env)
    | none => none
  | _ => none) := rfl
@[simp] theorem z_fldT : sFldT i nm fv env = (match fv env with
  | some (d, e1) => match pdOf d with
    | some y => match e1[i]? with
      | some (some (.mu m c)) => if m = .fro then none else match fldP nm y c with
        | some c' => some (.nx, e1.set i (some (.mu m c')))
        | none => none
      | _ => none
    | none => none
  | none => none) := rfl
@[simp] theorem z_pastKeep : sPastKeep i env = (match env[i]? with
  | some (some (.mu m (.tb fl here held rl past))) => if m = .fro then none else if past.length ≤ 80000 then some (.nx, env.set i (some (.mu m (.tb fl here held rl (past ++ [.tuple [here, held, rl]]))))) else none
  | _ => none) := rfl
@[simp] theorem z_meth : eMeth i F fa env = (if isTb env i = true then eCall F (eCons (eVar i) fa) env else none) := rfl
@[simp] theorem z_isT : eIsT i env = (if isTb env i = true then some (.pd (.bool true), env) else none) := rfl
@[simp] theorem z_eqT : eEqT i j F env = (if (isTb env i && isTb env j) = true then eCall F (eCons (eVar i) (eCons (eVar j) eNil)) env else none) := rfl
@[simp] theorem z_isTb : isTb env i = (match env[i]? with
  | some (some (.mu _ (.tb ..))) => true
  | _ => false) := rfl
end
end T3

end
section
set_option linter.all false
set_option autoImplicit false
set_option Elab.async false
set_option maxRecDepth 100000
set_option maxHeartbeats 4000000
namespace L77
open PySem L2 T3 MM
noncomputable section
abbrev tbC (F : List Cell) (c : Cell) (l : Ly) (ms : List Int) (n : Int) (past : List PyData) : Ct := .tb (F.map clD) (stD c l) (.tuple (ms.map .int)) (.int n) past
theorem tstand_sp (fl : List PyData) (here held rl : PyData) (past : List PyData) : f_Table_stand [.mu .bor (.tb fl here held rl past)] = some (.pd here, [.mu .bor (.tb fl here held rl past)]) := by
  unfold f_Table_stand
  rw [run_of (e := [some (.mu .bor (.tb fl here held rl past))]) rfl]
  simp [m_Table_stand]
theorem tmarks_sp (fl : List PyData) (here held rl : PyData) (past : List PyData) : f_Table_marks [.mu .bor (.tb fl here held rl past)] = some (.pd held, [.mu .bor (.tb fl here held rl past)]) := by
  unfold f_Table_marks
  rw [run_of (e := [some (.mu .bor (.tb fl here held rl past))]) rfl]
  simp [m_Table_marks]
theorem trolls_sp (fl : List PyData) (here held rl : PyData) (past : List PyData) : f_Table_rolls [.mu .bor (.tb fl here held rl past)] = some (.pd rl, [.mu .bor (.tb fl here held rl past)]) := by
  unfold f_Table_rolls
  rw [run_of (e := [some (.mu .bor (.tb fl here held rl past))]) rfl]
  simp [m_Table_rolls]
theorem tkeep_sp (fl : List PyData) (here held rl : PyData) (past : List PyData) (hp : past.length ≤ 80000) (h2 r2 : PyData) (ms : List PyData) (s : S) (hs : isT s ms) : f_Table_keep [.mu .bor (.tb fl here held rl past), .pd h2, s, .pd r2] = some (.pd .none, [.mu .bor (.tb fl h2 (.tuple ms) r2 (past ++ [.tuple [here, held, rl]])), .pd h2, s, .pd r2]) := by
  unfold f_Table_keep
  rcases hs with rfl | rfl
  · rw [run_of (e := [some (.mu .bor (.tb fl here held rl past)), some (.pd h2), some (.pd (.tuple ms)), some (.pd r2)]) rfl]
    simp [m_Table_keep, hp]
  · rw [run_of (e := [some (.mu .bor (.tb fl here held rl past)), some (.pd h2), some (.nt ms), some (.pd r2)]) rfl]
    simp [m_Table_keep, hp]
theorem need_mark_sp (i : Int) (h0 : 0 ≤ i) (h1 : i ≤ 999) : f_need_mark [.pd (.int i)] = some (.pd .none, [.pd (.int i)]) := by
  unfold f_need_mark
  rw [run_of (e := [some (.pd (.int i))]) rfl]
  simp [m_need_mark, is_whole_int, v_MOST_MARK, h0, h1]
theorem need_spot_sp (F : List Cell) (h9 : F.length ≤ 9) (i : Int) (h0 : 0 ≤ i) (h1 : i < 6 + F.length) : f_need_spot [.nt (F.map clD), .pd (.int i)] = some (.pd .none, [.nt (F.map clD), .pd (.int i)]) := by
  have sp : f_is_spot [.nt (F.map clD), .pd (.int i)] = some (.pd (.bool true), [.nt (F.map clD), .pd (.int i)]) := by
    unfold f_is_spot
    rw [run_of (e := [some (.nt (F.map clD)), some (.pd (.int i))]) rfl]
    have : decide (i ≤ 6 + (F.length : Int) - 1) = true := by rw [decide_eq_true_eq]; omega
    simp [m_is_spot, is_whole_int, v_FACES, oLen, kAdd, kSub, oI, h0, this]
  unfold f_need_spot
  rw [run_of (e := [some (.nt (F.map clD)), some (.pd (.int i))]) rfl]
  simp [m_need_spot, sp]
theorem ttrade_sp (F : List Cell) (h9 : F.length ≤ 9) (here : PyData) (ms : List Int) (hm : ms.length = 6 + F.length) (rl : PyData) (past : List PyData) (hp : past.length ≤ 80000) (i j : Int) (i0 : 0 ≤ i) (i1 : i < 6 + F.length) (j0 : 0 ≤ j) (j1 : j < 6 + F.length) :
    f_Table_trade [.mu .bor (.tb (F.map clD) here (.tuple (ms.map .int)) rl past), .pd (.int i), .pd (.int j)] = some (.pd .none, [.mu .bor (.tb (F.map clD) here (.tuple ((held ms [(i, j)]).map .int)) rl (past ++ [.tuple [here, .tuple (ms.map .int), rl]])), .pd (.int i), .pd (.int j)]) := by
  unfold f_Table_trade
  rw [run_of (e := [some (.mu .bor (.tb (F.map clD) here (.tuple (ms.map .int)) rl past)), some (.pd (.int i)), some (.pd (.int j))]) rfl]
  have n1 := need_spot_sp F h9 i i0 i1
  have n2 := need_spot_sp F h9 j j0 j1
  have tr := held_traded_sp [(i, j)] (ms.map .int) (.pd (.tuple (ms.map .int))) (.inl rfl) (fun p hp => by
    rw [List.mem_singleton.mp hp]
    simp [hm]
    omega)
  rw [held_map] at tr
  have k := tkeep_sp (F.map clD) here (.tuple (ms.map .int)) rl past hp here rl ((held ms [(i, j)]).map .int) (.nt ((held ms [(i, j)]).map .int)) (.inr rfl)
  simp [clD] at tr
  simp [m_Table_trade, n1, n2, tr, k]
theorem tmark_sp (F : List Cell) (h9 : F.length ≤ 9) (here : PyData) (ms : List Int) (hm : ms.length = 6 + F.length) (rl : PyData) (past : List PyData) (hp : past.length ≤ 80000) (i v : Int) (i0 : 0 ≤ i) (i1 : i < 6 + F.length) (v0 : 0 ≤ v) (v1 : v ≤ 999) :
    f_Table_mark [.mu .bor (.tb (F.map clD) here (.tuple (ms.map .int)) rl past), .pd (.int i), .pd (.int v)] = some (.pd .none, [.mu .bor (.tb (F.map clD) here (.tuple ((ms.set i.toNat v).map .int)) rl (past ++ [.tuple [here, .tuple (ms.map .int), rl]])), .pd (.int i), .pd (.int v)]) := by
  unfold f_Table_mark
  rw [run_of (e := [some (.mu .bor (.tb (F.map clD) here (.tuple (ms.map .int)) rl past)), some (.pd (.int i)), some (.pd (.int v)), none]) rfl]
  have n1 := need_spot_sp F h9 i i0 i1
  have n2 := need_mark_sp v v0 v1
  have k := tkeep_sp (F.map clD) here (.tuple (ms.map .int)) rl past hp here rl ((ms.set i.toNat v).map .int) (.nt ((ms.set i.toNat v).map .int)) (.inr rfl)
  have ix : ixN ms.length i = some i.toNat := by
    unfold ixN
    rw [if_pos i0, if_pos (by omega)]
  have st : (ms.map PyData.int).set i.toNat (.int v) = (ms.set i.toNat v).map .int := by rw [List.map_set]
  simp [m_Table_mark, n1, n2, oList, putL, ix, kTupN, -List.map_set]
  rw [st]
  simp [kTupN, k, -List.map_set]
end
end L77

end
section
set_option linter.all false
set_option autoImplicit false
set_option Elab.async false
set_option maxRecDepth 100000
set_option maxHeartbeats 4000000
namespace L77
open PySem L2 T3 MM
noncomputable section
def enL (f : Nat → Nat) (k n : Nat) : List PyData := (List.range' k (n - k)).map fun j => .tuple [.int ((j : Nat) : Int), .int ((f j : Nat) : Int)]
theorem enL_all (n : Nat) (f : Nat → Nat) : enumD (exD n f) 0 = enL f 0 n := by
  unfold enumD enL exD nD
  rw [List.length_map, List.length_map, List.length_range, Nat.sub_zero, ← List.range_eq_range']
  refine List.map_congr_left fun k hk => ?_
  have h := List.mem_range.mp hk
  simp [List.getD_eq_getElem?_getD, List.getElem?_range h]
theorem enL_cons {f : Nat → Nat} {k n : Nat} (h : k < n) : enL f k n = .tuple [.int ((k : Nat) : Int), .int ((f k : Nat) : Int)] :: enL f (k + 1) n := by
  unfold enL
  rw [show n - k = (n - (k + 1)) + 1 by omega, List.range'_succ, List.map_cons]
theorem enL_nil {f : Nat → Nat} {k n : Nat} (h : n ≤ k) : enL f k n = [] := by
  unfold enL
  rw [Nat.sub_eq_zero_of_le h]
  rfl
theorem nmu_isT {s : S} {xs : List PyData} (h : isT s xs) : nmu s = true := by rcases h with rfl | rfl <;> rfl
def ExI (n : Nat) (f : Nat → Nat) (ms : List Int) (s : S) (rest : List PyData) (e : Sl) : Prop := ∃ (k : Nat) (acc : List Int), k ≤ n ∧ rest = enL f k n ∧ acc.length = n ∧ (∀ i, i < k → acc[f i]? = ms[i]?) ∧
  Al 2 5 e ∧ e[0]? = some (some (.nt (exD n f))) ∧ e[1]? = some (some s) ∧ e[2]? = some (some (.mu .own (.ls (acc.map .int))))
theorem exchanged_marks_sp {n : Nat} {f : Nat → Nat} (pm : Pm n f) (hn : n ≤ 100) (ms : List Int) (hm : ms.length = n) (s : S) (hs : isT s (ms.map .int)) : ∃ rs : List Int, rs.length = n ∧ (∀ i, i < n → rs[f i]? = ms[i]?) ∧ f_exchanged_marks [.nt (exD n f), s] = some (.nt (rs.map .int), [.nt (exD n f), s]) := by
  have key : ∀ Q : R → List S → Prop, (∀ rs : List Int, rs.length = n → (∀ i, i < n → rs[f i]? = ms[i]?) → Q (.nt (rs.map .int)) [.nt (exD n f), s]) → wF f_exchanged_marks [.nt (exD n f), s] Q := by
    intro Q hQ
    refine wF_run (e := startE 5 [.nt (exD n f), s]) rfl ?_
    have A : Al 2 5 (startE 5 [.nt (exD n f), s]) := al_start rfl (by decide)
    have h0 : (startE 5 [.nt (exD n f), s])[0]? = some (some (.nt (exD n f))) := rfl
    have h1 : (startE 5 [.nt (exD n f), s])[1]? = some (some s) := rfl
    generalize startE 5 [.nt (exD n f), s] = e at *
    have fr := A.fre
    have ln := A.len
    refine wS_seq ?_
    refine wS_of (fl := .nx) (e := e.set 2 (some (.mu .own (.ls (ms.map .int))))) (by rcases hs with rfl | rfl <;> simp [h1, oList, free_ne_set, fr, ln, -z_free, -getElem?_pos]) ?_
    rw [nxt_nx, go]
    refine wS_seq ?_
    refine wS_for (xs := enL f 0 n) (lk := none) (e := e.set 2 (some (.mu .own (.ls (ms.map .int))))) (by simp [h0, tupOf, enL_all, -getElem?_pos]) (ExI n f ms s) ⟨0, ms, Nat.zero_le _, rfl, hm, fun i hi => absurd hi (Nat.not_lt_zero _), A.set rfl, by simpa using h0, by simpa using h1, by simp [ln]⟩ ?_ ?_
    · rintro w rest e ⟨k, acc, hk, er, al, ha, A, h0, h1, h2⟩
      have fr := A.fre
      have ln := A.len
      have hk2 : k < n := by
        rcases Nat.lt_or_ge k n with h | h
        · exact h
        · rw [enL_nil h] at er
          cases er
      rw [enL_cons hk2] at er
      simp only [List.cons.injEq] at er
      obtain ⟨rfl, rfl⟩ := er
      have fk := pm.lt k hk2
      have mk : ms[k]? = some (ms[k]'(by omega)) := List.getElem?_eq_getElem (by omega)
      have ix : oIx [.tuple (ms.map .int), .int ((k : Nat) : Int)] = some (.int (ms[k]'(by omega))) := by
        show atI (ms.map PyData.int) ((k : Nat) : Int) = _
        exact atI_at (by omega) (by simp [mk])
      have nx : ixN n ((f k : Nat) : Int) = some (f k) := by
        unfold ixN
        rw [if_pos (by omega), if_pos (by omega)]
        simp
      have go2 : (sAsg (eIx (eVar 1) (eVar 3)) (gS (eVar 2) (eVar 4))) ((e.set 3 (some (.pd (.int ((k : Nat) : Int))))).set 4 (some (.pd (.int ((f k : Nat) : Int))))) = some (.nx, ((e.set 3 (some (.pd (.int ((k : Nat) : Int))))).set 4 (some (.pd (.int ((f k : Nat) : Int))))).set 2 (some (.mu .own (.ls ((acc.set (f k) (ms[k]'(by omega))).map .int))))) := by
        rcases hs with rfl | rfl <;> simp [h0, h1, h2, ln, ix, putL, al, nx, -getElem?_pos]
      have f4 : free (e.set 3 (some (.pd (.int ((k : Nat) : Int))))) 4 = true := by simp [free_ne_set, fr, -z_free]
      simp only [gW, z_gT, z_gCn, z_gN, z_gNl, z_setR, f4, fr 3 (by decide) (by decide), List.length_cons, List.length_nil, Nat.zero_add, Nat.reduceAdd, if_true]
      rw [go]
      refine wS_of go2 ?_
      refine ⟨k + 1, acc.set (f k) (ms[k]'(by omega)), hk2, rfl, by simp [al], fun i hi => ?_, by repeat (first | exact A | refine Al.set ?_ rfl | refine Al.low ?_ (by decide)), by simpa using h0, by simpa using h1, by simp [ln]⟩
      rw [List.getElem?_set]
      by_cases z : i = k
      · subst z
        rw [if_pos rfl, if_pos (by omega), mk]
      · rw [if_neg (fun y => z (pm.inj i k (by omega) hk2 y.symm)), ha i (by omega)]
    · rintro e ⟨k, acc, hk, er, al, ha, A, h0, h1, h2⟩
      have ln := A.len
      have hk2 : k = n := by
        rcases Nat.lt_or_ge k n with h | h
        · rw [enL_cons h] at er
          cases er
        · omega
      subst hk2
      rw [z_unl, nxt_nx, go]
      refine wS_of (fl := .rt (.nt (acc.map .int))) (e := e) (by simp [h2, kTupN]) ?_
      exact ⟨_, _, rfl, fin_pd (by simp [nmu_isT hs]; rfl) (by simp [ln]), hQ acc al ha⟩
  obtain ⟨r, as, e, rs, h1, h2, rfl, rfl⟩ := key (fun r as => ∃ rs : List Int, rs.length = n ∧ (∀ i, i < n → rs[f i]? = ms[i]?) ∧ r = .nt (rs.map .int) ∧ as = [.nt (exD n f), s]) (fun rs h1 h2 => ⟨rs, h1, h2, rfl, rfl⟩)
  exact ⟨rs, h1, h2, e⟩
end
end L77

end
section
set_option linter.all false
set_option autoImplicit false
set_option Elab.async false
set_option maxRecDepth 100000
set_option maxHeartbeats 4000000
namespace L77
open PySem L2 T3 MM
noncomputable section
theorem held_of {n : Nat} {T : List (Int × Int)} {ms rs : List Int} (hm : ms.length = n) (hr : rs.length = n) (h : ∀ i, i < n → rs[mv n T i]? = ms[i]?) : rs = held ms T := by
  refine List.ext_getElem? fun j => ?_
  by_cases hj : j < n
  · obtain ⟨i, hi, rfl⟩ := mv_sur T hj
    rw [h i hi, held_get ms T hm hi]
  · rw [List.getElem?_eq_none (by omega), List.getElem?_eq_none (by rw [held_len]; omega)]
theorem rep_1 (ds : List Dir) : rep 1 ds = ds := by simp [rep]
structure SitT (F : List Cell) (c : Cell) (l : Ly) : Prop where
  fl : okFl F
  mem : c ∈ F
  ly : l ∈ lyings
theorem tplay_sp {F : List Cell} {c : Cell} {l : Ly} (h : SitT F c l) (ds : List Dir) (lt : letR F c ds) (ln : ds.length ≤ 60) (ms : List Int) (hm : ms.length = 6 + F.length) (n : Int) (past : List PyData) (hp : past.length ≤ 80000) :
    FD1 f_Table_play [.mu .bor (tbC F c l ms n past), .pd (.str (rowS ds))] = some (.pd .none, [.mu .bor (tbC F (endC c ds) (endL l ds) (held ms (trd F c l ds)) (n + ds.length) (past ++ [.tuple [stD c l, .tuple (ms.map .int), .int n]])), .pd (.str (rowS ds))]) := by
  have far : Far F c l ds 1 := ⟨h.fl, h.mem, h.ly, ln, by rw [rep_1]; exact lt, by decide⟩
  have sf := stand_far_sp far
  have ef := exchange_far_sp far
  rw [rep_1] at sf ef
  change f_stand_far [_, _, _, .pd (.int 1)] = some (_, [_, _, _, .pd (.int 1)]) at sf
  change f_exchange_far [_, _, _, .pd (.int 1)] = some (_, [_, _, _, .pd (.int 1)]) at ef
  have h9 := h.fl.2.1
  obtain ⟨rs, r1, r2, em⟩ := exchanged_marks_sp (exM_pm F c l ds) (by omega) ms hm (.pd (.tuple (ms.map .int))) (.inl rfl)
  have he := held_of (T := trd F c l ds) hm r1 r2
  subst he
  have k := tkeep_sp (F.map clD) (stD c l) (.tuple (ms.map .int)) (.int n) past hp (stD (endC c ds) (endL l ds)) (.int (n + ds.length)) ((held ms (trd F c l ds)).map .int) (.nt ((held ms (trd F c l ds)).map .int)) (.inr rfl)
  refine FD_of1 (s := .pd (.int 1)) ?_ rfl
  show f_Table_play [_, _, _] = some (_, [_, _, _])
  unfold f_Table_play
  rw [run_of (e := [some (.mu .bor (tbC F c l ms n past)), some (.pd (.str (rowS ds))), some (.pd (.int 1)), none, none]) rfl]
  have rl := row_len ds
  have ol : oLen [.str (rowS ds)] = some (.int ds.length) := by
    have : ds.length ≤ 1000000 := by omega
    simp [oLen, rl, this]
  have cm : CMul (ds.length : Int) 1 := cmul_r _ _ (by decide)
  simp [m_Table_play, sf, ef, em, ol, cm, kAdd, kMul, oI, k]
theorem troll_sp {F : List Cell} {c : Cell} {l : Ly} (h : SitT F c l) (d : Dir) (lt : stepC c d ∈ F) (ms : List Int) (hm : ms.length = 6 + F.length) (n : Int) (past : List PyData) (hp : past.length ≤ 80000) :
    f_Table_roll [.mu .bor (tbC F c l ms n past), .pd (.str (chS d))] = some (.pd .none, [.mu .bor (tbC F (stepC c d) (roll l d) (held ms (trd F c l [d])) (n + 1) (past ++ [.tuple [stD c l, .tuple (ms.map .int), .int n]])), .pd (.str (chS d))]) := by
  have p := tplay_sp h [d] ⟨lt, trivial⟩ (by simp) ms hm n past hp
  have nl := need_letter_sp d
  have r1 : rowS [d] = chS d := rfl
  rw [r1] at p
  unfold f_Table_roll
  rw [run_of (e := [some (.mu .bor (tbC F c l ms n past)), some (.pd (.str (chS d)))]) rfl]
  simp [m_Table_roll, nl, p]
  rfl
end
end L77

end
section
set_option linter.all false
set_option autoImplicit false
set_option Elab.async false
set_option maxRecDepth 100000
set_option maxHeartbeats 4000000
namespace L77
open PySem L2 T3 MM
noncomputable section
theorem mkT_sp {F : List Cell} {c : Cell} {l : Ly} (h : SitT F c l) {ms : List Int} (hm : okM (6 + F.length) ms) {d4 : R} (hd : d4 = .nt (ms.map .int) ∨ d4 = .pd (.tuple (ms.map .int))) {fa : EA} {env e1 : Sl} (hf : fa env = some ([.nt (F.map clD), .pd (clD c), .pd (lyD l), d4], e1)) :
    eMkT g_Table_1 g_Table_2 g_Table_3 g_Table_4 fa env = some (.tmp (tbC F c l ms 0 []), e1) := by
  have n1 := need_floor_sp F h.fl
  have n2 := need_cell_sp F c h.mem (h.fl.2.2.1 c h.mem)
  have n3 := need_lying_sp l h.ly
  have h9 := h.fl.2.1
  unfold eMkT
  rw [hf]
  rcases hd with rfl | rfl
  · have n4 := need_marks_sp F ms (.nt (ms.map .int)) (.inr rfl) h9 hm
    simp only [pdOf, sR]
    rw [if_pos ⟨fun x => by simp [g_Table_1, n1], fun x => by simp [g_Table_2, n2], fun x => by simp [g_Table_3, n3], fun x => by simp [g_Table_4, n4]⟩]
    rfl
  · have n4 := need_marks_sp F ms (.pd (.tuple (ms.map .int))) (.inl rfl) h9 hm
    simp only [pdOf, sR]
    rw [if_pos ⟨fun x => by simp [g_Table_1, n1], fun x => by simp [g_Table_2, n2], fun x => by simp [g_Table_3, n3], fun x => by simp [g_Table_4, n4]⟩]
    rfl
theorem teq_sp (F : List Cell) (c : Cell) (l : Ly) (ms : List Int) (n n2 : Int) (p p2 : List PyData) : f_Table___eq__ [.mu .bor (tbC F c l ms n p), .mu .bor (tbC F c l ms n2 p2)] = some (.pd (.bool true), [.mu .bor (tbC F c l ms n p), .mu .bor (tbC F c l ms n2 p2)]) := by
  unfold f_Table___eq__
  rw [run_of (e := [some (.mu .bor (tbC F c l ms n p)), some (.mu .bor (tbC F c l ms n2 p2))]) rfl]
  have q1 : oEq [.tuple (F.map clD), .tuple (F.map clD)] = some (.bool true) := pl_eq (n := 3) (m := 3) (pl_tup fun _ _ => rfl) (pl_tup fun _ _ => rfl) (by decide) (by decide) rfl
  have q2 : oEq [stD c l, stD c l] = some (.bool true) := pl_eq (n := 3) (m := 3) rfl rfl (by decide) (by decide) rfl
  have q3 : oEq [.tuple (ms.map .int), .tuple (ms.map .int)] = some (.bool true) := pl_eq (n := 3) (m := 3) (pl_tup fun _ _ => rfl) (pl_tup fun _ _ => rfl) (by decide) (by decide) rfl
  simp [m_Table___eq__, q1, q2, q3]
end
end L77

end
section
set_option linter.all false
set_option autoImplicit false
set_option Elab.async false
set_option maxRecDepth 100000
set_option maxHeartbeats 4000000
namespace L77
open PySem L2 T3 MM
noncomputable section
theorem sw1_inv (a b k : Nat) : sw1 a b (sw1 a b k) = k := by
  unfold sw1
  by_cases h1 : k = a <;> by_cases h2 : k = b <;> by_cases h3 : b = a <;> simp_all
theorem sw1_lt {n a b k : Nat} (ha : a < n) (hb : b < n) (hk : k < n) : sw1 a b k < n := by
  unfold sw1
  split
  · exact hb
  · split
    · exact ha
    · exact hk
theorem held_one {n : Nat} {ms : List Int} (hm : ms.length = n) {a b : Nat} (ha : a < n) (hb : b < n) {k : Nat} (hk : k < n) : (held ms [(((a : Nat) : Int), ((b : Nat) : Int))])[k]? = ms[sw1 a b k]? := by
  have h := held_get ms [(((a : Nat) : Int), ((b : Nat) : Int))] hm (sw1_lt ha hb hk)
  rw [mv_one (by simp; omega) (by simp; omega) (sw1_lt ha hb hk)] at h
  simp only [Int.toNat_natCast] at h
  rw [sw1_inv] at h
  exact h
theorem moved_same {n : Nat} {ms : List Int} (hm : ms.length = n) (T : List (Int × Int)) {i j : Nat} (hi : i < n) (hj : j < n) (v : Int) :
    (held (held ms T) [(((mv n T i : Nat) : Int), ((mv n T j : Nat) : Int))]).set (mv n T j) v = held ((held ms [(((i : Nat) : Int), ((j : Nat) : Int))]).set j v) T := by
  have li := mv_lt (ps := T) hi
  have lj := mv_lt (ps := T) hj
  refine held_of (n := n) (by simp [held_len, hm]) (by simp [held_len, hm]) fun k hk => ?_
  have lk := mv_lt (ps := T) hk
  rw [List.getElem?_set, List.getElem?_set]
  by_cases z : j = k
  · subst z
    rw [if_pos rfl, if_pos rfl, if_pos (by simp [held_len, hm, lj]), if_pos (by simp [held_len, hm, hj])]
  · rw [if_neg z, if_neg (fun y => z (mv_inj hj hk y)), held_one (by rw [held_len, hm]) li lj lk, held_one hm hi hj hk]
    have e : sw1 (mv n T i) (mv n T j) (mv n T k) = mv n T (sw1 i j k) := by
      unfold sw1
      by_cases h1 : k = i
      · subst h1; simp
      · rw [if_neg h1, if_neg (fun y => h1 (mv_inj hk hi y))]
        by_cases h2 : k = j
        · subst h2; simp
        · rw [if_neg h2, if_neg (fun y => h2 (mv_inj hk hj y))]
    rw [e, held_get ms T hm (sw1_lt hi hj hk)]
end
end L77

end
section
set_option linter.all false
set_option autoImplicit false
set_option Elab.async false
set_option maxRecDepth 100000
set_option maxHeartbeats 8000000
namespace L77
open PySem L2 T3 MM
noncomputable section
theorem ints_map (xs : List Int) : ints? (xs.map .int) = some xs := by
  induction xs with
  | nil => rfl
  | cons x xs ih => simp [ints?, ih]
theorem ne_same {x : PyData} {n : Nat} (h : pl n x = true) (hn : n ≤ 60) : oNe [x, x] = some (.bool false) := pl_ne h h hn hn rfl
theorem pl_ints (xs : List Int) : pl 1 (.tuple (xs.map .int)) = true := pl_tup fun _ _ => rfl
theorem pl_intsL (xs : List Int) : pl 1 (.list (xs.map .int)) = true := pl_lst fun _ _ => rfl
abbrev MvE (p : Pk) (F : List Cell) (c : Cell) (l : Ly) (ms : List Int) (ds : List Dir) (s5 s6 s7 s8 s9 s10 : Option S) : Sl := [some (.mu .bor (penK p)), some (.nt (F.map clD)), some (.pd (stD c l)), some (.pd (.tuple (ms.map .int))), some (.pd (.str (rowS ds))), s5, s6, s7, s8, s9, s10]
theorem moved_right_sp {F : List Cell} {c : Cell} {l : Ly} (h : SitT F c l) {ms : List Int} (hm : okM (6 + F.length) ms) (ds : List Dir) (lt : letR F c ds) (ln : ds.length ≤ 60) (p : Pk) (ht : p.t ≤ 100000000) : ∃ q : Pk, q.t ≤ p.t + 3 ∧ f__law_moved_right [.mu .bor (penK p), .nt (F.map clD), .pd (stD c l), .pd (.tuple (ms.map .int)), .pd (.str (rowS ds))] = some (.pd (.bool true), [.mu .bor (penK q), .nt (F.map clD), .pd (stD c l), .pd (.tuple (ms.map .int)), .pd (.str (rowS ds))]) := by
  have h9 := h.fl.2.1
  have sit : Sit F c l ds := ⟨h.fl, h.mem, h.ly, lt, by omega⟩
  have ex := exchange_sp sit
  have mb := marks_behind_sp sit ms (.pd (.tuple (ms.map .int))) (.inl rfl) hm
  obtain ⟨i, p1, i0, i1, hp1, d1⟩ := draw2_sp p ((6 + F.length : Nat) : Int) (by omega) (by omega) (by omega)
  obtain ⟨j, p2, j0, j1, hp2, d2⟩ := draw2_sp p1 ((6 + F.length : Nat) : Int) (by omega) (by omega) (by omega)
  obtain ⟨v, p3, v0, v1, hp3, d3⟩ := draw2_sp p2 1000 (by omega) (by omega) (by omega)
  obtain ⟨a, rfl⟩ : ∃ a : Nat, i = a := ⟨i.toNat, by omega⟩
  obtain ⟨b, rfl⟩ : ∃ b : Nat, j = b := ⟨j.toNat, by omega⟩
  have ha : a < 6 + F.length := by omega
  have hb : b < 6 + F.length := by omega
  refine ⟨p3, by omega, ?_⟩
  have ol : oLen [.tuple (ms.map .int)] = some (.int ((6 + F.length : Nat) : Int)) := by simp [oLen, hm.1]
  have x0 : oIx [stD c l, .int 0] = some (clD c) := rfl
  have x1 : oIx [stD c l, .int 1] = some (lyD l) := rfl
  have exi : ∀ k, k < 6 + F.length → oIx [.tuple ((exI (6 + F.length) (trd F c l ds)).map .int), .int ((k : Nat) : Int)] = some (.int ((mv (6 + F.length) (trd F c l ds) k : Nat) : Int)) := fun k hk => by
    show atI _ _ = _
    exact atI_at (by omega) (by simp [exI, List.getElem?_range hk])
  have la := mv_lt (ps := trd F c l ds) ha
  have lb := mv_lt (ps := trd F c l ds) hb
  have key : wF f__law_moved_right [.mu .bor (penK p), .nt (F.map clD), .pd (stD c l), .pd (.tuple (ms.map .int)), .pd (.str (rowS ds))] (fun r as => r = .pd (.bool true) ∧ as = [.mu .bor (penK p3), .nt (F.map clD), .pd (stD c l), .pd (.tuple (ms.map .int)), .pd (.str (rowS ds))]) := by
    refine wF_run (e := MvE p F c l ms ds none none none none none none) rfl ?_
    -- exchange
    refine wS_seq (wS_of (fl := .nx) (e := MvE p F c l ms ds (some (.nt ((exI (6 + F.length) (trd F c l ds)).map .int))) none none none none none) (by simp [ex]) ?_)
    rw [nxt_nx, go]
    generalize hM : (exI (6 + F.length) (trd F c l ds)).map PyData.int = M at *
    -- two tables
    have mk : ∀ (e : Sl), e[1]? = some (some (.nt (F.map clD))) → e[2]? = some (some (.pd (stD c l))) → e[3]? = some (some (.pd (.tuple (ms.map .int)))) → eMkT g_Table_1 g_Table_2 g_Table_3 g_Table_4 (eCons (eVar 1) (eCons (eIx (eVar 2) (eC (.int 0))) (eCons (eIx (eVar 2) (eC (.int 1))) (eCons (eVar 3) eNil)))) e = some (.tmp (tbC F c l ms 0 []), e) := fun e e1 e2 e3 =>
      mkT_sp h hm (d4 := .pd (.tuple (ms.map .int))) (.inr rfl) (by simp [e1, e2, e3, x0, x1, -getElem?_pos])
    refine wS_seq (wS_of (fl := .nx) (e := MvE p F c l ms ds (some (.nt M)) (some (.mu .own (tbC F c l ms 0 []))) (some (.mu .own (tbC F c l ms 0 []))) none none none) (by simp [mk]) ?_)
    rw [nxt_nx, go]
    -- draws
    refine wS_seq (wS_of (fl := .nx) (e := MvE p3 F c l ms ds (some (.nt M)) (some (.mu .own (tbC F c l ms 0 []))) (some (.mu .own (tbC F c l ms 0 []))) (some (.pd (.int a))) (some (.pd (.int b))) (some (.pd (.int v)))) (by simp [ol, d1, d2, d3, -Int.natCast_add]) ?_)
    rw [nxt_nx, go]
    -- ahead
    have t1 := ttrade_sp F h9 (stD c l) ms hm.1 (.int 0) [] (by simp) a b (by omega) (by omega) (by omega) (by omega)
    simp only [List.nil_append] at t1
    generalize hP1 : [PyData.tuple [stD c l, .tuple (ms.map .int), .int 0]] = P1 at t1
    have lP1 : P1.length = 1 := by rw [← hP1]; rfl
    have l1 : (held ms [((a : Int), (b : Int))]).length = 6 + F.length := by rw [held_len]; exact hm.1
    refine wS_seq (wS_of (fl := .nx) (e := MvE p3 F c l ms ds (some (.nt M)) (some (.mu .own (tbC F c l (held ms [((a : Int), (b : Int))]) 0 P1))) (some (.mu .own (tbC F c l ms 0 []))) (some (.pd (.int a))) (some (.pd (.int b))) (some (.pd (.int v)))) (by simp [t1]) ?_)
    rw [nxt_nx, go]
    have t2 := tmark_sp F h9 (stD c l) (held ms [((a : Int), (b : Int))]) l1 (.int 0) P1 (by omega) b v (by omega) (by omega) v0 (by omega)
    rw [Int.toNat_natCast] at t2
    generalize hP2 : P1 ++ [PyData.tuple [stD c l, .tuple ((held ms [((a : Int), (b : Int))]).map .int), .int 0]] = P2 at t2
    have lP2 : P2.length = 2 := by rw [← hP2]; simp [lP1]
    have l2 : ((held ms [((a : Int), (b : Int))]).set b v).length = 6 + F.length := by rw [List.length_set]; exact l1
    have same := moved_same hm.1 (trd F c l ds) ha hb v
    generalize hm2 : (held ms [((a : Int), (b : Int))]).set b v = ms2 at *
    refine wS_seq (wS_of (fl := .nx) (e := MvE p3 F c l ms ds (some (.nt M)) (some (.mu .own (tbC F c l ms2 0 P2))) (some (.mu .own (tbC F c l ms 0 []))) (some (.pd (.int a))) (some (.pd (.int b))) (some (.pd (.int v)))) (by simp [t2]) ?_)
    rw [nxt_nx, go]
    have t3 := tplay_sp h ds lt ln ms2 l2 0 P2 (by omega)
    rw [Int.zero_add] at t3
    generalize hP3 : P2 ++ [PyData.tuple [stD c l, .tuple (ms2.map .int), .int 0]] = P3 at t3
    refine wS_seq (wS_of (fl := .nx) (e := MvE p3 F c l ms ds (some (.nt M)) (some (.mu .own (tbC F (endC c ds) (endL l ds) (held ms2 (trd F c l ds)) (ds.length : Int) P3))) (some (.mu .own (tbC F c l ms 0 []))) (some (.pd (.int a))) (some (.pd (.int b))) (some (.pd (.int v)))) (by simp [t3]) ?_)
    rw [nxt_nx, go]
    -- behind
    have t4 := tplay_sp h ds lt ln ms hm.1 0 [] (by simp)
    simp only [List.nil_append] at t4
    rw [hP1, Int.zero_add] at t4
    refine wS_seq (wS_of (fl := .nx) (e := MvE p3 F c l ms ds (some (.nt M)) (some (.mu .own (tbC F (endC c ds) (endL l ds) (held ms2 (trd F c l ds)) (ds.length : Int) P3))) (some (.mu .own (tbC F (endC c ds) (endL l ds) (held ms (trd F c l ds)) (ds.length : Int) P1))) (some (.pd (.int a))) (some (.pd (.int b))) (some (.pd (.int v)))) (by simp [t4]) ?_)
    rw [nxt_nx, go]
    -- what is compared
    have mk7 := tmarks_sp (F.map clD) (stD (endC c ds) (endL l ds)) (.tuple ((held ms (trd F c l ds)).map .int)) (.int (ds.length : Int)) P1
    have e1 := ne_same (pl_ints (held ms (trd F c l ds))) (by decide)
    have e2 := ne_same (pl_intsL (ms.mergeSort fun a b => decide (a ≤ b))) (by decide)
    have sp := sort_perm (held_perm (trd F c l ds) ms)
    refine wS_seq (wS_of (fl := .nx) (e := MvE p3 F c l ms ds (some (.nt M)) (some (.mu .own (tbC F (endC c ds) (endL l ds) (held ms2 (trd F c l ds)) (ds.length : Int) P3))) (some (.mu .own (tbC F (endC c ds) (endL l ds) (held ms (trd F c l ds)) (ds.length : Int) P1))) (some (.pd (.int a))) (some (.pd (.int b))) (some (.pd (.int v)))) (by simp [mk7, mb, e1, kSorted, ints_map, sp, e2]) ?_)
    rw [nxt_nx, go]
    have t5 := ttrade_sp F h9 (stD (endC c ds) (endL l ds)) (held ms (trd F c l ds)) (by rw [held_len]; exact hm.1) (.int (ds.length : Int)) P1 (by omega) (mv (6 + F.length) (trd F c l ds) a : Nat) (mv (6 + F.length) (trd F c l ds) b : Nat) (by omega) (by omega) (by omega) (by omega)
    generalize hP4 : P1 ++ [PyData.tuple [stD (endC c ds) (endL l ds), .tuple ((held ms (trd F c l ds)).map .int), .int (ds.length : Int)]] = P4 at t5
    have lP4 : P4.length = 2 := by rw [← hP4]; simp [lP1]
    have xa := exi a ha
    have xb := exi b hb
    refine wS_seq (wS_of (fl := .nx) (e := MvE p3 F c l ms ds (some (.nt M)) (some (.mu .own (tbC F (endC c ds) (endL l ds) (held ms2 (trd F c l ds)) (ds.length : Int) P3))) (some (.mu .own (tbC F (endC c ds) (endL l ds) (held (held ms (trd F c l ds)) [(((mv (6 + F.length) (trd F c l ds) a : Nat) : Int), ((mv (6 + F.length) (trd F c l ds) b : Nat) : Int))]) (ds.length : Int) P4))) (some (.pd (.int a))) (some (.pd (.int b))) (some (.pd (.int v)))) (by simp [xa, xb, t5]) ?_)
    rw [nxt_nx, go]
    have t6 := tmark_sp F h9 (stD (endC c ds) (endL l ds)) (held (held ms (trd F c l ds)) [(((mv (6 + F.length) (trd F c l ds) a : Nat) : Int), ((mv (6 + F.length) (trd F c l ds) b : Nat) : Int))]) (by rw [held_len, held_len]; exact hm.1) (.int (ds.length : Int)) P4 (by omega) (mv (6 + F.length) (trd F c l ds) b : Nat) v (by omega) (by omega) v0 (by omega)
    rw [Int.toNat_natCast, same] at t6
    generalize hP5 : P4 ++ [PyData.tuple [stD (endC c ds) (endL l ds), .tuple ((held (held ms (trd F c l ds)) [(((mv (6 + F.length) (trd F c l ds) a : Nat) : Int), ((mv (6 + F.length) (trd F c l ds) b : Nat) : Int))]).map .int), .int (ds.length : Int)]] = P5 at t6
    refine wS_seq (wS_of (fl := .nx) (e := MvE p3 F c l ms ds (some (.nt M)) (some (.mu .own (tbC F (endC c ds) (endL l ds) (held ms2 (trd F c l ds)) (ds.length : Int) P3))) (some (.mu .own (tbC F (endC c ds) (endL l ds) (held ms2 (trd F c l ds)) (ds.length : Int) P5))) (some (.pd (.int a))) (some (.pd (.int b))) (some (.pd (.int v)))) (by simp [xb, t6]) ?_)
    rw [nxt_nx, go]
    have tq := teq_sp F (endC c ds) (endL l ds) (held ms2 (trd F c l ds)) (ds.length : Int) (ds.length : Int) P3 P5
    have r6 := trolls_sp (F.map clD) (stD (endC c ds) (endL l ds)) (.tuple ((held ms2 (trd F c l ds)).map .int)) (.int (ds.length : Int)) P3
    have r7 := trolls_sp (F.map clD) (stD (endC c ds) (endL l ds)) (.tuple ((held ms2 (trd F c l ds)).map .int)) (.int (ds.length : Int)) P5
    have qq := eq_ints ds.length ds.length
    rw [decide_eq_true rfl] at qq
    refine wS_of (fl := .rt (.pd (.bool true))) (e := MvE p3 F c l ms ds (some (.nt M)) (some (.mu .own (tbC F (endC c ds) (endL l ds) (held ms2 (trd F c l ds)) (ds.length : Int) P3))) (some (.mu .own (tbC F (endC c ds) (endL l ds) (held ms2 (trd F c l ds)) (ds.length : Int) P5))) (some (.pd (.int a))) (some (.pd (.int b))) (some (.pd (.int v)))) (by simp [tq, r6, r7, qq]) ?_
    exact ⟨_, _, rfl, fin_mu rfl (by decide) (by simp) rfl, rfl, rfl⟩
  obtain ⟨r, as, e, rfl, rfl⟩ := key
  exact e
end
end L77

end
section
set_option linter.all false
set_option autoImplicit false
set_option Elab.async false
set_option maxRecDepth 100000
set_option maxHeartbeats 4000000
namespace T3
open PySem L2
theorem outer1 {n N : Nat} {fcell fpen : FnD} {BODY : SS} (ns : List Int) (hn4 : 3 ≤ n) (hN : 1 ≤ N) (hN2 : N ≤ 1000)
    (hcell : ∀ k : Nat, ∃ i, fcell [.pd (.list (ns.map .int)), .pd (.int (k : Nat))] = some (.pd (.int i), [.pd (.list (ns.map .int)), .pd (.int (k : Nat))]))
    (hpen : ∀ i : Int, ∃ p : Pk, p.t = 0 ∧ fpen [.pd (.int i)] = some (.tmp (penK p), [.pd (.int i)]))
    (hbody : ∀ (e : Sl) (p : Pk), Al 0 n e → e[0]? = some (some (.pd (.list (ns.map .int)))) → e[2]? = some (some (.mu .own (penK p))) → p.t = 0 → wS BODY e fun fl e' => (fl = .nx ∨ fl = .ct) ∧ Al 0 n e' ∧ e'[0]? = some (some (.pd (.list (ns.map .int))))) :
    ∃ as, runFn n (sSeq (sFor (iRg1 (eCons (eThen (eCons (eC (.int 1)) (eCons (eThen (eCons (eThen (eCons (eVar 0) eNil) (kE oLen)) (eCons (eC (.int (N : Int))) eNil)) (kE oMin)) eNil)) (kE oMax)) eNil)) (gN 1) (sSeq (sSet 2 (eCall fpen (eCons (eCall fcell (eCons (eVar 0) (eCons (eVar 1) eNil))) eNil)))
      BODY)) (sRet (eC (.bool true)))) [.pd (.list (ns.map .int))] = some (.pd (.bool true), as) := by
  generalize hs : PyData.list (ns.map .int) = s at *
  have key : wF (runFn n (sSeq (sFor (iRg1 (eCons (eThen (eCons (eC (.int 1)) (eCons (eThen (eCons (eThen (eCons (eVar 0) eNil) (kE oLen)) (eCons (eC (.int (N : Int))) eNil)) (kE oMin)) eNil)) (kE oMax)) eNil)) (gN 1) (sSeq (sSet 2 (eCall fpen (eCons (eCall fcell (eCons (eVar 0) (eCons (eVar 1) eNil))) eNil)))
      BODY)) (sRet (eC (.bool true))))) [.pd s] (fun r _ => r = .pd (.bool true)) := by
    have A0 : Al 0 n (startE n [.pd s]) := by
      have a := Al.start (n := n) [.pd s] (by simp; omega)
      refine ⟨a.len, fun i h1 h2 => ?_⟩
      by_cases z : i = 0
      · subst z
        rw [free_frS (s := some (.pd s)) (by simp [startE])]
        rfl
      · exact a.fre i (by simp; omega) h2
    refine wF_run (e := startE n [.pd s]) rfl ?_
    have h0 : (startE n [.pd s])[0]? = some (some (.pd s)) := by simp [startE]
    generalize startE n [.pd s] = e0 at *
    refine wS_seq ?_
    refine wS_for (xs := upD (max 1 (min ns.length N))) (lk := none) (e := e0) (rg1_max ns hN hN2 (by rw [hs]; exact h0)) (fun rest e => (∀ x ∈ rest, ∃ k : Nat, x = .int (k : Nat)) ∧ OutI n s e) ⟨fun x hx => by
      obtain ⟨j, _, rfl⟩ := List.mem_map.mp hx; exact ⟨j, rfl⟩, A0, h0⟩ ?_ ?_
    · rintro x rest e ⟨hx, A, h0⟩
      obtain ⟨k, rfl⟩ := hx x (by simp)
      obtain ⟨i, ec⟩ := hcell k
      obtain ⟨p, pt, ep⟩ := hpen i
      have f1 := A.fre 1 (by omega) (by omega)
      have A1 := A.set (i := 1) (s := some (.pd (.int (k : Nat)))) rfl
      have g0 : (e.set 1 (some (.pd (.int (k : Nat)))))[0]? = some (some (.pd s)) := by rw [List.getElem?_set_ne (by decide)]; exact h0
      have g1 : (e.set 1 (some (.pd (.int (k : Nat)))))[1]? = some (some (.pd (.int (k : Nat)))) := by rw [List.getElem?_set_self (by rw [A.len]; omega)]
      simp only [gW, z_gN, z_setR, f1, if_true]
      rw [go]
      generalize e.set 1 (some (.pd (.int (k : Nat)))) = e1 at *
      have f2 := A1.fre 2 (by omega) (by omega)
      refine wS_seq ?_
      have A2 := A1.set (i := 2) (s := some (.mu .own (penK p))) rfl
      have b0 : (e1.set 2 (some (.mu .own (penK p))))[0]? = some (some (.pd s)) := by rw [List.getElem?_set_ne (by decide)]; exact g0
      have b2 : (e1.set 2 (some (.mu .own (penK p))))[2]? = some (some (.mu .own (penK p))) := by rw [List.getElem?_set_self (by rw [A1.len]; omega)]
      refine wS_of (fl := .nx) (e := e1.set 2 (some (.mu .own (penK p)))) ?_ ?_
      · simp only [z_set, z_call, z_cons, z_var, g0, g1, z_nil, z_args1, z_arg1, z_args0, z_va1, z_va0, if_true, ec, z_bk1, z_bk0, ep, z_setR, f2]
      rw [nxt_nx, go]
      refine (hbody _ p A2 b0 b2 pt).imp ?_
      rintro fl e' ⟨hf, A', h0'⟩
      have : (∀ x ∈ rest, ∃ k : Nat, x = .int (k : Nat)) ∧ OutI n s e' := ⟨fun x hx => by
        obtain ⟨k, hk⟩ := ‹∀ x ∈ _ :: rest, ∃ k : Nat, x = .int (k : Nat)› x (List.mem_cons_of_mem _ hx)
        exact ⟨k, hk⟩, A', h0'⟩
      rcases hf with rfl | rfl <;> exact this
    · rintro e ⟨_, A, h0⟩
      simp only [z_unl, nxt_nx]
      rw [go]
      have f := fin1 (x := s) (e := e) (by rw [h0]; simp)
      refine wS_of (fl := .rt (.pd (.bool true))) (e := e) (by simp) ?_
      exact ⟨.pd (.bool true), _, rfl, f, rfl⟩
  obtain ⟨r, as, e, rfl⟩ := key
  exact ⟨as, e⟩
end T3

end
section
set_option linter.all false
set_option autoImplicit false
set_option Elab.async false
set_option maxRecDepth 100000
set_option maxHeartbeats 8000000
namespace L77
open PySem L2 T3 MM
noncomputable section
def gm (b m : Int) : Int := (m * b + 7) % 1000
theorem gm_ok {n : Nat} (b : Int) {ms : List Int} (h : okM n ms) : okM n (ms.map (gm b)) := ⟨by rw [List.length_map]; exact h.1, fun m hm => by
  obtain ⟨x, _, rfl⟩ := List.mem_map.mp hm
  unfold gm
  omega⟩
theorem comp_sp (b : Int) (b0 : 0 ≤ b) (b1 : b < 2147483648) (ms : List Int) (it : EI) (e : Sl) (ln : e.length = 14) (h6 : e[6]? = some (some (.pd (.int b)))) (hi : it e = some (ms.map .int, none, e)) (hl : ms.length ≤ 100) :
    eLc it (gN 13) bYes (eMod (eAdd (eMul (eVar 13) (eVar 6)) (eC (.int 7))) (eC (.int 1000))) [13] e = some (.tmp (.ls ((ms.map (gm b)).map .int)), e) := by
  have := lcF (it := it) (g := gN 13) (t := bYes) (f := eMod (eAdd (eMul (eVar 13) (eVar 6)) (eC (.int 7))) (eC (.int 1000))) (vs := [13]) (lk := none) (env := e) (e := e) (q := PyData.int) (as := ms) (fun _ => true) (fun m => .int (gm b m)) hi (by omega) (fun m _ => by
    have cm : CMul m b := cmul_r _ _ ⟨b0, b1⟩
    simp [bYes, lcI, wipe_at, wipe_free, wipeE_len, ln, h6, cm, kMul, kAdd, kMod, oI, gm, Kp.set, -z_free, -getElem?_pos])
  rw [z_unl] at this
  rw [this, List.map_map, List.filter_eq_self.mpr (fun _ _ => rfl)]
  rfl
def RlI (s : PyData) (F : List Cell) (b : Int) (p : Pk) (t8 : Ct) (ds : List Dir) (c : Cell) (l : Ly) (ms : List Int) (n : Int) (k : Nat) (rest : List PyData) (e : Sl) : Prop := ∃ (us vs : List Dir) (P : List PyData), ds = us ++ vs ∧ rest = vs.map chD ∧ P.length ≤ k + us.length ∧ Al 0 14 e ∧ e[0]? = some (some (.pd s)) ∧ e[2]? = some (some (.mu .own (penK p))) ∧ e[3]? = some (some (.nt (F.map clD))) ∧ e[6]? = some (some (.pd (.int b))) ∧ e[8]? = some (some (.mu .own t8)) ∧
  e[9]? = some (some (.mu .own (tbC F (endC c us) (endL l us) (held ms (trd F c l us)) (n + us.length) P))) ∧ e[11]? = some (some (.pd (.str (rowS ds))))
theorem sitT_step {F : List Cell} {c : Cell} {l : Ly} (h : SitT F c l) {ds : List Dir} (lt : letR F c ds) : SitT F (endC c ds) (endL l ds) := ⟨h.fl, endC_mem ds c h.mem lt, endL_mem ds l h.ly⟩
theorem letR_split {F : List Cell} : ∀ (us vs : List Dir) (c : Cell), letR F c (us ++ vs) → letR F c us ∧ letR F (endC c us) vs
  | [], _, _, h => ⟨trivial, h⟩
  | u :: us, vs, c, h => by
    obtain ⟨h1, h2⟩ := letR_split us vs (stepC c u) h.2
    exact ⟨⟨h.1, h1⟩, h2⟩
end
end L77

end
section
set_option linter.all false
set_option autoImplicit false
set_option Elab.async false
set_option maxRecDepth 100000
set_option maxHeartbeats 8000000
namespace L77
open PySem L2 T3 MM
noncomputable section
theorem held_app {α : Type} (xs : List α) (ps qs : List (Int × Int)) : held xs (ps ++ qs) = held (held xs ps) qs := by simp [held, List.foldl_append]
theorem endL_app (l : Ly) (ds : List Dir) (d : Dir) : endL l (ds ++ [d]) = roll (endL l ds) d := by simp [endL]
theorem rolls_loop (s : PyData) {F : List Cell} {c : Cell} {l : Ly} (h : SitT F c l) (b : Int) (p : Pk) (t8 : Ct) (ds : List Dir) (lt : letR F c ds) (ln : ds.length ≤ 60) (ms : List Int) (hm : ms.length = 6 + F.length) (n : Int) (P : List PyData) (hP : P.length ≤ 1000) (e : Sl) (A : Al 0 14 e) (h0 : e[0]? = some (some (.pd s))) (h2 : e[2]? = some (some (.mu .own (penK p)))) (h3 : e[3]? = some (some (.nt (F.map clD)))) (h6 : e[6]? = some (some (.pd (.int b)))) (h8 : e[8]? = some (some (.mu .own t8))) (h9 : e[9]? = some (some (.mu .own (tbC F c l ms n P)))) (h11 : e[11]? = some (some (.pd (.str (rowS ds)))))
    {Q : Fl → Sl → Prop} (hQ : ∀ (e' : Sl) (P' : List PyData), P'.length ≤ P.length + ds.length → Al 0 14 e' → e'[0]? = some (some (.pd s)) → e'[2]? = some (some (.mu .own (penK p))) → e'[3]? = some (some (.nt (F.map clD))) → e'[6]? = some (some (.pd (.int b))) → e'[8]? = some (some (.mu .own t8)) → e'[9]? = some (some (.mu .own (tbC F (endC c ds) (endL l ds) (held ms (trd F c l ds)) (n + ds.length) P'))) → e'[11]? = some (some (.pd (.str (rowS ds)))) → Q .nx e') :
    wS (sFor (iSeq (eVar 11)) (gN 12) (sExpr (eMeth 9 f_Table_roll (eCons (eVar 12) eNil)))) e Q := by
  have sr : signs (rowS ds) = ds.map chD := by rw [signs_row]; rfl
  refine wS_for (xs := ds.map chD) (lk := none) (e := e) (by simp [h11, sr, -getElem?_pos]) (RlI s F b p t8 ds c l ms n P.length) ⟨[], ds, P, rfl, rfl, by simp, A, h0, h2, h3, h6, h8, by simpa [endC, endL, trd, held] using h9, h11⟩ ?_ ?_
  · rintro x rest e ⟨us, vs, R, ed, er, lR, A, h0, h2, h3, h6, h8, h9, h11⟩
    cases vs with
    | nil => cases er
    | cons d vs =>
      simp only [List.map_cons, List.cons.injEq] at er
      obtain ⟨rfl, rfl⟩ := er
      have fr := A.fre
      have ln' := A.len
      obtain ⟨l1, l2⟩ := letR_split us (d :: vs) c (ed ▸ lt)
      have sit := sitT_step h l1
      have ul : us.length ≤ 60 := by rw [ed] at ln; simp at ln; omega
      have ro := troll_sp sit d l2.1 (held ms (trd F c l us)) (by rw [held_len]; exact hm) (n + us.length) R (by omega)
      generalize hR : R ++ [PyData.tuple [stD (endC c us) (endL l us), .tuple ((held ms (trd F c l us)).map .int), .int (n + us.length)]] = R2 at ro
      have lR2 : R2.length = R.length + 1 := by rw [← hR]; simp
      have en : n + (us.length : Int) + 1 = n + ((us ++ [d]).length : Int) := by simp; omega
      rw [en, ← endC_app, ← endL_app, ← held_app, ← trd_app] at ro
      have cd : chD d = .str (chS d) := rfl
      simp only [gW, z_gN, z_setR, fr 12 (by decide) (by decide), if_true]
      rw [go]
      refine wS_of (fl := .nx) (e := (e.set 12 (some (.pd (chD d)))).set 9 (some (.mu .own (tbC F (endC c (us ++ [d])) (endL l (us ++ [d])) (held ms (trd F c l (us ++ [d]))) (n + ((us ++ [d]).length : Int)) R2)))) (by
        generalize hn1 : n + ((us ++ [d]).length : Int) = n1 at *
        generalize hn0 : n + (us.length : Int) = n0 at *
        simp [h9, ln', cd, ro, -getElem?_pos]) ?_
      exact ⟨us ++ [d], vs, R2, by rw [ed]; simp, rfl, by simp; omega, by repeat (first | exact A | refine Al.set ?_ rfl), by simpa using h0, by simpa using h2, by simpa using h3, by simpa using h6, by simpa using h8, by simp [ln'], by simpa using h11⟩
  · rintro e ⟨us, vs, R, ed, er, lR, A, h0, h2, h3, h6, h8, h9, h11⟩
    have : vs = [] := by cases vs with
      | nil => rfl
      | cons d vs => cases er
    subst this
    rw [List.append_nil] at ed
    subst ed
    rw [z_unl]
    exact hQ e R lR A h0 h2 h3 h6 h8 h9 h11
end
end L77

end
section
set_option linter.all false
set_option autoImplicit false
set_option Elab.async false
set_option maxRecDepth 100000
set_option maxHeartbeats 8000000
namespace L77
open PySem L2 T3 MM
noncomputable section
def TuI (s : PyData) (F : List Cell) (b : Int) (rest : List PyData) (e : Sl) : Prop := ∃ (p : Pk) (c : Cell) (l : Ly) (ms : List Int) (n : Int) (P8 P9 : List PyData), p.t + 20 * rest.length ≤ 1000 ∧ SitT F c l ∧ okM (6 + F.length) ms ∧ P8.length + rest.length ≤ 8 ∧ P9.length + 12 * rest.length ≤ 96 ∧
  Al 0 14 e ∧ e[0]? = some (some (.pd s)) ∧ e[2]? = some (some (.mu .own (penK p))) ∧ e[3]? = some (some (.nt (F.map clD))) ∧ e[6]? = some (some (.pd (.int b))) ∧ e[8]? = some (some (.mu .own (tbC F c l ms n P8))) ∧ e[9]? = some (some (.mu .own (tbC F c l (ms.map (gm b)) n P9)))
theorem turn_sp (s : PyData) {F : List Cell} (okF : okFl F) (b : Int) (b0 : 0 ≤ b) (b1 : b < 2147483648) (w : PyData) (rest : List PyData) (e : Sl) (I : TuI s F b (w :: rest) e) {Q : Fl → Sl → Prop} (hQ : ∀ e', TuI s F b rest e' → Q .nx e') :
    wS (sSeq (sSet 11 (eCall f__law_row (eCons (eVar 2) (eCons (eVar 3) (eCons (eIx (eMeth 8 f_Table_stand eNil) (eC (.int 0))) (eCons (eC (.int 12)) eNil))))))
  (sSeq (sIf (bNot (bT (eCall f__law_moved_right (eCons (eVar 2) (eCons (eVar 3) (eCons (eMeth 8 f_Table_stand eNil) (eCons (eMeth 8 f_Table_marks eNil) (eCons (eVar 11) eNil)))))))) (sRet (eC (.bool false))) sPass)
  (sSeq (sExpr (eMeth 8 (FD1 f_Table_play) (eCons (eVar 11) eNil)))
  (sSeq (sFor (iSeq (eVar 11)) (gN 12) (sExpr (eMeth 9 f_Table_roll (eCons (eVar 12) eNil))))
  (sSeq (sIf (bOr (bT (eNe (eMeth 8 f_Table_stand eNil) (eMeth 9 f_Table_stand eNil))) (bT (eNe (eMeth 8 f_Table_rolls eNil) (eMeth 9 f_Table_rolls eNil)))) (sRet (eC (.bool false))) sPass)
  (sIf (bT (eNe (eMeth 9 f_Table_marks eNil) (eThen (eCons (eLc (iSeq (eMeth 8 f_Table_marks eNil)) (gN 13) bYes (eMod (eAdd (eMul (eVar 13) (eVar 6)) (eC (.int 7))) (eC (.int 1000))) [13]) eNil) kTupN))) (sRet (eC (.bool false))) sPass)))))) (e.set 10 (some (.pd w))) Q := by
  obtain ⟨p, c, l, ms, n, P8, P9, hp, sit, hm, l8, l9, A, h0, h2, h3, h6, h8, h9⟩ := I
  simp only [List.length_cons] at hp l8 l9
  have f9 := okF.2.1
  have ln := A.len
  have fr := A.fre
  obtain ⟨p1, ds, hp1, lt, dl, er⟩ := row_sp2 p F c 12 (by decide) (by omega)
  rw [show ((12 : Nat) : Int) = 12 from rfl] at er
  have x0 : oIx [stD c l, .int 0] = some (clD c) := rfl
  have ts := tstand_sp (F.map clD) (stD c l) (.tuple (ms.map .int)) (.int n) P8
  have tm := tmarks_sp (F.map clD) (stD c l) (.tuple (ms.map .int)) (.int n) P8
  refine wS_seq ?_
  simp [wS, free_ne_set, fr, ln, h2, h3, h8, ts, x0, er, -z_free, -getElem?_pos]
  rw [go]
  refine wS_gen fun E hE => ?_
  have AE : Al 0 14 E := by rw [hE]; repeat (first | exact A | refine Al.set ?_ rfl)
  have g0 : E[0]? = some (some (.pd s)) := by rw [hE]; simpa using h0
  have g2 : E[2]? = some (some (.mu .own (penK p1))) := by rw [hE]; simp [ln]
  have g3 : E[3]? = some (some (.nt (F.map clD))) := by rw [hE]; simpa using h3
  have g6 : E[6]? = some (some (.pd (.int b))) := by rw [hE]; simpa using h6
  have g8 : E[8]? = some (some (.mu .own (tbC F c l ms n P8))) := by rw [hE]; simp [ln]
  have g9 : E[9]? = some (some (.mu .own (tbC F c l (ms.map (gm b)) n P9))) := by rw [hE]; simpa using h9
  have g11 : E[11]? = some (some (.pd (.str (rowS ds)))) := by rw [hE]; simp [ln]
  clear hE
  have lE := AE.len
  obtain ⟨p2, hp2, mr⟩ := moved_right_sp sit hm ds lt (by omega) p1 (by omega)
  refine wS_seq ?_
  simp [wS, lE, g2, g3, g8, g11, ts, tm, mr, -z_free, -getElem?_pos]
  rw [go]
  refine wS_gen fun E1 hE => ?_
  have A1 : Al 0 14 E1 := by rw [hE]; repeat (first | exact AE | refine Al.set ?_ rfl)
  have k0 : E1[0]? = some (some (.pd s)) := by rw [hE]; simpa using g0
  have k2 : E1[2]? = some (some (.mu .own (penK p2))) := by rw [hE]; simp [lE]
  have k3 : E1[3]? = some (some (.nt (F.map clD))) := by rw [hE]; simpa using g3
  have k6 : E1[6]? = some (some (.pd (.int b))) := by rw [hE]; simpa using g6
  have k8 : E1[8]? = some (some (.mu .own (tbC F c l ms n P8))) := by rw [hE]; simp [lE]
  have k9 : E1[9]? = some (some (.mu .own (tbC F c l (ms.map (gm b)) n P9))) := by rw [hE]; simpa using g9
  have k11 : E1[11]? = some (some (.pd (.str (rowS ds)))) := by rw [hE]; simpa using g11
  clear hE
  have l1 := A1.len
  have pl := tplay_sp sit ds lt (by omega) ms hm.1 n P8 (by omega)
  generalize hP : P8 ++ [PyData.tuple [stD c l, .tuple (ms.map .int), .int n]] = Q8 at pl
  have lQ8 : Q8.length = P8.length + 1 := by rw [← hP]; simp
  refine wS_seq ?_
  refine wS_of (fl := .nx) (e := E1.set 8 (some (.mu .own (tbC F (endC c ds) (endL l ds) (held ms (trd F c l ds)) (n + ds.length) Q8)))) (by simp [k8, k11, pl, -getElem?_pos]) ?_
  rw [nxt_nx, go]
  refine wS_seq ?_
  refine rolls_loop s sit b p2 (tbC F (endC c ds) (endL l ds) (held ms (trd F c l ds)) (n + ds.length) Q8) ds lt (by omega) (ms.map (gm b)) (by rw [List.length_map]; exact hm.1) n P9 (by omega) _ (A1.set rfl) (by simpa using k0) (by simpa using k2) (by simpa using k3) (by simpa using k6) (by simp [l1]) (by simpa using k9) (by simpa using k11) ?_
  intro G P' lP' AG h0 h2 h3 h6 h8 h9 h11
  rw [nxt_nx, go]
  have lG := AG.len
  rw [held_map] at h9
  have hm' : okM (6 + F.length) (held ms (trd F c l ds)) := ⟨by rw [held_len]; exact hm.1, fun m hm' => hm.2 m ((held_perm _ _).mem_iff.mp hm')⟩
  have sit' := sitT_step sit lt
  generalize held ms (trd F c l ds) = ms' at *
  generalize endC c ds = c' at *
  generalize endL l ds = l' at *
  have en : (n + (ds.length : Int)) = n + ds.length := rfl
  generalize n + (ds.length : Int) = n' at *
  have s8 := tstand_sp (F.map clD) (stD c' l') (.tuple (ms'.map .int)) (.int n') Q8
  have s9 := tstand_sp (F.map clD) (stD c' l') (.tuple ((ms'.map (gm b)).map .int)) (.int n') P'
  have r8 := trolls_sp (F.map clD) (stD c' l') (.tuple (ms'.map .int)) (.int n') Q8
  have r9 := trolls_sp (F.map clD) (stD c' l') (.tuple ((ms'.map (gm b)).map .int)) (.int n') P'
  have m8 := tmarks_sp (F.map clD) (stD c' l') (.tuple (ms'.map .int)) (.int n') Q8
  have m9 := tmarks_sp (F.map clD) (stD c' l') (.tuple ((ms'.map (gm b)).map .int)) (.int n') P'
  have q1 : oNe [stD c' l', stD c' l'] = some (.bool false) := ne_same (n := 3) rfl (by decide)
  have q2 : oNe [.int n', .int n'] = some (.bool false) := ne_same (n := 0) rfl (by decide)
  have q3 : oNe [.tuple ((ms'.map (gm b)).map .int), .tuple ((ms'.map (gm b)).map .int)] = some (.bool false) := ne_same (pl_ints _) (by decide)
  have i8 := set_id h8
  have i9 := set_id h9
  refine wS_seq ?_
  refine wS_of (fl := .nx) (e := G) (by
    generalize ms'.map (gm b) = ms9 at *
    simp [h8, h9, s8, s9, r8, r9, q1, q2, i8, i9, -getElem?_pos]) ?_
  rw [nxt_nx, go]
  have cp := comp_sp b b0 b1 ms' (iSeq (eMeth 8 f_Table_marks eNil)) G lG h6 (by simp [h8, m8, i8, -getElem?_pos]) (by rw [hm'.1]; omega)
  refine wS_of (fl := .nx) (e := G) (by
    generalize ms'.map (gm b) = ms9 at *
    simp [h9, m9, i9, cp, kTupN, q3, -getElem?_pos, -z_lc]) ?_
  refine hQ G ⟨p2, c', l', ms', n', Q8, P', by omega, sit', hm', by omega, by omega, AG, h0, h2, h3, h6, h8, h9⟩
end
end L77

end
section
set_option linter.all false
set_option autoImplicit false
set_option Elab.async false
set_option maxRecDepth 100000
set_option maxHeartbeats 8000000
namespace L77
open PySem L2 T3 MM
noncomputable section
theorem hmath (ns : List Int) (hn : ns.length ≤ 63) : ∃ as, f_law [.pd (.list (ns.map .int))] = some (.pd (.bool true), as) := by
  refine outer1 (n := 14) (N := 3) ns (by decide) (by decide) (by decide) (cell_at_sp ns) pen2_sp ?_
  intro e p A h0 h2 hp
  generalize hTP : (fun (fl : Fl) (e' : Sl) => (fl = .nx ∨ fl = .ct) ∧ Al 0 14 e' ∧ e'[0]? = some (some (.pd (.list (ns.map .int))))) = TP
  generalize hs : PyData.list (ns.map .int) = s at *
  have fr := A.fre
  have ln := A.len
  obtain ⟨p1, F, hp1, okF, ef⟩ := flT_sp p (by omega)
  have f9 := okF.2.1
  obtain ⟨p2, c, l, hp2, hc, hl, es⟩ := start_sp p1 F okF (by omega)
  obtain ⟨p3, ms, hp3, hm, em⟩ := marksC_sp p2 F f9 (by omega)
  obtain ⟨z, p4, z0, z1, hp4, dz⟩ := draw2_sp p3 998 (by decide) (by decide) (by omega)
  have sit : SitT F c l := ⟨okF, hc, hl⟩
  refine wS_seq ?_
  refine wS_of (fl := .nx) (e := (e.set 2 (some (.mu .own (penK p1)))).set 3 (some (.nt (F.map clD)))) (by simp [h2, ef, free_ne_set, fr, ln, -z_free, -getElem?_pos]) ?_
  rw [nxt_nx, go]
  refine wS_gen fun E hE => ?_
  have AE : Al 0 14 E := by rw [hE]; repeat (first | exact A | refine Al.set ?_ rfl)
  have g0 : E[0]? = some (some (.pd s)) := by rw [hE]; simpa using h0
  have g2 : E[2]? = some (some (.mu .own (penK p1))) := by rw [hE]; simp [ln]
  have g3 : E[3]? = some (some (.nt (F.map clD))) := by rw [hE]; simp [ln]
  clear hE
  have lE := AE.len
  have fE := AE.fre
  refine wS_seq ?_
  refine wS_of (fl := .nx) (e := (((E.set 2 (some (.mu .own (penK p4)))).set 4 (some (.pd (stD c l)))).set 5 (some (.nt (ms.map .int)))).set 6 (some (.pd (.int (1 + z))))) (by
    simp [g2, g3, es, em, dz, kAdd, oI, free_ne_set, fE, lE, -z_free, -getElem?_pos]) ?_
  rw [nxt_nx, go]
  refine wS_gen fun E1 hE => ?_
  have A1 : Al 0 14 E1 := by rw [hE]; repeat (first | exact AE | refine Al.set ?_ rfl)
  have k0 : E1[0]? = some (some (.pd s)) := by rw [hE]; simpa using g0
  have k2 : E1[2]? = some (some (.mu .own (penK p4))) := by rw [hE]; simp [lE]
  have k3 : E1[3]? = some (some (.nt (F.map clD))) := by rw [hE]; simpa using g3
  have k4 : E1[4]? = some (some (.pd (stD c l))) := by rw [hE]; simp [lE]
  have k5 : E1[5]? = some (some (.nt (ms.map .int))) := by rw [hE]; simp [lE]
  have k6 : E1[6]? = some (some (.pd (.int (1 + z)))) := by rw [hE]; simp [lE]
  clear hE
  have l1 := A1.len
  have f1 := A1.fre
  generalize hb : 1 + z = b at *
  have cp := comp_sp b (by omega) (by omega) ms (iSeq (eVar 5)) E1 l1 k6 (by simp [k5, -getElem?_pos]) (by rw [hm.1]; omega)
  refine wS_seq ?_
  refine wS_of (fl := .nx) (e := E1.set 7 (some (.nt ((ms.map (gm b)).map .int)))) (by
    generalize ms.map (gm b) = ms9 at *
    simp [cp, kTupN, free_ne_set, f1, l1, -z_free, -getElem?_pos, -z_lc]) ?_
  rw [nxt_nx, go]
  refine wS_gen fun E2 hE => ?_
  have A2 : Al 0 14 E2 := by rw [hE]; repeat (first | exact A1 | refine Al.set ?_ rfl)
  have m0 : E2[0]? = some (some (.pd s)) := by rw [hE]; simpa using k0
  have m2 : E2[2]? = some (some (.mu .own (penK p4))) := by rw [hE]; simpa using k2
  have m3 : E2[3]? = some (some (.nt (F.map clD))) := by rw [hE]; simpa using k3
  have m4 : E2[4]? = some (some (.pd (stD c l))) := by rw [hE]; simpa using k4
  have m5 : E2[5]? = some (some (.nt (ms.map .int))) := by rw [hE]; simpa using k5
  have m6 : E2[6]? = some (some (.pd (.int b))) := by rw [hE]; simpa using k6
  have m7 : E2[7]? = some (some (.nt ((ms.map (gm b)).map .int))) := by rw [hE]; simp [l1]
  clear hE
  have l2 := A2.len
  have f2 := A2.fre
  have x0 : oIx [stD c l, .int 0] = some (clD c) := rfl
  have x1 : oIx [stD c l, .int 1] = some (lyD l) := rfl
  have mk1 : eMkT g_Table_1 g_Table_2 g_Table_3 g_Table_4 (eCons (eVar 3) (eCons (eIx (eVar 4) (eC (.int 0))) (eCons (eIx (eVar 4) (eC (.int 1))) (eCons (eVar 5) eNil)))) E2 = some (.tmp (tbC F c l ms 0 []), E2) :=
    mkT_sp sit hm (d4 := .nt (ms.map .int)) (.inl rfl) (by simp [m3, m4, m5, x0, x1, -getElem?_pos])
  have mk2 : eMkT g_Table_1 g_Table_2 g_Table_3 g_Table_4 (eCons (eVar 3) (eCons (eIx (eVar 4) (eC (.int 0))) (eCons (eIx (eVar 4) (eC (.int 1))) (eCons (eVar 7) eNil)))) E2 = some (.tmp (tbC F c l (ms.map (gm b)) 0 []), E2) :=
    mkT_sp sit (gm_ok b hm) (d4 := .nt ((ms.map (gm b)).map .int)) (.inl rfl) (by
      generalize ms.map (gm b) = ms9 at *
      simp [m3, m4, m7, x0, x1, -getElem?_pos])
  refine wS_seq ?_
  refine wS_of (fl := .nx) (e := (E2.set 8 (some (.mu .own (tbC F c l ms 0 [])))).set 9 (some (.mu .own (tbC F c l (ms.map (gm b)) 0 [])))) (by
    generalize ms.map (gm b) = ms9 at *
    simp [mk1, mk2, free_ne_set, f2, l2, -z_free, -getElem?_pos]) ?_
  rw [nxt_nx, go]
  refine wS_for (xs := upD 8) (lk := none) (e := (E2.set 8 (some (.mu .own (tbC F c l ms 0 [])))).set 9 (some (.mu .own (tbC F c l (ms.map (gm b)) 0 [])))) (rg1_up (n := 8) (by simp) (by decide)) (TuI s F b) ⟨p4, c, l, ms, 0, [], [], by rw [upD_len]; omega, sit, hm, by rw [upD_len]; simp, by rw [upD_len]; simp, by repeat (first | exact A2 | refine Al.set ?_ rfl), by simpa using m0, by simpa using m2, by simpa using m3, by simpa using m6, by simp [l2], by simp [l2]⟩ ?_ ?_
  · intro w rest e I
    have A := I
    obtain ⟨_, _, _, _, _, _, _, _, _, _, _, _, A, _⟩ := A
    have fr := A.fre
    simp only [gW, z_gN, z_setR, fr 10 (by decide) (by decide), if_true]
    rw [go]
    exact turn_sp s okF b (by omega) (by omega) w rest e I fun e' I' => I'
  · rintro e ⟨_, _, _, _, _, _, _, _, _, _, _, _, A, h0, _⟩
    rw [z_unl, ← hTP]
    exact ⟨.inl rfl, A, h0⟩
end
end L77

end
section
set_option linter.all false
set_option autoImplicit false
set_option Elab.async false
set_option maxRecDepth 100000
set_option maxHeartbeats 4000000
namespace L77
open PySem L2 T3
noncomputable section
variable [TabL]
theorem fin {P : Program} {w : World} [WdOk w] {K : PySem.W.Frag} {h : Heap} {mg : Str → Option Value} {fa : Addr} (X : K.In h) (G : h.Ns mainGlobals mg) (hfa : mg "law" = some (.ref fa))
    {CT : Addr} (gT : PySem.W.nsIn K mainGlobals "Table" = some (some (.ref CT))) (pgT : PySem.W.plainGet K CT Str.empty = true) (hdT : PySem.W.hasDictIn K CT = true) (poT : PySem.W.plainOver K CT = true) (saT : PySem.W.findIn K (.ref CT) "__setattr__" = some (some (.builtin "object.__setattr__"))) (mkT : PySem.W.makesIn K CT = true) (kpT : PySem.W.keepIn K (.ref CT) = true)
    (naT0 : PySem.W.findIn K (.ref CT) "floor" = some none)
    (naT1 : PySem.W.findIn K (.ref CT) "here" = some none)
    (naT2 : PySem.W.findIn K (.ref CT) "held" = some none)
    (naT3 : PySem.W.findIn K (.ref CT) "rolled" = some none)
    (naT4 : PySem.W.findIn K (.ref CT) "past" = some none)
    (is1 : PySem.W.findIn K (.ref CT) "__class__" = some (some (.builtin "object.__class__"))) (is2 : PySem.W.specialIn K (.builtin "object.__class__") "__get__" = some (some (.builtin "getset_descriptor.__get__"))) (is3 : PySem.W.takesIn K (.builtin "object.__class__") = some true) (is4 : PySem.W.mroIn K CT (.type "object") = some true) (kt_is : PySem.W.kitOne K (.ref CT) (.ref CT) = some true)
    {f0 : Addr} {oc0 kV0 dc0 pm0 cd0 ct0 : Value} {od0 an0 : Option Addr} {sl0 : Array (Option Value)}
    (a0 : PySem.W.nsIn K mainGlobals "is_whole" = some (some (.ref f0))) (l0 : K.lookup f0 = some ⟨oc0, od0, .func (PySem.W.fnOf "is_whole" "is_whole" (defArgs s_is_whole) (defBody s_is_whole) (defScope s_is_whole) .none kV0 dc0 pm0 an0 cd0 ct0), sl0⟩) (c0 : PySem.W.codeIn K cd0 "is_whole" = true) (k0 : PySem.W.keepIn K (.ref f0) = true)
    {f1 : Addr} {oc1 kV1 dc1 pm1 cd1 ct1 : Value} {od1 an1 : Option Addr} {sl1 : Array (Option Value)}
    (a1 : PySem.W.nsIn K mainGlobals "is_cell" = some (some (.ref f1))) (l1 : K.lookup f1 = some ⟨oc1, od1, .func (PySem.W.fnOf "is_cell" "is_cell" (defArgs s_is_cell) (defBody s_is_cell) (defScope s_is_cell) .none kV1 dc1 pm1 an1 cd1 ct1), sl1⟩) (c1 : PySem.W.codeIn K cd1 "is_cell" = true) (k1 : PySem.W.keepIn K (.ref f1) = true)
    {f2 : Addr} {oc2 kV2 dc2 pm2 cd2 ct2 : Value} {od2 an2 : Option Addr} {sl2 : Array (Option Value)}
    (a2 : PySem.W.nsIn K mainGlobals "is_rising" = some (some (.ref f2))) (l2 : K.lookup f2 = some ⟨oc2, od2, .func (PySem.W.fnOf "is_rising" "is_rising" (defArgs s_is_rising) (defBody s_is_rising) (defScope s_is_rising) .none kV2 dc2 pm2 an2 cd2 ct2), sl2⟩) (c2 : PySem.W.codeIn K cd2 "is_rising" = true) (k2 : PySem.W.keepIn K (.ref f2) = true)
    {f3 : Addr} {oc3 kV3 dc3 pm3 cd3 ct3 : Value} {od3 an3 : Option Addr} {sl3 : Array (Option Value)}
    (a3 : PySem.W.nsIn K mainGlobals "is_floor" = some (some (.ref f3))) (l3 : K.lookup f3 = some ⟨oc3, od3, .func (PySem.W.fnOf "is_floor" "is_floor" (defArgs s_is_floor) (defBody s_is_floor) (defScope s_is_floor) .none kV3 dc3 pm3 an3 cd3 ct3), sl3⟩) (c3 : PySem.W.codeIn K cd3 "is_floor" = true) (k3 : PySem.W.keepIn K (.ref f3) = true)
    {f4 : Addr} {oc4 kV4 dc4 pm4 cd4 ct4 : Value} {od4 an4 : Option Addr} {sl4 : Array (Option Value)}
    (a4 : PySem.W.nsIn K mainGlobals "is_cell_of" = some (some (.ref f4))) (l4 : K.lookup f4 = some ⟨oc4, od4, .func (PySem.W.fnOf "is_cell_of" "is_cell_of" (defArgs s_is_cell_of) (defBody s_is_cell_of) (defScope s_is_cell_of) .none kV4 dc4 pm4 an4 cd4 ct4), sl4⟩) (c4 : PySem.W.codeIn K cd4 "is_cell_of" = true) (k4 : PySem.W.keepIn K (.ref f4) = true)
    {f5 : Addr} {oc5 kV5 dc5 pm5 cd5 ct5 : Value} {od5 an5 : Option Addr} {sl5 : Array (Option Value)}
    (a5 : PySem.W.nsIn K mainGlobals "is_lying" = some (some (.ref f5))) (l5 : K.lookup f5 = some ⟨oc5, od5, .func (PySem.W.fnOf "is_lying" "is_lying" (defArgs s_is_lying) (defBody s_is_lying) (defScope s_is_lying) .none kV5 dc5 pm5 an5 cd5 ct5), sl5⟩) (c5 : PySem.W.codeIn K cd5 "is_lying" = true) (k5 : PySem.W.keepIn K (.ref f5) = true)
    {f6 : Addr} {oc6 kV6 dc6 pm6 cd6 ct6 : Value} {od6 an6 : Option Addr} {sl6 : Array (Option Value)}
    (a6 : PySem.W.nsIn K mainGlobals "is_stand" = some (some (.ref f6))) (l6 : K.lookup f6 = some ⟨oc6, od6, .func (PySem.W.fnOf "is_stand" "is_stand" (defArgs s_is_stand) (defBody s_is_stand) (defScope s_is_stand) .none kV6 dc6 pm6 an6 cd6 ct6), sl6⟩) (c6 : PySem.W.codeIn K cd6 "is_stand" = true) (k6 : PySem.W.keepIn K (.ref f6) = true)
    {f7 : Addr} {oc7 kV7 dc7 pm7 cd7 ct7 : Value} {od7 an7 : Option Addr} {sl7 : Array (Option Value)}
    (a7 : PySem.W.nsIn K mainGlobals "is_letter" = some (some (.ref f7))) (l7 : K.lookup f7 = some ⟨oc7, od7, .func (PySem.W.fnOf "is_letter" "is_letter" (defArgs s_is_letter) (defBody s_is_letter) (defScope s_is_letter) .none kV7 dc7 pm7 an7 cd7 ct7), sl7⟩) (c7 : PySem.W.codeIn K cd7 "is_letter" = true) (k7 : PySem.W.keepIn K (.ref f7) = true)
    {f8 : Addr} {oc8 kV8 dc8 pm8 cd8 ct8 : Value} {od8 an8 : Option Addr} {sl8 : Array (Option Value)}
    (a8 : PySem.W.nsIn K mainGlobals "is_row" = some (some (.ref f8))) (l8 : K.lookup f8 = some ⟨oc8, od8, .func (PySem.W.fnOf "is_row" "is_row" (defArgs s_is_row) (defBody s_is_row) (defScope s_is_row) .none kV8 dc8 pm8 an8 cd8 ct8), sl8⟩) (c8 : PySem.W.codeIn K cd8 "is_row" = true) (k8 : PySem.W.keepIn K (.ref f8) = true)
    {f9 : Addr} {oc9 kV9 dc9 pm9 cd9 ct9 : Value} {od9 an9 : Option Addr} {sl9 : Array (Option Value)}
    (a9 : PySem.W.nsIn K mainGlobals "need_floor" = some (some (.ref f9))) (l9 : K.lookup f9 = some ⟨oc9, od9, .func (PySem.W.fnOf "need_floor" "need_floor" (defArgs s_need_floor) (defBody s_need_floor) (defScope s_need_floor) .none kV9 dc9 pm9 an9 cd9 ct9), sl9⟩) (c9 : PySem.W.codeIn K cd9 "need_floor" = true) (k9 : PySem.W.keepIn K (.ref f9) = true)
    {f10 : Addr} {oc10 kV10 dc10 pm10 cd10 ct10 : Value} {od10 an10 : Option Addr} {sl10 : Array (Option Value)}
    (a10 : PySem.W.nsIn K mainGlobals "need_cell" = some (some (.ref f10))) (l10 : K.lookup f10 = some ⟨oc10, od10, .func (PySem.W.fnOf "need_cell" "need_cell" (defArgs s_need_cell) (defBody s_need_cell) (defScope s_need_cell) .none kV10 dc10 pm10 an10 cd10 ct10), sl10⟩) (c10 : PySem.W.codeIn K cd10 "need_cell" = true) (k10 : PySem.W.keepIn K (.ref f10) = true)
    {f11 : Addr} {oc11 kV11 dc11 pm11 cd11 ct11 : Value} {od11 an11 : Option Addr} {sl11 : Array (Option Value)}
    (a11 : PySem.W.nsIn K mainGlobals "need_lying" = some (some (.ref f11))) (l11 : K.lookup f11 = some ⟨oc11, od11, .func (PySem.W.fnOf "need_lying" "need_lying" (defArgs s_need_lying) (defBody s_need_lying) (defScope s_need_lying) .none kV11 dc11 pm11 an11 cd11 ct11), sl11⟩) (c11 : PySem.W.codeIn K cd11 "need_lying" = true) (k11 : PySem.W.keepIn K (.ref f11) = true)
    {f12 : Addr} {oc12 kV12 dc12 pm12 cd12 ct12 : Value} {od12 an12 : Option Addr} {sl12 : Array (Option Value)}
    (a12 : PySem.W.nsIn K mainGlobals "need_stand" = some (some (.ref f12))) (l12 : K.lookup f12 = some ⟨oc12, od12, .func (PySem.W.fnOf "need_stand" "need_stand" (defArgs s_need_stand) (defBody s_need_stand) (defScope s_need_stand) .none kV12 dc12 pm12 an12 cd12 ct12), sl12⟩) (c12 : PySem.W.codeIn K cd12 "need_stand" = true) (k12 : PySem.W.keepIn K (.ref f12) = true)
    {f13 : Addr} {oc13 kV13 dc13 pm13 cd13 ct13 : Value} {od13 an13 : Option Addr} {sl13 : Array (Option Value)}
    (a13 : PySem.W.nsIn K mainGlobals "need_letter" = some (some (.ref f13))) (l13 : K.lookup f13 = some ⟨oc13, od13, .func (PySem.W.fnOf "need_letter" "need_letter" (defArgs s_need_letter) (defBody s_need_letter) (defScope s_need_letter) .none kV13 dc13 pm13 an13 cd13 ct13), sl13⟩) (c13 : PySem.W.codeIn K cd13 "need_letter" = true) (k13 : PySem.W.keepIn K (.ref f13) = true)
    {f14 : Addr} {oc14 kV14 dc14 pm14 cd14 ct14 : Value} {od14 an14 : Option Addr} {sl14 : Array (Option Value)}
    (a14 : PySem.W.nsIn K mainGlobals "need_row" = some (some (.ref f14))) (l14 : K.lookup f14 = some ⟨oc14, od14, .func (PySem.W.fnOf "need_row" "need_row" (defArgs s_need_row) (defBody s_need_row) (defScope s_need_row) .none kV14 dc14 pm14 an14 cd14 ct14), sl14⟩) (c14 : PySem.W.codeIn K cd14 "need_row" = true) (k14 : PySem.W.keepIn K (.ref f14) = true)
    {f15 : Addr} {oc15 kV15 dc15 pm15 cd15 ct15 : Value} {od15 an15 : Option Addr} {sl15 : Array (Option Value)}
    (a15 : PySem.W.nsIn K mainGlobals "rolled_cell" = some (some (.ref f15))) (l15 : K.lookup f15 = some ⟨oc15, od15, .func (PySem.W.fnOf "rolled_cell" "rolled_cell" (defArgs s_rolled_cell) (defBody s_rolled_cell) (defScope s_rolled_cell) .none kV15 dc15 pm15 an15 cd15 ct15), sl15⟩) (c15 : PySem.W.codeIn K cd15 "rolled_cell" = true) (k15 : PySem.W.keepIn K (.ref f15) = true)
    {f16 : Addr} {oc16 kV16 dc16 pm16 cd16 ct16 : Value} {od16 an16 : Option Addr} {sl16 : Array (Option Value)}
    (a16 : PySem.W.nsIn K mainGlobals "rolled_lying" = some (some (.ref f16))) (l16 : K.lookup f16 = some ⟨oc16, od16, .func (PySem.W.fnOf "rolled_lying" "rolled_lying" (defArgs s_rolled_lying) (defBody s_rolled_lying) (defScope s_rolled_lying) .none kV16 dc16 pm16 an16 cd16 ct16), sl16⟩) (c16 : PySem.W.codeIn K cd16 "rolled_lying" = true) (k16 : PySem.W.keepIn K (.ref f16) = true)
    {f17 : Addr} {oc17 kV17 dc17 pm17 cd17 ct17 : Value} {od17 an17 : Option Addr} {sl17 : Array (Option Value)}
    (a17 : PySem.W.nsIn K mainGlobals "rolled_stand" = some (some (.ref f17))) (l17 : K.lookup f17 = some ⟨oc17, od17, .func (PySem.W.fnOf "rolled_stand" "rolled_stand" (defArgs s_rolled_stand) (defBody s_rolled_stand) (defScope s_rolled_stand) .none kV17 dc17 pm17 an17 cd17 ct17), sl17⟩) (c17 : PySem.W.codeIn K cd17 "rolled_stand" = true) (k17 : PySem.W.keepIn K (.ref f17) = true)
    {f18 : Addr} {oc18 kV18 dc18 pm18 cd18 ct18 : Value} {od18 an18 : Option Addr} {sl18 : Array (Option Value)}
    (a18 : PySem.W.nsIn K mainGlobals "place_off" = some (some (.ref f18))) (l18 : K.lookup f18 = some ⟨oc18, od18, .func (PySem.W.fnOf "place_off" "place_off" (defArgs s_place_off) (defBody s_place_off) (defScope s_place_off) .none kV18 dc18 pm18 an18 cd18 ct18), sl18⟩) (c18 : PySem.W.codeIn K cd18 "place_off" = true) (k18 : PySem.W.keepIn K (.ref f18) = true)
    {f19 : Addr} {oc19 kV19 dc19 pm19 cd19 ct19 : Value} {od19 an19 : Option Addr} {sl19 : Array (Option Value)}
    (a19 : PySem.W.nsIn K mainGlobals "spots_of" = some (some (.ref f19))) (l19 : K.lookup f19 = some ⟨oc19, od19, .func (PySem.W.fnOf "spots_of" "spots_of" (defArgs s_spots_of) (defBody s_spots_of) (defScope s_spots_of) .none kV19 dc19 pm19 an19 cd19 ct19), sl19⟩) (c19 : PySem.W.codeIn K cd19 "spots_of" = true) (k19 : PySem.W.keepIn K (.ref f19) = true)
    {f20 : Addr} {oc20 kV20 dc20 pm20 cd20 ct20 : Value} {od20 an20 : Option Addr} {sl20 : Array (Option Value)}
    (a20 : PySem.W.nsIn K mainGlobals "spot_of_cell" = some (some (.ref f20))) (l20 : K.lookup f20 = some ⟨oc20, od20, .func (PySem.W.fnOf "spot_of_cell" "spot_of_cell" (defArgs s_spot_of_cell) (defBody s_spot_of_cell) (defScope s_spot_of_cell) .none kV20 dc20 pm20 an20 cd20 ct20), sl20⟩) (c20 : PySem.W.codeIn K cd20 "spot_of_cell" = true) (k20 : PySem.W.keepIn K (.ref f20) = true)
    {f21 : Addr} {oc21 kV21 dc21 pm21 cd21 ct21 : Value} {od21 an21 : Option Addr} {sl21 : Array (Option Value)}
    (a21 : PySem.W.nsIn K mainGlobals "is_spot" = some (some (.ref f21))) (l21 : K.lookup f21 = some ⟨oc21, od21, .func (PySem.W.fnOf "is_spot" "is_spot" (defArgs s_is_spot) (defBody s_is_spot) (defScope s_is_spot) .none kV21 dc21 pm21 an21 cd21 ct21), sl21⟩) (c21 : PySem.W.codeIn K cd21 "is_spot" = true) (k21 : PySem.W.keepIn K (.ref f21) = true)
    {f22 : Addr} {oc22 kV22 dc22 pm22 cd22 ct22 : Value} {od22 an22 : Option Addr} {sl22 : Array (Option Value)}
    (a22 : PySem.W.nsIn K mainGlobals "is_marks" = some (some (.ref f22))) (l22 : K.lookup f22 = some ⟨oc22, od22, .func (PySem.W.fnOf "is_marks" "is_marks" (defArgs s_is_marks) (defBody s_is_marks) (defScope s_is_marks) .none kV22 dc22 pm22 an22 cd22 ct22), sl22⟩) (c22 : PySem.W.codeIn K cd22 "is_marks" = true) (k22 : PySem.W.keepIn K (.ref f22) = true)
    {f23 : Addr} {oc23 kV23 dc23 pm23 cd23 ct23 : Value} {od23 an23 : Option Addr} {sl23 : Array (Option Value)}
    (a23 : PySem.W.nsIn K mainGlobals "need_marks" = some (some (.ref f23))) (l23 : K.lookup f23 = some ⟨oc23, od23, .func (PySem.W.fnOf "need_marks" "need_marks" (defArgs s_need_marks) (defBody s_need_marks) (defScope s_need_marks) .none kV23 dc23 pm23 an23 cd23 ct23), sl23⟩) (c23 : PySem.W.codeIn K cd23 "need_marks" = true) (k23 : PySem.W.keepIn K (.ref f23) = true)
    {f24 : Addr} {oc24 kV24 dc24 pm24 cd24 ct24 : Value} {od24 an24 : Option Addr} {sl24 : Array (Option Value)}
    (a24 : PySem.W.nsIn K mainGlobals "need_spot" = some (some (.ref f24))) (l24 : K.lookup f24 = some ⟨oc24, od24, .func (PySem.W.fnOf "need_spot" "need_spot" (defArgs s_need_spot) (defBody s_need_spot) (defScope s_need_spot) .none kV24 dc24 pm24 an24 cd24 ct24), sl24⟩) (c24 : PySem.W.codeIn K cd24 "need_spot" = true) (k24 : PySem.W.keepIn K (.ref f24) = true)
    {f25 : Addr} {oc25 kV25 dc25 pm25 cd25 ct25 : Value} {od25 an25 : Option Addr} {sl25 : Array (Option Value)}
    (a25 : PySem.W.nsIn K mainGlobals "trade_at" = some (some (.ref f25))) (l25 : K.lookup f25 = some ⟨oc25, od25, .func (PySem.W.fnOf "trade_at" "trade_at" (defArgs s_trade_at) (defBody s_trade_at) (defScope s_trade_at) .none kV25 dc25 pm25 an25 cd25 ct25), sl25⟩) (c25 : PySem.W.codeIn K cd25 "trade_at" = true) (k25 : PySem.W.keepIn K (.ref f25) = true)
    {f26 : Addr} {oc26 kV26 dc26 pm26 cd26 ct26 : Value} {od26 an26 : Option Addr} {sl26 : Array (Option Value)}
    (a26 : PySem.W.nsIn K mainGlobals "trades" = some (some (.ref f26))) (l26 : K.lookup f26 = some ⟨oc26, od26, .func (PySem.W.fnOf "trades" "trades" (defArgs s_trades) (defBody s_trades) (defScope s_trades) .none kV26 dc26 pm26 an26 cd26 ct26), sl26⟩) (c26 : PySem.W.codeIn K cd26 "trades" = true) (k26 : PySem.W.keepIn K (.ref f26) = true)
    {f27 : Addr} {oc27 kV27 dc27 pm27 cd27 ct27 : Value} {od27 an27 : Option Addr} {sl27 : Array (Option Value)}
    (a27 : PySem.W.nsIn K mainGlobals "held_traded" = some (some (.ref f27))) (l27 : K.lookup f27 = some ⟨oc27, od27, .func (PySem.W.fnOf "held_traded" "held_traded" (defArgs s_held_traded) (defBody s_held_traded) (defScope s_held_traded) .none kV27 dc27 pm27 an27 cd27 ct27), sl27⟩) (c27 : PySem.W.codeIn K cd27 "held_traded" = true) (k27 : PySem.W.keepIn K (.ref f27) = true)
    {f28 : Addr} {oc28 kV28 dc28 pm28 cd28 ct28 : Value} {od28 an28 : Option Addr} {sl28 : Array (Option Value)}
    (a28 : PySem.W.nsIn K mainGlobals "held_behind" = some (some (.ref f28))) (l28 : K.lookup f28 = some ⟨oc28, od28, .func (PySem.W.fnOf "held_behind" "held_behind" (defArgs s_held_behind) (defBody s_held_behind) (defScope s_held_behind) .none kV28 dc28 pm28 an28 cd28 ct28), sl28⟩) (c28 : PySem.W.codeIn K cd28 "held_behind" = true) (k28 : PySem.W.keepIn K (.ref f28) = true)
    {f29 : Addr} {oc29 kV29 dc29 pm29 cd29 ct29 : Value} {od29 an29 : Option Addr} {sl29 : Array (Option Value)}
    (a29 : PySem.W.nsIn K mainGlobals "exchange_by" = some (some (.ref f29))) (l29 : K.lookup f29 = some ⟨oc29, od29, .func (PySem.W.fnOf "exchange_by" "exchange_by" (defArgs s_exchange_by) (defBody s_exchange_by) (defScope s_exchange_by) .none kV29 dc29 pm29 an29 cd29 ct29), sl29⟩) (c29 : PySem.W.codeIn K cd29 "exchange_by" = true) (k29 : PySem.W.keepIn K (.ref f29) = true)
    {f30 : Addr} {oc30 kV30 dc30 pm30 cd30 ct30 : Value} {od30 an30 : Option Addr} {sl30 : Array (Option Value)}
    (a30 : PySem.W.nsIn K mainGlobals "round_from" = some (some (.ref f30))) (l30 : K.lookup f30 = some ⟨oc30, od30, .func (PySem.W.fnOf "round_from" "round_from" (defArgs s_round_from) (defBody s_round_from) (defScope s_round_from) .none kV30 dc30 pm30 an30 cd30 ct30), sl30⟩) (c30 : PySem.W.codeIn K cd30 "round_from" = true) (k30 : PySem.W.keepIn K (.ref f30) = true)
    {f31 : Addr} {oc31 kV31 dc31 pm31 cd31 ct31 : Value} {od31 an31 : Option Addr} {sl31 : Array (Option Value)}
    (a31 : PySem.W.nsIn K mainGlobals "rounds_in" = some (some (.ref f31))) (l31 : K.lookup f31 = some ⟨oc31, od31, .func (PySem.W.fnOf "rounds_in" "rounds_in" (defArgs s_rounds_in) (defBody s_rounds_in) (defScope s_rounds_in) .none kV31 dc31 pm31 an31 cd31 ct31), sl31⟩) (c31 : PySem.W.codeIn K cd31 "rounds_in" = true) (k31 : PySem.W.keepIn K (.ref f31) = true)
    {f32 : Addr} {oc32 kV32 dc32 pm32 cd32 ct32 : Value} {od32 an32 : Option Addr} {sl32 : Array (Option Value)}
    (a32 : PySem.W.nsIn K mainGlobals "cell_behind" = some (some (.ref f32))) (l32 : K.lookup f32 = some ⟨oc32, od32, .func (PySem.W.fnOf "cell_behind" "cell_behind" (defArgs s_cell_behind) (defBody s_cell_behind) (defScope s_cell_behind) .none kV32 dc32 pm32 an32 cd32 ct32), sl32⟩) (c32 : PySem.W.codeIn K cd32 "cell_behind" = true) (k32 : PySem.W.keepIn K (.ref f32) = true)
    {f33 : Addr} {oc33 kV33 dc33 pm33 cd33 ct33 : Value} {od33 an33 : Option Addr} {sl33 : Array (Option Value)}
    (a33 : PySem.W.nsIn K mainGlobals "is_endless" = some (some (.ref f33))) (l33 : K.lookup f33 = some ⟨oc33, od33, .func (PySem.W.fnOf "is_endless" "is_endless" (defArgs s_is_endless) (defBody s_is_endless) (defScope s_is_endless) .none kV33 dc33 pm33 an33 cd33 ct33), sl33⟩) (c33 : PySem.W.codeIn K cd33 "is_endless" = true) (k33 : PySem.W.keepIn K (.ref f33) = true)
    {f34 : Addr} {oc34 kV34 dc34 pm34 cd34 ct34 : Value} {od34 an34 : Option Addr} {sl34 : Array (Option Value)}
    (a34 : PySem.W.nsIn K mainGlobals "most_plays" = some (some (.ref f34))) (l34 : K.lookup f34 = some ⟨oc34, od34, .func (PySem.W.fnOf "most_plays" "most_plays" (defArgs s_most_plays) (defBody s_most_plays) (defScope s_most_plays) .none kV34 dc34 pm34 an34 cd34 ct34), sl34⟩) (c34 : PySem.W.codeIn K cd34 "most_plays" = true) (k34 : PySem.W.keepIn K (.ref f34) = true)
    {f35 : Addr} {oc35 kV35 dc35 pm35 cd35 ct35 : Value} {od35 an35 : Option Addr} {sl35 : Array (Option Value)}
    (a35 : PySem.W.nsIn K mainGlobals "need_times" = some (some (.ref f35))) (l35 : K.lookup f35 = some ⟨oc35, od35, .func (PySem.W.fnOf "need_times" "need_times" (defArgs s_need_times) (defBody s_need_times) (defScope s_need_times) .none kV35 dc35 pm35 an35 cd35 ct35), sl35⟩) (c35 : PySem.W.codeIn K cd35 "need_times" = true) (k35 : PySem.W.keepIn K (.ref f35) = true)
    {f36 : Addr} {oc36 kV36 dc36 pm36 cd36 ct36 : Value} {od36 an36 : Option Addr} {sl36 : Array (Option Value)}
    (a36 : PySem.W.nsIn K mainGlobals "need_plays" = some (some (.ref f36))) (l36 : K.lookup f36 = some ⟨oc36, od36, .func (PySem.W.fnOf "need_plays" "need_plays" (defArgs s_need_plays) (defBody s_need_plays) (defScope s_need_plays) .none kV36 dc36 pm36 an36 cd36 ct36), sl36⟩) (c36 : PySem.W.codeIn K cd36 "need_plays" = true) (k36 : PySem.W.keepIn K (.ref f36) = true)
    {f37 : Addr} {oc37 kV37 dc37 pm37 cd37 ct37 : Value} {od37 an37 : Option Addr} {sl37 : Array (Option Value)}
    (a37 : PySem.W.nsIn K mainGlobals "repeated" = some (some (.ref f37))) (l37 : K.lookup f37 = some ⟨oc37, od37, .func (PySem.W.fnOf "repeated" "repeated" (defArgs s_repeated) (defBody s_repeated) (defScope s_repeated) .none kV37 dc37 pm37 an37 cd37 ct37), sl37⟩) (c37 : PySem.W.codeIn K cd37 "repeated" = true) (k37 : PySem.W.keepIn K (.ref f37) = true)
    {f38 : Addr} {oc38 kV38 dc38 pm38 cd38 ct38 : Value} {od38 an38 : Option Addr} {sl38 : Array (Option Value)}
    (a38 : PySem.W.nsIn K mainGlobals "need_far" = some (some (.ref f38))) (l38 : K.lookup f38 = some ⟨oc38, od38, .func (PySem.W.fnOf "need_far" "need_far" (defArgs s_need_far) (defBody s_need_far) (defScope s_need_far) .none kV38 dc38 pm38 an38 cd38 ct38), sl38⟩) (c38 : PySem.W.codeIn K cd38 "need_far" = true) (k38 : PySem.W.keepIn K (.ref f38) = true)
    {f39 : Addr} {oc39 kV39 dc39 pm39 cd39 ct39 : Value} {od39 an39 : Option Addr} {sl39 : Array (Option Value)}
    (a39 : PySem.W.nsIn K mainGlobals "exchanged_marks" = some (some (.ref f39))) (l39 : K.lookup f39 = some ⟨oc39, od39, .func (PySem.W.fnOf "exchanged_marks" "exchanged_marks" (defArgs s_exchanged_marks) (defBody s_exchanged_marks) (defScope s_exchanged_marks) .none kV39 dc39 pm39 an39 cd39 ct39), sl39⟩) (c39 : PySem.W.codeIn K cd39 "exchanged_marks" = true) (k39 : PySem.W.keepIn K (.ref f39) = true)
    {f40 : Addr} {oc40 kV40 dc40 pm40 cd40 ct40 : Value} {od40 an40 : Option Addr} {sl40 : Array (Option Value)}
    (a40 : PySem.W.nsIn K mainGlobals "need_mark" = some (some (.ref f40))) (l40 : K.lookup f40 = some ⟨oc40, od40, .func (PySem.W.fnOf "need_mark" "need_mark" (defArgs s_need_mark) (defBody s_need_mark) (defScope s_need_mark) .none kV40 dc40 pm40 an40 cd40 ct40), sl40⟩) (c40 : PySem.W.codeIn K cd40 "need_mark" = true) (k40 : PySem.W.keepIn K (.ref f40) = true)
    {f41 : Addr} {oc41 kV41 dc41 pm41 cd41 ct41 : Value} {od41 an41 : Option Addr} {sl41 : Array (Option Value)}
    (a41 : PySem.W.nsIn K mainGlobals "_law_cell_at" = some (some (.ref f41))) (l41 : K.lookup f41 = some ⟨oc41, od41, .func (PySem.W.fnOf "_law_cell_at" "_law_cell_at" (defArgs s__law_cell_at) (defBody s__law_cell_at) (defScope s__law_cell_at) .none kV41 dc41 pm41 an41 cd41 ct41), sl41⟩) (c41 : PySem.W.codeIn K cd41 "_law_cell_at" = true) (k41 : PySem.W.keepIn K (.ref f41) = true)
    {f42 : Addr} {oc42 kV42 dc42 pm42 cd42 ct42 : Value} {od42 an42 : Option Addr} {sl42 : Array (Option Value)}
    (a42 : PySem.W.nsIn K mainGlobals "_law_pen" = some (some (.ref f42))) (l42 : K.lookup f42 = some ⟨oc42, od42, .func (PySem.W.fnOf "_law_pen" "_law_pen" (defArgs s__law_pen) (defBody s__law_pen) (defScope s__law_pen) .none kV42 dc42 pm42 an42 cd42 ct42), sl42⟩) (c42 : PySem.W.codeIn K cd42 "_law_pen" = true) (k42 : PySem.W.keepIn K (.ref f42) = true)
    {f43 : Addr} {oc43 kV43 dc43 pm43 cd43 ct43 : Value} {od43 an43 : Option Addr} {sl43 : Array (Option Value)}
    (a43 : PySem.W.nsIn K mainGlobals "_law_draw" = some (some (.ref f43))) (l43 : K.lookup f43 = some ⟨oc43, od43, .func (PySem.W.fnOf "_law_draw" "_law_draw" (defArgs s__law_draw) (defBody s__law_draw) (defScope s__law_draw) .none kV43 dc43 pm43 an43 cd43 ct43), sl43⟩) (c43 : PySem.W.codeIn K cd43 "_law_draw" = true) (k43 : PySem.W.keepIn K (.ref f43) = true)
    {f44 : Addr} {oc44 kV44 dc44 pm44 cd44 ct44 : Value} {od44 an44 : Option Addr} {sl44 : Array (Option Value)}
    (a44 : PySem.W.nsIn K mainGlobals "_law_pick" = some (some (.ref f44))) (l44 : K.lookup f44 = some ⟨oc44, od44, .func (PySem.W.fnOf "_law_pick" "_law_pick" (defArgs s__law_pick) (defBody s__law_pick) (defScope s__law_pick) .none kV44 dc44 pm44 an44 cd44 ct44), sl44⟩) (c44 : PySem.W.codeIn K cd44 "_law_pick" = true) (k44 : PySem.W.keepIn K (.ref f44) = true)
    {f45 : Addr} {oc45 kV45 dc45 pm45 cd45 ct45 : Value} {od45 an45 : Option Addr} {sl45 : Array (Option Value)}
    (a45 : PySem.W.nsIn K mainGlobals "_law_is_near" = some (some (.ref f45))) (l45 : K.lookup f45 = some ⟨oc45, od45, .func (PySem.W.fnOf "_law_is_near" "_law_is_near" (defArgs s__law_is_near) (defBody s__law_is_near) (defScope s__law_is_near) .none kV45 dc45 pm45 an45 cd45 ct45), sl45⟩) (c45 : PySem.W.codeIn K cd45 "_law_is_near" = true) (k45 : PySem.W.keepIn K (.ref f45) = true)
    {f46 : Addr} {oc46 kV46 dc46 pm46 cd46 ct46 : Value} {od46 an46 : Option Addr} {sl46 : Array (Option Value)}
    (a46 : PySem.W.nsIn K mainGlobals "_law_beside" = some (some (.ref f46))) (l46 : K.lookup f46 = some ⟨oc46, od46, .func (PySem.W.fnOf "_law_beside" "_law_beside" (defArgs s__law_beside) (defBody s__law_beside) (defScope s__law_beside) .none kV46 dc46 pm46 an46 cd46 ct46), sl46⟩) (c46 : PySem.W.codeIn K cd46 "_law_beside" = true) (k46 : PySem.W.keepIn K (.ref f46) = true)
    {f47 : Addr} {oc47 kV47 dc47 pm47 cd47 ct47 : Value} {od47 an47 : Option Addr} {sl47 : Array (Option Value)}
    (a47 : PySem.W.nsIn K mainGlobals "_law_rolled" = some (some (.ref f47))) (l47 : K.lookup f47 = some ⟨oc47, od47, .func (PySem.W.fnOf "_law_rolled" "_law_rolled" (defArgs s__law_rolled) (defBody s__law_rolled) (defScope s__law_rolled) .none kV47 dc47 pm47 an47 cd47 ct47), sl47⟩) (c47 : PySem.W.codeIn K cd47 "_law_rolled" = true) (k47 : PySem.W.keepIn K (.ref f47) = true)
    {f48 : Addr} {oc48 kV48 dc48 pm48 cd48 ct48 : Value} {od48 an48 : Option Addr} {sl48 : Array (Option Value)}
    (a48 : PySem.W.nsIn K mainGlobals "_law_lying" = some (some (.ref f48))) (l48 : K.lookup f48 = some ⟨oc48, od48, .func (PySem.W.fnOf "_law_lying" "_law_lying" (defArgs s__law_lying) (defBody s__law_lying) (defScope s__law_lying) .none kV48 dc48 pm48 an48 cd48 ct48), sl48⟩) (c48 : PySem.W.codeIn K cd48 "_law_lying" = true) (k48 : PySem.W.keepIn K (.ref f48) = true)
    {f49 : Addr} {oc49 kV49 dc49 pm49 cd49 ct49 : Value} {od49 an49 : Option Addr} {sl49 : Array (Option Value)}
    (a49 : PySem.W.nsIn K mainGlobals "_law_row" = some (some (.ref f49))) (l49 : K.lookup f49 = some ⟨oc49, od49, .func (PySem.W.fnOf "_law_row" "_law_row" (defArgs s__law_row) (defBody s__law_row) (defScope s__law_row) .none kV49 dc49 pm49 an49 cd49 ct49), sl49⟩) (c49 : PySem.W.codeIn K cd49 "_law_row" = true) (k49 : PySem.W.keepIn K (.ref f49) = true)
    {f50 : Addr} {oc50 kV50 dc50 pm50 cd50 ct50 : Value} {od50 an50 : Option Addr} {sl50 : Array (Option Value)}
    (a50 : PySem.W.nsIn K mainGlobals "_law_marks" = some (some (.ref f50))) (l50 : K.lookup f50 = some ⟨oc50, od50, .func (PySem.W.fnOf "_law_marks" "_law_marks" (defArgs s__law_marks) (defBody s__law_marks) (defScope s__law_marks) .none kV50 dc50 pm50 an50 cd50 ct50), sl50⟩) (c50 : PySem.W.codeIn K cd50 "_law_marks" = true) (k50 : PySem.W.keepIn K (.ref f50) = true)
    {f51 : Addr} {oc51 kV51 dc51 pm51 cd51 ct51 : Value} {od51 an51 : Option Addr} {sl51 : Array (Option Value)}
    (a51 : PySem.W.nsIn K mainGlobals "_law_start" = some (some (.ref f51))) (l51 : K.lookup f51 = some ⟨oc51, od51, .func (PySem.W.fnOf "_law_start" "_law_start" (defArgs s__law_start) (defBody s__law_start) (defScope s__law_start) .none kV51 dc51 pm51 an51 cd51 ct51), sl51⟩) (c51 : PySem.W.codeIn K cd51 "_law_start" = true) (k51 : PySem.W.keepIn K (.ref f51) = true)
    {f52 : Addr} {oc52 kV52 dc52 pm52 cd52 ct52 : Value} {od52 an52 : Option Addr} {sl52 : Array (Option Value)}
    (a52 : PySem.W.findIn K (.ref CT) "__init__" = some (some (.ref f52))) (mf52 : PySem.W.isFn K (.ref f52) = true) (l52 : K.lookup f52 = some ⟨oc52, od52, .func (PySem.W.fnOf "__init__" "Table.__init__" (defArgs s_Table___init__) (defBody s_Table___init__) (defScope s_Table___init__) .none kV52 dc52 pm52 an52 cd52 ct52), sl52⟩) (c52 : PySem.W.codeIn K cd52 "Table.__init__" = true) (k52 : PySem.W.keepIn K (.ref f52) = true)
    {f53 : Addr} {oc53 kV53 dc53 pm53 cd53 ct53 : Value} {od53 an53 : Option Addr} {sl53 : Array (Option Value)}
    (a53 : PySem.W.findIn K (.ref CT) "keep" = some (some (.ref f53))) (mf53 : PySem.W.isFn K (.ref f53) = true) (l53 : K.lookup f53 = some ⟨oc53, od53, .func (PySem.W.fnOf "keep" "Table.keep" (defArgs s_Table_keep) (defBody s_Table_keep) (defScope s_Table_keep) .none kV53 dc53 pm53 an53 cd53 ct53), sl53⟩) (c53 : PySem.W.codeIn K cd53 "Table.keep" = true) (k53 : PySem.W.keepIn K (.ref f53) = true)
    {f54 : Addr} {oc54 kV54 dc54 pm54 cd54 ct54 : Value} {od54 an54 : Option Addr} {sl54 : Array (Option Value)}
    (a54 : PySem.W.findIn K (.ref CT) "mark" = some (some (.ref f54))) (mf54 : PySem.W.isFn K (.ref f54) = true) (l54 : K.lookup f54 = some ⟨oc54, od54, .func (PySem.W.fnOf "mark" "Table.mark" (defArgs s_Table_mark) (defBody s_Table_mark) (defScope s_Table_mark) .none kV54 dc54 pm54 an54 cd54 ct54), sl54⟩) (c54 : PySem.W.codeIn K cd54 "Table.mark" = true) (k54 : PySem.W.keepIn K (.ref f54) = true)
    {f55 : Addr} {oc55 kV55 dc55 pm55 cd55 ct55 : Value} {od55 an55 : Option Addr} {sl55 : Array (Option Value)}
    (a55 : PySem.W.findIn K (.ref CT) "trade" = some (some (.ref f55))) (mf55 : PySem.W.isFn K (.ref f55) = true) (l55 : K.lookup f55 = some ⟨oc55, od55, .func (PySem.W.fnOf "trade" "Table.trade" (defArgs s_Table_trade) (defBody s_Table_trade) (defScope s_Table_trade) .none kV55 dc55 pm55 an55 cd55 ct55), sl55⟩) (c55 : PySem.W.codeIn K cd55 "Table.trade" = true) (k55 : PySem.W.keepIn K (.ref f55) = true)
    {f56 : Addr} {oc56 kV56 dc56 pm56 cd56 ct56 : Value} {od56 an56 : Option Addr} {sl56 : Array (Option Value)}
    (a56 : PySem.W.findIn K (.ref CT) "stand" = some (some (.ref f56))) (mf56 : PySem.W.isFn K (.ref f56) = true) (l56 : K.lookup f56 = some ⟨oc56, od56, .func (PySem.W.fnOf "stand" "Table.stand" (defArgs s_Table_stand) (defBody s_Table_stand) (defScope s_Table_stand) .none kV56 dc56 pm56 an56 cd56 ct56), sl56⟩) (c56 : PySem.W.codeIn K cd56 "Table.stand" = true) (k56 : PySem.W.keepIn K (.ref f56) = true)
    {f57 : Addr} {oc57 kV57 dc57 pm57 cd57 ct57 : Value} {od57 an57 : Option Addr} {sl57 : Array (Option Value)}
    (a57 : PySem.W.findIn K (.ref CT) "marks" = some (some (.ref f57))) (mf57 : PySem.W.isFn K (.ref f57) = true) (l57 : K.lookup f57 = some ⟨oc57, od57, .func (PySem.W.fnOf "marks" "Table.marks" (defArgs s_Table_marks) (defBody s_Table_marks) (defScope s_Table_marks) .none kV57 dc57 pm57 an57 cd57 ct57), sl57⟩) (c57 : PySem.W.codeIn K cd57 "Table.marks" = true) (k57 : PySem.W.keepIn K (.ref f57) = true)
    {f58 : Addr} {oc58 kV58 dc58 pm58 cd58 ct58 : Value} {od58 an58 : Option Addr} {sl58 : Array (Option Value)}
    (a58 : PySem.W.findIn K (.ref CT) "rolls" = some (some (.ref f58))) (mf58 : PySem.W.isFn K (.ref f58) = true) (l58 : K.lookup f58 = some ⟨oc58, od58, .func (PySem.W.fnOf "rolls" "Table.rolls" (defArgs s_Table_rolls) (defBody s_Table_rolls) (defScope s_Table_rolls) .none kV58 dc58 pm58 an58 cd58 ct58), sl58⟩) (c58 : PySem.W.codeIn K cd58 "Table.rolls" = true) (k58 : PySem.W.keepIn K (.ref f58) = true)
    {f59 : Addr} {oc59 kV59 dc59 pm59 cd59 ct59 : Value} {od59 an59 : Option Addr} {sl59 : Array (Option Value)}
    (a59 : PySem.W.findIn K (.ref CT) "__eq__" = some (some (.ref f59))) (mf59 : PySem.W.isFn K (.ref f59) = true) (l59 : K.lookup f59 = some ⟨oc59, od59, .func (PySem.W.fnOf "__eq__" "Table.__eq__" (defArgs s_Table___eq__) (defBody s_Table___eq__) (defScope s_Table___eq__) .none kV59 dc59 pm59 an59 cd59 ct59), sl59⟩) (c59 : PySem.W.codeIn K cd59 "Table.__eq__" = true) (k59 : PySem.W.keepIn K (.ref f59) = true)
    {f60 : Addr} {oc60 kV60 dc60 pm60 cd60 ct60 : Value} {od60 an60 : Option Addr} {sl60 : Array (Option Value)}
    (a60 : PySem.W.nsIn K mainGlobals "need_let" = some (some (.ref f60))) (l60 : K.lookup f60 = some ⟨oc60, od60, .func (PySem.W.fnOf "need_let" "need_let" (defArgs s_need_let) (defBody s_need_let) (defScope s_need_let) .none kV60 dc60 pm60 an60 cd60 ct60), sl60⟩) (c60 : PySem.W.codeIn K cd60 "need_let" = true) (k60 : PySem.W.keepIn K (.ref f60) = true)
    {f61 : Addr} {oc61 kV61 dc61 pm61 cd61 ct61 : Value} {od61 an61 : Option Addr} {sl61 : Array (Option Value)}
    (a61 : PySem.W.nsIn K mainGlobals "stand_behind" = some (some (.ref f61))) (l61 : K.lookup f61 = some ⟨oc61, od61, .func (PySem.W.fnOf "stand_behind" "stand_behind" (defArgs s_stand_behind) (defBody s_stand_behind) (defScope s_stand_behind) .none kV61 dc61 pm61 an61 cd61 ct61), sl61⟩) (c61 : PySem.W.codeIn K cd61 "stand_behind" = true) (k61 : PySem.W.keepIn K (.ref f61) = true)
    {f62 : Addr} {oc62 kV62 dc62 pm62 cd62 ct62 : Value} {od62 an62 : Option Addr} {sl62 : Array (Option Value)}
    (a62 : PySem.W.nsIn K mainGlobals "marks_behind" = some (some (.ref f62))) (l62 : K.lookup f62 = some ⟨oc62, od62, .func (PySem.W.fnOf "marks_behind" "marks_behind" (defArgs s_marks_behind) (defBody s_marks_behind) (defScope s_marks_behind) .none kV62 dc62 pm62 an62 cd62 ct62), sl62⟩) (c62 : PySem.W.codeIn K cd62 "marks_behind" = true) (k62 : PySem.W.keepIn K (.ref f62) = true)
    {f63 : Addr} {oc63 kV63 dc63 pm63 cd63 ct63 : Value} {od63 an63 : Option Addr} {sl63 : Array (Option Value)}
    (a63 : PySem.W.nsIn K mainGlobals "exchange" = some (some (.ref f63))) (l63 : K.lookup f63 = some ⟨oc63, od63, .func (PySem.W.fnOf "exchange" "exchange" (defArgs s_exchange) (defBody s_exchange) (defScope s_exchange) .none kV63 dc63 pm63 an63 cd63 ct63), sl63⟩) (c63 : PySem.W.codeIn K cd63 "exchange" = true) (k63 : PySem.W.keepIn K (.ref f63) = true)
    {f64 : Addr} {oc64 kV64 dc64 pm64 cd64 ct64 : Value} {od64 an64 : Option Addr} {sl64 : Array (Option Value)}
    (a64 : PySem.W.nsIn K mainGlobals "turn_plays" = some (some (.ref f64))) (l64 : K.lookup f64 = some ⟨oc64, od64, .func (PySem.W.fnOf "turn_plays" "turn_plays" (defArgs s_turn_plays) (defBody s_turn_plays) (defScope s_turn_plays) .none kV64 dc64 pm64 an64 cd64 ct64), sl64⟩) (c64 : PySem.W.codeIn K cd64 "turn_plays" = true) (k64 : PySem.W.keepIn K (.ref f64) = true)
    {f65 : Addr} {oc65 kV65 dc65 pm65 cd65 ct65 : Value} {od65 an65 : Option Addr} {sl65 : Array (Option Value)}
    (a65 : PySem.W.nsIn K mainGlobals "split_times" = some (some (.ref f65))) (l65 : K.lookup f65 = some ⟨oc65, od65, .func (PySem.W.fnOf "split_times" "split_times" (defArgs s_split_times) (defBody s_split_times) (defScope s_split_times) .none kV65 dc65 pm65 an65 cd65 ct65), sl65⟩) (c65 : PySem.W.codeIn K cd65 "split_times" = true) (k65 : PySem.W.keepIn K (.ref f65) = true)
    {f66 : Addr} {oc66 kV66 dc66 pm66 cd66 ct66 : Value} {od66 an66 : Option Addr} {sl66 : Array (Option Value)}
    (a66 : PySem.W.nsIn K mainGlobals "stand_far" = some (some (.ref f66))) (l66 : K.lookup f66 = some ⟨oc66, od66, .func (PySem.W.fnOf "stand_far" "stand_far" (defArgs s_stand_far) (defBody s_stand_far) (defScope s_stand_far) .none kV66 dc66 pm66 an66 cd66 ct66), sl66⟩) (c66 : PySem.W.codeIn K cd66 "stand_far" = true) (k66 : PySem.W.keepIn K (.ref f66) = true)
    {f67 : Addr} {oc67 kV67 dc67 pm67 cd67 ct67 : Value} {od67 an67 : Option Addr} {sl67 : Array (Option Value)}
    (a67 : PySem.W.nsIn K mainGlobals "exchange_far" = some (some (.ref f67))) (l67 : K.lookup f67 = some ⟨oc67, od67, .func (PySem.W.fnOf "exchange_far" "exchange_far" (defArgs s_exchange_far) (defBody s_exchange_far) (defScope s_exchange_far) .none kV67 dc67 pm67 an67 cd67 ct67), sl67⟩) (c67 : PySem.W.codeIn K cd67 "exchange_far" = true) (k67 : PySem.W.keepIn K (.ref f67) = true)
    {f68 : Addr} {oc68 kV68 dc68 pm68 cd68 ct68 : Value} {od68 an68 : Option Addr} {sl68 : Array (Option Value)}
    (a68 : PySem.W.nsIn K mainGlobals "_law_floor" = some (some (.ref f68))) (l68 : K.lookup f68 = some ⟨oc68, od68, .func (PySem.W.fnOf "_law_floor" "_law_floor" (defArgs s__law_floor) (defBody s__law_floor) (defScope s__law_floor) .none kV68 dc68 pm68 an68 cd68 ct68), sl68⟩) (c68 : PySem.W.codeIn K cd68 "_law_floor" = true) (k68 : PySem.W.keepIn K (.ref f68) = true)
    {f69 : Addr} {oc69 kV69 dc69 pm69 cd69 ct69 : Value} {od69 an69 : Option Addr} {sl69 : Array (Option Value)} {T69 : Addr} {oT69 : Obj}
    (a69 : PySem.W.findIn K (.ref CT) "play" = some (some (.ref f69))) (mf69 : PySem.W.isFn K (.ref f69) = true) (l69 : K.lookup f69 = some ⟨oc69, od69, .func (PySem.W.fnOf "play" "Table.play" (defArgs s_Table_play) (defBody s_Table_play) (defScope s_Table_play) (.ref T69) kV69 dc69 pm69 an69 cd69 ct69), sl69⟩) (t69 : K.lookup T69 = some oT69) (db_u69 : isInt1 oT69 = true) (c69 : PySem.W.codeIn K cd69 "Table.play" = true) (k69 : PySem.W.keepIn K (.ref f69) = true)
    {f70 : Addr} {oc70 kV70 dc70 pm70 cd70 ct70 : Value} {od70 an70 : Option Addr} {sl70 : Array (Option Value)}
    (a70 : PySem.W.nsIn K mainGlobals "_law_moved_right" = some (some (.ref f70))) (l70 : K.lookup f70 = some ⟨oc70, od70, .func (PySem.W.fnOf "_law_moved_right" "_law_moved_right" (defArgs s__law_moved_right) (defBody s__law_moved_right) (defScope s__law_moved_right) .none kV70 dc70 pm70 an70 cd70 ct70), sl70⟩) (c70 : PySem.W.codeIn K cd70 "_law_moved_right" = true) (k70 : PySem.W.keepIn K (.ref f70) = true)
    {f71 : Addr} {oc71 kV71 dc71 pm71 cd71 ct71 : Value} {od71 an71 : Option Addr} {sl71 : Array (Option Value)}
    (a71 : PySem.W.findIn K (.ref CT) "roll" = some (some (.ref f71))) (mf71 : PySem.W.isFn K (.ref f71) = true) (l71 : K.lookup f71 = some ⟨oc71, od71, .func (PySem.W.fnOf "roll" "Table.roll" (defArgs s_Table_roll) (defBody s_Table_roll) (defScope s_Table_roll) .none kV71 dc71 pm71 an71 cd71 ct71), sl71⟩) (c71 : PySem.W.codeIn K cd71 "Table.roll" = true) (k71 : PySem.W.keepIn K (.ref f71) = true)
    {f72 : Addr} {oc72 kV72 dc72 pm72 cd72 ct72 : Value} {od72 an72 : Option Addr} {sl72 : Array (Option Value)}
    (a72 : PySem.W.nsIn K mainGlobals "law" = some (some (.ref f72))) (l72 : K.lookup f72 = some ⟨oc72, od72, .func (PySem.W.fnOf "law" "law" (defArgs s_law) (defBody s_law) (defScope s_law) .none kV72 dc72 pm72 an72 cd72 ct72), sl72⟩) (c72 : PySem.W.codeIn K cd72 "law" = true) (k72 : PySem.W.keepIn K (.ref f72) = true)
    (z_isinstance : PySem.W.nsIn K mainGlobals "isinstance" = some none)
    (z_bool : PySem.W.nsIn K mainGlobals "bool" = some none)
    (z_int : PySem.W.nsIn K mainGlobals "int" = some none)
    (z_len : PySem.W.nsIn K mainGlobals "len" = some none)
    (z_tuple : PySem.W.nsIn K mainGlobals "tuple" = some none)
    (z_all : PySem.W.nsIn K mainGlobals "all" = some none)
    (z_zip : PySem.W.nsIn K mainGlobals "zip" = some none)
    (z_str : PySem.W.nsIn K mainGlobals "str" = some none)
    (z_enumerate : PySem.W.nsIn K mainGlobals "enumerate" = some none)
    (z_range : PySem.W.nsIn K mainGlobals "range" = some none)
    (z_list : PySem.W.nsIn K mainGlobals "list" = some none)
    (z_min : PySem.W.nsIn K mainGlobals "min" = some none)
    (z_max : PySem.W.nsIn K mainGlobals "max" = some none)
    (z_abs : PySem.W.nsIn K mainGlobals "abs" = some none)
    (z_sorted : PySem.W.nsIn K mainGlobals "sorted" = some none)
    {u_LAST_LINE : Value} (ca_LAST_LINE : PySem.W.nsIn K mainGlobals "LAST_LINE" = some (some u_LAST_LINE)) (cb_LAST_LINE : kvB K 9 u_LAST_LINE v_LAST_LINE = true)
    {u_MOST_CELLS : Value} (ca_MOST_CELLS : PySem.W.nsIn K mainGlobals "MOST_CELLS" = some (some u_MOST_CELLS)) (cb_MOST_CELLS : kvB K 9 u_MOST_CELLS v_MOST_CELLS = true)
    {u_LYINGS : Value} (ca_LYINGS : PySem.W.nsIn K mainGlobals "LYINGS" = some (some u_LYINGS)) (cb_LYINGS : kvB K 9 u_LYINGS v_LYINGS = true)
    {u_OPPOSITE_SUM : Value} (ca_OPPOSITE_SUM : PySem.W.nsIn K mainGlobals "OPPOSITE_SUM" = some (some u_OPPOSITE_SUM)) (cb_OPPOSITE_SUM : kvB K 9 u_OPPOSITE_SUM v_OPPOSITE_SUM = true)
    {u_LETTERS : Value} (ca_LETTERS : PySem.W.nsIn K mainGlobals "LETTERS" = some (some u_LETTERS)) (cb_LETTERS : kvB K 9 u_LETTERS v_LETTERS = true)
    {u_FACES : Value} (ca_FACES : PySem.W.nsIn K mainGlobals "FACES" = some (some u_FACES)) (cb_FACES : kvB K 9 u_FACES v_FACES = true)
    {u_MOST_MARK : Value} (ca_MOST_MARK : PySem.W.nsIn K mainGlobals "MOST_MARK" = some (some u_MOST_MARK)) (cb_MOST_MARK : kvB K 9 u_MOST_MARK v_MOST_MARK = true)
    {u_MOST_TIMES : Value} (ca_MOST_TIMES : PySem.W.nsIn K mainGlobals "MOST_TIMES" = some (some u_MOST_TIMES)) (cb_MOST_TIMES : kvB K 9 u_MOST_TIMES v_MOST_TIMES = true)
    {d_STEPS : Addr} {es_STEPS : Array DictEntry} {n_STEPS : Nat} (da_STEPS : PySem.W.nsIn K mainGlobals "STEPS" = some (some (.ref d_STEPS))) (dl_STEPS : K.lookup d_STEPS = some ⟨.type "dict", none, .dict es_STEPS n_STEPS, #[]⟩) (dk_STEPS : PySem.W.KeysLit w.params es_STEPS.toList) (db_STEPS : kdB K d_STEPS v_STEPS = true) :
    ∃ fd : FuncData, (∀ (s : Shared) (v : Value), BindsTo s fd ⟨[v], []⟩ [("_law_script", v)]) ∧ ∀ base : Heap, K.In base → base.Ns mainGlobals mg → FnOk P w K mg base CX0 11 fa fd ["_law_script"] (spF K f_law 1) := by
  have e := hfa.symm.trans (PySem.W.mg_of X G a72)
  cases e
  have Z_isinstance := PySem.W.mg_none_of X G z_isinstance
  have Z_bool := PySem.W.mg_none_of X G z_bool
  have Z_int := PySem.W.mg_none_of X G z_int
  have Z_len := PySem.W.mg_none_of X G z_len
  have Z_tuple := PySem.W.mg_none_of X G z_tuple
  have Z_all := PySem.W.mg_none_of X G z_all
  have Z_zip := PySem.W.mg_none_of X G z_zip
  have Z_str := PySem.W.mg_none_of X G z_str
  have Z_enumerate := PySem.W.mg_none_of X G z_enumerate
  have Z_range := PySem.W.mg_none_of X G z_range
  have Z_list := PySem.W.mg_none_of X G z_list
  have Z_min := PySem.W.mg_none_of X G z_min
  have Z_max := PySem.W.mg_none_of X G z_max
  have Z_abs := PySem.W.mg_none_of X G z_abs
  have Z_sorted := PySem.W.mg_none_of X G z_sorted
  have C_LAST_LINE : KC K mg "LAST_LINE" v_LAST_LINE := kc_by X G ca_LAST_LINE cb_LAST_LINE
  have C_MOST_CELLS : KC K mg "MOST_CELLS" v_MOST_CELLS := kc_by X G ca_MOST_CELLS cb_MOST_CELLS
  have C_LYINGS : KC K mg "LYINGS" v_LYINGS := kc_by X G ca_LYINGS cb_LYINGS
  have C_OPPOSITE_SUM : KC K mg "OPPOSITE_SUM" v_OPPOSITE_SUM := kc_by X G ca_OPPOSITE_SUM cb_OPPOSITE_SUM
  have C_LETTERS : KC K mg "LETTERS" v_LETTERS := kc_by X G ca_LETTERS cb_LETTERS
  have C_FACES : KC K mg "FACES" v_FACES := kc_by X G ca_FACES cb_FACES
  have C_MOST_MARK : KC K mg "MOST_MARK" v_MOST_MARK := kc_by X G ca_MOST_MARK cb_MOST_MARK
  have C_MOST_TIMES : KC K mg "MOST_TIMES" v_MOST_TIMES := kc_by X G ca_MOST_TIMES cb_MOST_TIMES
  have D_STEPS : KD K w mg "STEPS" v_STEPS := kd_mk X G da_STEPS dl_STEPS dk_STEPS db_STEPS
  have TK : TabK K := tabK_mk gT pgT hdT poT saT naT0 naT1 naT2 naT3 naT4
  have hC : ∃ C, FnK K "Table" C := ⟨CT, gT⟩
  have hCT : ∃ C, FnK K "Table" C ∧ mg "Table" = some (.ref C) := ⟨CT, gT, PySem.W.mg_of X G gT⟩
  have IS : IsK K := isK_mk gT is1 is2 is3 is4 kt_is
  have A_is_whole : At0 K mg "is_whole" s_is_whole ["thing", "most"] := at0_mk X G a0 l0 c0 k0 fun _ _ _ _ _ _ us hl => match us, hl with | [_, _], _ => rfl
  have A_is_cell : At0 K mg "is_cell" s_is_cell ["thing"] := at0_mk X G a1 l1 c1 k1 fun _ _ _ _ _ _ us hl => match us, hl with | [_], _ => rfl
  have A_is_rising : At0 K mg "is_rising" s_is_rising ["things"] := at0_mk X G a2 l2 c2 k2 fun _ _ _ _ _ _ us hl => match us, hl with | [_], _ => rfl
  have A_is_floor : At0 K mg "is_floor" s_is_floor ["thing"] := at0_mk X G a3 l3 c3 k3 fun _ _ _ _ _ _ us hl => match us, hl with | [_], _ => rfl
  have A_is_cell_of : At0 K mg "is_cell_of" s_is_cell_of ["floor", "thing"] := at0_mk X G a4 l4 c4 k4 fun _ _ _ _ _ _ us hl => match us, hl with | [_, _], _ => rfl
  have A_is_lying : At0 K mg "is_lying" s_is_lying ["thing"] := at0_mk X G a5 l5 c5 k5 fun _ _ _ _ _ _ us hl => match us, hl with | [_], _ => rfl
  have A_is_stand : At0 K mg "is_stand" s_is_stand ["floor", "thing"] := at0_mk X G a6 l6 c6 k6 fun _ _ _ _ _ _ us hl => match us, hl with | [_, _], _ => rfl
  have A_is_letter : At0 K mg "is_letter" s_is_letter ["thing"] := at0_mk X G a7 l7 c7 k7 fun _ _ _ _ _ _ us hl => match us, hl with | [_], _ => rfl
  have A_is_row : At0 K mg "is_row" s_is_row ["thing"] := at0_mk X G a8 l8 c8 k8 fun _ _ _ _ _ _ us hl => match us, hl with | [_], _ => rfl
  have A_need_floor : At0 K mg "need_floor" s_need_floor ["floor"] := at0_mk X G a9 l9 c9 k9 fun _ _ _ _ _ _ us hl => match us, hl with | [_], _ => rfl
  have A_need_cell : At0 K mg "need_cell" s_need_cell ["floor", "cell"] := at0_mk X G a10 l10 c10 k10 fun _ _ _ _ _ _ us hl => match us, hl with | [_, _], _ => rfl
  have A_need_lying : At0 K mg "need_lying" s_need_lying ["lying"] := at0_mk X G a11 l11 c11 k11 fun _ _ _ _ _ _ us hl => match us, hl with | [_], _ => rfl
  have A_need_stand : At0 K mg "need_stand" s_need_stand ["floor", "stand"] := at0_mk X G a12 l12 c12 k12 fun _ _ _ _ _ _ us hl => match us, hl with | [_, _], _ => rfl
  have A_need_letter : At0 K mg "need_letter" s_need_letter ["letter"] := at0_mk X G a13 l13 c13 k13 fun _ _ _ _ _ _ us hl => match us, hl with | [_], _ => rfl
  have A_need_row : At0 K mg "need_row" s_need_row ["row"] := at0_mk X G a14 l14 c14 k14 fun _ _ _ _ _ _ us hl => match us, hl with | [_], _ => rfl
  have A_rolled_cell : At0 K mg "rolled_cell" s_rolled_cell ["cell", "letter"] := at0_mk X G a15 l15 c15 k15 fun _ _ _ _ _ _ us hl => match us, hl with | [_, _], _ => rfl
  have A_rolled_lying : At0 K mg "rolled_lying" s_rolled_lying ["lying", "letter"] := at0_mk X G a16 l16 c16 k16 fun _ _ _ _ _ _ us hl => match us, hl with | [_, _], _ => rfl
  have A_rolled_stand : At0 K mg "rolled_stand" s_rolled_stand ["stand", "letter"] := at0_mk X G a17 l17 c17 k17 fun _ _ _ _ _ _ us hl => match us, hl with | [_, _], _ => rfl
  have A_place_off : At0 K mg "place_off" s_place_off ["floor", "cell", "row"] := at0_mk X G a18 l18 c18 k18 fun _ _ _ _ _ _ us hl => match us, hl with | [_, _, _], _ => rfl
  have A_spots_of : At0 K mg "spots_of" s_spots_of ["floor"] := at0_mk X G a19 l19 c19 k19 fun _ _ _ _ _ _ us hl => match us, hl with | [_], _ => rfl
  have A_spot_of_cell : At0 K mg "spot_of_cell" s_spot_of_cell ["floor", "cell"] := at0_mk X G a20 l20 c20 k20 fun _ _ _ _ _ _ us hl => match us, hl with | [_, _], _ => rfl
  have A_is_spot : At0 K mg "is_spot" s_is_spot ["floor", "thing"] := at0_mk X G a21 l21 c21 k21 fun _ _ _ _ _ _ us hl => match us, hl with | [_, _], _ => rfl
  have A_is_marks : At0 K mg "is_marks" s_is_marks ["floor", "thing"] := at0_mk X G a22 l22 c22 k22 fun _ _ _ _ _ _ us hl => match us, hl with | [_, _], _ => rfl
  have A_need_marks : At0 K mg "need_marks" s_need_marks ["floor", "marks"] := at0_mk X G a23 l23 c23 k23 fun _ _ _ _ _ _ us hl => match us, hl with | [_, _], _ => rfl
  have A_need_spot : At0 K mg "need_spot" s_need_spot ["floor", "spot"] := at0_mk X G a24 l24 c24 k24 fun _ _ _ _ _ _ us hl => match us, hl with | [_, _], _ => rfl
  have A_trade_at : At0 K mg "trade_at" s_trade_at ["floor", "stand"] := at0_mk X G a25 l25 c25 k25 fun _ _ _ _ _ _ us hl => match us, hl with | [_, _], _ => rfl
  have A_trades : At0 K mg "trades" s_trades ["floor", "stand", "row"] := at0_mk X G a26 l26 c26 k26 fun _ _ _ _ _ _ us hl => match us, hl with | [_, _, _], _ => rfl
  have A_held_traded : At0 K mg "held_traded" s_held_traded ["traded", "held"] := at0_mk X G a27 l27 c27 k27 fun _ _ _ _ _ _ us hl => match us, hl with | [_, _], _ => rfl
  have A_held_behind : At0 K mg "held_behind" s_held_behind ["floor", "stand", "row", "held"] := at0_mk X G a28 l28 c28 k28 fun _ _ _ _ _ _ us hl => match us, hl with | [_, _, _, _], _ => rfl
  have A_exchange_by : At0 K mg "exchange_by" s_exchange_by ["traded", "spots"] := at0_mk X G a29 l29 c29 k29 fun _ _ _ _ _ _ us hl => match us, hl with | [_, _], _ => rfl
  have A_round_from : At0 K mg "round_from" s_round_from ["exchanged", "first"] := at0_mk X G a30 l30 c30 k30 fun _ _ _ _ _ _ us hl => match us, hl with | [_, _], _ => rfl
  have A_rounds_in : At0 K mg "rounds_in" s_rounds_in ["exchanged"] := at0_mk X G a31 l31 c31 k31 fun _ _ _ _ _ _ us hl => match us, hl with | [_], _ => rfl
  have A_cell_behind : At0 K mg "cell_behind" s_cell_behind ["cell", "row"] := at0_mk X G a32 l32 c32 k32 fun _ _ _ _ _ _ us hl => match us, hl with | [_, _], _ => rfl
  have A_is_endless : At0 K mg "is_endless" s_is_endless ["floor", "cell", "row"] := at0_mk X G a33 l33 c33 k33 fun _ _ _ _ _ _ us hl => match us, hl with | [_, _, _], _ => rfl
  have A_most_plays : At0 K mg "most_plays" s_most_plays ["floor", "cell", "row"] := at0_mk X G a34 l34 c34 k34 fun _ _ _ _ _ _ us hl => match us, hl with | [_, _, _], _ => rfl
  have A_need_times : At0 K mg "need_times" s_need_times ["times"] := at0_mk X G a35 l35 c35 k35 fun _ _ _ _ _ _ us hl => match us, hl with | [_], _ => rfl
  have A_need_plays : At0 K mg "need_plays" s_need_plays ["floor", "cell", "row", "times"] := at0_mk X G a36 l36 c36 k36 fun _ _ _ _ _ _ us hl => match us, hl with | [_, _, _, _], _ => rfl
  have A_repeated : At0 K mg "repeated" s_repeated ["exchanged", "times"] := at0_mk X G a37 l37 c37 k37 fun _ _ _ _ _ _ us hl => match us, hl with | [_, _], _ => rfl
  have A_need_far : At0 K mg "need_far" s_need_far ["floor", "stand", "row", "times"] := at0_mk X G a38 l38 c38 k38 fun _ _ _ _ _ _ us hl => match us, hl with | [_, _, _, _], _ => rfl
  have A_exchanged_marks : At0 K mg "exchanged_marks" s_exchanged_marks ["exchanged", "marks"] := at0_mk X G a39 l39 c39 k39 fun _ _ _ _ _ _ us hl => match us, hl with | [_, _], _ => rfl
  have A_need_mark : At0 K mg "need_mark" s_need_mark ["number"] := at0_mk X G a40 l40 c40 k40 fun _ _ _ _ _ _ us hl => match us, hl with | [_], _ => rfl
  have A__law_cell_at : At0 K mg "_law_cell_at" s__law_cell_at ["_law_script", "_law_k"] := at0_mk X G a41 l41 c41 k41 fun _ _ _ _ _ _ us hl => match us, hl with | [_, _], _ => rfl
  have A__law_pen : At0 K mg "_law_pen" s__law_pen ["_law_cell"] := at0_mk X G a42 l42 c42 k42 fun _ _ _ _ _ _ us hl => match us, hl with | [_], _ => rfl
  have A__law_draw : At0 K mg "_law_draw" s__law_draw ["_law_pen_here", "_law_many"] := at0_mk X G a43 l43 c43 k43 fun _ _ _ _ _ _ us hl => match us, hl with | [_, _], _ => rfl
  have A__law_pick : At0 K mg "_law_pick" s__law_pick ["_law_pen_here", "_law_some"] := at0_mk X G a44 l44 c44 k44 fun _ _ _ _ _ _ us hl => match us, hl with | [_, _], _ => rfl
  have A__law_is_near : At0 K mg "_law_is_near" s__law_is_near ["_law_cell", "_law_some"] := at0_mk X G a45 l45 c45 k45 fun _ _ _ _ _ _ us hl => match us, hl with | [_, _], _ => rfl
  have A__law_beside : At0 K mg "_law_beside" s__law_beside ["_law_cell", "_law_letter"] := at0_mk X G a46 l46 c46 k46 fun _ _ _ _ _ _ us hl => match us, hl with | [_, _], _ => rfl
  have A__law_rolled : At0 K mg "_law_rolled" s__law_rolled ["_law_lying_here", "_law_letter"] := at0_mk X G a47 l47 c47 k47 fun _ _ _ _ _ _ us hl => match us, hl with | [_, _], _ => rfl
  have A__law_lying : At0 K mg "_law_lying" s__law_lying ["_law_pen_here"] := at0_mk X G a48 l48 c48 k48 fun _ _ _ _ _ _ us hl => match us, hl with | [_], _ => rfl
  have A__law_row : At0 K mg "_law_row" s__law_row ["_law_pen_here", "_law_floor_here", "_law_cell", "_law_most"] := at0_mk X G a49 l49 c49 k49 fun _ _ _ _ _ _ us hl => match us, hl with | [_, _, _, _], _ => rfl
  have A__law_marks : At0 K mg "_law_marks" s__law_marks ["_law_pen_here", "_law_floor_here"] := at0_mk X G a50 l50 c50 k50 fun _ _ _ _ _ _ us hl => match us, hl with | [_, _], _ => rfl
  have A__law_start : At0 K mg "_law_start" s__law_start ["_law_pen_here", "_law_floor_here"] := at0_mk X G a51 l51 c51 k51 fun _ _ _ _ _ _ us hl => match us, hl with | [_, _], _ => rfl
  have A_Table___init__ : AtI K mg s_Table___init__ ["self", "floor", "cell", "lying", "marks"] := atI_mk X G gT mkT a52 mf52 kpT l52 c52 k52 fun _ _ _ _ _ _ us hl => match us, hl with | [_, _, _, _, _], _ => rfl
  have A_Table_keep : AtM K "keep" s_Table_keep ["self", "here", "held", "rolled"] := atM_mk (by decide) gT a53 mf53 l53 c53 k53 fun _ _ _ _ _ _ us hl => match us, hl with | [_, _, _, _], _ => rfl
  have A_Table_mark : AtM K "mark" s_Table_mark ["self", "spot", "number"] := atM_mk (by decide) gT a54 mf54 l54 c54 k54 fun _ _ _ _ _ _ us hl => match us, hl with | [_, _, _], _ => rfl
  have A_Table_trade : AtM K "trade" s_Table_trade ["self", "one", "other"] := atM_mk (by decide) gT a55 mf55 l55 c55 k55 fun _ _ _ _ _ _ us hl => match us, hl with | [_, _, _], _ => rfl
  have A_Table_stand : AtM K "stand" s_Table_stand ["self"] := atM_mk (by decide) gT a56 mf56 l56 c56 k56 fun _ _ _ _ _ _ us hl => match us, hl with | [_], _ => rfl
  have A_Table_marks : AtM K "marks" s_Table_marks ["self"] := atM_mk (by decide) gT a57 mf57 l57 c57 k57 fun _ _ _ _ _ _ us hl => match us, hl with | [_], _ => rfl
  have A_Table_rolls : AtM K "rolls" s_Table_rolls ["self"] := atM_mk (by decide) gT a58 mf58 l58 c58 k58 fun _ _ _ _ _ _ us hl => match us, hl with | [_], _ => rfl
  have A_Table___eq__ : AtM K "__eq__" s_Table___eq__ ["self", "other"] := atM_mk (by decide) gT a59 mf59 l59 c59 k59 fun _ _ _ _ _ _ us hl => match us, hl with | [_, _], _ => rfl
  have A_need_let : At0 K mg "need_let" s_need_let ["floor", "cell", "row"] := at0_mk X G a60 l60 c60 k60 fun _ _ _ _ _ _ us hl => match us, hl with | [_, _, _], _ => rfl
  have A_stand_behind : At0 K mg "stand_behind" s_stand_behind ["floor", "cell", "lying", "row"] := at0_mk X G a61 l61 c61 k61 fun _ _ _ _ _ _ us hl => match us, hl with | [_, _, _, _], _ => rfl
  have A_marks_behind : At0 K mg "marks_behind" s_marks_behind ["floor", "stand", "row", "marks"] := at0_mk X G a62 l62 c62 k62 fun _ _ _ _ _ _ us hl => match us, hl with | [_, _, _, _], _ => rfl
  have A_exchange : At0 K mg "exchange" s_exchange ["floor", "stand", "row"] := at0_mk X G a63 l63 c63 k63 fun _ _ _ _ _ _ us hl => match us, hl with | [_, _, _], _ => rfl
  have A_turn_plays : At0 K mg "turn_plays" s_turn_plays ["floor", "stand", "row"] := at0_mk X G a64 l64 c64 k64 fun _ _ _ _ _ _ us hl => match us, hl with | [_, _, _], _ => rfl
  have A_split_times : At0 K mg "split_times" s_split_times ["floor", "stand", "row", "times"] := at0_mk X G a65 l65 c65 k65 fun _ _ _ _ _ _ us hl => match us, hl with | [_, _, _, _], _ => rfl
  have A_stand_far : At0 K mg "stand_far" s_stand_far ["floor", "stand", "row", "times"] := at0_mk X G a66 l66 c66 k66 fun _ _ _ _ _ _ us hl => match us, hl with | [_, _, _, _], _ => rfl
  have A_exchange_far : At0 K mg "exchange_far" s_exchange_far ["floor", "stand", "row", "times"] := at0_mk X G a67 l67 c67 k67 fun _ _ _ _ _ _ us hl => match us, hl with | [_, _, _, _], _ => rfl
  have A__law_floor : At0 K mg "_law_floor" s__law_floor ["_law_pen_here"] := at0_mk X G a68 l68 c68 k68 fun _ _ _ _ _ _ us hl => match us, hl with | [_], _ => rfl
  have A_Table_play : AtM1 K "play" s_Table_play ["self", "row", "times"] := atM1_mk 2 (by decide) gT a69 mf69 l69 t69 db_u69 c69 k69 rfl (fun _ _ _ _ _ _ _ us its hl hi => match us, hl, its, hi with | [_, _], _, [_], _ => ⟨_, rfl, rfl⟩) (fun _ _ _ _ _ _ _ us its hl hi => match us, hl, its, hi with | [_, _, _], _, [_], _ => ⟨_, rfl, rfl⟩)
  have A__law_moved_right : At0 K mg "_law_moved_right" s__law_moved_right ["_law_pen_here", "_law_floor_here", "_law_here", "_law_kept", "_law_row_here"] := at0_mk X G a70 l70 c70 k70 fun _ _ _ _ _ _ us hl => match us, hl with | [_, _, _, _, _], _ => rfl
  have A_Table_roll : AtM K "roll" s_Table_roll ["self", "letter"] := atM_mk (by decide) gT a71 mf71 l71 c71 k71 fun _ _ _ _ _ _ us hl => match us, hl with | [_, _], _ => rfl
  refine ⟨PySem.W.fnOf "law" "law" (defArgs s_law) (defBody s_law) (defScope s_law) .none kV72 dc72 pm72 an72 cd72 ct72, fun s v => .of_eq rfl, fun base _ _ => ?_⟩
  have H_is_whole : Has P w K mg base "is_whole" 2 f_is_whole 1 := p_is_whole A_is_whole Z_isinstance Z_bool Z_int
  have H_is_cell : Has P w K mg base "is_cell" 1 f_is_cell 2 := p_is_cell A_is_cell H_is_whole Z_len Z_isinstance Z_tuple C_LAST_LINE
  have H_is_rising : Has P w K mg base "is_rising" 1 f_is_rising 1 := p_is_rising A_is_rising Z_all Z_zip
  have H_is_floor : Has P w K mg base "is_floor" 1 f_is_floor 3 := p_is_floor A_is_floor H_is_rising H_is_cell Z_len Z_isinstance Z_tuple Z_all C_MOST_CELLS
  have H_is_cell_of : Has P w K mg base "is_cell_of" 2 f_is_cell_of 3 := p_is_cell_of A_is_cell_of H_is_cell
  have H_is_lying : Has P w K mg base "is_lying" 1 f_is_lying 2 := p_is_lying A_is_lying H_is_whole Z_isinstance Z_tuple Z_all C_LYINGS C_OPPOSITE_SUM
  have H_is_stand : Has P w K mg base "is_stand" 2 f_is_stand 4 := p_is_stand A_is_stand H_is_lying H_is_cell_of Z_len Z_isinstance Z_tuple
  have H_is_letter : Has P w K mg base "is_letter" 1 f_is_letter 1 := p_is_letter A_is_letter Z_isinstance Z_str C_LETTERS
  have H_is_row : Has P w K mg base "is_row" 1 f_is_row 2 := p_is_row A_is_row H_is_letter Z_all Z_isinstance Z_str
  have H_need_floor : Has P w K mg base "need_floor" 1 f_need_floor 4 := p_need_floor A_need_floor H_is_floor
  have H_need_cell : Has P w K mg base "need_cell" 2 f_need_cell 4 := p_need_cell A_need_cell H_is_cell_of
  have H_need_lying : Has P w K mg base "need_lying" 1 f_need_lying 3 := p_need_lying A_need_lying H_is_lying
  have H_need_stand : Has P w K mg base "need_stand" 2 f_need_stand 5 := p_need_stand A_need_stand H_is_stand
  have H_need_letter : Has P w K mg base "need_letter" 1 f_need_letter 2 := p_need_letter A_need_letter H_is_letter
  have H_need_row : Has P w K mg base "need_row" 1 f_need_row 3 := p_need_row A_need_row H_is_row
  have H_rolled_cell : Has P w K mg base "rolled_cell" 2 f_rolled_cell 1 := p_rolled_cell A_rolled_cell D_STEPS
  have H_rolled_lying : Has P w K mg base "rolled_lying" 2 f_rolled_lying 1 := p_rolled_lying A_rolled_lying C_OPPOSITE_SUM
  have H_rolled_stand : Has P w K mg base "rolled_stand" 2 f_rolled_stand 2 := p_rolled_stand A_rolled_stand H_rolled_lying H_rolled_cell
  have H_place_off : Has P w K mg base "place_off" 3 f_place_off 2 := p_place_off A_place_off H_rolled_cell Z_enumerate
  have H_spots_of : Has P w K mg base "spots_of" 1 f_spots_of 1 := p_spots_of A_spots_of Z_tuple Z_range Z_len C_FACES
  have H_spot_of_cell : Has P w K mg base "spot_of_cell" 2 f_spot_of_cell 1 := p_spot_of_cell A_spot_of_cell C_FACES
  have H_is_spot : Has P w K mg base "is_spot" 2 f_is_spot 2 := p_is_spot A_is_spot H_is_whole Z_len C_FACES
  have H_is_marks : Has P w K mg base "is_marks" 2 f_is_marks 2 := p_is_marks A_is_marks H_spots_of H_is_whole Z_len Z_isinstance Z_tuple Z_all C_MOST_MARK
  have H_need_marks : Has P w K mg base "need_marks" 2 f_need_marks 3 := p_need_marks A_need_marks H_is_marks
  have H_need_spot : Has P w K mg base "need_spot" 2 f_need_spot 3 := p_need_spot A_need_spot H_is_spot
  have H_trade_at : Has P w K mg base "trade_at" 2 f_trade_at 2 := p_trade_at A_trade_at H_spot_of_cell
  have H_trades : Has P w K mg base "trades" 3 f_trades 3 := p_trades A_trades H_rolled_stand H_trade_at
  have H_held_traded : Has P w K mg base "held_traded" 2 f_held_traded 1 := p_held_traded A_held_traded Z_list Z_tuple
  have H_held_behind : Has P w K mg base "held_behind" 4 f_held_behind 4 := p_held_behind A_held_behind H_held_traded H_trades
  have H_exchange_by : Has P w K mg base "exchange_by" 2 f_exchange_by 2 := p_exchange_by A_exchange_by H_held_traded Z_tuple
  have H_round_from : Has P w K mg base "round_from" 2 f_round_from 1 := p_round_from A_round_from Z_tuple
  have H_rounds_in : Has P w K mg base "rounds_in" 1 f_rounds_in 2 := p_rounds_in A_rounds_in H_round_from Z_range Z_len Z_tuple Z_min
  have H_cell_behind : Has P w K mg base "cell_behind" 2 f_cell_behind 2 := p_cell_behind A_cell_behind H_rolled_cell
  have H_is_endless : Has P w K mg base "is_endless" 3 f_is_endless 3 := p_is_endless A_is_endless H_cell_behind H_place_off
  have H_most_plays : Has P w K mg base "most_plays" 3 f_most_plays 4 := p_most_plays A_most_plays H_is_endless H_place_off H_cell_behind
  have H_need_times : Has P w K mg base "need_times" 1 f_need_times 2 := p_need_times A_need_times H_is_whole C_MOST_TIMES
  have H_need_plays : Has P w K mg base "need_plays" 4 f_need_plays 5 := p_need_plays A_need_plays H_most_plays
  have H_repeated : Has P w K mg base "repeated" 2 f_repeated 3 := p_repeated A_repeated H_rounds_in Z_list Z_range Z_len Z_enumerate Z_tuple
  have H_need_far : Has P w K mg base "need_far" 4 f_need_far 6 := p_need_far A_need_far H_need_floor H_need_stand H_need_row H_need_times H_need_plays
  have H_exchanged_marks : Has P w K mg base "exchanged_marks" 2 f_exchanged_marks 1 := p_exchanged_marks A_exchanged_marks Z_list Z_enumerate Z_tuple
  have H_need_mark : Has P w K mg base "need_mark" 1 f_need_mark 2 := p_need_mark A_need_mark H_is_whole C_MOST_MARK
  have H__law_cell_at : Has P w K mg base "_law_cell_at" 2 f__law_cell_at 1 := p__law_cell_at A__law_cell_at Z_len
  have H__law_pen : Has P w K mg base "_law_pen" 1 f__law_pen 1 := p__law_pen A__law_pen Z_max
  have H__law_draw : Has P w K mg base "_law_draw" 2 f__law_draw 1 := p__law_draw A__law_draw 
  have H__law_pick : Has P w K mg base "_law_pick" 2 f__law_pick 2 := p__law_pick A__law_pick H__law_draw Z_len
  have H__law_is_near : Has P w K mg base "_law_is_near" 2 f__law_is_near 1 := p__law_is_near A__law_is_near Z_abs
  have H__law_beside : Has P w K mg base "_law_beside" 2 f__law_beside 1 := p__law_beside A__law_beside 
  have H__law_rolled : Has P w K mg base "_law_rolled" 2 f__law_rolled 1 := p__law_rolled A__law_rolled 
  have H__law_lying : Has P w K mg base "_law_lying" 1 f__law_lying 2 := p__law_lying A__law_lying H__law_draw H__law_rolled Z_range
  have H__law_row : Has P w K mg base "_law_row" 4 f__law_row 3 := p__law_row A__law_row H__law_draw H__law_beside H__law_pick Z_range
  have H__law_marks : Has P w K mg base "_law_marks" 2 f__law_marks 2 := p__law_marks A__law_marks H__law_draw Z_tuple Z_range Z_len
  have H__law_start : Has P w K mg base "_law_start" 2 f__law_start 3 := p__law_start A__law_start H__law_lying H__law_pick Z_list
  have H_Table___init__ : MkT P w K mg base g_Table_1 g_Table_2 g_Table_3 g_Table_4 5 := p_Table___init__ A_Table___init__ H_need_floor H_need_cell H_need_lying H_need_marks TK
  have H_Table_keep : HasM P w K mg base "keep" 4 f_Table_keep 1 := p_Table_keep A_Table_keep TK hC
  have H_Table_mark : HasM P w K mg base "mark" 3 f_Table_mark 4 := p_Table_mark A_Table_mark H_need_spot H_need_mark H_Table_keep Z_list Z_tuple TK hC
  have H_Table_trade : HasM P w K mg base "trade" 3 f_Table_trade 4 := p_Table_trade A_Table_trade H_need_spot H_Table_keep H_held_traded TK hC
  have H_Table_stand : HasM P w K mg base "stand" 1 f_Table_stand 1 := p_Table_stand A_Table_stand TK hC
  have H_Table_marks : HasM P w K mg base "marks" 1 f_Table_marks 1 := p_Table_marks A_Table_marks TK hC
  have H_Table_rolls : HasM P w K mg base "rolls" 1 f_Table_rolls 1 := p_Table_rolls A_Table_rolls TK hC
  have H_Table___eq__ : HasM P w K mg base "__eq__" 2 f_Table___eq__ 1 := p_Table___eq__ A_Table___eq__ Z_isinstance TK hC IS hCT
  have H_need_let : Has P w K mg base "need_let" 3 f_need_let 3 := p_need_let A_need_let H_place_off
  have H_stand_behind : Has P w K mg base "stand_behind" 4 f_stand_behind 5 := p_stand_behind A_stand_behind H_need_floor H_need_cell H_need_lying H_need_row H_need_let H_rolled_stand
  have H_marks_behind : Has P w K mg base "marks_behind" 4 f_marks_behind 6 := p_marks_behind A_marks_behind H_need_floor H_need_stand H_need_row H_need_marks H_need_let H_held_behind
  have H_exchange : Has P w K mg base "exchange" 3 f_exchange 6 := p_exchange A_exchange H_need_floor H_need_stand H_need_row H_need_let H_exchange_by H_spots_of H_trades
  have H_turn_plays : Has P w K mg base "turn_plays" 3 f_turn_plays 6 := p_turn_plays A_turn_plays H_stand_behind
  have H_split_times : Has P w K mg base "split_times" 4 f_split_times 7 := p_split_times A_split_times H_is_endless H_turn_plays
  have H_stand_far : Has P w K mg base "stand_far" 4 f_stand_far 8 := p_stand_far A_stand_far H_need_far H_split_times H_stand_behind
  have H_exchange_far : Has P w K mg base "exchange_far" 4 f_exchange_far 8 := p_exchange_far A_exchange_far H_need_far H_split_times H_repeated H_exchange Z_tuple
  have H__law_floor : Has P w K mg base "_law_floor" 1 f__law_floor 3 := p__law_floor A__law_floor H__law_draw H__law_is_near H__law_pick Z_range Z_tuple Z_sorted
  have H_Table_play : HasM1 P w K mg base "play" 2 f_Table_play 9 := p_Table_play A_Table_play H_stand_far H_exchange_far H_Table_keep H_exchanged_marks Z_len TK hC
  have H__law_moved_right : Has P w K mg base "_law_moved_right" 5 f__law_moved_right 10 := p__law_moved_right A__law_moved_right H_exchange H_Table___init__ H__law_draw H_Table_trade H_Table_mark H_Table_play H_Table_marks H_marks_behind H_Table_rolls H_Table___eq__ Z_len Z_sorted TK hC
  have H_Table_roll : HasM P w K mg base "roll" 2 f_Table_roll 10 := p_Table_roll A_Table_roll H_need_letter H_Table_play TK hC
  exact q_law (fun_mk (st := s_law) l72 c72 k72) H__law_pen H__law_cell_at H__law_floor H__law_draw H__law_marks H__law_start H_Table___init__ H__law_row H_Table_stand H__law_moved_right H_Table_marks H_Table_play H_Table_roll H_Table_rolls Z_range Z_max Z_min Z_len Z_tuple TK hC
end
end L77
open PySem PySem.W PyProof.Rows
theorem main77 (hmath : ∀ ns : List Int, ns.length ≤ 63 → ∃ as, L77.f_law [.pd (.list (ns.map .int))] = some (.pd (.bool true), as)) : PySem.Challenge.rw_tumblemarks_k77_whole_marks_never_steer.Holds := by
  refine hd77 ?_
  k_fill
  refine L2.walk_of (l := PySem.Challenge.rw_tumblemarks_k77_whole_marks_never_steer) (n := 63) (k := 11) (x := "_law_script") (CX := fun _ => L2.CX0) (sp := fun w => @T3.spF ⟨[], w⟩ _ L77.f_law 1) rfl (by decide) rfl ⟨rfl, by decide, by decide⟩ (fun w h Y => PySem.W.kIn_of Y) ?F (fun w H a ns hl O hS => T3.law_sp w (hmath ns hl) O hS) (fun _ _ _ _ _ h => h)
  case F =>
    intro w mg fa h KX G hmg
    letI : T3.TabL := ⟨[], w⟩
    haveI : T3.WdOk w := ⟨rfl⟩
    refine' L77.fin KX G hmg ?gT ?pgT ?hdT ?poT ?saT ?mkT ?kpT ?naT0 ?naT1 ?naT2 ?naT3 ?naT4 ?is1 ?is2 ?is3 ?is4 ?kt_is ?a0 ?l0 ?c0 ?k0 ?a1 ?l1 ?c1 ?k1 ?a2 ?l2 ?c2 ?k2 ?a3 ?l3 ?c3 ?k3 ?a4 ?l4 ?c4 ?k4 ?a5 ?l5 ?c5 ?k5 ?a6 ?l6 ?c6 ?k6 ?a7 ?l7 ?c7 ?k7 ?a8 ?l8 ?c8 ?k8 ?a9 ?l9 ?c9 ?k9 ?a10 ?l10 ?c10 ?k10 ?a11 ?l11 ?c11 ?k11 ?a12 ?l12 ?c12 ?k12 ?a13 ?l13 ?c13 ?k13 ?a14 ?l14 ?c14 ?k14 ?a15 ?l15 ?c15 ?k15 ?a16 ?l16 ?c16 ?k16 ?a17 ?l17 ?c17 ?k17 ?a18 ?l18 ?c18 ?k18 ?a19 ?l19 ?c19 ?k19 ?a20 ?l20 ?c20 ?k20 ?a21 ?l21 ?c21 ?k21 ?a22 ?l22 ?c22 ?k22 ?a23 ?l23 ?c23 ?k23 ?a24 ?l24 ?c24 ?k24 ?a25 ?l25 ?c25 ?k25 ?a26 ?l26 ?c26 ?k26 ?a27 ?l27 ?c27 ?k27 ?a28 ?l28 ?c28 ?k28 ?a29 ?l29 ?c29 ?k29 ?a30 ?l30 ?c30 ?k30 ?a31 ?l31 ?c31 ?k31 ?a32 ?l32 ?c32 ?k32 ?a33 ?l33 ?c33 ?k33 ?a34 ?l34 ?c34 ?k34 ?a35 ?l35 ?c35 ?k35 ?a36 ?l36 ?c36 ?k36 ?a37 ?l37 ?c37 ?k37 ?a38 ?l38 ?c38 ?k38 ?a39 ?l39 ?c39 ?k39 ?a40 ?l40 ?c40 ?k40 ?a41 ?l41 ?c41 ?k41 ?a42 ?l42 ?c42 ?k42 ?a43 ?l43 ?c43 ?k43 ?a44 ?l44 ?c44 ?k44 ?a45 ?l45 ?c45 ?k45 ?a46 ?l46 ?c46 ?k46 ?a47 ?l47 ?c47 ?k47 ?a48 ?l48 ?c48 ?k48 ?a49 ?l49 ?c49 ?k49 ?a50 ?l50 ?c50 ?k50 ?a51 ?l51 ?c51 ?k51 ?a52 ?mf52 ?l52 ?c52 ?k52 ?a53 ?mf53 ?l53 ?c53 ?k53 ?a54 ?mf54 ?l54 ?c54 ?k54 ?a55 ?mf55 ?l55 ?c55 ?k55 ?a56 ?mf56 ?l56 ?c56 ?k56 ?a57 ?mf57 ?l57 ?c57 ?k57 ?a58 ?mf58 ?l58 ?c58 ?k58 ?a59 ?mf59 ?l59 ?c59 ?k59 ?a60 ?l60 ?c60 ?k60 ?a61 ?l61 ?c61 ?k61 ?a62 ?l62 ?c62 ?k62 ?a63 ?l63 ?c63 ?k63 ?a64 ?l64 ?c64 ?k64 ?a65 ?l65 ?c65 ?k65 ?a66 ?l66 ?c66 ?k66 ?a67 ?l67 ?c67 ?k67 ?a68 ?l68 ?c68 ?k68 ?a69 ?mf69 ?l69 ?t69 ?db_u69 ?c69 ?k69 ?a70 ?l70 ?c70 ?k70 ?a71 ?mf71 ?l71 ?c71 ?k71 ?a72 ?l72 ?c72 ?k72 ?z_isinstance ?z_bool ?z_int ?z_len ?z_tuple ?z_all ?z_zip ?z_str ?z_enumerate ?z_range ?z_list ?z_min ?z_max ?z_abs ?z_sorted ?ca_LAST_LINE ?cb_LAST_LINE ?ca_MOST_CELLS ?cb_MOST_CELLS ?ca_LYINGS ?cb_LYINGS ?ca_OPPOSITE_SUM ?cb_OPPOSITE_SUM ?ca_LETTERS ?cb_LETTERS ?ca_FACES ?cb_FACES ?ca_MOST_MARK ?cb_MOST_MARK ?ca_MOST_TIMES ?cb_MOST_TIMES ?da_STEPS ?dl_STEPS ?dk_STEPS ?db_STEPS
    case gT => k_is
    case pgT => k_is
    case hdT => k_is
    case poT => k_is
    case saT => k_is
    case mkT => k_is
    case kpT => k_is
    case naT0 => k_is
    case naT1 => k_is
    case naT2 => k_is
    case naT3 => k_is
    case naT4 => k_is
    case is1 => k_is
    case is2 => k_is
    case is3 => k_is
    case is4 => k_is
    case kt_is => kit_is
    case a0 => k_is
    case l0 => k_is
    case c0 => k_is
    case k0 => k_is
    case a1 => k_is
    case l1 => k_is
    case c1 => k_is
    case k1 => k_is
    case a2 => k_is
    case l2 => k_is
    case c2 => k_is
    case k2 => k_is
    case a3 => k_is
    case l3 => k_is
    case c3 => k_is
    case k3 => k_is
    case a4 => k_is
    case l4 => k_is
    case c4 => k_is
    case k4 => k_is
    case a5 => k_is
    case l5 => k_is
    case c5 => k_is
    case k5 => k_is
    case a6 => k_is
    case l6 => k_is
    case c6 => k_is
    case k6 => k_is
    case a7 => k_is
    case l7 => k_is
    case c7 => k_is
    case k7 => k_is
    case a8 => k_is
    case l8 => k_is
    case c8 => k_is
    case k8 => k_is
    case a9 => k_is
    case l9 => k_is
    case c9 => k_is
    case k9 => k_is
    case a10 => k_is
    case l10 => k_is
    case c10 => k_is
    case k10 => k_is
    case a11 => k_is
    case l11 => k_is
    case c11 => k_is
    case k11 => k_is
    case a12 => k_is
    case l12 => k_is
    case c12 => k_is
    case k12 => k_is
    case a13 => k_is
    case l13 => k_is
    case c13 => k_is
    case k13 => k_is
    case a14 => k_is
    case l14 => k_is
    case c14 => k_is
    case k14 => k_is
    case a15 => k_is
    case l15 => k_is
    case c15 => k_is
    case k15 => k_is
    case a16 => k_is
    case l16 => k_is
    case c16 => k_is
    case k16 => k_is
    case a17 => k_is
    case l17 => k_is
    case c17 => k_is
    case k17 => k_is
    case a18 => k_is
    case l18 => k_is
    case c18 => k_is
    case k18 => k_is
    case a19 => k_is
    case l19 => k_is
    case c19 => k_is
    case k19 => k_is
    case a20 => k_is
    case l20 => k_is
    case c20 => k_is
    case k20 => k_is
    case a21 => k_is
    case l21 => k_is
    case c21 => k_is
    case k21 => k_is
    case a22 => k_is
    case l22 => k_is
    case c22 => k_is
    case k22 => k_is
    case a23 => k_is
    case l23 => k_is
    case c23 => k_is
    case k23 => k_is
    case a24 => k_is
    case l24 => k_is
    case c24 => k_is
    case k24 => k_is
    case a25 => k_is
    case l25 => k_is
    case c25 => k_is
    case k25 => k_is
    case a26 => k_is
    case l26 => k_is
    case c26 => k_is
    case k26 => k_is
    case a27 => k_is
    case l27 => k_is
    case c27 => k_is
    case k27 => k_is
    case a28 => k_is
    case l28 => k_is
    case c28 => k_is
    case k28 => k_is
    case a29 => k_is
    case l29 => k_is
    case c29 => k_is
    case k29 => k_is
    case a30 => k_is
    case l30 => k_is
    case c30 => k_is
    case k30 => k_is
    case a31 => k_is
    case l31 => k_is
    case c31 => k_is
    case k31 => k_is
    case a32 => k_is
    case l32 => k_is
    case c32 => k_is
    case k32 => k_is
    case a33 => k_is
    case l33 => k_is
    case c33 => k_is
    case k33 => k_is
    case a34 => k_is
    case l34 => k_is
    case c34 => k_is
    case k34 => k_is
    case a35 => k_is
    case l35 => k_is
    case c35 => k_is
    case k35 => k_is
    case a36 => k_is
    case l36 => k_is
    case c36 => k_is
    case k36 => k_is
    case a37 => k_is
    case l37 => k_is
    case c37 => k_is
    case k37 => k_is
    case a38 => k_is
    case l38 => k_is
    case c38 => k_is
    case k38 => k_is
    case a39 => k_is
    case l39 => k_is
    case c39 => k_is
    case k39 => k_is
    case a40 => k_is
    case l40 => k_is
    case c40 => k_is
    case k40 => k_is
    case a41 => k_is
    case l41 => k_is
    case c41 => k_is
    case k41 => k_is
    case a42 => k_is
    case l42 => k_is
    case c42 => k_is
    case k42 => k_is
    case a43 => k_is
    case l43 => k_is
    case c43 => k_is
    case k43 => k_is
    case a44 => k_is
    case l44 => k_is
    case c44 => k_is
    case k44 => k_is
    case a45 => k_is
    case l45 => k_is
    case c45 => k_is
    case k45 => k_is
    case a46 => k_is
    case l46 => k_is
    case c46 => k_is
    case k46 => k_is
    case a47 => k_is
    case l47 => k_is
    case c47 => k_is
    case k47 => k_is
    case a48 => k_is
    case l48 => k_is
    case c48 => k_is
    case k48 => k_is
    case a49 => k_is
    case l49 => k_is
    case c49 => k_is
    case k49 => k_is
    case a50 => k_is
    case l50 => k_is
    case c50 => k_is
    case k50 => k_is
    case a51 => k_is
    case l51 => k_is
    case c51 => k_is
    case k51 => k_is
    case a52 => k_is
    case mf52 => k_is
    case l52 => k_is
    case c52 => k_is
    case k52 => k_is
    case a53 => k_is
    case mf53 => k_is
    case l53 => k_is
    case c53 => k_is
    case k53 => k_is
    case a54 => k_is
    case mf54 => k_is
    case l54 => k_is
    case c54 => k_is
    case k54 => k_is
    case a55 => k_is
    case mf55 => k_is
    case l55 => k_is
    case c55 => k_is
    case k55 => k_is
    case a56 => k_is
    case mf56 => k_is
    case l56 => k_is
    case c56 => k_is
    case k56 => k_is
    case a57 => k_is
    case mf57 => k_is
    case l57 => k_is
    case c57 => k_is
    case k57 => k_is
    case a58 => k_is
    case mf58 => k_is
    case l58 => k_is
    case c58 => k_is
    case k58 => k_is
    case a59 => k_is
    case mf59 => k_is
    case l59 => k_is
    case c59 => k_is
    case k59 => k_is
    case a60 => k_is
    case l60 => k_is
    case c60 => k_is
    case k60 => k_is
    case a61 => k_is
    case l61 => k_is
    case c61 => k_is
    case k61 => k_is
    case a62 => k_is
    case l62 => k_is
    case c62 => k_is
    case k62 => k_is
    case a63 => k_is
    case l63 => k_is
    case c63 => k_is
    case k63 => k_is
    case a64 => k_is
    case l64 => k_is
    case c64 => k_is
    case k64 => k_is
    case a65 => k_is
    case l65 => k_is
    case c65 => k_is
    case k65 => k_is
    case a66 => k_is
    case l66 => k_is
    case c66 => k_is
    case k66 => k_is
    case a67 => k_is
    case l67 => k_is
    case c67 => k_is
    case k67 => k_is
    case a68 => k_is
    case l68 => k_is
    case c68 => k_is
    case k68 => k_is
    case a69 => k_is
    case mf69 => k_is
    case l69 => k_is
    case t69 => k_is
    case db_u69 => first | k_is | (decide +kernel) | rfl
    case c69 => k_is
    case k69 => k_is
    case a70 => k_is
    case l70 => k_is
    case c70 => k_is
    case k70 => k_is
    case a71 => k_is
    case mf71 => k_is
    case l71 => k_is
    case c71 => k_is
    case k71 => k_is
    case a72 => k_is
    case l72 => k_is
    case c72 => k_is
    case k72 => k_is
    case z_isinstance => k_is
    case z_bool => k_is
    case z_int => k_is
    case z_len => k_is
    case z_tuple => k_is
    case z_all => k_is
    case z_zip => k_is
    case z_str => k_is
    case z_enumerate => k_is
    case z_range => k_is
    case z_list => k_is
    case z_min => k_is
    case z_max => k_is
    case z_abs => k_is
    case z_sorted => k_is
    case ca_LAST_LINE => k_is
    case cb_LAST_LINE => first | k_is | (decide +kernel) | rfl
    case ca_MOST_CELLS => k_is
    case cb_MOST_CELLS => first | k_is | (decide +kernel) | rfl
    case ca_LYINGS => k_is
    case cb_LYINGS => first | k_is | (decide +kernel) | rfl
    case ca_OPPOSITE_SUM => k_is
    case cb_OPPOSITE_SUM => first | k_is | (decide +kernel) | rfl
    case ca_LETTERS => k_is
    case cb_LETTERS => first | k_is | (decide +kernel) | rfl
    case ca_FACES => k_is
    case cb_FACES => first | k_is | (decide +kernel) | rfl
    case ca_MOST_MARK => k_is
    case cb_MOST_MARK => first | k_is | (decide +kernel) | rfl
    case ca_MOST_TIMES => k_is
    case cb_MOST_TIMES => first | k_is | (decide +kernel) | rfl
    case da_STEPS => k_is
    case dl_STEPS => k_is
    case dk_STEPS => k_keys
    case db_STEPS => first | k_is | (decide +kernel) | rfl

end
theorem PySem.Challenge.cw_tumblemarks_k77_whole_marks_never_steer_holds : PySem.Challenge.rw_tumblemarks_k77_whole_marks_never_steer.Holds := by
  exact main77 L77.hmath

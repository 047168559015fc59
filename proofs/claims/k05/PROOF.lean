import PyProof.Rows.All
import Wide.All
import OpenK.AllK
import Wide.FinOn
import HandS.ForMost
import HandS.Spec
import KE.KeyNested
import KE.KDictPairs
import HandS.Zip
import HandS.Conv
import HandS.IsInst
import HandS.Deep
import HandS.TupAny
import HandS.TupMul
import HandS.Wide
import KE.DataMinMax
import HandS.Sort
import PyProof.EnumMake
import KE.GoesMore
import PyProof.Draws
import HandS.Text
import HandS.Style
import PyProof.SeqIndex
import HandS.More
import HandS.SortInts
import HandS.TupSets
import HandS.Ends
import PyProof.ReprRoads
import HandS.Replace
import KE.KRevSl
import KE.KDictZip
import HandS.Zip0
import HandS.ListItems
import KE.KDictDisplayH
import PyProof.StrBlock2
import HandS.SetFor
import HandS.CallLocal
import KE.KDictCopyH
import PyProof.ReprLen
import PyProof.Rows.ReprShort
import PySem.Challenge.RW_tumblemarks_k05_marks_and_exchanges
section
set_option linter.all false
set_option autoImplicit false
set_option Elab.async false
namespace T3
open PySem L2

/-! ### the things a slot holds -/
inductive Md where | own | bor | fro
  deriving DecidableEq
inductive Ct where
  | ls (xs : List PyData)
  | dk (kvs : List (Key × PyData))
  | dn (kvs : List (NestedKey × PyData))
inductive S where
  | pd (x : PyData)
  | nt (xs : List PyData)
  | mu (m : Md) (c : Ct)
inductive R where
  | pd (x : PyData)
  | nt (xs : List PyData)
  | tmp (c : Ct)
  | var (i : Nat)
abbrev Sl := List (Option S)
abbrev Mset := Addr → Prop

/-! ### data and what stands in the heap -/
def Imm : HO → Prop
  | .tup _ => True
  | .frz _ _ => True
  | _ => False

/-- a def of the module, by its name -/
def FnK (K : PySem.W.Frag) (nm : Str) (a : Addr) : Prop := PySem.W.nsIn K mainGlobals nm = some (some (.ref a))
/-- a def as a value -/
abbrev fnV (nm : Str) : PyData := .dict [(.str nm, .none)]
mutual
inductive Rp (K : PySem.W.Frag) (B : Mset) (H : Hp) : V → PyData → Prop
  | non : Rp K B H .non .none
  | bl (b : Bool) : Rp K B H (.bl b) (.bool b)
  | int (i : Int) : Rp K B H (.int i) (.int i)
  | str (x : Str) : Rp K B H (.str x) (.str x)
  | tup {a : Addr} {xs : List V} {ds : List PyData} : SqT K H a xs → RpA K B H xs ds → Rp K B H (.ref a) (.tuple ds)
  | lst {a : Addr} {xs : List V} {ds : List PyData} : H a = some (.lst xs) → ¬ B a → RpA K B H xs ds → Rp K B H (.ref a) (.list ds)
  | frz {a : Addr} {o : Obj} {xs : List V} {ds : List PyData} : H a = some (.frz o (.lst xs)) → RpA K B H xs ds → Rp K B H (.ref a) (.list ds)
  | kls {a : Addr} {o : Obj} {its : Array Value} {n : Nat} {xs : List V} {ds : List PyData} : K.lookup a = some o → o.cls = .type "list" → o.dict = none → o.data = .seq its n → its.size ≤ sizeLine → Vals xs its.toList → RpA K B H xs ds → Rp K B H (.ref a) (.list ds)
  | fn {a : Addr} {nm : Str} : FnK K nm a → Rp K B H (.ref a) (fnV nm)
inductive RpA (K : PySem.W.Frag) (B : Mset) (H : Hp) : List V → List PyData → Prop
  | nil : RpA K B H [] []
  | cons {v : V} {vs : List V} {d : PyData} {ds : List PyData} : Rp K B H v d → RpA K B H vs ds → RpA K B H (v :: vs) (d :: ds)
end

/-- (B, H) goes on to (B', H') -/
structure Grow (B : Mset) (H : Hp) (B' : Mset) (H' : Hp) : Prop where
  keep : ∀ a o, H a = some o → (¬ B a ∨ Imm o) → H' a = some o
  new : ∀ a, B' a → B a ∨ H a = none

theorem SqT.grow {K : PySem.W.Frag} {B B' : Mset} {H H' : Hp} (g : Grow B H B' H') {a : Addr} {xs : List V} (h : SqT K H a xs) : SqT K H' a xs := by
  rcases h with (h | ⟨o, h⟩) | h
  · exact .inl (.inl (g.keep _ _ h (.inr trivial)))
  · exact .inl (.inr ⟨o, g.keep _ _ h (.inr trivial)⟩)
  · exact .inr h

mutual
theorem Rp.grow {K : PySem.W.Frag} {B B' : Mset} {H H' : Hp} (g : Grow B H B' H') : ∀ {v : V} {d : PyData}, Rp K B H v d → Rp K B' H' v d
  | _, _, .non => .non
  | _, _, .bl b => .bl b
  | _, _, .int i => .int i
  | _, _, .str x => .str x
  | _, _, .tup h r => .tup (SqT.grow g h) (RpA.grow g r)
  | _, _, .lst h nb r => .lst (g.keep _ _ h (.inl nb)) (fun q => by
      rcases g.new _ q with q | q
      · exact nb q
      · rw [h] at q; cases q) (RpA.grow g r)
  | _, _, .frz h r => .frz (g.keep _ _ h (.inr trivial)) (RpA.grow g r)
  | _, _, .kls h1 h2 h3 h4 h5 h6 r => .kls h1 h2 h3 h4 h5 h6 (RpA.grow g r)
  | _, _, .fn h => .fn h
theorem RpA.grow {K : PySem.W.Frag} {B B' : Mset} {H H' : Hp} (g : Grow B H B' H') : ∀ {vs : List V} {ds : List PyData}, RpA K B H vs ds → RpA K B' H' vs ds
  | _, _, .nil => .nil
  | _, _, .cons h r => .cons (Rp.grow g h) (RpA.grow g r)
end

theorem RpA.length {K : PySem.W.Frag} {B : Mset} {H : Hp} : ∀ {vs : List V} {ds : List PyData}, RpA K B H vs ds → vs.length = ds.length
  | _, _, .nil => rfl
  | _, _, .cons _ r => by simp [RpA.length r]
theorem RpA.get {K : PySem.W.Frag} {B : Mset} {H : Hp} : ∀ {vs : List V} {ds : List PyData} {i : Nat} {d : PyData}, RpA K B H vs ds → ds[i]? = some d → ∃ v, vs[i]? = some v ∧ Rp K B H v d
  | _, _, _, _, .nil, e => by simp at e
  | _, _, 0, _, .cons h _, e => by simp at e; subst e; exact ⟨_, rfl, h⟩
  | _, _, i + 1, d, .cons _ r, e => by
    obtain ⟨v, h1, h2⟩ := RpA.get (i := i) (d := d) r (by simpa using e)
    exact ⟨v, by simpa using h1, h2⟩
theorem RpA.getV {K : PySem.W.Frag} {B : Mset} {H : Hp} : ∀ {vs : List V} {ds : List PyData} {i : Nat} {v : V}, RpA K B H vs ds → vs[i]? = some v → ∃ d, ds[i]? = some d ∧ Rp K B H v d
  | _, _, _, _, .nil, e => by simp at e
  | _, _, 0, _, .cons h _, e => by simp at e; subst e; exact ⟨_, rfl, h⟩
  | _, _, i + 1, d, .cons _ r, e => by
    obtain ⟨v, h1, h2⟩ := RpA.getV (i := i) (v := d) r (by simpa using e)
    exact ⟨v, by simpa using h1, h2⟩
theorem RpA.append {K : PySem.W.Frag} {B : Mset} {H : Hp} : ∀ {vs ws : List V} {ds es : List PyData}, RpA K B H vs ds → RpA K B H ws es → RpA K B H (vs ++ ws) (ds ++ es)
  | _, _, _, _, .nil, q => q
  | _, _, _, _, .cons h r, q => .cons h (RpA.append r q)
theorem RpA.take {K : PySem.W.Frag} {B : Mset} {H : Hp} : ∀ {vs : List V} {ds : List PyData} (n : Nat), RpA K B H vs ds → RpA K B H (vs.take n) (ds.take n)
  | _, _, 0, _ => .nil
  | _, _, _ + 1, .nil => .nil
  | _, _, n + 1, .cons h r => .cons h (RpA.take n r)
theorem RpA.drop {K : PySem.W.Frag} {B : Mset} {H : Hp} : ∀ {vs : List V} {ds : List PyData} (n : Nat), RpA K B H vs ds → RpA K B H (vs.drop n) (ds.drop n)
  | _, _, 0, q => q
  | _, _, _ + 1, .nil => .nil
  | _, _, n + 1, .cons h r => RpA.drop n r
theorem RpA.set {K : PySem.W.Frag} {B : Mset} {H : Hp} {v : V} {d : PyData} (q : Rp K B H v d) : ∀ {vs : List V} {ds : List PyData} (n : Nat), RpA K B H vs ds → RpA K B H (vs.set n v) (ds.set n d)
  | _, _, _, .nil => .nil
  | _, _, 0, .cons _ r => .cons q r
  | _, _, n + 1, .cons h r => .cons h (RpA.set q n r)
theorem RpA.reverse {K : PySem.W.Frag} {B : Mset} {H : Hp} : ∀ {vs : List V} {ds : List PyData}, RpA K B H vs ds → RpA K B H vs.reverse ds.reverse
  | _, _, .nil => .nil
  | _, _, .cons h r => by
    rw [List.reverse_cons, List.reverse_cons]
    exact (RpA.reverse r).append (.cons h .nil)
theorem RpA.ints {K : PySem.W.Frag} {B : Mset} {H : Hp} : ∀ {vs : List V} {ns : List Int}, RpA K B H vs (ns.map .int) → vs = ns.map V.int
  | _, [], .nil => rfl
  | _, n :: ns, .cons h r => by
    cases h
    rw [RpA.ints r]
    rfl
theorem RpA.of_ints {K : PySem.W.Frag} {B : Mset} {H : Hp} : ∀ (ns : List Int), RpA K B H (ns.map V.int) (ns.map .int)
  | [] => .nil
  | n :: ns => .cons (.int n) (RpA.of_ints ns)
theorem RpA.bls {K : PySem.W.Frag} {B : Mset} {H : Hp} : ∀ {vs : List V} {ns : List Bool}, RpA K B H vs (ns.map .bool) → vs = ns.map V.bl
  | _, [], .nil => rfl
  | _, n :: ns, .cons h r => by
    cases h
    rw [RpA.bls r]
    rfl
theorem RpA.strs {K : PySem.W.Frag} {B : Mset} {H : Hp} : ∀ {vs : List V} {ns : List Str}, RpA K B H vs (ns.map .str) → vs = ns.map V.str
  | _, [], .nil => rfl
  | _, n :: ns, .cons h r => by
    cases h
    rw [RpA.strs r]
    rfl


mutual
theorem Rp.dp0 {K : PySem.W.Frag} {B : Mset} {H : Hp} : ∀ {v : V} {d : PyData}, Rp K B H v d → d.canLay0 = true → Dp K H v d
  | _, _, .non, _ => .non
  | _, _, .bl b, _ => .bl b
  | _, _, .int i, _ => .int i
  | _, _, .str x, _ => .str x
  | _, _, .tup h r, l => .tup h (RpA.dp0 r (by simpa [PyData.canLay0] using l))
  | _, _, .lst h _ r, l => .lst (.inl (.inl h)) (RpA.dp0 r (by simpa [PyData.canLay0] using l))
  | _, _, .frz h r, l => .lst (.inl (.inr ⟨_, h⟩)) (RpA.dp0 r (by simpa [PyData.canLay0] using l))
  | _, _, .kls h1 h2 h3 h4 h5 h6 r, l => .lst (.inr ⟨_, _, _, h1, h2, h3, h4, h5, h6⟩) (RpA.dp0 r (by simpa [PyData.canLay0] using l))
  | _, _, .fn _, l => by simp [PyData.canLay0] at l
theorem RpA.dp0 {K : PySem.W.Frag} {B : Mset} {H : Hp} : ∀ {vs : List V} {ds : List PyData}, RpA K B H vs ds → PyData.canLayAll0 ds = true → DpAll K H vs ds
  | _, _, .nil, _ => .nil
  | _, _, .cons h r, l => .cons (Rp.dp0 h (by simp [PyData.canLayAll0] at l; exact l.1)) (RpA.dp0 r (by simp [PyData.canLayAll0] at l; exact l.2))
end

/-! ### containers, slots, steps -/
def KvR (K : PySem.W.Frag) (B : Mset) (H : Hp) : List (Key × V) → List (Key × PyData) → Prop := Paired fun p q => p.1 = q.1 ∧ Rp K B H p.2 q.2
/-- a key that is a tuple, of ints, None and such tuples: its hash is the same in each world -/
def NkOk (k : NestedKey) : Prop := k.depth ≤ 8 ∧ (∀ w w', NestedKey.hash w k = NestedKey.hash w' k) ∧ ∃ ks, k = .tup ks
/-- a dict whose keys are tuples, by its entries -/
def DnO (a : Addr) (es : List DictEntry) : HO := .ext fun h => (a == sysModules) = false ∧ es.length ≤ sizeLine ∧ ∃ o ep, h.get? a = some o ∧ o.ExactDict ∧ o.data = .dict es.toArray ep
def DnE (K : PySem.W.Frag) (B : Mset) (H : Hp) (e : DictEntry) (q : NestedKey × PyData) : Prop :=
  NkOk q.1 ∧ (∀ w, NestedKey.hash w q.1 = e.hash) ∧ (∃ b, e.key = .ref b ∧ Rp K B H (.ref b) q.1.data) ∧ ∃ v, RelV v e.val ∧ Rp K B H v q.2
structure DnR (K : PySem.W.Frag) (B : Mset) (H : Hp) (es : List DictEntry) (kvs : List (NestedKey × PyData)) : Prop where
  ent : Paired (DnE K B H) es kvs
  nd : (kvs.map (·.1)).Nodup
theorem DnR.grow {K : PySem.W.Frag} {B B' : Mset} {H H' : Hp} (g : Grow B H B' H') {es : List DictEntry} {kvs : List (NestedKey × PyData)} (h : DnR K B H es kvs) : DnR K B' H' es kvs :=
  ⟨Paired.mapP h.ent fun _ _ ⟨a, b, ⟨c, d, e⟩, v, f, x⟩ => ⟨a, b, ⟨c, d, e.grow g⟩, v, f, x.grow g⟩, h.nd⟩
def CtR (K : PySem.W.Frag) (B : Mset) (H : Hp) (a : Addr) : Ct → Prop
  | .ls xs => ∃ vs, H a = some (.lst vs) ∧ RpA K B H vs xs
  | .dk kvs => ∃ ws, H a = some (.dK ws) ∧ KvR K B H ws kvs
  | .dn kvs => ∃ es, H a = some (DnO a es) ∧ DnR K B H es kvs

/-- a tuple that has no dict of its own -/
def NtR (K : PySem.W.Frag) (B : Mset) (H : Hp) (a : Addr) (xs : List PyData) : Prop := ∃ o vs, H a = some (.frz o (.tup vs)) ∧ o.dict = none ∧ RpA K B H vs xs
theorem NtR.grow {K : PySem.W.Frag} {B B' : Mset} {H H' : Hp} (g : Grow B H B' H') {a : Addr} {xs : List PyData} (h : NtR K B H a xs) : NtR K B' H' a xs := by
  obtain ⟨o, vs, h1, h2, h3⟩ := h
  exact ⟨o, vs, g.keep _ _ h1 (.inr trivial), h2, h3.grow g⟩
theorem NtR.rp {K : PySem.W.Frag} {B : Mset} {H : Hp} {a : Addr} {xs : List PyData} (h : NtR K B H a xs) : Rp K B H (.ref a) (.tuple xs) := by
  obtain ⟨o, vs, h1, h2, h3⟩ := h
  exact .tup (.inl (.inr ⟨o, h1⟩)) h3
def Wof (σ : St) (env : Sl) : Mset := fun a => ∃ (i : Nat) (m : Md) (c : Ct), env[i]? = some (some (.mu m c)) ∧ m ≠ .fro ∧ σ[i]? = some (some (.ref a))

structure EnvR (K : PySem.W.Frag) (B : Mset) (H : Hp) (σ : St) (env : Sl) : Prop where
  len : env.length = σ.length
  pd : ∀ (i : Nat) x, env[i]? = some (some (.pd x)) → ∃ v, σ[i]? = some (some v) ∧ Rp K B H v x
  nt : ∀ (i : Nat) xs, env[i]? = some (some (.nt xs)) → ∃ a, σ[i]? = some (some (.ref a)) ∧ NtR K B H a xs
  mu : ∀ (i : Nat) m c, env[i]? = some (some (.mu m c)) → ∃ a, σ[i]? = some (some (.ref a)) ∧ B a ∧ CtR K B H a c
  inj : ∀ (i j : Nat) m n c d a, env[i]? = some (some (.mu m c)) → env[j]? = some (some (.mu n d)) → σ[i]? = some (some (.ref a)) → σ[j]? = some (some (.ref a)) → i = j
  dom : ∀ a, B a → ∃ o, H a = some o

structure Stp (W B : Mset) (H : Hp) (W' B' : Mset) (H' : Hp) : Prop where
  keep : ∀ a o, H a = some o → (¬ W a ∨ Imm o) → H' a = some o
  new : ∀ a, B' a → B a ∨ H a = none
  old : ∀ a, B a → ¬ W a → B' a
  sub : ∀ a, W' a → W a ∨ H a = none
  liv : ∀ a, H' a = none → H a = none

theorem EnvR.wb {K : PySem.W.Frag} {B : Mset} {H : Hp} {σ : St} {env : Sl} (e : EnvR K B H σ env) : ∀ a, Wof σ env a → B a := by
  rintro a ⟨i, m, c, h1, _, h3⟩
  obtain ⟨a', h4, h5, _⟩ := e.mu i m c h1
  rw [h3] at h4
  cases h4
  exact h5

theorem Stp.grow {W B W' B' : Mset} {H H' : Hp} (s : Stp W B H W' B' H') (wb : ∀ a, W a → B a) : Grow B H B' H' :=
  ⟨fun a o h q => s.keep a o h (q.imp (fun n w => n (wb a w)) id), s.new⟩

theorem Stp.refl {W B : Mset} {H : Hp} : Stp W B H W B H := ⟨fun _ _ h _ => h, fun _ h => .inl h, fun _ h _ => h, fun _ h => .inl h, fun _ h => h⟩

theorem Stp.trans {W B W1 B1 W2 B2 : Mset} {H H1 H2 : Hp} (s : Stp W B H W1 B1 H1) (t : Stp W1 B1 H1 W2 B2 H2) (wb : ∀ a, W a → B a) (dom : ∀ a, B a → ∃ o, H a = some o) : Stp W B H W2 B2 H2 where
  keep a o h q := by
    refine t.keep a o (s.keep a o h q) ?_
    rcases q with q | q
    · refine .inl fun w => ?_
      rcases s.sub a w with w | w
      · exact q w
      · rw [h] at w; cases w
    · exact .inr q
  new a h := by
    rcases t.new a h with h | h
    · exact s.new a h
    · exact .inr (s.liv a h)
  old a h w := by
    refine t.old a (s.old a h w) fun w1 => ?_
    rcases s.sub a w1 with q | q
    · exact w q
    · obtain ⟨o, e⟩ := dom a h
      rw [e] at q; cases q
  sub a h := by
    rcases t.sub a h with h | h
    · exact s.sub a h
    · exact .inr (s.liv a h)
  liv a h := s.liv a (t.liv a h)

/-- the value of an expression -/
def RR (K : PySem.W.Frag) (H₀ : Hp) (B : Mset) (H : Hp) (σ : St) (env : Sl) (v : V) : R → Prop
  | .pd x => Rp K B H v x
  | .nt xs => ∃ a, v = .ref a ∧ NtR K B H a xs
  | .tmp c => ∃ a, v = .ref a ∧ H₀ a = none ∧ B a ∧ CtR K B H a c ∧ ∀ (i : Nat) m d, env[i]? = some (some (S.mu m d)) → σ[i]? ≠ some (some (V.ref a))
  | .var i => σ[i]? = some (some v) ∧ ∃ m c, env[i]? = some (some (.mu m c))

/-- where an expression leads: same slots -/
structure At (K : PySem.W.Frag) (σ : St) (B : Mset) (H : Hp) (env : Sl) (B' : Mset) (H' : Hp) (env' : Sl) : Prop where
  st : Stp (Wof σ env) B H (Wof σ env') B' H'
  en : EnvR K B' H' σ env'
  sm : ∀ (i : Nat) m c, env'[i]? = some (some (.mu m c)) → ∃ c', env[i]? = some (some (.mu m c'))
  ks : ∀ (i : Nat) m c, env[i]? = some (some (.mu m c)) → ∃ c', env'[i]? = some (some (.mu m c'))

abbrev EE := Sl → Option (R × Sl)
abbrev EA := Sl → Option (List R × Sl)

def tE (K : PySem.W.Frag) (f : EE) : TE := fun σ H Q => ∃ B env d env', EnvR K B H σ env ∧ f env = some (d, env') ∧
  ∀ B' H' v, At K σ B H env B' H' env' → RR K H B' H' σ env' v d → Q v H'

theorem PE.imp {X : Cx} {e : Expr} {t t' : TE} (h : PE X e t) (i : ∀ σ H Q, t' σ H Q → t σ H Q) : PE X e t' := ⟨fun pins s σ H Q I q => h.run pins s σ H Q I (i σ H Q q)⟩
theorem PS.imp {X : Cx} {e : Stmt} {t t' : TS} (h : PS X e t) (i : ∀ D σ H, t' D σ H → t D σ H) : PS X e t' := ⟨fun pins s σ H D I q => h.run pins s σ H D I (i D σ H q)⟩
theorem PSs.imp {X : Cx} {e : List Stmt} {t t' : TS} (h : PSs X e t) (i : ∀ D σ H, t' D σ H → t D σ H) : PSs X e t' := ⟨fun pins s σ H D I q => h.run pins s σ H D I (i D σ H q)⟩
theorem PT.imp {X : Cx} {e : Expr} {t t' : TT} (h : PT X e t) (i : ∀ σ H Q, t' σ H Q → t σ H Q) : PT X e t' := ⟨fun pins s σ H Q I q => h.run pins s σ H Q I (i σ H Q q)⟩
theorem PA.imp {X : Cx} {e : List Expr} {t t' : TA} (h : PA X e t) (i : ∀ σ H Q, t' σ H Q → t σ H Q) : PA X e t' := ⟨fun pos pins s σ H Q I q => h.run pos pins s σ H Q I (i σ H Q q)⟩

theorem At.refl {K : PySem.W.Frag} {σ : St} {B : Mset} {H : Hp} {env : Sl} (e : EnvR K B H σ env) : At K σ B H env B H env := ⟨.refl, e, fun _ _ c h => ⟨c, h⟩, fun _ _ c h => ⟨c, h⟩⟩
theorem At.trans {K : PySem.W.Frag} {σ : St} {B B1 B2 : Mset} {H H1 H2 : Hp} {env env1 env2 : Sl} (e : EnvR K B H σ env) (a : At K σ B H env B1 H1 env1) (b : At K σ B1 H1 env1 B2 H2 env2) : At K σ B H env B2 H2 env2 :=
  ⟨a.st.trans b.st e.wb e.dom, b.en, fun i m c h => let ⟨c1, h1⟩ := b.sm i m c h; a.sm i m c1 h1, fun i m c h => let ⟨c1, h1⟩ := a.ks i m c h; b.ks i m c1 h1⟩
theorem At.grow {K : PySem.W.Frag} {σ : St} {B B1 : Mset} {H H1 : Hp} {env env1 : Sl} (e : EnvR K B H σ env) (a : At K σ B H env B1 H1 env1) : Grow B H B1 H1 := a.st.grow e.wb

theorem KvR.grow {K : PySem.W.Frag} {B B' : Mset} {H H' : Hp} (g : Grow B H B' H') {ws : List (Key × V)} {kvs : List (Key × PyData)} (h : KvR K B H ws kvs) : KvR K B' H' ws kvs :=
  Paired.mapP h fun _ _ q => ⟨q.1, q.2.grow g⟩

/-- a container that the step does not own stays -/
theorem CtR.keep {K : PySem.W.Frag} {W B W' B' : Mset} {H H' : Hp} {a : Addr} {c : Ct} (h : CtR K B H a c) (s : Stp W B H W' B' H') (wb : ∀ a, W a → B a) (hw : ¬ W a) : CtR K B' H' a c := by
  cases c with
  | ls xs =>
    obtain ⟨vs, h1, h2⟩ := h
    exact ⟨vs, s.keep _ _ h1 (.inl hw), h2.grow (s.grow wb)⟩
  | dk kvs =>
    obtain ⟨vs, h1, h2⟩ := h
    exact ⟨vs, s.keep _ _ h1 (.inl hw), h2.grow (s.grow wb)⟩
  | dn kvs =>
    obtain ⟨vs, h1, h2⟩ := h
    exact ⟨vs, s.keep _ _ h1 (.inl hw), h2.grow (s.grow wb)⟩

/-- an earlier value, later -/
theorem RR.later {K : PySem.W.Frag} {H₀ : Hp} {σ : St} {B B1 : Mset} {H H1 : Hp} {env env1 : Sl} {v : V} {d : R} (e : EnvR K B H σ env) (a : At K σ B H env B1 H1 env1) (h : RR K H₀ B H σ env v d) (hd : ∀ i, d ≠ .var i) : RR K H₀ B1 H1 σ env1 v d := by
  cases d with
  | pd x => exact Rp.grow (a.grow e) h
  | nt xs => obtain ⟨p, e1, h1⟩ := h; exact ⟨p, e1, h1.grow (a.grow e)⟩
  | var i => exact absurd rfl (hd i)
  | tmp c =>
    obtain ⟨p, rfl, h0, hb, hc, hn⟩ := h
    have hw : ¬ Wof σ env p := by
      rintro ⟨i, m, c', h1, _, h3⟩
      exact hn i m c' h1 h3
    refine ⟨p, rfl, h0, a.st.old p hb hw, hc.keep a.st e.wb hw, fun i m d h1 h2 => ?_⟩
    obtain ⟨c', h3⟩ := a.sm i m d h1
    exact hn i m c' h3 h2
end T3

end
section
set_option linter.all false
set_option autoImplicit false
set_option Elab.async false
namespace T3
open PySem L2

/-! ### several values in a row -/
def RA (K : PySem.W.Frag) (H₀ : Hp) (B : Mset) (H : Hp) (σ : St) (env : Sl) (v : V) : R → Prop
  | .pd x => Rp K B H v x
  | .nt xs => ∃ a, v = .ref a ∧ NtR K B H a xs
  | .tmp c => ∃ a, v = .ref a ∧ H₀ a = none ∧ B a ∧ CtR K B H a c ∧ ∀ (i : Nat) m d, env[i]? = some (some (S.mu m d)) → σ[i]? ≠ some (some (V.ref a))
  | .var i => σ[i]? = some (some v)
structure RRA (K : PySem.W.Frag) (H₀ : Hp) (B : Mset) (H : Hp) (σ : St) (env : Sl) (vs : List V) (ds : List R) : Prop where
  len : vs.length = ds.length
  each : ∀ (k : Nat) v d, vs[k]? = some v → ds[k]? = some d → RA K H₀ B H σ env v d
  apart : ∀ (k l : Nat) c c' v, k ≠ l → ds[k]? = some (.tmp c) → ds[l]? = some (.tmp c') → vs[k]? = some v → vs[l]? = some v → False

theorem RR.ra {K : PySem.W.Frag} {H₀ H : Hp} {B : Mset} {σ : St} {env : Sl} {v : V} {d : R} (h : RR K H₀ B H σ env v d) : RA K H₀ B H σ env v d := by
  cases d with
  | pd x => exact h
  | nt x => exact h
  | tmp c => exact h
  | var i => exact h.1
theorem RR.from {K : PySem.W.Frag} {H₀ H₁ H : Hp} {B : Mset} {σ : St} {env : Sl} {v : V} {d : R} (h : RR K H₁ B H σ env v d) (l : ∀ a, H₁ a = none → H₀ a = none) : RR K H₀ B H σ env v d := by
  cases d with
  | pd x => exact h
  | nt x => exact h
  | tmp c => obtain ⟨a, h1, h2, h3⟩ := h; exact ⟨a, h1, l a h2, h3⟩
  | var i => exact h
theorem RA.later {K : PySem.W.Frag} {H₀ : Hp} {σ : St} {B B1 : Mset} {H H1 : Hp} {env env1 : Sl} {v : V} {d : R} (e : EnvR K B H σ env) (a : At K σ B H env B1 H1 env1) (h : RA K H₀ B H σ env v d) : RA K H₀ B1 H1 σ env1 v d := by
  cases d with
  | pd x => exact RR.later (d := .pd x) (H₀ := H₀) e a h (fun _ => nofun)
  | nt x => exact RR.later (d := .nt x) (H₀ := H₀) e a h (fun _ => nofun)
  | var i => exact h
  | tmp c => exact RR.later (d := .tmp c) e a h (fun _ => nofun)

def tA (K : PySem.W.Frag) (f : EA) : TA := fun σ H Q => ∃ B env ds env', EnvR K B H σ env ∧ f env = some (ds, env') ∧
  ∀ B' H' vs, At K σ B H env B' H' env' → RRA K H B' H' σ env' vs ds → Q vs H'
def eNil : EA := fun env => some ([], env)
def eCons (fa : EE) (fr : EA) : EA := fun env => match fa env with
  | none => none
  | some (d, e1) => match fr e1 with
    | none => none
    | some (ds, e2) => some (d :: ds, e2)

theorem rd_cons {K : PySem.W.Frag} {fa : EE} {fr : EA} {σ : St} {H : Hp} {Q : List V → Hp → Prop} (h : tA K (eCons fa fr) σ H Q) : tCons (tE K fa) (tA K fr) σ H Q := by
  obtain ⟨B, env, ds, env', en, ev, q⟩ := h
  unfold eCons at ev
  split at ev
  · cases ev
  rename_i d e1 h1
  split at ev
  · cases ev
  rename_i ds1 e2 h2
  cases ev
  refine ⟨B, env, d, e1, en, h1, fun B1 H1 v a1 r1 => ⟨B1, e1, ds1, _, a1.en, h2, fun B2 H2 vs a2 r2 => q B2 H2 (v :: vs) (a1.trans en a2) ?_⟩⟩
  refine ⟨by simp [r2.len], fun k w d' hv hd => ?_, fun k l c c' w hkl hk hl vk vl => ?_⟩
  · cases k with
    | zero =>
      simp at hv hd
      subst hv hd
      exact (r1.ra).later a1.en a2
    | succ k =>
      have := r2.each k w d' (by simpa using hv) (by simpa using hd)
      cases d' with
      | pd x => exact this
      | nt x => exact this
      | var i => exact this
      | tmp c => obtain ⟨a, e1, e2, e3⟩ := this; exact ⟨a, e1, a1.st.liv a e2, e3⟩
  · have fresh : ∀ (k : Nat) c', ds1[k]? = some (.tmp c') → vs[k]? = some w → ∀ c, d = .tmp c → v = w → False := by
      intro kk c' gk gv c hd hw
      subst hd hw
      obtain ⟨a, rfl, _, ba, _, _⟩ := r1
      obtain ⟨a', e, h0, _⟩ := r2.each kk _ _ gv gk
      cases e
      obtain ⟨o, ho⟩ := a1.en.dom a ba
      rw [ho] at h0
      cases h0
    cases k with
    | zero =>
      cases l with
      | zero => exact hkl rfl
      | succ l => exact fresh l c' (by simpa using hl) (by simpa using vl) c (by simpa using hk) (by simpa using vk)
    | succ k =>
      cases l with
      | zero => exact fresh k c (by simpa using hk) (by simpa using vk) c' (by simpa using hl) (by simpa using vl)
      | succ l => exact r2.apart k l c c' w (by omega) (by simpa using hk) (by simpa using hl) (by simpa using vk) (by simpa using vl)
theorem rd_nil {K : PySem.W.Frag} {σ : St} {H : Hp} {Q : List V → Hp → Prop} (h : tA K eNil σ H Q) : tNil σ H Q := by
  obtain ⟨B, env, ds, env', en, ev, q⟩ := h
  cases ev
  exact q B H [] (.refl en) ⟨rfl, fun k v d h => by simp at h, fun k l c c' v _ h => by simp at h⟩

section
variable {X : Cx} {e : Expr} {es : List Expr} {K : PySem.W.Frag}
theorem a_nil : PA X [] (tA K eNil) := PA.imp pa_nil fun _ _ _ h => rd_nil h
theorem a_cons {fa : EE} {fr : EA} (ha : PE X e (tE K fa)) (hr : PA X es (tA K fr)) (hs : starEach (e :: es) X.env = (false, eval e X.env) :: starEach es X.env := by rfl) : PA X (e :: es) (tA K (eCons fa fr)) :=
  PA.imp (pa_cons ha hr hs) fun _ _ _ h => rd_cons h
end

/-! ### names and constants -/
def eVar (i : Nat) : EE := fun env => match env[i]? with
  | some (some (.pd x)) => some (.pd x, env)
  | some (some (.nt x)) => some (.nt x, env)
  | some (some (.mu _ _)) => some (.var i, env)
  | _ => none
def eC (x : PyData) : EE := fun env => some (.pd x, env)
theorem e_var {X : Cx} {e : Expr} {i : Nat} (h : PE X e (tVar i)) : PE X e (tE X.K (eVar i)) := PE.imp h fun σ H Q t => by
  obtain ⟨B, env, d, env', en, ev, q⟩ := t
  unfold eVar at ev
  split at ev
  · rename_i x hx
    cases ev
    obtain ⟨v, hv, r⟩ := en.pd _ _ hx
    exact ⟨v, hv, q B H v (.refl en) r⟩
  · rename_i x hx
    cases ev
    obtain ⟨a, hv, r⟩ := en.nt _ _ hx
    exact ⟨_, hv, q B H _ (.refl en) ⟨a, rfl, r⟩⟩
  · rename_i m c hx
    cases ev
    obtain ⟨a, hv, _, r⟩ := en.mu _ _ _ hx
    exact ⟨_, hv, q B H _ (.refl en) ⟨hv, _, _, hx⟩⟩
  · cases ev
theorem e_c {X : Cx} {e : Expr} {v : V} {x : PyData} (h : PE X e (tC v)) (r : ∀ B H, Rp X.K B H v x) : PE X e (tE X.K (eC x)) := PE.imp h fun σ H Q t => by
  obtain ⟨B, env, d, env', en, ev, q⟩ := t
  cases ev
  exact q B H v (.refl en) (r B H)

/-! ### what is read of a value -/
def ctn (env : Sl) : R → Option PyData
  | .pd x => some x
  | .nt xs => some (.tuple xs)
  | .tmp (.ls xs) => some (.list xs)
  | .tmp (.dk _) => none
  | .tmp (.dn _) => none
  | .var i => match env[i]? with
    | some (some (.mu _ (.ls xs))) => some (.list xs)
    | _ => none
def ctns (env : Sl) : List R → Option (List PyData)
  | [] => some []
  | d :: ds => match ctn env d with
    | none => none
    | some x => match ctns env ds with
      | none => none
      | some xs => some (x :: xs)
inductive Cn (K : PySem.W.Frag) (B : Mset) (H : Hp) : V → PyData → Prop
  | rp {v : V} {x : PyData} : Rp K B H v x → Cn K B H v x
  | ct {a : Addr} {vs : List V} {xs : List PyData} : H a = some (.lst vs) → RpA K B H vs xs → Cn K B H (.ref a) (.list xs)
inductive CnA (K : PySem.W.Frag) (B : Mset) (H : Hp) : List V → List PyData → Prop
  | nil : CnA K B H [] []
  | cons {v : V} {vs : List V} {d : PyData} {ds : List PyData} : Cn K B H v d → CnA K B H vs ds → CnA K B H (v :: vs) (d :: ds)
theorem Cn.of {K : PySem.W.Frag} {H₀ : Hp} {B : Mset} {H : Hp} {σ : St} {env : Sl} {v : V} {d : R} {x : PyData} (en : EnvR K B H σ env) (h : RA K H₀ B H σ env v d) (c : ctn env d = some x) : Cn K B H v x := by
  cases d with
  | pd y => cases c; exact .rp h
  | nt y => cases c; obtain ⟨a, rfl, h⟩ := h; exact .rp h.rp
  | tmp t =>
    cases t with
    | ls xs =>
      cases c
      obtain ⟨a, rfl, _, _, ⟨vs, h1, h2⟩, _⟩ := h
      exact .ct h1 h2
    | dk _ => cases c
    | dn _ => cases c
  | var i =>
    simp only [ctn] at c
    split at c
    · rename_i m xs hx
      cases c
      obtain ⟨a, h1, _, vs, h2, h3⟩ := en.mu _ _ _ hx
      have h : σ[i]? = some (some v) := h
      rw [h] at h1
      cases h1
      exact .ct h2 h3
    · cases c
theorem CnA.of {K : PySem.W.Frag} {H₀ : Hp} {B : Mset} {H : Hp} {σ : St} {env : Sl} (en : EnvR K B H σ env) : ∀ {vs : List V} {ds : List R} {xs : List PyData}, RRA K H₀ B H σ env vs ds → ctns env ds = some xs → CnA K B H vs xs
  | [], [], xs, _, c => by cases c; exact .nil
  | v :: vs, d :: ds, xs, r, c => by
    unfold ctns at c
    split at c
    · cases c
    rename_i x hx
    split at c
    · cases c
    rename_i ys hy
    cases c
    refine .cons (Cn.of en (r.each 0 v d rfl rfl) hx) (CnA.of en ⟨by have := r.len; simpa using this, fun k w e h1 h2 => r.each (k + 1) w e (by simpa using h1) (by simpa using h2), fun k l c c' w h0 h1 h2 h3 h4 => r.apart (k + 1) (l + 1) c c' w (by omega) (by simpa using h1) (by simpa using h2) (by simpa using h3) (by simpa using h4)⟩ hy)
  | [], _ :: _, _, r, _ => by have := r.len; simp at this
  | _ :: _, [], _, r, _ => by have := r.len; simp at this
theorem Cn.dp {K : PySem.W.Frag} {B : Mset} {H : Hp} {v : V} {x : PyData} (h : Cn K B H v x) (l : SeqAt.shaped x = true) : Dp K H v x := by
  have l0 : x.canLay0 = true := by
    unfold SeqAt.shaped at l
    rw [Bool.and_eq_true] at l
    exact l.1
  cases h with
  | rp h => exact h.dp0 l0
  | ct h r => exact .lst (.inl (.inl h)) (r.dp0 (by simpa [PyData.canLay0] using l0))
theorem Cn.list {K : PySem.W.Frag} {B : Mset} {H : Hp} {v : V} {xs : List PyData} (h : Cn K B H v (.list xs)) : ∃ a vs, v = .ref a ∧ SqL K H a vs ∧ RpA K B H vs xs := by
  cases h with
  | rp h =>
    cases h with
    | lst h _ r => exact ⟨_, _, rfl, .inl (.inl h), r⟩
    | frz h r => exact ⟨_, _, rfl, .inl (.inr ⟨_, h⟩), r⟩
    | kls h1 h2 h3 h4 h5 h6 r => exact ⟨_, _, rfl, .inr ⟨_, _, _, h1, h2, h3, h4, h5, h6⟩, r⟩
  | ct h r => exact ⟨_, _, rfl, .inl (.inl h), r⟩
theorem Cn.tuple {K : PySem.W.Frag} {B : Mset} {H : Hp} {v : V} {xs : List PyData} (h : Cn K B H v (.tuple xs)) : ∃ a vs, v = .ref a ∧ SqT K H a vs ∧ RpA K B H vs xs := by
  cases h with
  | rp h =>
    cases h with
    | tup h r => exact ⟨_, _, rfl, h, r⟩
theorem Cn.int {K : PySem.W.Frag} {B : Mset} {H : Hp} {v : V} {i : Int} (h : Cn K B H v (.int i)) : v = .int i := by
  cases h with
  | rp h => cases h; rfl
theorem Cn.str {K : PySem.W.Frag} {B : Mset} {H : Hp} {v : V} {i : Str} (h : Cn K B H v (.str i)) : v = .str i := by
  cases h with
  | rp h => cases h; rfl
theorem Cn.bool {K : PySem.W.Frag} {B : Mset} {H : Hp} {v : V} {i : Bool} (h : Cn K B H v (.bool i)) : v = .bl i := by
  cases h with
  | rp h => cases h; rfl
theorem Cn.none {K : PySem.W.Frag} {B : Mset} {H : Hp} {v : V} (h : Cn K B H v .none) : v = .non := by
  cases h with
  | rp h => cases h; rfl

/-! ### new objects -/
theorem At.alloc {K : PySem.W.Frag} {σ : St} {B B1 : Mset} {H H1 : Hp} {env env1 : Sl} {p : Addr} (en : EnvR K B H σ env) (a : At K σ B H env B1 H1 env1) (np : H1 p = none) (o : HO) (mt : Prop) (fz : Mset)
    (hf : ∀ q, fz q → H q = none ∧ ∀ (i : Nat) m d, env1[i]? = some (some (S.mu m d)) → σ[i]? ≠ some (some (V.ref q))) :
    Grow B1 H1 (fun q => (B1 q ∧ ¬ fz q) ∨ (mt ∧ q = p)) (upd H1 p o) ∧ At K σ B H env (fun q => (B1 q ∧ ¬ fz q) ∨ (mt ∧ q = p)) (upd H1 p o) env1 := by
  have ne : ∀ {q o'}, H1 q = some o' → q ≠ p := fun {q o'} h e => by rw [e, np] at h; cases h
  have g : Grow B1 H1 (fun q => (B1 q ∧ ¬ fz q) ∨ (mt ∧ q = p)) (upd H1 p o) := ⟨fun q o' h _ => by rw [upd_ne (ne h)]; exact h, fun q h => by
    rcases h with h | h
    · exact .inl h.1
    · rw [h.2]; exact .inr np⟩
  refine ⟨g, ⟨fun q o' h c => ?_, fun q h => ?_, fun q h w => ?_, a.st.sub, fun q h => ?_⟩, ⟨a.en.len, fun i x h => ?_, fun i x h => ?_, fun i m c h => ?_, a.en.inj, fun q h => ?_⟩, a.sm, a.ks⟩
  · have h1 := a.st.keep q o' h c
    rw [upd_ne (ne h1)]; exact h1
  · rcases h with h | h
    · exact a.st.new q h.1
    · rw [h.2]; exact .inr (a.st.liv _ np)
  · refine .inl ⟨a.st.old q h w, fun f => ?_⟩
    obtain ⟨o', ho⟩ := en.dom q h
    rw [(hf q f).1] at ho; cases ho
  · by_cases e : q = p
    · rw [e]; exact a.st.liv _ np
    · rw [upd_ne e] at h; exact a.st.liv _ h
  · obtain ⟨v, h1, h2⟩ := a.en.pd i x h
    exact ⟨v, h1, h2.grow g⟩
  · obtain ⟨v, h1, h2⟩ := a.en.nt i x h
    exact ⟨v, h1, h2.grow g⟩
  · obtain ⟨q, h1, h2, h3⟩ := a.en.mu i m c h
    refine ⟨q, h1, .inl ⟨h2, fun f => (hf q f).2 i m c h h1⟩, ?_⟩
    cases c with
    | ls xs => obtain ⟨vs, h4, h5⟩ := h3; exact ⟨vs, by rw [upd_ne (ne h4)]; exact h4, h5.grow g⟩
    | dk xs => obtain ⟨vs, h4, h5⟩ := h3; exact ⟨vs, by rw [upd_ne (ne h4)]; exact h4, h5.grow g⟩
    | dn xs => obtain ⟨vs, h4, h5⟩ := h3; exact ⟨vs, by rw [upd_ne (ne h4)]; exact h4, h5.grow g⟩
  · rcases h with h | h
    · obtain ⟨o', ho⟩ := a.en.dom q h.1
      exact ⟨o', by rw [upd_ne (ne ho)]; exact ho⟩
    · rw [h.2]; exact ⟨o, upd_same⟩

/-! ### the use of several values -/
abbrev KK := List R → Sl → Option (R × Sl)
def eThen (f : EA) (k : KK) : EE := fun env => match f env with
  | none => none
  | some (ds, e1) => k ds e1
def Con (K : PySem.W.Frag) (k : KK) (r : List V → Hp → VK → Prop) : Prop := ∀ σ H B env B1 H1 env1 vs ds d e2 Q, EnvR K B H σ env → At K σ B H env B1 H1 env1 → RRA K H B1 H1 σ env1 vs ds → k ds env1 = some (d, e2) →
  (∀ B' H' v, At K σ B H env B' H' e2 → RR K H B' H' σ e2 v d → Q v H') → r vs H1 Q
theorem rd_then {K : PySem.W.Frag} {f : EA} {k : KK} {r : List V → Hp → VK → Prop} (c : Con K k r) {σ : St} {H : Hp} {Q : VK} (h : tE K (eThen f k) σ H Q) : tA K f σ H (fun vs H1 => r vs H1 Q) := by
  obtain ⟨B, env, d, env', en, ev, q⟩ := h
  unfold eThen at ev
  split at ev
  · cases ev
  rename_i ds e1 h1
  exact ⟨B, env, ds, e1, en, h1, fun B1 H1 vs a1 r1 => c σ H B env B1 H1 e1 vs ds d env' Q en a1 r1 ev q⟩
/-- two operands -/
def l2 (r : R2) : List V → Hp → VK → Prop := fun vs H Q => ∀ x y, vs = [x, y] → r x y H Q
def l1 (r : V → Hp → VK → Prop) : List V → Hp → VK → Prop := fun vs H Q => ∀ x, vs = [x] → r x H Q
def eTwo (fa fb : EE) : EA := eCons fa (eCons fb eNil)
def eOne (fa : EE) : EA := eCons fa eNil
theorem rd_two {K : PySem.W.Frag} {fa fb : EE} {k : KK} {r : R2} (c : Con K k (l2 r)) {σ : St} {H : Hp} {Q : VK} (h : tE K (eThen (eTwo fa fb) k) σ H Q) : tOp r (tE K fa) (tE K fb) σ H Q := by
  have h := rd_cons (rd_then c h)
  obtain ⟨B, env, d, env', en, ev, q⟩ := h
  refine ⟨B, env, d, env', en, ev, fun B1 H1 x a1 r1 => ?_⟩
  have h2 := rd_cons (q B1 H1 x a1 r1)
  obtain ⟨B, env, d, env', en, ev, q⟩ := h2
  refine ⟨B, env, d, env', en, ev, fun B2 H2 y a2 r2 => ?_⟩
  exact rd_nil (q B2 H2 y a2 r2) x y rfl
theorem rd_one {K : PySem.W.Frag} {fa : EE} {k : KK} {r : V → Hp → VK → Prop} (c : Con K k (l1 r)) {σ : St} {H : Hp} {Q : VK} (h : tE K (eThen (eOne fa) k) σ H Q) : tUn r (tE K fa) σ H Q := by
  have h := rd_cons (rd_then c h)
  obtain ⟨B, env, d, env', en, ev, q⟩ := h
  refine ⟨B, env, d, env', en, ev, fun B1 H1 x a1 r1 => ?_⟩
  exact rd_nil (q B1 H1 x a1 r1) x rfl

/-- a value that is there already (or a plain one) -/
def kE (o : List PyData → Option PyData) : KK := fun ds env => match ctns env ds with
  | none => none
  | some xs => match o xs with
    | none => none
    | some z => some (.pd z, env)
def OkE (K : PySem.W.Frag) (o : List PyData → Option PyData) (r : List V → Hp → VK → Prop) : Prop := ∀ B H vs xs z Q, CnA K B H vs xs → o xs = some z → (∀ v, Rp K B H v z → Q v H) → r vs H Q
theorem con_E {K : PySem.W.Frag} {o : List PyData → Option PyData} {r : List V → Hp → VK → Prop} (h : OkE K o r) : Con K (kE o) r := by
  intro σ H B env B1 H1 env1 vs ds d e2 Q en a rr hk q
  unfold kE at hk
  split at hk
  · cases hk
  rename_i xs hx
  split at hk
  · cases hk
  rename_i z hz
  cases hk
  exact h B1 H1 vs xs z _ (CnA.of a.en rr hx) hz fun v hv => q B1 H1 v a hv
/-- a new tuple, a new list of what is there -/
def kT (o : List PyData → Option (List PyData)) : KK := fun ds env => match ctns env ds with
  | none => none
  | some xs => match o xs with
    | none => none
    | some z => some (.pd (.tuple z), env)
def OkT (K : PySem.W.Frag) (o : List PyData → Option (List PyData)) (r : List V → Hp → VK → Prop) : Prop := ∀ B H vs xs z Q, CnA K B H vs xs → o xs = some z → (∀ v, Rp K B H v (.tuple z) → Q v H) → (∀ ws p, RpA K B H ws z → H p = none → Q (.ref p) (upd H p (.tup ws))) → r vs H Q
theorem con_T {K : PySem.W.Frag} {o : List PyData → Option (List PyData)} {r : List V → Hp → VK → Prop} (h : OkT K o r) : Con K (kT o) r := by
  intro σ H B env B1 H1 env1 vs ds d e2 Q en a rr hk q
  unfold kT at hk
  split at hk
  · cases hk
  rename_i xs hx
  split at hk
  · cases hk
  rename_i z hz
  cases hk
  refine h B1 H1 vs xs z _ (CnA.of a.en rr hx) hz (fun v hv => q B1 H1 v a hv) fun ws p hw np => ?_
  obtain ⟨g, a2⟩ := a.alloc en np (.tup ws) False (fun _ => False) (fun _ f => f.elim)
  exact q _ _ _ a2 (.tup (.inl (.inl upd_same)) (hw.grow g))
def kL (o : List PyData → Option (List PyData)) : KK := fun ds env => match ctns env ds with
  | none => none
  | some xs => match o xs with
    | none => none
    | some z => some (.tmp (.ls z), env)
def OkL (K : PySem.W.Frag) (o : List PyData → Option (List PyData)) (r : List V → Hp → VK → Prop) : Prop := ∀ B H vs xs z Q, CnA K B H vs xs → o xs = some z → (∀ ws p, RpA K B H ws z → H p = none → Q (.ref p) (upd H p (.lst ws))) → r vs H Q
theorem con_L {K : PySem.W.Frag} {o : List PyData → Option (List PyData)} {r : List V → Hp → VK → Prop} (h : OkL K o r) : Con K (kL o) r := by
  intro σ H B env B1 H1 env1 vs ds d e2 Q en a rr hk q
  unfold kL at hk
  split at hk
  · cases hk
  rename_i xs hx
  split at hk
  · cases hk
  rename_i z hz
  cases hk
  refine h B1 H1 vs xs z _ (CnA.of a.en rr hx) hz fun ws p hw np => ?_
  obtain ⟨g, a2⟩ := a.alloc en np (.lst ws) True (fun _ => False) (fun _ f => f.elim)
  refine q _ _ _ a2 ⟨p, rfl, a.st.liv _ np, .inr ⟨trivial, rfl⟩, ⟨ws, upd_same, hw.grow g⟩, fun i m d h1 h2 => ?_⟩
  obtain ⟨b, h3, h4, _⟩ := a.en.mu i m d h1
  rw [h3] at h2
  cases h2
  obtain ⟨o', ho⟩ := a.en.dom _ h4
  rw [np] at ho; cases ho
end T3

end
section
set_option linter.all false
set_option autoImplicit false
set_option Elab.async false
namespace T3
open PySem L2

/-! ### displays -/
def data1 : R → Option PyData
  | .pd x => some x
  | .nt xs => some (.tuple xs)
  | .tmp (.ls xs) => some (.list xs)
  | _ => none
def datas : List R → Option (List PyData)
  | [] => some []
  | d :: ds => match data1 d with
    | none => none
    | some x => match datas ds with
      | none => none
      | some xs => some (x :: xs)
def fzOf (vs : List V) (ds : List R) : Mset := fun q => ∃ (k : Nat) (c : Ct), ds[k]? = some (.tmp c) ∧ vs[k]? = some (.ref q)
theorem RRA.fz {K : PySem.W.Frag} {H₀ : Hp} {B : Mset} {H : Hp} {σ : St} {env : Sl} {vs : List V} {ds : List R} (r : RRA K H₀ B H σ env vs ds) : ∀ q, fzOf vs ds q → H₀ q = none ∧ ∀ (i : Nat) m d, env[i]? = some (some (S.mu m d)) → σ[i]? ≠ some (some (V.ref q)) := by
  rintro q ⟨k, c, h1, h2⟩
  obtain ⟨a, e, h3, _, _, h5⟩ := r.each k _ _ h2 h1
  cases e
  exact ⟨h3, h5⟩
theorem RRA.tail {K : PySem.W.Frag} {H₀ : Hp} {B : Mset} {H : Hp} {σ : St} {env : Sl} {v : V} {d : R} {vs : List V} {ds : List R} (r : RRA K H₀ B H σ env (v :: vs) (d :: ds)) : RRA K H₀ B H σ env vs ds :=
  ⟨by have := r.len; simpa using this, fun k w e h1 h2 => r.each (k + 1) w e (by simpa using h1) (by simpa using h2), fun k l c c' w h0 h1 h2 h3 h4 => r.apart (k + 1) (l + 1) c c' w (by omega) (by simpa using h1) (by simpa using h2) (by simpa using h3) (by simpa using h4)⟩
/-- frozen from now on -/
theorem RRA.data {K : PySem.W.Frag} {H₀ : Hp} {B B' : Mset} {H H' : Hp} {σ : St} {env : Sl} (g : Grow B H B' H') (hk : ∀ a o, H a = some o → H' a = some o) : ∀ {vs : List V} {ds : List R} {xs : List PyData}, RRA K H₀ B H σ env vs ds → (∀ q, fzOf vs ds q → ¬ B' q) → datas ds = some xs → RpA K B' H' vs xs
  | [], [], xs, _, _, c => by cases c; exact .nil
  | v :: vs, d :: ds, xs, r, nb, c => by
    unfold datas at c
    split at c
    · cases c
    rename_i x hx
    split at c
    · cases c
    rename_i ys hy
    cases c
    refine .cons ?_ (RRA.data g hk r.tail (fun q ⟨k, c, h1, h2⟩ => nb q ⟨k + 1, c, by simpa using h1, by simpa using h2⟩) hy)
    have h := r.each 0 v d rfl rfl
    cases d with
    | pd y => cases hx; exact Rp.grow g h
    | nt y => cases hx; obtain ⟨a, rfl, h⟩ := h; exact h.rp.grow g
    | var i => cases hx
    | tmp t =>
      cases t with
      | dk _ => cases hx
      | dn _ => cases hx
      | ls zs =>
        cases hx
        obtain ⟨a, rfl, _, _, ⟨ws, h1, h2⟩, _⟩ := h
        exact .lst (hk _ _ h1) (nb a ⟨0, _, rfl, rfl⟩) (h2.grow g)
  | [], _ :: _, _, r, _, _ => by have := r.len; simp at this
  | _ :: _, [], _, r, _, _ => by have := r.len; simp at this
theorem datas_len : ∀ {ds : List R} {xs : List PyData}, datas ds = some xs → xs.length = ds.length
  | [], xs, c => by cases c; rfl
  | d :: ds, xs, c => by
    unfold datas at c
    split at c
    · cases c
    split at c
    · cases c
    rename_i h
    cases c
    simp [datas_len h]
def kTup : KK := fun ds env => match datas ds with
  | none => none
  | some xs => if xs.length ≤ 1000 then some (.pd (.tuple xs), env) else none
def kLst : KK := fun ds env => match datas ds with
  | none => none
  | some xs => if xs.length ≤ 1000 then some (.tmp (.ls xs), env) else none
theorem keep_upd {H : Hp} {p : Addr} {o : HO} (np : H p = none) : ∀ a o', H a = some o' → upd H p o a = some o' := fun a o' h => by
  rw [upd_ne (fun e => by rw [e, np] at h; cases h)]; exact h
theorem con_tup {K : PySem.W.Frag} : Con K kTup (fun xs H1 Q => xs.length ≤ sizeLine ∧ ∀ p, H1 p = none → Q (.ref p) (upd H1 p (.tup xs))) := by
  intro σ H B env B1 H1 env1 vs ds d e2 Q en a rr hk q
  unfold kTup at hk
  split at hk
  · cases hk
  rename_i xs hx
  split at hk
  · rename_i hl
    cases hk
    refine ⟨by rw [rr.len, ← datas_len hx]; exact Nat.le_of_lt (small1000 hl), fun p np => ?_⟩
    obtain ⟨g, a2⟩ := a.alloc en np (.tup vs) False (fzOf vs ds) rr.fz
    exact q _ _ _ a2 (.tup (.inl (.inl upd_same)) (rr.data g (keep_upd np) (fun q f h => h.elim (fun h => h.2 f) (fun h => h.1)) hx))
  · cases hk
theorem con_lst {K : PySem.W.Frag} : Con K kLst (fun xs H1 Q => xs.length ≤ sizeLine ∧ ∀ p, H1 p = none → Q (.ref p) (upd H1 p (.lst xs))) := by
  intro σ H B env B1 H1 env1 vs ds d e2 Q en a rr hk q
  unfold kLst at hk
  split at hk
  · cases hk
  rename_i xs hx
  split at hk
  · rename_i hl
    cases hk
    refine ⟨by rw [rr.len, ← datas_len hx]; exact Nat.le_of_lt (small1000 hl), fun p np => ?_⟩
    obtain ⟨g, a2⟩ := a.alloc en np (.lst vs) True (fzOf vs ds) rr.fz
    have nfp : ∀ q, fzOf vs ds q → q ≠ p := by
      rintro q ⟨k, c, h1, h2⟩ e
      obtain ⟨b, e2, _, h4, _⟩ := rr.each k _ _ h2 h1
      cases e2
      obtain ⟨o, ho⟩ := a.en.dom _ h4
      rw [e, np] at ho; cases ho
    refine q _ _ _ a2 ⟨p, rfl, a.st.liv _ np, .inr ⟨trivial, rfl⟩, ⟨vs, upd_same, rr.data g (keep_upd np) (fun q f h => h.elim (fun h => h.2 f) (fun h => nfp q f h.2)) hx⟩, fun i m d h1 h2 => ?_⟩
    obtain ⟨b, h3, h4, _⟩ := a.en.mu i m d h1
    rw [h3] at h2
    cases h2
    obtain ⟨o', ho⟩ := a.en.dom _ h4
    rw [np] at ho; cases ho
  · cases hk
section
variable {X : Cx} {e : Expr} {es : List Expr} {pos : Pos} {f : EA} {fa fb : EE}
theorem e_tup {k : Nat} (h : PA X es (tA X.K f)) : PE X (.Tuple es k pos) (tE X.K (eThen f kTup)) := PE.imp (pe_tup h) fun _ _ _ t => rd_then con_tup t
theorem e_lst (h : PA X es (tA X.K f)) : PE X (.List es pos) (tE X.K (eThen f kLst)) := PE.imp (pe_lst h) fun _ _ _ t => rd_then con_lst t
theorem e_op {a b : Expr} {op : Operator} {r : R2} {k : KK} (ho : OpR X (binaryOp op) r) (c : Con X.K k (l2 r)) (ha : PE X a (tE X.K fa)) (hb : PE X b (tE X.K fb)) : PE X (.BinOp a op b pos) (tE X.K (eThen (eTwo fa fb) k)) :=
  PE.imp (pe_op ho ha hb) fun _ _ _ t => rd_two c t
theorem e_un {a : Expr} {op : UnaryOp} {r : V → Hp → VK → Prop} {k : KK} (ho : UnR X (unaryOp op) r) (c : Con X.K k (l1 r)) (ha : PE X a (tE X.K fa)) : PE X (.UnaryOp op a pos) (tE X.K (eThen (eOne fa) k)) :=
  PE.imp (pe_un ho ha) fun _ _ _ t => rd_one c t
theorem e_cmp {a b : Expr} {op : CmpOp} {r : R2} {k : KK} (ho : OpR X (compareOp op) r) (c : Con X.K k (l2 r)) (ha : PE X a (tE X.K fa)) (hb : PE X b (tE X.K fb)) (hm : behindInMarks op b = false := by rfl) : PE X (.Compare a [op] [b] pos) (tE X.K (eThen (eTwo fa fb) k)) :=
  PE.imp (pe_cmpR ho ha hb hm) fun _ _ _ t => rd_two c t
theorem e_ix {a b : Expr} {r : R2} {k : KK} (ho : IxR X r) (c : Con X.K k (l2 r)) (ha : PE X a (tE X.K fa)) (hb : PE X b (tE X.K fb)) (hs : PlainIx b := by exact fun _ _ => rfl) : PE X (.Subscript a b pos) (tE X.K (eThen (eTwo fa fb) k)) :=
  PE.imp (pe_ix ho ha hb hs) fun _ _ _ t => rd_two c t
theorem e_callB {id : String} {x : Str} {p : Pos} {r : List V → Hp → VK → Prop} {k : KK} (hc : CallR X (.builtin id) r) (c : Con X.K k r) (hg : Gl X x) (hm : X.mg x = none) (hv : bootBuiltins x = some (.builtin id)) (ha : PA X (e :: es) (tA X.K f)) (hn : x ≠ "__name__" := by decide) (hdb : (x == ("__debug__" : Str)) = false := by decide) (he : starEach (e :: es) X.env = (false, eval e X.env) :: starEach es X.env := by rfl) (hpl : (backTo pos (starEach es X.env)).any (·.1) = false := by rfl) :
    PE X (.Call (.Name x p) (e :: es) [] pos) (tE X.K (eThen f k)) :=
  PE.imp (pe_callB hc hg hm hv ha hn hdb he hpl) fun _ _ _ t => rd_then c t
theorem e_callTy {T : String} {x : Str} {p : Pos} {r : List V → Hp → VK → Prop} {k : KK} (hc : CallR X (.type T) r) (c : Con X.K k r) (hg : Gl X x) (hm : X.mg x = none) (hv : bootBuiltins x = some (.type T)) (ha : PA X (e :: es) (tA X.K f)) (hn : x ≠ "__name__" := by decide) (hdb : (x == ("__debug__" : Str)) = false := by decide) (he : starEach (e :: es) X.env = (false, eval e X.env) :: starEach es X.env := by rfl) (hpl : (backTo pos (starEach es X.env)).any (·.1) = false := by rfl) :
    PE X (.Call (.Name x p) (e :: es) [] pos) (tE X.K (eThen f k)) :=
  PE.imp (pe_callTy hc hg hm hv ha hn hdb he hpl) fun _ _ _ t => rd_then c t
end

/-! ### tests -/
abbrev EB := Sl → Option (Bool × Sl)
def tT (K : PySem.W.Frag) (f : EB) : TT := fun σ H Q => ∃ B env b env', EnvR K B H σ env ∧ f env = some (b, env') ∧ ∀ B' H', At K σ B H env B' H' env' → Q b H'
def bT (f : EE) : EB := fun env => match f env with
  | some (.pd (.bool b), e) => some (b, e)
  | _ => none
theorem rd_test {K : PySem.W.Frag} {f : EE} {σ : St} {H : Hp} {Q : Bool → Hp → Prop} (h : tT K (bT f) σ H Q) : tTest (tE K f) σ H Q := by
  obtain ⟨B, env, b, env', en, ev, q⟩ := h
  unfold bT at ev
  split at ev
  · rename_i b' e' h1
    cases ev
    refine ⟨B, env, _, env', en, h1, fun B' H' v a r => ?_⟩
    have r : Rp K B' H' v (.bool b) := r
    cases r
    exact ⟨_, rfl, q _ _ a⟩
  · cases ev
def bAnd (f g : EB) : EB := fun env => match f env with
  | none => none
  | some (b, e) => if b = true then g e else some (false, e)
def bOr (f g : EB) : EB := fun env => match f env with
  | none => none
  | some (b, e) => if b = true then some (true, e) else g e
def bNot (f : EB) : EB := fun env => match f env with
  | none => none
  | some (b, e) => some (!b, e)
theorem tT.later {K : PySem.W.Frag} {f : EB} {σ : St} {H : Hp} {Q : Bool → Hp → Prop} {B B1 : Mset} {H1 : Hp} {env e1 env' : Sl} {b : Bool} (en : EnvR K B H σ env) (a1 : At K σ B H env B1 H1 e1) (ev : f e1 = some (b, env')) (q : ∀ B' H', At K σ B H env B' H' env' → Q b H') : tT K f σ H1 Q :=
  ⟨B1, e1, b, env', a1.en, ev, fun B2 H2 a2 => q B2 H2 (a1.trans en a2)⟩
theorem rd_and {K : PySem.W.Frag} {f g : EB} {σ : St} {H : Hp} {Q : Bool → Hp → Prop} (h : tT K (bAnd f g) σ H Q) : tAnd (tT K f) (tT K g) σ H Q := by
  obtain ⟨B, env, b, env', en, ev, q⟩ := h
  unfold bAnd at ev
  split at ev
  · cases ev
  rename_i b1 e1 h1
  refine ⟨B, env, b1, e1, en, h1, fun B1 H1 a1 => ?_⟩
  cases b1 with
  | true => simp at ev ⊢; exact tT.later en a1 ev q
  | false => simp at ev ⊢; obtain ⟨rfl, rfl⟩ := ev; exact q _ _ a1
theorem rd_or {K : PySem.W.Frag} {f g : EB} {σ : St} {H : Hp} {Q : Bool → Hp → Prop} (h : tT K (bOr f g) σ H Q) : tOr (tT K f) (tT K g) σ H Q := by
  obtain ⟨B, env, b, env', en, ev, q⟩ := h
  unfold bOr at ev
  split at ev
  · cases ev
  rename_i b1 e1 h1
  refine ⟨B, env, b1, e1, en, h1, fun B1 H1 a1 => ?_⟩
  cases b1 with
  | false => simp at ev ⊢; exact tT.later en a1 ev q
  | true => simp at ev ⊢; obtain ⟨rfl, rfl⟩ := ev; exact q _ _ a1
theorem rd_not {K : PySem.W.Frag} {f : EB} {σ : St} {H : Hp} {Q : Bool → Hp → Prop} (h : tT K (bNot f) σ H Q) : tNot (tT K f) σ H Q := by
  obtain ⟨B, env, b, env', en, ev, q⟩ := h
  unfold bNot at ev
  split at ev
  · cases ev
  rename_i b1 e1 h1
  cases ev
  exact ⟨B, env, b1, env', en, h1, fun B1 H1 a1 => q _ _ a1⟩
/-- values: and, or, not of bools, a if c else b -/
def eB (f : EB) : EE := fun env => match f env with
  | none => none
  | some (b, e) => some (.pd (.bool b), e)
theorem rd_eT {K : PySem.W.Frag} {f : EE} {σ : St} {H : Hp} {Q : VK} (h : tE K (eB (bT f)) σ H Q) : tE K f σ H Q := by
  obtain ⟨B, env, d, env', en, ev, q⟩ := h
  unfold eB bT at ev
  split at ev
  · cases ev
  rename_i b e1 h1
  cases ev
  split at h1
  · rename_i h2
    cases h1
    exact ⟨B, env, _, _, en, h2, q⟩
  · cases h1
theorem rd_andV {K : PySem.W.Frag} {f g : EB} {σ : St} {H : Hp} {Q : VK} (h : tE K (eB (bAnd f g)) σ H Q) : tAndV (tE K (eB f)) (tE K (eB g)) σ H Q := by
  obtain ⟨B, env, d, env', en, ev, q⟩ := h
  unfold eB bAnd at ev
  split at ev
  · cases ev
  rename_i b0 e0 h0
  cases ev
  split at h0
  · cases h0
  rename_i b1 e1 h1
  refine ⟨B, env, .pd (.bool b1), e1, en, by unfold eB; rw [h1], fun B1 H1 v a1 r1 => ?_⟩
  have r1 : Rp K B1 H1 v (.bool b1) := r1
  cases r1
  refine ⟨b1, rfl, ?_⟩
  cases b1 with
  | true => simp at h0 ⊢; exact ⟨B1, e1, _, _, a1.en, by unfold eB; rw [h0], fun B2 H2 v a2 r2 => q B2 H2 v (a1.trans en a2) (RR.from (H₁ := H1) r2 a1.st.liv)⟩
  | false => simp at h0 ⊢; obtain ⟨rfl, rfl⟩ := h0; exact q _ _ _ a1 (.bl _)
theorem rd_orV {K : PySem.W.Frag} {f g : EB} {σ : St} {H : Hp} {Q : VK} (h : tE K (eB (bOr f g)) σ H Q) : tOrV (tE K (eB f)) (tE K (eB g)) σ H Q := by
  obtain ⟨B, env, d, env', en, ev, q⟩ := h
  unfold eB bOr at ev
  split at ev
  · cases ev
  rename_i b0 e0 h0
  cases ev
  split at h0
  · cases h0
  rename_i b1 e1 h1
  refine ⟨B, env, .pd (.bool b1), e1, en, by unfold eB; rw [h1], fun B1 H1 v a1 r1 => ?_⟩
  have r1 : Rp K B1 H1 v (.bool b1) := r1
  cases r1
  refine ⟨b1, rfl, ?_⟩
  cases b1 with
  | false => simp at h0 ⊢; exact ⟨B1, e1, _, _, a1.en, by unfold eB; rw [h0], fun B2 H2 v a2 r2 => q B2 H2 v (a1.trans en a2) (RR.from (H₁ := H1) r2 a1.st.liv)⟩
  | true => simp at h0 ⊢; obtain ⟨rfl, rfl⟩ := h0; exact q _ _ _ a1 (.bl _)
theorem rd_notV {K : PySem.W.Frag} {f : EB} {σ : St} {H : Hp} {Q : VK} (h : tE K (eB (bNot f)) σ H Q) : tNotV (tE K (eB f)) σ H Q := by
  obtain ⟨B, env, d, env', en, ev, q⟩ := h
  unfold eB bNot at ev
  split at ev
  · cases ev
  rename_i b0 e0 h0
  cases ev
  split at h0
  · cases h0
  rename_i b1 e1 h1
  cases h0
  refine ⟨B, env, .pd (.bool b1), _, en, by unfold eB; rw [h1], fun B1 H1 v a1 r1 => ?_⟩
  have r1 : Rp K B1 H1 v (.bool b1) := r1
  cases r1
  exact ⟨b1, rfl, q _ _ _ a1 (.bl _)⟩
def eIf (c : EB) (f g : EE) : EE := fun env => match c env with
  | none => none
  | some (b, e) => if b = true then f e else g e
theorem tE.later {K : PySem.W.Frag} {f : EE} {σ : St} {H : Hp} {Q : VK} {B B1 : Mset} {H1 : Hp} {env e1 env' : Sl} {d : R} (en : EnvR K B H σ env) (a1 : At K σ B H env B1 H1 e1) (ev : f e1 = some (d, env')) (q : ∀ B' H' v, At K σ B H env B' H' env' → RR K H B' H' σ env' v d → Q v H') : tE K f σ H1 Q :=
  ⟨B1, e1, d, env', a1.en, ev, fun B2 H2 v a2 r2 => q B2 H2 v (a1.trans en a2) (r2.from a1.st.liv)⟩
theorem rd_if {K : PySem.W.Frag} {c : EB} {f g : EE} {σ : St} {H : Hp} {Q : VK} (h : tE K (eIf c f g) σ H Q) : tIf (tT K c) (tE K f) (tE K g) σ H Q := by
  obtain ⟨B, env, d, env', en, ev, q⟩ := h
  unfold eIf at ev
  split at ev
  · cases ev
  rename_i b1 e1 h1
  refine ⟨B, env, b1, e1, en, h1, fun B1 H1 a1 => ?_⟩
  cases b1 with
  | true => simp at ev ⊢; exact tE.later en a1 ev q
  | false => simp at ev ⊢; exact tE.later en a1 ev q
section
variable {X : Cx} {a b c : Expr} {rest : List Expr} {pos : Pos} {f g : EB} {fa fb fc : EE}
theorem b_of {t : TE} (h : PT X a (tTest t)) (i : ∀ σ H Q, tE X.K fa σ H Q → t σ H Q) : PT X a (tT X.K (bT fa)) := PT.imp h fun σ H Q q => i _ _ _ (rd_test q)
theorem b_cmp {op : CmpOp} {r : R2} {k : KK} (ho : OpR X (compareOp op) r) (cn : Con X.K k (l2 r)) (ha : PE X a (tE X.K fa)) (hb : PE X b (tE X.K fb)) (hm : behindInMarks op b = false := by rfl) : PT X (.Compare a [op] [b] pos) (tT X.K (bT (eThen (eTwo fa fb) k))) :=
  b_of (pt_cmpR ho ha hb hm) fun _ _ _ t => rd_two cn t
theorem b_and1 (ha : PT X a (tT X.K f)) : PW X (.BoolOp .And [a] pos) (tT X.K f) := pw_and1 ha
theorem b_or1 (ha : PT X a (tT X.K f)) : PW X (.BoolOp .Or [a] pos) (tT X.K f) := pw_or1 ha
theorem PW.imp {e : Expr} {t t' : TT} (h : PW X e t) (i : ∀ σ H Q, t' σ H Q → t σ H Q) : PW X e t' := ⟨fun w pins s σ H Q I q => h.run w pins s σ H Q I (i σ H Q q)⟩
theorem b_and (ha : PT X a (tT X.K f)) (hb : PW X (.BoolOp .And (b :: rest) pos) (tT X.K g)) : PW X (.BoolOp .And (a :: b :: rest) pos) (tT X.K (bAnd f g)) := PW.imp (pw_and ha hb) fun _ _ _ t => rd_and t
theorem b_or (ha : PT X a (tT X.K f)) (hb : PW X (.BoolOp .Or (b :: rest) pos) (tT X.K g)) : PW X (.BoolOp .Or (a :: b :: rest) pos) (tT X.K (bOr f g)) := PW.imp (pw_or ha hb) fun _ _ _ t => rd_or t
theorem b_not (ha : PT X a (tT X.K f)) : PT X (.UnaryOp .Not a pos) (tT X.K (bNot f)) := PT.imp (pt_not ha) fun _ _ _ t => rd_not t
theorem e_and1 {op} (ha : PE X a (tE X.K fa)) : PE X (.BoolOp op [a] pos) (tE X.K (eB (bT fa))) := PE.imp (pe_one ha) fun _ _ _ t => rd_eT t
theorem e_bool (ha : PE X a (tE X.K fa)) : PE X a (tE X.K (eB (bT fa))) := PE.imp ha fun _ _ _ t => rd_eT t
theorem e_and (ha : PE X a (tE X.K (eB f))) (hb : PE X (.BoolOp .And (b :: rest) pos) (tE X.K (eB g))) : PE X (.BoolOp .And (a :: b :: rest) pos) (tE X.K (eB (bAnd f g))) := PE.imp (pe_and ha hb) fun _ _ _ t => rd_andV t
theorem e_or (ha : PE X a (tE X.K (eB f))) (hb : PE X (.BoolOp .Or (b :: rest) pos) (tE X.K (eB g))) : PE X (.BoolOp .Or (a :: b :: rest) pos) (tE X.K (eB (bOr f g))) := PE.imp (pe_or ha hb) fun _ _ _ t => rd_orV t
theorem e_not (ha : PE X a (tE X.K (eB f))) : PE X (.UnaryOp .Not a pos) (tE X.K (eB (bNot f))) := PE.imp (pe_not ha) fun _ _ _ t => rd_notV t
theorem e_if (hc : PT X c (tT X.K f)) (ha : PE X a (tE X.K fa)) (hb : PE X b (tE X.K fb)) : PE X (.IfExp c a b pos) (tE X.K (eIf f fa fb)) := PE.imp (pe_ifExp hc ha hb) fun _ _ _ t => rd_if t
end
end T3

end
section
set_option linter.all false
set_option autoImplicit false
set_option Elab.async false
namespace T3
open PySem L2

/-! ### statements -/
inductive Fl where | nx | bk | ct | rt (d : R)
abbrev SS := Sl → Option (Fl × Sl)
def Bor (σ : St) (env : Sl) (σ' : St) (env' : Sl) : Prop := ∀ (i : Nat) m c, env[i]? = some (some (S.mu m c)) → m ≠ .own → σ'[i]? = σ[i]? ∧ ∃ c', env'[i]? = some (some (S.mu m c'))
structure AtS (K : PySem.W.Frag) (σ : St) (B : Mset) (H : Hp) (env : Sl) (σ' : St) (B' : Mset) (H' : Hp) (env' : Sl) : Prop where
  st : Stp (Wof σ env) B H (Wof σ' env') B' H'
  en : EnvR K B' H' σ' env'
  bo : Bor σ env σ' env'
theorem Bor.refl {σ : St} {env : Sl} : Bor σ env σ env := fun i m c h _ => ⟨rfl, c, h⟩
theorem Bor.trans {σ σ1 σ2 : St} {env env1 env2 : Sl} (a : Bor σ env σ1 env1) (b : Bor σ1 env1 σ2 env2) : Bor σ env σ2 env2 := fun i m c h hm => by
  obtain ⟨h1, c1, h2⟩ := a i m c h hm
  obtain ⟨h3, h4⟩ := b i m c1 h2 hm
  exact ⟨h3.trans h1, h4⟩
theorem AtS.refl {K : PySem.W.Frag} {σ : St} {B : Mset} {H : Hp} {env : Sl} (e : EnvR K B H σ env) : AtS K σ B H env σ B H env := ⟨.refl, e, .refl⟩
theorem AtS.trans {K : PySem.W.Frag} {σ σ1 σ2 : St} {B B1 B2 : Mset} {H H1 H2 : Hp} {env env1 env2 : Sl} (e : EnvR K B H σ env) (a : AtS K σ B H env σ1 B1 H1 env1) (b : AtS K σ1 B1 H1 env1 σ2 B2 H2 env2) : AtS K σ B H env σ2 B2 H2 env2 :=
  ⟨a.st.trans b.st e.wb e.dom, b.en, a.bo.trans b.bo⟩
/-- what is wanted behind a statement -/
def Fin (K : PySem.W.Frag) (D : Ends) (H : Hp) (fl : Fl) (B' : Mset) (σ' : St) (H' : Hp) (env' : Sl) : Prop := match fl with
  | .nx => D.nx σ' H'
  | .bk => D.bk σ' H'
  | .ct => D.ct σ' H'
  | .rt d => ∀ v, RR K H B' H' σ' env' v d → D.rt v H'
def tS (K : PySem.W.Frag) (f : SS) : TS := fun D σ H => ∃ B env fl env', EnvR K B H σ env ∧ f env = some (fl, env') ∧ ∀ B' σ' H', AtS K σ B H env σ' B' H' env' → Fin K D H fl B' σ' H' env'
def sPass : SS := fun env => some (.nx, env)
def sSeq (f g : SS) : SS := fun env => match f env with
  | none => none
  | some (.nx, e1) => g e1
  | some (fl, e1) => some (fl, e1)
theorem tS.later {K : PySem.W.Frag} {f : SS} {D : Ends} {σ σ1 : St} {H H1 : Hp} {B B1 : Mset} {env e1 env' : Sl} {fl : Fl} (en : EnvR K B H σ env) (a1 : AtS K σ B H env σ1 B1 H1 e1) (ev : f e1 = some (fl, env')) (q : ∀ B' σ' H', AtS K σ B H env σ' B' H' env' → Fin K D H fl B' σ' H' env') : tS K f D σ1 H1 := by
  refine ⟨B1, e1, fl, env', a1.en, ev, fun B2 σ2 H2 a2 => ?_⟩
  have h := q B2 σ2 H2 (a1.trans en a2)
  cases fl with
  | nx => exact h
  | bk => exact h
  | ct => exact h
  | rt d => exact fun v r => h v (r.from a1.st.liv)
theorem rd_seq {K : PySem.W.Frag} {f g : SS} {D : Ends} {σ : St} {H : Hp} (h : tS K (sSeq f g) D σ H) : tSeq (tS K f) (tS K g) D σ H := by
  obtain ⟨B, env, fl, env', en, ev, q⟩ := h
  unfold sSeq at ev
  split at ev
  · cases ev
  · rename_i e1 h1
    exact ⟨B, env, .nx, e1, en, h1, fun B1 σ1 H1 a1 => tS.later en a1 ev q⟩
  · rename_i fl1 e1 hn h1
    cases ev
    refine ⟨B, env, fl, env', en, h1, fun B1 σ1 H1 a1 => ?_⟩
    have h := q B1 σ1 H1 a1
    cases fl with
    | nx => exact (hn rfl).elim
    | bk => exact h
    | ct => exact h
    | rt d => exact h
theorem rd_pass {K : PySem.W.Frag} {D : Ends} {σ : St} {H : Hp} (h : tS K sPass D σ H) : tNext D σ H := by
  obtain ⟨B, env, fl, env', en, ev, q⟩ := h
  cases ev
  exact q B σ H (.refl en)
/-- expressions' steps as statements' -/
theorem At.s {K : PySem.W.Frag} {σ : St} {B B1 : Mset} {H H1 : Hp} {env env1 : Sl} (a : At K σ B H env B1 H1 env1) : AtS K σ B H env σ B1 H1 env1 :=
  ⟨a.st, a.en, fun i m c h _ => ⟨rfl, a.ks i m c h⟩⟩
def sIf (c : EB) (f g : SS) : SS := fun env => match c env with
  | none => none
  | some (b, e) => if b = true then f e else g e
theorem rd_ifS {K : PySem.W.Frag} {c : EB} {f g : SS} {D : Ends} {σ : St} {H : Hp} (h : tS K (sIf c f g) D σ H) : tIfS (tT K c) (tS K f) (tS K g) D σ H := by
  obtain ⟨B, env, fl, env', en, ev, q⟩ := h
  unfold sIf at ev
  split at ev
  · cases ev
  rename_i b1 e1 h1
  refine ⟨B, env, b1, e1, en, h1, fun B1 H1 a1 => ?_⟩
  cases b1 with
  | true => simp at ev ⊢; exact tS.later en a1.s ev q
  | false => simp at ev ⊢; exact tS.later en a1.s ev q
def sRet (f : EE) : SS := fun env => match f env with
  | none => none
  | some (d, e) => some (.rt d, e)
theorem rd_ret {K : PySem.W.Frag} {f : EE} {D : Ends} {σ : St} {H : Hp} (h : tS K (sRet f) D σ H) : tRet (tE K f) D σ H := by
  obtain ⟨B, env, fl, env', en, ev, q⟩ := h
  unfold sRet at ev
  split at ev
  · cases ev
  rename_i d e1 h1
  cases ev
  exact ⟨B, env, d, _, en, h1, fun B1 H1 v a1 r1 => q B1 σ H1 a1.s v r1⟩
def sRetN : SS := fun env => some (.rt (.pd .none), env)
theorem rd_retN {K : PySem.W.Frag} {D : Ends} {σ : St} {H : Hp} (h : tS K sRetN D σ H) : tRetN D σ H := by
  obtain ⟨B, env, fl, env', en, ev, q⟩ := h
  cases ev
  exact q B σ H (.refl en) .non .non
def sExpr (f : EE) : SS := fun env => match f env with
  | none => none
  | some (_, e) => some (.nx, e)
theorem rd_expr {K : PySem.W.Frag} {f : EE} {D : Ends} {σ : St} {H : Hp} (h : tS K (sExpr f) D σ H) : tDrop (tE K f) D σ H := by
  obtain ⟨B, env, fl, env', en, ev, q⟩ := h
  unfold sExpr at ev
  split at ev
  · cases ev
  rename_i d e1 h1
  cases ev
  exact ⟨B, env, d, _, en, h1, fun B1 H1 v a1 r1 => q B1 σ H1 a1.s⟩
def sBrk : SS := fun env => some (.bk, env)
def sCnt : SS := fun env => some (.ct, env)
theorem rd_brk {K : PySem.W.Frag} {D : Ends} {σ : St} {H : Hp} (h : tS K sBrk D σ H) : tBreak D σ H := by
  obtain ⟨B, env, fl, env', en, ev, q⟩ := h
  cases ev
  exact q B σ H (.refl en)
theorem rd_cnt {K : PySem.W.Frag} {D : Ends} {σ : St} {H : Hp} (h : tS K sCnt D σ H) : tCont D σ H := by
  obtain ⟨B, env, fl, env', en, ev, q⟩ := h
  cases ev
  exact q B σ H (.refl en)
/-- what is never run -/
def sNever : SS := fun _ => none
theorem rd_never {K : PySem.W.Frag} {D : Ends} {σ : St} {H : Hp} (h : tS K sNever D σ H) : tNever D σ H := by
  obtain ⟨B, env, fl, env', en, ev, q⟩ := h
  cases ev

/-! ### stores -/
def free (env : Sl) (i : Nat) : Bool := match env[i]? with
  | some (some (.mu .own _)) => true
  | some (some (.pd _)) => true
  | some (some (.nt _)) => true
  | some none => true
  | _ => false
def setR (i : Nat) (d : R) (env : Sl) : Option Sl := if free env i = true then match d with
    | .pd x => some (env.set i (some (.pd x)))
    | .nt x => some (env.set i (some (.nt x)))
    | .tmp c => some (env.set i (some (.mu .own c)))
    | .var _ => none
  else none
theorem free_ne {env : Sl} {i : Nat} (h : free env i = true) : i < env.length ∧ ∀ m c, env[i]? = some (some (S.mu m c)) → m = .own := by
  unfold free at h
  split at h
  · rename_i h1; refine ⟨(List.getElem?_eq_some_iff.mp h1).1, fun m c e => ?_⟩; rw [h1] at e; cases e; rfl
  · rename_i h1; refine ⟨(List.getElem?_eq_some_iff.mp h1).1, fun m c e => ?_⟩; rw [h1] at e; cases e
  · rename_i h1; refine ⟨(List.getElem?_eq_some_iff.mp h1).1, fun m c e => ?_⟩; rw [h1] at e; cases e
  · rename_i h1; refine ⟨(List.getElem?_eq_some_iff.mp h1).1, fun m c e => ?_⟩; rw [h1] at e; cases e
  · cases h
theorem get_set {α : Type} {l : List α} {i j : Nat} {x y : α} (h : (l.set i x)[j]? = some y) : (i = j ∧ y = x) ∨ (i ≠ j ∧ l[j]? = some y) := by
  by_cases e : i = j
  · subst e
    by_cases hl : i < l.length
    · rw [List.getElem?_set_self hl] at h; cases h; exact .inl ⟨rfl, rfl⟩
    · rw [List.getElem?_eq_none (by simpa using hl)] at h; cases h
  · rw [List.getElem?_set_ne e] at h; exact .inr ⟨e, h⟩
/-- a value into a slot -/
theorem AtS.set {K : PySem.W.Frag} {σ₀ σ : St} {B B1 : Mset} {H H1 : Hp} {env e1 e2 : Sl} {i : Nat} {v : V} {d : R} (en : EnvR K B H σ₀ env) (a : AtS K σ₀ B H env σ B1 H1 e1) (r : RA K H B1 H1 σ e1 v d) (hs : setR i d e1 = some e2) : AtS K σ₀ B H env (σ.set i (some v)) B1 H1 e2 := by
  unfold setR at hs
  split at hs
  · rename_i hf
    obtain ⟨hi, hm⟩ := free_ne hf
    have hiσ : i < σ.length := by rw [← a.en.len]; exact hi
    have bor : ∀ x, Bor σ₀ env (σ.set i (some v)) (e1.set i x) := fun x j m c h hn => by
      obtain ⟨h1, c', h2⟩ := a.bo j m c h hn
      have hj : i ≠ j := fun z => by subst z; exact hn (hm _ _ h2)
      exact ⟨by rw [List.getElem?_set_ne hj]; exact h1, c', by rw [List.getElem?_set_ne hj]; exact h2⟩
    cases d with
    | var _ => cases hs
    | pd x =>
      cases hs
      have wsub : ∀ q, Wof (σ.set i (some v)) (e1.set i (some (.pd x))) q → Wof σ e1 q := by
        rintro q ⟨j, m, c, h1, h2, h3⟩
        rcases get_set h1 with ⟨e, e'⟩ | ⟨e, h1⟩
        · cases e'
        · rw [List.getElem?_set_ne e] at h3; exact ⟨j, m, c, h1, h2, h3⟩
      refine ⟨⟨a.st.keep, a.st.new, a.st.old, fun q w => a.st.sub q (wsub q w), a.st.liv⟩, ⟨by simp [a.en.len], fun j y h => ?_, fun j y h => ?_, fun j m c h => ?_, fun j k m n c c' q h1 h2 h3 h4 => ?_, a.en.dom⟩, bor _⟩
      · rcases get_set h with ⟨e, e'⟩ | ⟨e, h⟩
        · cases e'; subst e; exact ⟨v, by rw [List.getElem?_set_self hiσ], r⟩
        · obtain ⟨w, h1, h2⟩ := a.en.pd j y h
          exact ⟨w, by rw [List.getElem?_set_ne e]; exact h1, h2⟩
      · rcases get_set h with ⟨e, e'⟩ | ⟨e, h⟩
        · cases e'
        · obtain ⟨w, h1, h2⟩ := a.en.nt j y h
          exact ⟨w, by rw [List.getElem?_set_ne e]; exact h1, h2⟩
      · rcases get_set h with ⟨e, e'⟩ | ⟨e, h⟩
        · cases e'
        · obtain ⟨w, h1, h2⟩ := a.en.mu j m c h
          exact ⟨w, by rw [List.getElem?_set_ne e]; exact h1, h2⟩
      · rcases get_set h1 with ⟨e, e'⟩ | ⟨e, h1⟩
        · cases e'
        rcases get_set h2 with ⟨f, e'⟩ | ⟨f, h2⟩
        · cases e'
        rw [List.getElem?_set_ne e] at h3
        rw [List.getElem?_set_ne f] at h4
        exact a.en.inj j k m n c c' q h1 h2 h3 h4
    | nt x =>
      cases hs
      obtain ⟨p, rfl, r⟩ := r
      have wsub : ∀ q, Wof (σ.set i (some (.ref p))) (e1.set i (some (.nt x))) q → Wof σ e1 q := by
        rintro q ⟨j, m, c, h1, h2, h3⟩
        rcases get_set h1 with ⟨e, e'⟩ | ⟨e, h1⟩
        · cases e'
        · rw [List.getElem?_set_ne e] at h3; exact ⟨j, m, c, h1, h2, h3⟩
      refine ⟨⟨a.st.keep, a.st.new, a.st.old, fun q w => a.st.sub q (wsub q w), a.st.liv⟩, ⟨by simp [a.en.len], fun j y h => ?_, fun j y h => ?_, fun j m c h => ?_, fun j k m n c c' q h1 h2 h3 h4 => ?_, a.en.dom⟩, bor _⟩
      · rcases get_set h with ⟨e, e'⟩ | ⟨e, h⟩
        · cases e'
        · obtain ⟨w, h1, h2⟩ := a.en.pd j y h
          exact ⟨w, by rw [List.getElem?_set_ne e]; exact h1, h2⟩
      · rcases get_set h with ⟨e, e'⟩ | ⟨e, h⟩
        · cases e'; subst e; exact ⟨p, by rw [List.getElem?_set_self hiσ], r⟩
        · obtain ⟨w, h1, h2⟩ := a.en.nt j y h
          exact ⟨w, by rw [List.getElem?_set_ne e]; exact h1, h2⟩
      · rcases get_set h with ⟨e, e'⟩ | ⟨e, h⟩
        · cases e'
        · obtain ⟨w, h1, h2⟩ := a.en.mu j m c h
          exact ⟨w, by rw [List.getElem?_set_ne e]; exact h1, h2⟩
      · rcases get_set h1 with ⟨e, e'⟩ | ⟨e, h1⟩
        · cases e'
        rcases get_set h2 with ⟨f, e'⟩ | ⟨f, h2⟩
        · cases e'
        rw [List.getElem?_set_ne e] at h3
        rw [List.getElem?_set_ne f] at h4
        exact a.en.inj j k m n c c' q h1 h2 h3 h4
    | tmp t =>
      cases hs
      obtain ⟨p, rfl, h0, hb, hc, hns⟩ := r
      refine ⟨⟨a.st.keep, a.st.new, a.st.old, fun q w => ?_, a.st.liv⟩, ⟨by simp [a.en.len], fun j y h => ?_, fun j y h => ?_, fun j m c h => ?_, fun j k m n c c' q h1 h2 h3 h4 => ?_, a.en.dom⟩, bor _⟩
      · obtain ⟨j, m, c, h1, h2, h3⟩ := w
        rcases get_set h1 with ⟨e, e'⟩ | ⟨e, h1⟩
        · subst e
          rw [List.getElem?_set_self hiσ] at h3
          cases h3
          exact .inr h0
        · rw [List.getElem?_set_ne e] at h3; exact a.st.sub q ⟨j, m, c, h1, h2, h3⟩
      · rcases get_set h with ⟨e, e'⟩ | ⟨e, h⟩
        · cases e'
        · obtain ⟨w, h1, h2⟩ := a.en.pd j y h
          exact ⟨w, by rw [List.getElem?_set_ne e]; exact h1, h2⟩
      · rcases get_set h with ⟨e, e'⟩ | ⟨e, h⟩
        · cases e'
        · obtain ⟨w, h1, h2⟩ := a.en.nt j y h
          exact ⟨w, by rw [List.getElem?_set_ne e]; exact h1, h2⟩
      · rcases get_set h with ⟨e, e'⟩ | ⟨e, h⟩
        · cases e'; subst e; exact ⟨p, by rw [List.getElem?_set_self hiσ], hb, hc⟩
        · obtain ⟨w, h1, h2⟩ := a.en.mu j m c h
          exact ⟨w, by rw [List.getElem?_set_ne e]; exact h1, h2⟩
      · rcases get_set h1 with ⟨e, e'⟩ | ⟨e, h1⟩
        · subst e
          rw [List.getElem?_set_self hiσ] at h3
          cases h3
          rcases get_set h2 with ⟨f, e''⟩ | ⟨f, h2⟩
          · exact f
          · rw [List.getElem?_set_ne f] at h4
            exact absurd h4 (hns _ _ _ h2)
        · rw [List.getElem?_set_ne e] at h3
          rcases get_set h2 with ⟨f, e''⟩ | ⟨f, h2⟩
          · subst f
            rw [List.getElem?_set_self hiσ] at h4
            cases h4
            exact absurd h3 (hns _ _ _ h1)
          · rw [List.getElem?_set_ne f] at h4
            exact a.en.inj j k m n c c' q h1 h2 h3 h4
  · cases hs
def sSet (i : Nat) (f : EE) : SS := fun env => match f env with
  | none => none
  | some (d, e) => match setR i d e with
    | none => none
    | some e2 => some (.nx, e2)
theorem rd_set {K : PySem.W.Frag} {i : Nat} {f : EE} {D : Ends} {σ : St} {H : Hp} (h : tS K (sSet i f) D σ H) : tAsg (tE K f) (gName i) D σ H := by
  obtain ⟨B, env, fl, env', en, ev, q⟩ := h
  unfold sSet at ev
  split at ev
  · cases ev
  rename_i d e1 h1
  split at ev
  · cases ev
  rename_i e2 h2
  cases ev
  exact ⟨B, env, d, _, en, h1, fun B1 H1 v a1 r1 => q B1 _ H1 (AtS.set en a1.s r1.ra h2)⟩
/-- targets of data -/
abbrev GG := PyData → Sl → Option Sl
def tG (K : PySem.W.Frag) (g : GG) : TG := fun v σ H Q => ∃ B env x env', EnvR K B H σ env ∧ Rp K B H v x ∧ g x env = some env' ∧ ∀ B' σ' H', AtS K σ B H env σ' B' H' env' → Q σ' H'
def gN (i : Nat) : GG := fun x env => setR i (.pd x) env
theorem rd_gN {K : PySem.W.Frag} {i : Nat} {v : V} {σ : St} {H : Hp} {Q : St → Hp → Prop} (h : tG K (gN i) v σ H Q) : gName i v σ H Q := by
  obtain ⟨B, env, x, env', en, r, ev, q⟩ := h
  exact q B _ H (AtS.set en (.refl en) (d := .pd x) r ev)
abbrev GGs := List PyData → Sl → Option Sl
def tGs (K : PySem.W.Frag) (g : GGs) : TGs := fun vs σ H Q => ∃ B env xs env', EnvR K B H σ env ∧ RpA K B H vs xs ∧ g xs env = some env' ∧ ∀ B' σ' H', AtS K σ B H env σ' B' H' env' → Q σ' H'
def gNl : GGs := fun xs env => match xs with
  | [] => some env
  | _ => none
def gCn (g : GG) (gs : GGs) : GGs := fun xs env => match xs with
  | [] => none
  | x :: xs => match g x env with
    | none => none
    | some e => gs xs e
theorem rd_gNl {K : PySem.W.Frag} {vs : List V} {σ : St} {H : Hp} {Q : St → Hp → Prop} (h : tGs K gNl vs σ H Q) : gNil vs σ H Q := by
  obtain ⟨B, env, x, env', en, r, ev, q⟩ := h
  unfold gNl at ev
  split at ev
  · cases ev; cases r; exact ⟨rfl, q B _ H (.refl en)⟩
  · cases ev
theorem rd_gCn {K : PySem.W.Frag} {g : GG} {gs : GGs} {vs : List V} {σ : St} {H : Hp} {Q : St → Hp → Prop} (h : tGs K (gCn g gs) vs σ H Q) : gCons (tG K g) (tGs K gs) vs σ H Q := by
  obtain ⟨B, env, xs, env', en, r, ev, q⟩ := h
  unfold gCn at ev
  split at ev
  · cases ev
  rename_i x xs
  split at ev
  · cases ev
  rename_i e1 h1
  cases r with
  | cons r1 r2 =>
    exact ⟨_, _, rfl, B, env, x, e1, en, r1, h1, fun B1 σ1 H1 a1 => ⟨B1, e1, xs, env', a1.en, r2.grow (a1.st.grow en.wb), ev, fun B2 σ2 H2 a2 => q B2 σ2 H2 (a1.trans en a2)⟩⟩
def gT (n : Nat) (gs : GGs) : GG := fun x env => match x with
  | .tuple xs => if xs.length = n then gs xs env else none
  | _ => none
theorem rd_gT {K : PySem.W.Frag} {n : Nat} {gs : GGs} {v : V} {σ : St} {H : Hp} {Q : St → Hp → Prop} (h : tG K (gT n gs) v σ H Q) : gTup K n (tGs K gs) v σ H Q := by
  obtain ⟨B, env, x, env', en, r, ev, q⟩ := h
  unfold gT at ev
  split at ev
  · split at ev
    · rename_i xs hl
      obtain ⟨a, vs, rfl, h1, h2⟩ := Cn.tuple (.rp r)
      exact ⟨a, vs, rfl, h1, by rw [h2.length]; exact hl, B, env, xs, env', en, h2, ev, q⟩
    · cases ev
  · cases ev
/-- a list's place -/
def putL (j : Nat) (i : Int) (x : PyData) (env : Sl) : Option Sl := match env[j]? with
  | some (some (.mu m (.ls xs))) => if m = .fro then none else match ixN xs.length i with
    | none => none
    | some k => some (env.set j (some (.mu m (.ls (xs.set k x)))))
  | _ => none
/-- the contents of a slot's container change -/
theorem AtS.write {K : PySem.W.Frag} {σ : St} {B : Mset} {H : Hp} {env : Sl} {j : Nat} {m : Md} {c c' : Ct} {a : Addr} {o : HO} (en : EnvR K B H σ env) (hj : env[j]? = some (some (.mu m c))) (hm : m ≠ .fro) (ha : σ[j]? = some (some (.ref a))) (ni : ∀ o', H a = some o' → ¬ Imm o')
    (hc : ∀ H', (∀ q o', q ≠ a → H q = some o' → H' q = some o') → H' a = some o → Grow B H B H' → CtR K B H' a c') : Grow B H B (upd H a o) ∧ At K σ B H env B (upd H a o) (env.set j (some (.mu m c'))) := by
  have hjl : j < env.length := (List.getElem?_eq_some_iff.mp hj).1
  obtain ⟨a', ha', hb, _⟩ := en.mu j m c hj
  rw [ha] at ha'
  cases ha'
  have w : Wof σ env a := ⟨j, m, c, hj, hm, ha⟩
  have g : Grow B H B (upd H a o) := ⟨fun q o' h n => by
    by_cases e : q = a
    · subst e
      rcases n with n | n
      · exact absurd hb n
      · exact absurd n (ni _ h)
    · rw [upd_ne e]; exact h, fun q h => .inl h⟩
  refine ⟨g, ⟨fun q o' h n => ?_, fun q h => .inl h, fun q h _ => h, fun q w' => ?_, fun q h => ?_⟩, ⟨by simp [en.len], fun i x h => ?_, fun i x h => ?_, fun i m' d h => ?_, fun i k m1 m2 c1 c2 q h1 h2 h3 h4 => ?_, fun q h => ?_⟩, fun i m1 c1 h => ?_, fun i m1 c1 h => ?_⟩
  · by_cases e : q = a
    · subst e
      rcases n with n | n
      · exact absurd w n
      · exact absurd n (ni _ h)
    · rw [upd_ne e]; exact h
  · obtain ⟨i, m1, c1, h1, h2, h3⟩ := w'
    rcases get_set h1 with ⟨e, e'⟩ | ⟨e, h1⟩
    · subst e; rw [ha] at h3; cases h3; exact .inl w
    · exact .inl ⟨i, m1, c1, h1, h2, h3⟩
  · by_cases e : q = a
    · subst e; rw [upd_same] at h; cases h
    · rw [upd_ne e] at h; exact h
  · rcases get_set h with ⟨e, e'⟩ | ⟨e, h⟩
    · cases e'
    · obtain ⟨v, h1, h2⟩ := en.pd i x h
      exact ⟨v, h1, h2.grow g⟩
  · rcases get_set h with ⟨e, e'⟩ | ⟨e, h⟩
    · cases e'
    · obtain ⟨v, h1, h2⟩ := en.nt i x h
      exact ⟨v, h1, h2.grow g⟩
  · rcases get_set h with ⟨e, e'⟩ | ⟨e, h⟩
    · cases e'
      subst e
      exact ⟨a, ha, hb, hc _ (fun q o' n h => by rw [upd_ne n]; exact h) upd_same g⟩
    · obtain ⟨b, h1, h2, h3⟩ := en.mu i m' d h
      refine ⟨b, h1, h2, ?_⟩
      have nb : b ≠ a := fun z => by subst z; exact e (en.inj j i m m' c d b hj h ha h1)
      cases d with
      | ls xs => obtain ⟨vs, h4, h5⟩ := h3; exact ⟨vs, by rw [upd_ne nb]; exact h4, h5.grow g⟩
      | dk xs => obtain ⟨vs, h4, h5⟩ := h3; exact ⟨vs, by rw [upd_ne nb]; exact h4, h5.grow g⟩
      | dn xs => obtain ⟨vs, h4, h5⟩ := h3; exact ⟨vs, by rw [upd_ne nb]; exact h4, h5.grow g⟩
  · have f : ∀ {i : Nat} {m1 : Md} {c1 : Ct}, (env.set j (some (S.mu m c')))[i]? = some (some (.mu m1 c1)) → ∃ m2 c2, env[i]? = some (some (.mu m2 c2)) := fun {i m1 c1} h => by
      rcases get_set h with ⟨e, e'⟩ | ⟨e, h⟩
      · subst e; exact ⟨m, c, hj⟩
      · exact ⟨_, _, h⟩
    obtain ⟨_, _, g1⟩ := f h1
    obtain ⟨_, _, g2⟩ := f h2
    exact en.inj i k _ _ _ _ q g1 g2 h3 h4
  · by_cases e : q = a
    · subst e; exact ⟨_, upd_same⟩
    · rw [upd_ne e]; exact en.dom q h
  · rcases get_set h with ⟨e, e'⟩ | ⟨e, h⟩
    · cases e'; subst e; exact ⟨c, hj⟩
    · exact ⟨_, h⟩
  · by_cases e : j = i
    · subst e; rw [hj] at h; cases h; exact ⟨c', by rw [List.getElem?_set_self hjl]⟩
    · exact ⟨c1, by rw [List.getElem?_set_ne e]; exact h⟩
end T3

end
section
set_option linter.all false
set_option autoImplicit false
set_option Elab.async false
namespace T3
open PySem L2

/-! ### what is walked -/
structure Wk (K : PySem.W.Frag) (J : It) (pr : Mset) (G : Mset → Hp → Prop) (xs : List PyData) : Prop where
  go : ∀ i B H, G B H → i < xs.length → J.go i H
  stop : ∀ B H, G B H → J.stop xs.length H
  yld : ∀ (i : Nat) B H x H' d, G B H → xs[i]? = some d → J.yld i H x H' → (H' = H ∨ ∃ T vs, H T = none ∧ H' = upd H T (.tup vs)) ∧ Rp K B H' x d
  keep : ∀ W B H W' B' H', G B H → Stp W B H W' B' H' → (∀ a, W a → B a) → (∀ a, pr a → ¬ W a) → G B' H'

abbrev Lk := Option (Nat × Md)
abbrev EI := Sl → Option (List PyData × Lk × Sl)
def Locked (lk : Lk) (e e' : Sl) : Prop := match lk with
  | none => e' = e
  | some (i, m) => ∃ c, e[i]? = some (some (S.mu m c)) ∧ e' = e.set i (some (.mu .fro c))
def unlock (lk : Lk) (env : Sl) : Sl := match lk with
  | none => env
  | some (i, m) => match env[i]? with
    | some (some (.mu _ c)) => env.set i (some (.mu m c))
    | _ => env
def tI (K : PySem.W.Frag) (f : EI) : TI := fun σ H R => ∃ B env xs lk env', EnvR K B H σ env ∧ f env = some (xs, lk, env') ∧
  ∀ B' H' J pr G e1, At K σ B H env B' H' e1 → Locked lk e1 env' → Wk K J pr G xs → G B' H' → (∀ a, pr a → ¬ Wof σ env' a ∧ ∃ o, H' a = some o) → R J H'

/-- another mode -/
theorem EnvR.mode {K : PySem.W.Frag} {B : Mset} {H : Hp} {σ : St} {env : Sl} {i : Nat} {m m' : Md} {c : Ct} (en : EnvR K B H σ env) (h : env[i]? = some (some (.mu m c))) : EnvR K B H σ (env.set i (some (.mu m' c))) := by
  have f : ∀ {j : Nat} {m1 : Md} {c1 : Ct}, (env.set i (some (S.mu m' c)))[j]? = some (some (.mu m1 c1)) → ∃ m2, env[j]? = some (some (.mu m2 c1)) := fun {j m1 c1} h1 => by
    rcases get_set h1 with ⟨e, e'⟩ | ⟨e, h1⟩
    · cases e'; subst e; exact ⟨m, h⟩
    · exact ⟨_, h1⟩
  refine ⟨by simp [en.len], fun j x h1 => ?_, fun j x h1 => ?_, fun j m1 c1 h1 => ?_, fun j k m1 m2 c1 c2 a h1 h2 h3 h4 => ?_, en.dom⟩
  · rcases get_set h1 with ⟨e, e'⟩ | ⟨e, h1⟩
    · cases e'
    · exact en.pd j x h1
  · rcases get_set h1 with ⟨e, e'⟩ | ⟨e, h1⟩
    · cases e'
    · exact en.nt j x h1
  · obtain ⟨m2, h2⟩ := f h1
    exact en.mu j m2 c1 h2
  · obtain ⟨_, g1⟩ := f h1
    obtain ⟨_, g2⟩ := f h2
    exact en.inj j k _ _ _ _ a g1 g2 h3 h4
theorem Locked.en {K : PySem.W.Frag} {B : Mset} {H : Hp} {σ : St} {lk : Lk} {e e' : Sl} (l : Locked lk e e') (en : EnvR K B H σ e) : EnvR K B H σ e' := by
  cases lk with
  | none => cases l; exact en
  | some p => obtain ⟨i, m⟩ := p; obtain ⟨c, h1, rfl⟩ := l; exact en.mode h1
theorem Locked.sub {σ : St} {lk : Lk} {e e' : Sl} (l : Locked lk e e') : ∀ a, Wof σ e' a → Wof σ e a := by
  cases lk with
  | none => cases l; exact fun _ h => h
  | some p =>
    obtain ⟨i, m⟩ := p
    obtain ⟨c, h1, rfl⟩ := l
    rintro a ⟨j, m1, c1, h2, h3, h4⟩
    rcases get_set h2 with ⟨e, e'⟩ | ⟨e, h2⟩
    · cases e'; exact absurd rfl h3
    · exact ⟨j, m1, c1, h2, h3, h4⟩
theorem Locked.stp {W B B1 : Mset} {H H1 : Hp} {σ : St} {lk : Lk} {e e' : Sl} (l : Locked lk e e') (s : Stp W B H (Wof σ e) B1 H1) : Stp W B H (Wof σ e') B1 H1 := ⟨s.keep, s.new, s.old, fun a h => s.sub a (l.sub a h), s.liv⟩
/-- through a locked stretch -/
theorem AtS.through {K : PySem.W.Frag} {σ σ2 : St} {B B1 B2 : Mset} {H H1 H2 : Hp} {env e1 e1' e2 : Sl} {lk : Lk} (en : EnvR K B H σ env) (a : At K σ B H env B1 H1 e1) (l : Locked lk e1 e1') (b : AtS K σ B1 H1 e1' σ2 B2 H2 e2) : AtS K σ B H env σ2 B2 H2 (unlock lk e2) := by
  have t : Stp (Wof σ env) B H (Wof σ2 e2) B2 H2 := (l.stp a.st).trans b.st en.wb en.dom
  cases lk with
  | none =>
    cases l
    exact ⟨t, b.en, fun i m c h hm => by
      obtain ⟨c1, h1⟩ := a.ks i m c h
      exact b.bo i m c1 h1 hm⟩
  | some p =>
    obtain ⟨i, m⟩ := p
    obtain ⟨c, h1, rfl⟩ := l
    have hi : i < e1.length := (List.getElem?_eq_some_iff.mp h1).1
    obtain ⟨hσ, c2, h2⟩ := b.bo i .fro c (by rw [List.getElem?_set_self hi]) (by decide)
    have hi2 : i < e2.length := (List.getElem?_eq_some_iff.mp h2).1
    have eu : unlock (some (i, m)) e2 = e2.set i (some (.mu m c2)) := by simp only [unlock, h2]
    rw [eu]
    refine ⟨⟨t.keep, t.new, t.old, fun q w => ?_, t.liv⟩, b.en.mode h2, fun j n d h hn => ?_⟩
    · obtain ⟨j, m1, d, g1, g2, g3⟩ := w
      rcases get_set g1 with ⟨e, e'⟩ | ⟨e, g1⟩
      · cases e'
        subst e
        rw [hσ] at g3
        exact a.st.sub q ⟨i, m, c, h1, g2, g3⟩
      · exact t.sub q ⟨j, m1, d, g1, g2, g3⟩
    · obtain ⟨d1, g1⟩ := a.ks j n d h
      by_cases e : i = j
      · subst e
        rw [h1] at g1
        cases g1
        exact ⟨hσ, c2, by rw [List.getElem?_set_self hi2]⟩
      · obtain ⟨g2, d2, g3⟩ := b.bo j n d1 (by rw [List.getElem?_set_ne e]; exact g1) hn
        exact ⟨g2, d2, by rw [List.getElem?_set_ne e]; exact g3⟩
theorem RR.unlock {K : PySem.W.Frag} {H₀ H : Hp} {B : Mset} {σ : St} {env : Sl} {v : V} {d : R} {lk : Lk} (h : RR K H₀ B H σ (unlock lk env) v d) : RR K H₀ B H σ env v d := by
  cases lk with
  | none => exact h
  | some p =>
    obtain ⟨i, m⟩ := p
    simp only [T3.unlock] at h
    split at h
    · rename_i m1 c h1
      cases d with
      | pd x => exact h
      | nt x => exact h
      | tmp t =>
        obtain ⟨a, e, h2, h3, h4, h5⟩ := h
        refine ⟨a, e, h2, h3, h4, fun j n d g => ?_⟩
        by_cases q : i = j
        · subst q; exact h5 i m c (by rw [List.getElem?_set_self (List.getElem?_eq_some_iff.mp h1).1])
        · exact h5 j n d (by rw [List.getElem?_set_ne q]; exact g)
      | var j =>
        obtain ⟨h2, n, d, h3⟩ := h
        refine ⟨h2, ?_⟩
        rcases get_set h3 with ⟨e, e'⟩ | ⟨e, h3⟩
        · subst e; exact ⟨_, _, h1⟩
        · exact ⟨_, _, h3⟩
    · exact h
theorem RR.relock {K : PySem.W.Frag} {H₀ H : Hp} {B : Mset} {σ : St} {env : Sl} {v : V} {d : R} {lk : Lk} (h : RR K H₀ B H σ env v d) : RR K H₀ B H σ (T3.unlock lk env) v d := by
  cases lk with
  | none => exact h
  | some p =>
    obtain ⟨i, m⟩ := p
    simp only [T3.unlock]
    split
    · rename_i m1 c h1
      have hi := (List.getElem?_eq_some_iff.mp h1).1
      cases d with
      | pd x => exact h
      | nt x => exact h
      | tmp t =>
        obtain ⟨a, e, h2, h3, h4, h5⟩ := h
        refine ⟨a, e, h2, h3, h4, fun j n d g => ?_⟩
        rcases get_set g with ⟨e, e'⟩ | ⟨e, g⟩
        · subst e; exact h5 i _ _ h1
        · exact h5 j n d g
      | var j =>
        obtain ⟨h2, n, d, h3⟩ := h
        refine ⟨h2, ?_⟩
        by_cases q : i = j
        · subst q; exact ⟨m, c, by rw [List.getElem?_set_self hi]⟩
        · exact ⟨n, d, by rw [List.getElem?_set_ne q]; exact h3⟩
    · exact h
/-- a new tuple by the walk -/
theorem At.pair {K : PySem.W.Frag} {σ : St} {B : Mset} {H : Hp} {env : Sl} {T : Addr} {vs : List V} (en : EnvR K B H σ env) (nT : H T = none) : At K σ B H env B (upd H T (.tup vs)) env := by
  have ne : ∀ {q o'}, H q = some o' → q ≠ T := fun {q o'} h e => by rw [e, nT] at h; cases h
  have g : Grow B H B (upd H T (.tup vs)) := ⟨fun q o' h _ => by rw [upd_ne (ne h)]; exact h, fun q h => .inl h⟩
  refine ⟨⟨fun q o' h c => by rw [upd_ne (ne h)]; exact h, fun q h => .inl h, fun q h _ => h, fun q h => .inl h, fun q h => ?_⟩, ⟨en.len, fun i x h => ?_, fun i x h => ?_, fun i m c h => ?_, en.inj, fun q h => ?_⟩, fun i m c h => ⟨c, h⟩, fun i m c h => ⟨c, h⟩⟩
  · by_cases e : q = T
    · rw [e]; exact nT
    · rw [upd_ne e] at h; exact h
  · obtain ⟨v, h1, h2⟩ := en.pd i x h
    exact ⟨v, h1, h2.grow g⟩
  · obtain ⟨v, h1, h2⟩ := en.nt i x h
    exact ⟨v, h1, h2.grow g⟩
  · obtain ⟨q, h1, h2, h3⟩ := en.mu i m c h
    refine ⟨q, h1, h2, ?_⟩
    cases c with
    | ls xs => obtain ⟨vs, h4, h5⟩ := h3; exact ⟨vs, by rw [upd_ne (ne h4)]; exact h4, h5.grow g⟩
    | dk xs => obtain ⟨vs, h4, h5⟩ := h3; exact ⟨vs, by rw [upd_ne (ne h4)]; exact h4, h5.grow g⟩
    | dn xs => obtain ⟨vs, h4, h5⟩ := h3; exact ⟨vs, by rw [upd_ne (ne h4)]; exact h4, h5.grow g⟩
  · obtain ⟨o', ho⟩ := en.dom q h
    exact ⟨o', by rw [upd_ne (ne ho)]; exact ho⟩

/-! ### for -/
def forL (g : GG) (body : SS) : List PyData → SS
  | [], env => some (.nx, env)
  | x :: xs, env => match g x env with
    | none => none
    | some e1 => match body e1 with
      | none => none
      | some (.nx, e2) => forL g body xs e2
      | some (.ct, e2) => forL g body xs e2
      | some (.bk, e2) => some (.nx, e2)
      | some (.rt d, e2) => some (.rt d, e2)
def sFor (it : EI) (g : GG) (body : SS) : SS := fun env => match it env with
  | none => none
  | some (xs, lk, e1) => match forL g body xs e1 with
    | none => none
    | some (fl, e2) => some (fl, unlock lk e2)
theorem forL_fl {g : GG} {body : SS} : ∀ {xs : List PyData} {env e : Sl} {fl : Fl}, forL g body xs env = some (fl, e) → fl = .nx ∨ ∃ d, fl = .rt d
  | [], env, e, fl, h => by cases h; exact .inl rfl
  | x :: xs, env, e, fl, h => by
    unfold forL at h
    split at h
    · cases h
    split at h
    · cases h
    · exact forL_fl h
    · exact forL_fl h
    · cases h; exact .inl rfl
    · cases h; exact .inr ⟨_, rfl⟩
theorem rd_for {K : PySem.W.Frag} {it : EI} {g : GG} {body : SS} {D : Ends} {σ : St} {H : Hp} (h : tS K (sFor it g body) D σ H) : tFor (tI K it) (tG K g) (tS K body) D σ H := by
  obtain ⟨B, env, fl, env', en, ev, q⟩ := h
  unfold sFor at ev
  split at ev
  · cases ev
  rename_i xs lk e1 h1
  split at ev
  · cases ev
  rename_i fl' e2 h2
  cases ev
  refine ⟨B, env, xs, lk, e1, en, h1, fun B1 H1 J pr G e0 a1 lkd wk g0 hpr => ?_⟩
  have en1 : EnvR K B1 H1 σ e1 := lkd.en a1.en
  -- the walked thing stands wherever one comes
  have stays : ∀ {σi Bi Hi ei}, AtS K σ B1 H1 e1 σi Bi Hi ei → G Bi Hi := fun {σi Bi Hi ei} a => wk.keep _ _ _ _ _ _ g0 a.st en1.wb fun x hx => (hpr x hx).1
  have done : ∀ {σi Bi Hi ei}, AtS K σ B1 H1 e1 σi Bi Hi ei → ei = e2 → Fin K D H fl Bi σi Hi (unlock lk e2) := fun {σi Bi Hi ei} a e => by
    subst e
    exact q Bi σi Hi (AtS.through en a1 lkd a)
  refine ⟨fun i m σi Hi => i ≤ xs.length ∧ m = xs.length - i ∧ ∃ Bi ei, AtS K σ B1 H1 e1 σi Bi Hi ei ∧ forL g body (xs.drop i) ei = some (fl, e2), ⟨_, Nat.zero_le _, rfl, B1, e1, .refl en1, h2⟩, ?_⟩
  rintro i m σi Hi ⟨hi, rfl, Bi, ei, ai, fi⟩
  have gi := stays ai
  by_cases hlt : i < xs.length
  · have hd : xs.drop i = xs[i] :: xs.drop (i + 1) := List.drop_eq_getElem_cons hlt
    rw [hd] at fi
    unfold forL at fi
    split at fi
    · cases fi
    rename_i e3 h3
    refine .inr ⟨wk.go i Bi Hi gi hlt, fun σ' H' => ∃ B' e', AtS K σ B1 H1 e1 σ' B' H' e' ∧ forL g body (xs.drop (i + 1)) e' = some (fl, e2), fun σ' H' ⟨B', e', a', f'⟩ => ⟨xs.length - (i + 1), by omega, hlt, rfl, B', e', a', f'⟩, fun x H' hy => ?_⟩
    obtain ⟨hH, rx⟩ := wk.yld i Bi Hi x H' xs[i] gi (List.getElem?_eq_getElem hlt) hy
    have ay : At K σi Bi Hi ei Bi H' ei := by
      rcases hH with e | ⟨T, vs, nT, e⟩
      · subst e; exact .refl ai.en
      · subst e; exact At.pair ai.en nT
    have ai' : AtS K σ B1 H1 e1 σi Bi H' ei := ai.trans en1 ay.s
    refine ⟨Bi, ei, xs[i], e3, ay.en, rx, h3, fun B3 σ3 H3 a3 => ?_⟩
    have a3' : AtS K σ B1 H1 e1 σ3 B3 H3 e3 := ai'.trans en1 a3
    split at fi
    · cases fi
    · rename_i e4 h4
      exact ⟨B3, e3, .nx, e4, a3.en, h4, fun B4 σ4 H4 a4 => ⟨B4, e4, a3'.trans en1 a4, fi⟩⟩
    · rename_i e4 h4
      exact ⟨B3, e3, .ct, e4, a3.en, h4, fun B4 σ4 H4 a4 => ⟨B4, e4, a3'.trans en1 a4, fi⟩⟩
    · rename_i e4 h4
      cases fi
      exact ⟨B3, e3, .bk, _, a3.en, h4, fun B4 σ4 H4 a4 => done (a3'.trans en1 a4) rfl⟩
    · rename_i d e4 h4
      cases fi
      refine ⟨B3, e3, .rt d, _, a3.en, h4, fun B4 σ4 H4 a4 v r => ?_⟩
      have z := done (a3'.trans en1 a4) rfl
      exact z v ((r.from fun a h => a1.st.liv a (a3'.st.liv a h)).relock)
  · have e : i = xs.length := by omega
    subst e
    rw [List.drop_length] at fi
    cases fi
    exact .inl ⟨wk.stop Bi Hi gi, done ai rfl⟩
end T3

end
section
set_option linter.all false
set_option autoImplicit false
set_option Elab.async false
namespace T3
open PySem L2

/-! ### while -/
def whileN (c : EB) (body : SS) : Nat → SS
  | 0, _ => none
  | n + 1, env => match c env with
    | none => none
    | some (false, e) => some (.nx, e)
    | some (true, e) => match body e with
      | none => none
      | some (.nx, e2) => whileN c body n e2
      | some (.ct, e2) => whileN c body n e2
      | some (.bk, e2) => some (.nx, e2)
      | some (.rt d, e2) => some (.rt d, e2)
theorem whileN_more {c : EB} {body : SS} : ∀ {n m : Nat} {env : Sl} {r : Fl × Sl}, whileN c body n env = some r → n ≤ m → whileN c body m env = some r
  | 0, _, _, _, h, _ => by cases h
  | n + 1, 0, _, _, _, hm => by omega
  | n + 1, m + 1, env, r, h, hm => by
    unfold whileN at h ⊢
    cases hc : c env with
    | none => rw [hc] at h; cases h
    | some p =>
      obtain ⟨b, e⟩ := p
      rw [hc] at h
      cases b with
      | false => exact h
      | true =>
        simp only at h ⊢
        cases hb : body e with
        | none => rw [hb] at h; cases h
        | some q =>
          obtain ⟨fl, e2⟩ := q
          rw [hb] at h
          cases fl with
          | nx => exact whileN_more (n := n) (m := m) h (by omega)
          | ct => exact whileN_more (n := n) (m := m) h (by omega)
          | bk => exact h
          | rt d => exact h
open Classical in
noncomputable def sWhile (c : EB) (body : SS) : SS := fun env => if h : ∃ r, ∃ n, whileN c body n env = some r then some (choose h) else none
theorem sWhile_of {c : EB} {body : SS} {n : Nat} {env : Sl} {r : Fl × Sl} (h : whileN c body n env = some r) : sWhile c body env = some r := by
  have ex : ∃ r, ∃ n, whileN c body n env = some r := ⟨r, n, h⟩
  unfold sWhile
  rw [dif_pos ex]
  obtain ⟨m, hm⟩ := Classical.choose_spec ex
  have h1 := whileN_more h (Nat.le_max_left n m)
  have h2 := whileN_more hm (Nat.le_max_right n m)
  rw [h1] at h2
  rw [← Option.some.inj h2]
theorem sWhile_ex {c : EB} {body : SS} {env : Sl} {r : Fl × Sl} (h : sWhile c body env = some r) : ∃ n, whileN c body n env = some r := by
  unfold sWhile at h
  split at h
  · rename_i ex
    obtain ⟨m, hm⟩ := Classical.choose_spec ex
    exact ⟨m, by rw [hm]; exact h⟩
  · cases h
theorem rd_while {K : PySem.W.Frag} {c : EB} {body : SS} {D : Ends} {σ : St} {H : Hp} (h : tS K (sWhile c body) D σ H) : tWhile (tT K c) (tS K body) D σ H := by
  obtain ⟨B, env, fl, env', en, ev, q⟩ := h
  obtain ⟨n, hn⟩ := sWhile_ex ev
  refine ⟨fun m σi Hi => ∃ Bi ei, AtS K σ B H env σi Bi Hi ei ∧ whileN c body m ei = some (fl, env'), ⟨n, B, env, .refl en, hn⟩, ?_⟩
  rintro m σi Hi ⟨Bi, ei, ai, fi⟩
  cases m with
  | zero => cases fi
  | succ m =>
    unfold whileN at fi
    split at fi
    · cases fi
    · rename_i e h1
      cases fi
      refine ⟨Bi, ei, false, _, ai.en, h1, fun B1 H1 a1 => ?_⟩
      simp
      exact q B1 σi H1 (ai.trans en a1.s)
    · rename_i e h1
      refine ⟨Bi, ei, true, e, ai.en, h1, fun B1 H1 a1 => ?_⟩
      have a1' := ai.trans en a1.s
      simp
      refine ⟨fun σ' H' => ∃ B' e', AtS K σ B H env σ' B' H' e' ∧ whileN c body m e' = some (fl, env'), fun σ' H' ⟨B', e', a', f'⟩ => ⟨m, by omega, B', e', a', f'⟩, ?_⟩
      split at fi
      · cases fi
      · rename_i e2 h2
        exact ⟨B1, e, .nx, e2, a1.en, h2, fun B2 σ2 H2 a2 => ⟨B2, e2, a1'.trans en a2, fi⟩⟩
      · rename_i e2 h2
        exact ⟨B1, e, .ct, e2, a1.en, h2, fun B2 σ2 H2 a2 => ⟨B2, e2, a1'.trans en a2, fi⟩⟩
      · rename_i e2 h2
        cases fi
        exact ⟨B1, e, .bk, _, a1.en, h2, fun B2 σ2 H2 a2 => q B2 σ2 H2 (a1'.trans en a2)⟩
      · rename_i d e2 h2
        cases fi
        exact ⟨B1, e, .rt d, _, a1.en, h2, fun B2 σ2 H2 a2 v r => q B2 σ2 H2 (a1'.trans en a2) v (r.from a1'.st.liv)⟩

/-! ### defs -/
abbrev FnD := List S → Option (R × List S)
def outR (env : Sl) : R → Option R
  | .pd x => some (.pd x)
  | .nt x => some (.nt x)
  | .tmp c => some (.tmp c)
  | .var i => match env[i]? with
    | some (some (.mu .own c)) => some (.tmp c)
    | _ => none
def finals : List S → Sl → Option (List S)
  | [], _ => some []
  | .pd x :: as, _ :: env => match finals as env with
    | none => none
    | some l => some (.pd x :: l)
  | .nt x :: as, _ :: env => match finals as env with
    | none => none
    | some l => some (.nt x :: l)
  | .mu m _ :: as, some (.mu m' c') :: env => if m = m' ∧ m ≠ .own then match finals as env with
      | none => none
      | some l => some (.mu m c' :: l)
    else none
  | _ :: _, _ => none
def startE (n : Nat) (as : List S) : Sl := as.map some ++ List.replicate (n - as.length) none
def runFn (n : Nat) (b : SS) : FnD := fun as => match b (startE n as) with
  | some (.rt d, e) => match outR e d with
    | none => none
    | some d' => match finals as e with
      | none => none
      | some as' => some (d', as')
  | some (.nx, e) => match finals as e with
    | none => none
    | some as' => some (.pd .none, as')
  | _ => none
def spF (K : PySem.W.Frag) (F : FnD) (n : Nat) : Sp := fun vs H Q _ => vs.length = n ∧ ∃ B as d as', EnvR K B H (vs.map some) (as.map some) ∧ F as = some (d, as') ∧
  ∀ B' H' v, At K (vs.map some) B H (as.map some) B' H' (as'.map some) → RR K H B' H' (vs.map some) (as'.map some) v d → (∀ i, d ≠ .var i) → Q v H'

theorem finals_get : ∀ {as : List S} {env : Sl} {as' : List S}, finals as env = some as' → as'.length = as.length ∧ ∀ (i : Nat) s, as[i]? = some s → (∃ x, s = .pd x ∧ as'[i]? = some (.pd x)) ∨ (∃ x, s = .nt x ∧ as'[i]? = some (.nt x)) ∨ (∃ m c c', s = .mu m c ∧ m ≠ .own ∧ env[i]? = some (some (.mu m c')) ∧ as'[i]? = some (.mu m c'))
  | [], _, _, h => by cases h; exact ⟨rfl, fun i s h => by simp at h⟩
  | .pd x :: as, [], _, h => by cases h
  | .nt x :: as, [], _, h => by cases h
  | .mu _ _ :: as, [], _, h => by cases h
  | .pd x :: as, e :: env, as', h => by
    unfold finals at h
    split at h
    · cases h
    rename_i l hl
    cases h
    obtain ⟨h1, h2⟩ := finals_get hl
    refine ⟨by simp [h1], fun i s hs => ?_⟩
    cases i with
    | zero => simp at hs; subst hs; exact .inl ⟨x, rfl, rfl⟩
    | succ i => simpa using h2 i s (by simpa using hs)
  | .nt x :: as, e :: env, as', h => by
    unfold finals at h
    split at h
    · cases h
    rename_i l hl
    cases h
    obtain ⟨h1, h2⟩ := finals_get hl
    refine ⟨by simp [h1], fun i s hs => ?_⟩
    cases i with
    | zero => simp at hs; subst hs; exact .inr (.inl ⟨x, rfl, rfl⟩)
    | succ i => simpa using h2 i s (by simpa using hs)
  | .mu m c :: as, none :: env, _, h => by cases h
  | .mu m c :: as, some (.pd _) :: env, _, h => by cases h
  | .mu m c :: as, some (.nt _) :: env, _, h => by cases h
  | .mu m c :: as, some (.mu m' c') :: env, as', h => by
    unfold finals at h
    split at h
    · rename_i hm
      obtain ⟨rfl, hm⟩ := hm
      split at h
      · cases h
      rename_i l hl
      cases h
      obtain ⟨h1, h2⟩ := finals_get hl
      refine ⟨by simp [h1], fun i s hs => ?_⟩
      cases i with
      | zero => simp at hs; subst hs; exact .inr (.inr ⟨m, c, c', rfl, hm, rfl, rfl⟩)
      | succ i => simpa using h2 i s (by simpa using hs)
    · cases h

theorem startE_get {n : Nat} {as : List S} {i : Nat} {s : S} : (startE n as)[i]? = some (some s) ↔ as[i]? = some s := by
  unfold startE
  by_cases h : i < as.length
  · rw [List.getElem?_append_left (by simpa using h), List.getElem?_map, List.getElem?_eq_getElem h]
    simp
  · rw [List.getElem?_append_right (by simpa using h), List.getElem?_eq_none (l := as) (by omega)]
    simp only [List.length_map]
    constructor
    · intro q
      by_cases z : i - as.length < n - as.length
      · rw [List.getElem?_replicate, if_pos z] at q; cases q
      · rw [List.getElem?_replicate, if_neg z] at q; cases q
    · intro q; cases q
theorem start_get {N : List Str} {vs : List V} {i : Nat} {v : V} : (start N vs)[i]? = some (some v) ↔ vs[i]? = some v := by
  unfold L2.start
  by_cases h : i < vs.length
  · rw [List.getElem?_append_left (by simpa using h), List.getElem?_map, List.getElem?_eq_getElem h]
    simp
  · rw [List.getElem?_append_right (by simpa using h), List.getElem?_eq_none (l := vs) (by omega)]
    simp only [List.length_map]
    constructor
    · intro q
      by_cases z : i - vs.length < N.length - vs.length
      · rw [List.getElem?_replicate, if_pos z] at q; cases q
      · rw [List.getElem?_replicate, if_neg z] at q; cases q
    · intro q; cases q
theorem map_get {α : Type} {l : List α} {i : Nat} {x : α} : (l.map some)[i]? = some (some x) ↔ l[i]? = some x := by
  rw [List.getElem?_map]
  cases l[i]? <;> simp
/-- the body of a def keeps the promise -/
theorem fn_body {K : PySem.W.Frag} {n : Nat} {N : List Str} {b : SS} {vs : List V} {H : Hp} {Q : VK} {E : XK} (h : spF K (runFn N.length b) n vs H Q E) : tS K b { nx := fun _ H' => Q .non H', rt := Q } (start N vs) H := by
  obtain ⟨hn, B, as, d, as', en, hF, q⟩ := h
  have hl : as.length = vs.length := by simpa using en.len
  have en0 : EnvR K B H (start N vs) (startE N.length as) := by
    refine ⟨by simp [startE, L2.start, hl], fun i x h => ?_, fun i x h => ?_, fun i m c h => ?_, fun i j m m' c c' a h1 h2 h3 h4 => ?_, en.dom⟩
    · obtain ⟨v, h1, h2⟩ := en.pd i x (map_get.mpr (startE_get.mp h))
      exact ⟨v, start_get.mpr (map_get.mp h1), h2⟩
    · obtain ⟨v, h1, h2⟩ := en.nt i x (map_get.mpr (startE_get.mp h))
      exact ⟨v, start_get.mpr (map_get.mp h1), h2⟩
    · obtain ⟨v, h1, h2⟩ := en.mu i m c (map_get.mpr (startE_get.mp h))
      exact ⟨v, start_get.mpr (map_get.mp h1), h2⟩
    · exact en.inj i j m m' c c' a (map_get.mpr (startE_get.mp h1)) (map_get.mpr (startE_get.mp h2)) (map_get.mpr (start_get.mp h3)) (map_get.mpr (start_get.mp h4))
  have wiff : ∀ a, Wof (start N vs) (startE N.length as) a ↔ Wof (vs.map some) (as.map some) a := fun a => by
    constructor
    · rintro ⟨i, m, c, h1, h2, h3⟩; exact ⟨i, m, c, map_get.mpr (startE_get.mp h1), h2, map_get.mpr (start_get.mp h3)⟩
    · rintro ⟨i, m, c, h1, h2, h3⟩; exact ⟨i, m, c, startE_get.mpr (map_get.mp h1), h2, start_get.mpr (map_get.mp h3)⟩
  -- where the body ends
  have key : ∀ {e : Sl} {B' σ' H'}, finals as e = some as' → AtS K (start N vs) B H (startE N.length as) σ' B' H' e → At K (vs.map some) B H (as.map some) B' H' (as'.map some) ∧ (∀ (i : Nat) m c, as'[i]? = some (.mu m c) → m ≠ .own ∧ e[i]? = some (some (.mu m c)) ∧ ∀ v, vs[i]? = some v → σ'[i]? = some (some v)) := by
    intro e B' σ' H' hf a
    obtain ⟨f1, f2⟩ := finals_get hf
    have back : ∀ (i : Nat) m c, as'[i]? = some (.mu m c) → m ≠ .own ∧ e[i]? = some (some (.mu m c)) ∧ (∃ c0, as[i]? = some (.mu m c0)) ∧ ∀ v, vs[i]? = some v → σ'[i]? = some (some v) := by
      intro i m c h
      have hi : i < as.length := by rw [← f1]; exact (List.getElem?_eq_some_iff.mp h).1
      rcases f2 i as[i] (List.getElem?_eq_getElem hi) with ⟨x, e1, e2⟩ | ⟨x, e1, e2⟩ | ⟨m1, c1, c2, e1, e2, e3, e4⟩
      · rw [h] at e2; cases e2
      · rw [h] at e2; cases e2
      · rw [h] at e4
        cases e4
        have hs : as[i]? = some (.mu m c1) := by rw [List.getElem?_eq_getElem hi, e1]
        refine ⟨e2, e3, ⟨c1, hs⟩, fun v hv => ?_⟩
        obtain ⟨g1, _⟩ := a.bo i m c1 (startE_get.mpr hs) e2
        rw [g1]
        exact start_get.mpr hv
    have wsub : ∀ q, Wof (vs.map some) (as'.map some) q → Wof (vs.map some) (as.map some) q := by
      rintro q ⟨i, m, c, h1, h2, h3⟩
      obtain ⟨_, _, ⟨c0, h4⟩, _⟩ := back i m c (map_get.mp h1)
      exact ⟨i, m, c0, map_get.mpr h4, h2, h3⟩
    have st : Stp (Wof (vs.map some) (as.map some)) B H (Wof (vs.map some) (as'.map some)) B' H' :=
      ⟨fun q o h c => a.st.keep q o h (c.imp (fun n w => n ((wiff q).mp w)) id), a.st.new, fun q h w => a.st.old q h fun w' => w ((wiff q).mp w'), fun q w => .inl (wsub q w), a.st.liv⟩
    refine ⟨⟨st, ⟨by simp [f1, hl], fun i x h => ?_, fun i x h => ?_, fun i m c h => ?_, fun i j m m' c c' p h1 h2 h3 h4 => ?_, a.en.dom⟩, fun i m c h => ?_, fun i m c h => ?_⟩, fun i m c h => ⟨(back i m c h).1, (back i m c h).2.1, (back i m c h).2.2.2⟩⟩
    · have h := map_get.mp h
      have hi : i < as.length := by rw [← f1]; exact (List.getElem?_eq_some_iff.mp h).1
      rcases f2 i as[i] (List.getElem?_eq_getElem hi) with ⟨y, e1, e2⟩ | ⟨y, e1, e2⟩ | ⟨m1, c1, c2, e1, e2, e3, e4⟩
      · rw [h] at e2
        cases e2
        obtain ⟨v, g1, g2⟩ := en.pd i x (map_get.mpr (by rw [List.getElem?_eq_getElem hi, e1]))
        exact ⟨v, g1, g2.grow (a.st.grow en0.wb)⟩
      · rw [h] at e2; cases e2
      · rw [h] at e4; cases e4
    · have h := map_get.mp h
      have hi : i < as.length := by rw [← f1]; exact (List.getElem?_eq_some_iff.mp h).1
      rcases f2 i as[i] (List.getElem?_eq_getElem hi) with ⟨y, e1, e2⟩ | ⟨y, e1, e2⟩ | ⟨m1, c1, c2, e1, e2, e3, e4⟩
      · rw [h] at e2; cases e2
      · rw [h] at e2
        cases e2
        obtain ⟨v, g1, g2⟩ := en.nt i x (map_get.mpr (by rw [List.getElem?_eq_getElem hi, e1]))
        exact ⟨v, g1, g2.grow (a.st.grow en0.wb)⟩
      · rw [h] at e4; cases e4
    · obtain ⟨g0, g1, ⟨c0, g2⟩, g3⟩ := back i m c (map_get.mp h)
      obtain ⟨p, k1, k2, k3⟩ := a.en.mu i m c g1
      obtain ⟨p', k4, _⟩ := en.mu i m c0 (map_get.mpr g2)
      rw [g3 _ (map_get.mp k4)] at k1
      cases k1
      exact ⟨_, k4, k2, k3⟩
    · obtain ⟨_, _, ⟨c1, g1⟩, _⟩ := back i m c (map_get.mp h1)
      obtain ⟨_, _, ⟨c2, g2⟩, _⟩ := back j m' c' (map_get.mp h2)
      exact en.inj i j m m' c1 c2 p (map_get.mpr g1) (map_get.mpr g2) h3 h4
    · obtain ⟨_, _, ⟨c1, g1⟩, _⟩ := back i m c (map_get.mp h)
      exact ⟨c1, map_get.mpr g1⟩
    · have h := map_get.mp h
      rcases f2 i _ h with ⟨y, e1, e2⟩ | ⟨y, e1, e2⟩ | ⟨m1, c1, c2, e1, e2, e3, e4⟩
      · cases e1
      · cases e1
      · cases e1; exact ⟨c2, map_get.mpr e4⟩
  unfold runFn at hF
  split at hF
  · rename_i d0 e hb
    split at hF
    · cases hF
    rename_i d1 ho
    split at hF
    · cases hF
    rename_i as1 hf
    cases hF
    refine ⟨B, startE N.length as, .rt d0, e, en0, hb, fun B' σ' H' a v r => ?_⟩
    obtain ⟨at_, bk⟩ := key hf a
    cases d0 with
    | pd x => cases ho; exact q B' H' v at_ r (fun _ => nofun)
    | nt x => cases ho; exact q B' H' v at_ r (fun _ => nofun)
    | tmp c =>
      cases ho
      obtain ⟨p, rfl, r1, r2, r3, r4⟩ := r
      refine q B' H' _ at_ ⟨p, rfl, r1, r2, r3, fun i m c h1 h2 => ?_⟩ (fun _ => nofun)
      obtain ⟨_, g1, g2⟩ := bk i m c (map_get.mp h1)
      exact r4 i m c g1 (g2 _ (map_get.mp h2))
    | var j =>
      simp only [outR] at ho
      split at ho
      · rename_i c hc
        cases ho
        obtain ⟨r1, _⟩ := r
        obtain ⟨p, k1, k2, k3⟩ := a.en.mu j _ _ hc
        rw [k1] at r1
        cases r1
        have nsl : ∀ (i : Nat) m c, as'[i]? = some (.mu m c) → vs[i]? ≠ some (.ref p) := fun i m c' h1 h2 => by
          obtain ⟨g0, g1, g2⟩ := bk i m c' h1
          have e := a.en.inj j i _ _ _ _ p hc g1 k1 (g2 _ h2)
          subst e
          rw [hc] at g1
          cases g1
          exact g0 rfl
        refine q B' H' _ at_ ⟨p, rfl, ?_, k2, k3, fun i m c h1 h2 => nsl i m c (map_get.mp h1) (map_get.mp h2)⟩ (fun _ => nofun)
        rcases a.st.sub p ⟨j, _, _, hc, by decide, k1⟩ with w | w
        · obtain ⟨i, m, c0, h1, h2, h3⟩ := w
          obtain ⟨c1, h4⟩ := at_.ks i m c0 (map_get.mpr (startE_get.mp h1))
          exact absurd (start_get.mp h3) (nsl i m c1 (map_get.mp h4))
        · exact w
      · cases ho
  · rename_i e hb
    split at hF
    · cases hF
    rename_i as1 hf
    cases hF
    refine ⟨B, startE N.length as, .nx, e, en0, hb, fun B' σ' H' a => ?_⟩
    obtain ⟨at_, bk⟩ := key hf a
    exact q B' H' _ at_ .non (fun _ => nofun)
  · cases hF
theorem spF_len {K : PySem.W.Frag} {F : FnD} {n : Nat} {ps : List Str} (h : n = ps.length) : ∀ vs H Q E, spF K F n vs H Q E → vs.length = ps.length := fun vs H Q E q => by rw [← h]; exact q.1
end T3

end
section
set_option linter.all false
set_option autoImplicit false
set_option Elab.async false
namespace T3
open PySem L2

/-! ### the call of a def -/
def toArg (env : Sl) : R → Option S
  | .pd x => some (.pd x)
  | .nt x => some (.nt x)
  | .tmp c => some (.mu .bor c)
  | .var i => match env[i]? with
    | some (some (.mu .fro c)) => some (.mu .fro c)
    | some (some (.mu _ c)) => some (.mu .bor c)
    | _ => none
def toArgs (env : Sl) : List R → Option (List S)
  | [] => some []
  | d :: ds => match toArg env d with
    | none => none
    | some a => match toArgs env ds with
      | none => none
      | some as => some (a :: as)
def hasVar (i : Nat) : List R → Bool
  | [] => false
  | .var j :: ds => decide (i = j) || hasVar i ds
  | _ :: ds => hasVar i ds
def varsApart : List R → Bool
  | [] => true
  | .var j :: ds => !hasVar j ds && varsApart ds
  | _ :: ds => varsApart ds
/-- the containers come back changed -/
def back : List R → List S → Sl → Sl
  | .var i :: ds, .mu _ c :: as, env => match env[i]? with
    | some (some (.mu m _)) => back ds as (env.set i (some (.mu m c)))
    | _ => back ds as env
  | _ :: ds, _ :: as, env => back ds as env
  | _, _, env => env
def eCall (F : FnD) (f : EA) : EE := eThen f fun ds env => match toArgs env ds with
  | none => none
  | some as => if varsApart ds = true then match F as with
      | none => none
      | some (.var _, _) => none
      | some (d, as') => some (d, back ds as' env)
    else none

theorem toArgs_get {env : Sl} : ∀ {ds : List R} {as : List S}, toArgs env ds = some as → as.length = ds.length ∧ ∀ (k : Nat) d, ds[k]? = some d → ∃ s, as[k]? = some s ∧ toArg env d = some s
  | [], as, h => by cases h; exact ⟨rfl, fun k d h => by simp at h⟩
  | d :: ds, as, h => by
    unfold toArgs at h
    split at h
    · cases h
    rename_i a ha
    split at h
    · cases h
    rename_i as1 h1
    cases h
    obtain ⟨g1, g2⟩ := toArgs_get h1
    refine ⟨by simp [g1], fun k d' hd => ?_⟩
    cases k with
    | zero => simp at hd; subst hd; exact ⟨a, rfl, ha⟩
    | succ k => simpa using g2 k d' (by simpa using hd)
theorem hasVar_get {i : Nat} : ∀ {ds : List R} {k : Nat}, ds[k]? = some (.var i) → hasVar i ds = true
  | [], k, h => by simp at h
  | d :: ds, 0, h => by simp at h; subst h; simp [hasVar]
  | d :: ds, k + 1, h => by
    have := hasVar_get (ds := ds) (k := k) (by simpa using h)
    cases d <;> simp [hasVar, this]
theorem varsApart_get : ∀ {ds : List R} {k l i : Nat}, varsApart ds = true → ds[k]? = some (.var i) → ds[l]? = some (.var i) → k = l
  | [], k, _, _, _, h, _ => by simp at h
  | d :: ds, 0, 0, _, _, _, _ => rfl
  | d :: ds, 0, l + 1, i, hv, h, h' => by
    simp at h
    subst h
    have := hasVar_get (ds := ds) (k := l) (by simpa using h')
    simp [varsApart, this] at hv
  | d :: ds, k + 1, 0, i, hv, h, h' => by
    simp at h'
    subst h'
    have := hasVar_get (ds := ds) (k := k) (by simpa using h)
    simp [varsApart, this] at hv
  | d :: ds, k + 1, l + 1, i, hv, h, h' => by
    have hv' : varsApart ds = true := by cases d <;> simp [varsApart] at hv <;> first | exact hv | exact hv.2
    rw [varsApart_get (ds := ds) (k := k) (l := l) (i := i) hv' (by simpa using h) (by simpa using h')]
theorem varsApart_tail {d : R} {ds : List R} (h : varsApart (d :: ds) = true) : varsApart ds = true := by cases d <;> simp [varsApart] at h <;> first | exact h | exact h.2
theorem back_get : ∀ {ds : List R} {as : List S} {env : Sl}, varsApart ds = true → as.length = ds.length → (∀ (k : Nat) i, ds[k]? = some (.var i) → ∃ m c, env[i]? = some (some (.mu m c))) → (∀ (k : Nat) i, ds[k]? = some (.var i) → ∃ m c, as[k]? = some (.mu m c)) →
    (back ds as env).length = env.length ∧ (∀ j, (∀ k : Nat, ds[k]? ≠ some (.var j)) → (back ds as env)[j]? = env[j]?) ∧ ∀ (k : Nat) i m c m' c', ds[k]? = some (.var i) → env[i]? = some (some (.mu m c)) → as[k]? = some (.mu m' c') → (back ds as env)[i]? = some (some (.mu m c'))
  | [], [], env, _, _, _, _ => ⟨rfl, fun j _ => rfl, fun k i m c m' c' h => by simp at h⟩
  | [], _ :: _, _, _, h, _, _ => by simp at h
  | _ :: _, [], _, _, h, _, _ => by simp at h
  | d :: ds, a :: as, env, hv, hl, hm, hc => by
    have hl' : as.length = ds.length := by simpa using hl
    have hv' := varsApart_tail hv
    have plain : (∀ i, d ≠ .var i) → back (d :: ds) (a :: as) env = back ds as env := fun h => by
      cases d with
      | var i => exact absurd rfl (h i)
      | pd x => rfl
      | nt x => rfl
      | tmp c => rfl
    by_cases hd : ∃ i, d = .var i
    · obtain ⟨i, rfl⟩ := hd
      obtain ⟨m, c, h1⟩ := hm 0 i rfl
      obtain ⟨m', c', h2⟩ := hc 0 i rfl
      simp at h2
      subst h2
      have hi : i < env.length := (List.getElem?_eq_some_iff.mp h1).1
      have e : back (.var i :: ds) (.mu m' c' :: as) env = back ds as (env.set i (some (.mu m c'))) := by simp only [back, h1]
      have ni : ∀ k : Nat, ds[k]? ≠ some (.var i) := fun k z => by
        have := varsApart_get (ds := .var i :: ds) (k := 0) (l := k + 1) (i := i) hv rfl (by simpa using z)
        omega
      obtain ⟨b1, b2, b3⟩ := back_get (ds := ds) (as := as) (env := env.set i (some (.mu m c'))) hv' hl' (fun k j h => by
        obtain ⟨m1, c1, g⟩ := hm (k + 1) j (by simpa using h)
        have : i ≠ j := fun z => by subst z; exact ni k h
        exact ⟨m1, c1, by rw [List.getElem?_set_ne this]; exact g⟩) (fun k j h => by simpa using hc (k + 1) j (by simpa using h))
      rw [e]
      refine ⟨by simp [b1], fun j hj => ?_, fun k j m1 c1 m2 c2 g1 g2 g3 => ?_⟩
      · have n1 : i ≠ j := fun z => by subst z; exact hj 0 rfl
        rw [b2 j (fun k z => hj (k + 1) (by simpa using z)), List.getElem?_set_ne n1]
      · cases k with
        | zero =>
          simp at g1 g3
          subst g1
          rw [b2 _ ni, List.getElem?_set_self hi]
          rw [h1] at g2
          cases g2
          obtain ⟨_, rfl⟩ := g3
          rfl
        | succ k =>
          have g1' : ds[k]? = some (.var j) := by simpa using g1
          have n1 : i ≠ j := fun z => by subst z; exact ni k g1'
          exact b3 k j m1 c1 m2 c2 g1' (by rw [List.getElem?_set_ne n1]; exact g2) (by simpa using g3)
    · have hd' : ∀ i, d ≠ .var i := fun i z => hd ⟨i, z⟩
      rw [plain hd']
      obtain ⟨b1, b2, b3⟩ := back_get (ds := ds) (as := as) (env := env) hv' hl' (fun k j h => by simpa using hm (k + 1) j (by simpa using h)) (fun k j h => by simpa using hc (k + 1) j (by simpa using h))
      refine ⟨b1, fun j hj => b2 j (fun k z => hj (k + 1) (by simpa using z)), fun k j m1 c1 m2 c2 g1 g2 g3 => ?_⟩
      cases k with
      | zero => simp at g1; exact absurd g1 (hd' j)
      | succ k => exact b3 k j m1 c1 m2 c2 (by simpa using g1) g2 (by simpa using g3)

theorem rd_call {K : PySem.W.Frag} {F : FnD} {f : EA} {n : Nat} {σ : St} {H : Hp} {Q : VK} {E : XK} (hn : ∀ ds e e', f e = some (ds, e') → ds.length = n) (h : tE K (eCall F f) σ H Q) : tCall (spF K F n) [] E (tA K f) σ H Q := by
  obtain ⟨B, env, d, env', en, ev, q⟩ := h
  unfold eCall eThen at ev
  split at ev
  · cases ev
  rename_i ds e1 h1
  dsimp only at ev
  split at ev
  · cases ev
  rename_i as h2
  split at ev
  rotate_left
  · cases ev
  rename_i hv
  refine ⟨B, env, ds, e1, en, h1, fun B1 H1 vs a1 rr => ?_⟩
  have lds : ds.length = n := hn _ _ _ h1
  obtain ⟨la, ga⟩ := toArgs_get h2
  have hlv : vs.length = ds.length := rr.len
  have hls : as.length = vs.length := by omega
  show spF K F n (vs ++ []) H1 Q E
  rw [List.append_nil]
  -- what an argument is
  have kind : ∀ (k : Nat) s v, as[k]? = some s → vs[k]? = some v → (∃ x, s = .pd x ∧ Rp K B1 H1 v x ∧ ∃ d, ds[k]? = some d ∧ ∀ i, d ≠ .var i) ∨ (∃ x p, s = .nt x ∧ v = .ref p ∧ NtR K B1 H1 p x) ∨ (∃ c p, s = .mu .bor c ∧ ds[k]? = some (.tmp c) ∧ v = .ref p ∧ H p = none ∧ B1 p ∧ CtR K B1 H1 p c ∧ ∀ (i : Nat) m d, e1[i]? = some (some (S.mu m d)) → σ[i]? ≠ some (some (V.ref p))) ∨
      (∃ i m c p, s = .mu (if m = .fro then .fro else .bor) c ∧ ds[k]? = some (.var i) ∧ e1[i]? = some (some (.mu m c)) ∧ v = .ref p ∧ σ[i]? = some (some (.ref p)) ∧ B1 p ∧ CtR K B1 H1 p c) := by
    intro k s v hs hv'
    have hk : k < ds.length := by rw [← la]; exact (List.getElem?_eq_some_iff.mp hs).1
    obtain ⟨s', g1, g2⟩ := ga k ds[k] (List.getElem?_eq_getElem hk)
    rw [hs] at g1
    cases g1
    have hdk : ds[k]? = some ds[k] := List.getElem?_eq_getElem hk
    have hr := rr.each k v ds[k] hv' hdk
    revert g2 hr hdk
    generalize ds[k] = d
    intro g2 hdk hr
    cases d with
    | pd x => cases g2; exact .inl ⟨x, rfl, hr, _, hdk, fun _ => nofun⟩
    | nt x => cases g2; obtain ⟨p, e1, e2⟩ := hr; exact .inr (.inl ⟨x, p, rfl, e1, e2⟩)
    | tmp c =>
      cases g2
      obtain ⟨p, rfl, r1, r2, r3, r4⟩ := hr
      exact .inr (.inr (.inl ⟨c, p, rfl, hdk, rfl, r1, r2, r3, r4⟩))
    | var i =>
      simp only [toArg] at g2
      have hr : σ[i]? = some (some v) := hr
      split at g2
      · rename_i c hc
        cases g2
        obtain ⟨p, k1, k2, k3⟩ := a1.en.mu i _ _ hc
        rw [hr] at k1
        cases k1
        exact .inr (.inr (.inr ⟨i, .fro, c, p, by simp, hdk, hc, rfl, hr, k2, k3⟩))
      · rename_i m c hnf hc
        cases g2
        obtain ⟨p, k1, k2, k3⟩ := a1.en.mu i _ _ hc
        rw [hr] at k1
        cases k1
        refine .inr (.inr (.inr ⟨i, m, c, p, ?_, hdk, hc, rfl, hr, k2, k3⟩))
        have hm : m ≠ .fro := fun z => hnf z
        rw [if_neg hm]
      · cases g2
  have enA : EnvR K B1 H1 (vs.map some) (as.map some) := by
    refine ⟨by simp [hls], fun k x h => ?_, fun k x h => ?_, fun k m c h => ?_, fun k l m m' c c' p g1 g2 g3 g4 => ?_, a1.en.dom⟩
    · have h := map_get.mp h
      have hk : k < vs.length := by rw [← hls]; exact (List.getElem?_eq_some_iff.mp h).1
      have hvk : vs[k]? = some vs[k] := List.getElem?_eq_getElem hk
      rcases kind k _ _ h hvk with ⟨y, e, r, _⟩ | ⟨y, p, e, _⟩ | ⟨c, p, e, _⟩ | ⟨i, m, c, p, e, _⟩
      · cases e; exact ⟨vs[k], map_get.mpr hvk, r⟩
      · cases e
      · cases e
      · cases e
    · have h := map_get.mp h
      have hk : k < vs.length := by rw [← hls]; exact (List.getElem?_eq_some_iff.mp h).1
      have hvk : vs[k]? = some vs[k] := List.getElem?_eq_getElem hk
      rcases kind k _ _ h hvk with ⟨y, e, r, _⟩ | ⟨y, p, e, e2, r⟩ | ⟨c, p, e, _⟩ | ⟨i, m, c, p, e, _⟩
      · cases e
      · cases e; exact ⟨p, map_get.mpr (by rw [hvk, e2]), r⟩
      · cases e
      · cases e
    · have h := map_get.mp h
      have hk : k < vs.length := by rw [← hls]; exact (List.getElem?_eq_some_iff.mp h).1
      have hvk : vs[k]? = some vs[k] := List.getElem?_eq_getElem hk
      rcases kind k _ _ h hvk with ⟨y, e, r, _⟩ | ⟨y, p, e, _⟩ | ⟨c1, p, e, _, ev, _, r2, r3, _⟩ | ⟨i, m1, c1, p, e, _, _, ev, _, r2, r3⟩
      · cases e
      · cases e
      · cases e; exact ⟨p, map_get.mpr (by rw [hvk, ev]), r2, r3⟩
      · cases e; exact ⟨p, map_get.mpr (by rw [hvk, ev]), r2, r3⟩
    · have g1 := map_get.mp g1
      have g2 := map_get.mp g2
      have g3 := map_get.mp g3
      have g4 := map_get.mp g4
      rcases kind k _ _ g1 g3 with ⟨y, e, r, _⟩ | ⟨y, p, e, _⟩ | ⟨c1, p1, e, d1, ev1, _, _, _, n1⟩ | ⟨i1, m1, c1, p1, e, d1, s1, ev1, t1, _⟩
      · cases e
      · cases e
      · cases ev1
        rcases kind l _ _ g2 g4 with ⟨y, e', r, _⟩ | ⟨y, p, e', _⟩ | ⟨c2, p2, e', d2, ev2, _, _, _, n2⟩ | ⟨i2, m2, c2, p2, e', d2, s2, ev2, t2, _⟩
        · cases e'
        · cases e'
        · cases ev2
          by_cases z : k = l
          · exact z
          · exact (rr.apart k l _ _ _ z d1 d2 g3 g4).elim
        · cases ev2; exact absurd t2 (n1 _ _ _ s2)
      · cases ev1
        rcases kind l _ _ g2 g4 with ⟨y, e', r, _⟩ | ⟨y, p, e', _⟩ | ⟨c2, p2, e', d2, ev2, _, _, _, n2⟩ | ⟨i2, m2, c2, p2, e', d2, s2, ev2, t2, _⟩
        · cases e'
        · cases e'
        · cases ev2; exact absurd t1 (n2 _ _ _ s1)
        · cases ev2
          have z := a1.en.inj i1 i2 _ _ _ _ _ s1 s2 t1 t2
          subst z
          exact varsApart_get hv d1 d2
  split at ev
  · cases ev
  · cases ev
  rename_i d0 as1 hd0 hF
  cases ev
  refine ⟨by omega, B1, as, d, as1, enA, hF, fun B2 H2 v a2 r2 nv => ?_⟩
  have las1 : as1.length = vs.length := by simpa using a2.en.len
  have bk := back_get (ds := ds) (as := as1) (env := e1) hv (by omega) (fun k i h => by
      obtain ⟨s, g1, g2⟩ := ga k _ h
      simp only [toArg] at g2
      split at g2
      · rename_i hc; exact ⟨_, _, hc⟩
      · rename_i hc; exact ⟨_, _, hc⟩
      · cases g2) (fun k i h => by
      obtain ⟨s, g1, g2⟩ := ga k _ h
      have : ∃ m c, s = .mu m c := by
        simp only [toArg] at g2
        split at g2
        · cases g2; exact ⟨_, _, rfl⟩
        · cases g2; exact ⟨_, _, rfl⟩
        · cases g2
      obtain ⟨m, c, rfl⟩ := this
      obtain ⟨c', h'⟩ := a2.ks k m c (map_get.mpr g1)
      exact ⟨m, c', map_get.mp h'⟩)
  obtain ⟨bl, bo, bv⟩ := bk
  -- W of the call: of the caller's or new
  have wcall : ∀ p, Wof (vs.map some) (as.map some) p → (∃ (k i : Nat) (m : Md) (c : Ct), ds[k]? = some (R.var i) ∧ e1[i]? = some (some (S.mu m c)) ∧ m ≠ .fro ∧ σ[i]? = some (some (V.ref p))) ∨ (H p = none ∧ ∀ (i : Nat) m d, e1[i]? = some (some (S.mu m d)) → σ[i]? ≠ some (some (V.ref p))) := by
    rintro p ⟨k, m, c, g1, g2, g3⟩
    rcases kind k _ _ (map_get.mp g1) (map_get.mp g3) with ⟨y, e, r, _⟩ | ⟨y, p, e, _⟩ | ⟨c1, p1, e, d1, ev1, h0, _, _, n1⟩ | ⟨i1, m1, c1, p1, e, d1, s1, ev1, t1, _⟩
    · cases e
    · cases e
    · cases ev1; exact .inr ⟨h0, n1⟩
    · cases ev1
      cases e
      refine .inl ⟨k, i1, m1, _, d1, s1, fun z => ?_, t1⟩
      rw [if_pos z] at g2
      exact g2 rfl
  have wW : ∀ p, Wof (vs.map some) (as.map some) p → Wof σ env p ∨ H p = none := fun p w => by
    rcases wcall p w with ⟨k, i, m, c, g1, g2, g3, g4⟩ | ⟨h0, _⟩
    · exact a1.st.sub p ⟨i, m, c, g2, g3, g4⟩
    · exact .inr h0
  have same : ∀ (j : Nat) m c, (back ds as1 e1)[j]? = some (some (S.mu m c)) → ∃ c', e1[j]? = some (some (.mu m c')) := fun j m c h => by
    by_cases z : ∃ k : Nat, ds[k]? = some (.var j)
    · obtain ⟨k, hk⟩ := z
      obtain ⟨s, g1, g2⟩ := ga k _ hk
      have : ∃ m c, e1[j]? = some (some (.mu m c)) ∧ ∃ m', s = .mu m' c := by
        simp only [toArg] at g2
        split at g2
        · rename_i hc; cases g2; exact ⟨_, _, hc, _, rfl⟩
        · rename_i hc; cases g2; exact ⟨_, _, hc, _, rfl⟩
        · cases g2
      obtain ⟨m1, c1, h3, m2, rfl⟩ := this
      obtain ⟨c2, h4⟩ := a2.ks k m2 c1 (map_get.mpr g1)
      rw [bv k j m1 c1 m2 c2 hk h3 (map_get.mp h4)] at h
      cases h
      exact ⟨c1, h3⟩
    · rw [bo j (fun k hk => z ⟨k, hk⟩)] at h
      exact ⟨c, h⟩
  have same' : ∀ (j : Nat) m c, e1[j]? = some (some (S.mu m c)) → ∃ c', (back ds as1 e1)[j]? = some (some (.mu m c')) ∧ ((∀ k : Nat, ds[k]? ≠ some (.var j)) ∧ c' = c ∨ ∃ (k : Nat) (m' : Md), ds[k]? = some (R.var j) ∧ as1[k]? = some (S.mu m' c')) := fun j m c h => by
    by_cases z : ∃ k : Nat, ds[k]? = some (.var j)
    · obtain ⟨k, hk⟩ := z
      obtain ⟨s, g1, g2⟩ := ga k _ hk
      have : ∃ m', s = .mu m' c := by
        simp only [toArg] at g2
        split at g2
        · rename_i hc; rw [h] at hc; cases hc; cases g2; exact ⟨_, rfl⟩
        · rename_i hc; rw [h] at hc; cases hc; cases g2; exact ⟨_, rfl⟩
        · cases g2
      obtain ⟨m2, rfl⟩ := this
      obtain ⟨c2, h4⟩ := a2.ks k m2 c (map_get.mpr g1)
      exact ⟨c2, bv k j m c m2 c2 hk h (map_get.mp h4), .inr ⟨k, m2, hk, map_get.mp h4⟩⟩
    · exact ⟨c, by rw [bo j (fun k hk => z ⟨k, hk⟩)]; exact h, .inl ⟨fun k hk => z ⟨k, hk⟩, rfl⟩⟩
  have gr : Grow B1 H1 B2 H2 := a2.grow enA
  have enE : EnvR K B2 H2 σ (back ds as1 e1) := by
    refine ⟨by rw [bl]; exact a1.en.len, fun j x h => ?_, fun j x h => ?_, fun j m c h => ?_, fun j k m m' c c' p g1 g2 g3 g4 => ?_, a2.en.dom⟩
    · have h' : e1[j]? = some (some (.pd x)) := by
        by_cases z : ∃ k : Nat, ds[k]? = some (.var j)
        · obtain ⟨k, hk⟩ := z
          obtain ⟨s, g1, g2⟩ := ga k _ hk
          have : ∃ m c, e1[j]? = some (some (.mu m c)) := by
            simp only [toArg] at g2
            split at g2
            · rename_i hc; exact ⟨_, _, hc⟩
            · rename_i hc; exact ⟨_, _, hc⟩
            · cases g2
          obtain ⟨m, c, h3⟩ := this
          obtain ⟨c', h4, _⟩ := same' j m c h3
          rw [h4] at h
          cases h
        · rw [bo j (fun k hk => z ⟨k, hk⟩)] at h; exact h
      obtain ⟨w, g1, g2⟩ := a1.en.pd j x h'
      exact ⟨w, g1, g2.grow gr⟩
    · have h' : e1[j]? = some (some (.nt x)) := by
        by_cases z : ∃ k : Nat, ds[k]? = some (.var j)
        · obtain ⟨k, hk⟩ := z
          obtain ⟨s, g1, g2⟩ := ga k _ hk
          have : ∃ m c, e1[j]? = some (some (.mu m c)) := by
            simp only [toArg] at g2
            split at g2
            · rename_i hc; exact ⟨_, _, hc⟩
            · rename_i hc; exact ⟨_, _, hc⟩
            · cases g2
          obtain ⟨m, c, h3⟩ := this
          obtain ⟨c', h4, _⟩ := same' j m c h3
          rw [h4] at h
          cases h
        · rw [bo j (fun k hk => z ⟨k, hk⟩)] at h; exact h
      obtain ⟨w, g1, g2⟩ := a1.en.nt j x h'
      exact ⟨w, g1, g2.grow gr⟩
    · obtain ⟨c0, h0⟩ := same j m c h
      obtain ⟨p, g1, g2, g3⟩ := a1.en.mu j m c0 h0
      obtain ⟨c', h4, hc⟩ := same' j m c0 h0
      rw [h] at h4
      cases h4
      rcases hc with ⟨hno, rfl⟩ | ⟨k, m', hk, ha⟩
      · have nw : ¬ Wof (vs.map some) (as.map some) p := fun w => by
          rcases wcall p w with ⟨k, i, m1, c1, k1, k2, k3, k4⟩ | ⟨_, hns⟩
          · have z := a1.en.inj j i _ _ _ _ p h0 k2 g1 k4
            subst z
            exact hno k k1
          · exact hns j m _ h0 g1
        exact ⟨p, g1, a2.st.old p g2 nw, g3.keep a2.st enA.wb nw⟩
      · obtain ⟨p', k1, k2, k3⟩ := a2.en.mu k m' c (map_get.mpr ha)
        have hvk : vs[k]? = some (.ref p') := map_get.mp k1
        have := rr.each k _ _ hvk hk
        have this : σ[j]? = some (some (.ref p')) := this
        rw [g1] at this
        cases this
        exact ⟨p, g1, k2, k3⟩
    · obtain ⟨c1, h1'⟩ := same j m c g1
      obtain ⟨c2, h2'⟩ := same k m' c' g2
      exact a1.en.inj j k m m' c1 c2 p h1' h2' g3 g4
  refine q B2 H2 v ⟨⟨fun p o h c => ?_, fun p h => ?_, fun p h w => ?_, fun p w => ?_, fun p h => a1.st.liv p (a2.st.liv p h)⟩, enE, fun j m c h => ?_, fun j m c h => ?_⟩ ?_
  · refine a2.st.keep p o (a1.st.keep p o h c) ?_
    rcases c with c | c
    · refine .inl fun w => ?_
      rcases wW p w with w | w
      · exact c w
      · rw [h] at w; cases w
    · exact .inr c
  · rcases a2.st.new p h with h | h
    · exact a1.st.new p h
    · exact .inr (a1.st.liv p h)
  · refine a2.st.old p (a1.st.old p h w) fun w' => ?_
    rcases wW p w' with z | z
    · exact w z
    · obtain ⟨o, ho⟩ := en.dom p h
      rw [z] at ho; cases ho
  · obtain ⟨j, m, c, g1, g2, g3⟩ := w
    obtain ⟨c0, h0⟩ := same j m c g1
    exact a1.st.sub p ⟨j, m, c0, h0, g2, g3⟩
  · obtain ⟨c0, h0⟩ := same j m c h
    exact a1.sm j m c0 h0
  · obtain ⟨c0, h0⟩ := a1.ks j m c h
    obtain ⟨c', h4, _⟩ := same' j m c0 h0
    exact ⟨c', h4⟩
  · cases d with
    | pd x => exact r2
    | nt x => exact r2
    | var i => exact absurd rfl (nv i)
    | tmp c =>
      obtain ⟨p, rfl, k1, k2, k3, k4⟩ := r2
      refine ⟨p, rfl, a1.st.liv p k1, k2, k3, fun j m d h1 h2 => ?_⟩
      obtain ⟨c0, h0⟩ := same j m d h1
      obtain ⟨p', g1, g2, g3⟩ := a1.en.mu j m c0 h0
      rw [h2] at g1
      cases g1
      obtain ⟨o, ho⟩ := a1.en.dom p g2
      rw [k1] at ho; cases ho
end T3

end
section
set_option linter.all false
set_option autoImplicit false
set_option Elab.async false
namespace T3
open PySem L2

theorem small {n : Nat} (h : n ≤ 1000000) : n < sizeLine := by rw [sizeLine_eq]; omega

/-! ### comprehensions -/
def wipeE (env : Sl) : List Nat → Sl
  | [] => env
  | v :: vs => (wipeE env vs).set v none
def unwipe (env : Sl) (e : Sl) : List Nat → Sl
  | [] => e
  | v :: vs => (unwipe env e vs).set v (env.getD v none)
theorem wipeE_len {env : Sl} : ∀ {vs : List Nat}, (wipeE env vs).length = env.length
  | [] => rfl
  | v :: vs => by simp [wipeE, wipeE_len (vs := vs)]
theorem wipeE_in {env : Sl} {s : S} : ∀ {vs : List Nat} {i : Nat}, (wipeE env vs)[i]? = some (some s) → i ∉ vs ∧ env[i]? = some (some s)
  | [], i, h => ⟨by simp, h⟩
  | v :: vs, i, h => by
    unfold wipeE at h
    rcases get_set h with ⟨e, e'⟩ | ⟨e, h⟩
    · cases e'
    · obtain ⟨h1, h2⟩ := wipeE_in h
      exact ⟨by simp only [List.mem_cons, not_or]; exact ⟨fun z => e z.symm, h1⟩, h2⟩
theorem wipeE_out {env : Sl} : ∀ {vs : List Nat} {i : Nat}, i ∉ vs → (wipeE env vs)[i]? = env[i]?
  | [], i, h => rfl
  | v :: vs, i, h => by
    simp only [List.mem_cons, not_or] at h
    unfold wipeE
    rw [List.getElem?_set_ne (fun z => h.1 z.symm), wipeE_out h.2]
theorem wipe_out {σ : St} : ∀ {vs : List Nat} {i : Nat}, i ∉ vs → (wipe σ vs)[i]? = σ[i]?
  | [], i, h => rfl
  | v :: vs, i, h => by
    simp only [List.mem_cons, not_or] at h
    unfold wipe
    rw [List.getElem?_set_ne (fun z => h.1 z.symm), wipe_out h.2]
theorem unwipe_len {env e : Sl} : ∀ {vs : List Nat}, (unwipe env e vs).length = e.length
  | [] => rfl
  | v :: vs => by simp [unwipe, unwipe_len (vs := vs)]
theorem unwipe_out {env e : Sl} : ∀ {vs : List Nat} {i : Nat}, i ∉ vs → (unwipe env e vs)[i]? = e[i]?
  | [], i, h => rfl
  | v :: vs, i, h => by
    simp only [List.mem_cons, not_or] at h
    unfold unwipe
    rw [List.getElem?_set_ne (fun z => h.1 z.symm), unwipe_out h.2]
theorem unwipe_in {env e : Sl} (hl : e.length = env.length) : ∀ {vs : List Nat} {i : Nat}, i ∈ vs → (unwipe env e vs)[i]? = env[i]?
  | [], i, h => by simp at h
  | v :: vs, i, h => by
    unfold unwipe
    by_cases z : v = i
    · subst z
      by_cases q : v < e.length
      · rw [List.getElem?_set_self (by rw [unwipe_len]; exact q)]
        rw [List.getD_eq_getElem?_getD, List.getElem?_eq_getElem (by omega)]
        rfl
      · rw [List.getElem?_eq_none (by simp [unwipe_len]; omega), List.getElem?_eq_none (by omega)]
    · rw [List.getElem?_set_ne z]
      refine unwipe_in hl ?_
      simp only [List.mem_cons] at h
      rcases h with h | h
      · exact absurd h.symm z
      · exact h
/-- a target that sets these slots alone -/
def Only (g : GG) (vs : List Nat) : Prop := ∀ x e e', g x e = some e' → ∀ j, j ∉ vs → e'[j]? = e[j]?
def tGv (K : PySem.W.Frag) (g : GG) (vs : List Nat) : TG := fun v σ H Q => ∃ B env x env', EnvR K B H σ env ∧ Rp K B H v x ∧ g x env = some env' ∧ ∀ B' σ' H', AtS K σ B H env σ' B' H' env' → wipe σ' vs = wipe σ vs → Q σ' H'
theorem wipe_set {σ : St} {x : Option V} : ∀ {vs : List Nat} {i : Nat}, i ∈ vs → wipe (σ.set i x) vs = wipe σ vs
  | [], i, h => by simp at h
  | v :: vs, i, h => by
    unfold wipe
    by_cases z : i ∈ vs
    · rw [wipe_set z]
    · have e : i = v := by
        simp only [List.mem_cons] at h
        rcases h with h | h
        · exact h
        · exact absurd h z
      subst e
      have : ∀ {ws : List Nat}, i ∉ ws → wipe (σ.set i x) ws = (wipe σ ws).set i x := by
        intro ws
        induction ws with
        | nil => intro _; rfl
        | cons w ws ih =>
          intro hw
          simp only [List.mem_cons, not_or] at hw
          show (wipe (σ.set i x) ws).set w none = ((wipe σ ws).set w none).set i x
          rw [ih hw.2, List.set_comm _ _ hw.1]
      rw [this z, List.set_set]
theorem wipe_set_out {σ : St} {i : Nat} {x : Option V} : ∀ {ws : List Nat}, wipe (σ.set i x) ws = if i ∈ ws then wipe σ ws else (wipe σ ws).set i x := fun {ws} => by
  by_cases h : i ∈ ws
  · rw [if_pos h, wipe_set h]
  · rw [if_neg h]
    induction ws with
    | nil => rfl
    | cons w ws ih =>
      simp only [List.mem_cons, not_or] at h
      show (wipe (σ.set i x) ws).set w none = ((wipe σ ws).set w none).set i x
      rw [ih h.2, List.set_comm _ _ h.1]
theorem wipe_idem {σ : St} : ∀ {vs : List Nat}, wipe (wipe σ vs) vs = wipe σ vs := fun {vs} => by
  have : ∀ (us ws : List Nat), (∀ u ∈ us, u ∈ ws) → wipe (wipe σ us) ws = wipe σ ws := by
    intro us
    induction us with
    | nil => intro ws _; rfl
    | cons u us ih =>
      intro ws h
      show wipe ((wipe σ us).set u none) ws = wipe σ ws
      rw [wipe_set (h u (by simp)), ih ws (fun z hz => h z (by simp [hz]))]
  exact this vs vs (fun _ h => h)
theorem rd_gNv {K : PySem.W.Frag} {i : Nat} {vs : List Nat} (hi : i ∈ vs) {v : V} {σ : St} {H : Hp} {Q : St → Hp → Prop} (h : tGv K (gN i) vs v σ H Q) : gName i v σ H Q := by
  obtain ⟨B, env, x, env', en, r, ev, q⟩ := h
  exact q B _ H (AtS.set en (.refl en) (d := .pd x) r ev) (wipe_set hi)
theorem only_gN {i : Nat} {vs : List Nat} (hi : i ∈ vs) : Only (gN i) vs := by
  intro x e e' h j hj
  have hij : i ≠ j := fun z => by subst z; exact hj hi
  simp only [gN, setR] at h
  split at h
  · cases h; rw [List.getElem?_set_ne hij]
  · cases h
def tGsv (K : PySem.W.Frag) (g : GGs) (vs : List Nat) : TGs := fun ws σ H Q => ∃ B env xs env', EnvR K B H σ env ∧ RpA K B H ws xs ∧ g xs env = some env' ∧ ∀ B' σ' H', AtS K σ B H env σ' B' H' env' → wipe σ' vs = wipe σ vs → Q σ' H'
def OnlyS (g : GGs) (vs : List Nat) : Prop := ∀ x e e', g x e = some e' → ∀ j, j ∉ vs → e'[j]? = e[j]?
theorem rd_gNlv {K : PySem.W.Frag} {us : List Nat} {vs : List V} {σ : St} {H : Hp} {Q : St → Hp → Prop} (h : tGsv K gNl us vs σ H Q) : gNil vs σ H Q := by
  obtain ⟨B, env, x, env', en, r, ev, q⟩ := h
  unfold gNl at ev
  split at ev
  · cases ev; cases r; exact ⟨rfl, q B _ H (.refl en) rfl⟩
  · cases ev
theorem rd_gCnv {K : PySem.W.Frag} {us : List Nat} {g : GG} {gs : GGs} {vs : List V} {σ : St} {H : Hp} {Q : St → Hp → Prop} (h : tGsv K (gCn g gs) us vs σ H Q) : gCons (tGv K g us) (tGsv K gs us) vs σ H Q := by
  obtain ⟨B, env, xs, env', en, r, ev, q⟩ := h
  unfold gCn at ev
  split at ev
  · cases ev
  rename_i x xs
  split at ev
  · cases ev
  rename_i e1 h1
  cases r with
  | cons r1 r2 =>
    exact ⟨_, _, rfl, B, env, x, e1, en, r1, h1, fun B1 σ1 H1 a1 w1 => ⟨B1, e1, xs, env', a1.en, r2.grow (a1.st.grow en.wb), ev, fun B2 σ2 H2 a2 w2 => q B2 σ2 H2 (a1.trans en a2) (w2.trans w1)⟩⟩
theorem rd_gTv {K : PySem.W.Frag} {us : List Nat} {n : Nat} {gs : GGs} {v : V} {σ : St} {H : Hp} {Q : St → Hp → Prop} (h : tGv K (gT n gs) us v σ H Q) : gTup K n (tGsv K gs us) v σ H Q := by
  obtain ⟨B, env, x, env', en, r, ev, q⟩ := h
  unfold gT at ev
  split at ev
  · split at ev
    · rename_i xs hl
      obtain ⟨a, vs, rfl, h1, h2⟩ := Cn.tuple (.rp r)
      exact ⟨a, vs, rfl, h1, by rw [h2.length]; exact hl, B, env, xs, env', en, h2, ev, q⟩
    · cases ev
  · cases ev
theorem only_gNl {vs : List Nat} : OnlyS gNl vs := by
  intro x e e' h j hj
  unfold gNl at h
  split at h
  · cases h; rfl
  · cases h
theorem only_gCn {vs : List Nat} {g : GG} {gs : GGs} (h1 : Only g vs) (h2 : OnlyS gs vs) : OnlyS (gCn g gs) vs := by
  intro x e e' h j hj
  unfold gCn at h
  split at h
  · cases h
  split at h
  · cases h
  rename_i e1 k1
  rw [h2 _ _ _ h j hj, h1 _ _ _ k1 j hj]
theorem only_gT {vs : List Nat} {n : Nat} {gs : GGs} (h1 : OnlyS gs vs) : Only (gT n gs) vs := by
  intro x e e' h j hj
  unfold gT at h
  split at h
  · split at h
    · exact h1 _ _ _ h j hj
    · cases h
  · cases h

theorem EnvR.wiped {K : PySem.W.Frag} {B : Mset} {H : Hp} {σ : St} {env : Sl} (en : EnvR K B H σ env) (vs : List Nat) : EnvR K B H (wipe σ vs) (wipeE env vs) := by
  refine ⟨by rw [wipeE_len, wipe_length]; exact en.len, fun i x h => ?_, fun i x h => ?_, fun i m c h => ?_, fun i j m n c d a h1 h2 h3 h4 => ?_, en.dom⟩
  · obtain ⟨h1, h2⟩ := wipeE_in h
    rw [wipe_out h1]
    exact en.pd i x h2
  · obtain ⟨h1, h2⟩ := wipeE_in h
    rw [wipe_out h1]
    exact en.nt i x h2
  · obtain ⟨h1, h2⟩ := wipeE_in h
    rw [wipe_out h1]
    exact en.mu i m c h2
  · obtain ⟨k1, k2⟩ := wipeE_in h1
    obtain ⟨k3, k4⟩ := wipeE_in h2
    rw [wipe_out k1] at h3
    rw [wipe_out k3] at h4
    exact en.inj i j m n c d a k2 k4 h3 h4
/-- back out of the block -/
theorem At.unwiped {K : PySem.W.Frag} {σ σ2 : St} {B B2 B4 : Mset} {H H2 H4 : Hp} {e e2 e4 : Sl} {vs : List Nat} (en : EnvR K B H σ e) (a : AtS K (wipe σ vs) B H (wipeE e vs) σ2 B2 H2 e2) (hw : wipe σ2 vs = wipe σ vs) (ho : ∀ j, j ∉ vs → e2[j]? = (wipeE e vs)[j]?)
    (b : At K σ2 B2 H2 e2 B4 H4 e4) : At K σ B H e B4 H4 (unwipe e e4 vs) := by
  have ew := en.wiped vs
  have t : Stp (Wof (wipe σ vs) (wipeE e vs)) B H (Wof σ2 e4) B4 H4 := a.st.trans b.st ew.wb ew.dom
  have hσ : ∀ j, j ∉ vs → σ2[j]? = σ[j]? := fun j hj => by rw [← wipe_out hj, hw, wipe_out hj]
  have l2 : e2.length = e.length := by rw [a.en.len, ← wipe_length σ2 vs, hw, wipe_length, en.len]
  have l4 : e4.length = e.length := by rw [b.en.len, ← a.en.len, l2]
  have wsub : ∀ p, Wof (wipe σ vs) (wipeE e vs) p → Wof σ e p := by
    rintro p ⟨i, m, c, h1, h2, h3⟩
    obtain ⟨k1, k2⟩ := wipeE_in h1
    rw [wipe_out k1] at h3
    exact ⟨i, m, c, k2, h2, h3⟩
  have hid : ∀ {i p}, i ∈ vs → (∃ m c, e[i]? = some (some (S.mu m c))) → σ[i]? = some (some (.ref p)) → ¬ Wof (wipe σ vs) (wipeE e vs) p := by
    rintro i p hi ⟨m, c, hm⟩ hp ⟨j, m1, c1, h1, h2, h3⟩
    obtain ⟨k1, k2⟩ := wipeE_in h1
    rw [wipe_out k1] at h3
    have z := en.inj i j _ _ _ _ p hm k2 hp h3
    subst z
    exact k1 hi
  have vis : ∀ (i : Nat) m c, i ∉ vs → e4[i]? = some (some (S.mu m c)) → ∃ c', e[i]? = some (some (.mu m c')) := fun i m c hi h => by
    obtain ⟨c1, h1⟩ := b.sm i m c h
    rw [ho i hi, wipeE_out hi] at h1
    exact ⟨c1, h1⟩
  have src : ∀ (i : Nat) m c, (unwipe e e4 vs)[i]? = some (some (S.mu m c)) → ∃ c', e[i]? = some (some (.mu m c')) := fun i m c h => by
    by_cases hi : i ∈ vs
    · rw [unwipe_in l4 hi] at h; exact ⟨c, h⟩
    · rw [unwipe_out hi] at h; exact vis i m c hi h
  refine ⟨⟨fun q o h c => t.keep q o h (c.imp (fun n w => n (wsub q w)) id), t.new, fun q h w => t.old q h fun w' => w (wsub q w'), fun q w => ?_, t.liv⟩, ⟨by rw [unwipe_len, l4, en.len], fun i x h => ?_, fun i x h => ?_, fun i m c h => ?_, fun i j m n c d p h1 h2 h3 h4 => ?_, b.en.dom⟩, src, fun i m c h => ?_⟩
  · obtain ⟨i, m, c, h1, h2, h3⟩ := w
    obtain ⟨c', h4⟩ := src i m c h1
    exact .inl ⟨i, m, c', h4, h2, h3⟩
  · by_cases hi : i ∈ vs
    · rw [unwipe_in l4 hi] at h
      obtain ⟨v, k1, k2⟩ := en.pd i x h
      exact ⟨v, k1, k2.grow (t.grow ew.wb)⟩
    · rw [unwipe_out hi] at h
      obtain ⟨v, k1, k2⟩ := b.en.pd i x h
      rw [hσ i hi] at k1
      exact ⟨v, k1, k2⟩
  · by_cases hi : i ∈ vs
    · rw [unwipe_in l4 hi] at h
      obtain ⟨v, k1, k2⟩ := en.nt i x h
      exact ⟨v, k1, k2.grow (t.grow ew.wb)⟩
    · rw [unwipe_out hi] at h
      obtain ⟨v, k1, k2⟩ := b.en.nt i x h
      rw [hσ i hi] at k1
      exact ⟨v, k1, k2⟩
  · by_cases hi : i ∈ vs
    · rw [unwipe_in l4 hi] at h
      obtain ⟨p, k1, k2, k3⟩ := en.mu i m c h
      have nw := hid hi ⟨m, c, h⟩ k1
      exact ⟨p, k1, t.old p k2 nw, k3.keep t ew.wb nw⟩
    · rw [unwipe_out hi] at h
      obtain ⟨p, k1, k2, k3⟩ := b.en.mu i m c h
      rw [hσ i hi] at k1
      exact ⟨p, k1, k2, k3⟩
  · obtain ⟨c1, g1⟩ := src i m c h1
    obtain ⟨c2, g2⟩ := src j n d h2
    exact en.inj i j m n c1 c2 p g1 g2 h3 h4
  · by_cases hi : i ∈ vs
    · exact ⟨c, by rw [unwipe_in l4 hi]; exact h⟩
    · have h1 : e2[i]? = some (some (.mu m c)) := by rw [ho i hi, wipeE_out hi]; exact h
      obtain ⟨c', h2⟩ := b.ks i m c h1
      exact ⟨c', by rw [unwipe_out hi]; exact h2⟩
/-- the new list grows -/
theorem At.app {K : PySem.W.Frag} {σ : St} {B B4 : Mset} {H H4 : Hp} {e e4 : Sl} {D : Addr} {ws ws' : List V} (en : EnvR K B H σ e) (a : At K σ B H e B4 H4 e4) (nD : H D = none) (bD : B4 D) (hD : H4 D = some (.lst ws)) (sD : ∀ (i : Nat) m d, e4[i]? = some (some (S.mu m d)) → σ[i]? ≠ some (some (V.ref D)))
    (fz : Mset) (hf : ∀ q, fz q → q ≠ D ∧ H q = none ∧ ∀ (i : Nat) m d, e4[i]? = some (some (S.mu m d)) → σ[i]? ≠ some (some (V.ref q))) :
    Grow B4 H4 (fun q => B4 q ∧ ¬ fz q) (upd H4 D (.lst ws')) ∧ At K σ B H e (fun q => B4 q ∧ ¬ fz q) (upd H4 D (.lst ws')) e4 := by
  have g : Grow B4 H4 (fun q => B4 q ∧ ¬ fz q) (upd H4 D (.lst ws')) := by
    refine ⟨fun q o h c => ?_, fun q h => .inl h.1⟩
    have : q ≠ D := fun z => by
      subst z
      rcases c with c | c
      · exact c bD
      · rw [hD] at h; cases h; exact c
    rw [upd_ne this]; exact h
  refine ⟨g, ⟨fun q o h c => ?_, fun q h => a.st.new q h.1, fun q h w => ⟨a.st.old q h w, fun f => ?_⟩, a.st.sub, fun q h => ?_⟩, ⟨a.en.len, fun i x h => ?_, fun i x h => ?_, fun i m c h => ?_, a.en.inj, fun q h => ?_⟩, a.sm, a.ks⟩
  · have : q ≠ D := fun z => by rw [z, nD] at h; cases h
    rw [upd_ne this]; exact a.st.keep q o h c
  · obtain ⟨o, ho⟩ := en.dom q h
    rw [(hf q f).2.1] at ho; cases ho
  · by_cases z : q = D
    · rw [z]; exact nD
    · rw [upd_ne z] at h; exact a.st.liv q h
  · obtain ⟨v, k1, k2⟩ := a.en.pd i x h
    exact ⟨v, k1, k2.grow g⟩
  · obtain ⟨v, k1, k2⟩ := a.en.nt i x h
    exact ⟨v, k1, k2.grow g⟩
  · obtain ⟨p, k1, k2, k3⟩ := a.en.mu i m c h
    have np : p ≠ D := fun z => by subst z; exact sD i m c h k1
    refine ⟨p, k1, ⟨k2, fun f => (hf p f).2.2 i m c h k1⟩, ?_⟩
    cases c with
    | ls xs => obtain ⟨vs, h4, h5⟩ := k3; exact ⟨vs, by rw [upd_ne np]; exact h4, h5.grow g⟩
    | dk xs => obtain ⟨vs, h4, h5⟩ := k3; exact ⟨vs, by rw [upd_ne np]; exact h4, h5.grow g⟩
    | dn xs => obtain ⟨vs, h4, h5⟩ := k3; exact ⟨vs, by rw [upd_ne np]; exact h4, h5.grow g⟩
  · by_cases z : q = D
    · rw [z]; exact ⟨_, upd_same⟩
    · rw [upd_ne z]; exact a.en.dom q h.1

def lcL (g : GG) (t : EB) (f : EE) (vs : List Nat) : List PyData → Sl → List PyData → Option (List PyData × Sl)
  | [], env, acc => some (acc, env)
  | x :: xs, env, acc => match g x (wipeE env vs) with
    | none => none
    | some e1 => match t e1 with
      | none => none
      | some (b, e2) => if b = true then match f e2 with
          | none => none
          | some (d, e3) => match data1 d with
            | none => none
            | some y => lcL g t f vs xs (unwipe env e3 vs) (acc ++ [y])
        else lcL g t f vs xs (unwipe env e2 vs) acc
def eLc (it : EI) (g : GG) (t : EB) (f : EE) (vs : List Nat) : EE := fun env => match it env with
  | none => none
  | some (xs, lk, e1) => if xs.length ≤ 1000000 then match lcL g t f vs xs e1 [] with
      | none => none
      | some (acc, e2) => some (.tmp (.ls acc), unlock lk e2)
    else none
/-- no if -/
def bYes : EB := fun env => some (true, env)
theorem rd_yes {K : PySem.W.Frag} {σ : St} {H : Hp} {Q : Bool → Hp → Prop} (h : tT K bYes σ H Q) : tYes σ H Q := by
  obtain ⟨B, env, b, env', en, ev, q⟩ := h
  cases ev
  exact q B H (.refl en)
theorem At.through {K : PySem.W.Frag} {σ : St} {B B1 B2 : Mset} {H H1 H2 : Hp} {env e1 e1' e2 : Sl} {lk : Lk} (en : EnvR K B H σ env) (a : At K σ B H env B1 H1 e1) (l : Locked lk e1 e1') (b : At K σ B1 H1 e1' B2 H2 e2) : At K σ B H env B2 H2 (unlock lk e2) := by
  have h := AtS.through en a l b.s
  refine ⟨h.st, h.en, ?_, ?_⟩
  · cases lk with
    | none =>
      cases l
      exact fun i m c q => let ⟨c1, h1⟩ := b.sm i m c q; a.sm i m c1 h1
    | some p =>
      obtain ⟨i, m⟩ := p
      obtain ⟨c, h1, rfl⟩ := l
      have hi : i < e1.length := (List.getElem?_eq_some_iff.mp h1).1
      obtain ⟨c2, h2⟩ := b.ks i .fro c (by rw [List.getElem?_set_self hi])
      have eu : unlock (some (i, m)) e2 = e2.set i (some (.mu m c2)) := by simp only [unlock, h2]
      rw [eu]
      intro j n d q
      rcases get_set q with ⟨z, z'⟩ | ⟨z, q⟩
      · cases z'; subst z; exact a.sm i m c h1
      · obtain ⟨d1, q1⟩ := b.sm j n d q
        rw [List.getElem?_set_ne z] at q1
        exact a.sm j n d1 q1
  · cases lk with
    | none =>
      cases l
      exact fun i m c q => let ⟨c1, h1⟩ := a.ks i m c q; b.ks i m c1 h1
    | some p =>
      obtain ⟨i, m⟩ := p
      obtain ⟨c, h1, rfl⟩ := l
      have hi : i < e1.length := (List.getElem?_eq_some_iff.mp h1).1
      obtain ⟨c2, h2⟩ := b.ks i .fro c (by rw [List.getElem?_set_self hi])
      have hi2 : i < e2.length := (List.getElem?_eq_some_iff.mp h2).1
      have eu : unlock (some (i, m)) e2 = e2.set i (some (.mu m c2)) := by simp only [unlock, h2]
      rw [eu]
      intro j n d q
      obtain ⟨d1, q1⟩ := a.ks j n d q
      by_cases z : i = j
      · subst z
        rw [h1] at q1
        cases q1
        exact ⟨c2, by rw [List.getElem?_set_self hi2]⟩
      · obtain ⟨d2, q2⟩ := b.ks j n d1 (by rw [List.getElem?_set_ne z]; exact q1)
        exact ⟨d2, by rw [List.getElem?_set_ne z]; exact q2⟩

theorem rd_lc {K : PySem.W.Frag} {it : EI} {g : GG} {t : EB} {f : EE} {vs : List Nat} (hg : Only g vs) {σ : St} {H : Hp} {Q : VK} (h : tE K (eLc it g t f vs) σ H Q) : tLc (tI K it) (tGv K g vs) (tT K t) (tE K f) vs σ H Q := by
  obtain ⟨B, env, d, env', en, ev, q⟩ := h
  unfold eLc at ev
  split at ev
  · cases ev
  rename_i xs lk e1 h1
  split at ev
  rotate_left
  · cases ev
  rename_i hlen
  split at ev
  · cases ev
  rename_i accF e2 h2
  cases ev
  refine ⟨B, env, xs, lk, e1, en, h1, fun B1 H1 J pr G e0 a1 lkd wk g0 hpr D nD => ?_⟩
  have en1 : EnvR K B1 H1 σ e1 := lkd.en a1.en
  have stays : ∀ {Bi Hi ei}, At K σ B1 H1 e1 Bi Hi ei → G Bi Hi := fun {Bi Hi ei} a => wk.keep _ _ _ _ _ _ g0 a.st en1.wb fun x hx => (hpr x hx).1
  have slotNone : ∀ {Bi Hi ei}, At K σ B1 H1 e1 Bi Hi ei → ∀ p, H1 p = none → ∀ (i : Nat) m d, ei[i]? = some (some (S.mu m d)) → σ[i]? ≠ some (some (V.ref p)) := fun {Bi Hi ei} a p np i m d h3 h4 => by
    obtain ⟨c0, k0⟩ := a.sm i m d h3
    obtain ⟨p', k1, k2, _⟩ := en1.mu i m c0 k0
    rw [h4] at k1
    cases k1
    obtain ⟨o, ho⟩ := en1.dom p k2
    rw [np] at ho; cases ho
  let Iv : Nat → Hp → List PyData → Sl → Mset → Prop := fun i Hi acc ei Bi => At K σ B1 H1 e1 Bi Hi ei ∧ Bi D ∧ acc.length ≤ i ∧ (∃ ws, Hi D = some (.lst ws) ∧ RpA K Bi Hi ws acc) ∧ lcL g t f vs (xs.drop i) ei acc = some (accF, e2)
  refine ⟨fun i m Hi => i ≤ xs.length ∧ m = xs.length - i ∧ ∃ acc ei Bi, Iv i Hi acc ei Bi, ⟨_, Nat.zero_le _, rfl, [], e1, (fun q => (B1 q ∧ ¬ False) ∨ (True ∧ q = D)), ?_⟩, ?_⟩
  · obtain ⟨_, a2⟩ := (At.refl en1).alloc en1 nD (.lst []) True (fun _ => False) (fun _ z => z.elim)
    exact ⟨a2, .inr ⟨trivial, rfl⟩, Nat.le_refl _, ⟨[], upd_same, .nil⟩, h2⟩
  rintro i m Hi ⟨hi, rfl, acc, ei, Bi, ai, bD, hacc, ⟨ws, hD, rw_⟩, fi⟩
  have gi := stays ai
  by_cases hlt : i < xs.length
  · have hd : xs.drop i = xs[i] :: xs.drop (i + 1) := List.drop_eq_getElem_cons hlt
    rw [hd] at fi
    unfold lcL at fi
    split at fi
    · cases fi
    rename_i e3 h3
    refine .inr ⟨wk.go i Bi Hi gi hlt, fun H' => ∃ acc ei Bi, Iv (i + 1) H' acc ei Bi, fun H' ⟨acc', e', B', z⟩ => ⟨xs.length - (i + 1), by omega, hlt, rfl, acc', e', B', z⟩, fun x H' hy => ?_⟩
    obtain ⟨hH, rx⟩ := wk.yld i Bi Hi x H' xs[i] gi (List.getElem?_eq_getElem hlt) hy
    have ay : At K σ Bi Hi ei Bi H' ei := by
      rcases hH with e | ⟨T, vs, nT, e⟩
      · subst e; exact .refl ai.en
      · subst e; exact At.pair ai.en nT
    have ai' : At K σ B1 H1 e1 Bi H' ei := ai.trans en1 ay
    have hD' : H' D = some (.lst ws) := by
      rcases hH with e | ⟨T, us, nT, e⟩
      · rw [e]; exact hD
      · rw [e, upd_ne (fun z => by rw [← z, hD] at nT; cases nT)]; exact hD
    have rw' : RpA K Bi H' ws acc := rw_.grow (ay.grow ai.en)
    refine ⟨Bi, wipeE ei vs, xs[i], e3, ay.en.wiped vs, rx, h3, fun B3 σ3 H3 a3 w3' => ?_⟩
    have w3 : wipe σ3 vs = wipe σ vs := w3'.trans wipe_idem
    refine ⟨w3, ?_⟩
    have ho : ∀ j, j ∉ vs → e3[j]? = (wipeE ei vs)[j]? := hg _ _ _ h3
    -- what lies behind some step of the block
    have out : ∀ {B4 H4 e4}, At K σ3 B3 H3 e3 B4 H4 e4 → At K σ B1 H1 e1 B4 H4 (unwipe ei e4 vs) ∧ B4 D ∧ H4 D = some (.lst ws) ∧ RpA K B4 H4 ws acc := fun {B4 H4 e4} b => by
      have u := At.unwiped ay.en a3 w3 ho b
      have nw : ¬ Wof σ ei D := by
        rintro ⟨j, m, c, k1, _, k3⟩
        exact slotNone ai' D nD j m c k1 k3
      exact ⟨ai'.trans en1 u, u.st.old D bD nw, u.st.keep D _ hD' (.inl nw), rw'.grow (u.grow ay.en)⟩
    split at fi
    · cases fi
    rename_i b e4 h4
    refine ⟨B3, e3, b, e4, a3.en, h4, fun B4 H4 a4 => ?_⟩
    cases b with
    | false =>
      simp at fi ⊢
      obtain ⟨o1, o2, o3, o4⟩ := out a4
      exact ⟨acc, _, B4, o1, o2, by omega, ⟨ws, o3, o4⟩, fi⟩
    | true =>
      simp at fi ⊢
      split at fi
      · cases fi
      rename_i d e5 h5
      split at fi
      · cases fi
      rename_i y hy'
      refine ⟨B4, e4, d, e5, a4.en, h5, fun B5 H5 v a5 r5 => ?_⟩
      have a45 := a4.trans a3.en a5
      obtain ⟨o1, o2, o3, o4⟩ := out a45
      refine ⟨ws, o3, ?_, ?_⟩
      · have := o4.length; exact Nat.lt_of_le_of_lt (by omega) (small (n := i) (by omega))
      have hH1 : ∀ p, H4 p = none → H1 p = none := fun p z => (out a4).1.st.liv p z
      cases d with
      | var j => cases hy'
      | nt z =>
        cases hy'
        obtain ⟨p, rfl, r5⟩ := r5
        obtain ⟨g6, a6⟩ := o1.app (ws' := ws ++ [.ref p]) en1 nD o2 o3 (slotNone o1 D nD) (fun _ => False) (fun _ z => z.elim)
        exact ⟨_, _, _, a6, ⟨o2, id⟩, by simp; omega, ⟨_, upd_same, (o4.grow g6).append (.cons (r5.rp.grow g6) .nil)⟩, fi⟩
      | pd z =>
        cases hy'
        obtain ⟨g6, a6⟩ := o1.app (ws' := ws ++ [v]) en1 nD o2 o3 (slotNone o1 D nD) (fun _ => False) (fun _ z => z.elim)
        exact ⟨acc ++ [y], _, _, a6, ⟨o2, id⟩, by simp; omega, ⟨_, upd_same, (o4.grow g6).append (.cons (Rp.grow g6 r5) .nil)⟩, fi⟩
      | tmp c =>
        cases c with
        | dk _ => cases hy'
        | dn _ => cases hy'
        | ls zs =>
          cases hy'
          obtain ⟨p, rfl, k1, k2, ⟨us, k3, k3'⟩, k4⟩ := r5
          have npD : p ≠ D := fun z => by
            subst z
            obtain ⟨_, _, q3, _⟩ := out a4
            rw [q3] at k1; cases k1
          obtain ⟨g6, a6⟩ := o1.app (ws' := ws ++ [.ref p]) en1 nD o2 o3 (slotNone o1 D nD) (fun q => q = p) (fun q z => by subst z; exact ⟨npD, hH1 q k1, slotNone o1 q (hH1 q k1)⟩)
          exact ⟨acc ++ [.list zs], _, _, a6, ⟨o2, fun z => npD z.symm⟩, by simp; omega, ⟨_, upd_same, (o4.grow g6).append (.cons (.lst (by rw [upd_ne npD]; exact k3) (fun z => z.2 rfl) (k3'.grow g6)) .nil)⟩, fi⟩
  · have e : i = xs.length := by omega
    subst e
    rw [List.drop_length] at fi
    cases fi
    refine .inl ⟨wk.stop Bi Hi gi, q Bi Hi _ (At.through en a1 lkd ai) (RR.relock (d := .tmp (.ls accF)) ⟨D, rfl, a1.st.liv D nD, bD, ⟨ws, hD, rw_⟩, slotNone ai D nD⟩)⟩
end T3

end
section
set_option linter.all false
set_option autoImplicit false
set_option Elab.async false
namespace T3
open PySem L2

/-! ### what is walked: lists, tuples, texts -/
theorem PI.imp {X : Cx} {tg e : Expr} {t t' : TI} (h : PI X tg e t) (i : ∀ σ H Q, t' σ H Q → t σ H Q) : PI X tg e t' := ⟨fun pins s σ H Q I q => h.run pins s σ H Q I (i σ H Q q)⟩
theorem PI.or {X : Cx} {tg e : Expr} {t t' : TI} (h : PI X tg e t) (h' : PI X tg e t') : PI X tg e (fun σ H Q => t σ H Q ∨ t' σ H Q) := ⟨fun pins s σ H Q I q => q.elim (h.run pins s σ H Q I) (h'.run pins s σ H Q I)⟩
def signs (s : Str) : List PyData := s.cps.toList.map fun c => .str ⟨#[c]⟩
def iSeq (f : EE) : EI := fun env => match f env with
  | some (.pd (.tuple xs), e) => some (xs, none, e)
  | some (.nt xs, e) => some (xs, none, e)
  | some (.pd (.list xs), e) => some (xs, none, e)
  | some (.pd (.str s), e) => some (signs s, none, e)
  | some (.tmp (.ls xs), e) => some (xs, none, e)
  | some (.var i, e) => match e[i]? with
    | some (some (.mu m (.ls xs))) => some (xs, some (i, m), e.set i (some (.mu .fro (.ls xs))))
    | _ => none
  | _ => none
theorem wk_tup {K : PySem.W.Frag} {a : Addr} {xs : List PyData} : Wk K (Itt K a) (fun _ => False) (fun B H => Rp K B H (.ref a) (.tuple xs)) xs where
  go i B H g hi := by
    obtain ⟨a', vs, e, h1, h2⟩ := Cn.tuple (.rp g)
    cases e
    exact ⟨vs, vs[i]'(by rw [h2.length]; exact hi), h1, by simp⟩
  stop B H g := by
    obtain ⟨a', vs, e, h1, h2⟩ := Cn.tuple (.rp g)
    cases e
    exact ⟨vs, h1, by rw [h2.length]; exact Nat.le_refl _⟩
  yld i B H x H' d g hd hy := by
    obtain ⟨a', vs, e, h1, h2⟩ := Cn.tuple (.rp g)
    cases e
    obtain ⟨rfl, hy⟩ := hy
    obtain ⟨v, k1, k2⟩ := h2.get hd
    rw [hy vs h1] at k1
    cases k1
    exact ⟨.inl rfl, k2⟩
  keep W B H W' B' H' g s wb _ := g.grow (s.grow wb)
theorem wk_lst {K : PySem.W.Frag} {a : Addr} {xs : List PyData} : Wk K (Itl K a) (fun _ => False) (fun B H => Rp K B H (.ref a) (.list xs)) xs where
  go i B H g hi := by
    obtain ⟨a', vs, e, h1, h2⟩ := Cn.list (.rp g)
    cases e
    exact ⟨vs, vs[i]'(by rw [h2.length]; exact hi), h1, by simp⟩
  stop B H g := by
    obtain ⟨a', vs, e, h1, h2⟩ := Cn.list (.rp g)
    cases e
    exact ⟨vs, h1, by rw [h2.length]; exact Nat.le_refl _⟩
  yld i B H x H' d g hd hy := by
    obtain ⟨a', vs, e, h1, h2⟩ := Cn.list (.rp g)
    cases e
    obtain ⟨rfl, hy⟩ := hy
    obtain ⟨v, k1, k2⟩ := h2.get hd
    rw [hy vs h1] at k1
    cases k1
    exact ⟨.inl rfl, k2⟩
  keep W B H W' B' H' g s wb _ := g.grow (s.grow wb)
theorem wk_mut {K : PySem.W.Frag} {a : Addr} {xs : List PyData} : Wk K (Itl K a) (fun q => q = a) (fun B H => ∃ vs, H a = some (.lst vs) ∧ RpA K B H vs xs) xs where
  go i B H g hi := by
    obtain ⟨vs, h1, h2⟩ := g
    exact ⟨vs, vs[i]'(by rw [h2.length]; exact hi), .inl (.inl h1), by simp⟩
  stop B H g := by
    obtain ⟨vs, h1, h2⟩ := g
    exact ⟨vs, .inl (.inl h1), by rw [h2.length]; exact Nat.le_refl _⟩
  yld i B H x H' d g hd hy := by
    obtain ⟨vs, h1, h2⟩ := g
    obtain ⟨rfl, hy⟩ := hy
    obtain ⟨v, k1, k2⟩ := h2.get hd
    rw [hy vs (.inl (.inl h1))] at k1
    cases k1
    exact ⟨.inl rfl, k2⟩
  keep W B H W' B' H' g s wb hp := by
    obtain ⟨vs, h1, h2⟩ := g
    exact ⟨vs, s.keep _ _ h1 (.inl (hp a rfl)), h2.grow (s.grow wb)⟩
theorem signs_len {s : Str} : (signs s).length = s.cps.size := by simp [signs]
theorem wk_str {K : PySem.W.Frag} {s : Str} : Wk K (Its s) (fun _ => False) (fun _ _ => True) (signs s) where
  go i B H g hi := by rw [signs_len] at hi; exact hi
  stop B H g := by rw [signs_len]; exact Nat.le_refl _
  yld i B H x H' d g hd hy := by
    obtain ⟨rfl, c, h1, rfl⟩ := hy
    refine ⟨.inl rfl, ?_⟩
    simp only [signs, List.getElem?_map, Array.getElem?_toList, h1] at hd
    cases hd
    exact .str _
  keep W B H W' B' H' g s wb hp := trivial
theorem rd_seq_ {K : PySem.W.Frag} {f : EE} {σ : St} {H : Hp} {R : It → Hp → Prop} (h : tI K (iSeq f) σ H R) : iList K (tE K f) σ H R ∨ iTup K (tE K f) σ H R ∨ iStr (tE K f) σ H R := by
  obtain ⟨B, env, xs, lk, env', en, ev, q⟩ := h
  unfold iSeq at ev
  split at ev
  · rename_i ys e h1
    cases ev
    refine .inr (.inl ⟨B, env, _, _, en, h1, fun B1 H1 v a1 r1 => ?_⟩)
    have r1 : Rp K B1 H1 v (.tuple xs) := r1
    obtain ⟨a, vs, rfl, h2, h3⟩ := Cn.tuple (.rp r1)
    exact ⟨a, rfl, ⟨vs, h2⟩, q B1 H1 _ _ _ _ a1 rfl wk_tup r1 (fun _ z => z.elim)⟩
  · rename_i ys e h1
    cases ev
    refine .inr (.inl ⟨B, env, _, _, en, h1, fun B1 H1 v a1 r1 => ?_⟩)
    obtain ⟨p, rfl, r1⟩ := r1
    obtain ⟨a, vs, e, h2, h3⟩ := Cn.tuple (.rp r1.rp)
    cases e
    exact ⟨_, rfl, ⟨vs, h2⟩, q B1 H1 _ _ _ _ a1 rfl wk_tup r1.rp (fun _ z => z.elim)⟩
  · rename_i ys e h1
    cases ev
    refine .inl ⟨B, env, _, _, en, h1, fun B1 H1 v a1 r1 => ?_⟩
    have r1 : Rp K B1 H1 v (.list xs) := r1
    obtain ⟨a, vs, rfl, h2, h3⟩ := Cn.list (.rp r1)
    exact ⟨a, rfl, ⟨vs, h2⟩, q B1 H1 _ _ _ _ a1 rfl wk_lst r1 (fun _ z => z.elim)⟩
  · rename_i s e h1
    cases ev
    refine .inr (.inr ⟨B, env, _, _, en, h1, fun B1 H1 v a1 r1 => ?_⟩)
    have r1 : Rp K B1 H1 v (.str s) := r1
    cases r1
    exact ⟨s, rfl, q B1 H1 _ _ _ _ a1 rfl wk_str trivial (fun _ z => z.elim)⟩
  · rename_i ys e h1
    cases ev
    refine .inl ⟨B, env, _, _, en, h1, fun B1 H1 v a1 r1 => ?_⟩
    obtain ⟨a, rfl, k0, k1, ⟨vs, k2, k3⟩, k4⟩ := r1
    refine ⟨a, rfl, ⟨vs, .inl (.inl k2)⟩, q B1 H1 _ _ _ _ a1 rfl wk_mut ⟨vs, k2, k3⟩ (fun p z => ?_)⟩
    subst z
    exact ⟨fun ⟨i, m, c, g1, _, g3⟩ => k4 i m c g1 g3, _, k2⟩
  · rename_i i e h1
    split at ev
    · rename_i m ys h2
      cases ev
      refine .inl ⟨B, env, _, _, en, h1, fun B1 H1 v a1 r1 => ?_⟩
      obtain ⟨k1, _⟩ := r1
      obtain ⟨a, g1, g2, vs, g3, g4⟩ := a1.en.mu i _ _ h2
      rw [k1] at g1
      cases g1
      refine ⟨a, rfl, ⟨vs, .inl (.inl g3)⟩, q B1 H1 _ _ _ _ a1 ⟨_, h2, rfl⟩ wk_mut ⟨vs, g3, g4⟩ (fun p z => ?_)⟩
      subst z
      refine ⟨fun ⟨j, m', c, z1, z2, z3⟩ => ?_, _, g3⟩
      rcases get_set z1 with ⟨e1, e2⟩ | ⟨e1, z1⟩
      · cases e2; exact z2 rfl
      · exact e1 (a1.en.inj i j _ _ _ _ _ h2 z1 k1 z3)
    · cases ev
  · cases ev
theorem i_seq {X : Cx} {tg l : Expr} {f : EE} (h : PE X l (tE X.K f)) : PI X tg l (tI X.K (iSeq f)) := PI.imp (PI.or (pi_list h) (PI.or (pi_tup h) (pi_str h))) fun _ _ _ t => rd_seq_ t
/-! ### ranges -/
def rgD (i : Int) (n : Nat) (c : Int) : List PyData := (List.range n).map fun k => .int (i + (k : Nat) * c)
theorem rgD_get {i c : Int} {n k : Nat} {d : PyData} (h : (rgD i n c)[k]? = some d) : d = .int (i + (k : Nat) * c) := by
  simp only [rgD, List.getElem?_map] at h
  by_cases z : k < n
  · rw [List.getElem?_range z] at h; cases h; rfl
  · rw [List.getElem?_eq_none (by simpa using z)] at h; cases h
theorem wk_rng {K : PySem.W.Frag} {i : Int} {n : Nat} : Wk K (Itr i n) (fun _ => False) (fun _ _ => True) (rgD i n 1) where
  go k B H g hi := by simp [rgD] at hi; exact hi
  stop B H g := by simp [rgD, Itr, Itc]
  yld k B H x H' d g hd hy := by
    obtain ⟨rfl, rfl⟩ := hy
    have := rgD_get hd
    subst this
    rw [Int.mul_one]
    exact ⟨.inl rfl, .int _⟩
  keep W B H W' B' H' g s wb hp := trivial
theorem wk_rgc {K : PySem.W.Frag} {i c : Int} {n : Nat} : Wk K (Itc i c n) (fun _ => False) (fun _ _ => True) (rgD i n c) where
  go k B H g hi := by simp [rgD] at hi; exact hi
  stop B H g := by simp [rgD, Itr, Itc]
  yld k B H x H' d g hd hy := by
    obtain ⟨rfl, rfl⟩ := hy
    have := rgD_get hd
    subst this
    exact ⟨.inl rfl, .int _⟩
  keep W B H W' B' H' g s wb hp := trivial
def RgI1 (j : Int) : Prop := -(2 ^ 62) ≤ j ∧ j < 2 ^ 62
def RgI2 (i j : Int) : Prop := -(2 ^ 62) ≤ i ∧ i < 2 ^ 62 ∧ -(2 ^ 62) ≤ j ∧ j < 2 ^ 62
noncomputable instance (j : Int) : Decidable (RgI1 j) := Classical.propDecidable _
noncomputable instance (i j : Int) : Decidable (RgI2 i j) := Classical.propDecidable _
noncomputable def iRg1 (f : EA) : EI := fun env => match f env with
  | some ([.pd (.int j)], e) => if RgI1 j then some (rgD 0 j.toNat 1, none, e) else none
  | _ => none
noncomputable def iRg2 (f : EA) : EI := fun env => match f env with
  | some ([.pd (.int i), .pd (.int j)], e) => if RgI2 i j then some (rgD i (j - i).toNat 1, none, e) else none
  | _ => none
theorem RRA.int1 {K : PySem.W.Frag} {H₀ : Hp} {B : Mset} {H : Hp} {σ : St} {env : Sl} {vs : List V} {j : Int} (r : RRA K H₀ B H σ env vs [.pd (.int j)]) : vs = [.int j] := by
  match vs, r with
  | [v], r =>
    have := r.each 0 v _ rfl rfl
    have this : Rp K B H v (.int j) := this
    cases this
    rfl
  | [], r => have := r.len; simp at this
  | _ :: _ :: _, r => have := r.len; simp at this
theorem RRA.int2 {K : PySem.W.Frag} {H₀ : Hp} {B : Mset} {H : Hp} {σ : St} {env : Sl} {vs : List V} {i j : Int} (r : RRA K H₀ B H σ env vs [.pd (.int i), .pd (.int j)]) : vs = [.int i, .int j] := by
  match vs, r with
  | v :: vs, r =>
    have := r.each 0 v _ rfl rfl
    have this : Rp K B H v (.int i) := this
    cases this
    rw [RRA.int1 r.tail]
  | [], r => have := r.len; simp at this
theorem rd_rg1 {K : PySem.W.Frag} {f : EA} {σ : St} {H : Hp} {R : It → Hp → Prop} (h : tI K (iRg1 f) σ H R) : iRng1 (tA K f) σ H R := by
  obtain ⟨B, env, xs, lk, env', en, ev, q⟩ := h
  unfold iRg1 at ev
  split at ev
  · rename_i j e h1
    split at ev
    · rename_i hb
      cases ev
      refine ⟨B, env, _, _, en, h1, fun B1 H1 vs a1 r1 => ⟨j, r1.int1, hb.1, hb.2, q B1 H1 _ _ _ _ a1 rfl wk_rng trivial (fun _ z => z.elim)⟩⟩
    · cases ev
  · cases ev
theorem rd_rg2 {K : PySem.W.Frag} {f : EA} {σ : St} {H : Hp} {R : It → Hp → Prop} (h : tI K (iRg2 f) σ H R) : iRng2 (tA K f) σ H R := by
  obtain ⟨B, env, xs, lk, env', en, ev, q⟩ := h
  unfold iRg2 at ev
  split at ev
  · rename_i i j e h1
    split at ev
    · rename_i hb
      cases ev
      refine ⟨B, env, _, _, en, h1, fun B1 H1 vs a1 r1 => ⟨i, j, r1.int2, hb, q B1 H1 _ _ _ _ a1 rfl wk_rng trivial (fun _ z => z.elim)⟩⟩
    · cases ev
  · cases ev
theorem i_rg1 {X : Cx} {tg a : Expr} {f : EA} {p pos : Pos} (hg : Gl X "range") (hm : X.mg "range" = none) (ha : PA X [a] (tA X.K f)) (hs : starEach [a] X.env = [(false, eval a X.env)] := by rfl) : PI X tg (.Call (.Name "range" p) [a] [] pos) (tI X.K (iRg1 f)) :=
  PI.imp (pi_range1 hg hm ha hs) fun _ _ _ t => rd_rg1 t
theorem i_rg2 {X : Cx} {tg a b : Expr} {f : EA} {p pos : Pos} (hg : Gl X "range") (hm : X.mg "range" = none) (ha : PA X [a, b] (tA X.K f)) (hs : starEach [a, b] X.env = [(false, eval a X.env), (false, eval b X.env)] := by rfl) (hs2 : starEach [b] X.env = [(false, eval b X.env)] := by rfl) : PI X tg (.Call (.Name "range" p) [a, b] [] pos) (tI X.K (iRg2 f)) :=
  PI.imp (pi_range2 hg hm ha hs hs2) fun _ _ _ t => rd_rg2 t
end T3

end
section
set_option linter.all false
set_option autoImplicit false
set_option Elab.async false
namespace T3
open PySem L2

theorem CnA.one {K : PySem.W.Frag} {B : Mset} {H : Hp} {vs : List V} {x : PyData} (h : CnA K B H vs [x]) : ∃ v, vs = [v] ∧ Cn K B H v x := by
  cases h with
  | cons h1 h2 => cases h2; exact ⟨_, rfl, h1⟩
theorem CnA.two {K : PySem.W.Frag} {B : Mset} {H : Hp} {vs : List V} {x y : PyData} (h : CnA K B H vs [x, y]) : ∃ v w, vs = [v, w] ∧ Cn K B H v x ∧ Cn K B H w y := by
  cases h with
  | cons h1 h2 => obtain ⟨w, rfl, h3⟩ := h2.one; exact ⟨_, _, rfl, h1, h3⟩
def kOr (k1 k2 : KK) : KK := fun ds env => match k1 ds env with
  | some r => some r
  | none => k2 ds env
theorem con_or {K : PySem.W.Frag} {k1 k2 : KK} {r1 r2 : List V → Hp → VK → Prop} (h1 : Con K k1 r1) (h2 : Con K k2 r2) : Con K (kOr k1 k2) (fun vs H Q => r1 vs H Q ∨ r2 vs H Q) := by
  intro σ H B env B1 H1 env1 vs ds d e2 Q en a rr hk q
  unfold kOr at hk
  split at hk
  · rename_i r hr
    cases hk
    exact .inl (h1 σ H B env B1 H1 env1 vs ds d e2 Q en a rr hr q)
  · exact .inr (h2 σ H B env B1 H1 env1 vs ds d e2 Q en a rr hk q)
theorem con_or2 {K : PySem.W.Frag} {k1 k2 : KK} {r1 r2 : R2} (h1 : Con K k1 (l2 r1)) (h2 : Con K k2 (l2 r2)) : Con K (kOr k1 k2) (l2 fun x y H Q => r1 x y H Q ∨ r2 x y H Q) := by
  intro σ H B env B1 H1 env1 vs ds d e2 Q en a rr hk q x y e
  exact (con_or h1 h2 σ H B env B1 H1 env1 vs ds d e2 Q en a rr hk q).imp (fun z => z x y e) (fun z => z x y e)

/-! ### ints -/
def oI (C : Int → Int → Prop) [∀ i j, Decidable (C i j)] (g : Int → Int → PyData) : List PyData → Option PyData
  | [.int i, .int j] => if C i j then some (g i j) else none
  | _ => none
theorem ok_I {K : PySem.W.Frag} {C : Int → Int → Prop} [∀ i j, Decidable (C i j)] {g : Int → Int → Int} : OkE K (oI C fun i j => .int (g i j)) (l2 (rI C fun i j => .int (g i j))) := by
  intro B H vs xs z Q cn ho q x y e
  unfold oI at ho
  split at ho
  · split at ho
    · rename_i i j hc
      cases ho
      obtain ⟨v, w, e2, c1, c2⟩ := cn.two
      rw [e] at e2
      cases e2
      exact ⟨i, j, c1.int, c2.int, hc, q _ (.int _)⟩
    · cases ho
  · cases ho
theorem ok_I0 {K : PySem.W.Frag} {g : Int → Int → Int} : OkE K (oI (fun _ _ => True) fun i j => .int (g i j)) (l2 (rI0 fun i j => .int (g i j))) := by
  intro B H vs xs z Q cn ho q x y e
  obtain ⟨i, j, h1, h2, _, h3⟩ := ok_I (C := fun _ _ => True) (g := g) B H vs xs z Q cn ho q x y e
  exact ⟨i, j, h1, h2, h3⟩
theorem ok_B0 {K : PySem.W.Frag} {g : Int → Int → Bool} : OkE K (oI (fun _ _ => True) fun i j => .bool (g i j)) (l2 (rI0 fun i j => .bl (g i j))) := by
  intro B H vs xs z Q cn ho q x y e
  unfold oI at ho
  split at ho
  · rename_i i j
    simp at ho
    cases ho
    obtain ⟨v, w, e2, c1, c2⟩ := cn.two
    rw [e] at e2
    cases e2
    exact ⟨i, j, c1.int, c2.int, q _ (.bl _)⟩
  · cases ho
noncomputable instance (i j : Int) : Decidable (CMul i j) := Classical.propDecidable _
noncomputable instance (i j : Int) : Decidable (CDivW i j) := Classical.propDecidable _
noncomputable instance (i j : Int) : Decidable (CPow i j) := Classical.propDecidable _
def kSub : KK := kE (oI (fun _ _ => True) fun i j => .int (i - j))
theorem cdv (i j : Int) (h1 : 0 < j) (h2 : j < 1000000000000000) : CDivW i j := by
  refine ⟨h1, ?_⟩
  have : j.natAbs.log2 < 50 := (Nat.log2_lt (by omega)).mpr (by omega)
  omega
noncomputable def kFdiv : KK := kE (oI CDivW fun i j => .int (i / j))
def kMod : KK := kE (oI (fun _ j => 0 < j) fun i j => .int (i % j))
noncomputable def kPow : KK := kE (oI CPow fun i j => .int (i ^ j.toNat))
def kLt0 : KK := kE (oI (fun _ _ => True) fun i j => .bool (decide (i < j)))
def kLe : KK := kE (oI (fun _ _ => True) fun i j => .bool (decide (i ≤ j)))
def kGt : KK := kE (oI (fun _ _ => True) fun i j => .bool (decide (j < i)))
def kGe : KK := kE (oI (fun _ _ => True) fun i j => .bool (decide (j ≤ i)))
def oNeg : List PyData → Option PyData
  | [.int i] => some (.int (-i))
  | _ => none
def kNeg : KK := kE oNeg
theorem c_neg {K : PySem.W.Frag} : Con K kNeg (l1 (rU fun i => .int (-i))) := con_E <| by
  intro B H vs xs z Q cn ho q x e
  unfold oNeg at ho
  split at ho
  · cases ho
    obtain ⟨v, e2, c1⟩ := cn.one
    rw [e] at e2
    cases e2
    exact ⟨_, c1.int, q _ (.int _)⟩
  · cases ho

/-! ### texts, tuples, lists put together -/
def oCatS : List PyData → Option PyData
  | [.str i, .str j] => if i.length + j.length ≤ 1000000 then some (.str (i ++ j)) else none
  | _ => none
def rCatS : R2 := fun x y H Q => ∃ i j, x = .str i ∧ y = .str j ∧ i.length + j.length ≤ sizeLine ∧ Q (.str (i ++ j)) H
theorem ok_catS {K : PySem.W.Frag} : OkE K oCatS (l2 rCatS) := by
  intro B H vs xs z Q cn ho q x y e
  unfold oCatS at ho
  split at ho
  · split at ho
    · rename_i hl
      cases ho
      obtain ⟨v, w, e2, c1, c2⟩ := cn.two
      rw [e] at e2
      cases e2
      exact ⟨_, _, c1.str, c2.str, Nat.le_of_lt (small hl), q _ (.str _)⟩
    · cases ho
  · cases ho
def oCatT : List PyData → Option (List PyData)
  | [.tuple xs, .tuple ys] => if xs.length + ys.length ≤ 1000000 then some (xs ++ ys) else none
  | _ => none
theorem ok_catT {K : PySem.W.Frag} : OkT K oCatT (l2 (rCatA K)) := by
  intro B H vs xs z Q cn ho q0 q x y e
  unfold oCatT at ho
  split at ho
  · split at ho
    · rename_i xs ys hl
      cases ho
      obtain ⟨v, w, e2, c1, c2⟩ := cn.two
      rw [e] at e2
      cases e2
      obtain ⟨a, us, rfl, h1, h2⟩ := c1.tuple
      obtain ⟨b, ws, rfl, h3, h4⟩ := c2.tuple
      refine ⟨a, b, us, ws, rfl, rfl, h1, h3, ?_, fun z => ?_, fun z z2 => ?_, fun z z2 p np => q _ p (h2.append h4) np⟩
      · rw [h2.length, h4.length]; exact Nat.le_of_lt (small hl)
      · subst z; cases h2; exact q0 _ (.tup h3 h4)
      · subst z2; cases h4; rw [List.append_nil] at q0; exact q0 _ (.tup h1 h2)
    · cases ho
  · cases ho
def lsOf (env : Sl) : R → Option (List PyData)
  | .tmp (.ls xs) => some xs
  | .var i => match env[i]? with
    | some (some (.mu _ (.ls xs))) => some xs
    | _ => none
  | _ => none
theorem lsOf_at {K : PySem.W.Frag} {H₀ : Hp} {B : Mset} {H : Hp} {σ : St} {env : Sl} {v : V} {d : R} {xs : List PyData} (en : EnvR K B H σ env) (h : RA K H₀ B H σ env v d) (c : lsOf env d = some xs) : ∃ a vs, v = .ref a ∧ H a = some (.lst vs) ∧ RpA K B H vs xs := by
  cases d with
  | pd y => cases c
  | nt y => cases c
  | tmp t =>
    cases t with
    | ls ys => cases c; obtain ⟨a, rfl, _, _, ⟨vs, h1, h2⟩, _⟩ := h; exact ⟨a, vs, rfl, h1, h2⟩
    | dk _ => cases c
    | dn _ => cases c
  | var i =>
    simp only [lsOf] at c
    split at c
    · rename_i m ys hx
      cases c
      obtain ⟨a, h1, _, vs, h2, h3⟩ := en.mu _ _ _ hx
      have h : σ[i]? = some (some v) := h
      rw [h] at h1
      cases h1
      exact ⟨a, vs, rfl, h2, h3⟩
    · cases c
def kCatL : KK := fun ds env => match ds with
  | [d1, d2] => match lsOf env d1 with
    | none => none
    | some xs => match lsOf env d2 with
      | none => none
      | some ys => if xs.length + ys.length ≤ 1000000 then some (.tmp (.ls (xs ++ ys)), env) else none
  | _ => none
theorem con_new {K : PySem.W.Frag} {σ : St} {B B1 : Mset} {H H1 : Hp} {env env1 : Sl} {p : Addr} {ws : List V} {xs : List PyData} {Q : VK} (en : EnvR K B H σ env) (a : At K σ B H env B1 H1 env1) (np : H1 p = none) (hw : RpA K B1 H1 ws xs)
    (q : ∀ B' H' v, At K σ B H env B' H' env1 → RR K H B' H' σ env1 v (.tmp (.ls xs)) → Q v H') : Q (.ref p) (upd H1 p (.lst ws)) := by
  obtain ⟨g, a2⟩ := a.alloc en np (.lst ws) True (fun _ => False) (fun _ f => f.elim)
  refine q _ _ _ a2 ⟨p, rfl, a.st.liv _ np, .inr ⟨trivial, rfl⟩, ⟨ws, upd_same, hw.grow g⟩, fun i m d h1 h2 => ?_⟩
  obtain ⟨b, h3, h4, _⟩ := a.en.mu i m d h1
  rw [h3] at h2
  cases h2
  obtain ⟨o', ho⟩ := a.en.dom _ h4
  rw [np] at ho; cases ho
theorem c_catL {K : PySem.W.Frag} : Con K kCatL (l2 rCat) := by
  intro σ H B env B1 H1 env1 vs ds d e2 Q en a rr hk q x y e
  unfold kCatL at hk
  split at hk
  · rename_i d1 d2
    split at hk
    · cases hk
    rename_i xs hx
    split at hk
    · cases hk
    rename_i ys hy
    split at hk
    · rename_i hl
      cases hk
      subst e
      obtain ⟨p, us, rfl, h1, h2⟩ := lsOf_at a.en (rr.each 0 x d1 rfl rfl) hx
      obtain ⟨p2, ws, rfl, h3, h4⟩ := lsOf_at a.en (rr.each 1 y d2 rfl rfl) hy
      exact ⟨p, p2, us, ws, rfl, rfl, h1, h3, by rw [h2.length, h4.length]; exact Nat.le_of_lt (small hl), fun r nr => con_new en a nr (h2.append h4) q⟩
    · cases hk
  · cases hk
def kAdd : KK := kOr (kE (oI (fun _ _ => True) fun i j => .int (i + j))) (kOr (kE oCatS) (kOr (kT oCatT) kCatL))
def oRepT : List PyData → Option (List PyData)
  | [.tuple xs, .int k] => if xs ≠ [] ∧ 2 ≤ k ∧ k ≤ 1000 ∧ xs.length ≤ 1000 then some (List.replicate k.toNat xs).flatten else none
  | _ => none
theorem RpA.rep {K : PySem.W.Frag} {B : Mset} {H : Hp} {vs : List V} {xs : List PyData} (h : RpA K B H vs xs) : ∀ k : Nat, RpA K B H (List.replicate k vs).flatten (List.replicate k xs).flatten
  | 0 => .nil
  | k + 1 => by
    rw [List.replicate_succ, List.replicate_succ, List.flatten_cons, List.flatten_cons]
    exact h.append (RpA.rep h k)
theorem ok_repT {K : PySem.W.Frag} : OkT K oRepT (l2 (rRepT K)) := by
  intro B H vs xs z Q cn ho q0 q x y e
  unfold oRepT at ho
  split at ho
  · split at ho
    · rename_i xs k hl
      cases ho
      obtain ⟨v, w, e2, c1, c2⟩ := cn.two
      rw [e] at e2
      cases e2
      obtain ⟨a, us, rfl, h1, h2⟩ := c1.tuple
      refine ⟨a, k, us, rfl, c2.int, h1, fun z => ?_, hl.2.1, hl.2.2.1, by rw [h2.length]; exact hl.2.2.2, fun p np => q _ p (h2.rep _) np⟩
      subst z
      cases h2
      exact hl.1 rfl
    · cases ho
  · cases ho
noncomputable def kMul : KK := kOr (kE (oI CMul fun i j => .int (i * j))) (kT oRepT)

/-! ### == and in -/
def oEq : List PyData → Option PyData
  | [x, y] => if SeqAt.shaped x = true ∧ SeqAt.shaped y = true then some (.bool (PyData.eqv x y)) else none
  | _ => none
def oNe : List PyData → Option PyData
  | [x, y] => if SeqAt.shaped x = true ∧ SeqAt.shaped y = true then some (.bool (!PyData.eqv x y)) else none
  | _ => none
theorem ok_eq {K : PySem.W.Frag} : OkE K oEq (l2 (rEqD K)) := by
  intro B H vs xs z Q cn ho q x y e
  unfold oEq at ho
  split at ho
  · split at ho
    · rename_i a b hs
      cases ho
      obtain ⟨v, w, e2, c1, c2⟩ := cn.two
      rw [e] at e2
      cases e2
      exact ⟨a, b, c1.dp hs.1, c2.dp hs.2, hs.1, hs.2, q _ (.bl _)⟩
    · cases ho
  · cases ho
theorem ok_ne {K : PySem.W.Frag} : OkE K oNe (l2 (rNeD K)) := by
  intro B H vs xs z Q cn ho q x y e
  unfold oNe at ho
  split at ho
  · split at ho
    · rename_i a b hs
      cases ho
      obtain ⟨v, w, e2, c1, c2⟩ := cn.two
      rw [e] at e2
      cases e2
      exact ⟨a, b, c1.dp hs.1, c2.dp hs.2, hs.1, hs.2, q _ (.bl _)⟩
    · cases ho
  · cases ho
def rInT (K : PySem.W.Frag) (neg : Bool) : R2 := fun x y H Q => ∃ d ds, Dp K H x d ∧ Dp K H y (.tuple ds) ∧ SeqAt.shaped d = true ∧ SeqAt.shaped (.tuple ds) = true ∧ Q (.bl (if neg = true then !ds.any (fun z => PyData.eqv z d) else ds.any (fun z => PyData.eqv z d))) H
theorem room_in {A : Around} {xs : List PyData} {d : PyData} (hd : SeqAt.shaped d = true) (hu : A.units + 65 < cLine) : A.units + 1 + min (PyData.depthAll xs) d.depth < cLine := by
  have h1 := SeqAt.depth_of_shaped hd
  have h2 := Nat.min_le_right (PyData.depthAll xs) d.depth
  omega
theorem op_inT {X : Cx} (hu : X.A.units + 65 < cLine) : OpR X (compareOp .In) (rInT X.K false) := by
  intro pins s σ H x y v u Q I rx ry h
  obtain ⟨d, ds, hd, he, sd, se, q⟩ := h
  obtain ⟨as, r1⟩ := Dp.reads I d x v hd rx
  obtain ⟨bs, r2⟩ := Dp.reads I _ y u he ry
  have hl : PyData.canLayAll0 ds = true := SeqAt.canLay_of_shaped se
  exact SeqAt.in_tuple_reads r2 r1 hl (SeqAt.canLay_of_shaped sd) (room_in sd hu) ⟨.bl _, H, I, rfl, by simpa using q⟩
theorem op_notInT {X : Cx} (hu : X.A.units + 65 < cLine) : OpR X (compareOp .NotIn) (rInT X.K true) := by
  intro pins s σ H x y v u Q I rx ry h
  obtain ⟨d, ds, hd, he, sd, se, q⟩ := h
  obtain ⟨as, r1⟩ := Dp.reads I d x v hd rx
  obtain ⟨bs, r2⟩ := Dp.reads I _ y u he ry
  have hl : PyData.canLayAll0 ds = true := SeqAt.canLay_of_shaped se
  exact SeqAt.notIn_tuple_reads r2 r1 hl (SeqAt.canLay_of_shaped sd) (room_in sd hu) ⟨.bl _, H, I, rfl, by simpa using q⟩
def oIn (neg : Bool) : List PyData → Option PyData
  | [x, .list ys] => if SeqAt.shaped x = true ∧ SeqAt.shaped (.list ys) = true then some (.bool (if neg = true then !ys.any (fun z => PyData.eqv z x) else ys.any (fun z => PyData.eqv z x))) else none
  | [x, .tuple ys] => if SeqAt.shaped x = true ∧ SeqAt.shaped (.tuple ys) = true then some (.bool (if neg = true then !ys.any (fun z => PyData.eqv z x) else ys.any (fun z => PyData.eqv z x))) else none
  | _ => none
theorem ok_in {K : PySem.W.Frag} : OkE K (oIn false) (l2 fun x y H Q => rInD K x y H Q ∨ rInT K false x y H Q) := by
  intro B H vs xs z Q cn ho q x y e
  unfold oIn at ho
  split at ho
  · split at ho
    · rename_i a b hs
      cases ho
      obtain ⟨v, w, e2, c1, c2⟩ := cn.two
      rw [e] at e2
      cases e2
      exact .inl ⟨_, _, c1.dp hs.1, c2.dp hs.2, hs.1, hs.2, q _ (.bl _)⟩
    · cases ho
  · split at ho
    · rename_i a b hs
      cases ho
      obtain ⟨v, w, e2, c1, c2⟩ := cn.two
      rw [e] at e2
      cases e2
      exact .inr ⟨_, _, c1.dp hs.1, c2.dp hs.2, hs.1, hs.2, q _ (.bl _)⟩
    · cases ho
  · cases ho
theorem ok_notin {K : PySem.W.Frag} : OkE K (oIn true) (l2 fun x y H Q => rNotInD K x y H Q ∨ rInT K true x y H Q) := by
  intro B H vs xs z Q cn ho q x y e
  unfold oIn at ho
  split at ho
  · split at ho
    · rename_i a b hs
      cases ho
      obtain ⟨v, w, e2, c1, c2⟩ := cn.two
      rw [e] at e2
      cases e2
      exact .inl ⟨_, _, c1.dp hs.1, c2.dp hs.2, hs.1, hs.2, q _ (.bl _)⟩
    · cases ho
  · split at ho
    · rename_i a b hs
      cases ho
      obtain ⟨v, w, e2, c1, c2⟩ := cn.two
      rw [e] at e2
      cases e2
      exact .inr ⟨_, _, c1.dp hs.1, c2.dp hs.2, hs.1, hs.2, q _ (.bl _)⟩
    · cases ho
  · cases ho
/-- is None -/
def isN : PyData → Bool
  | .none => true
  | _ => false
def oIsN (neg : Bool) : List PyData → Option PyData
  | [x, .none] => some (.bool (if neg = true then !isN x else isN x))
  | _ => none
theorem Cn.isN {K : PySem.W.Frag} {B : Mset} {H : Hp} {v : V} {x : PyData} (h : Cn K B H v x) : decide (v = .non) = isN x := by
  cases h with
  | ct => rfl
  | rp h => cases h <;> rfl
theorem ok_isN {K : PySem.W.Frag} : OkE K (oIsN false) (l2 fun x y H Q => y = .non ∧ Q (.bl (decide (x = .non))) H) := by
  intro B H vs xs z Q cn ho q x y e
  unfold oIsN at ho
  split at ho
  · cases ho
    obtain ⟨v, w, e2, c1, c2⟩ := cn.two
    rw [e] at e2
    cases e2
    refine ⟨c2.none, ?_⟩
    rw [c1.isN]
    exact q _ (.bl _)
  · cases ho
theorem ok_notN {K : PySem.W.Frag} : OkE K (oIsN true) (l2 fun x y H Q => y = .non ∧ Q (.bl (!decide (x = .non))) H) := by
  intro B H vs xs z Q cn ho q x y e
  unfold oIsN at ho
  split at ho
  · cases ho
    obtain ⟨v, w, e2, c1, c2⟩ := cn.two
    rw [e] at e2
    cases e2
    refine ⟨c2.none, ?_⟩
    rw [c1.isN]
    exact q _ (.bl _)
  · cases ho
/-- tuples of ints by their order -/
def ints? : List PyData → Option (List Int)
  | [] => some []
  | .int i :: xs => match ints? xs with
    | none => none
    | some ns => some (i :: ns)
  | _ => none
theorem ints_map : ∀ {xs : List PyData} {ns : List Int}, ints? xs = some ns → xs = ns.map .int
  | [], ns, h => by cases h; rfl
  | .int i :: xs, ns, h => by
    unfold ints? at h
    split at h
    · cases h
    rename_i ms hm
    cases h
    rw [ints_map hm]
    rfl
  | .none :: _, _, h => by cases h
  | .bool _ :: _, _, h => by cases h
  | .str _ :: _, _, h => by cases h
  | .list _ :: _, _, h => by cases h
  | .tuple _ :: _, _, h => by cases h
  | .dict _ :: _, _, h => by cases h
def oLtT : List PyData → Option PyData
  | [.tuple xs, .tuple ys] => match ints? xs with
    | none => none
    | some ns => match ints? ys with
      | none => none
      | some ms => some (.bool (HT.lexLt ns ms))
  | _ => none
theorem ok_ltT {K : PySem.W.Frag} : OkE K oLtT (l2 (rLtT K)) := by
  intro B H vs xs z Q cn ho q x y e
  unfold oLtT at ho
  split at ho
  · split at ho
    · cases ho
    rename_i ns h1
    split at ho
    · cases ho
    rename_i ms h2
    cases ho
    obtain ⟨v, w, e2, c1, c2⟩ := cn.two
    rw [e] at e2
    cases e2
    obtain ⟨a, us, rfl, h3, h4⟩ := c1.tuple
    obtain ⟨b, ws, rfl, h5, h6⟩ := c2.tuple
    rw [ints_map h1] at h4
    rw [ints_map h2] at h6
    have e1 := h4.ints
    have e2 := h6.ints
    subst e1 e2
    exact ⟨a, b, ns, ms, rfl, rfl, h3, h5, q _ (.bl _)⟩
  · cases ho
def kLt : KK := kOr kLt0 (kE oLtT)
/-! ### x[i] -/
def oIx : List PyData → Option PyData
  | [.list xs, .int i] => atI xs i
  | [.tuple xs, .int i] => atI xs i
  | [.str s, .int i] => if s.length ≤ 1000000 then (atI s.cps.toList i).map fun c => .str ⟨#[c]⟩ else none
  | _ => none
theorem at_rp {K : PySem.W.Frag} {B : Mset} {H : Hp} {vs : List V} {xs : List PyData} {i : Int} {z : PyData} (r : RpA K B H vs xs) (h : atI xs i = some z) : ∃ v, atI vs i = some v ∧ Rp K B H v z := by
  unfold atI at h ⊢
  rw [r.length]
  cases e : ixN xs.length i with
  | none => rw [e] at h; cases h
  | some j =>
    rw [e] at h
    exact r.get h
theorem ok_ix {K : PySem.W.Frag} : OkE K oIx (l2 (rIx K)) := by
  intro B H vs xs z Q cn ho q x y e
  unfold oIx at ho
  split at ho
  · obtain ⟨v, w, e2, c1, c2⟩ := cn.two
    rw [e] at e2
    cases e2
    obtain ⟨a, us, rfl, h1, h2⟩ := c1.list
    obtain ⟨v, h3, h4⟩ := at_rp h2 ho
    exact .inl ⟨a, us, _, v, rfl, c2.int, h1, h3, q v h4⟩
  · obtain ⟨v, w, e2, c1, c2⟩ := cn.two
    rw [e] at e2
    cases e2
    obtain ⟨a, us, rfl, h1, h2⟩ := c1.tuple
    obtain ⟨v, h3, h4⟩ := at_rp h2 ho
    exact .inr (.inl ⟨a, us, _, v, rfl, c2.int, h1, h3, q v h4⟩)
  · split at ho
    · rename_i s i hl
      obtain ⟨v, w, e2, c1, c2⟩ := cn.two
      rw [e] at e2
      cases e2
      cases hc : atI s.cps.toList i with
      | none => rw [hc] at ho; cases ho
      | some c =>
        rw [hc] at ho
        cases ho
        exact .inr (.inr ⟨s, i, c, c1.str, c2.int, Nat.le_of_lt (small hl), hc, q _ (.str _)⟩)
    · cases ho
  · cases ho
end T3

end
section
set_option linter.all false
set_option autoImplicit false
set_option Elab.async false
namespace T3
open PySem L2

def cOr (r r' : List V → Hp → VK → Prop) : List V → Hp → VK → Prop := fun vs H Q => r vs H Q ∨ r' vs H Q
/-! ### len, all, any, sum, int, abs -/
def oLen : List PyData → Option PyData
  | [.list xs] => some (.int xs.length)
  | [.tuple xs] => some (.int xs.length)
  | [.str s] => if s.length ≤ 1000000 then some (.int s.length) else none
  | _ => none
def rLen (K : PySem.W.Frag) : List V → Hp → VK → Prop := cOr (fun xs H Q => ∃ p ys, xs = [.ref p] ∧ (SqL K H p ys ∨ SqT K H p ys) ∧ Q (.int ys.length) H) (fun xs H Q => ∃ z, xs = [.str z] ∧ z.length ≤ sizeLine ∧ Q (.int z.length) H)
theorem cr_len {X : Cx} : CallR X (.builtin "len") (rLen X.K) := CallR.or call_len_seq call_len_str
theorem c_len {K : PySem.W.Frag} : Con K (kE oLen) (rLen K) := con_E <| by
  intro B H vs xs z Q cn ho q
  unfold oLen at ho
  split at ho
  · cases ho
    obtain ⟨v, rfl, c1⟩ := cn.one
    obtain ⟨a, us, rfl, h1, h2⟩ := c1.list
    refine .inl ⟨a, us, rfl, .inl h1, ?_⟩
    rw [h2.length]
    exact q _ (.int _)
  · cases ho
    obtain ⟨v, rfl, c1⟩ := cn.one
    obtain ⟨a, us, rfl, h1, h2⟩ := c1.tuple
    refine .inl ⟨a, us, rfl, .inr h1, ?_⟩
    rw [h2.length]
    exact q _ (.int _)
  · split at ho
    · rename_i hl
      cases ho
      obtain ⟨v, rfl, c1⟩ := cn.one
      exact .inr ⟨_, by rw [c1.str], Nat.le_of_lt (small hl), q _ (.int _)⟩
    · cases ho
  · cases ho
def bools? : List PyData → Option (List Bool)
  | [] => some []
  | .bool i :: xs => match bools? xs with
    | none => none
    | some ns => some (i :: ns)
  | _ => none
theorem bools_map : ∀ {xs : List PyData} {ns : List Bool}, bools? xs = some ns → xs = ns.map .bool
  | [], ns, h => by cases h; rfl
  | .bool i :: xs, ns, h => by
    unfold bools? at h
    split at h
    · cases h
    rename_i ms hm
    cases h
    rw [bools_map hm]
    rfl
  | .none :: _, _, h => by cases h
  | .int _ :: _, _, h => by cases h
  | .str _ :: _, _, h => by cases h
  | .list _ :: _, _, h => by cases h
  | .tuple _ :: _, _, h => by cases h
  | .dict _ :: _, _, h => by cases h
def oAll : List PyData → Option PyData
  | [.list xs] => match bools? xs with
    | none => none
    | some bs => some (.bool (bs.all id))
  | _ => none
def oAny : List PyData → Option PyData
  | [.list xs] => match bools? xs with
    | none => none
    | some bs => some (.bool (bs.any id))
  | _ => none
theorem c_all {K : PySem.W.Frag} : Con K (kE oAll) (rAll K) := con_E <| by
  intro B H vs xs z Q cn ho q
  unfold oAll at ho
  split at ho
  · split at ho
    · cases ho
    rename_i bs hb
    cases ho
    obtain ⟨v, rfl, c1⟩ := cn.one
    obtain ⟨a, us, rfl, h1, h2⟩ := c1.list
    rw [bools_map hb] at h2
    have e := h2.bls
    subst e
    exact ⟨a, bs, rfl, h1, q _ (.bl _)⟩
  · cases ho
theorem c_any {K : PySem.W.Frag} : Con K (kE oAny) (rAny K) := con_E <| by
  intro B H vs xs z Q cn ho q
  unfold oAny at ho
  split at ho
  · split at ho
    · cases ho
    rename_i bs hb
    cases ho
    obtain ⟨v, rfl, c1⟩ := cn.one
    obtain ⟨a, us, rfl, h1, h2⟩ := c1.list
    rw [bools_map hb] at h2
    have e := h2.bls
    subst e
    exact ⟨a, bs, rfl, h1, q _ (.bl _)⟩
  · cases ho
def oSum : List PyData → Option PyData
  | [.list xs] => match ints? xs with
    | none => none
    | some ns => some (.int ns.sum)
  | _ => none
theorem c_sum {K : PySem.W.Frag} : Con K (kE oSum) (rSum K) := con_E <| by
  intro B H vs xs z Q cn ho q
  unfold oSum at ho
  split at ho
  · split at ho
    · cases ho
    rename_i bs hb
    cases ho
    obtain ⟨v, rfl, c1⟩ := cn.one
    obtain ⟨a, us, rfl, h1, h2⟩ := c1.list
    rw [ints_map hb] at h2
    have e := h2.ints
    subst e
    exact ⟨a, bs, rfl, h1, q _ (.int _)⟩
  · cases ho
def oInt1 : List PyData → Option PyData
  | [.int i] => some (.int i)
  | [.bool b] => some (.int (if b then 1 else 0))
  | _ => none
theorem c_int1 {K : PySem.W.Frag} : Con K (kE oInt1) (fun xs H Q => (∃ i, xs = [.int i] ∧ Q (.int i) H) ∨ ∃ k, xs = [.bl k] ∧ Q (.int (if k then 1 else 0)) H) := con_E <| by
  intro B H vs xs z Q cn ho q
  unfold oInt1 at ho
  split at ho
  · cases ho
    obtain ⟨v, rfl, c1⟩ := cn.one
    exact .inl ⟨_, by rw [c1.int], q _ (.int _)⟩
  · cases ho
    obtain ⟨v, rfl, c1⟩ := cn.one
    exact .inr ⟨_, by rw [c1.bool], q _ (.int _)⟩
  · cases ho
def oAbs : List PyData → Option PyData
  | [.int i] => some (.int (if i < 0 then -i else i))
  | _ => none
theorem c_abs {K : PySem.W.Frag} : Con K (kE oAbs) (fun xs H Q => ∃ i, xs = [.int i] ∧ Q (.int (if i < 0 then -i else i)) H) := con_E <| by
  intro B H vs xs z Q cn ho q
  unfold oAbs at ho
  split at ho
  · cases ho
    obtain ⟨v, rfl, c1⟩ := cn.one
    exact ⟨_, by rw [c1.int], q _ (.int _)⟩
  · cases ho
/-! ### min, max -/
def rMinT (K : PySem.W.Frag) : List V → Hp → VK → Prop := fun vs H Q => ∃ (a : Addr) (n : Int) (ns : List Int), vs = [V.ref a] ∧ SqT K H a ((n :: ns).map V.int) ∧ Q (.int (ns.foldl min n)) H
def rMaxT (K : PySem.W.Frag) : List V → Hp → VK → Prop := fun vs H Q => ∃ (a : Addr) (n : Int) (ns : List Int), vs = [V.ref a] ∧ SqT K H a ((n :: ns).map V.int) ∧ Q (.int (ns.foldl max n)) H
theorem DpAll.ints {K : PySem.W.Frag} {H : Hp} : ∀ ns : List Int, DpAll K H (ns.map V.int) (ns.map .int)
  | [] => .nil
  | n :: ns => .cons (.int n) (DpAll.ints ns)
theorem alike_ints (ns : List Int) : PySem.W.AlikeAll (ns.map .int) := by
  constructor
  · intro x hx y hy
    obtain ⟨i, _, rfl⟩ := List.mem_map.mp hx
    obtain ⟨j, _, rfl⟩ := List.mem_map.mp hy
    rfl
  · intro x hx
    obtain ⟨i, _, rfl⟩ := List.mem_map.mp hx
    intro z
    cases z
theorem depth_ints : ∀ ns : List Int, PyData.depthAll (ns.map .int) = 0
  | [] => by simp [PyData.depthAll]
  | n :: ns => by simp [PyData.depthAll, PyData.depth, depth_ints ns]
theorem reads_int {h : Heap} {v : Value} {i : Int} {as : List Addr} (r : Reads h v (.int i) as) : ∃ t, v = .int i t := by
  cases r with
  | int _ t => exact ⟨t, rfl⟩
theorem cr_minT {X : Cx} (hc : X.calm = true) (hu : X.A.units + 64 < cLine) : CallR X (.builtin "min") (rMinT X.K) := by
  intro pins s σ H vs us Q I r h
  obtain ⟨a, n, ns, rfl, hs, q⟩ := h
  obtain ⟨its, rv, ⟨o, ho, hcl, m, hd⟩, hz⟩ := I.tuple hs
  rw [Vals.ref1 r]
  obtain ⟨as, hr⟩ := Dp.readsAll I _ _ its (DpAll.ints (n :: ns)) rv
  refine PySem.W.min_tuple_data (vs := its.toArray) (I.ok.hd hc) ⟨o, ho, hcl, m, hd⟩ (x := .int n) (xs := ns.map .int) hr (alike_ints (n :: ns)) (by have := depth_ints (n :: ns); simp only [List.map_cons] at this; rw [this]; omega) fun i v h' tk bs hv hrd hk => ?_
  rw [PySem.W.minD_ints] at hrd
  obtain ⟨t, rfl⟩ := reads_int hrd
  exact ⟨.int _, H, I.kept hk, ⟨t, rfl⟩, q⟩
theorem cr_maxT {X : Cx} (hc : X.calm = true) (hu : X.A.units + 64 < cLine) : CallR X (.builtin "max") (rMaxT X.K) := by
  intro pins s σ H vs us Q I r h
  obtain ⟨a, n, ns, rfl, hs, q⟩ := h
  obtain ⟨its, rv, ⟨o, ho, hcl, m, hd⟩, hz⟩ := I.tuple hs
  rw [Vals.ref1 r]
  obtain ⟨as, hr⟩ := Dp.readsAll I _ _ its (DpAll.ints (n :: ns)) rv
  refine PySem.W.max_tuple_data (vs := its.toArray) (I.ok.hd hc) ⟨o, ho, hcl, m, hd⟩ (x := .int n) (xs := ns.map .int) hr (alike_ints (n :: ns)) (by have := depth_ints (n :: ns); simp only [List.map_cons] at this; rw [this]; omega) fun i v h' tk bs hv hrd hk => ?_
  rw [PySem.W.maxD_ints] at hrd
  obtain ⟨t, rfl⟩ := reads_int hrd
  exact ⟨.int _, H, I.kept hk, ⟨t, rfl⟩, q⟩
def rMm (K : PySem.W.Frag) (mx : Bool) : List V → Hp → VK → Prop := if mx = true then cOr (fun xs H Q => ∃ i j, xs = [.int i, .int j] ∧ Q (.int (if j > i then j else i)) H) (cOr (rMaxT K) (rMax K)) else cOr (fun xs H Q => ∃ i j, xs = [.int i, .int j] ∧ Q (.int (if j < i then j else i)) H) (cOr (rMinT K) (rMin K))
theorem cr_mx {X : Cx} (hc : X.calm = true) (hu : X.A.units + 64 < cLine) : CallR X (.builtin "max") (rMm X.K true) := CallR.or (call_max2 hc) (CallR.or (cr_maxT hc hu) (cr_max hc))
theorem cr_mn {X : Cx} (hc : X.calm = true) (hu : X.A.units + 64 < cLine) : CallR X (.builtin "min") (rMm X.K false) := CallR.or (call_min2 hc) (CallR.or (cr_minT hc hu) (cr_min hc))
def oMax : List PyData → Option PyData
  | [.int i, .int j] => some (.int (if j > i then j else i))
  | [.tuple xs] => match ints? xs with
    | some (n :: ns) => some (.int (ns.foldl max n))
    | _ => none
  | [.list xs] => match ints? xs with
    | some (n :: ns) => some (.int (ns.foldl max n))
    | _ => none
  | _ => none
def oMin : List PyData → Option PyData
  | [.int i, .int j] => some (.int (if j < i then j else i))
  | [.tuple xs] => match ints? xs with
    | some (n :: ns) => some (.int (ns.foldl min n))
    | _ => none
  | [.list xs] => match ints? xs with
    | some (n :: ns) => some (.int (ns.foldl min n))
    | _ => none
  | _ => none
theorem foldl_max : ∀ (ns : List Int) (n m : Int), m ∈ n :: ns → (∀ y, y ∈ n :: ns → y ≤ m) → ns.foldl max n = m
  | [], n, m, h, _ => by simp at h; simp [h]
  | k :: ns, n, m, h, hb => by
    show ns.foldl max (max n k) = m
    have h1 := hb n (by simp)
    have h2 := hb k (by simp)
    refine foldl_max ns _ m ?_ fun y hy => ?_
    · simp only [List.mem_cons] at h ⊢
      rcases h with h | h | h
      · left; omega
      · left; omega
      · right; exact h
    · simp only [List.mem_cons] at hy
      rcases hy with hy | hy
      · omega
      · exact hb y (by simp [hy])
theorem foldl_min : ∀ (ns : List Int) (n m : Int), m ∈ n :: ns → (∀ y, y ∈ n :: ns → m ≤ y) → ns.foldl min n = m
  | [], n, m, h, _ => by simp at h; simp [h]
  | k :: ns, n, m, h, hb => by
    show ns.foldl min (min n k) = m
    have h1 := hb n (by simp)
    have h2 := hb k (by simp)
    refine foldl_min ns _ m ?_ fun y hy => ?_
    · simp only [List.mem_cons] at h ⊢
      rcases h with h | h | h
      · left; omega
      · left; omega
      · right; exact h
    · simp only [List.mem_cons] at hy
      rcases hy with hy | hy
      · omega
      · exact hb y (by simp [hy])
theorem c_mx {K : PySem.W.Frag} : Con K (kE oMax) (rMm K true) := con_E <| by
  intro B H vs xs z Q cn ho q
  unfold oMax at ho
  split at ho
  · cases ho
    obtain ⟨v, w, rfl, c1, c2⟩ := cn.two
    exact .inl ⟨_, _, by rw [c1.int, c2.int], q _ (.int _)⟩
  · split at ho
    · rename_i n ns hb
      cases ho
      obtain ⟨v, rfl, c1⟩ := cn.one
      obtain ⟨a, us, rfl, h1, h2⟩ := c1.tuple
      rw [ints_map hb] at h2
      have e := h2.ints
      subst e
      exact .inr (.inl ⟨a, n, ns, rfl, h1, q _ (.int _)⟩)
    · cases ho
  · split at ho
    · rename_i n ns hb
      cases ho
      obtain ⟨v, rfl, c1⟩ := cn.one
      obtain ⟨a, us, rfl, h1, h2⟩ := c1.list
      rw [ints_map hb] at h2
      have e := h2.ints
      subst e
      refine .inr (.inr ⟨a, n :: ns, rfl, h1, by simp, fun m hm hb' => ?_⟩)
      rw [← foldl_max ns n m hm hb']
      exact q _ (.int _)
    · cases ho
  · cases ho
theorem c_mn {K : PySem.W.Frag} : Con K (kE oMin) (rMm K false) := con_E <| by
  intro B H vs xs z Q cn ho q
  unfold oMin at ho
  split at ho
  · cases ho
    obtain ⟨v, w, rfl, c1, c2⟩ := cn.two
    exact .inl ⟨_, _, by rw [c1.int, c2.int], q _ (.int _)⟩
  · split at ho
    · rename_i n ns hb
      cases ho
      obtain ⟨v, rfl, c1⟩ := cn.one
      obtain ⟨a, us, rfl, h1, h2⟩ := c1.tuple
      rw [ints_map hb] at h2
      have e := h2.ints
      subst e
      exact .inr (.inl ⟨a, n, ns, rfl, h1, q _ (.int _)⟩)
    · cases ho
  · split at ho
    · rename_i n ns hb
      cases ho
      obtain ⟨v, rfl, c1⟩ := cn.one
      obtain ⟨a, us, rfl, h1, h2⟩ := c1.list
      rw [ints_map hb] at h2
      have e := h2.ints
      subst e
      refine .inr (.inr ⟨a, n :: ns, rfl, h1, by simp, fun m hm hb' => ?_⟩)
      rw [← foldl_min ns n m hm hb']
      exact q _ (.int _)
    · cases ho
  · cases ho
/-! ### tuple(x), list(x) -/
def rTupN (K : PySem.W.Frag) : List V → Hp → VK → Prop := fun xs H Q => ∃ p ys, xs = [.ref p] ∧ ((SqL K H p ys ∧ ∀ l o, H l = none → o.dict = none → Q (.ref l) (upd H l (.frz o (.tup ys)))) ∨ (SqT K H p ys ∧ Q (.ref p) H))
theorem cr_tupN {X : Cx} : CallR X (.type "tuple") (rTupN X.K) := by
  intro pins s σ H xs us Q I r h
  obtain ⟨p, ys, rfl, h⟩ := h
  obtain ⟨u, rfl, rx⟩ := vals1 r
  cases rx
  rcases h with ⟨hq, q⟩ | ⟨hq, q⟩
  · obtain ⟨its, r', pl, hz⟩ := I.list hq
    have hlen := r'.length
    refine call_tuple_list pl.isList (fun h' kp => ?_) (by simp only [List.size_toArray] <;> omega)
    have I1 : Inv X pins σ H { s with heap := h' } := I.kept (t' := s.toks) kp
    refine ⟨.ref h'.objs.size, _, I1.laid (t' := s.toks) (o := .frz { cls := .type "tuple", data := .seq its.toArray } (.tup ys)) (fun b o e => Heap.get?_push_of_some _ e) (Nat.le_refl _) ?_, rfl, q _ _ (I1.hok.fresh (Nat.le_refl _)) rfl⟩
    exact ⟨Heap.get?_push_size _ rfl, hz, its, r', PyProof.Rows.IsTup.new _ _⟩
  · obtain ⟨its, r', pl, hz⟩ := I.tuple hq
    exact call_tuple_same pl ⟨.ref p, H, I, rfl, q⟩
def kTupN : KK := fun ds env => match ds with
  | [.nt xs] => some (.nt xs, env)
  | [d] => match ctn env d with
    | some (.list xs) => some (.nt xs, env)
    | some (.tuple xs) => some (.pd (.tuple xs), env)
    | _ => none
  | _ => none
theorem c_tupN {K : PySem.W.Frag} : Con K kTupN (rTupN K) := by
  intro σ H B env B1 H1 env1 vs ds d e2 Q en a rr hk q
  unfold kTupN at hk
  split at hk
  · cases hk
    match vs, rr with
    | [v], rr =>
      obtain ⟨p, rfl, r⟩ := rr.each 0 v _ rfl rfl
      obtain ⟨o, us, h1, h2, h3⟩ := id r
      exact ⟨p, us, rfl, .inr ⟨.inl (.inr ⟨o, h1⟩), q B1 H1 _ a ⟨p, rfl, r⟩⟩⟩
    | [], rr => have := rr.len; simp at this
    | _ :: _ :: _, rr => have := rr.len; simp at this
  · rename_i d1 _
    match vs, rr with
    | [v], rr =>
      split at hk
      · rename_i xs hx
        cases hk
        obtain ⟨p, us, rfl, h1, h2⟩ := (Cn.of a.en (rr.each 0 v d1 rfl rfl) hx).list
        refine ⟨p, us, rfl, .inl ⟨h1, fun l o nl hd => ?_⟩⟩
        obtain ⟨g, a2⟩ := a.alloc en nl (.frz o (.tup us)) False (fun _ => False) (fun _ f => f.elim)
        exact q _ _ _ a2 ⟨l, rfl, o, us, upd_same, hd, h2.grow g⟩
      · rename_i xs hx
        cases hk
        obtain ⟨p, us, rfl, h1, h2⟩ := (Cn.of a.en (rr.each 0 v d1 rfl rfl) hx).tuple
        exact ⟨p, us, rfl, .inr ⟨h1, q B1 H1 _ a (.tup h1 h2)⟩⟩
      · cases hk
    | [], rr => have := rr.len; simp at this
    | _ :: _ :: _, rr => have := rr.len; simp at this
  · cases hk
def oList : List PyData → Option (List PyData)
  | [.list xs] => some xs
  | [.tuple xs] => some xs
  | _ => none
theorem c_list {K : PySem.W.Frag} : Con K (kL oList) (fun xs H Q => ∃ p ys, xs = [.ref p] ∧ (SqL K H p ys ∨ SqT K H p ys) ∧ ∀ l, H l = none → Q (.ref l) (upd H l (.lst ys))) := con_L <| by
  intro B H vs xs z Q cn ho q
  unfold oList at ho
  split at ho
  · cases ho
    obtain ⟨v, rfl, c1⟩ := cn.one
    obtain ⟨a, us, rfl, h1, h2⟩ := c1.list
    exact ⟨a, us, rfl, .inl h1, fun l nl => q us l h2 nl⟩
  · cases ho
    obtain ⟨v, rfl, c1⟩ := cn.one
    obtain ⟨a, us, rfl, h1, h2⟩ := c1.tuple
    exact ⟨a, us, rfl, .inr h1, fun l nl => q us l h2 nl⟩
  · cases ho
end T3

end
section
set_option linter.all false
set_option autoImplicit false
set_option Elab.async false
namespace T3
open PySem L2

/-! ### isinstance(x, T) -/
def tyN : PyData → String
  | .none => "NoneType"
  | .bool _ => "bool"
  | .int _ => "int"
  | .str _ => "str"
  | .list _ => "list"
  | .tuple _ => "tuple"
  | .dict _ => "dict"
def isiB (a b : String) : Bool := a == b || (a == "bool" && b == "int")
theorem Cn.ty {K : PySem.W.Frag} {B : Mset} {H : Hp} {v : V} {x : PyData} (h : Cn K B H v x) (nx : ∀ kvs, x ≠ .dict kvs) : TyX K H v (.type (tyN x)) := by
  cases h with
  | ct h r => exact .base (.lst h)
  | rp h =>
    cases h with
    | non => exact .base .non
    | bl b => exact .base (.bl b)
    | int i => exact .base (.int i)
    | str x => exact .base (.str x)
    | tup h r =>
      rcases h with (h | ⟨o, h⟩) | ⟨o, _, _, h1, h2, _⟩
      · exact .base (.tup h)
      · exact .fTuple h
      · exact .kTuple h1 h2
    | lst h _ r => exact .base (.lst h)
    | frz h r => exact .base (.frz h)
    | kls h1 h2 h3 h4 h5 h6 r => exact .kList h1 h2
    | fn h => exact absurd rfl (nx _)
/-- the built-in classes that are asked for -/
inductive T5 where | int | bool | str | tuple | list
def T5.n : T5 → String
  | .int => "int"
  | .bool => "bool"
  | .str => "str"
  | .tuple => "tuple"
  | .list => "list"
def isi5 : T5 → PyData → Bool
  | .int, .int _ => true
  | .int, .bool _ => true
  | .bool, .bool _ => true
  | .str, .str _ => true
  | .tuple, .tuple _ => true
  | .list, .list _ => true
  | _, _ => false
theorem kt0 : ∀ t : T5, kitB "NoneType" t.n = some false := by intro t; cases t <;> decide +kernel
theorem kt1 : ∀ t : T5, kitB "bool" t.n = some (match t with | .int => true | .bool => true | _ => false) := by intro t; cases t <;> decide +kernel
theorem kt2 : ∀ t : T5, kitB "int" t.n = some (match t with | .int => true | _ => false) := by intro t; cases t <;> decide +kernel
theorem kt3 : ∀ t : T5, kitB "str" t.n = some (match t with | .str => true | _ => false) := by intro t; cases t <;> decide +kernel
theorem kt4 : ∀ t : T5, kitB "list" t.n = some (match t with | .list => true | _ => false) := by intro t; cases t <;> decide +kernel
theorem kt5 : ∀ t : T5, kitB "tuple" t.n = some (match t with | .tuple => true | _ => false) := by intro t; cases t <;> decide +kernel
theorem kit5 {K : PySem.W.Frag} (t : T5) (x : PyData) (hx : ∀ kvs, x ≠ .dict kvs) : PySem.W.kitOne K (.type (tyN x)) (.type t.n) = some (isi5 t x) := by
  cases x with
  | dict kvs => exact absurd rfl (hx kvs)
  | none => cases t <;> exact kit_ty (kt0 _)
  | bool b => cases t <;> exact kit_ty (kt1 _)
  | int b => cases t <;> exact kit_ty (kt2 _)
  | str b => cases t <;> exact kit_ty (kt3 _)
  | list b => cases t <;> exact kit_ty (kt4 _)
  | tuple b => cases t <;> exact kit_ty (kt5 _)
def oIsi (t : T5) : List PyData → Option PyData
  | [.dict _] => none
  | [x] => some (.bool (isi5 t x))
  | _ => none
theorem e_isi {X : Cx} {e : Expr} {f : EE} {x : Str} {p p2 pos : Pos} (t : T5) (h : PE X e (tE X.K f)) (hg : Gl X "isinstance") (hm : X.mg "isinstance" = none) (hg2 : Gl X x) (hm2 : X.mg x = none) (hv2 : bootBuiltins x = some (.type t.n)) (hn2 : x ≠ "__name__" := by decide) (hd2 : (x == ("__debug__" : Str)) = false := by decide)
    (hs1 : starEach [e, .Name x p2] X.env = (false, eval e X.env) :: starEach [.Name x p2] X.env := by rfl) (hs2 : starEach [.Name x p2] X.env = (false, eval (.Name x p2) X.env) :: starEach [] X.env := by rfl) (hpl : (backTo pos (starEach [.Name x p2] X.env)).any (·.1) = false := by rfl) :
    PE X (.Call (.Name "isinstance" p) [e, .Name x p2] [] pos) (tE X.K (eThen (eOne f) (kE (oIsi t)))) := by
  refine PE.imp (pe_callB call_isi hg hm PyProof.Rows.boot_isinstance (pa_cons h (pa_cons (pe_bltn (v := .ty t.n) hg2 hm2 hv2 rfl hn2 hd2) pa_nil hs2) hs1) (by decide) (by decide) hs1 hpl) fun σ H Q q => ?_
  have c : Con X.K (kE (oIsi t)) (l1 fun x H Q => rIsi X.K [x, .ty t.n] H Q) := con_E <| by
    intro B H vs xs z Q cn ho q x e
    unfold oIsi at ho
    split at ho
    · cases ho
    · rename_i nx
      cases ho
      obtain ⟨v, e2, c1⟩ := cn.one
      rw [e] at e2
      cases e2
      exact ⟨x, .ty t.n, _, _, _, rfl, .ty _, c1.ty nx, kit5 t _ nx, q _ (.bl _)⟩
    · cases ho
  exact rd_one c q

/-! ### slices -/
def cutD (xs : List PyData) (lo hi : Option Int) : List PyData := (xs.drop (HT.sIx xs.length 0 lo)).take (HT.sIx xs.length xs.length hi - HT.sIx xs.length 0 lo)
theorem RpA.cut {K : PySem.W.Frag} {B : Mset} {H : Hp} {vs : List V} {xs : List PyData} (h : RpA K B H vs xs) (lo hi : Option Int) : RpA K B H (cutV vs lo hi) (cutD xs lo hi) := by
  unfold cutV cutD
  rw [h.length]
  exact (h.drop _).take _
abbrev EO := Sl → Option (Option Int × Sl)
def oNo : EO := fun env => some (none, env)
def oSome (f : EE) : EO := fun env => match f env with
  | some (.pd (.int i), e) => some (some i, e)
  | _ => none
def tO (K : PySem.W.Frag) (f : EO) : TO := fun σ H Q => ∃ B env i env', EnvR K B H σ env ∧ f env = some (i, env') ∧ ∀ B' H', At K σ B H env B' H' env' → Q i H'
theorem PO.imp {X : Cx} {e : Option Expr} {t t' : TO} (h : PO X e t) (i : ∀ σ H Q, t' σ H Q → t σ H Q) : PO X e t' := ⟨fun pins s σ H Q I q => h.run pins s σ H Q I (i σ H Q q)⟩
theorem o_no {X : Cx} {K : PySem.W.Frag} : PO X none (tO K oNo) := PO.imp po_none fun σ H Q q => by
  obtain ⟨B, env, i, env', en, ev, q⟩ := q
  cases ev
  exact q B H (.refl en)
theorem o_some {X : Cx} {e : Expr} {f : EE} (h : PE X e (tE X.K f)) : PO X (some e) (tO X.K (oSome f)) := PO.imp (po_some h) fun σ H Q q => by
  obtain ⟨B, env, i, env', en, ev, q⟩ := q
  unfold oSome at ev
  split at ev
  · rename_i j e h1
    cases ev
    refine ⟨B, env, _, _, en, h1, fun B1 H1 v a1 r1 => ?_⟩
    have r1 : Rp X.K B1 H1 v (.int j) := r1
    cases r1
    exact ⟨j, rfl, q B1 H1 a1⟩
  · cases ev
def kSl (l h : Option Int) : KK := fun ds env => match ds with
  | [d] => match ctn env d with
    | some (.tuple xs) => some (.pd (.tuple (cutD xs l h)), env)
    | some (.list xs) => some (.tmp (.ls (cutD xs l h)), env)
    | some (.str s) => if s.length ≤ 1000000 then some (.pd (.str (cutS s l h)), env) else none
    | _ => none
  | _ => none
def eSl (f : EE) (lo hi : EO) : EE := fun env => match f env with
  | none => none
  | some (d, e1) => match lo e1 with
    | none => none
    | some (l, e2) => match hi e2 with
      | none => none
      | some (h, e3) => kSl l h [d] e3
def rSl3 (K : PySem.W.Frag) : V → Option Int → Option Int → Hp → VK → Prop := fun x lo hi H Q => rSlL K x lo hi H Q ∨ rSlA K x lo hi H Q ∨ rSlS x lo hi H Q
theorem sl3 {X : Cx} : SlR X (rSl3 X.K) := SlR.or sl_list (SlR.or sl_tupA sl_str)
theorem cutD_all {xs : List PyData} {lo hi : Option Int} (h : HT.sIx xs.length 0 lo = 0 ∧ HT.sIx xs.length xs.length hi = xs.length) : cutD xs lo hi = xs := by
  unfold cutD
  rw [h.1, h.2]
  simp
theorem c_sl {K : PySem.W.Frag} {l h : Option Int} : Con K (kSl l h) (l1 fun x H Q => rSl3 K x l h H Q) := by
  intro σ H B env B1 H1 env1 vs ds d e2 Q en a rr hk q x e
  subst e
  unfold kSl at hk
  split at hk
  · rename_i d1
    split at hk
    · rename_i xs hx
      cases hk
      obtain ⟨p, us, rfl, h1, h2⟩ := (Cn.of a.en (rr.each 0 x d1 rfl rfl) hx).tuple
      refine .inr (.inl ⟨p, us, rfl, h1, fun z => ?_, fun z r nr => ?_⟩)
      · rw [h2.length] at z
        rw [cutD_all z] at q
        exact q B1 H1 _ a (.tup h1 h2)
      · obtain ⟨g, a2⟩ := a.alloc en nr (.tup (cutV us l h)) False (fun _ => False) (fun _ f => f.elim)
        exact q _ _ _ a2 (.tup (.inl (.inl upd_same)) ((h2.cut l h).grow g))
    · rename_i xs hx
      cases hk
      obtain ⟨p, us, rfl, h1, h2⟩ := (Cn.of a.en (rr.each 0 x d1 rfl rfl) hx).list
      exact .inl ⟨p, us, rfl, h1, fun r nr => con_new en a nr (h2.cut l h) q⟩
    · rename_i s hx
      split at hk
      · rename_i hl
        cases hk
        have c1 := Cn.of a.en (rr.each 0 x d1 rfl rfl) hx
        exact .inr (.inr ⟨s, c1.str, Nat.le_of_lt (small hl), q B1 H1 _ a (.str _)⟩)
      · cases hk
    · cases hk
  · cases hk
theorem e_sl {X : Cx} {e : Expr} {lo hi : Option Expr} {f : EE} {fl fh : EO} {p2 pos : Pos} (he : PE X e (tE X.K f)) (hl : PO X lo (tO X.K fl)) (hu : PO X hi (tO X.K fh)) : PE X (.Subscript e (.Slice lo hi none p2) pos) (tE X.K (eSl f fl fh)) := by
  refine PE.imp (pe_slice sl3 he hl hu) fun σ H Q t => ?_
  obtain ⟨B, env, d, env', en, ev, q⟩ := t
  unfold eSl at ev
  split at ev
  · cases ev
  rename_i d1 e1 h1
  split at ev
  · cases ev
  rename_i l e2 h2
  split at ev
  · cases ev
  rename_i h e3 h3
  refine ⟨B, env, d1, e1, en, h1, fun B1 H1 v a1 r1 => ⟨B1, e1, l, e2, a1.en, h2, fun B2 H2 a2 => ⟨B2, e2, h, e3, a2.en, h3, fun B3 H3 a3 => ?_⟩⟩⟩
  have a23 := a2.trans a1.en a3
  have aa := a1.trans en a23
  refine c_sl σ H B env B3 H3 e3 [v] [d1] d env' Q en aa ⟨rfl, fun k w d' hv hd => ?_, fun k l' c c' w hkl hk hl _ _ => ?_⟩ ev q v rfl
  · cases k with
    | zero => simp at hv hd; subst hv hd; exact (r1.ra).later a1.en a23
    | succ k => simp at hv
  · have : k = 0 := by
      cases k with
      | zero => rfl
      | succ k => simp at hk
    have : l' = 0 := by
      cases l' with
      | zero => rfl
      | succ k => simp at hl
    omega
end T3

end
section
set_option linter.all false
set_option autoImplicit false
set_option Elab.async false
namespace T3
open PySem L2

theorem RRA.cons {K : PySem.W.Frag} {σ : St} {B1 B2 : Mset} {H H1 H2 : Hp} {e1 e2 : Sl} {v : V} {d : R} {vs : List V} {ds : List R} (en1 : EnvR K B1 H1 σ e1) (lv : ∀ a, H1 a = none → H a = none) (r1 : RR K H B1 H1 σ e1 v d) (a2 : At K σ B1 H1 e1 B2 H2 e2) (r2 : RRA K H1 B2 H2 σ e2 vs ds) : RRA K H B2 H2 σ e2 (v :: vs) (d :: ds) := by
  refine ⟨by simp [r2.len], fun k w d' hv hd => ?_, fun k l c c' w hkl hk hl vk vl => ?_⟩
  · cases k with
    | zero => simp at hv hd; subst hv hd; exact (r1.ra).later en1 a2
    | succ k =>
      have := r2.each k w d' (by simpa using hv) (by simpa using hd)
      cases d' with
      | pd x => exact this
      | nt x => exact this
      | var i => exact this
      | tmp c => obtain ⟨a, e1, e2, e3⟩ := this; exact ⟨a, e1, lv a e2, e3⟩
  · have fresh : ∀ (k : Nat) c', ds[k]? = some (.tmp c') → vs[k]? = some w → ∀ c, d = .tmp c → v = w → False := by
      intro kk c' gk gv c hd hw
      subst hd hw
      obtain ⟨a, rfl, _, ba, _, _⟩ := r1
      obtain ⟨a', e, h0, _⟩ := r2.each kk _ _ gv gk
      cases e
      obtain ⟨o, ho⟩ := en1.dom a ba
      rw [ho] at h0
      cases h0
    cases k with
    | zero =>
      cases l with
      | zero => exact hkl rfl
      | succ l => exact fresh l c' (by simpa using hl) (by simpa using vl) c (by simpa using hk) (by simpa using vk)
    | succ k =>
      cases l with
      | zero => exact fresh k c (by simpa using hk) (by simpa using vk) c' (by simpa using hl) (by simpa using vl)
      | succ l => exact r2.apart k l c c' w (by omega) (by simpa using hk) (by simpa using hl) (by simpa using vk) (by simpa using vl)

/-! ### methods of lists and texts -/
def isL (env : Sl) : R → Bool
  | .pd (.list _) => true
  | .tmp (.ls _) => true
  | .var i => match env[i]? with
    | some (some (.mu _ (.ls _))) => true
    | _ => false
  | _ => false
def isS (env : Sl) : R → Bool
  | .pd (.str _) => true
  | _ => false
def isNt (env : Sl) : R → Bool
  | .nt _ => true
  | _ => false
def eBM (ty : Sl → R → Bool) (fo : EE) (fa : EA) (k : KK) : EE := fun env => match fo env with
  | none => none
  | some (d, e1) => if ty e1 d = true then match fa e1 with
      | none => none
      | some (ds, e2) => k (d :: ds) e2
    else none
def lm (r : V → List V → Hp → VK → Prop) : List V → Hp → VK → Prop := fun vs H Q => ∀ x xs, vs = x :: xs → r x xs H Q
theorem rd_bm {K : PySem.W.Frag} {ty : Sl → R → Bool} {fo : EE} {fa : EA} {k : KK} {r : V → List V → Hp → VK → Prop} {P : V → Hp → Prop} (hp : ∀ H₀ B H σ env v d, EnvR K B H σ env → RR K H₀ B H σ env v d → ty env d = true → P v H) (c : Con K k (lm r)) {σ : St} {H : Hp} {Q : VK} (h : tE K (eBM ty fo fa k) σ H Q) :
    tE K fo σ H fun x H1 => P x H1 ∧ tA K fa σ H1 fun xs H2 => r x xs H2 Q := by
  obtain ⟨B, env, d, env', en, ev, q⟩ := h
  unfold eBM at ev
  split at ev
  · cases ev
  rename_i d1 e1 h1
  split at ev
  rotate_left
  · cases ev
  rename_i ht
  split at ev
  · cases ev
  rename_i ds e2 h2
  refine ⟨B, env, d1, e1, en, h1, fun B1 H1 v a1 r1 => ⟨hp H B1 H1 σ e1 v d1 a1.en r1 ht, B1, e1, ds, e2, a1.en, h2, fun B2 H2 vs a2 r2 => ?_⟩⟩
  exact c σ H B env B2 H2 e2 (v :: vs) (d1 :: ds) d env' Q en (a1.trans en a2) (RRA.cons a1.en a1.st.liv r1 a2 r2) ev q v vs rfl
theorem ty_L {K : PySem.W.Frag} : ∀ H₀ B H σ env v d, EnvR K B H σ env → RR K H₀ B H σ env v d → isL env d = true → tyV K "list" v H := by
  intro H₀ B H σ env v d en r h
  unfold isL at h
  split at h
  · obtain ⟨a, vs, rfl, h1, _⟩ := Cn.list (.rp (show Rp K B H v (.list _) from r))
    exact .inl ⟨rfl, vs, h1⟩
  · obtain ⟨a, rfl, _, _, ⟨vs, h1, _⟩, _⟩ := r
    exact .inl ⟨rfl, vs, .inl (.inl h1)⟩
  · rename_i i
    split at h
    · rename_i hx
      obtain ⟨a, h1, _, vs, h2, _⟩ := en.mu _ _ _ hx
      rw [r.1] at h1
      cases h1
      exact .inl ⟨rfl, vs, .inl (.inl h2)⟩
    · cases h
  · cases h
theorem ty_S {K : PySem.W.Frag} : ∀ H₀ B H σ env v d, EnvR K B H σ env → RR K H₀ B H σ env v d → isS env d = true → tyV K "str" v H := by
  intro H₀ B H σ env v d en r h
  unfold isS at h
  split at h
  · have r : Rp K B H v (.str _) := r
    cases r
    rfl
  · cases h
/-- frozen, with nothing else changed -/
theorem At.freeze {K : PySem.W.Frag} {σ : St} {B B1 : Mset} {H H1 : Hp} {env env1 : Sl} (en : EnvR K B H σ env) (a : At K σ B H env B1 H1 env1) (fz : Mset) (hf : ∀ q, fz q → H q = none ∧ ∀ (i : Nat) m d, env1[i]? = some (some (S.mu m d)) → σ[i]? ≠ some (some (V.ref q))) :
    Grow B1 H1 (fun q => B1 q ∧ ¬ fz q) H1 ∧ At K σ B H env (fun q => B1 q ∧ ¬ fz q) H1 env1 := by
  have g : Grow B1 H1 (fun q => B1 q ∧ ¬ fz q) H1 := ⟨fun q o h _ => h, fun q h => .inl h.1⟩
  refine ⟨g, ⟨a.st.keep, fun q h => a.st.new q h.1, fun q h w => ⟨a.st.old q h w, fun f => ?_⟩, a.st.sub, a.st.liv⟩, ⟨a.en.len, fun i x h => ?_, fun i x h => ?_, fun i m c h => ?_, a.en.inj, fun q h => a.en.dom q h.1⟩, a.sm, a.ks⟩
  · obtain ⟨o', ho⟩ := en.dom q h
    rw [(hf q f).1] at ho; cases ho
  · obtain ⟨v, h1, h2⟩ := a.en.pd i x h
    exact ⟨v, h1, h2.grow g⟩
  · obtain ⟨v, h1, h2⟩ := a.en.nt i x h
    exact ⟨v, h1, h2.grow g⟩
  · obtain ⟨q, h1, h2, h3⟩ := a.en.mu i m c h
    refine ⟨q, h1, ⟨h2, fun f => (hf q f).2 i m c h h1⟩, ?_⟩
    cases c with
    | ls xs => obtain ⟨vs, h4, h5⟩ := h3; exact ⟨vs, h4, h5.grow g⟩
    | dk xs => obtain ⟨vs, h4, h5⟩ := h3; exact ⟨vs, h4, h5.grow g⟩
    | dn xs => obtain ⟨vs, h4, h5⟩ := h3; exact ⟨vs, h4, h5.grow g⟩
def kAppend : KK := fun ds env => match ds with
  | [.var i, d] => match data1 d with
    | none => none
    | some y => match env[i]? with
      | some (some (.mu m (.ls xs))) => if m ≠ .fro ∧ xs.length ≤ 1000000 then some (.pd .none, env.set i (some (.mu m (.ls (xs ++ [y]))))) else none
      | _ => none
  | _ => none
theorem c_append {K : PySem.W.Frag} : Con K kAppend (lm rAppend) := by
  intro σ H B env B1 H1 env1 vs ds d e2 Q en a rr hk q x xs e
  subst e
  unfold kAppend at hk
  split at hk
  · rename_i i d1
    split at hk
    · cases hk
    rename_i y hy
    split at hk
    · rename_i m ys hm
      split at hk
      · rename_i hc
        cases hk
        have hx : σ[i]? = some (some x) := rr.each 0 x _ rfl rfl
        obtain ⟨p, g1, g2, us, g3, g4⟩ := a.en.mu i _ _ hm
        rw [hx] at g1
        cases g1
        match xs, rr with
        | [w], rr =>
          obtain ⟨gf, af⟩ := a.freeze en (fzOf [.ref p, w] [.var i, d1]) rr.fz
          have hw : RpA K (fun q => B1 q ∧ ¬ fzOf [.ref p, w] [.var i, d1] q) H1 [w] [y] := by
            have := RRA.data (vs := [w]) (ds := [d1]) (xs := [y]) gf (fun a o h => h) rr.tail (fun q ⟨k, c, z1, z2⟩ h => h.2 ⟨k + 1, c, by simpa using z1, by simpa using z2⟩) (by simp [datas, hy])
            exact this
          refine ⟨p, us, w, rfl, rfl, g3, by rw [g4.length]; exact small hc.2, ?_⟩
          obtain ⟨gw, aw⟩ := AtS.write (o := .lst (us ++ [w])) (c' := .ls (ys ++ [y])) af.en hm hc.1 hx (fun o' h' im => by rw [g3] at h'; cases h'; exact im) (fun H' _ h1 g' => ⟨_, h1, ((g4.grow gf).append hw).grow g'⟩)
          exact q _ _ _ (af.trans en aw) .non
        | [], rr => have := rr.len; simp at this
        | _ :: _ :: _, rr => have := rr.len; simp at this
      · cases hk
    · cases hk
  · cases hk
def kPop : KK := fun ds env => match ds with
  | [.var i] => match env[i]? with
    | some (some (.mu m (.ls xs))) => if m ≠ .fro then match xs[xs.length - 1]? with
        | some y => some (.pd y, env.set i (some (.mu m (.ls xs.dropLast))))
        | none => none
      else none
    | _ => none
  | _ => none
theorem RpA.dropLast {K : PySem.W.Frag} {B : Mset} {H : Hp} {vs : List V} {ds : List PyData} (h : RpA K B H vs ds) : RpA K B H vs.dropLast ds.dropLast := by
  rw [List.dropLast_eq_take, List.dropLast_eq_take, h.length]
  exact h.take _
theorem c_pop {K : PySem.W.Frag} : Con K kPop (lm rPop) := by
  intro σ H B env B1 H1 env1 vs ds d e2 Q en a rr hk q x xs e
  subst e
  unfold kPop at hk
  split at hk
  · rename_i i
    split at hk
    · rename_i m ys hm
      split at hk
      · rename_i hc
        split at hk
        · rename_i y hy
          cases hk
          have hx : σ[i]? = some (some x) := rr.each 0 x _ rfl rfl
          obtain ⟨p, g1, g2, us, g3, g4⟩ := a.en.mu i _ _ hm
          rw [hx] at g1
          cases g1
          have hn : xs = [] := by
            have := rr.len
            simp at this
            exact this
          obtain ⟨w, k1, k2⟩ := g4.get hy
          refine ⟨p, us, w, rfl, hn, g3, by rw [g4.length]; exact k1, ?_⟩
          obtain ⟨gw, aw⟩ := AtS.write (o := .lst us.dropLast) (c' := .ls ys.dropLast) a.en hm hc hx (fun o' h' im => by rw [g3] at h'; cases h'; exact im) (fun H' _ h1 g' => ⟨_, h1, g4.dropLast.grow g'⟩)
          exact q _ _ _ (a.trans en aw) (Rp.grow gw k2)
        · cases hk
      · cases hk
    · cases hk
  · cases hk
def kExtend : KK := fun ds env => match ds with
  | [.var i, d] => match lsOf env d with
    | none => none
    | some zs => match env[i]? with
      | some (some (.mu m (.ls xs))) => if m ≠ .fro ∧ xs.length + zs.length ≤ 1000000 then some (.pd .none, env.set i (some (.mu m (.ls (xs ++ zs))))) else none
      | _ => none
  | _ => none
theorem c_extend {K : PySem.W.Frag} : Con K kExtend (lm rExtend) := by
  intro σ H B env B1 H1 env1 vs ds d e2 Q en a rr hk q x xs e
  subst e
  unfold kExtend at hk
  split at hk
  · rename_i i d1
    split at hk
    · cases hk
    rename_i zs hz
    split at hk
    · rename_i m ys hm
      split at hk
      · rename_i hc
        cases hk
        have hx : σ[i]? = some (some x) := rr.each 0 x _ rfl rfl
        obtain ⟨p, g1, g2, us, g3, g4⟩ := a.en.mu i _ _ hm
        rw [hx] at g1
        cases g1
        match xs, rr with
        | [w], rr =>
          obtain ⟨b, ws, rfl, k1, k2⟩ := lsOf_at a.en (rr.each 1 w d1 rfl rfl) hz
          refine ⟨p, b, us, ws, rfl, rfl, g3, k1, by rw [g4.length, k2.length]; exact Nat.le_of_lt (small hc.2), ?_⟩
          obtain ⟨gw, aw⟩ := AtS.write (o := .lst (us ++ ws)) (c' := .ls (ys ++ zs)) a.en hm hc.1 hx (fun o' h' im => by rw [g3] at h'; cases h'; exact im) (fun H' _ h1 g' => ⟨_, h1, (g4.append k2).grow g'⟩)
          exact q _ _ _ (a.trans en aw) .non
        | [], rr => have := rr.len; simp at this
        | _ :: _ :: _, rr => have := rr.len; simp at this
      · cases hk
    · cases hk
  · cases hk
/-! ### index -/
def firstIx (d : PyData) : List PyData → Option Nat
  | [] => none
  | z :: zs => if PyData.eqv z d = true then some 0 else match firstIx d zs with
    | none => none
    | some j => some (j + 1)
theorem firstIx_at {d : PyData} : ∀ {zs : List PyData} {j : Nat}, firstIx d zs = some j → ∃ z, zs[j]? = some z ∧ PyData.eqv z d = true ∧ ∀ (m : Nat) z', m < j → zs[m]? = some z' → PyData.eqv z' d = false
  | [], j, h => by cases h
  | z :: zs, j, h => by
    unfold firstIx at h
    split at h
    · rename_i hz
      cases h
      exact ⟨z, rfl, hz, fun m z' hm => by omega⟩
    · rename_i hz
      split at h
      · cases h
      rename_i k hk
      cases h
      obtain ⟨y, h1, h2, h3⟩ := firstIx_at hk
      refine ⟨y, by simpa using h1, h2, fun m z' hm hm' => ?_⟩
      cases m with
      | zero => simp at hm'; subst hm'; simpa using hz
      | succ m => exact h3 m z' (by omega) (by simpa using hm')
def oIxL : List PyData → Option PyData
  | [.list ds, d] => if SeqAt.shaped (.list ds) = true ∧ SeqAt.shaped d = true then match firstIx d ds with
      | some j => some (.int (j : Nat))
      | none => none
    else none
  | _ => none
def oIxT : List PyData → Option PyData
  | [.tuple ds, d] => if SeqAt.shaped (.tuple ds) = true ∧ SeqAt.shaped d = true then match firstIx d ds with
      | some j => some (.int (j : Nat))
      | none => none
    else none
  | _ => none
theorem c_indexL {K : PySem.W.Frag} : Con K (kE oIxL) (lm (rIndexD K)) := con_E <| by
  intro B H vs xs z Q cn ho q x ys e
  unfold oIxL at ho
  split at ho
  · rename_i ds d
    split at ho
    · rename_i hs
      split at ho
      · rename_i j hj
        cases ho
        obtain ⟨v, w, e2, c1, c2⟩ := cn.two
        rw [e] at e2
        cases e2
        obtain ⟨a, us, rfl, h1, h2⟩ := c1.list
        obtain ⟨y, h3, h4, h5⟩ := firstIx_at hj
        exact ⟨a, w, d, ds, j, y, rfl, rfl, c1.dp hs.1, c2.dp hs.2, hs.1, hs.2, h3, h4, h5, q _ (.int _)⟩
      · cases ho
    · cases ho
  · cases ho
def rTix (K : PySem.W.Frag) : V → List V → Hp → VK → Prop := fun x xs H Q => ∃ (a : Addr) (y : V) (d : PyData) (ds : List PyData) (j : Nat) (z : PyData), x = V.ref a ∧ xs = [y] ∧ Dp K H (V.ref a) (.tuple ds) ∧ Dp K H y d ∧
  SeqAt.shaped (.tuple ds) = true ∧ SeqAt.shaped d = true ∧ ds[j]? = some z ∧ PyData.eqv z d = true ∧ (∀ (m : Nat) (z' : PyData), m < j → ds[m]? = some z' → PyData.eqv z' d = false) ∧ Q (.int (j : Nat)) H
theorem mt_tix {X : Cx} (hu : X.A.units + 65 < cLine) : MtR X "tuple.index" (rTix X.K) := by
  intro pins s σ H x xs v us Q I rx rxs h
  obtain ⟨a, y, d, ds, j, z, rfl, rfl, hl, hy, sl, sd, hz, hzj, hno, q⟩ := h
  cases rx
  obtain ⟨uy, rfl, ry⟩ := rxs.one
  obtain ⟨bs, r1⟩ := Dp.reads I d y uy hy ry
  have hxs : PyData.canLayAll0 ds = true := SeqAt.canLay_of_shaped sl
  cases hl with
  | tup hs ha =>
    obtain ⟨its, rv, ⟨⟨cls, dd, data, sls⟩, ho, hc, n, hdt⟩, hlen⟩ := I.tuple hs
    simp only at hc hdt
    subst hc hdt
    obtain ⟨as, h4⟩ := Dp.readsAll I ds _ its ha rv
    have hn : its.length = ds.length := SeqAt.ReadsAll.length ds its as h4
    have hmap : its.map (SeqAt.readOf s.heap) = ds := SeqAt.readsAll_map ds its as hxs h4
    have at_ : ∀ (m : Nat) (hm : m < its.length) z', ds[m]? = some z' → SeqAt.readOf s.heap its[m] = z' := by
      intro m hm z' hz'
      rw [← hmap, List.getElem?_map, List.getElem?_eq_getElem hm] at hz'
      exact Option.some.inj hz'
    obtain ⟨hjd, _⟩ := List.getElem?_eq_some_iff.mp hz
    have hj : j < its.length := by omega
    have it := SeqAt.items_eqAt (vs := its.toArray) (show ReadsAll s.heap its.toArray.toList ds as from h4) r1 hxs (SeqAt.canLay_of_shaped sd) (A := X.A) (room_in sd hu)
    refine call_meets F.slot_tuple_index ⟨_, ho, rfl⟩ F.entry_tuple_index (F.args_tuple_index_2 _ _)
      (SeqAt.tuple_index2_found a its.toArray n dd sls uy (fun m => if h : m < its.length then PyData.eqv (SeqAt.readOf s.heap its[m]) d else false) j (by simpa using hj) (Nat.zero_le _) (by simpa using hj) ?_ ?_) ⟨ho, fun m hm => ?_, ⟨.int (j : Nat), H, I.tok _, ⟨_, rfl⟩, q⟩⟩
    · rw [dif_pos hj, at_ j hj z hz]; exact hzj
    · intro m hm _ hmj
      have hml : m < its.length := by simpa using hm
      rw [dif_pos hml, at_ m hml _ (List.getElem?_eq_getElem (by omega))]
      exact hno m _ hmj (List.getElem?_eq_getElem (by omega))
    · have hml : m < its.length := by simpa using hm
      rw [dif_pos hml]
      have := it its.toArray[m] (by simp)
      simpa using this
/-- t.index(x) of a tuple without a dict -/
theorem pe_tix {X : Cx} {o e : Expr} {to : TE} {t : TA} {apos cpos : Pos} (hu : X.A.units + 65 < cLine) (ho : PE X o to) (ha : PA X [e] t)
    (hbase : attributeBase o "index" X.env (eval o X.env) = eval o X.env := by rfl)
    (hfew : ((backTo cpos (starEach [e] X.env)).all (fun x => !x.1) && (backToKw cpos (keywordEach [] X.env)).all (fun x => x.1.isSome)
      && decide (([e] : List Expr).length + ([] : List Keyword).length + (if ([] : List Keyword).isEmpty then 0 else 1) < 30)) = true := by rfl)
    (hline : (apos.endLine == cpos.line) = true := by rfl) (hs : starEach [e] X.env = (false, eval e X.env) :: starEach [] X.env := by rfl) (hplain : (backTo cpos (starEach [] X.env)).any (·.1) = false := by rfl) :
    PE X (.Call (.Attribute o "index" apos) [e] [] cpos) (fun σ H Q => to σ H fun x H1 => (∃ p ob us, x = .ref p ∧ H1 p = some (.frz ob (.tup us)) ∧ ob.dict = none) ∧ t σ H1 fun xs H2 => rTix X.K x xs H2 Q) := by
  refine ⟨fun pins s σ H Q I h => ?_⟩
  refine wpAny_Call_method_late hbase hfew hline rfl (thn (ho.run pins s σ H _ I h) fun v s1 ⟨x, H1, I1, r1, ⟨p, ob, us, ex, hf, hd⟩, q1⟩ => ?_)
  subst ex
  cases r1
  obtain ⟨g1, g2, its, g3, o2, g4, g5, _⟩ := I1.hok p _ hf
  refine ⟨"tuple", "tuple.index", F.plainAttrs_tuple, F.slot_tuple_index, F.type_tuple_index, ⟨o2, g4, g5⟩, fun a z => ?_, ?_⟩
  · cases z; exact ⟨ob, g1, hd⟩
  have hA := ha.run cpos pins s1 σ H1 _ I1 q1
  rw [hs] at hA ⊢
  refine Calls.callWith_builtin (by show (false || (backTo cpos (starEach [] X.env)).any (·.1)) = false; rw [hplain] <;> rfl) (Calls.evalArgs_plain ?_)
  exact thn hA fun us s2 ⟨vs, H2, I2, r2, q2⟩ => mt_tix hu pins s2 σ H2 (.ref p) vs _ us Q I2 rfl r2 q2
theorem c_tix {K : PySem.W.Frag} : Con K (kE oIxT) (lm (rTix K)) := con_E <| by
  intro B H vs xs z Q cn ho q x ys e
  unfold oIxT at ho
  split at ho
  · rename_i ds d
    split at ho
    · rename_i hs
      split at ho
      · rename_i j hj
        cases ho
        obtain ⟨v, w, e2, c1, c2⟩ := cn.two
        rw [e] at e2
        cases e2
        obtain ⟨a, us, rfl, h1, h2⟩ := c1.tuple
        obtain ⟨y, h3, h4, h5⟩ := firstIx_at hj
        exact ⟨a, w, d, ds, j, y, rfl, rfl, c1.dp hs.1, c2.dp hs.2, hs.1, hs.2, h3, h4, h5, q _ (.int _)⟩
      · cases ho
    · cases ho
  · cases ho
theorem ty_Nt {K : PySem.W.Frag} : ∀ H₀ B H σ env v d, EnvR K B H σ env → RR K H₀ B H σ env v d → isNt env d = true → ∃ p ob us, v = .ref p ∧ H p = some (.frz ob (.tup us)) ∧ ob.dict = none := by
  intro H₀ B H σ env v d en r h
  unfold isNt at h
  split at h
  · obtain ⟨a, rfl, o, us, h1, h2, _⟩ := r
    exact ⟨a, o, us, rfl, h1, h2⟩
  · cases h
def kIxT : KK := kE oIxT
def kIxL : KK := kE oIxL
theorem e_tix {X : Cx} {o e : Expr} {fo : EE} {fa : EA} {apos cpos : Pos} (hu : X.A.units + 65 < cLine) (ho : PE X o (tE X.K fo)) (ha : PA X [e] (tA X.K fa))
    (hbase : attributeBase o "index" X.env (eval o X.env) = eval o X.env := by rfl)
    (hfew : ((backTo cpos (starEach [e] X.env)).all (fun x => !x.1) && (backToKw cpos (keywordEach [] X.env)).all (fun x => x.1.isSome)
      && decide (([e] : List Expr).length + ([] : List Keyword).length + (if ([] : List Keyword).isEmpty then 0 else 1) < 30)) = true := by rfl)
    (hline : (apos.endLine == cpos.line) = true := by rfl) (hs : starEach [e] X.env = (false, eval e X.env) :: starEach [] X.env := by rfl) (hplain : (backTo cpos (starEach [] X.env)).any (·.1) = false := by rfl) :
    PE X (.Call (.Attribute o "index" apos) [e] [] cpos) (tE X.K (eBM isNt fo fa kIxT)) :=
  PE.imp (pe_tix hu ho ha hbase hfew hline hs hplain) fun _ _ _ t => rd_bm ty_Nt c_tix t
end T3

end
section
set_option linter.all false
set_option autoImplicit false
set_option Elab.async false
namespace T3
open PySem L2

/-! ### chains -/
def eCh (c1 c2 : Int → Int → Bool) (fa fb fc : EE) : EE := fun env => match fa env with
  | some (.pd (.int i), e1) => match fb e1 with
    | some (.pd (.int j), e2) => if c1 i j = true then match fc e2 with
        | some (.pd (.int k), e3) => some (.pd (.bool (c2 j k)), e3)
        | _ => none
      else some (.pd (.bool false), e2)
    | _ => none
  | _ => none
theorem rd_chain {K : PySem.W.Frag} {c1 c2 : Int → Int → Bool} {fa fb fc : EE} {σ : St} {H : Hp} {Q : VK} (h : tE K (eCh c1 c2 fa fb fc) σ H Q) : tChain (rI0 fun i j => .bl (c1 i j)) (rI0 fun i j => .bl (c2 i j)) (tE K fa) (tE K fb) (tE K fc) σ H Q := by
  obtain ⟨B, env, d, env', en, ev, q⟩ := h
  unfold eCh at ev
  split at ev
  · rename_i i e1 h1
    split at ev
    · rename_i j e2 h2
      refine ⟨B, env, _, _, en, h1, fun B1 H1 v a1 r1 => ⟨B1, e1, _, _, a1.en, h2, fun B2 H2 w a2 r2 => ?_⟩⟩
      have r1 : Rp K B1 H1 v (.int i) := r1
      have r2 : Rp K B2 H2 w (.int j) := r2
      cases r1
      cases r2
      have a12 := a1.trans en a2
      refine ⟨i, j, rfl, rfl, c1 i j, rfl, ?_⟩
      split at ev
      · rename_i hc
        rw [if_pos hc]
        split at ev
        · rename_i k e3 h3
          cases ev
          refine ⟨B2, e2, _, _, a2.en, h3, fun B3 H3 u a3 r3 => ?_⟩
          have r3 : Rp K B3 H3 u (.int k) := r3
          cases r3
          exact ⟨j, k, rfl, rfl, q _ _ _ (a12.trans en a3) (.bl _)⟩
        · cases ev
      · rename_i hc
        rw [if_neg hc]
        cases ev
        exact q _ _ _ a12 (.bl _)
    · cases ev
  · cases ev
inductive Cm where | lt | le | gt | ge
def Cm.op : Cm → CmpOp
  | .lt => .Lt
  | .le => .LtE
  | .gt => .Gt
  | .ge => .GtE
def Cm.f : Cm → Int → Int → Bool
  | .lt => fun i j => decide (i < j)
  | .le => fun i j => decide (i ≤ j)
  | .gt => fun i j => decide (j < i)
  | .ge => fun i j => decide (j ≤ i)
theorem Cm.ok {X : Cx} (c : Cm) : OpR X (compareOp c.op) (rI0 fun i j => .bl (c.f i j)) := by
  cases c
  · exact op_lt
  · exact op_le
  · exact op_gt
  · exact op_ge
theorem e_chain {X : Cx} {a b c : Expr} {fa fb fc : EE} {pos : Pos} (o1 o2 : Cm) (ha : PE X a (tE X.K fa)) (hb : PE X b (tE X.K fb)) (hc : PE X c (tE X.K fc)) (hm : lastMarks [o1.op, o2.op] [b, c] = false := by with_unfolding_all rfl) :
    PE X (.Compare a [o1.op, o2.op] [b, c] pos) (tE X.K (eCh o1.f o2.f fa fb fc)) := PE.imp (pe_chain o1.ok o2.ok ha hb hc hm) fun _ _ _ t => rd_chain t
theorem b_chain {X : Cx} {a b c : Expr} {fa fb fc : EE} {pos : Pos} (o1 o2 : Cm) (ha : PE X a (tE X.K fa)) (hb : PE X b (tE X.K fb)) (hc : PE X c (tE X.K fc)) (hm : lastMarks [o1.op, o2.op] [b, c] = false := by with_unfolding_all rfl) :
    PT X (.Compare a [o1.op, o2.op] [b, c] pos) (tT X.K (bT (eCh o1.f o2.f fa fb fc))) := b_of (pt_chain o1.ok o2.ok ha hb hc hm) fun _ _ _ t => rd_chain t
/-- a truth that a call or a name gives -/
theorem b_truth {X : Cx} {a : Expr} {f : EE} (h : PE X a (tE X.K f)) (he : ∀ whole, isTrue a X.env whole = (do let v ← whole; standAt a.pos; holding [v] (truthy v)) := by exact fun _ => rfl) : PT X a (tT X.K (bT f)) :=
  PT.imp (pt_truth h he) fun σ H Q t => by
    obtain ⟨B, env, d, env', en, ev, q⟩ := rd_test t
    refine ⟨B, env, d, env', en, ev, fun B' H' v a r => ?_⟩
    obtain ⟨k, e, h⟩ := q B' H' v a r
    subst e
    exact ⟨k, rfl, h⟩
/-! ### statements -/
section
variable {X : Cx} {st : Stmt} {rest : List Stmt} {e : Expr} {pos : Pos} {f g : SS} {fe : EE} {c : EB}
theorem ss_nil : PSs X [] (tS X.K sPass) := PSs.imp pss_nil fun _ _ _ t => rd_pass t
theorem ss_cons (h1 : PS X st (tS X.K f)) (h2 : PSs X rest (tS X.K g)) : PSs X (st :: rest) (tS X.K (sSeq f g)) := PSs.imp (pss_cons h1 h2) fun _ _ _ t => rd_seq t
theorem ss_one (h1 : PS X st (tS X.K f)) : PSs X [st] (tS X.K f) := pss_one h1
theorem s_pass : PS X (.Pass pos) (tS X.K sPass) := PS.imp ps_pass fun _ _ _ t => rd_pass t
theorem s_brk : PS X (.Break pos) (tS X.K sBrk) := PS.imp ps_break fun _ _ _ t => rd_brk t
theorem s_cnt : PS X (.Continue pos) (tS X.K sCnt) := PS.imp ps_continue fun _ _ _ t => rd_cnt t
theorem s_never : PS X st (tS X.K sNever) := PS.imp ps_never fun _ _ _ t => rd_never t
theorem s_if {t : Expr} {a b : List Stmt} (hc : PT X t (tT X.K c)) (ha : PSs X a (tS X.K f)) (hb : PSs X b (tS X.K g)) : PS X (.If t a b pos) (tS X.K (sIf c f g)) := PS.imp (ps_if hc ha hb) fun _ _ _ t => rd_ifS t
theorem s_ret (h : PE X e (tE X.K fe)) : PS X (.Return (some e) pos) (tS X.K (sRet fe)) := PS.imp (ps_ret h) fun _ _ _ t => rd_ret t
theorem s_retN : PS X (.Return none pos) (tS X.K sRetN) := PS.imp ps_retN fun _ _ _ t => rd_retN t
theorem s_expr (h : PE X e (tE X.K fe)) (hs : swapsWith e none pos.line X.env = pure false := by rfl) : PS X (.Expr e pos) (tS X.K (sExpr fe)) := PS.imp (ps_expr h hs) fun _ _ _ t => rd_expr t
theorem s_set {i : Nat} {x : Str} {pos' : Pos} (hN : X.N.Nodup) (hi : X.N[i]? = some x) (hx : Loc X.env.scope x) (he : PE X e (tE X.K fe)) (hs : swapsWith e (some (.Name x pos')) pos.line X.env = pure false := by rfl) (hf : X.fn x = true ∨ X.env.scope.names.lookup x = some .local := by first | exact .inl rfl | exact .inr rfl | assumption) :
    PS X (.Assign [.Name x pos'] e pos) (tS X.K (sSet i fe)) := PS.imp (ps_set hN hi hx he hs hf) fun _ _ _ t => rd_set t
theorem s_while {t : Expr} {body : List Stmt} (hp : PassesOwn (model X.prog X.w) X.A X.env X.xe) (hc : PT X t (tT X.K c)) (hb : PSs X body (tS X.K f)) : PS X (.While t body [] pos) (tS X.K (sWhile c f)) := PS.imp (ps_while hp hc hb) fun _ _ _ t => rd_while t
end
theorem PG.imp {X : Cx} {e : Expr} {t t' : TG} (h : PG X e t) (i : ∀ v σ H Q, t' v σ H Q → t v σ H Q) : PG X e t' := ⟨fun pins s σ H v u Q I r q => h.run pins s σ H v u Q I r (i v σ H Q q)⟩
theorem PGs.imp {X : Cx} {e : List Expr} {t t' : TGs} (h : PGs X e t) (i : ∀ v σ H Q, t' v σ H Q → t v σ H Q) : PGs X e t' := ⟨fun pins s σ H v u Q I r q => h.run pins s σ H v u Q I r (i v σ H Q q)⟩
section
variable {X : Cx} {K : PySem.W.Frag} {pos : Pos} {g : GG} {gs : GGs} {e : Expr} {es : List Expr}
theorem g_name {i : Nat} {x : Str} (hN : X.N.Nodup) (hi : X.N[i]? = some x) (hx : Loc X.env.scope x) (hf : X.fn x = true ∨ X.env.scope.names.lookup x = some .local := by first | exact .inl rfl | exact .inr rfl | assumption) : PG X (.Name x pos) (tG K (gN i)) := PG.imp (pg_name hN hi hx hf) fun _ _ _ _ t => rd_gN t
theorem gs_nil : PGs X [] (tGs K gNl) := PGs.imp pgs_nil fun _ _ _ _ t => rd_gNl t
theorem gs_cons (h1 : PG X e (tG K g)) (h2 : PGs X es (tGs K gs)) (hs : (assignEach (e :: es) X.env).map (·.2) = assign e X.env :: (assignEach es X.env).map (·.2) := by rfl) : PGs X (e :: es) (tGs K (gCn g gs)) := PGs.imp (pgs_cons h1 h2 hs) fun _ _ _ _ t => rd_gCn t
theorem g_tup {k n : Nat} (hc : X.calm = true) (h : PGs X es (tGs X.K gs)) (hn : (assignEach es X.env).length = n := by rfl) (hst : (assignEach es X.env).findIdx? (·.1) = none := by rfl) : PG X (.Tuple es k pos) (tG X.K (gT n gs)) := PG.imp (pg_tup hc h hn hst) fun _ _ _ _ t => rd_gT t
theorem v_name {i : Nat} {x : Str} {vs : List Nat} (hv : i ∈ vs) (hN : X.N.Nodup) (hi : X.N[i]? = some x) (hx : Loc X.env.scope x) (hf : X.fn x = true ∨ X.env.scope.names.lookup x = some .local := by first | exact .inl rfl | exact .inr rfl | assumption) : PG X (.Name x pos) (tGv K (gN i) vs) := PG.imp (pg_name hN hi hx hf) fun _ _ _ _ t => rd_gNv hv t
theorem vs_nil {vs : List Nat} : PGs X [] (tGsv K gNl vs) := PGs.imp pgs_nil fun _ _ _ _ t => rd_gNlv t
theorem vs_cons {vs : List Nat} (h1 : PG X e (tGv K g vs)) (h2 : PGs X es (tGsv K gs vs)) (hs : (assignEach (e :: es) X.env).map (·.2) = assign e X.env :: (assignEach es X.env).map (·.2) := by rfl) : PGs X (e :: es) (tGsv K (gCn g gs) vs) := PGs.imp (pgs_cons h1 h2 hs) fun _ _ _ _ t => rd_gCnv t
theorem v_tup {k n : Nat} {vs : List Nat} (hc : X.calm = true) (h : PGs X es (tGsv X.K gs vs)) (hn : (assignEach es X.env).length = n := by rfl) (hst : (assignEach es X.env).findIdx? (·.1) = none := by rfl) : PG X (.Tuple es k pos) (tGv X.K (gT n gs) vs) := PG.imp (pg_tup hc h hn hst) fun _ _ _ _ t => rd_gTv t
end
theorem s_for {X : Cx} {tg iter : Expr} {body : List Stmt} {pos : Pos} {it : EI} {g : GG} {f : SS} (hp : PassesOwn (model X.prog X.w) X.A X.env X.xe) (hc : X.calm = true) (hi : PI X tg iter (tI X.K it)) (hg : PG X tg (tG X.K g)) (hb : PSs X body (tS X.K f)) (hs : ∀ x, foldedSetIterable iter X.env x = pure x := by intro _; rfl) : PS X (.For tg iter body [] pos) (tS X.K (sFor it g f)) :=
  PS.imp (ps_for hp hc hi hg hb hs) fun _ _ _ t => rd_for t
/-- target = value, of data -/
def sAsg (f : EE) (g : GG) : SS := fun env => match f env with
  | some (.pd x, e) => match g x e with
    | none => none
    | some e2 => some (.nx, e2)
  | some (.nt xs, e) => match g (.tuple xs) e with
    | none => none
    | some e2 => some (.nx, e2)
  | _ => none
theorem rd_asg {K : PySem.W.Frag} {f : EE} {g : GG} {D : Ends} {σ : St} {H : Hp} (h : tS K (sAsg f g) D σ H) : tAsg (tE K f) (tG K g) D σ H := by
  obtain ⟨B, env, fl, env', en, ev, q⟩ := h
  unfold sAsg at ev
  split at ev
  · rename_i x e1 h1
    split at ev
    · cases ev
    rename_i e2 h2
    cases ev
    exact ⟨B, env, _, _, en, h1, fun B1 H1 v a1 r1 => ⟨B1, e1, x, _, a1.en, r1, h2, fun B2 σ2 H2 a2 => q B2 σ2 H2 (a1.s.trans en a2)⟩⟩
  · rename_i x e1 h1
    split at ev
    · cases ev
    rename_i e2 h2
    cases ev
    refine ⟨B, env, _, _, en, h1, fun B1 H1 v a1 r1 => ?_⟩
    obtain ⟨p, rfl, r1⟩ := r1
    exact ⟨B1, e1, _, _, a1.en, r1.rp, h2, fun B2 σ2 H2 a2 => q B2 σ2 H2 (a1.s.trans en a2)⟩
  · cases ev
theorem s_asg {X : Cx} {tg e : Expr} {pos : Pos} {f : EE} {g : GG} (he : PE X e (tE X.K f)) (hg : PG X tg (tG X.K g)) (hs : swapsWithSole [tg] e pos.line X.env = pure false := by rfl) (hw : swappedStores [tg] e X.env = pure none := by rfl)
    (h1 : (assignEach [tg] X.env).map (·.2) = [assign tg X.env] := by rfl) : PS X (.Assign [tg] e pos) (tS X.K (sAsg f g)) := PS.imp (ps_asg he hg hs hw h1) fun _ _ _ t => rd_asg t
/-- a, b = x, y -/
def sPar (i j : Nat) (f : EA) : SS := fun env => match f env with
  | some ([d1, d2], e) => match setR i d1 e with
    | none => none
    | some e2 => match setR j d2 e2 with
      | none => none
      | some e3 => some (.nx, e3)
  | _ => none
theorem setR_slots {i : Nat} {d : R} {e e2 : Sl} (h : setR i d e = some e2) : ∀ (k : Nat) m c, e2[k]? = some (some (S.mu m c)) → (k = i ∧ ∃ c, d = .tmp c) ∨ (i ≠ k ∧ e[k]? = some (some (.mu m c))) := by
  intro k m c hk
  unfold setR at h
  split at h
  · cases d with
    | var _ => cases h
    | pd x =>
      cases h
      rcases get_set hk with ⟨_, z⟩ | ⟨z, hk⟩
      · cases z
      · exact .inr ⟨z, hk⟩
    | nt x =>
      cases h
      rcases get_set hk with ⟨_, z⟩ | ⟨z, hk⟩
      · cases z
      · exact .inr ⟨z, hk⟩
    | tmp t =>
      cases h
      rcases get_set hk with ⟨z, _⟩ | ⟨z, hk⟩
      · exact .inl ⟨z.symm, t, rfl⟩
      · exact .inr ⟨z, hk⟩
  · cases h
/-- a second value, behind a store -/
theorem RA.set {K : PySem.W.Frag} {H₀ : Hp} {σ : St} {B : Mset} {H : Hp} {e e2 : Sl} {i : Nat} {v w : V} {d d' : R} (hs : setR i d e = some e2) (hl : i < σ.length) (r : RA K H₀ B H σ e w d') (ap : ∀ c c', d = .tmp c → d' = .tmp c' → v ≠ w) (nv : ∀ k, d' ≠ .var k) : RA K H₀ B H (σ.set i (some v)) e2 w d' := by
  cases d' with
  | pd x => exact r
  | nt x => exact r
  | var k => exact absurd rfl (nv k)
  | tmp t =>
    obtain ⟨p, rfl, h1, h2, h3, h4⟩ := r
    refine ⟨p, rfl, h1, h2, h3, fun k m c hk hσ => ?_⟩
    rcases setR_slots hs k m c hk with ⟨z, t', z2⟩ | ⟨z, hk⟩
    · subst z
      rw [List.getElem?_set_self hl] at hσ
      cases hσ
      exact ap t' t z2 rfl rfl
    · rw [List.getElem?_set_ne z] at hσ
      exact h4 k m c hk hσ
theorem setR_nv {i : Nat} {d : R} {e e2 : Sl} (h : setR i d e = some e2) : ∀ k, d ≠ .var k := by
  intro k z
  subst z
  unfold setR at h
  split at h <;> cases h
theorem setR_lt {i : Nat} {d : R} {e e2 : Sl} (h : setR i d e = some e2) : i < e.length := by
  unfold setR at h
  split at h
  · rename_i hf; exact (free_ne hf).1
  · cases h
theorem rd_par {K : PySem.W.Frag} {i j : Nat} {f : EA} {D : Ends} {σ : St} {H : Hp} (h : tS K (sPar i j f) D σ H) : tPar i j (tA K f) D σ H := by
  obtain ⟨B, env, fl, env', en, ev, q⟩ := h
  unfold sPar at ev
  split at ev
  · rename_i d1 d2 e1 h1
    split at ev
    · cases ev
    rename_i e2 h2
    split at ev
    · cases ev
    rename_i e3 h3
    cases ev
    refine ⟨B, env, _, _, en, h1, fun B1 H1 vs a1 rr => ?_⟩
    match vs, rr with
    | [v, w], rr =>
      refine ⟨v, w, rfl, ?_⟩
      have s1 := AtS.set en a1.s (rr.each 0 v d1 rfl rfl) h2
      have r2 : RA K H B1 H1 (σ.set i (some v)) e2 w d2 := RA.set h2 (by rw [← a1.en.len]; exact setR_lt h2) (rr.each 1 w d2 rfl rfl) (fun c c' z1 z2 z3 => rr.apart 0 1 c c' v (by decide) (by simp [z1]) (by simp [z2]) rfl (by simp [z3])) (setR_nv h3)
      -- the second store over the first
      have s2 : AtS K σ B H env ((σ.set i (some v)).set j (some w)) B1 H1 env' := AtS.set en s1 r2 h3
      exact q B1 _ H1 s2
    | [], rr => have := rr.len; simp at this
    | [_], rr => have := rr.len; simp at this
    | _ :: _ :: _ :: _, rr => have := rr.len; simp at this
  · cases ev
end T3

end
section
set_option linter.all false
set_option autoImplicit false
set_option Elab.async false
namespace T3
open PySem L2

section
variable {X : Cx}
theorem s_par {i j : Nat} {x y : Str} {a b : Expr} {f : EA} {px py pt pos : Pos} {kt k2 : Nat} {pt2 : Pos} (hc : X.calm = true) (hN : X.N.Nodup) (hi : X.N[i]? = some x) (hj : X.N[j]? = some y) (hij : i ≠ j)
    (hx : X.env.scope.names.lookup x = some .local) (hy : X.env.scope.names.lookup y = some .local) (ha : PA X [a, b] (tA X.K f))
    (hw : swappedStores [.Tuple [.Name x px, .Name y py] kt pt] (.Tuple [a, b] k2 pt2) X.env = pure (some [x, y]))
    (hs : swapsWithSole [.Tuple [.Name x px, .Name y py] kt pt] (.Tuple [a, b] k2 pt2) pos.line X.env = pure false := by rfl) :
    PS X (.Assign [.Tuple [.Name x px, .Name y py] kt pt] (.Tuple [a, b] k2 pt2) pos) (tS X.K (sPar i j f)) := PS.imp (ps_par hc hN hi hj hij hx hy ha hw hs) fun _ _ _ t => rd_par t
theorem ts_yes {K : PySem.W.Frag} : PTs X [] (tT K bYes) := ⟨fun pins s σ H Q I h => (pts_nil (X := X)).run pins s σ H Q I (rd_yes h)⟩
theorem ts_one {K : PySem.W.Frag} {c : Expr} {t : EB} (h : PT X c (tT K t)) : PTs X [c] (tT K t) := pts_one h
theorem e_lc {elt tg iter : Expr} {ifs : List Expr} {scope : Scope} {own : List (Str × Nat)} {pos : Pos} {it : EI} {g : GG} {t : EB} {f : EE} (hc : X.calm = true) (hN : X.N.Nodup) (hi : PI X tg iter (tI X.K it)) (ok : BlkOk X.N X.env.scope scope own) (ho : Only g (own.map (·.2)))
    (hg : ∀ (s : Shared) (H : Hp) (C : Addr) (cl : List (Str × Addr)) (fp : List Addr), PG (X.blk s H scope (compEnvC scope cl C X.env) fp) tg (tGv X.K g (own.map (·.2)))) (ht : ∀ (s : Shared) (H : Hp) (C : Addr) (cl : List (Str × Addr)) (fp : List Addr), PTs (X.blk s H scope (compEnvC scope cl C X.env) fp) ifs (tT X.K t))
    (he : ∀ (s : Shared) (H : Hp) (C : Addr) (cl : List (Str × Addr)) (fp : List Addr), PE (X.blk s H scope (compEnvC scope cl C X.env) fp) elt (tE X.K f)) (hs : ∀ x, foldedSetIterable iter X.env x = pure x := by intro _; rfl) :
    PE X (.ListComp elt [⟨tg, iter, ifs, 0⟩] scope pos) (tE X.K (eLc it g t f (own.map (·.2)))) := PE.imp (pe_lc hc hN hi ok hg ht he hs) fun _ _ _ q => rd_lc ho q
theorem s_setLc {i : Nat} {y : Str} {py : Pos} {elt tg iter : Expr} {ifs : List Expr} {scope : Scope} {own : List (Str × Nat)} {pos spos : Pos} {it : EI} {g : GG} {t : EB} {f : EE} (hc : X.calm = true) (hN : X.N.Nodup) (hy : X.N[i]? = some y) (hyl : X.env.scope.names.lookup y = some .local)
    (hsw : swapsWith (.ListComp elt [⟨tg, iter, ifs, 0⟩] scope pos) (some (.Name y py)) spos.line X.env = pure true) (hi : PI X tg iter (tI X.K it)) (ok : BlkOk X.N X.env.scope scope own) (ho : Only g (own.map (·.2)))
    (hg : ∀ (s : Shared) (H : Hp) (C : Addr) (cl : List (Str × Addr)) (fp : List Addr), PG (X.blk s H scope (compEnvC scope cl C X.env) fp) tg (tGv X.K g (own.map (·.2)))) (ht : ∀ (s : Shared) (H : Hp) (C : Addr) (cl : List (Str × Addr)) (fp : List Addr), PTs (X.blk s H scope (compEnvC scope cl C X.env) fp) ifs (tT X.K t))
    (he : ∀ (s : Shared) (H : Hp) (C : Addr) (cl : List (Str × Addr)) (fp : List Addr), PE (X.blk s H scope (compEnvC scope cl C X.env) fp) elt (tE X.K f)) (hs : ∀ x, foldedSetIterable iter X.env x = pure x := by intro _; rfl) :
    PS X (.Assign [.Name y py] (.ListComp elt [⟨tg, iter, ifs, 0⟩] scope pos) spos) (tS X.K (sSet i (eLc it g t f (own.map (·.2))))) :=
  PS.imp (ps_setLc hc hN hy hyl hsw hi ok hg ht he hs) fun _ _ _ q => rd_lc ho (rd_set q)
end
/-! ### the call of a def of the text -/
def lenA : EA → Nat → Prop := fun f n => ∀ ds e e', f e = some (ds, e') → ds.length = n
theorem lenA_nil : lenA eNil 0 := by
  intro ds e e' h
  cases h
  rfl
theorem lenA_cons {fa : EE} {fr : EA} {n : Nat} (h : lenA fr n) : lenA (eCons fa fr) (n + 1) := by
  intro ds e e' he
  unfold eCons at he
  split at he
  · cases he
  split at he
  · cases he
  rename_i h2
  cases he
  simp [h _ _ _ h2]
section
variable {X : Cx} {k : Nat} {f : Addr} {fd : FuncData} {ps : List Str} {F : FnD} {x : Str} {p pos : Pos} {e : Expr} {es : List Expr} {fa : EA} {n : Nat}
theorem e_call (G : FnOk X.prog X.w X.K X.mg X.base CX0 k f fd ps (spF X.K F n)) (hr : Room k X.A) (hg : Gl X x) (hm : X.mg x = some (.ref f)) (hk : PySem.W.keepIn X.K (.ref f) = true) (hb : Binds X.K fd ps []) (hn : lenA fa n)
    (ha : PA X (e :: es) (tA X.K fa)) (hdb : (x == ("__debug__" : Str)) = false := by decide) (he : starEach (e :: es) X.env = (false, eval e X.env) :: starEach es X.env := by rfl) (hpl : (backTo pos (starEach es X.env)).any (·.1) = false := by rfl) :
    PE X (.Call (.Name x p) (e :: es) [] pos) (tE X.K (eCall F fa)) := PE.imp (pe_call G hr hg hm hk hb .nil pass0 ha hdb he hpl) fun _ _ _ t => rd_call hn t
theorem e_call0 (G : FnOk X.prog X.w X.K X.mg X.base CX0 k f fd ps (spF X.K F 0)) (hr : Room k X.A) (hg : Gl X x) (hm : X.mg x = some (.ref f)) (hk : PySem.W.keepIn X.K (.ref f) = true) (hb : Binds X.K fd ps []) (hdb : (x == ("__debug__" : Str)) = false := by decide) :
    PE X (.Call (.Name x p) [] [] pos) (tE X.K (eCall F eNil)) := PE.imp (pe_call0 G hr hg hm hk hb .nil pass0 hdb) fun σ H Q t => by
  have h := rd_call (E := E0) (n := 0) lenA_nil t
  obtain ⟨B, env, ds, env', en, ev, q⟩ := h
  cases ev
  exact q B H [] (.refl en) ⟨rfl, fun k v d h => by simp at h, fun k l c c' v _ h => by simp at h⟩
end
/-- a def keeps what its body means -/
theorem fn_ok {P : Program} {w : World} {K : PySem.W.Frag} {mg : Str → Option Value} {base : Heap} {x qual : Str} {st : Stmt} {f : Addr} {fd : FuncData} {N ps : List Str} {k n : Nat} {b : SS} (Fn : Fun K x qual st f fd) (Sc : FnScope N ps (defScope st)) (hn : n = ps.length)
    (hbody : ∀ (cdv : Value) (A : Around) (outer : List Env) (s : Shared) (H : Hp) (E : XK), Room k (A.deeper (PyProof.Rows.envOfC qual (defScope st) s.heap.objs.size f cdv)) →
      PSs (cxOf CX0 P w K mg base N qual (defScope st) f cdv A outer s H E).nox (defBody st) (tS K b)) : FnOk P w K mg base CX0 (k + 1) f fd ps (spF K (runFn N.length b) n) := by
  refine Fn.ok Sc (spF_len hn) fun cdv A outer s H vs Q E hr h => ⟨_, hbody cdv A outer s H E hr, fn_body h⟩

/-! ### xs[i] = v -/
def gS (fo fi : EE) : GG := fun x env => match fo env with
  | some (.var j, e1) => match fi e1 with
    | some (.pd (.int k), e2) => putL j k x e2
    | _ => none
  | _ => none
theorem rd_gS {K : PySem.W.Frag} {fo fi : EE} {v : V} {σ : St} {H : Hp} {Q : St → Hp → Prop} (h : tG K (gS fo fi) v σ H Q) : gSub (tE K fo) (tE K fi) rSetL v σ H Q := by
  obtain ⟨B, env, x, env', en, r, ev, q⟩ := h
  unfold gS at ev
  split at ev
  · rename_i j e1 h1
    split at ev
    · rename_i k e2 h2
      refine ⟨B, env, _, _, en, h1, fun B1 H1 o a1 r1 => ⟨B1, e1, _, _, a1.en, h2, fun B2 H2 w a2 r2 => ?_⟩⟩
      have r2 : Rp K B2 H2 w (.int k) := r2
      cases r2
      have a12 := a1.trans en a2
      unfold putL at ev
      split at ev
      · rename_i m xs hm
        split at ev
        · cases ev
        rename_i hf
        split at ev
        · cases ev
        rename_i i hi
        cases ev
        have hx : σ[j]? = some (some o) := r1.1
        obtain ⟨p, g1, g2, us, g3, g4⟩ := a12.en.mu j _ _ hm
        rw [hx] at g1
        cases g1
        have rv : Rp K B2 H2 v x := r.grow (a12.grow en)
        refine ⟨p, us, k, i, rfl, rfl, g3, by rw [g4.length]; exact hi, ?_⟩
        obtain ⟨gw, aw⟩ := AtS.write (o := .lst (us.set i v)) (c' := .ls (xs.set i x)) a12.en hm hf hx (fun o' h' im => by rw [g3] at h'; cases h'; exact im) (fun H' _ h1 g' => ⟨_, h1, (g4.set rv i).grow g'⟩)
        exact q _ _ _ ((a12.trans en aw).s)
      · cases ev
    · cases ev
  · cases ev
theorem g_sub {X : Cx} {o i : Expr} {pos : Pos} {fo fi : EE} (ho : PE X o (tE X.K fo)) (hi : PE X i (tE X.K fi))
    (ha : ∀ v, assign (.Subscript o i pos) X.env v = (do
      let ov ← holding [v] (eval o X.env)
      let iv ← holding [v, ov] (eval i X.env)
      standAt pos
      holding [v, ov, iv] (setItem ov iv v)
      release [v, ov, iv] []) := by intro _; rfl) : PG X (.Subscript o i pos) (tG X.K (gS fo fi)) := PG.imp (pg_sub ho hi set_list ha) fun _ _ _ _ t => rd_gS t
/-! ### enumerate(text) -/
def ItES (x : Str) : It := ⟨fun i _ => i < x.cps.size, fun i H v H' => ∃ T c, v = .ref T ∧ H T = none ∧ x.cps[i]? = some c ∧ H' = upd H T (.tup [.int (i : Nat), .str ⟨#[c]⟩]), fun i _ => i = x.cps.size⟩
def enumD (xs : List PyData) : Nat → List PyData
  | i => (List.range xs.length).map fun k => .tuple [.int ((i + k : Nat) : Int), xs.getD k .none]
theorem wk_es {K : PySem.W.Frag} {s : Str} : Wk K (ItES s) (fun _ => False) (fun _ _ => True) (enumD (signs s) 0) where
  go i B H g hi := by simp [enumD, signs_len] at hi; exact hi
  stop B H g := by simp [enumD, signs_len, ItES]
  yld i B H x H' d g hd hy := by
    obtain ⟨T, c, rfl, nT, hc, rfl⟩ := hy
    refine ⟨.inr ⟨T, _, nT, rfl⟩, ?_⟩
    have hi : i < (signs s).length := by
      rw [signs_len]
      exact (Array.getElem?_eq_some_iff.mp hc).1
    simp only [enumD, List.getElem?_map, List.getElem?_range hi, Option.map_some] at hd
    cases hd
    have : (signs s).getD i .none = .str ⟨#[c]⟩ := by
      rw [List.getD_eq_getElem?_getD]
      simp [signs, hc]
    rw [this, Nat.zero_add]
    exact .tup (.inl (.inl upd_same)) (.cons (.int _) (.cons (.str _) .nil))
  keep W B H W' B' H' g s wb hp := trivial
theorem turn_es {P : Program} {w : World} {K : PySem.W.Frag} {elts : List Expr} {kk : Nat} {tpos : Pos} (e it : Addr) (x : Str) (t : Tok) :
    Turn P w K (.Tuple elts kk tpos) (ItES x) [e, it] e (fun i h => (∃ old, IsEnum h e it ((i : Nat) : Int) old) ∧ h.IsStrIter it (strIterType x) x t i ∧ e ≠ it) where
  mem := by simp
  obj i h q b hb := by
    obtain ⟨⟨old, he⟩, ⟨o, ho, hc, hd⟩, _⟩ := q
    rcases (show b = e ∨ b = it by simpa using hb) with rfl | rfl
    · exact ⟨_, he, fun v z => nomatch z⟩
    · exact ⟨o, ho, fun v z => by rw [hd] at z; cases z⟩
  keep i h h' q k := by
    obtain ⟨⟨old, he⟩, ⟨o, ho, r⟩, hne⟩ := q
    exact ⟨⟨old, k e (by simp) _ he⟩, ⟨o, k it (by simp) _ ho, r⟩, hne⟩
  item := by
    intro X hP hw hK hc i pins s σ H E I hf q hg
    subst hP hw hK
    obtain ⟨⟨old, he⟩, hit, hne⟩ := q
    have hel : e < s.heap.objs.size := Heap.lt_size he
    have hil : it < s.heap.objs.size := by obtain ⟨_, z, _⟩ := hit; exact Heap.lt_size z
    have Dr := Draws.text (prog := X.prog) (w := X.w) (A := X.A.in1) (I.ok.hd hc) it x t
    refine wpAny_pyNext_enum_itemD Dr he hit hg hne (by simpa using hne) fun u h' tk hu ho hit' hT hsz hk => ?_
    obtain ⟨c, t2, hx, rfl⟩ := hu
    refine ⟨_, rfl, wpAny_letOwnedTupleGo_enum (s := { s with heap := h', toks := tk + 1 }) ho fun h'' he' sb => ?_⟩
    have new : ObjOk X.prog X.w (upd H s.heap.objs.size (.tup [.int (i : Nat), .str ⟨#[c]⟩])) h'' s.heap.objs.size (.tup [.int (i : Nat), .str ⟨#[c]⟩]) :=
      ⟨by rw [sizeLine_eq]; simp, [.int i tk, .str ⟨#[c]⟩ t2], .cons ⟨_, rfl⟩ (.cons ⟨_, rfl⟩ .nil), ⟨_, (sb.2 _ (Nat.ne_of_gt hel)).trans hT, rfl, _, rfl⟩⟩
    have I1 : Inv X pins σ (upd H s.heap.objs.size (.tup [.int (i : Nat), .str ⟨#[c]⟩])) { s with heap := h'', toks := tk + 1 } :=
      I.turnedNew (ch := [e, it]) (fun b ob hb z => (sb.2 b (fun y => hb (by simp [y]))).trans (hk b ob (fun y => hb (by simp [y])) (fun y => hb (by simp [y])) z)) hf (Nat.le_refl _) new
    obtain ⟨oi, hoi, ri⟩ := hit'
    refine ⟨.ref s.heap.objs.size, _, I1, rfl, ⟨_, c, rfl, I.hok.fresh (Nat.le_refl _), hx, rfl⟩, ⟨⟨.str ⟨#[c]⟩ t2, ?_⟩, ⟨oi, (sb.2 it (Ne.symm hne)).trans hoi, ri⟩, hne⟩, fun b hb => ?_⟩
    · have e1 : ((i + 1 : Nat) : Int) = (i : Int) + 1 := by omega
      rw [e1]; exact he'
    · have hb' : b < s.heap.objs.size := by
        rcases (show b = e ∨ b = it by simpa using hb) with z | z
        · rw [z]; exact hel
        · rw [z]; exact hil
      rw [upd_ne (Nat.ne_of_lt hb')]
      exact (hf b hb).1
  done := by
    intro X hP hw hK hc i pins s σ H E I hf q hg
    subst hP hw hK
    obtain ⟨⟨old, he⟩, hit, hne⟩ := q
    obtain ⟨f0, f1, f2, f3, f4, f5⟩ := hf it (by simp)
    have Dr := Draws.text (prog := X.prog) (w := X.w) (A := X.A.in1) (I.ok.hd hc) it x t
    have hi : i = x.cps.size := hg
    subst hi
    exact wpAny_pyNext_enum_endD Dr he hit fun h' eb => ⟨rfl, I.turned (t' := s.toks) (fun b o hb z => eb b o hb z) f0 f1 f3 f4 f5⟩
  self A i s Q E q h := by
    obtain ⟨⟨old, he⟩, _⟩ := q
    exact wpAny_pyIter_enum he h
def iES (te : TE) : TI := fun σ H R => te σ H fun v H1 => ∃ x, v = .str x ∧ R (ItES x) H1
theorem pi_es {X : Cx} {e : Expr} {te : TE} {p pos tpos : Pos} {elts : List Expr} {kk : Nat} (hg : Gl X "enumerate") (hm : X.mg "enumerate" = none) (he : PE X e te) (hs : starEach [e] X.env = (false, eval e X.env) :: starEach [] X.env := by rfl) :
    PI X (.Tuple elts kk tpos) (.Call (.Name "enumerate" p) [e] [] pos) (iES te) := by
  refine ⟨fun pins s σ H R I h => ?_⟩
  refine PyProof.Rows.Call_ (ld_blt I hg hm (by decide +kernel : bootBuiltins "enumerate" = some (.type "enumerate")) (PyProof.Rows.callWith_type1 (one_arg he I h (fun v s2 x H2 I2 r q => ?_) hs) hs))
  obtain ⟨z, rfl, q⟩ := q
  obtain ⟨t, rfl⟩ := r
  refine call_enumerate_str fun h' he' hit hsz hk => wpAny_pyIter_enum he' ?_
  refine ⟨s2.heap.objs.size + 1, [s2.heap.objs.size + 1, s2.heap.objs.size], _, _, H2, rfl, I2.kept (t' := s2.toks) hk, turn_es (s2.heap.objs.size + 1) s2.heap.objs.size z t, ⟨⟨.none, he'⟩, hit, Nat.succ_ne_self _⟩, fun b hb => ?_, q⟩
  have hle : s2.heap.objs.size ≤ b := by
    rcases (show b = s2.heap.objs.size + 1 ∨ b = s2.heap.objs.size by simpa using hb) with y | y
    · rw [y]; exact Nat.le_add_right _ _
    · rw [y]; exact Nat.le_refl _
  exact I2.fpOk hle (I2.hok.fresh hle)
def iEn (f : EE) : EI := fun env => match f env with
  | some (.pd (.str s), e) => some (enumD (signs s) 0, none, e)
  | _ => none
theorem i_en {X : Cx} {e : Expr} {f : EE} {p pos tpos : Pos} {elts : List Expr} {kk : Nat} (hg : Gl X "enumerate") (hm : X.mg "enumerate" = none) (he : PE X e (tE X.K f)) (hs : starEach [e] X.env = (false, eval e X.env) :: starEach [] X.env := by rfl) :
    PI X (.Tuple elts kk tpos) (.Call (.Name "enumerate" p) [e] [] pos) (tI X.K (iEn f)) := PI.imp (pi_es hg hm he hs) fun σ H R h => by
  obtain ⟨B, env, xs, lk, env', en, ev, q⟩ := h
  unfold iEn at ev
  split at ev
  · rename_i s e1 h1
    cases ev
    refine ⟨B, env, _, _, en, h1, fun B1 H1 v a1 r1 => ?_⟩
    have r1 : Rp X.K B1 H1 v (.str s) := r1
    cases r1
    exact ⟨s, rfl, q B1 H1 _ _ _ _ a1 rfl wk_es trivial (fun _ z => z.elim)⟩
  · cases ev
end T3

end
section
set_option linter.all false
set_option autoImplicit false
set_option Elab.async false
namespace T3
open PySem L2

/-! ### zip of two tuples -/
def zipD (xs ys : List PyData) : List PyData := List.zipWith (fun x y => .tuple [x, y]) xs ys
theorem wk_zt {K : PySem.W.Frag} {a b : Addr} {xs ys : List PyData} : Wk K (RZ.ItzT K a b) (fun _ => False) (fun B H => Rp K B H (.ref a) (.tuple xs) ∧ Rp K B H (.ref b) (.tuple ys)) (zipD xs ys) where
  go i B H g hi := by
    obtain ⟨g1, g2⟩ := g
    obtain ⟨_, us, e, h1, h2⟩ := Cn.tuple (.rp g1)
    cases e
    obtain ⟨_, ws, e, h3, h4⟩ := Cn.tuple (.rp g2)
    cases e
    simp only [zipD, List.length_zipWith] at hi
    have l1 := h2.length
    have l2 := h4.length
    exact ⟨us, ws, us[i]'(by omega), ws[i]'(by omega), h1, h3, by simp, by simp⟩
  stop B H g := by
    obtain ⟨g1, g2⟩ := g
    obtain ⟨_, us, e, h1, h2⟩ := Cn.tuple (.rp g1)
    cases e
    obtain ⟨_, ws, e, h3, h4⟩ := Cn.tuple (.rp g2)
    cases e
    refine ⟨us, ws, h1, h3, ?_⟩
    simp only [zipD, List.length_zipWith]
    have l1 := h2.length
    have l2 := h4.length
    omega
  yld i B H x H' d g hd hy := by
    obtain ⟨g1, g2⟩ := g
    obtain ⟨_, us, e, h1, h2⟩ := Cn.tuple (.rp g1)
    cases e
    obtain ⟨_, ws, e, h3, h4⟩ := Cn.tuple (.rp g2)
    cases e
    obtain ⟨T, u, w, rfl, nT, rfl, f1, f2⟩ := hy
    refine ⟨.inr ⟨T, _, nT, rfl⟩, ?_⟩
    simp only [zipD, List.getElem?_zipWith] at hd
    have k1 := f1 us h1
    have k2 := f2 ws h3
    obtain ⟨x, m1, m2⟩ := h2.getV k1
    obtain ⟨y, m3, m4⟩ := h4.getV k2
    rw [m1, m3] at hd
    cases hd
    have gr : Grow B H B (upd H T (.tup [u, w])) := ⟨fun q o h _ => keep_upd nT q o h, fun q h => .inl h⟩
    exact .tup (.inl (.inl upd_same)) (.cons (m2.grow gr) (.cons (m4.grow gr) .nil))
  keep W B H W' B' H' g s wb _ := ⟨g.1.grow (s.grow wb), g.2.grow (s.grow wb)⟩
def tupOf : R → Option (List PyData)
  | .pd (.tuple xs) => some xs
  | .nt xs => some xs
  | _ => none
theorem tupOf_at {K : PySem.W.Frag} {H₀ : Hp} {B : Mset} {H : Hp} {σ : St} {env : Sl} {v : V} {d : R} {xs : List PyData} (h : RA K H₀ B H σ env v d) (c : tupOf d = some xs) : Rp K B H v (.tuple xs) := by
  unfold tupOf at c
  split at c
  · cases c; exact h
  · cases c; obtain ⟨a, rfl, h⟩ := h; exact h.rp
  · cases c
def iZt (f : EA) : EI := fun env => match f env with
  | some ([d1, d2], e) => match tupOf d1 with
    | none => none
    | some xs => match tupOf d2 with
      | none => none
      | some ys => some (zipD xs ys, none, e)
  | _ => none
theorem i_zip {X : Cx} {e e2 : Expr} {f : EA} {p pos tpos : Pos} {elts : List Expr} {kk : Nat} (hg : Gl X "zip") (hm : X.mg "zip" = none) (ha : PA X [e, e2] (tA X.K f))
    (hs : starEach [e, e2] X.env = (false, eval e X.env) :: starEach [e2] X.env := by rfl) (hpl : (backTo pos (starEach [e2] X.env)).any (·.1) = false := by rfl) :
    PI X (.Tuple elts kk tpos) (.Call (.Name "zip" p) [e, e2] [] pos) (tI X.K (iZt f)) := PI.imp (RZ.pi_zipA hg hm ha hs hpl) fun σ H R h => by
  obtain ⟨B, env, xs, lk, env', en, ev, q⟩ := h
  unfold iZt at ev
  split at ev
  · rename_i d1 d2 e1 h1
    split at ev
    · cases ev
    rename_i xs h2
    split at ev
    · cases ev
    rename_i ys h3
    cases ev
    refine ⟨B, env, _, _, en, h1, fun B1 H1 vs a1 rr => ?_⟩
    match vs, rr with
    | [v, w], rr =>
      have r1 := tupOf_at (rr.each 0 v d1 rfl rfl) h2
      have r2 := tupOf_at (rr.each 1 w d2 rfl rfl) h3
      obtain ⟨a, us, rfl, g1, _⟩ := Cn.tuple (.rp r1)
      obtain ⟨b, ws, rfl, g3, _⟩ := Cn.tuple (.rp r2)
      exact ⟨a, b, us, ws, rfl, .inr ⟨g1, g3, q B1 H1 _ _ _ _ a1 rfl wk_zt ⟨r1, r2⟩ (fun _ z => z.elim)⟩⟩
    | [], rr => have := rr.len; simp at this
    | [_], rr => have := rr.len; simp at this
    | _ :: _ :: _ :: _, rr => have := rr.len; simp at this
  · cases ev
/-! ### tuple(range(..)) -/
def rgT (i j : Int) : List PyData := (List.range (j - i).toNat).map fun k => .int (i + (k : Nat))
theorem rg_rp {K : PySem.W.Frag} {B : Mset} {H : Hp} {i j : Int} : RpA K B H (rgV i j) (rgT i j) := by
  have : ∀ l : List Nat, RpA K B H (l.map fun k => V.int (i + (k : Nat))) (l.map fun k => PyData.int (i + (k : Nat))) := by
    intro l
    induction l with
    | nil => exact .nil
    | cons x l ih => exact .cons (.int _) ih
  exact this _
/-! ### a written dict of texts -/
def KdOk (K : PySem.W.Frag) (w : World) (d : Addr) (kvs : List (Str × PyData)) : Prop := ∀ z x, kvs.lookup z = some x → ∃ v0, KDct K w d z v0 ∧ ∀ B H, Rp K B H v0 x
def eKd (kvs : List (Str × PyData)) (f : EE) : EE := fun env => match f env with
  | some (.pd (.str z), e) => match kvs.lookup z with
    | some x => some (.pd x, e)
    | none => none
  | _ => none
theorem e_kd {X : Cx} {a b : Expr} {d : Addr} {kvs : List (Str × PyData)} {f : EE} {pos : Pos} (D : KdOk X.K X.w d kvs) (ha : PE X a (tC (.ref d))) (hb : PE X b (tE X.K f)) (hs : PlainIx b := by exact fun _ _ => rfl) : PE X (.Subscript a b pos) (tE X.K (eKd kvs f)) := by
  refine PE.imp (pe_ix ix_kdict ha hb hs) fun σ H Q t => ?_
  obtain ⟨B, env, r, env', en, ev, q⟩ := t
  unfold eKd at ev
  split at ev
  · rename_i z e1 h1
    split at ev
    · rename_i x hx
      cases ev
      refine ⟨B, env, _, _, en, h1, fun B1 H1 v a1 r1 => ?_⟩
      have r1 : Rp X.K B1 H1 v (.str z) := r1
      cases r1
      obtain ⟨v0, g1, g3⟩ := D z x hx
      exact ⟨d, z, v0, rfl, rfl, g1, q B1 H1 v0 a1 (g3 B1 H1)⟩
    · cases ev
  · cases ev
end T3

end
section
set_option linter.all false
set_option autoImplicit false
set_option Elab.async false
namespace T3
open PySem L2

theorem u65 {k : Nat} {A : Around} (r : Room k A) : A.units + 65 < cLine := by have := r.un; omega
theorem u64 {k : Nat} {A : Around} (r : Room k A) : A.units + 64 < cLine := by have := r.un; omega
theorem u0 {k : Nat} {A : Around} (r : Room k A) : A.units < cLine := by have := r.un; omega
theorem u1 {k : Nat} {A : Around} (r : Room k A) : A.units + 1 < cLine := by have := r.un; omega
/-- a def of the text stands under its name -/
def At0 (K : PySem.W.Frag) (mg : Str → Option Value) (x : Str) (st : Stmt) (ps : List Str) : Prop := ∃ f fd, Fun K x x st f fd ∧ mg x = some (.ref f) ∧ Binds K fd ps []
/-- a def that means F -/
def Has (P : Program) (w : World) (K : PySem.W.Frag) (mg : Str → Option Value) (base : Heap) (x : Str) (n : Nat) (F : FnD) (k : Nat) : Prop := ∃ f fd ps, FnOk P w K mg base CX0 k f fd ps (spF K F n) ∧ mg x = some (.ref f) ∧ PySem.W.keepIn K (.ref f) = true ∧ Binds K fd ps []
theorem has_of {P : Program} {w : World} {K : PySem.W.Frag} {mg : Str → Option Value} {base : Heap} {x : Str} {st : Stmt} {N ps : List Str} {k n : Nat} {b : SS} (h : At0 K mg x st ps) (Sc : FnScope N ps (defScope st)) (hn : n = ps.length)
    (hbody : ∀ (f : Addr) (cdv : Value) (A : Around) (outer : List Env) (s : Shared) (H : Hp) (E : XK), Room k (A.deeper (PyProof.Rows.envOfC x (defScope st) s.heap.objs.size f cdv)) →
      PSs (cxOf CX0 P w K mg base N x (defScope st) f cdv A outer s H E).nox (defBody st) (tS K b)) : Has P w K mg base x n (runFn N.length b) (k + 1) := by
  obtain ⟨f, fd, h1, h2, h3⟩ := h
  exact ⟨f, fd, ps, fn_ok h1 Sc hn fun cdv A outer s H E hr => hbody f cdv A outer s H E hr, h2, h1.kp, h3⟩
section
variable {X : Cx} {k n : Nat} {F : FnD} {x : Str} {p pos : Pos} {e : Expr} {es : List Expr} {fa : EA}
theorem e_fn (h : Has X.prog X.w X.K X.mg X.base x n F k) (hr : Room k X.A) (hn : lenA fa n) (ha : PA X (e :: es) (tA X.K fa)) (hg : Gl X x := by rfl) (hdb : (x == ("__debug__" : Str)) = false := by decide) (he : starEach (e :: es) X.env = (false, eval e X.env) :: starEach es X.env := by rfl) (hpl : (backTo pos (starEach es X.env)).any (·.1) = false := by rfl) :
    PE X (.Call (.Name x p) (e :: es) [] pos) (tE X.K (eCall F fa)) := by
  obtain ⟨f, fd, ps, h1, h2, h3, h4⟩ := h
  exact e_call h1 hr hg h2 h3 h4 hn ha hdb he hpl
theorem e_fn0 (h : Has X.prog X.w X.K X.mg X.base x 0 F k) (hr : Room k X.A) (hg : Gl X x := by rfl) (hdb : (x == ("__debug__" : Str)) = false := by decide) :
    PE X (.Call (.Name x p) [] [] pos) (tE X.K (eCall F eNil)) := by
  obtain ⟨f, fd, ps, h1, h2, h3, h4⟩ := h
  exact e_call0 h1 hr hg h2 h3 h4 hdb
end
/-- a constant of the module -/
def KC (K : PySem.W.Frag) (mg : Str → Option Value) (x : Str) (d : PyData) : Prop := ∃ v u, mg x = some u ∧ RelV v u ∧ ∀ B H, Rp K B H v d
theorem e_glob {X : Cx} {x : Str} {d : PyData} {pos : Pos} (h : KC X.K X.mg x d) (hg : Gl X x := by rfl) (hd : (x == ("__debug__" : Str)) = false := by decide) : PE X (.Name x pos) (tE X.K (eC d)) := by
  obtain ⟨v, u, h1, h2, h3⟩ := h
  exact e_c (pe_glob hg h1 h2 hd) h3
def KD (K : PySem.W.Frag) (w : World) (mg : Str → Option Value) (x : Str) (kvs : List (Str × PyData)) : Prop := ∃ d, mg x = some (.ref d) ∧ KdOk K w d kvs
theorem e_kdn {X : Cx} {x : Str} {b : Expr} {kvs : List (Str × PyData)} {f : EE} {p pos : Pos} (h : KD X.K X.w X.mg x kvs) (hb : PE X b (tE X.K f)) (hg : Gl X x := by rfl) (hd : (x == ("__debug__" : Str)) = false := by decide) (hs : PlainIx b := by exact fun _ _ => rfl) : PE X (.Subscript (.Name x p) b pos) (tE X.K (eKd kvs f)) := by
  obtain ⟨d, h1, h2⟩ := h
  exact e_kd h2 (pe_glob (v := .ref d) hg h1 rfl hd) hb hs
section
variable {X : Cx} {pos : Pos}
theorem k_int {i : Int} {j : Nat} : PE X (.Constant (.int i) j pos) (tE X.K (eC (.int i))) := e_c pe_int fun _ _ => .int _
theorem k_str {i : Str} {j : Nat} : PE X (.Constant (.str i) j pos) (tE X.K (eC (.str i))) := e_c pe_str fun _ _ => .str _
theorem k_bl {i : Bool} {j : Nat} : PE X (.Constant (.bool i) j pos) (tE X.K (eC (.bool i))) := e_c pe_bl fun _ _ => .bl _
theorem k_non {j : Nat} : PE X (.Constant .none j pos) (tE X.K (eC .none)) := e_c pe_non fun _ _ => .non
/-! ### the operators as they stand -/
variable {a b : Expr} {fa fb : EE}
def eAdd (fa fb : EE) : EE := eThen (eTwo fa fb) kAdd
def eSub (fa fb : EE) : EE := eThen (eTwo fa fb) kSub
noncomputable def eMul (fa fb : EE) : EE := eThen (eTwo fa fb) kMul
noncomputable def eFdiv (fa fb : EE) : EE := eThen (eTwo fa fb) kFdiv
def eMod (fa fb : EE) : EE := eThen (eTwo fa fb) kMod
noncomputable def ePow (fa fb : EE) : EE := eThen (eTwo fa fb) kPow
def eNeg (fa : EE) : EE := eThen (eOne fa) kNeg
def eEq (fa fb : EE) : EE := eThen (eTwo fa fb) (kE oEq)
def eNe (fa fb : EE) : EE := eThen (eTwo fa fb) (kE oNe)
def eLt (fa fb : EE) : EE := eThen (eTwo fa fb) kLt
def eLe (fa fb : EE) : EE := eThen (eTwo fa fb) kLe
def eGt (fa fb : EE) : EE := eThen (eTwo fa fb) kGt
def eGe (fa fb : EE) : EE := eThen (eTwo fa fb) kGe
def eIn (fa fb : EE) : EE := eThen (eTwo fa fb) (kE (oIn false))
def eNin (fa fb : EE) : EE := eThen (eTwo fa fb) (kE (oIn true))
def eIs (fa fb : EE) : EE := eThen (eTwo fa fb) (kE (oIsN false))
def eIsn (fa fb : EE) : EE := eThen (eTwo fa fb) (kE (oIsN true))
def eIx (fa fb : EE) : EE := eThen (eTwo fa fb) (kE oIx)
theorem x_add (ha : PE X a (tE X.K fa)) (hb : PE X b (tE X.K fb)) : PE X (.BinOp a .Add b pos) (tE X.K (eAdd fa fb)) :=
  e_op (OpR.or op_add (OpR.or op_add_str (OpR.or op_catA op_cat))) (con_or2 (con_E ok_I0) (con_or2 (con_E ok_catS) (con_or2 (con_T ok_catT) c_catL))) ha hb
theorem x_sub (ha : PE X a (tE X.K fa)) (hb : PE X b (tE X.K fb)) : PE X (.BinOp a .Sub b pos) (tE X.K (eSub fa fb)) := e_op op_sub (con_E ok_I0) ha hb
theorem x_mul (ha : PE X a (tE X.K fa)) (hb : PE X b (tE X.K fb)) : PE X (.BinOp a .Mult b pos) (tE X.K (eMul fa fb)) := e_op (OpR.or op_mul op_repT) (con_or2 (con_E ok_I) (con_T ok_repT)) ha hb
theorem x_fdiv (ha : PE X a (tE X.K fa)) (hb : PE X b (tE X.K fb)) : PE X (.BinOp a .FloorDiv b pos) (tE X.K (eFdiv fa fb)) := e_op op_fdivW (con_E ok_I) ha hb
theorem x_mod (ha : PE X a (tE X.K fa)) (hb : PE X b (tE X.K fb)) : PE X (.BinOp a .Mod b pos) (tE X.K (eMod fa fb)) := e_op op_mod (con_E ok_I) ha hb
theorem x_pow (ha : PE X a (tE X.K fa)) (hb : PE X b (tE X.K fb)) : PE X (.BinOp a .Pow b pos) (tE X.K (ePow fa fb)) := e_op op_pow (con_E ok_I) ha hb
theorem x_neg (ha : PE X a (tE X.K fa)) : PE X (.UnaryOp .USub a pos) (tE X.K (eNeg fa)) := e_un un_neg c_neg ha
theorem x_ix (ha : PE X a (tE X.K fa)) (hb : PE X b (tE X.K fb)) (hs : PlainIx b := by exact fun _ _ => rfl) : PE X (.Subscript a b pos) (tE X.K (eIx fa fb)) := e_ix ix_seq (con_E ok_ix) ha hb hs
variable {k : Nat}
/-- a comparison: as a value, as a test -/
structure Cmp2 (X : Cx) (op : CmpOp) (kk : KK) : Prop where
  ex : ∃ r : R2, OpR X (compareOp op) r ∧ Con X.K kk (l2 r)
theorem q_eq (hr : Room k X.A) : Cmp2 X .Eq (kE oEq) := ⟨_, op_eqD (u64 hr), con_E ok_eq⟩
theorem q_ne (hr : Room k X.A) : Cmp2 X .NotEq (kE oNe) := ⟨_, op_neD (u64 hr), con_E ok_ne⟩
theorem q_lt (hr : Room k X.A) : Cmp2 X .Lt kLt := ⟨_, OpR.or op_lt (op_ltT (u0 hr)), con_or2 (con_E ok_B0) (con_E ok_ltT)⟩
theorem q_le (hr : Room k X.A) : Cmp2 X .LtE kLe := ⟨_, op_le, con_E ok_B0⟩
theorem q_gt (hr : Room k X.A) : Cmp2 X .Gt kGt := ⟨_, op_gt, con_E ok_B0⟩
theorem q_ge (hr : Room k X.A) : Cmp2 X .GtE kGe := ⟨_, op_ge, con_E ok_B0⟩
theorem q_in (hr : Room k X.A) : Cmp2 X .In (kE (oIn false)) := ⟨_, OpR.or (op_inD (u65 hr)) (op_inT (u65 hr)), con_E ok_in⟩
theorem q_nin (hr : Room k X.A) : Cmp2 X .NotIn (kE (oIn true)) := ⟨_, OpR.or (op_notInD (u65 hr)) (op_notInT (u65 hr)), con_E ok_notin⟩
theorem q_is (hr : Room k X.A) : Cmp2 X .Is (kE (oIsN false)) := ⟨_, op_isN, con_E ok_isN⟩
theorem q_isn (hr : Room k X.A) : Cmp2 X .IsNot (kE (oIsN true)) := ⟨_, op_notN, con_E ok_notN⟩
theorem x_cmp {op : CmpOp} {kk : KK} (q : Cmp2 X op kk) (ha : PE X a (tE X.K fa)) (hb : PE X b (tE X.K fb)) (hm : behindInMarks op b = false := by rfl) : PE X (.Compare a [op] [b] pos) (tE X.K (eThen (eTwo fa fb) kk)) := by
  obtain ⟨r, h1, h2⟩ := q.ex
  exact e_cmp h1 h2 ha hb hm
theorem y_cmp {op : CmpOp} {kk : KK} (q : Cmp2 X op kk) (ha : PE X a (tE X.K fa)) (hb : PE X b (tE X.K fb)) (hm : behindInMarks op b = false := by rfl) : PT X (.Compare a [op] [b] pos) (tT X.K (bT (eThen (eTwo fa fb) kk))) := by
  obtain ⟨r, h1, h2⟩ := q.ex
  exact b_cmp h1 h2 ha hb hm
end
/-! ### built-ins by name -/
section
variable {X : Cx} {p pos : Pos} {e : Expr} {es : List Expr} {f : EA} {k : Nat}
structure Blt (X : Cx) (x : Str) (kk : KK) : Prop where
  ex : ∃ (id : String) (r : List V → Hp → VK → Prop), CallR X (.builtin id) r ∧ Con X.K kk r ∧ bootBuiltins x = some (.builtin id)
structure Bty (X : Cx) (x : Str) (kk : KK) : Prop where
  ex : ∃ (id : String) (r : List V → Hp → VK → Prop), CallR X (.type id) r ∧ Con X.K kk r ∧ bootBuiltins x = some (.type id)
theorem x_blt {x : Str} {kk : KK} (B : Blt X x kk) (hm : X.mg x = none) (ha : PA X (e :: es) (tA X.K f)) (hg : Gl X x := by rfl) (hn : x ≠ "__name__" := by decide) (hdb : (x == ("__debug__" : Str)) = false := by decide) (he : starEach (e :: es) X.env = (false, eval e X.env) :: starEach es X.env := by rfl) (hpl : (backTo pos (starEach es X.env)).any (·.1) = false := by rfl) :
    PE X (.Call (.Name x p) (e :: es) [] pos) (tE X.K (eThen f kk)) := by
  obtain ⟨id, r, h1, h2, h3⟩ := B.ex
  exact e_callB h1 h2 hg hm h3 ha hn hdb he hpl
theorem x_bty {x : Str} {kk : KK} (B : Bty X x kk) (hm : X.mg x = none) (ha : PA X (e :: es) (tA X.K f)) (hg : Gl X x := by rfl) (hn : x ≠ "__name__" := by decide) (hdb : (x == ("__debug__" : Str)) = false := by decide) (he : starEach (e :: es) X.env = (false, eval e X.env) :: starEach es X.env := by rfl) (hpl : (backTo pos (starEach es X.env)).any (·.1) = false := by rfl) :
    PE X (.Call (.Name x p) (e :: es) [] pos) (tE X.K (eThen f kk)) := by
  obtain ⟨id, r, h1, h2, h3⟩ := B.ex
  exact e_callTy h1 h2 hg hm h3 ha hn hdb he hpl
theorem w_len (hc : X.calm = true) (hr : Room k X.A) : Blt X "len" (kE oLen) := ⟨_, _, cr_len, c_len, PySem.boot_len⟩
theorem w_all (hc : X.calm = true) (hr : Room k X.A) : Blt X "all" (kE oAll) := ⟨_, _, cr_all hc, c_all, by decide +kernel⟩
theorem w_any (hc : X.calm = true) (hr : Room k X.A) : Blt X "any" (kE oAny) := ⟨_, _, cr_any hc, c_any, by decide +kernel⟩
theorem w_sum (hc : X.calm = true) (hr : Room k X.A) : Blt X "sum" (kE oSum) := ⟨_, _, cr_sum hc, c_sum, by decide +kernel⟩
theorem w_abs (hc : X.calm = true) (hr : Room k X.A) : Blt X "abs" (kE oAbs) := ⟨_, _, call_abs, c_abs, by decide +kernel⟩
theorem w_max (hc : X.calm = true) (hr : Room k X.A) : Blt X "max" (kE oMax) := ⟨_, _, cr_mx hc (u64 hr), c_mx, by decide +kernel⟩
theorem w_min (hc : X.calm = true) (hr : Room k X.A) : Blt X "min" (kE oMin) := ⟨_, _, cr_mn hc (u64 hr), c_mn, by decide +kernel⟩
theorem w_int (hc : X.calm = true) (hr : Room k X.A) : Bty X "int" (kE oInt1) := ⟨_, _, call_int1, c_int1, by decide +kernel⟩
theorem w_tuple (hc : X.calm = true) (hr : Room k X.A) : Bty X "tuple" kTupN := ⟨_, _, cr_tupN, c_tupN, by decide +kernel⟩
theorem w_list (hc : X.calm = true) (hr : Room k X.A) : Bty X "list" (kL oList) := ⟨_, _, call_list_of, c_list, by decide +kernel⟩
end
/-! ### methods by name -/
section
variable {X : Cx} {o e : Expr} {es : List Expr} {fo : EE} {fa : EA} {apos cpos : Pos} {k : Nat}
theorem m_append (ho : PE X o (tE X.K fo)) (ha : PA X [e] (tA X.K fa)) (hbase : attributeBase o "append" X.env (eval o X.env) = eval o X.env := by rfl)
    (hfew : ((backTo cpos (starEach [e] X.env)).all (fun x => !x.1) && (backToKw cpos (keywordEach [] X.env)).all (fun x => x.1.isSome)
      && decide (([e] : List Expr).length + ([] : List Keyword).length + (if ([] : List Keyword).isEmpty then 0 else 1) < 30)) = true := by rfl)
    (hline : (apos.endLine == cpos.line) = true := by rfl) (hs : starEach [e] X.env = (false, eval e X.env) :: starEach [] X.env := by rfl) (hplain : (backTo cpos (starEach [] X.env)).any (·.1) = false := by rfl) :
    PE X (.Call (.Attribute o "append" apos) [e] [] cpos) (tE X.K (eBM isL fo fa kAppend)) :=
  PE.imp (pe_bm PySem.F.plainAttrs_list PySem.F.slot_list_append PySem.F.type_list_append mt_append ho ha hbase hfew hline hs hplain) fun _ _ _ t => rd_bm ty_L c_append t
theorem m_extend (ho : PE X o (tE X.K fo)) (ha : PA X [e] (tA X.K fa)) (hbase : attributeBase o "extend" X.env (eval o X.env) = eval o X.env := by rfl)
    (hfew : ((backTo cpos (starEach [e] X.env)).all (fun x => !x.1) && (backToKw cpos (keywordEach [] X.env)).all (fun x => x.1.isSome)
      && decide (([e] : List Expr).length + ([] : List Keyword).length + (if ([] : List Keyword).isEmpty then 0 else 1) < 30)) = true := by rfl)
    (hline : (apos.endLine == cpos.line) = true := by rfl) (hs : starEach [e] X.env = (false, eval e X.env) :: starEach [] X.env := by rfl) (hplain : (backTo cpos (starEach [] X.env)).any (·.1) = false := by rfl) :
    PE X (.Call (.Attribute o "extend" apos) [e] [] cpos) (tE X.K (eBM isL fo fa kExtend)) :=
  PE.imp (pe_bm PySem.F.plainAttrs_list PySem.F.slot_list_extend PySem.F.type_list_extend mt_extend ho ha hbase hfew hline hs hplain) fun _ _ _ t => rd_bm ty_L c_extend t
end
section
variable {X : Cx}
theorem x_lc {elt tg iter : Expr} {ifs : List Expr} {scope : Scope} {pos : Pos} {it : EI} {g : GG} {t : EB} {f : EE} {vs : List Nat} (own : List (Str × Nat)) (hc : X.calm = true) (hN : X.N.Nodup) (hv : own.map (·.2) = vs) (hi : PI X tg iter (tI X.K it)) (ok : BlkOk X.N X.env.scope scope own) (ho : Only g vs)
    (hg : ∀ (s : Shared) (H : Hp) (C : Addr) (cl : List (Str × Addr)) (fp : List Addr), PG (X.blk s H scope (compEnvC scope cl C X.env) fp) tg (tGv X.K g vs)) (ht : ∀ (s : Shared) (H : Hp) (C : Addr) (cl : List (Str × Addr)) (fp : List Addr), PTs (X.blk s H scope (compEnvC scope cl C X.env) fp) ifs (tT X.K t))
    (he : ∀ (s : Shared) (H : Hp) (C : Addr) (cl : List (Str × Addr)) (fp : List Addr), PE (X.blk s H scope (compEnvC scope cl C X.env) fp) elt (tE X.K f)) (hs : ∀ x, foldedSetIterable iter X.env x = pure x := by intro _; rfl) :
    PE X (.ListComp elt [⟨tg, iter, ifs, 0⟩] scope pos) (tE X.K (eLc it g t f vs)) := by
  subst hv
  exact e_lc hc hN hi ok ho hg ht he hs
theorem x_setLc {i : Nat} {y : Str} {py : Pos} {elt tg iter : Expr} {ifs : List Expr} {scope : Scope} {pos spos : Pos} {it : EI} {g : GG} {t : EB} {f : EE} {vs : List Nat} (own : List (Str × Nat)) (hc : X.calm = true) (hN : X.N.Nodup) (hv : own.map (·.2) = vs) (hy : X.N[i]? = some y) (hyl : X.env.scope.names.lookup y = some .local)
    (hsw : swapsWith (.ListComp elt [⟨tg, iter, ifs, 0⟩] scope pos) (some (.Name y py)) spos.line X.env = pure true) (hi : PI X tg iter (tI X.K it)) (ok : BlkOk X.N X.env.scope scope own) (ho : Only g vs)
    (hg : ∀ (s : Shared) (H : Hp) (C : Addr) (cl : List (Str × Addr)) (fp : List Addr), PG (X.blk s H scope (compEnvC scope cl C X.env) fp) tg (tGv X.K g vs)) (ht : ∀ (s : Shared) (H : Hp) (C : Addr) (cl : List (Str × Addr)) (fp : List Addr), PTs (X.blk s H scope (compEnvC scope cl C X.env) fp) ifs (tT X.K t))
    (he : ∀ (s : Shared) (H : Hp) (C : Addr) (cl : List (Str × Addr)) (fp : List Addr), PE (X.blk s H scope (compEnvC scope cl C X.env) fp) elt (tE X.K f)) (hs : ∀ x, foldedSetIterable iter X.env x = pure x := by intro _; rfl) :
    PS X (.Assign [.Name y py] (.ListComp elt [⟨tg, iter, ifs, 0⟩] scope pos) spos) (tS X.K (sSet i (eLc it g t f vs))) := by
  subst hv
  exact s_setLc hc hN hy hyl hsw hi ok ho hg ht he hs
end
end T3

end
section
set_option linter.all false
set_option autoImplicit false
set_option Elab.async false
namespace T3
open PySem PyProof.Rows
theorem collect_tup {prog : Program} {w : World} {A : Around} {E : Value → Shared → Prop} {s : Shared} {l : Addr} {vs : List Value} {Q : List Value → Shared → Prop} (hl : IsTup s.heap l vs.toArray)
    (h : Q vs { s with heap := (s.heap.push (seqObj "list" #[] 0)).update s.heap.objs.size (Obj.mapSeq (· ++ vs.toArray)) }) (hsz : vs.length ≤ sizeLine) : wpAny (model prog w) A (collect (.ref l)) Q E s := by
  obtain ⟨o, ho, hc, n, hd⟩ := hl
  have eL : (s.heap.push (seqObj "list" #[] 0)).get? s.heap.objs.size = some (seqObj "list" #[] 0) := Heap.get?_push_size _ rfl
  have eO : (s.heap.push (seqObj "list" #[] 0)).get? l = some o := Heap.get?_push_of_some _ ho
  unfold collect
  refine wpAny_bind (wpAny_runValue (codeAny_builtin entry_proto_collect' ?_))
  show wpAny (model prog w) _ (do again (.builtin "list.__iadd__" ⟨[← newList [], .ref l], []⟩)) _ _ s
  refine wpAny_bind (wpAny_newList (wpAny_pure
    ⟨Code.quiet_builtin _ (by decide +kernel), codeAny_builtin entry_list_iadd' ?_⟩))
  show wpAny (model prog w) _ (Builtin.List.listExtendWith (.ref s.heap.objs.size) (.ref l) (.ref s.heap.objs.size)) _ _ { s with heap := s.heap.push (seqObj "list" #[] 0) }
  unfold Builtin.List.listExtendWith
  refine wpAny_bind (wpAny_typeOf (T := "tuple") ⟨o, eO, hc⟩ ?_)
  have ht : (Value.type "tuple" == Value.type "tuple") = true := rfl
  rw [if_pos (by rw [ht]; simp)]
  refine wpAny_bind (listItems_at eO hd (wpAny_bind (listItems_at (xs := #[]) (n := 0) eL rfl ?_)))
  have hsz' : ((#[] : Array Value) ++ vs.toArray).size ≤ sizeLine + 1 := by simp; omega
  rw [if_neg (by simp)]
  refine wpAny_bind (listUpdate_at (xs := #[]) (n := 0) eL rfl (wpAny_pure ?_) (Nat.zero_le _) hsz')
  refine wpAny_bind (wpAny_load (get?_update_seq eL _) ?_)
  show wpAny (model prog w) A (pure ((#[] : Array Value) ++ vs.toArray).toList) Q E _
  have e0 : ((#[] : Array Value) ++ vs.toArray).toList = vs := by simp
  rw [e0]
  exact wpAny_pure h
end T3
namespace T3
open PySem PyProof.Rows SrtO Srt
/-- sorted(t), t a tuple -/
theorem sorted_tup {prog : Program} {w : World} {A : Around} {E : Value → Shared → Prop} {s : Shared} {l : Addr} {vs : List Value} {ltv : Value → Value → Bool} {Q : Value → Shared → Prop} (O : Swo ltv) (hl : IsTup s.heap l vs.toArray) (hz : vs.length ≤ sizeLine)
    (hS : 2 ≤ vs.length → ∀ (h₁ : Heap) (a : Addr), h₁.get? a = some (seqObj "list" vs.toArray 0) → (∀ b o, s.heap.get? b = some o → b ≠ a ∧ h₁.get? b = some o) → SortableO prog w A.in1.in1 { s with heap := h₁ } a vs ltv)
    (h : ∀ out : List Value, Srtd ltv out → Stb ltv out vs → Q (.ref (s.heap.objs.size + 1)) { s with heap := sortedAll s.heap vs out.toArray }) : wpAny (model prog w) A (call (.builtin "sorted") [.ref l]) Q E s := by
  refine Calls.call_function_entry kind_sorted plain_sorted entry_sorted (args_sorted1 _) ?_
  unfold Builtin.«sorted»
  refine wpAny_bind (m := checkCount "sorted" 1 1 _) (wpAny_pure (wpAny_bind (collect_tup hl (wpAny_bind (wpAny_newList ?_ hz)) hz)))
  generalize eg : (s.heap.push (seqObj "list" #[] 0)).update s.heap.objs.size (Obj.mapSeq (· ++ vs.toArray)) = g
  have hg : g.objs.size = s.heap.objs.size + 1 := by rw [← eg, Heap.size_update, size_push']
  have new : (g.push (seqObj "list" vs.toArray 0)).get? (s.heap.objs.size + 1) = some (seqObj "list" vs.toArray 0) := by rw [← hg]; exact Heap.get?_push_size _ rfl
  have keep : ∀ b o, s.heap.get? b = some o → b ≠ s.heap.objs.size + 1 ∧ (g.push (seqObj "list" vs.toArray 0)).get? b = some o := fun b o q => by
    have hb : b < s.heap.objs.size := Heap.lt_size q
    refine ⟨Nat.ne_of_lt (Nat.lt_succ_of_lt hb), Heap.get?_push_of_some _ ?_⟩
    rw [← eg, Heap.get?_update_ne _ _ _ _ (Nat.ne_of_lt hb)]
    exact Heap.get?_push_of_some _ q
  show wpAny (model prog w) _ _ _ _ { s with heap := g.push (seqObj "list" vs.toArray 0) }
  rw [hg]
  refine wpAny_bind (wpAny_holding (wpAny_call_entry slot_list_sort ⟨_, new, rfl⟩ entry_list_sort
    (list_sort_ord O new hz (fun h2 => hS h2 _ _ new keep) fun out a1 a2 => ⟨_, rfl, wpAny_pure ⟨_, rfl, ?_⟩⟩) (args_list_sort _)))
  subst eg
  exact h out a1 a2
end T3

namespace T3
open PySem L2
def rSrtT (K : PySem.W.Frag) : List V → Hp → VK → Prop := fun vs H Q => ∃ (a : Addr) (ns : List Int), vs = [V.ref a] ∧ SqT K H a (ns.map V.int) ∧
  ∀ (ns' : List Int) (p : Addr), ns'.Perm ns → ns'.Pairwise (· ≤ ·) → H p = none → Q (.ref p) (upd H p (.lst (ns'.map V.int)))
theorem cr_srtT {X : Cx} : CallR X (.builtin "sorted") (rSrtT X.K) := by
  intro pins s σ H vs us Q I r h
  obtain ⟨a, ns, rfl, hs, q⟩ := h
  obtain ⟨its, rv, hl, hz⟩ := I.tuple hs
  rw [Vals.ref1 r]
  have hi := rv.ints
  have hz' : its.length ≤ sizeLine := by rw [← rv.length]; exact hz
  refine sorted_tup SrtO.swo_int hl hz' (fun h2 h₁ a' _ _ => SrtO.ints_sortable hi h2) fun out h1 h2 => ?_
  obtain ⟨k1, k2, k3⟩ := SrtO.ints_out hi h1 h2
  obtain ⟨ep, he'⟩ := PyProof.Rows.sortedAll_at s.heap its out.toArray
  have hlen : ((out.map SrtO.iv).map V.int).length ≤ sizeLine := by
    rw [List.length_map] at hz ⊢
    rw [k2.length_eq]
    exact hz
  refine ⟨.ref _, upd H (s.heap.objs.size + 1) (.lst ((out.map SrtO.iv).map V.int)), ?_, rfl, q _ _ k2 k3 (I.hok.fresh (Nat.le_succ _))⟩
  exact I.laid (t' := s.toks) (fun _ _ => PyProof.Rows.sortedAll_old) (Nat.le_succ _)
    ⟨hlen, out, ep, vals_of_ints k1, he'⟩
/-- pairs of small ints -/
def pair? : PyData → Option (Int × Int)
  | .tuple [.int i, .int j] => if 0 ≤ i ∧ i < 64 ∧ 0 ≤ j ∧ j < 64 then some (i, j) else none
  | _ => none
def pairs? : List PyData → Option (List (Int × Int))
  | [] => some []
  | x :: xs => match pair? x with
    | none => none
    | some p => match pairs? xs with
      | none => none
      | some ps => some (p :: ps)
def clD (p : Int × Int) : PyData := .tuple [.int p.1, .int p.2]
theorem pair_eq {x : PyData} {p : Int × Int} (h : pair? x = some p) : x = clD p ∧ 0 ≤ p.1 ∧ p.1 < 64 ∧ 0 ≤ p.2 ∧ p.2 < 64 := by
  unfold pair? at h
  split at h
  · split at h
    · rename_i hc; cases h; exact ⟨rfl, hc⟩
    · cases h
  · cases h
theorem pairs_eq : ∀ {xs : List PyData} {ps : List (Int × Int)}, pairs? xs = some ps → xs = ps.map clD ∧ ∀ p ∈ ps, 0 ≤ p.1 ∧ p.1 < 64 ∧ 0 ≤ p.2 ∧ p.2 < 64
  | [], ps, h => by cases h; exact ⟨rfl, fun p hp => by simp at hp⟩
  | x :: xs, ps, h => by
    unfold pairs? at h
    split at h
    · cases h
    rename_i p hp
    split at h
    · cases h
    rename_i qs hq
    cases h
    obtain ⟨h1, h2⟩ := pair_eq hp
    obtain ⟨h3, h4⟩ := pairs_eq hq
    refine ⟨by rw [h1, h3]; rfl, fun z hz => ?_⟩
    rcases List.mem_cons.mp hz with e | e
    · rw [e]; exact h2
    · exact h4 z e
def prLe (p q : Int × Int) : Bool := decide (p.1 * 64 + p.2 ≤ q.1 * 64 + q.2)
def kSorted : KK := fun ds env => match ds with
  | [d] => match ctn env d with
    | some (.list xs) => match ints? xs with
      | some ns => some (.tmp (.ls ((ns.mergeSort fun a b => decide (a ≤ b)).map .int)), env)
      | none => if xs.length < 64 then match pairs? xs with
          | some ps => some (.tmp (.ls ((ps.mergeSort prLe).map clD)), env)
          | none => none
        else none
    | some (.tuple xs) => match ints? xs with
      | some ns => some (.tmp (.ls ((ns.mergeSort fun a b => decide (a ≤ b)).map .int)), env)
      | none => none
    | _ => none
  | _ => none
def rSort3 (K : PySem.W.Frag) : List V → Hp → VK → Prop := cOr (rSortedI K) (cOr (rSrtT K) (rSortU K 2 64))
theorem cr_sort3 {X : Cx} : CallR X (.builtin "sorted") (rSort3 X.K) := CallR.or cr_sortedI (CallR.or cr_srtT (cr_sortT (by decide)))
theorem ms_int {ns ns' : List Int} (h1 : ns'.Perm ns) (h2 : ns'.Pairwise (· ≤ ·)) : ns' = ns.mergeSort fun a b => decide (a ≤ b) := by
  refine List.Perm.eq_of_pairwise (le := (· ≤ ·)) (fun a b _ _ x y => Int.le_antisymm x y) h2 ?_ (h1.trans (List.mergeSort_perm _ _).symm)
  have := List.pairwise_mergeSort (le := fun a b : Int => decide (a ≤ b)) (fun a b c h1 h2 => by simp at h1 h2 ⊢; omega) (fun a b => by simp; omega) ns
  exact this.imp (by intro a b h; simpa using h)
theorem RpA.perm {K : PySem.W.Frag} {B : Mset} {H : Hp} {us ys : List V} (h : ys.Perm us) : ∀ {xs : List PyData}, RpA K B H us xs → ∃ zs, RpA K B H ys zs ∧ zs.Perm xs := by
  induction h with
  | nil => intro xs r; cases r; exact ⟨[], .nil, .nil⟩
  | cons x _ ih =>
    intro xs r
    cases r with
    | cons r1 r2 => obtain ⟨zs, h1, h2⟩ := ih r2; exact ⟨_, .cons r1 h1, h2.cons _⟩
  | swap x y l =>
    intro xs r
    cases r with
    | cons r1 r2 =>
      cases r2 with
      | cons r3 r4 => exact ⟨_, .cons r3 (.cons r1 r4), .swap _ _ _⟩
  | trans _ _ ih1 ih2 =>
    intro xs r
    obtain ⟨zs, h1, h2⟩ := ih2 r
    obtain ⟨ws, h3, h4⟩ := ih1 h1
    exact ⟨ws, h3, h4.trans h2⟩
theorem code_pr (p : Int × Int) : TS.code 64 [p.1, p.2] = p.1 * 64 + p.2 := code_pair p.1 p.2
theorem tupI_of {K : PySem.W.Frag} {B : Mset} {H : Hp} {v : V} {p : Int × Int} (h : Rp K B H v (clD p)) : TupI K H v [p.1, p.2] := by
  cases h with
  | tup h r =>
    have e := RpA.ints (ns := [p.1, p.2]) r
    rw [e] at h
    exact ⟨_, rfl, h⟩
theorem clD_inj {p q : Int × Int} (h : clD p = clD q) : p = q := by
  unfold clD at h
  simp at h
  exact Prod.ext h.1 h.2
theorem map_perm_clD {zs : List PyData} {ps : List (Int × Int)} (h : zs.Perm (ps.map clD)) : ∃ qs : List (Int × Int), zs = qs.map clD ∧ qs.Perm ps := by
  have hz : ∀ z ∈ zs, ∃ p ∈ ps, clD p = z := fun z hz => List.mem_map.mp (h.mem_iff.mp hz)
  have : ∃ qs : List (Int × Int), zs = qs.map clD := by
    clear h
    induction zs with
    | nil => exact ⟨[], rfl⟩
    | cons z zs ih =>
      obtain ⟨p, _, e⟩ := hz z (by simp)
      obtain ⟨qs, e2⟩ := ih (fun y hy => hz y (by simp [hy]))
      exact ⟨p :: qs, by rw [e2, ← e]; rfl⟩
  obtain ⟨qs, rfl⟩ := this
  refine ⟨qs, rfl, ?_⟩
  let un : PyData → Int × Int := fun d => match d with
    | .tuple [.int i, .int j] => (i, j)
    | _ => (0, 0)
  have hu : ∀ l : List (Int × Int), (l.map clD).map un = l := fun l => by
    rw [List.map_map]
    exact List.map_id'' (fun p => rfl) l
  have := h.map un
  rw [hu, hu] at this
  exact this
theorem c_sorted {K : PySem.W.Frag} : Con K kSorted (rSort3 K) := by
  intro σ H B env B1 H1 env1 vs ds d e2 Q en a rr hk q
  unfold kSorted at hk
  split at hk
  · rename_i d1
    match vs, rr with
    | [v], rr =>
      split at hk
      · rename_i xs hx
        obtain ⟨p, us, rfl, h1, h2⟩ := (Cn.of a.en (rr.each 0 v d1 rfl rfl) hx).list
        split at hk
        · rename_i ns hn
          cases hk
          rw [ints_map hn] at h2
          have e := h2.ints
          subst e
          refine .inl ⟨p, ns, rfl, h1, fun ns' r k1 k2 nr => ?_⟩
          rw [ms_int k1 k2]
          exact con_new en a nr (RpA.of_ints _) q
        · split at hk
          · rename_i hl
            split at hk
            · rename_i ps hp
              cases hk
              obtain ⟨e, hb⟩ := pairs_eq hp
              subst e
              refine .inr (.inr ⟨p, us, rfl, h1, by rw [h2.length]; exact hl, fun x hx => ?_, fun ys r k1 k2 nr => ?_⟩)
              · obtain ⟨i, hi, e⟩ := List.getElem_of_mem hx
                obtain ⟨dd, g1, g2⟩ := h2.getV (i := i) (v := x) (by rw [← e]; exact List.getElem?_eq_getElem hi)
                rw [List.getElem?_map] at g1
                cases hpi : ps[i]? with
                | none => rw [hpi] at g1; cases g1
                | some pp =>
                  rw [hpi] at g1
                  cases g1
                  have hbb := hb pp (List.mem_of_getElem? hpi)
                  refine ⟨[pp.1, pp.2], tupI_of g2, rfl, fun m hm => ?_⟩
                  simp only [List.mem_cons, List.not_mem_nil, or_false] at hm
                  rcases hm with e | e
                  · rw [e]; exact ⟨hbb.1, hbb.2.1⟩
                  · rw [e]; exact hbb.2.2
              · obtain ⟨zs, g1, g2⟩ := h2.perm k1
                obtain ⟨qs, rfl, g3⟩ := map_perm_clD g2
                have ord : qs.Pairwise (fun x y => x.1 * 64 + x.2 ≤ y.1 * 64 + y.2) := by
                  have : ∀ {ys : List V} {qs : List (Int × Int)}, RpA K B1 H1 ys (qs.map clD) → ys.Pairwise (fun x y => ∀ n m, TupI K H1 x n → TupI K H1 y m → TS.code 64 n ≤ TS.code 64 m) → qs.Pairwise (fun x y => x.1 * 64 + x.2 ≤ y.1 * 64 + y.2) := by
                    intro ys qs
                    induction qs generalizing ys with
                    | nil => intro _ _; exact .nil
                    | cons c qs ih =>
                      intro r pw
                      cases r with
                      | cons r1 r2 =>
                        cases pw with
                        | cons w1 w2 =>
                          refine .cons (fun y hy => ?_) (ih r2 w2)
                          obtain ⟨j, hj, e⟩ := List.getElem_of_mem hy
                          obtain ⟨vv, z1, z2⟩ := r2.get (i := j) (d := clD y) (by rw [List.getElem?_map, List.getElem?_eq_getElem hj, e]; rfl)
                          have := w1 vv (List.mem_of_getElem? z1) _ _ (tupI_of r1) (tupI_of z2)
                          rw [code_pr, code_pr] at this
                          exact this
                  exact this g1 k2
                have eq : qs = ps.mergeSort prLe := by
                  have hbq : ∀ z : Int × Int, z ∈ qs → 0 ≤ z.1 ∧ z.1 < 64 ∧ 0 ≤ z.2 ∧ z.2 < 64 := fun z hz => hb z (g3.mem_iff.mp hz)
                  refine List.Perm.eq_of_pairwise (le := fun x y : Int × Int => x.1 * 64 + x.2 ≤ y.1 * 64 + y.2) (fun x y hx hy l1 l2 => ?_) ord ?_ (g3.trans (List.mergeSort_perm _ _).symm)
                  · have b1 := hbq x hx
                    have b2 := hb y ((List.mergeSort_perm ps prLe).mem_iff.mp hy)
                    exact Prod.ext (by omega) (by omega)
                  · have := List.pairwise_mergeSort (le := prLe) (fun a b c h1 h2 => by simp [prLe] at h1 h2 ⊢; omega) (fun a b => by simp [prLe]; omega) ps
                    exact this.imp (by intro a b h; simpa [prLe] using h)
                rw [← eq] at q
                exact con_new en a nr g1 q
            · cases hk
          · cases hk
      · rename_i xs hx
        obtain ⟨p, us, rfl, h1, h2⟩ := (Cn.of a.en (rr.each 0 v d1 rfl rfl) hx).tuple
        split at hk
        · rename_i ns hn
          cases hk
          rw [ints_map hn] at h2
          have e := h2.ints
          subst e
          refine .inr (.inl ⟨p, ns, rfl, h1, fun ns' r k1 k2 nr => ?_⟩)
          rw [ms_int k1 k2]
          exact con_new en a nr (RpA.of_ints _) q
        · cases hk
      · cases hk
    | [], rr => have := rr.len; simp at this
    | _ :: _ :: _, rr => have := rr.len; simp at this
  · cases hk
theorem w_sorted {X : Cx} {k : Nat} (hc : X.calm = true) (hr : Room k X.A) : Blt X "sorted" kSorted := ⟨_, _, cr_sort3, c_sorted, by decide +kernel⟩
end T3

end
section
set_option linter.all false
set_option autoImplicit false
set_option Elab.async false
namespace T3
open PySem L2

/-! ### tuple(range(..)) -/
noncomputable instance (a b : Int) : Decidable (RgOk a b) := Classical.propDecidable _
def rgN (n : Nat) (i c : Int) : List PyData := (List.range n).map fun k => .int (i + (k : Nat) * c)
/-- by steps of -1 -/
def dnOk (i j : Int) : Prop := -(2 ^ 62) ≤ i ∧ i < 2 ^ 62 ∧ -(2 ^ 62) ≤ j ∧ j < 2 ^ 62 ∧ (i - j).toNat ≤ 1000000
noncomputable instance (a b : Int) : Decidable (dnOk a b) := Classical.propDecidable _
noncomputable def kTrg : KK := fun ds env => match ds with
  | [.pd (.int n)] => if RgOk 0 n then some (.pd (.tuple (rgT 0 n)), env) else none
  | [.pd (.int i), .pd (.int j)] => if RgOk i j then some (.pd (.tuple (rgT i j)), env) else none
  | [.pd (.int i), .pd (.int j), .pd (.int c)] => if c = -1 ∧ dnOk i j then some (.pd (.tuple (rgN (i - j).toNat i (-1))), env) else none
  | _ => none
noncomputable def eTrg (f : EA) : EE := eThen f kTrg
section
variable {X : Cx} {a b c : Expr} {fa fb fc : EE} {p p2 pos pos2 : Pos}
theorem rg_fin {K : PySem.W.Frag} {σ : St} {B B1 : Mset} {H H1 : Hp} {env env1 : Sl} {q : Addr} {ws : List V} {xs : List PyData} {Q : VK} (en : EnvR K B H σ env) (a : At K σ B H env B1 H1 env1) (np : H1 q = none) (hw : ∀ B H, RpA K B H ws xs)
    (k : ∀ B' H' v, At K σ B H env B' H' env1 → RR K H B' H' σ env1 v (.pd (.tuple xs)) → Q v H') : Q (.ref q) (upd H1 q (.tup ws)) := by
  obtain ⟨g, a2⟩ := a.alloc en np (.tup ws) False (fun _ => False) (fun _ f => f.elim)
  exact k _ _ _ a2 (.tup (.inl (.inl upd_same)) (hw _ _))
theorem x_trg1 (zt : X.mg "tuple" = none) (zr : X.mg "range" = none) (ha : PE X a (tE X.K fa)) (hc : X.calm = true := by rfl) (hg : Gl X "tuple" := by rfl) (hg2 : Gl X "range" := by rfl) (na : starEach [a] X.env = (false, eval a X.env) :: starEach [] X.env := by rfl)
    (nt : starEach [.Call (.Name "range" p2) [a] [] pos2] X.env = (false, eval (.Call (.Name "range" p2) [a] [] pos2) X.env) :: starEach [] X.env := by rfl) : PE X (.Call (.Name "tuple" p) [.Call (.Name "range" p2) [a] [] pos2] [] pos) (tE X.K (eTrg (eCons fa eNil))) :=
  PE.imp (pe_tupRg hc hg zt (prg_1 hg2 zr ha na) nt) fun σ H Q t => by
    have c : Con X.K kTrg (l1 fun x H Q => ∃ n, x = .int n ∧ RgOk 0 n ∧ ∀ q, H q = none → Q (.ref q) (upd H q (.tup (rgV 0 n)))) := by
      intro σ H B env B1 H1 env1 vs ds d e2 Q en a rr hk q x e
      subst e
      match ds, rr, hk with
      | [.pd (.int n)], rr, hk =>
        have e1 := rr.int1
        cases e1
        simp only [kTrg] at hk
        split at hk
        · rename_i ok
          cases hk
          exact ⟨n, rfl, ok, fun r nr => rg_fin en a nr (fun _ _ => rg_rp) q⟩
        · cases hk
      | [], rr, hk => have := rr.len; simp at this
      | _ :: _ :: _, rr, hk => have := rr.len; simp at this
      | [.pd .none], _, hk => cases hk
      | [.pd (.bool _)], _, hk => cases hk
      | [.pd (.str _)], _, hk => cases hk
      | [.pd (.list _)], _, hk => cases hk
      | [.pd (.tuple _)], _, hk => cases hk
      | [.pd (.dict _)], _, hk => cases hk
      | [.nt _], _, hk => cases hk
      | [.tmp _], _, hk => cases hk
      | [.var _], _, hk => cases hk
    have h := rd_one c t
    obtain ⟨B, env, d, env', en, ev, q⟩ := h
    refine ⟨B, env, d, env', en, ev, fun B1 H1 v a1 r1 => ?_⟩
    obtain ⟨n, e, ok, z⟩ := q B1 H1 v a1 r1
    exact ⟨n, e, ok, z⟩
end
section
variable {X : Cx} {a b c : Expr} {ta tb tc : TE} {p p2 pos pos2 : Pos}
open PyProof.Rows in
theorem pe_trg3 (hc : X.calm = true) (hg : Gl X "tuple") (hm : X.mg "tuple" = none) (hg2 : Gl X "range") (hm2 : X.mg "range" = none) (ha : PE X a ta) (hb : PE X b tb) (hcc : PE X c tc)
    (n3 : starEach [a, b, c] X.env = (false, eval a X.env) :: starEach [b, c] X.env := by rfl) (n2 : starEach [b, c] X.env = (false, eval b X.env) :: starEach [c] X.env := by rfl) (n1 : starEach [c] X.env = (false, eval c X.env) :: starEach [] X.env := by rfl) (hp : (backTo pos2 (starEach [b, c] X.env)).any (·.1) = false := by rfl)
    (nt : starEach [.Call (.Name "range" p2) [a, b, c] [] pos2] X.env = (false, eval (.Call (.Name "range" p2) [a, b, c] [] pos2) X.env) :: starEach [] X.env := by rfl) :
    PE X (.Call (.Name "tuple" p) [.Call (.Name "range" p2) [a, b, c] [] pos2] [] pos) (fun σ H Q => ta σ H fun x H1 => tb σ H1 fun y H2 => tc σ H2 fun z H3 => ∃ i j, x = .int i ∧ y = .int j ∧ z = .int (-1) ∧ dnOk i j ∧
      ∀ q, H3 q = none → Q (.ref q) (upd H3 q (.tup ((List.range (i - j).toNat).map fun k => V.int (i + (k : Nat) * (-1)))))) := by
  refine ⟨fun pins s σ H Q I h => ?_⟩
  refine Call_ (ld_blt I hg hm boot_tuple (callWith_type1 (args_cons ?_ nt) nt))
  refine Call_ (ld_blt I hg2 hm2 boot_range (callWith_type1 (args_cons (thn (ha.run pins s σ H _ I h) fun v1 s1 ⟨x, H1, I1, r1, q1⟩ => args_cons (thn (hb.run pins s1 σ H1 _ I1 q1) fun v2 s2 ⟨y, H2, I2, r2, q2⟩ => one_arg hcc I2 q2 (fun v3 s3 z H3 I3 r3 q3 => ?_) n1) n2) n3) n3 hp))
  obtain ⟨i, j, rfl, rfl, rfl, ok, q⟩ := q3
  obtain ⟨t1, rfl⟩ := r1
  obtain ⟨t2, rfl⟩ := r2
  obtain ⟨t3, rfl⟩ := r3
  refine call_range_3 (by decide) (args_nil ?_) (Or.inl (PyProof.noPylong_small (by decide)))
  have I4 : Inv X pins σ H3 { s3 with heap := s3.heap.push { cls := .type "range", data := .fields #[.int i t1, .int j t2, .int (-1) t3] } } := I3.kept (t' := s3.toks) fun b u e => Heap.get?_push_of_some _ e
  obtain ⟨k0, k1, k2, k3⟩ := RgC.neg ok.1 ok.2.1 ok.2.2.1 ok.2.2.2.1
  refine call_tuple_range (n := (i - j).toNat) (I4.ok.hd hc) (IsRange.new _ _ _ _ _ _ _) k2 k3 (Nat.le_trans ok.2.2.2.2 (by decide)) fun h' tk acc hk hi => ?_
  have I5 : Inv X pins σ H3 { s3 with heap := h', toks := tk } := I4.kept hk
  obtain ⟨hsz, hat⟩ := hi
  have hv : Vals ((List.range (i - j).toNat).map fun k => V.int (i + (k : Nat) * (-1))) acc.toList := by
    have := vals_of_get acc.toList (fun k => V.int (i + (k : Nat) * (-1))) (fun m u hu => ?_)
    · rw [show acc.toList.length = (i - j).toNat by simpa using hsz] at this
      exact this
    · obtain ⟨t, e⟩ := hat m u (by simpa using hu)
      exact ⟨t, e⟩
  refine ⟨.ref h'.objs.size, upd H3 h'.objs.size _, I5.laid (t' := tk) (fun c o e => Heap.get?_push_of_some _ e) (Nat.le_refl _) (o := .tup ((List.range (i - j).toNat).map fun k => V.int (i + (k : Nat) * (-1)))) ⟨?_, acc.toList, hv, ?_⟩, rfl, q _ (I5.hok.fresh (Nat.le_refl _))⟩
  · rw [List.length_map, List.length_range]; exact Nat.le_of_lt (small ok.2.2.2.2)
  · rw [Array.toArray_toList]; exact IsTup.new _ _
end
/-! ### dicts of ints and texts -/
def key? : PyData → Option Key
  | .int i => some (.inl i)
  | .str s => some (.inr s)
  | _ => none
theorem key_v {K : PySem.W.Frag} {B : Mset} {H : Hp} {v : V} {x : PyData} {k : Key} (h : Rp K B H v x) (e : key? x = some k) : v = kV k := by
  cases h <;> cases e <;> rfl
def putD (kvs : List (Key × PyData)) (k : Key) (x : PyData) : List (Key × PyData) :=
  if (kvs.any fun kv => decide (kv.1 = k)) = true then kvs.map (fun kv => if kv.1 = k then (kv.1, x) else kv) else kvs ++ [(k, x)]
def valD (kvs : List (Key × PyData)) (k : Key) : Option PyData := (kvs.find? fun kv => decide (kv.1 = k)).map (·.2)
theorem KvR.len {K : PySem.W.Frag} {B : Mset} {H : Hp} {ws : List (Key × V)} {kvs : List (Key × PyData)} (h : KvR K B H ws kvs) : ws.length = kvs.length := Paired.length h
theorem KvR.any {K : PySem.W.Frag} {B : Mset} {H : Hp} {k : Key} : ∀ {ws : List (Key × V)} {kvs : List (Key × PyData)}, KvR K B H ws kvs → (ws.any fun kv => decide (kv.1 = k)) = (kvs.any fun kv => decide (kv.1 = k))
  | _, _, .nil => rfl
  | _, _, .cons r t => by
    simp only [List.any_cons, r.1, KvR.any t]
theorem KvR.val {K : PySem.W.Frag} {B : Mset} {H : Hp} {k : Key} : ∀ {ws : List (Key × V)} {kvs : List (Key × PyData)}, KvR K B H ws kvs → (∃ v x, valV ws k = some v ∧ valD kvs k = some x ∧ Rp K B H v x) ∨ (valV ws k = none ∧ valD kvs k = none)
  | _, _, .nil => .inr ⟨rfl, rfl⟩
  | _, _, .cons (a := p) (b := q) r t => by
    by_cases e : q.1 = k
    · refine .inl ⟨p.2, q.2, ?_, ?_, r.2⟩
      · simp [valV, r.1, e]
      · simp [valD, e]
    · have e' : ¬ p.1 = k := by rw [r.1]; exact e
      rcases KvR.val (k := k) t with ⟨v, x, h1, h2, h3⟩ | ⟨h1, h2⟩
      · exact .inl ⟨v, x, by simpa [valV, e'] using h1, by simpa [valD, e] using h2, h3⟩
      · exact .inr ⟨by simpa [valV, e'] using h1, by simpa [valD, e] using h2⟩
theorem KvR.mapPut {K : PySem.W.Frag} {B : Mset} {H : Hp} {k : Key} {v : V} {x : PyData} (r : Rp K B H v x) : ∀ {ws : List (Key × V)} {kvs : List (Key × PyData)}, KvR K B H ws kvs → KvR K B H (ws.map fun kv => if kv.1 = k then (kv.1, v) else kv) (kvs.map fun kv => if kv.1 = k then (kv.1, x) else kv)
  | _, _, .nil => .nil
  | _, _, .cons (a := p) (b := q) h t => by
    refine .cons ?_ (KvR.mapPut r t)
    by_cases e : q.1 = k
    · have e' : p.1 = k := by rw [h.1]; exact e
      dsimp only
      rw [if_pos e, if_pos e']
      exact ⟨h.1, r⟩
    · have e' : ¬ p.1 = k := by rw [h.1]; exact e
      dsimp only
      rw [if_neg e, if_neg e']
      exact h
theorem KvR.app {K : PySem.W.Frag} {B : Mset} {H : Hp} {k : Key} {v : V} {x : PyData} (r : Rp K B H v x) : ∀ {ws : List (Key × V)} {kvs : List (Key × PyData)}, KvR K B H ws kvs → KvR K B H (ws ++ [(k, v)]) (kvs ++ [(k, x)])
  | _, _, .nil => .cons ⟨rfl, r⟩ .nil
  | _, _, .cons h t => .cons h (KvR.app r t)
theorem KvR.put {K : PySem.W.Frag} {B : Mset} {H : Hp} {k : Key} {v : V} {x : PyData} {ws : List (Key × V)} {kvs : List (Key × PyData)} (h : KvR K B H ws kvs) (r : Rp K B H v x) : KvR K B H (putK ws k v) (putD kvs k x) := by
  unfold putK putD
  rw [h.any]
  split
  · exact h.mapPut r
  · exact h.app r
def eDnew : EE := fun env => some (.tmp (.dk []), env)
theorem x_dnew {X : Cx} {pos : Pos} : PE X (.Dict [] [] pos) (tE X.K eDnew) := PE.imp pe_dnewK fun σ H Q t => by
  obtain ⟨B, env, d, env', en, ev, q⟩ := t
  cases ev
  intro p np
  obtain ⟨g, a2⟩ := (At.refl en).alloc en np (.dK []) True (fun _ => False) (fun _ f => f.elim)
  refine q _ _ _ a2 ⟨p, rfl, np, .inr ⟨trivial, rfl⟩, ⟨[], upd_same, .nil⟩, fun i m d h1 h2 => ?_⟩
  obtain ⟨b, h3, h4, _⟩ := en.mu i m d h1
  rw [h3] at h2
  cases h2
  obtain ⟨o', ho⟩ := en.dom _ h4
  rw [np] at ho; cases ho
/-- d[k] = v -/
def sDp (fd fk fv : EE) : SS := fun env => match fv env with
  | some (.pd x, e1) => match fd e1 with
    | some (.var j, e2) => match fk e2 with
      | some (.pd y, e3) => match key? y with
        | none => none
        | some k => match e3[j]? with
          | some (some (.mu m (.dk kvs))) => if m ≠ .fro ∧ kvs.length ≤ 1000000 then some (.nx, e3.set j (some (.mu m (.dk (putD kvs k x))))) else none
          | _ => none
      | _ => none
    | _ => none
  | _ => none
theorem s_dput {X : Cx} {o i value : Expr} {pos pos' : Pos} {fd fk fv : EE} (hu : X.A.units + 1 < cLine) (ho : PE X o (tE X.K fd)) (hi : PE X i (tE X.K fk)) (hv : PE X value (tE X.K fv)) (hs : swapsWith value (some (.Subscript o i pos')) pos.line X.env = pure false := by rfl) :
    PS X (.Assign [.Subscript o i pos'] value pos) (tS X.K (sDp fd fk fv)) := PS.imp (ps_dput hu ho hi hv hs) fun D σ H t => by
  obtain ⟨B, env, fl, env', en, ev, q⟩ := t
  unfold sDp at ev
  split at ev
  · rename_i x e1 h1
    split at ev
    · rename_i j e2 h2
      split at ev
      · rename_i y e3 h3
        split at ev
        · cases ev
        rename_i k hk
        split at ev
        · rename_i m kvs hm
          split at ev
          · rename_i hc
            cases ev
            refine ⟨B, env, _, _, en, h1, fun B1 H1 v a1 r1 => ⟨B1, e1, _, _, a1.en, h2, fun B2 H2 w a2 r2 => ⟨B2, e2, _, _, a2.en, h3, fun B3 H3 z a3 r3 => ?_⟩⟩⟩
            have a12 := a1.trans en a2
            have a13 := a12.trans en a3
            have hx : σ[j]? = some (some w) := r2.1
            obtain ⟨p, g1, g2, ws, g3, g4⟩ := a13.en.mu j _ _ hm
            rw [hx] at g1
            cases g1
            have rv : Rp X.K B3 H3 v x := (Rp.grow (a2.grow a1.en) r1).grow (a3.grow a2.en)
            refine ⟨p, upd H3 p (.dK (putK ws k v)), rfl, .inl ⟨ws, k, g3, key_v r3 hk, by rw [g4.len]; exact small hc.2, rfl⟩, ?_⟩
            obtain ⟨gw, aw⟩ := AtS.write (o := .dK (putK ws k v)) (c' := .dk (putD kvs k x)) a13.en hm hc.1 hx (fun o' h' im => by rw [g3] at h'; cases h'; exact im) (fun H' _ h1 g' => ⟨_, h1, (g4.put rv).grow g'⟩)
            exact q _ _ _ ((a13.trans en aw).s)
          · cases ev
        · cases ev
      · cases ev
    · cases ev
  · cases ev
/-- k in d, k not in d -/
def eDin (neg : Bool) (fk fd : EE) : EE := fun env => match fk env with
  | some (.pd y, e1) => match fd e1 with
    | some (.var j, e2) => match key? y with
      | none => none
      | some k => match e2[j]? with
        | some (some (.mu _ (.dk kvs))) => some (.pd (.bool (if neg = true then !(valD kvs k).isSome else (valD kvs k).isSome)), e2)
        | _ => none
    | _ => none
  | _ => none
theorem rd_din {K : PySem.W.Frag} {fk fd : EE} {neg : Bool} {σ : St} {H : Hp} {Q : VK} (t : tE K (eDin neg fk fd) σ H Q) : tE K fk σ H fun y H1 => tE K fd σ H1 fun x H2 => ∃ a o, x = .ref a ∧ DGet H2 a y o ∧ Q (.bl (if neg = true then !o.isSome else o.isSome)) H2 := by
  obtain ⟨B, env, d, env', en, ev, q⟩ := t
  unfold eDin at ev
  split at ev
  · rename_i y e1 h1
    split at ev
    · rename_i j e2 h2
      split at ev
      · cases ev
      rename_i k hk
      split at ev
      · rename_i m kvs hm
        cases ev
        refine ⟨B, env, _, _, en, h1, fun B1 H1 v a1 r1 => ⟨B1, e1, _, _, a1.en, h2, fun B2 H2 w a2 r2 => ?_⟩⟩
        have a12 := a1.trans en a2
        have hx : σ[j]? = some (some w) := r2.1
        obtain ⟨p, g1, g2, ws, g3, g4⟩ := a12.en.mu j _ _ hm
        rw [hx] at g1
        cases g1
        refine ⟨p, valV ws k, rfl, .inl ⟨ws, k, .inl g3, key_v r1 hk, rfl⟩, ?_⟩
        have e : (valV ws k).isSome = (valD kvs k).isSome := by
          rcases g4.val (k := k) with ⟨v, x, z1, z2, _⟩ | ⟨z1, z2⟩
          · rw [z1, z2]; rfl
          · rw [z1, z2]; rfl
        rw [e]
        exact q _ _ _ a12 (.bl _)
      · cases ev
    · cases ev
  · cases ev
section
variable {X : Cx} {i o : Expr} {fk fd : EE} {pos : Pos}
theorem x_din (hu : X.A.units + 1 < cLine) (hi : PE X i (tE X.K fk)) (ho : PE X o (tE X.K fd)) (h1 : behindInMarks .In o = false := by rfl) : PE X (.Compare i [.In] [o] pos) (tE X.K (eDin false fk fd)) := PE.imp (pe_cmp (pc_din hu hi ho) h1) fun σ H Q t => rd_din t
theorem x_dnin (hu : X.A.units + 1 < cLine) (hi : PE X i (tE X.K fk)) (ho : PE X o (tE X.K fd)) (h1 : behindInMarks .NotIn o = false := by rfl) : PE X (.Compare i [.NotIn] [o] pos) (tE X.K (eDin true fk fd)) := PE.imp (pe_cmp (pc_dnotin hu hi ho) h1) fun σ H Q t => rd_din t
theorem y_din (hu : X.A.units + 1 < cLine) (hi : PE X i (tE X.K fk)) (ho : PE X o (tE X.K fd)) (h1 : behindInMarks .In o = false := by rfl) : PT X (.Compare i [.In] [o] pos) (tT X.K (bT (eDin false fk fd))) := b_of (pt_cmp (pc_din hu hi ho) h1) fun σ H Q t => rd_din t
theorem y_dnin (hu : X.A.units + 1 < cLine) (hi : PE X i (tE X.K fk)) (ho : PE X o (tE X.K fd)) (h1 : behindInMarks .NotIn o = false := by rfl) : PT X (.Compare i [.NotIn] [o] pos) (tT X.K (bT (eDin true fk fd))) := b_of (pt_cmp (pc_dnotin hu hi ho) h1) fun σ H Q t => rd_din t
end
/-! ### a, b, c = x, y, z -/
def sPar3 (i j l : Nat) (f : EA) : SS := fun env => match f env with
  | some ([d1, d2, d3], e) => match setR i d1 e with
    | none => none
    | some e2 => match setR j d2 e2 with
      | none => none
      | some e3 => match setR l d3 e3 with
        | none => none
        | some e4 => some (.nx, e4)
  | _ => none
theorem setR_len {i : Nat} {d : R} {e e2 : Sl} (h : setR i d e = some e2) : e2.length = e.length := by
  unfold setR at h
  split at h
  · cases d <;> cases h <;> simp
  · cases h
theorem rd_par3 {K : PySem.W.Frag} {i j l : Nat} {f : EA} {D : Ends} {σ : St} {H : Hp} (h : tS K (sPar3 i j l f) D σ H) : tPar3 i j l (tA K f) D σ H := by
  obtain ⟨B, env, fl, env', en, ev, q⟩ := h
  unfold sPar3 at ev
  split at ev
  · rename_i d1 d2 d3 e1 h1
    split at ev
    · cases ev
    rename_i e2 h2
    split at ev
    · cases ev
    rename_i e3 h3
    split at ev
    · cases ev
    rename_i e4 h4
    cases ev
    refine ⟨B, env, _, _, en, h1, fun B1 H1 vs a1 rr => ?_⟩
    match vs, rr with
    | [u, v, w], rr =>
      refine ⟨u, v, w, rfl, ?_⟩
      have li : i < σ.length := by rw [← a1.en.len]; exact setR_lt h2
      have s1 := AtS.set en a1.s (rr.each 0 u d1 rfl rfl) h2
      have lj : j < (σ.set i (some u)).length := by rw [← s1.en.len]; exact setR_lt h3
      have r2 : RA K H B1 H1 (σ.set i (some u)) e2 v d2 := RA.set h2 li (rr.each 1 v d2 rfl rfl) (fun c c' z1 z2 z3 => rr.apart 0 1 c c' u (by decide) (by simp [z1]) (by simp [z2]) rfl (by simp [z3])) (setR_nv h3)
      have s2 := AtS.set en s1 r2 h3
      have r3 : RA K H B1 H1 (σ.set i (some u)) e2 w d3 := RA.set h2 li (rr.each 2 w d3 rfl rfl) (fun c c' z1 z2 z3 => rr.apart 0 2 c c' u (by decide) (by simp [z1]) (by simp [z2]) rfl (by simp [z3])) (setR_nv h4)
      have r3' : RA K H B1 H1 ((σ.set i (some u)).set j (some v)) e3 w d3 := RA.set h3 lj r3 (fun c c' z1 z2 z3 => rr.apart 1 2 c c' v (by decide) (by simp [z1]) (by simp [z2]) rfl (by simp [z3])) (setR_nv h4)
      exact q B1 _ H1 (AtS.set en s2 r3' h4)
    | [], rr => have := rr.len; simp at this
    | [_], rr => have := rr.len; simp at this
    | [_, _], rr => have := rr.len; simp at this
    | _ :: _ :: _ :: _ :: _, rr => have := rr.len; simp at this
  · cases ev
theorem s_par3 {X : Cx} {i j l : Nat} {x y z : Str} {a b c : Expr} {f : EA} {px py pz pt pos : Pos} {kt k2 : Nat} {pt2 : Pos} (hc : X.calm = true) (hN : X.N.Nodup) (hi : X.N[i]? = some x) (hj : X.N[j]? = some y) (hl : X.N[l]? = some z) (hij : i ≠ j) (hil : i ≠ l) (hjl : j ≠ l)
    (hx : X.env.scope.names.lookup x = some .local) (hy : X.env.scope.names.lookup y = some .local) (hz : X.env.scope.names.lookup z = some .local) (ha : PA X [a, b, c] (tA X.K f))
    (hw : swappedStores [.Tuple [.Name x px, .Name y py, .Name z pz] kt pt] (.Tuple [a, b, c] k2 pt2) X.env = pure (some [x, y, z]))
    (hs : swapsWithSole [.Tuple [.Name x px, .Name y py, .Name z pz] kt pt] (.Tuple [a, b, c] k2 pt2) pos.line X.env = pure false := by rfl) :
    PS X (.Assign [.Tuple [.Name x px, .Name y py, .Name z pz] kt pt] (.Tuple [a, b, c] k2 pt2) pos) (tS X.K (sPar3 i j l f)) := PS.imp (ps_par3 hc hN hi hj hl hij hil hjl hx hy hz ha hw hs) fun _ _ _ t => rd_par3 t
end T3

end
section
set_option linter.all false
set_option autoImplicit false
set_option Elab.async false
namespace T3
open PySem L2
def l3 (r : V → V → V → Hp → VK → Prop) : List V → Hp → VK → Prop := fun vs H Q => ∀ x y z, vs = [x, y, z] → r x y z H Q
theorem rd_three {K : PySem.W.Frag} {fa fb fc : EE} {k : KK} {r : V → V → V → Hp → VK → Prop} (c : Con K k (l3 r)) {σ : St} {H : Hp} {Q : VK} (h : tE K (eThen (eCons fa (eCons fb (eCons fc eNil))) k) σ H Q) : tE K fa σ H fun x H1 => tE K fb σ H1 fun y H2 => tE K fc σ H2 fun z H3 => r x y z H3 Q := by
  have h := rd_cons (rd_then c h)
  obtain ⟨B, env, d, env', en, ev, q⟩ := h
  refine ⟨B, env, d, env', en, ev, fun B1 H1 x a1 r1 => ?_⟩
  have h2 := rd_cons (q B1 H1 x a1 r1)
  obtain ⟨B, env, d, env', en, ev, q⟩ := h2
  refine ⟨B, env, d, env', en, ev, fun B2 H2 y a2 r2 => ?_⟩
  have h3 := rd_cons (q B2 H2 y a2 r2)
  obtain ⟨B, env, d, env', en, ev, q⟩ := h3
  refine ⟨B, env, d, env', en, ev, fun B3 H3 z a3 r3 => ?_⟩
  exact rd_nil (q B3 H3 z a3 r3) x y z rfl
theorem kTrg3 {ds : List R} {env e2 : Sl} {d : R} (h : kTrg ds env = some (d, e2)) (hl : ds.length = 3) : ∃ i j, ds = [.pd (.int i), .pd (.int j), .pd (.int (-1))] ∧ dnOk i j ∧ d = .pd (.tuple (rgN (i - j).toNat i (-1))) ∧ e2 = env := by
  unfold kTrg at h
  split at h
  · simp at hl
  · simp at hl
  · split at h
    · rename_i i j c hc
      cases h
      obtain ⟨rfl, ok⟩ := hc
      exact ⟨i, j, rfl, ok, rfl, rfl⟩
    · cases h
  · cases h
theorem RRA.int3 {K : PySem.W.Frag} {H₀ : Hp} {B : Mset} {H : Hp} {σ : St} {env : Sl} {vs : List V} {i j k : Int} (r : RRA K H₀ B H σ env vs [.pd (.int i), .pd (.int j), .pd (.int k)]) : vs = [.int i, .int j, .int k] := by
  match vs, r with
  | v :: vs, r =>
    have := r.each 0 v _ rfl rfl
    have this : Rp K B H v (.int i) := this
    cases this
    rw [RRA.int2 r.tail]
  | [], r => have := r.len; simp at this
theorem rgN_rp {K : PySem.W.Frag} {B : Mset} {H : Hp} {i c : Int} {n : Nat} : RpA K B H ((List.range n).map fun k => V.int (i + (k : Nat) * c)) (rgN n i c) := by
  have : ∀ l : List Nat, RpA K B H (l.map fun k => V.int (i + (k : Nat) * c)) (l.map fun k => PyData.int (i + (k : Nat) * c)) := by
    intro l
    induction l with
    | nil => exact .nil
    | cons x l ih => exact .cons (.int _) ih
  exact this _
theorem x_trg3 {X : Cx} {a b c : Expr} {fa fb fc : EE} {p p2 pos pos2 : Pos} (zt : X.mg "tuple" = none) (zr : X.mg "range" = none) (ha : PE X a (tE X.K fa)) (hb : PE X b (tE X.K fb)) (hc' : PE X c (tE X.K fc)) (hc : X.calm = true := by rfl) (hg : Gl X "tuple" := by rfl) (hg2 : Gl X "range" := by rfl)
    (n3 : starEach [a, b, c] X.env = (false, eval a X.env) :: starEach [b, c] X.env := by rfl) (n2 : starEach [b, c] X.env = (false, eval b X.env) :: starEach [c] X.env := by rfl) (n1 : starEach [c] X.env = (false, eval c X.env) :: starEach [] X.env := by rfl) (hp : (backTo pos2 (starEach [b, c] X.env)).any (·.1) = false := by rfl)
    (nt : starEach [.Call (.Name "range" p2) [a, b, c] [] pos2] X.env = (false, eval (.Call (.Name "range" p2) [a, b, c] [] pos2) X.env) :: starEach [] X.env := by rfl) :
    PE X (.Call (.Name "tuple" p) [.Call (.Name "range" p2) [a, b, c] [] pos2] [] pos) (tE X.K (eTrg (eCons fa (eCons fb (eCons fc eNil))))) :=
  PE.imp (pe_trg3 hc hg zt hg2 zr ha hb hc' n3 n2 n1 hp nt) fun σ H Q t => by
    refine rd_three (r := fun x y z H Q => ∃ i j, x = .int i ∧ y = .int j ∧ z = .int (-1) ∧ dnOk i j ∧ ∀ q, H q = none → Q (.ref q) (upd H q (.tup ((List.range (i - j).toNat).map fun k => V.int (i + (k : Nat) * (-1)))))) ?_ t
    intro σ H B env B1 H1 env1 vs ds d e2 Q en a rr hk q x y z e
    subst e
    obtain ⟨i, j, rfl, ok, rfl, rfl⟩ := kTrg3 hk (by rw [← rr.len]; rfl)
    have e1 := rr.int3
    cases e1
    exact ⟨i, j, rfl, rfl, rfl, ok, fun r nr => rg_fin en a nr (fun _ _ => rgN_rp) q⟩
theorem m_pop {X : Cx} {o : Expr} {fo : EE} {apos cpos : Pos} (ho : PE X o (tE X.K fo)) (hbase : attributeBase o "pop" X.env (eval o X.env) = eval o X.env := by rfl) (hline : (apos.endLine == cpos.line) = true := by rfl) : PE X (.Call (.Attribute o "pop" apos) [] [] cpos) (tE X.K (eBM isL fo eNil kPop)) :=
  PE.imp (pe_bm0 PySem.F.plainAttrs_list PySem.F.slot_list_pop PySem.F.type_list_pop mt_pop ho hbase hline) fun σ H Q t => by
    obtain ⟨B, env, d, env', en, ev, q⟩ := rd_bm ty_L c_pop t
    refine ⟨B, env, d, env', en, ev, fun B1 H1 v a1 r1 => ?_⟩
    obtain ⟨h1, h2⟩ := q B1 H1 v a1 r1
    exact ⟨h1, rd_nil h2⟩
end T3

end
section
set_option linter.all false
set_option autoImplicit false
set_option Elab.async false
namespace T3
open PySem L2
/-! ### the ends -/
theorem at0_mk {K : PySem.W.Frag} {h : Heap} {mg : Str → Option Value} {x : Str} {st : Stmt} {ps : List Str} {f : Addr} {oc : Value} {od an : Option Addr} {osl : Array (Option Value)} {kV doc pm cdv ct : Value} (X : K.In h) (G : h.Ns mainGlobals mg)
    (a : PySem.W.nsIn K mainGlobals x = some (some (.ref f))) (l : K.lookup f = some ⟨oc, od, .func (PySem.W.fnOf x x (defArgs st) (defBody st) (defScope st) .none kV doc pm an cdv ct), osl⟩) (c : PySem.W.codeIn K cdv x = true) (k : PySem.W.keepIn K (.ref f) = true)
    (hb : ∀ (kV doc pm : Value) (an : Option Addr) (cdv ct : Value) (us : List Value), us.length = ps.length → bindArgs (PySem.W.fnOf x x (defArgs st) (defBody st) (defScope st) .none kV doc pm an cdv ct) ⟨us, []⟩ = pure (ps.zip us)) : At0 K mg x st ps := by
  have F := fun_mk (st := st) l c k
  exact ⟨f, _, F, PySem.W.mg_of X G a, F.binds hb⟩
theorem kc_mk {K : PySem.W.Frag} {h : Heap} {mg : Str → Option Value} {x : Str} {u : Value} {v : V} {d : PyData} (X : K.In h) (G : h.Ns mainGlobals mg) (a : PySem.W.nsIn K mainGlobals x = some (some u)) (r : RelV v u) (q : ∀ B H, Rp K B H v d) : KC K mg x d := ⟨v, u, PySem.W.mg_of X G a, r, q⟩
/-- what a written value is -/
inductive KV1 (K : PySem.W.Frag) : Value → PyData → Prop
  | none : KV1 K .none .none
  | bool (b : Bool) : KV1 K (.bool b) (.bool b)
  | int (i : Int) (t : Tok) : KV1 K (.int i t) (.int i)
  | str (x : Str) (t : Tok) : KV1 K (.str x t) (.str x)
/-- looked up by running -/
def kvB (K : PySem.W.Frag) : Nat → Value → PyData → Bool
  | 0, _, _ => false
  | _ + 1, .none, .none => true
  | _ + 1, .bool b, .bool c => b == c
  | _ + 1, .int i _, .int j => i == j
  | _ + 1, .str x _, .str y => decide (x = y)
  | n + 1, .ref a, .tuple ds => match K.lookup a with
    | some o => match o.cls, o.data with
      | .type t, .seq its _ => t == "tuple" && decide (its.size ≤ 1000) && decide (its.size = ds.length) && (its.toList.zip ds).all fun p => kvB K n p.1 p.2
      | _, _ => false
    | none => false
  | _ + 1, _, _ => false
theorem kv_rp {K : PySem.W.Frag} : ∀ (n : Nat) (u : Value) (d : PyData), kvB K n u d = true → ∃ v, RelV v u ∧ ∀ B H, Rp K B H v d
  | 0, _, _, h => by cases h
  | n + 1, u, d, h => by
    unfold kvB at h
    split at h
    · cases h
    · exact ⟨.non, rfl, fun _ _ => .non⟩
    · rename_i b c _
      have e : b = c := by simpa using h
      subst e
      exact ⟨.bl b, rfl, fun _ _ => .bl b⟩
    · rename_i i t j _
      have e : i = j := by simpa using h
      subst e
      exact ⟨.int i, ⟨t, rfl⟩, fun _ _ => .int i⟩
    · rename_i x t y _
      have e : x = y := by simpa using h
      subst e
      exact ⟨.str x, ⟨t, rfl⟩, fun _ _ => .str x⟩
    · rename_i m a ds hm
      cases hm
      split at h
      · rename_i o ho
        split at h
        · rename_i t its k hc hd
          simp only [Bool.and_eq_true, beq_iff_eq, decide_eq_true_eq, List.all_eq_true] at h
          obtain ⟨⟨⟨ht, hs⟩, hl⟩, ha⟩ := h
          have go : ∀ (us : List Value) (ds : List PyData), us.length = ds.length → (∀ p ∈ us.zip ds, kvB K n p.1 p.2 = true) → ∃ vs, Vals vs us ∧ ∀ B H, RpA K B H vs ds := by
            intro us
            induction us with
            | nil =>
              intro ds hl _
              cases ds with
              | nil => exact ⟨[], .nil, fun _ _ => .nil⟩
              | cons _ _ => simp at hl
            | cons u us ih =>
              intro ds hl hz
              cases ds with
              | nil => simp at hl
              | cons d ds =>
                obtain ⟨v, r1, r2⟩ := kv_rp n u d (hz (u, d) (by simp))
                obtain ⟨vs, q1, q2⟩ := ih ds (by simpa using hl) (fun p hp => hz p (by simp [hp]))
                exact ⟨v :: vs, .cons r1 q1, fun B H => .cons (r2 B H) (q2 B H)⟩
          obtain ⟨vs, q1, q2⟩ := go its.toList ds (by simpa using hl) ha
          subst ht
          exact ⟨.ref a, rfl, fun B H => .tup (.inr ⟨o, its, k, ho, hc, hd, Nat.le_of_lt (small1000 hs), q1⟩) (q2 B H)⟩
        · cases h
      · cases h
    · cases h
theorem kc_by {K : PySem.W.Frag} {h : Heap} {mg : Str → Option Value} {x : Str} {u : Value} {d : PyData} {n : Nat} (X : K.In h) (G : h.Ns mainGlobals mg) (a : PySem.W.nsIn K mainGlobals x = some (some u)) (q : kvB K n u d = true) : KC K mg x d := by
  obtain ⟨v, r, q⟩ := kv_rp n u d q
  exact ⟨v, u, PySem.W.mg_of X G a, r, q⟩
/-- a written dict of texts, looked up by running -/
def kdB (K : PySem.W.Frag) (d : Addr) (kvs : List (Str × PyData)) : Bool := kvs.all fun p => match PySem.W.nsIn K d p.1 with
  | some (some u) => kvB K 9 u p.2
  | _ => false
theorem lookup_mem {α : Type} : ∀ {l : List (Str × α)} {z : Str} {x : α}, l.lookup z = some x → (z, x) ∈ l
  | [], z, x, h => by simp at h
  | (y, b) :: l, z, x, h => by
    rw [List.lookup_cons] at h
    split at h
    · rename_i e
      cases h
      have : z = y := by simpa using e
      subst this
      simp
    · simp [lookup_mem h]
theorem kd_mk {K : PySem.W.Frag} {w : World} {h : Heap} {mg : Str → Option Value} {x : Str} {d : Addr} {es : Array DictEntry} {n : Nat} {kvs : List (Str × PyData)} (X : K.In h) (G : h.Ns mainGlobals mg) (a : PySem.W.nsIn K mainGlobals x = some (some (.ref d)))
    (l : K.lookup d = some ⟨.type "dict", none, .dict es n, #[]⟩) (k : PySem.W.KeysLit w.params es.toList) (q : kdB K d kvs = true) : KD K w mg x kvs := by
  refine ⟨d, PySem.W.mg_of X G a, fun z y hz => ?_⟩
  have hm := lookup_mem hz
  have := List.all_eq_true.mp q _ hm
  dsimp only at this
  split at this
  · rename_i u hu
    obtain ⟨v, r, q⟩ := kv_rp 9 u y this
    exact ⟨v, ⟨es, n, u, l, k, hu, r⟩, q⟩
  · cases this
/-- the law's promise, of a meaning -/
theorem law_sp {K : PySem.W.Frag} {F : FnD} {H : Hp} {a : Addr} {ns : List Int} (hF : ∃ as, F [.pd (.list (ns.map .int))] = some (.pd (.bool true), as)) (O : L2.Only H) (hS : SqL K H a (ns.map V.int)) : spF K F 1 [.ref a] H (fun v _ => v = .bl true) fun _ _ _ => False := by
  obtain ⟨as, hF⟩ := hF
  have rp : Rp K (fun _ => False) H (.ref a) (.list (ns.map .int)) := by
    rcases hS with (h | ⟨o, h⟩) | ⟨o, its, n, h1, h2, h3, h4, h5, h6⟩
    · rcases O a with z | ⟨o, xs, z⟩
      · rw [h] at z; cases z
      · rw [h] at z; cases z
    · exact .frz h (RpA.of_ints _)
    · exact .kls h1 h2 h3 h4 h5 h6 (RpA.of_ints _)
  refine ⟨rfl, fun _ => False, [.pd (.list (ns.map .int))], _, as, ⟨rfl, fun i x h => ?_, fun i x h => ?_, fun i m c h => ?_, fun i j m n c d b h => ?_, fun b h => h.elim⟩, hF, fun B' H' v _ r _ => ?_⟩
  · cases i with
    | zero => simp at h; subst h; exact ⟨_, rfl, rp⟩
    | succ i => simp at h
  · cases i with
    | zero => simp at h
    | succ i => simp at h
  · cases i with
    | zero => simp at h
    | succ i => simp at h
  · cases i with
    | zero => simp at h
    | succ i => simp at h
  · have r : Rp K B' H' v (.bool true) := r
    cases r
    rfl
end T3

end
section
set_option linter.all false
set_option autoImplicit false
set_option Elab.async false
namespace T3
open PySem L2
section
variable (env : Sl) (i j n : Nat) (fa fb fc : EE) (f g : EA) (s1 s2 : SS) (b1 b2 : EB) (k k1 k2 : KK) (d : R) (ds : List R) (x : PyData) (xs : List PyData)
@[simp] theorem z_var : eVar i env = (match env[i]? with
  | some (some (.pd x)) => some (.pd x, env)
  | some (some (.nt x)) => some (.nt x, env)
  | some (some (.mu _ _)) => some (.var i, env)
  | _ => none) := rfl
@[simp] theorem z_c : eC x env = some (.pd x, env) := rfl
@[simp] theorem z_nil : eNil env = some ([], env) := rfl
@[simp] theorem z_cons : eCons fa f env = (match fa env with
  | none => none
  | some (d, e1) => match f e1 with
    | none => none
    | some (ds, e2) => some (d :: ds, e2)) := rfl
@[simp] theorem z_then : eThen f k env = (match f env with
  | none => none
  | some (ds, e1) => k ds e1) := rfl
@[simp] theorem z_two : eTwo fa fb = eCons fa (eCons fb eNil) := rfl
@[simp] theorem z_one : eOne fa = eCons fa eNil := rfl
@[simp] theorem z_ctn1 : ctn env (.pd x) = some x := rfl
@[simp] theorem z_ctn2 : ctn env (.nt xs) = some (.tuple xs) := rfl
@[simp] theorem z_ctn3 : ctn env (.tmp (.ls xs)) = some (.list xs) := rfl
@[simp] theorem z_ctn4 : ctn env (.var i) = (match env[i]? with
    | some (some (.mu _ (.ls xs))) => some (.list xs)
    | _ => none) := rfl
@[simp] theorem z_ctns0 : ctns env [] = some [] := rfl
@[simp] theorem z_ctns1 : ctns env (d :: ds) = (match ctn env d with
    | none => none
    | some x => match ctns env ds with
      | none => none
      | some xs => some (x :: xs)) := rfl
@[simp] theorem z_kE (o : List PyData → Option PyData) : kE o ds env = (match ctns env ds with
  | none => none
  | some xs => match o xs with
    | none => none
    | some z => some (.pd z, env)) := rfl
@[simp] theorem z_kT (o : List PyData → Option (List PyData)) : kT o ds env = (match ctns env ds with
  | none => none
  | some xs => match o xs with
    | none => none
    | some z => some (.pd (.tuple z), env)) := rfl
@[simp] theorem z_kL (o : List PyData → Option (List PyData)) : kL o ds env = (match ctns env ds with
  | none => none
  | some xs => match o xs with
    | none => none
    | some z => some (.tmp (.ls z), env)) := rfl
@[simp] theorem z_kOr : kOr k1 k2 ds env = (match k1 ds env with
  | some r => some r
  | none => k2 ds env) := rfl
@[simp] theorem z_bT : bT fa env = (match fa env with
  | some (.pd (.bool b), e) => some (b, e)
  | _ => none) := rfl
@[simp] theorem z_bAnd : bAnd b1 b2 env = (match b1 env with
  | none => none
  | some (b, e) => if b = true then b2 e else some (false, e)) := rfl
@[simp] theorem z_bOr : bOr b1 b2 env = (match b1 env with
  | none => none
  | some (b, e) => if b = true then some (true, e) else b2 e) := rfl
@[simp] theorem z_bNot : bNot b1 env = (match b1 env with
  | none => none
  | some (b, e) => some (!b, e)) := rfl
@[simp] theorem z_eB : eB b1 env = (match b1 env with
  | none => none
  | some (b, e) => some (.pd (.bool b), e)) := rfl
@[simp] theorem z_eIf : eIf b1 fa fb env = (match b1 env with
  | none => none
  | some (b, e) => if b = true then fa e else fb e) := rfl
@[simp] theorem z_pass : sPass env = some (.nx, env) := rfl
@[simp] theorem z_seq : sSeq s1 s2 env = (match s1 env with
  | none => none
  | some (.nx, e1) => s2 e1
  | some (fl, e1) => some (fl, e1)) := rfl
@[simp] theorem z_if : sIf b1 s1 s2 env = (match b1 env with
  | none => none
  | some (b, e) => if b = true then s1 e else s2 e) := rfl
@[simp] theorem z_ret : sRet fa env = (match fa env with
  | none => none
  | some (d, e) => some (.rt d, e)) := rfl
@[simp] theorem z_expr : sExpr fa env = (match fa env with
  | none => none
  | some (_, e) => some (.nx, e)) := rfl
@[simp] theorem z_never : sNever env = none := rfl
@[simp] theorem z_free : free env i = (match env[i]? with
  | some (some (.mu .own _)) => true
  | some (some (.pd _)) => true
  | some (some (.nt _)) => true
  | some none => true
  | _ => false) := rfl
@[simp] theorem z_setR : setR i d env = (if free env i = true then match d with
    | .pd x => some (env.set i (some (.pd x)))
    | .nt x => some (env.set i (some (.nt x)))
    | .tmp c => some (env.set i (some (.mu .own c)))
    | .var _ => none
  else none) := rfl
@[simp] theorem z_set : sSet i fa env = (match fa env with
  | none => none
  | some (d, e) => match setR i d e with
    | none => none
    | some e2 => some (.nx, e2)) := rfl
@[simp] theorem z_gN : gN i x env = setR i (.pd x) env := rfl
@[simp] theorem z_gNl : gNl [] env = some env := rfl
@[simp] theorem z_gCn (g1 : GG) (gs : GGs) : gCn g1 gs (x :: xs) env = (match g1 x env with
    | none => none
    | some e => gs xs e) := rfl
@[simp] theorem z_gT (gs : GGs) : gT n gs (.tuple xs) env = (if xs.length = n then gs xs env else none) := rfl
@[simp] theorem z_asg (g1 : GG) : sAsg fa g1 env = (match fa env with
  | some (.pd x, e) => match g1 x e with
    | none => none
    | some e2 => some (.nx, e2)
  | some (.nt xs, e) => match g1 (.tuple xs) e with
    | none => none
    | some e2 => some (.nx, e2)
  | _ => none) := rfl
@[simp] theorem z_data1 : data1 (.pd x) = some x := rfl
@[simp] theorem z_data2 : data1 (.nt xs) = some (.tuple xs) := rfl
@[simp] theorem z_data3 : data1 (.tmp (.ls xs)) = some (.list xs) := rfl
@[simp] theorem z_data4 : data1 (.var i) = none := rfl
@[simp] theorem z_datas0 : datas [] = some [] := rfl
@[simp] theorem z_datas1 : datas (d :: ds) = (match data1 d with
    | none => none
    | some x => match datas ds with
      | none => none
      | some xs => some (x :: xs)) := rfl
@[simp] theorem z_kTup : kTup ds env = (match datas ds with
  | none => none
  | some xs => if xs.length ≤ 1000 then some (.pd (.tuple xs), env) else none) := rfl
@[simp] theorem z_kLst : kLst ds env = (match datas ds with
  | none => none
  | some xs => if xs.length ≤ 1000 then some (.tmp (.ls xs), env) else none) := rfl
@[simp] theorem z_for (it : EI) (g1 : GG) : sFor it g1 s1 env = (match it env with
  | none => none
  | some (xs, lk, e1) => match forL g1 s1 xs e1 with
    | none => none
    | some (fl, e2) => some (fl, unlock lk e2)) := rfl
@[simp] theorem z_unl : unlock none env = env := rfl
@[simp] theorem z_call (F : FnD) : eCall F f env = (match f env with
  | none => none
  | some (ds, e1) => match toArgs e1 ds with
    | none => none
    | some as => if varsApart ds = true then match F as with
        | none => none
        | some (.var _, _) => none
        | some (d, as') => some (d, back ds as' e1)
      else none) := rfl
@[simp] theorem z_arg1 : toArg env (.pd x) = some (.pd x) := rfl
@[simp] theorem z_arg2 : toArg env (.nt xs) = some (.nt xs) := rfl
@[simp] theorem z_arg3 (c : Ct) : toArg env (.tmp c) = some (.mu .bor c) := rfl
@[simp] theorem z_arg4 : toArg env (.var i) = (match env[i]? with
    | some (some (.mu .fro c)) => some (.mu .fro c)
    | some (some (.mu _ c)) => some (.mu .bor c)
    | _ => none) := rfl
@[simp] theorem z_args0 : toArgs env [] = some [] := rfl
@[simp] theorem z_args1 : toArgs env (d :: ds) = (match toArg env d with
    | none => none
    | some a => match toArgs env ds with
      | none => none
      | some as => some (a :: as)) := rfl
@[simp] theorem z_va0 : varsApart [] = true := rfl
@[simp] theorem z_va1 : varsApart (.pd x :: ds) = varsApart ds := rfl
@[simp] theorem z_va2 : varsApart (.nt xs :: ds) = varsApart ds := rfl
@[simp] theorem z_va3 (c : Ct) : varsApart (.tmp c :: ds) = varsApart ds := rfl
@[simp] theorem z_va4 : varsApart (.var i :: ds) = (!hasVar i ds && varsApart ds) := rfl
@[simp] theorem z_hv0 : hasVar i [] = false := rfl
@[simp] theorem z_hv1 : hasVar i (.pd x :: ds) = hasVar i ds := rfl
@[simp] theorem z_hv2 : hasVar i (.nt xs :: ds) = hasVar i ds := rfl
@[simp] theorem z_hv3 (c : Ct) : hasVar i (.tmp c :: ds) = hasVar i ds := rfl
@[simp] theorem z_hv4 : hasVar i (.var j :: ds) = (decide (i = j) || hasVar i ds) := rfl
variable (s : S) (as : List S)
@[simp] theorem z_bk0 : back [] [] env = env := rfl
@[simp] theorem z_bk1 : back (.pd x :: ds) (s :: as) env = back ds as env := rfl
@[simp] theorem z_bk2 : back (.nt xs :: ds) (s :: as) env = back ds as env := rfl
@[simp] theorem z_bk3 (c : Ct) : back (.tmp c :: ds) (s :: as) env = back ds as env := rfl
@[simp] theorem z_bk4 (m : Md) (c : Ct) : back (.var i :: ds) (.mu m c :: as) env = (match env[i]? with
    | some (some (.mu m _)) => back ds as (env.set i (some (.mu m c)))
    | _ => back ds as env) := rfl
@[simp] theorem z_out1 : outR env (.pd x) = some (.pd x) := rfl
@[simp] theorem z_out2 : outR env (.nt xs) = some (.nt xs) := rfl
@[simp] theorem z_out3 (c : Ct) : outR env (.tmp c) = some (.tmp c) := rfl
@[simp] theorem z_out4 : outR env (.var i) = (match env[i]? with
    | some (some (.mu .own c)) => some (.tmp c)
    | _ => none) := rfl
variable (e0 : Option S)
@[simp] theorem z_fin0 : finals [] env = some [] := by cases env <;> rfl
@[simp] theorem z_fin1 : finals (.pd x :: as) (e0 :: env) = (match finals as env with
    | none => none
    | some l => some (.pd x :: l)) := rfl
@[simp] theorem z_fin2 : finals (.nt xs :: as) (e0 :: env) = (match finals as env with
    | none => none
    | some l => some (.nt xs :: l)) := rfl
@[simp] theorem z_fin3 (m m' : Md) (c c' : Ct) : finals (.mu m c :: as) (some (.mu m' c') :: env) = (if m = m' ∧ m ≠ .own then match finals as env with
      | none => none
      | some l => some (.mu m c' :: l)
    else none) := rfl
theorem run_of {n : Nat} {b : SS} {as : List S} {e : Sl} (h : startE n as = e) : runFn n b as = (match b e with
  | some (.rt d, e) => match outR e d with
    | none => none
    | some d' => match finals as e with
      | none => none
      | some as' => some (d', as')
  | some (.nx, e) => match finals as e with
    | none => none
    | some as' => some (.pd .none, as')
  | _ => none) := by rw [← h]; rfl
end
end T3

end
section
set_option linter.all false
set_option autoImplicit false
set_option Elab.async false
namespace T3
open PySem L2
section
variable (env : Sl) (fa fb fc : EE) (f : EA) (g : GG) (t : EB) (it : EI) (vs : List Nat) (x : PyData)
@[simp] theorem z_add : eAdd fa fb env = eThen (eCons fa (eCons fb eNil)) kAdd env := rfl
@[simp] theorem z_sub : eSub fa fb env = eThen (eCons fa (eCons fb eNil)) kSub env := rfl
@[simp] theorem z_mul : eMul fa fb env = eThen (eCons fa (eCons fb eNil)) kMul env := rfl
@[simp] theorem z_fdiv : eFdiv fa fb env = eThen (eCons fa (eCons fb eNil)) kFdiv env := rfl
@[simp] theorem z_mod : eMod fa fb env = eThen (eCons fa (eCons fb eNil)) kMod env := rfl
@[simp] theorem z_pow : ePow fa fb env = eThen (eCons fa (eCons fb eNil)) kPow env := rfl
@[simp] theorem z_neg : eNeg fa env = eThen (eCons fa eNil) kNeg env := rfl
@[simp] theorem z_eq : eEq fa fb env = eThen (eCons fa (eCons fb eNil)) (kE oEq) env := rfl
@[simp] theorem z_ne : eNe fa fb env = eThen (eCons fa (eCons fb eNil)) (kE oNe) env := rfl
@[simp] theorem z_lt : eLt fa fb env = eThen (eCons fa (eCons fb eNil)) kLt env := rfl
@[simp] theorem z_le : eLe fa fb env = eThen (eCons fa (eCons fb eNil)) kLe env := rfl
@[simp] theorem z_gt : eGt fa fb env = eThen (eCons fa (eCons fb eNil)) kGt env := rfl
@[simp] theorem z_ge : eGe fa fb env = eThen (eCons fa (eCons fb eNil)) kGe env := rfl
@[simp] theorem z_in : eIn fa fb env = eThen (eCons fa (eCons fb eNil)) (kE (oIn false)) env := rfl
@[simp] theorem z_nin : eNin fa fb env = eThen (eCons fa (eCons fb eNil)) (kE (oIn true)) env := rfl
@[simp] theorem z_is : eIs fa fb env = eThen (eCons fa (eCons fb eNil)) (kE (oIsN false)) env := rfl
@[simp] theorem z_isn : eIsn fa fb env = eThen (eCons fa (eCons fb eNil)) (kE (oIsN true)) env := rfl
@[simp] theorem z_ix : eIx fa fb env = eThen (eCons fa (eCons fb eNil)) (kE oIx) env := rfl
@[simp] theorem z_trg : eTrg f env = eThen f kTrg env := rfl
@[simp] theorem z_lc : eLc it g t fa vs env = (match it env with
  | none => none
  | some (xs, lk, e1) => if xs.length ≤ 1000000 then match lcL g t fa vs xs e1 [] with
      | none => none
      | some (acc, e2) => some (.tmp (.ls acc), unlock lk e2)
    else none) := rfl
@[simp] theorem z_seqI : iSeq fa env = (match fa env with
  | some (.pd (.tuple xs), e) => some (xs, none, e)
  | some (.nt xs, e) => some (xs, none, e)
  | some (.pd (.list xs), e) => some (xs, none, e)
  | some (.pd (.str s), e) => some (signs s, none, e)
  | some (.tmp (.ls xs), e) => some (xs, none, e)
  | some (.var i, e) => match e[i]? with
    | some (some (.mu m (.ls xs))) => some (xs, some (i, m), e.set i (some (.mu .fro (.ls xs))))
    | _ => none
  | _ => none) := rfl
@[simp] theorem z_bm (ty : Sl → R → Bool) (k : KK) : eBM ty fa f k env = (match fa env with
  | none => none
  | some (d, e1) => if ty e1 d = true then match f e1 with
      | none => none
      | some (ds, e2) => k (d :: ds) e2
    else none) := rfl
@[simp] theorem z_dnew : eDnew env = some (.tmp (.dk []), env) := rfl
@[simp] theorem z_gS : gS fa fb x env = (match fa env with
  | some (.var j, e1) => match fb e1 with
    | some (.pd (.int k), e2) => putL j k x e2
    | _ => none
  | _ => none) := rfl
@[simp] theorem z_sl (lo hi : EO) : eSl fa lo hi env = (match fa env with
  | none => none
  | some (d, e1) => match lo e1 with
    | none => none
    | some (l, e2) => match hi e2 with
      | none => none
      | some (h, e3) => kSl l h [d] e3) := rfl
@[simp] theorem z_par (i j : Nat) : sPar i j f env = (match f env with
  | some ([d1, d2], e) => match setR i d1 e with
    | none => none
    | some e2 => match setR j d2 e2 with
      | none => none
      | some e3 => some (.nx, e3)
  | _ => none) := rfl
@[simp] theorem z_par3 (i j l : Nat) : sPar3 i j l f env = (match f env with
  | some ([d1, d2, d3], e) => match setR i d1 e with
    | none => none
    | some e2 => match setR j d2 e2 with
      | none => none
      | some e3 => match setR l d3 e3 with
        | none => none
        | some e4 => some (.nx, e4)
  | _ => none) := rfl
@[simp] theorem z_oNo : oNo env = some (none, env) := rfl
@[simp] theorem z_unl1 (i : Nat) (m : Md) : unlock (some (i, m)) env = (match env[i]? with
  | some (some (.mu _ c)) => env.set i (some (.mu m c))
  | _ => env) := by rfl
end
end T3

end
section
set_option linter.all false
set_option autoImplicit false
set_option Elab.async false
namespace T3
open PySem PySem.Spec PyProof.Rows L2
/-! ### defs whose callers print nothing just now -/
structure FnG (P : Program) (w : World) (K : PySem.W.Frag) (mg : Str → Option Value) (base : Heap) (k : Nat) (f : Addr) (fd : FuncData) (ps : List Str) (sp : Sp) : Prop where
  sizes : ∀ xs H Q E, sp xs H Q E → xs.length = ps.length
  go : ∀ (A : Around) (out : List Env) (s : Shared) (H : Hp) (ar : Args) (us : List Value) (xs : List V) (Q : VK) (E : XK), Room k A → A.guards = some [] → Env0 P w K mg base A out s H → BindsTo s fd ar (ps.zip us) → Vals xs us → sp xs H Q E →
    codeAny (model P w) A (.call (.ref f) ar) (CR CX0 out P w H s Q E) s
section
variable {P : Program} {w : World} {K : PySem.W.Frag} {mg : Str → Option Value} {base : Heap} {k : Nat} {f : Addr} {fd : FuncData} {ps : List Str} {sp : Sp}
theorem FnG.of (F : FnOk P w K mg base CX0 k f fd ps sp) : FnG P w K mg base k f fd ps sp := ⟨F.len, fun A out s H ar us xs Q E r _ => F.run A out s H ar us xs Q E r⟩
/-- where a body ends -/
theorem ce_of {X : Cx} {out : List Env} {H₀ : Hp} {s₀ : Shared} {Q : VK} {τ : L2.St} {H2 : Hp} {z : V} {u : Value} {s2 : Shared} (J : Inv X [] τ H2 s2) (ho : s2.os = s₀.os) (hu : Un (frs out) [] H₀ H2 s₀.heap s2.heap) (rv : RelV z u) (q : Q z H2) : CE out X.prog X.w H₀ s₀ Q u s2 := ⟨z, H2, ho, J.bare, hu, J.hok, rv, q⟩
theorem fnG_of {nm qu : Str} {pr : Arguments} {bd : List Stmt} {sc : Scope} {dV kV doc pm cdv ct oc : Value} {an od : Option Addr} {osl : Array (Option Value)} {N : List Str}
    (at_ : K.lookup f = some ⟨oc, od, .func (PySem.W.fnOf nm qu pr bd sc dV kV doc pm an cdv ct), osl⟩) (cod : PySem.W.codeIn K cdv qu = true) (Sc : FnScope N ps sc) (sizes : ∀ xs H Q E, sp xs H Q E → xs.length = ps.length)
    (hb : ∀ (A : Around) (out : List Env) (s : Shared) (H : Hp) (xs : List V) (Q : VK) (E : XK), Room k (A.deeper (envOfC qu sc s.heap.objs.size f cdv)) → A.guards = some [] → sp xs H Q E →
      ∃ t, PSs (cxOf CX0 P w K mg base N qu sc f cdv A out s H E) bd t ∧ t { nx := fun _ H' => Q .non H', rt := Q } (L2.start N xs) H) :
    FnG P w K mg base (k + 1) f (PySem.W.fnOf nm qu pr bd sc dV kV doc pm an cdv ct) ps sp := by
  constructor
  · exact sizes
  intro A out s H ar us xs Q E rm gd ev bi vl hs
  have kin : K.In s.heap := ev.mod.kin.keeps fun a o h => (ev.bs a o h).1
  have nolim : s.heap.NoLimit := ev.mod.nolimit.keeps fun a o h => (ev.bs a o h).1
  have kinds : ∀ y ∈ ps.zip us, sc.names.lookup y.1 = some .local ∨ (sc.names.lookup y.1 = some .cell ∧ ((cellsFrom (s.heap.objs.size + 1) sc.names []).lookup y.1).isSome = true) := by
    rintro ⟨a, b⟩ hy
    refine (Sc.par a (List.of_mem_zip hy).1).imp id fun q => ⟨q, ?_⟩
    exact PySem.W.cellsFrom_some _ _ _ (.inl q)
  refine codeAny_call_function rm.depth (kin _ _ at_) rfl Sc.co Sc.gen rfl (PySem.W.codeRec_of kin cod) ?_
  refine bi _ _ _ _ (wpAny_newFunctionEnv_cells Sc.kind kinds fun env ee s1 ic => ?_)
  subst ee
  refine ⟨nolim.keeps ic.toInCall.keep, codeAny_func ?_⟩
  obtain ⟨t, h1, h2⟩ := hb A out s H xs Q E (rm.deeper _) gd hs
  have J := inv_start (CX := CX0) (P := P) (w := w) (E := E) Sc rm.hd ev (sizes _ _ _ _ hs) vl ic
  refine wpAny_mono (h1.run [] s1 (L2.start N xs) H _ J h2) (fun fl s2 hf => ?_) fun _ _ hx => hx
  match fl, hf with
  | .ret u, ⟨z, τ, H2, J2, rv, q⟩ => exact ce_of J2 J2.os J2.base rv q
  | .next, ⟨τ, H2, J2, q⟩ => exact ce_of (z := .non) (u := .none) J2 J2.os J2.base rfl q
  | .brk, ⟨_, _, _, q⟩ => exact q.elim
  | .cont, ⟨_, _, _, q⟩ => exact q.elim
end
end T3

end
section
set_option linter.all false
set_option autoImplicit false
set_option Elab.async false
namespace T3
open PySem PySem.Spec PyProof.Rows L2
section
variable {X : Cx} {k n : Nat} {f : Addr} {fd : FuncData} {ps : List Str} {sp : Sp} {x : Str} {p pos : Pos} {e : Expr} {es : List Expr} {t : TA} {F : FnD} {fa : EA}
theorem FnG.called {pins : List (Addr × Obj)} {σ : L2.St} {H : Hp} {s : Shared} {Q : VK} {us : List Value} {xs : List V} (G : FnG X.prog X.w X.K X.mg X.base k f fd ps sp) (rm : Room k X.A) (gd : X.A.guards = some []) (bi : Binds X.K fd ps []) (J : Inv X pins σ H s) (vl : Vals xs us) (hs : sp xs H Q E0) :
    wpAny (model X.prog X.w) X.A (call (.ref f) us) (EP X pins σ Q) X.xe s := by
  have ln : (us ++ []).length = ps.length := by
    rw [List.append_nil, ← vl.length]
    exact G.sizes _ _ _ _ hs
  have b := bi s us J.kIn ln
  rw [List.append_nil] at b
  have c := G.go X.A X.stack s H ⟨us, []⟩ us xs Q E0 rm gd J.env0 b vl hs
  refine wpAny_call (codeAny_mono c ?_)
  intro r s2 h
  match r, h with
  | .ok (.ret _), h => exact J.after h
  | .ok .next, h => exact h.elim
  | .ok .brk, h => exact h.elim
  | .ok .cont, h => exact h.elim
  | .error _, h => exact h.elim
theorem pe_fnG (G : FnG X.prog X.w X.K X.mg X.base k f fd ps sp) (rm : Room k X.A) (gd : X.A.guards = some []) (gl : Gl X x) (mg_ : X.mg x = some (.ref f)) (kp : PySem.W.keepIn X.K (.ref f) = true) (bi : Binds X.K fd ps []) (ar : PA X (e :: es) t)
    (nd : (x == ("__debug__" : Str)) = false) (se : starEach (e :: es) X.env = (false, eval e X.env) :: starEach es X.env) (pl : (backTo pos (starEach es X.env)).any (·.1) = false) :
    PE X (.Call (.Name x p) (e :: es) [] pos) (tCall sp [] E0 t) := by
  constructor
  intro pins s σ H Q J h
  refine wpAny_Call_Name_kw (ld_glob J gl mg_ (PySem.W.callWith_K (h₀ := X.base) J.ok.mod.kin kp (thn (ar.run pos pins s σ H _ J h) ?_) se pl) nd)
  rintro us s2 ⟨xs, H2, J2, vl, q⟩
  rw [List.append_nil] at q
  exact ⟨J2.kIn, G.called rm gd bi J2 vl q⟩
theorem pe_fnG0 (G : FnG X.prog X.w X.K X.mg X.base k f fd ps sp) (rm : Room k X.A) (gd : X.A.guards = some []) (gl : Gl X x) (mg_ : X.mg x = some (.ref f)) (kp : PySem.W.keepIn X.K (.ref f) = true) (bi : Binds X.K fd ps [])
    (nd : (x == ("__debug__" : Str)) = false) : PE X (.Call (.Name x p) [] [] pos) (tCall sp [] E0 tNil) := by
  constructor
  intro pins s σ H Q J h
  have h2 : sp [] H Q E0 := h
  exact wpAny_Call_Name_kw (ld_glob J gl mg_ (PySem.W.callWith_K0 J.kIn kp (G.called (us := []) rm gd bi J .nil h2)) nd)
end
/-- a def that means F, asked while nothing is printed -/
def HasG (P : Program) (w : World) (K : PySem.W.Frag) (mg : Str → Option Value) (base : Heap) (x : Str) (n : Nat) (F : FnD) (k : Nat) : Prop := ∃ f fd ps, FnG P w K mg base k f fd ps (spF K F n) ∧ mg x = some (.ref f) ∧ PySem.W.keepIn K (.ref f) = true ∧ Binds K fd ps []
theorem Has.g {P : Program} {w : World} {K : PySem.W.Frag} {mg : Str → Option Value} {base : Heap} {x : Str} {n : Nat} {F : FnD} {k : Nat} (h : Has P w K mg base x n F k) : HasG P w K mg base x n F k := by
  obtain ⟨f, fd, ps, h1, h2⟩ := h
  exact ⟨f, fd, ps, .of h1, h2⟩
theorem hasG_of {P : Program} {w : World} {K : PySem.W.Frag} {mg : Str → Option Value} {base : Heap} {x : Str} {st : Stmt} {N ps : List Str} {k n : Nat} {b : SS} (h : At0 K mg x st ps) (Sc : FnScope N ps (defScope st)) (hn : n = ps.length)
    (hb : ∀ (f : Addr) (cdv : Value) (A : Around) (out : List Env) (s : Shared) (H : Hp) (E : XK), Room k (A.deeper (envOfC x (defScope st) s.heap.objs.size f cdv)) → (A.deeper (envOfC x (defScope st) s.heap.objs.size f cdv)).guards = some [] →
      PSs (cxOf CX0 P w K mg base N x (defScope st) f cdv A out s H E).nox (defBody st) (tS K b)) : HasG P w K mg base x n (runFn N.length b) (k + 1) := by
  obtain ⟨f, fd, h1, h2, h3⟩ := h
  refine ⟨f, fd, ps, ?_, h2, h1.kp, h3⟩
  obtain ⟨oc, od, kV, doc, pm, an, cdv, ct, osl, rfl, lk, hcd⟩ := h1.ex
  exact fnG_of lk hcd Sc (spF_len hn) fun A out s H xs Q E rm gd hs => ⟨_, (hb f cdv A out s H E rm gd).nox, fn_body hs⟩
section
variable {X : Cx} {k n : Nat} {F : FnD} {x : Str} {p pos : Pos} {e : Expr} {es : List Expr} {fa : EA}
theorem e_fnG (h : HasG X.prog X.w X.K X.mg X.base x n F k) (hr : Room k X.A) (gd : X.A.guards = some []) (hn : lenA fa n) (ha : PA X (e :: es) (tA X.K fa)) (hg : Gl X x := by rfl) (hdb : (x == ("__debug__" : Str)) = false := by decide) (he : starEach (e :: es) X.env = (false, eval e X.env) :: starEach es X.env := by rfl) (hpl : (backTo pos (starEach es X.env)).any (·.1) = false := by rfl) :
    PE X (.Call (.Name x p) (e :: es) [] pos) (tE X.K (eCall F fa)) := by
  obtain ⟨f, fd, ps, h1, h2, h3, h4⟩ := h
  exact PE.imp (pe_fnG h1 hr gd hg h2 h3 h4 ha hdb he hpl) fun _ _ _ t => rd_call hn t
theorem e_fnG0 (h : HasG X.prog X.w X.K X.mg X.base x 0 F k) (hr : Room k X.A) (gd : X.A.guards = some []) (hg : Gl X x := by rfl) (hdb : (x == ("__debug__" : Str)) = false := by decide) :
    PE X (.Call (.Name x p) [] [] pos) (tE X.K (eCall F eNil)) := by
  obtain ⟨f, fd, ps, h1, h2, h3, h4⟩ := h
  refine PE.imp (pe_fnG0 h1 hr gd hg h2 h3 h4 hdb) fun σ H Q t => ?_
  have h := rd_call (E := E0) (n := 0) lenA_nil t
  obtain ⟨B, env, ds, env', en, ev, q⟩ := h
  cases ev
  exact q B H [] (.refl en) ⟨rfl, fun k v d h => by simp at h, fun k l c c' v _ h => by simp at h⟩
end
end T3

end
section
set_option linter.all false
set_option autoImplicit false
set_option Elab.async false
namespace T3
open PySem PySem.Spec PyProof.Rows L2
/-! ### the law's own call -/
section
variable {P : Program} {w : World} {K : PySem.W.Frag} {mg mb : Str → Option Value} {k : Nat} {fa a : Addr} {fd : FuncData} {x : Str} {sp : Sp} {s : Shared} {vs : List Value} {ns : List Int}
/-- the tracked part is the script alone -/
structure Scr (K : PySem.W.Frag) (s : Shared) (a : Addr) (H : Hp) : Prop where
  only : L2.Only H
  one : ∀ b, H b ≠ none → b = a
  kn : H a ≠ none → K.lookup a = none
theorem Scr.nd {H : Hp} (c : Scr K s a H) (ha : s.heap.get? a = some { cls := .type "list", data := .seq vs.toArray }) {b : Addr} {o : Obj} {es : Array DictEntry} {m : Nat} (h : s.heap.get? b = some o) (d : o.data = .dict es m) : H b = none := by
  apply Classical.byContradiction
  intro z
  have e := c.one b z
  rw [e, ha] at h
  injection h with h
  rw [← h] at d
  cases d
theorem Scr.spc {H : Hp} (c : Scr K s a H) (ha : s.heap.get? a = some { cls := .type "list", data := .seq vs.toArray }) {b : Addr} {m : Str → Option Value} (h : s.heap.Ns b m) : (hidT s.heap H).Ns b m := by
  obtain ⟨o, es, n, h1, h2, h3⟩ := h
  exact ⟨o, es, n, hidT_get h1 (c.nd ha h1 h2), h2, h3⟩
theorem Scr.kin {H : Hp} (c : Scr K s a H) (KX : K.In s.heap) : K.In (hidT s.heap H) := by
  intro b o h
  refine hidT_get (KX b o h) (Classical.byContradiction fun z => ?_)
  have e := c.one b z
  subst e
  rw [c.kn z] at h
  cases h
theorem Scr.run {H : Hp} (c : Scr K s a H) (ha : s.heap.get? a = some { cls := .type "list", data := .seq vs.toArray }) (KX : K.In s.heap) (hm : s.heap.Ns mainGlobals mg) (hb : s.heap.Ns builtinsNs mb) (hbb : ∀ x : Str, x ≠ "__name__" → mb x = bootBuiltins x) (nl : s.heap.NoLimit) (hg : s.gens = #[])
    (hr : Room k callerA) (F : ∀ base : Heap, K.In base → base.Ns mainGlobals mg → FnG P w K mg base k fa fd [x] sp) (bi : ∀ (s : Shared) (u : Value), BindsTo s fd ⟨[u], []⟩ [(x, u)]) (hok : HOk P w H s.heap)
    (hs : sp [.ref a] H (fun v _ => v = .bl true) fun _ _ _ => False) :
    codeAny (model P w) callerA (.call (.ref fa) ⟨[.ref a], []⟩) (fun r s2 => r = .ok (.ret (.bool true)) ∧ OldK s.heap s2.heap ∧ s2.os = s.os ∧ AllBare s2.gens) s := by
  obtain ⟨mc, n1, n2⟩ := nl
  have md : Mod K mg (hidT s.heap H) := ⟨c.kin KX, c.spc ha hm, ⟨mb, c.spc ha hb, hbb⟩, mc, c.spc ha n1, n2⟩
  have ev : Env0 P w K mg (hidT s.heap H) callerA [] s H := {
    frames := rfl
    mod := md
    bs := fun b o h => of_hidT h
    bsz := Nat.le_of_eq (hidT_size _ _)
    funs := trivial
    frf := fun b h => nomatch (show b ∈ ([] : List Addr) from h)
    hok := hok
    bare := .of_eq hg }
  have cc := (F _ md.kin (c.spc ha hm)).go callerA [] s H ⟨[.ref a], []⟩ [.ref a] [.ref a] _ _ hr rfl ev (bi s (.ref a)) (.cons rfl .nil) hs
  refine codeAny_mono cc ?_
  intro r s2 h
  match r, h with
  | .ok .next, h => exact h.elim
  | .ok .brk, h => exact h.elim
  | .ok .cont, h => exact h.elim
  | .error _, h => exact h.elim
  | .ok (.ret u), ⟨v, H2, os, br, un, hok2, rv, q⟩ =>
    have q : v = .bl true := q
    subst q
    have eu : u = .bool true := rv
    subst eu
    refine ⟨rfl, OldK.of_keep ?_, os, br⟩
    intro b o h
    rcases c.only b with z | ⟨ob, ys, z⟩
    · exact un.keep b o h z (fun y => nomatch (show b ∈ ([] : List Addr) from y)) (by simp)
    · have h1 := (hok b _ z).1
      rw [h] at h1
      cases h1
      exact (hok2 b _ (un.frzs b o _ z)).1
theorem lawG (KX : K.In s.heap) (hm : s.heap.Ns mainGlobals mg) (hb : s.heap.Ns builtinsNs mb) (hbb : ∀ x : Str, x ≠ "__name__" → mb x = bootBuiltins x) (nl : s.heap.NoLimit) (hg : s.gens = #[])
    (ha : s.heap.get? a = some { cls := .type "list", data := .seq vs.toArray }) (hi : IntsAre vs ns) (hl : ns.length ≤ sizeLine) (hr : Room k callerA)
    (F : ∀ base : Heap, K.In base → base.Ns mainGlobals mg → FnG P w K mg base k fa fd [x] sp) (bi : ∀ (s : Shared) (u : Value), BindsTo s fd ⟨[u], []⟩ [(x, u)])
    (hs : ∀ H : Hp, L2.Only H → SqL K H a (ns.map V.int) → sp [.ref a] H (fun v _ => v = .bl true) fun _ _ _ => False) :
    codeAny (model P w) callerA (.call (.ref fa) ⟨[.ref a], []⟩) (fun r s2 => r = .ok (.ret (.bool true)) ∧ OldK s.heap s2.heap ∧ s2.os = s.os ∧ AllBare s2.gens) s := by
  have vi := vals_ints hi
  have vl := hi.length
  cases hk : K.lookup a with
  | some o =>
    have e := KX a o hk
    rw [ha] at e
    injection e with e
    subst e
    have hO : L2.Only (fun _ => none) := fun _ => .inl rfl
    refine Scr.run (H := fun _ => none) ⟨hO, fun b z => absurd rfl z, fun z => absurd rfl z⟩ ha KX hm hb hbb nl hg hr F bi ?_ (hs _ hO (.inr ⟨_, vs.toArray, 0, hk, rfl, rfl, rfl, ?_, by simpa using vi⟩))
    · intro b u z
      cases (show (none : Option HO) = some u from z)
    · rw [List.size_toArray, vl]
      exact hl
  | none =>
    let Hs : Hp := fun b => if b = a then some (.frz { cls := .type "list", data := .seq vs.toArray } (.lst (ns.map V.int))) else none
    have at_a : Hs a = some (.frz { cls := .type "list", data := .seq vs.toArray } (.lst (ns.map V.int))) := if_pos rfl
    have off_a : ∀ b, b ≠ a → Hs b = none := fun b h => if_neg h
    have hO : L2.Only Hs := fun b => by
      by_cases e : b = a
      · subst e; exact .inr ⟨_, _, at_a⟩
      · exact .inl (off_a b e)
    refine Scr.run (H := Hs) ⟨hO, fun b z => Classical.byContradiction fun e => z (off_a b e), fun _ => hk⟩ ha KX hm hb hbb nl hg hr F bi ?_ (hs _ hO (.inl (.inr ⟨_, at_a⟩)))
    intro b u z
    by_cases e : b = a
    · subst e
      rw [at_a] at z
      cases z
      exact ⟨ha, by rw [List.length_map]; exact hl, vs, 0, vi, ha⟩
    · rw [off_a b e] at z
      cases z
end
theorem walkG {l : PySem.W.OpenLaw} {n k : Nat} {q : Program} {loose : List Str} {XP : (Str → Option Value) → Heap → Prop} {YP : World → Heap → Prop} {d : DefRec} {K : Params → PySem.W.Frag} {sp : World → Sp} {x : Str}
    (hn : l.most = some n) (hn2 : n ≤ sizeLine) (nd : d.params.defaults = []) (hr : Room k callerA) (hY : ∀ (w : World) (h : Heap), YP w h → (K w.params).In h)
    (F : ∀ (w : World) (mg : Str → Option Value) (fa : Addr) (h : Heap), (K w.params).In h → h.Ns mainGlobals mg → mg d.name = some (.ref fa) →
      ∃ fd : FuncData, (∀ (s : Shared) (u : Value), BindsTo s fd ⟨[u], []⟩ [(x, u)]) ∧ ∀ base : Heap, (K w.params).In base → base.Ns mainGlobals mg → FnG l.prog w (K w.params) mg base k fa fd [x] (sp w))
    (hs : ∀ (w : World) (H : Hp) (a : Addr) (ns : List Int), ns.length ≤ n → L2.Only H → SqL (K w.params) H a (ns.map V.int) → sp w [.ref a] H (fun v _ => v = .bl true) fun _ _ _ => False) :
    PySem.W.WalkO q loose XP YP l.row.toRowW d [] (fun f vs => PySem.call f vs) := by
  refine Att.attach_call hn nd ?_
  intro w s₀ s mg mb fa o pm cd doc a vs ns G Y _ _ _ em ho hi hl hg
  have kx := hY w _ Y
  obtain ⟨fd, b, f⟩ := F w mg fa _ kx G.T.g em
  exact lawG kx G.T.g G.T.b G.T.builtins G.T.nolimit hg ho hi (Nat.le_trans hl hn2) hr f b fun H h1 h2 => hs w H a ns hl h1 h2
end T3

end
section
set_option linter.all false
set_option autoImplicit false
set_option Elab.async false
namespace T3
open PySem PySem.Spec PyProof.Rows L2
/-! ### repr of lists and tuples -/
def ShOk (d : PyData) : Prop := SeqAt.shaped d = true ∧ d.showable = true ∧ d.shown.length ≤ 1000000
noncomputable instance (d : PyData) : Decidable (ShOk d) := Classical.propDecidable _
noncomputable def oRepr : List PyData → Option PyData
  | [.tuple xs] => if ShOk (.tuple xs) then some (.str (PyData.tuple xs).shown) else none
  | [.list xs] => if ShOk (.list xs) then some (.str (PyData.list xs).shown) else none
  | _ => none
def rRepr (K : PySem.W.Frag) : List V → Hp → VK → Prop := fun vs H Q => ∃ (a : Addr) (d : PyData), vs = [V.ref a] ∧ Dp K H (.ref a) d ∧ ShOk d ∧ Q (.str d.shown) H
theorem cr_repr {X : Cx} (gd : X.A.guards = some []) (hu : X.A.units + 66 < cLine) : CallR X (.builtin "repr") (rRepr X.K) := by
  intro pins s σ H xs us Q J r h
  obtain ⟨a, d, rfl, dp, ⟨sh, sw, sz⟩, q⟩ := h
  obtain ⟨u, rfl, rv⟩ := vals1 r
  have eu : u = .ref a := rv
  subst eu
  obtain ⟨as, rd⟩ := Dp.reads J d _ _ dp rfl
  have cl : d.canLay0 = true := SeqAt.canLay_of_shaped sh
  have dd := SeqAt.depth_of_shaped sh
  refine repr_of_reads' rd sw (PyData.noDict_hsm (PyData.hasDict_of_canLay d cl)) gd (by omega) (fun _ _ e => e) (fun h' t tk hk => ?_) (Nat.le_of_lt (small sz))
  exact ⟨.str d.shown, H, Inv.turnedL (ch := []) J (fun b o _ e => hk b o e) (fun b z => nomatch z), ⟨t, rfl⟩, q⟩
theorem c_repr {K : PySem.W.Frag} : Con K (kE oRepr) (rRepr K) := con_E <| by
  intro B H vs xs z Q cn ho q
  unfold oRepr at ho
  split at ho
  · split at ho
    · rename_i ys hs
      cases ho
      obtain ⟨v, e2, c1⟩ := cn.one
      obtain ⟨a, us, rfl, h1, h2⟩ := c1.tuple
      exact ⟨a, _, e2, c1.dp hs.1, hs, q _ (.str _)⟩
    · cases ho
  · split at ho
    · rename_i ys hs
      cases ho
      obtain ⟨v, e2, c1⟩ := cn.one
      obtain ⟨a, us, rfl, h1, h2⟩ := c1.list
      exact ⟨a, _, e2, c1.dp hs.1, hs, q _ (.str _)⟩
    · cases ho
  · cases ho
theorem w_repr {X : Cx} {k : Nat} (gd : X.A.guards = some []) (hr : Room k X.A) : Blt X "repr" (kE oRepr) := ⟨_, _, cr_repr gd (by have := hr.un; omega), c_repr, by decide +kernel⟩
/-! ### == of texts, whatever they are -/
def oEqS : List PyData → Option PyData
  | [.str a, .str b] => some (.bool (decide (a = b)))
  | _ => none
def oNeS : List PyData → Option PyData
  | [.str a, .str b] => some (.bool (!decide (a = b)))
  | _ => none
def kEqx : KK := kOr (kE oEqS) (kE oEq)
def kNex : KK := kOr (kE oNeS) (kE oNe)
theorem ok_eqS {K : PySem.W.Frag} : OkE K oEqS (l2 rEq) := by
  intro B H vs xs z Q cn ho q x y e
  unfold oEqS at ho
  split at ho
  · rename_i a b
    cases ho
    obtain ⟨v, w, e2, c1, c2⟩ := cn.two
    rw [e] at e2
    cases e2
    have e1 := c1.str
    have e3 := c2.str
    subst e1 e3
    refine ⟨rfl, ?_⟩
    have : decide (V.str a = V.str b) = decide (a = b) := by by_cases h : a = b <;> simp [h]
    rw [this]
    exact q _ (.bl _)
  · cases ho
theorem ok_neS {K : PySem.W.Frag} : OkE K oNeS (l2 rNe) := by
  intro B H vs xs z Q cn ho q x y e
  unfold oNeS at ho
  split at ho
  · rename_i a b
    cases ho
    obtain ⟨v, w, e2, c1, c2⟩ := cn.two
    rw [e] at e2
    cases e2
    have e1 := c1.str
    have e3 := c2.str
    subst e1 e3
    refine ⟨rfl, ?_⟩
    have : decide (V.str a = V.str b) = decide (a = b) := by by_cases h : a = b <;> simp [h]
    rw [this]
    exact q _ (.bl _)
  · cases ho
section
variable {X : Cx} {k : Nat}
theorem q_eqx (hr : Room k X.A) : Cmp2 X .Eq kEqx := ⟨_, OpR.or op_eq (op_eqD (u64 hr)), con_or2 (con_E ok_eqS) (con_E ok_eq)⟩
theorem q_nex (hr : Room k X.A) : Cmp2 X .NotEq kNex := ⟨_, OpR.or op_ne (op_neD (u64 hr)), con_or2 (con_E ok_neS) (con_E ok_ne)⟩
end
end T3
namespace T3
open PySem PySem.Spec PyProof.Rows L2
def eEqx (fa fb : EE) : EE := eThen (eTwo fa fb) kEqx
def eNex (fa fb : EE) : EE := eThen (eTwo fa fb) kNex
@[simp] theorem z_eqx (env : Sl) (fa fb : EE) : eEqx fa fb env = eThen (eCons fa (eCons fb eNil)) kEqx env := rfl
@[simp] theorem z_nex (env : Sl) (fa fb : EE) : eNex fa fb env = eThen (eCons fa (eCons fb eNil)) kNex env := rfl
theorem fn_okG {P : Program} {w : World} {K : PySem.W.Frag} {mg : Str → Option Value} {base : Heap} {x : Str} {st : Stmt} {f : Addr} {fd : FuncData} {N ps : List Str} {k n : Nat} {b : SS} (Fn : Fun K x x st f fd) (Sc : FnScope N ps (defScope st)) (hn : n = ps.length)
    (hb : ∀ (cdv : Value) (A : Around) (out : List Env) (s : Shared) (H : Hp) (E : XK), Room k (A.deeper (envOfC x (defScope st) s.heap.objs.size f cdv)) → (A.deeper (envOfC x (defScope st) s.heap.objs.size f cdv)).guards = some [] →
      PSs (cxOf CX0 P w K mg base N x (defScope st) f cdv A out s H E).nox (defBody st) (tS K b)) : FnG P w K mg base (k + 1) f fd ps (spF K (runFn N.length b) n) := by
  obtain ⟨oc, od, kV, doc, pm, an, cdv, ct, osl, rfl, lk, hcd⟩ := Fn.ex
  exact fnG_of lk hcd Sc (spF_len hn) fun A out s H xs Q E rm gd hs => ⟨_, (hb cdv A out s H E rm gd).nox, fn_body hs⟩
end T3

end
section
set_option linter.all false
set_option autoImplicit false
set_option Elab.async false
namespace T3
open PySem PySem.Spec PyProof.Rows L2
/-! ### a text from its end -/
def revS (z : Str) : Str := ⟨z.cps.toList.reverse.toArray⟩
theorem rev_len (z : Str) : (revS z).length = z.length := by
  show (revS z).cps.size = z.cps.size
  simp [revS]
theorem rev_pick (z : Str) : (⟨((Builtin.Str.strSliceIndices none none (-1) z.length).filterMap (z.cps[·]?)).toArray⟩ : Str) = revS z := by
  have h : Builtin.Str.strSliceIndices none none (-1) z.length = (List.range z.cps.size).reverse := by
    show sliceRange ((z.cps.size : Int) - 1) (-1) (-1) = _
    rw [PySem.W.krv_sliceRange, PySem.W.krv_range]
  rw [h, List.filterMap_reverse, PySem.W.krv_all]
  rfl
theorem pe_revS {X : Cx} {e : Expr} {te : TE} {k : Nat} {p1 p2 p3 pos : Pos} (he : PE X e te) : PE X (.Subscript e (.Slice none none (some (.UnaryOp .USub (.Constant (.int 1) k p1) p2)) p3) pos) (fun σ H Q => te σ H fun x H1 => ∃ z : Str, x = .str z ∧ z.length ≤ 1000000 ∧ Q (.str (revS z)) H1) := by
  constructor
  intro pins s σ H Q J h
  refine Subscript_ (thn (he.run pins s σ H _ J h) ?_)
  rintro v s1 ⟨x, H1, J1, rx, z, rfl, hz, q⟩
  obtain ⟨t, rfl⟩ := rx
  have step : PO X (some (.UnaryOp .USub (.Constant (.int 1) k p1) p2)) (tPart (tUn (rU fun i => .int (-i)) (tC (.int 1)))) := po_some (pe_un un_neg pe_int)
  refine wpAny_Slice (thn (po_none.run pins s1 σ H1 (fun a Ha => a = none ∧ Ha = H1) J1 ⟨rfl, rfl⟩) ?_)
  rintro va sa ⟨a, Ha, Ja, pa, ea, eb⟩
  subst ea eb
  refine thn (po_none.run pins sa σ Ha (fun b Hb => b = none ∧ Hb = Ha) Ja ⟨rfl, rfl⟩) ?_
  rintro vb sb ⟨b, Hb, Jb, pb, ec, ed⟩
  subst ec ed
  refine thn (step.run pins sb σ Hb (fun c Hc => c = some (-1) ∧ Hc = Hb) Jb ⟨1, rfl, -1, rfl, rfl, rfl⟩) ?_
  rintro vc sc ⟨c, Hc, Jc, pc, ee, ef⟩
  subst ee ef
  obtain ⟨la, rfl, ga⟩ := IsPart.raw pa
  obtain ⟨lb, rfl, gb⟩ := IsPart.raw pb
  obtain ⟨lc, rfl, gc⟩ := IsPart.raw pc
  have J5 := Jc.kept (h' := sc.heap.push { cls := .type "slice", data := .fields #[partValue la, partValue lb, partValue lc] }) (t' := sc.toks) fun b ob q => Heap.get?_push_of_some _ q
  show wpAny (model X.prog X.w) X.A (subscriptTail e (.Slice none none (some (.UnaryOp .USub (.Constant (.int 1) k p1) p2)) p3) (.str z t) (.ref sc.heap.objs.size)) (EP X pins σ Q) X.xe { sc with heap := sc.heap.push { cls := .type "slice", data := .fields #[partValue la, partValue lb, partValue lc] } }
  refine tail_any (ops := [.str z t, .ref sc.heap.objs.size]) (typeIs_str _ z t) F.slot_str_getitem.lookup ?_ (by with_unfolding_all rfl)
  have ea : la = none := by cases la with | none => rfl | some _ => cases ga
  have eb : lb = none := by cases lb with | none => rfl | some _ => cases gb
  obtain ⟨tc, ec⟩ : ∃ tc, lc = some (-1, tc) := by
    cases lc with
    | none => cases gc
    | some y =>
      obtain ⟨y1, y2⟩ := y
      cases gc
      exact ⟨y2, rfl⟩
  subst ea eb ec
  refine wpAny_getItem_str_slice (l := none) (u := none) (st := some (-1, tc)) ⟨_, Heap.get?_push_size _ rfl, rfl, rfl⟩ rfl ?_
  show Made.post (if ((-1 : Int) == 1 && (Builtin.Str.strSliceIndices none none (-1) z.length).length == z.length) = true then Made.val (.str z t) else Made.str ⟨((Builtin.Str.strSliceIndices none none (-1) z.length).filterMap (z.cps[·]?)).toArray⟩) (EP X pins σ Q) _
  rw [if_neg (by simp), rev_pick]
  exact ⟨by rw [rev_len]; exact Nat.le_of_lt (small hz), .str _, _, J5.tok _, ⟨_, rfl⟩, q⟩
def eRevS (f : EE) : EE := fun env => match f env with
  | some (.pd (.str z), e) => if z.length ≤ 1000000 then some (.pd (.str (revS z)), e) else none
  | _ => none
theorem e_revS {X : Cx} {e : Expr} {f : EE} {k : Nat} {p1 p2 p3 pos : Pos} (he : PE X e (tE X.K f)) : PE X (.Subscript e (.Slice none none (some (.UnaryOp .USub (.Constant (.int 1) k p1) p2)) p3) pos) (tE X.K (eRevS f)) := PE.imp (pe_revS he) fun σ H Q t => by
  obtain ⟨B, env, d, env', en, ev, q⟩ := t
  unfold eRevS at ev
  split at ev
  · rename_i z e1 h1
    split at ev
    · rename_i hz
      cases ev
      refine ⟨B, env, _, _, en, h1, fun B1 H1 v a1 r1 => ?_⟩
      have r1 : Rp X.K B1 H1 v (.str z) := r1
      cases r1
      exact ⟨z, rfl, hz, q _ _ _ a1 (.str _)⟩
    · cases ev
  · cases ev
end T3

end
section
set_option linter.all false
set_option autoImplicit false
set_option Elab.async false
namespace T3
open PySem PySem.Spec PyProof.Rows L2
/-! ### texts joined, a text's place in another -/
def strs? : List PyData → Option (List Str)
  | [] => some []
  | .str s :: xs => match strs? xs with
    | none => none
    | some ys => some (s :: ys)
  | _ => none
theorem strs_map : ∀ {xs : List PyData} {ys : List Str}, strs? xs = some ys → xs = ys.map .str
  | [], ys, h => by cases h; rfl
  | .str s :: xs, ys, h => by
    unfold strs? at h
    split at h
    · cases h
    · rename_i zs hz
      cases h
      rw [strs_map hz]
      rfl
  | .int _ :: _, _, h => by cases h
  | .bool _ :: _, _, h => by cases h
  | .none :: _, _, h => by cases h
  | .list _ :: _, _, h => by cases h
  | .tuple _ :: _, _, h => by cases h
  | .dict _ :: _, _, h => by cases h
def JoOk (a : Str) (ys : List Str) : Prop := (ys.map (·.length)).sum + ys.length * a.length ≤ 16777216
noncomputable instance (a : Str) (ys : List Str) : Decidable (JoOk a ys) := Classical.propDecidable _
noncomputable def oJoin : List PyData → Option PyData
  | [.str a, .list xs] => match strs? xs with
    | some ys => if JoOk a ys then some (.str (Txt.join a ys)) else none
    | none => none
  | _ => none
theorem c_join {K : PySem.W.Frag} : Con K (kE oJoin) (lm fun x xs H Q => ∃ a p, ∃ ys : List Str, x = .str a ∧ xs = [.ref p] ∧ (SqL K H p (ys.map V.str) ∨ SqT K H p (ys.map V.str)) ∧
    (ys.map (·.length)).sum + ys.length * a.length ≤ 16777216 ∧ Q (.str (Txt.join a ys)) H) := con_E <| by
  intro B H vs xs z Q cn ho q x us e
  unfold oJoin at ho
  split at ho
  · rename_i a zs
    split at ho
    · rename_i ys hy
      split at ho
      · rename_i hj
        cases ho
        obtain ⟨v, w, e2, c1, c2⟩ := cn.two
        rw [e] at e2
        cases e2
        have e1 := c1.str
        subst e1
        obtain ⟨p, ws, rfl, h1, h2⟩ := c2.list
        rw [strs_map hy] at h2
        have := h2.strs
        subst this
        exact ⟨a, p, ys, rfl, rfl, .inl h1, hj, q _ (.str _)⟩
      · cases ho
    · cases ho
  · cases ho
def oSix : List PyData → Option PyData
  | [.str a, .str b] => match Builtin.Str.occurrences a b 0 a.length 1 with
    | i :: _ => some (.int (i : Nat))
    | [] => none
  | _ => none
theorem c_six {K : PySem.W.Frag} : Con K (kE oSix) (lm fun x xs H Q => ∃ a b i rest, x = .str a ∧ xs = [.str b] ∧ Builtin.Str.occurrences a b 0 a.length 1 = i :: rest ∧ Q (.int (i : Nat)) H) := con_E <| by
  intro B H vs xs z Q cn ho q x us e
  unfold oSix at ho
  split at ho
  · rename_i a b
    split at ho
    · rename_i i rest hi
      cases ho
      obtain ⟨v, w, e2, c1, c2⟩ := cn.two
      rw [e] at e2
      cases e2
      have e1 := c1.str
      have e3 := c2.str
      subst e1 e3
      exact ⟨a, b, i, rest, rfl, rfl, hi, q _ (.int _)⟩
    · cases ho
  · cases ho
section
variable {X : Cx} {o e : Expr} {fo : EE} {fa : EA} {apos cpos : Pos}
theorem m_join (ho : PE X o (tE X.K fo)) (ha : PA X [e] (tA X.K fa)) (hbase : attributeBase o "join" X.env (eval o X.env) = eval o X.env := by rfl)
    (hfew : ((backTo cpos (starEach [e] X.env)).all (fun x => !x.1) && (backToKw cpos (keywordEach [] X.env)).all (fun x => x.1.isSome)
      && decide (([e] : List Expr).length + ([] : List Keyword).length + (if ([] : List Keyword).isEmpty then 0 else 1) < 30)) = true := by rfl)
    (hline : (apos.endLine == cpos.line) = true := by rfl) (hs : starEach [e] X.env = (false, eval e X.env) :: starEach [] X.env := by rfl) (hplain : (backTo cpos (starEach [] X.env)).any (·.1) = false := by rfl) :
    PE X (.Call (.Attribute o "join" apos) [e] [] cpos) (tE X.K (eBM isS fo fa (kE oJoin))) :=
  PE.imp (pe_bm PySem.F.plainAttrs_str PySem.F.slot_str_join PySem.F.type_str_join mt_join ho ha hbase hfew hline hs hplain) fun _ _ _ t => rd_bm ty_S c_join t
theorem m_six (ho : PE X o (tE X.K fo)) (ha : PA X [e] (tA X.K fa)) (hbase : attributeBase o "index" X.env (eval o X.env) = eval o X.env := by rfl)
    (hfew : ((backTo cpos (starEach [e] X.env)).all (fun x => !x.1) && (backToKw cpos (keywordEach [] X.env)).all (fun x => x.1.isSome)
      && decide (([e] : List Expr).length + ([] : List Keyword).length + (if ([] : List Keyword).isEmpty then 0 else 1) < 30)) = true := by rfl)
    (hline : (apos.endLine == cpos.line) = true := by rfl) (hs : starEach [e] X.env = (false, eval e X.env) :: starEach [] X.env := by rfl) (hplain : (backTo cpos (starEach [] X.env)).any (·.1) = false := by rfl) :
    PE X (.Call (.Attribute o "index" apos) [e] [] cpos) (tE X.K (eBM isS fo fa (kE oSix))) :=
  PE.imp (pe_bm PySem.F.plainAttrs_str PySem.F.slot_str_index PySem.F.type_str_index mt_sindex ho ha hbase hfew hline hs hplain) fun _ _ _ t => rd_bm ty_S c_six t
end
end T3

end
section
set_option linter.all false
set_option autoImplicit false
set_option Elab.async false
namespace T3
open PySem L2

/-! ### dicts whose keys are tuples -/
mutual
def nk? : PyData → Option NestedKey
  | .none => some .none
  | .int i => some (.num i)
  | .tuple xs => match nks? xs with
    | some ks => some (.tup ks)
    | none => none
  | .bool _ => none
  | .str _ => none
  | .list _ => none
  | .dict _ => none
def nks? : List PyData → Option (List NestedKey)
  | [] => some []
  | x :: xs => match nk? x with
    | some k => match nks? xs with
      | some ks => some (k :: ks)
      | none => none
    | none => none
end
mutual
theorem nk_ok : ∀ (x : PyData) (k : NestedKey), nk? x = some k → k.data = x ∧ ∀ w w', NestedKey.hash w k = NestedKey.hash w' k
  | .none, k, h => by simp only [nk?, Option.some.injEq] at h; subst h; exact ⟨by simp only [NestedKey.data], fun _ _ => by simp only [NestedKey.hash]⟩
  | .int i, k, h => by simp only [nk?, Option.some.injEq] at h; subst h; exact ⟨by simp only [NestedKey.data], fun _ _ => by simp only [NestedKey.hash]⟩
  | .tuple xs, k, h => by
    rw [nk?] at h
    cases e : nks? xs with
    | none => rw [e] at h; cases h
    | some ks =>
      rw [e] at h
      cases h
      obtain ⟨h1, h2⟩ := nks_ok xs ks e
      exact ⟨by rw [NestedKey.data, h1], fun w w' => by rw [NestedKey.hash, NestedKey.hash, h2 w w']⟩
  | .bool _, k, h => by simp [nk?] at h
  | .str _, k, h => by simp [nk?] at h
  | .list _, k, h => by simp [nk?] at h
  | .dict _, k, h => by simp [nk?] at h
theorem nks_ok : ∀ (xs : List PyData) (ks : List NestedKey), nks? xs = some ks → NestedKey.datas ks = xs ∧ ∀ w w', NestedKey.hashes w ks = NestedKey.hashes w' ks
  | [], ks, h => by simp only [nks?, Option.some.injEq] at h; subst h; exact ⟨by simp only [NestedKey.datas], fun _ _ => by simp only [NestedKey.hashes]⟩
  | x :: xs, ks, h => by
    rw [nks?] at h
    cases e : nk? x with
    | none => rw [e] at h; cases h
    | some k =>
      cases e2 : nks? xs with
      | none => rw [e, e2] at h; cases h
      | some ks' =>
        rw [e, e2] at h
        cases h
        obtain ⟨h1, h2⟩ := nk_ok x k e
        obtain ⟨h3, h4⟩ := nks_ok xs ks' e2
        exact ⟨by rw [NestedKey.datas, h1, h3], fun w w' => by rw [NestedKey.hashes, NestedKey.hashes, h2 w w', h4 w w']⟩
end
def tk? (x : PyData) : Option NestedKey := match nk? x with
  | some (.tup ks) => if (NestedKey.tup ks).depth ≤ 8 then some (.tup ks) else none
  | _ => none
theorem tk_ok {x : PyData} {k : NestedKey} (h : tk? x = some k) : NkOk k ∧ k.data = x := by
  unfold tk? at h
  split at h
  · rename_i ks e
    split at h
    · rename_i hd
      cases h
      obtain ⟨h1, h2⟩ := nk_ok _ _ e
      exact ⟨⟨hd, h2, ks, rfl⟩, h1⟩
    · cases h
  · cases h

def valN (kvs : List (NestedKey × PyData)) (k : NestedKey) : Option PyData := (kvs.find? fun q => decide (q.1 = k)).map (·.2)
def putN (kvs : List (NestedKey × PyData)) (k : NestedKey) (x : PyData) : List (NestedKey × PyData) :=
  if (valN kvs k).isSome = true then kvs.map (fun q => if q.1 = k then (q.1, x) else q) else kvs ++ [(k, x)]

def DnAt (K : PySem.W.Frag) (B : Mset) (H : Hp) (a : Addr) (kvs : List (NestedKey × PyData)) : Prop :=
  (kvs = [] ∧ H a = some (.dK [])) ∨ ∃ es, H a = some (DnO a es) ∧ DnR K B H es kvs

def KnE (K : PySem.W.Frag) (B : Mset) (H : Hp) (q : NestedKey × PyData) (x : NestedKey × Addr × Value) : Prop :=
  x.1 = q.1 ∧ NkOk q.1 ∧ Rp K B H (.ref x.2.1) q.1.data ∧ ∃ v, RelV v x.2.2 ∧ Rp K B H v q.2
abbrev Kn (K : PySem.W.Frag) (B : Mset) (H : Hp) : List (NestedKey × PyData) → List (NestedKey × Addr × Value) → Prop := Paired (KnE K B H)

section
variable {K : PySem.W.Frag} {B : Mset} {H : Hp}
theorem Kn.val {k : NestedKey} : ∀ {kvs : List (NestedKey × PyData)} {xs : List (NestedKey × Addr × Value)}, Kn K B H kvs xs → (∃ p v z, atKey xs k = some p ∧ valN kvs k = some z ∧ RelV v p.2 ∧ Rp K B H v z) ∨ (atKey xs k = none ∧ valN kvs k = none)
  | _, _, .nil => .inr ⟨rfl, rfl⟩
  | _, _, .cons (a := q) (b := x) r t => by
    obtain ⟨e1, _, _, v, rv, rp⟩ := r
    by_cases e : q.1 = k
    · have e' : x.1 = k := by rw [e1]; exact e
      exact .inl ⟨x.2, v, q.2, by simp [atKey, e'], by simp [valN, e], rv, rp⟩
    · have e' : ¬ x.1 = k := by rw [e1]; exact e
      rcases Kn.val (k := k) t with ⟨p, v, z, h1, h2, h3⟩ | ⟨h1, h2⟩
      · exact .inl ⟨p, v, z, by simpa [atKey, e'] using h1, by simpa [valN, e] using h2, h3⟩
      · exact .inr ⟨by simpa [atKey, e'] using h1, by simpa [valN, e] using h2⟩
theorem Kn.map {k : NestedKey} {v : V} {u : Value} {z : PyData} (rv : RelV v u) (rp : Rp K B H v z) : ∀ {kvs : List (NestedKey × PyData)} {xs : List (NestedKey × Addr × Value)}, Kn K B H kvs xs → Kn K B H (kvs.map fun q => if q.1 = k then (q.1, z) else q) (xs.map (putAt k u))
  | _, _, .nil => .nil
  | _, _, .cons (a := q) (b := x) r t => by
    refine .cons ?_ (Kn.map rv rp t)
    obtain ⟨e1, e2, e3, e4⟩ := r
    by_cases e : q.1 = k
    · have e' : x.1 = k := by rw [e1]; exact e
      unfold putAt
      dsimp only
      rw [if_pos e, if_pos e']
      exact ⟨e1, e2, e3, v, rv, rp⟩
    · have e' : ¬ x.1 = k := by rw [e1]; exact e
      unfold putAt
      dsimp only
      rw [if_neg e, if_neg e']
      exact ⟨e1, e2, e3, e4⟩
theorem Kn.snoc {q : NestedKey × PyData} {x : NestedKey × Addr × Value} (r : KnE K B H q x) : ∀ {kvs : List (NestedKey × PyData)} {xs : List (NestedKey × Addr × Value)}, Kn K B H kvs xs → Kn K B H (kvs ++ [q]) (xs ++ [x])
  | _, _, .nil => .cons r .nil
  | _, _, .cons h t => .cons h (Kn.snoc r t)
theorem Kn.put {k : NestedKey} {b : Addr} {v : V} {u : Value} {z : PyData} {kvs : List (NestedKey × PyData)} {xs : List (NestedKey × Addr × Value)} (h : Kn K B H kvs xs) (hk : NkOk k) (rk : Rp K B H (.ref b) k.data) (rv : RelV v u) (rp : Rp K B H v z) : Kn K B H (putN kvs k z) (storedH xs k b u) := by
  unfold putN storedH
  rcases h.val (k := k) with ⟨p, v', z', h1, h2, _⟩ | ⟨h1, h2⟩
  · rw [h1, h2]
    exact h.map rv rp
  · rw [h1, h2]
    exact h.snoc ⟨rfl, hk, rk, v, rv, rp⟩
theorem Kn.dn {P : Program} {w : World} : ∀ {kvs : List (NestedKey × PyData)} {xs : List (NestedKey × Addr × Value)}, Kn K B H kvs xs → Paired (DnE K B H) (xs.map (entryOfKey (nestedKind P w))) kvs
  | _, _, .nil => .nil
  | _, _, .cons (a := q) (b := x) r t => by
    obtain ⟨e1, e2, e3, e4⟩ := r
    refine .cons ⟨e2, fun w' => ?_, ⟨x.2.1, rfl, e3⟩, e4⟩ (Kn.dn t)
    show _ = NestedKey.hash w x.1
    rw [e1]
    exact e2.2.1 w' w
theorem Kn.of {P : Program} {w : World} : ∀ {es : List DictEntry} {kvs : List (NestedKey × PyData)}, Paired (DnE K B H) es kvs → ∃ xs, Kn K B H kvs xs ∧ es = xs.map (entryOfKey (nestedKind P w))
  | _, _, .nil => ⟨[], .nil, rfl⟩
  | _, _, .cons (a := e) (b := q) r t => by
    obtain ⟨xs, h1, h2⟩ := Kn.of (P := P) (w := w) t
    obtain ⟨e1, e2, ⟨b, e3, e4⟩, e5⟩ := r
    refine ⟨(q.1, b, e.val) :: xs, .cons ⟨rfl, e1, e4, e5⟩ h1, ?_⟩
    rw [List.map_cons, ← h2]
    congr 1
    show e = ⟨NestedKey.hash w q.1, .ref b, e.val⟩
    rw [e2 w, ← e3]
theorem Kn.len {kvs : List (NestedKey × PyData)} {xs : List (NestedKey × Addr × Value)} (h : Kn K B H kvs xs) : kvs.length = xs.length := Paired.length h
theorem Kn.keys : ∀ {kvs : List (NestedKey × PyData)} {xs : List (NestedKey × Addr × Value)}, Kn K B H kvs xs → xs.map (·.1) = kvs.map (·.1)
  | _, _, .nil => rfl
  | _, _, .cons r t => by rw [List.map_cons, List.map_cons, r.1, Kn.keys t]
end

mutual
theorem nk_is {P : Program} {w : World} {K : PySem.W.Frag} {B : Mset} {H : Hp} {h : Heap} (hok : HOk P w H h) (KX : K.In h) : ∀ (k : NestedKey) (v : V) (u : Value), Rp K B H v k.data → RelV v u → NestedIs h k u
  | .none, v, u, r, q => by
    rw [NestedKey.data] at r
    cases r
    cases (show u = Value.none from q)
    exact .none
  | .num i, v, u, r, q => by
    rw [NestedKey.data] at r
    cases r
    obtain ⟨t, rfl⟩ := (show ∃ t, u = Value.int i t from q)
    exact .int i t
  | .text x, v, u, r, q => by
    rw [NestedKey.data] at r
    cases r
    obtain ⟨t, rfl⟩ := (show ∃ t, u = Value.str x t from q)
    exact .text x t
  | .tup ks, v, u, r, q => by
    rw [NestedKey.data] at r
    cases r with
    | @tup a xs ds h1 h2 =>
      cases (show u = Value.ref a from q)
      obtain ⟨its, o, n, rv, ho, hc, hd⟩ := sqT_at hok KX h1
      exact .tup ho hc hd (nks_is hok KX ks xs its h2 rv)
theorem nks_is {P : Program} {w : World} {K : PySem.W.Frag} {B : Mset} {H : Hp} {h : Heap} (hok : HOk P w H h) (KX : K.In h) : ∀ (ks : List NestedKey) (vs : List V) (us : List Value), RpA K B H vs (NestedKey.datas ks) → Vals vs us → NestedAll h ks us
  | [], vs, us, r, q => by
    rw [NestedKey.datas] at r
    cases r
    cases q
    exact .nil
  | k :: ks, vs, us, r, q => by
    rw [NestedKey.datas] at r
    cases r with
    | cons r1 r2 =>
      cases q with
      | cons q1 q2 => exact .cons (nk_is hok KX k _ _ r1 q1) (nks_is hok KX ks _ _ r2 q2)
end

section
variable {X : Cx} {pins : List (Addr × Obj)} {σ : St} {H : Hp} {s : Shared} {a : Addr} {A : Around} {E : Value → Shared → Prop} {B : Mset} {kvs : List (NestedKey × PyData)} {k : NestedKey}
theorem room9 (hu : A.units + 9 < cLine) : (nestedKind X.prog X.w).room A.in1 := by
  show A.units + 1 + 8 < cLine
  omega
theorem nk_key (I : Inv X pins σ H s) (hk : NkOk k) {b : Addr} (r : Rp X.K B H (.ref b) k.data) : (nestedKind X.prog X.w).is s.heap k b := ⟨nk_is I.hok I.kIn k _ _ r rfl, hk.1⟩
theorem nk_ref (hk : NkOk k) {y : V} {K : PySem.W.Frag} (r : Rp K B H y k.data) : ∃ b, y = .ref b := by
  obtain ⟨_, _, ks, rfl⟩ := hk
  rw [NestedKey.data] at r
  cases r
  exact ⟨_, rfl⟩
/-- a dict of tuple keys, opened -/
theorem dn_open (I : Inv X pins σ H s) (d : DnAt X.K B H a kvs) : (a == sysModules) = false ∧ kvs.length ≤ sizeLine ∧ (kvs.map (·.1)).Nodup ∧ ∃ xs, s.heap.DictOfH (nestedKind X.prog X.w) a xs ∧ Kn X.K B H kvs xs := by
  rcases d with ⟨rfl, d⟩ | ⟨es, d, r⟩
  · obtain ⟨z, y, vs, r, o, es, ep, e1, e2, e3, e4, e5, e6⟩ := dk_of I.hok d
    refine ⟨y, Nat.zero_le _, List.nodup_nil, [], ⟨o, es, ep, e1, e2, e3, ?_, fun _ h => by simp at h, List.nodup_nil⟩, .nil⟩
    cases r
    cases h : es.toList with
    | nil => rfl
    | cons a b => rw [h] at e5; cases e5
  · obtain ⟨⟨y, z, o, ep, e1, e2, e3⟩, _⟩ := I.hok a _ d
    obtain ⟨xs, x1, x2⟩ := Kn.of (P := X.prog) (w := X.w) r.ent
    refine ⟨y, by rw [← Paired.length r.ent]; exact z, r.nd, xs, ⟨o, es.toArray, ep, e1, e2, e3, by simpa using x2, ?_, by rw [x1.keys]; exact r.nd⟩, x1⟩
    intro x hx
    have all : ∀ {kvs : List (NestedKey × PyData)} {xs : List (NestedKey × Addr × Value)}, Kn X.K B H kvs xs → ∀ x ∈ xs, NkOk x.1 ∧ Rp X.K B H (.ref x.2.1) x.1.data := by
      intro kvs xs h
      induction h with
      | nil => intro x hx; simp at hx
      | cons r t ih =>
        intro x hx
        rcases List.mem_cons.mp hx with rfl | hx
        · obtain ⟨e1, e2, e3, _⟩ := r
          rw [e1]; exact ⟨e2, e3⟩
        · exact ih x hx
    obtain ⟨h1, h2⟩ := all x1 x hx
    exact nk_key I h1 h2
end

/-! ### what a dict says of a key -/
def DGt (K : PySem.W.Frag) (B : Mset) (H : Hp) (a : Addr) (y : V) (o : Option PyData) : Prop :=
  (∃ kvs ws k, H a = some (.dK ws) ∧ KvR K B H ws kvs ∧ y = kV k ∧ o = valD kvs k) ∨ ∃ kvs k, DnAt K B H a kvs ∧ NkOk k ∧ Rp K B H y k.data ∧ o = valN kvs k
section
variable {X : Cx} {pins : List (Addr × Obj)} {σ : St} {H : Hp} {s : Shared} {a : Addr} {A : Around} {E : Value → Shared → Prop} {B : Mset} {y : V} {u : Value} {o : Option PyData}
theorem dg_type (I : Inv X pins σ H s) (g : DGt X.K B H a y o) : s.TypeIs (.ref a) "dict" := by
  rcases g with ⟨kvs, ws, k, e, _⟩ | ⟨kvs, k, e, _⟩
  · obtain ⟨_, _, vs, _, dd⟩ := dk_of I.hok e
    exact dd.typeIs
  · obtain ⟨_, _, _, xs, dd, _⟩ := dn_open I e
    exact dd.typeIs
theorem dg_getItem {z : PyData} {Q : Value → Shared → Prop} (hu : A.units + 9 < cLine) (I : Inv X pins σ H s) (g : DGt X.K B H a y (some z)) (ry : RelV y u)
    (h : ∀ w' s' v, Inv X pins σ H s' → RelV v w' → Rp X.K B H v z → Q w' s') : wpAny (model X.prog X.w) A (getItem (.ref a) u) Q E s := by
  rcases g with ⟨kvs, ws, k, e, r, rfl, l⟩ | ⟨kvs, k, e, hk, rk, l⟩
  · rcases r.val (k := k) with ⟨v, x, h1, h2, h3⟩ | ⟨h1, h2⟩
    · rw [h2] at l; cases l
      exact d_getItem (by omega) I (.inl ⟨ws, k, .inl e, rfl, h1.symm⟩) ry fun w' s' I' rv => h w' s' v I' rv h3
    · rw [h2] at l; cases l
  · obtain ⟨b, rfl⟩ := nk_ref hk rk
    cases (show u = Value.ref b from ry)
    obtain ⟨_, _, _, xs, dd, kn⟩ := dn_open I e
    rcases kn.val (k := k) with ⟨p, v, z', h1, h2, h3, h4⟩ | ⟨h1, h2⟩
    · rw [h2] at l; cases l
      exact wpAny_getItem_heap (room9 hu) (nk_key I hk rk) dd h1 (h _ _ v (I.tok _) h3 h4)
    · rw [h2] at l; cases l
theorem dg_in {Q : Value → Shared → Prop} (hu : A.units + 9 < cLine) (I : Inv X pins σ H s) (g : DGt X.K B H a y o) (ry : RelV y u) (h : ∀ s', Inv X pins σ H s' → Q (.bool o.isSome) s') :
    wpAny (model X.prog X.w) A (compareOp .In u (.ref a)) Q E s := by
  rcases g with ⟨kvs, ws, k, e, r, rfl, l⟩ | ⟨kvs, k, e, hk, rk, l⟩
  · refine d_in (o := valV ws k) (by omega) I (.inl ⟨ws, k, .inl e, rfl, rfl⟩) ry fun s' I' => ?_
    have e : (valV ws k).isSome = o.isSome := by
      rcases r.val (k := k) with ⟨v, x, z1, z2, _⟩ | ⟨z1, z2⟩
      · rw [l, z1, z2]; rfl
      · rw [l, z1, z2]; rfl
    rw [e]
    exact h s' I'
  · obtain ⟨b, rfl⟩ := nk_ref hk rk
    cases (show u = Value.ref b from ry)
    obtain ⟨ns, _, _, xs, dd, kn⟩ := dn_open I e
    refine wpAny_in_heap (room9 hu) (nk_key I hk rk) ns dd ?_
    have e : (atKey xs k).isSome = o.isSome := by
      rcases kn.val (k := k) with ⟨p, v, z', h1, h2, _⟩ | ⟨h1, h2⟩
      · rw [l, h1, h2]; rfl
      · rw [l, h1, h2]; rfl
    rw [e]
    exact h _ (I.tok _)
theorem dg_notIn {Q : Value → Shared → Prop} (hu : A.units + 9 < cLine) (I : Inv X pins σ H s) (g : DGt X.K B H a y o) (ry : RelV y u) (h : ∀ s', Inv X pins σ H s' → Q (.bool (!o.isSome)) s') :
    wpAny (model X.prog X.w) A (compareOp .NotIn u (.ref a)) Q E s := by
  rcases g with ⟨kvs, ws, k, e, r, rfl, l⟩ | ⟨kvs, k, e, hk, rk, l⟩
  · refine d_notIn (o := valV ws k) (by omega) I (.inl ⟨ws, k, .inl e, rfl, rfl⟩) ry fun s' I' => ?_
    have e : (valV ws k).isSome = o.isSome := by
      rcases r.val (k := k) with ⟨v, x, z1, z2, _⟩ | ⟨z1, z2⟩
      · rw [l, z1, z2]; rfl
      · rw [l, z1, z2]; rfl
    rw [e]
    exact h s' I'
  · obtain ⟨b, rfl⟩ := nk_ref hk rk
    cases (show u = Value.ref b from ry)
    obtain ⟨ns, _, _, xs, dd, kn⟩ := dn_open I e
    refine PyProof.Rows.wpAny_notIn_heap (room9 hu) (nk_key I hk rk) ns dd ?_
    have e : (atKey xs k).isSome = o.isSome := by
      rcases kn.val (k := k) with ⟨p, v, z', h1, h2, _⟩ | ⟨h1, h2⟩
      · rw [l, h1, h2]; rfl
      · rw [l, h1, h2]; rfl
    rw [e]
    exact h _ (I.tok _)
end
end T3

end
section
set_option linter.all false
set_option autoImplicit false
set_option Elab.async false
namespace T3
open PySem L2

/-! ### a slot's dict: what it says of a key, what becomes of it -/
def pdOf : R → Option PyData
  | .pd x => some x
  | .nt xs => some (.tuple xs)
  | .tmp _ => none
  | .var _ => none
theorem pdOf_rp {K : PySem.W.Frag} {H₀ : Hp} {B : Mset} {H : Hp} {σ : St} {env : Sl} {v : V} {d : R} {x : PyData} (h : RR K H₀ B H σ env v d) (e : pdOf d = some x) : Rp K B H v x := by
  cases d with
  | pd y => cases e; exact h
  | nt y => cases e; obtain ⟨a, rfl, h⟩ := h; exact h.rp
  | tmp t => cases e
  | var i => cases e
def cGet : Ct → PyData → Option (Option PyData)
  | .dk kvs, y => match key? y with
    | some k => some (valD kvs k)
    | none => match tk? y with
      | some _ => match kvs with
        | [] => some none
        | _ :: _ => none
      | none => none
  | .dn kvs, y => match tk? y with
    | some k => some (valN kvs k)
    | none => none
  | .ls _, _ => none
theorem cGet_ok {K : PySem.W.Frag} {B : Mset} {H : Hp} {a : Addr} {c : Ct} {v : V} {y : PyData} {o : Option PyData} (hc : CtR K B H a c) (r : Rp K B H v y) (e : cGet c y = some o) : DGt K B H a v o := by
  cases c with
  | ls xs => cases e
  | dk kvs =>
    obtain ⟨ws, h1, h2⟩ := hc
    dsimp only [cGet] at e
    split at e
    · rename_i k hk
      cases e
      exact .inl ⟨kvs, ws, k, h1, h2, key_v r hk, rfl⟩
    · split at e
      · rename_i k hk
        split at e
        · cases e
          obtain ⟨k1, k2⟩ := tk_ok hk
          refine .inr ⟨[], k, .inl ⟨rfl, ?_⟩, k1, by rw [k2]; exact r, rfl⟩
          cases h2
          exact h1
        · cases e
      · cases e
  | dn kvs =>
    obtain ⟨es, h1, h2⟩ := hc
    dsimp only [cGet] at e
    split at e
    · rename_i k hk
      cases e
      obtain ⟨k1, k2⟩ := tk_ok hk
      exact .inr ⟨kvs, k, .inr ⟨es, h1, h2⟩, k1, by rw [k2]; exact r, rfl⟩
    · cases e
def dGet (env : Sl) (j : Nat) (y : PyData) : Option (Option PyData) := match env[j]? with
  | some (some (.mu _ c)) => cGet c y
  | _ => none
theorem dGet_ok {K : PySem.W.Frag} {B : Mset} {H : Hp} {σ : St} {env : Sl} {j : Nat} {w v : V} {y : PyData} {o : Option PyData} (en : EnvR K B H σ env) (hx : σ[j]? = some (some w)) (r : Rp K B H v y) (e : dGet env j y = some o) : ∃ a, w = .ref a ∧ DGt K B H a v o := by
  unfold dGet at e
  split at e
  · rename_i m c hm
    obtain ⟨p, g1, g2, g3⟩ := en.mu j _ _ hm
    rw [hx] at g1
    cases g1
    exact ⟨p, rfl, cGet_ok g3 r e⟩
  · cases e
/-- d[k] -/
def eDg (fd fk : EE) : EE := fun env => match fd env with
  | some (.var j, e1) => match fk e1 with
    | some (d, e2) => match pdOf d with
      | some y => match dGet e2 j y with
        | some (some z) => some (.pd z, e2)
        | _ => none
      | none => none
    | none => none
  | _ => none
def tDg (K : PySem.W.Frag) (td ty : TE) : TE := fun σ H Q => td σ H fun x H1 => ty σ H1 fun y H2 => ∃ B a z, x = .ref a ∧ DGt K B H2 a y (some z) ∧ ∀ v, Rp K B H2 v z → Q v H2
theorem pe_dg {X : Cx} {o i : Expr} {pos : Pos} {td ty : TE} (hu : X.A.units + 9 < cLine) (ho : PE X o td) (hi : PE X i ty) (hs : NoSl i) : PE X (.Subscript o i pos) (tDg X.K td ty) := by
  refine ⟨fun pins s σ H Q I h => ?_⟩
  refine subD_of PySem.F.slot_dict_getitem.lookup hs (thn (ho.run pins s σ H _ I h) fun u s1 ⟨x, H1, I1, rx, q1⟩ => thn (hi.run pins s1 σ H1 _ I1 q1) fun iv s2 ⟨y, H2, I2, ry, B, a, z, ex, g, q2⟩ => ?_)
  subst ex
  obtain rfl : u = Value.ref a := rx
  exact ⟨dg_type I2 g, dg_getItem hu I2 g ry fun w' s3 v I3 rw' rz => ⟨v, H2, I3, rw', q2 v rz⟩⟩
theorem e_dg {X : Cx} {o i : Expr} {pos : Pos} {fd fk : EE} (hu : X.A.units + 9 < cLine) (ho : PE X o (tE X.K fd)) (hi : PE X i (tE X.K fk)) (hs : NoSl i := by intro _ _; rfl) : PE X (.Subscript o i pos) (tE X.K (eDg fd fk)) := PE.imp (pe_dg hu ho hi hs) fun σ H Q t => by
  obtain ⟨B, env, d, env', en, ev, q⟩ := t
  unfold eDg at ev
  split at ev
  · rename_i j e1 h1
    split at ev
    · rename_i d' e2 h2
      split at ev
      · rename_i y hy
        split at ev
        · rename_i z hz
          cases ev
          refine ⟨B, env, _, _, en, h1, fun B1 H1 w a1 r1 => ⟨B1, e1, _, _, a1.en, h2, fun B2 H2 v a2 r2 => ?_⟩⟩
          obtain ⟨a, rfl, g⟩ := dGet_ok a2.en r1.1 (pdOf_rp r2 hy) hz
          exact ⟨B2, a, z, rfl, g, fun v r => q B2 H2 v (a1.trans en a2) r⟩
        · cases ev
      · cases ev
    · cases ev
  · cases ev
/-- k in d, k not in d -/
def eDi (neg : Bool) (fk fd : EE) : EE := fun env => match fk env with
  | some (d, e1) => match pdOf d with
    | some y => match fd e1 with
      | some (.var j, e2) => match dGet e2 j y with
        | some o => some (.pd (.bool (if neg = true then !o.isSome else o.isSome)), e2)
        | none => none
      | _ => none
    | none => none
  | none => none
def tDi (K : PySem.W.Frag) (neg : Bool) (ty td : TE) : TE := fun σ H Q => ty σ H fun y H1 => td σ H1 fun x H2 => ∃ B a o, x = .ref a ∧ DGt K B H2 a y o ∧ Q (.bl (if neg = true then !o.isSome else o.isSome)) H2
theorem pc_di {X : Cx} {i o : Expr} {td ty : TE} (hu : X.A.units + 9 < cLine) (hi : PE X i ty) (ho : PE X o td) : PC X .In i o (tDi X.K false ty td) := by
  refine ⟨fun pins s σ H Q I h => ?_⟩
  refine thn (hi.run pins s σ H _ I h) fun iv s1 ⟨y, H1, I1, ry, q1⟩ => thn (ho.run pins s1 σ H1 _ I1 q1) fun u s2 ⟨x, H2, I2, rx, B, a, ov, ex, g, q2⟩ => ?_
  subst ex
  obtain rfl : u = Value.ref a := rx
  exact dg_in hu I2 g ry fun s3 I3 => ⟨.bl ov.isSome, H2, I3, rfl, q2⟩
theorem pc_dni {X : Cx} {i o : Expr} {td ty : TE} (hu : X.A.units + 9 < cLine) (hi : PE X i ty) (ho : PE X o td) : PC X .NotIn i o (tDi X.K true ty td) := by
  refine ⟨fun pins s σ H Q I h => ?_⟩
  refine thn (hi.run pins s σ H _ I h) fun iv s1 ⟨y, H1, I1, ry, q1⟩ => thn (ho.run pins s1 σ H1 _ I1 q1) fun u s2 ⟨x, H2, I2, rx, B, a, ov, ex, g, q2⟩ => ?_
  subst ex
  obtain rfl : u = Value.ref a := rx
  exact dg_notIn hu I2 g ry fun s3 I3 => ⟨.bl (!ov.isSome), H2, I3, rfl, q2⟩
theorem rd_di {K : PySem.W.Frag} {fk fd : EE} {neg : Bool} {σ : St} {H : Hp} {Q : VK} (t : tE K (eDi neg fk fd) σ H Q) : tDi K neg (tE K fk) (tE K fd) σ H Q := by
  obtain ⟨B, env, d, env', en, ev, q⟩ := t
  unfold eDi at ev
  split at ev
  · rename_i d' e1 h1
    split at ev
    · rename_i y hy
      split at ev
      · rename_i j e2 h2
        split at ev
        · rename_i o ho
          cases ev
          refine ⟨B, env, _, _, en, h1, fun B1 H1 v a1 r1 => ⟨B1, e1, _, _, a1.en, h2, fun B2 H2 w a2 r2 => ?_⟩⟩
          obtain ⟨a, rfl, g⟩ := dGet_ok a2.en r2.1 ((pdOf_rp r1 hy).grow (a2.grow a1.en)) ho
          exact ⟨B2, a, o, rfl, g, q B2 H2 _ (a1.trans en a2) (.bl _)⟩
        · cases ev
      · cases ev
    · cases ev
  · cases ev
section
variable {X : Cx} {i o : Expr} {fk fd : EE} {pos : Pos}
theorem x_di (hu : X.A.units + 9 < cLine) (hi : PE X i (tE X.K fk)) (ho : PE X o (tE X.K fd)) (h1 : behindInMarks .In o = false := by rfl) : PE X (.Compare i [.In] [o] pos) (tE X.K (eDi false fk fd)) := PE.imp (pe_cmp (pc_di hu hi ho) h1) fun σ H Q t => rd_di t
theorem x_dni (hu : X.A.units + 9 < cLine) (hi : PE X i (tE X.K fk)) (ho : PE X o (tE X.K fd)) (h1 : behindInMarks .NotIn o = false := by rfl) : PE X (.Compare i [.NotIn] [o] pos) (tE X.K (eDi true fk fd)) := PE.imp (pe_cmp (pc_dni hu hi ho) h1) fun σ H Q t => rd_di t
theorem y_di (hu : X.A.units + 9 < cLine) (hi : PE X i (tE X.K fk)) (ho : PE X o (tE X.K fd)) (h1 : behindInMarks .In o = false := by rfl) : PT X (.Compare i [.In] [o] pos) (tT X.K (bT (eDi false fk fd))) := b_of (pt_cmp (pc_di hu hi ho) h1) fun σ H Q t => rd_di t
theorem y_dni (hu : X.A.units + 9 < cLine) (hi : PE X i (tE X.K fk)) (ho : PE X o (tE X.K fd)) (h1 : behindInMarks .NotIn o = false := by rfl) : PT X (.Compare i [.NotIn] [o] pos) (tT X.K (bT (eDi true fk fd))) := b_of (pt_cmp (pc_dni hu hi ho) h1) fun σ H Q t => rd_di t
end

/-! ### d[k] = v -/
def cPut : Ct → PyData → PyData → Option Ct
  | .dk kvs, y, x => if kvs.length ≤ 1000000 then match key? y with
    | some k => some (.dk (putD kvs k x))
    | none => match tk? y with
      | some k => match kvs with
        | [] => some (.dn [(k, x)])
        | _ :: _ => none
      | none => none
    else none
  | .dn kvs, y, x => if kvs.length ≤ 1000000 then match tk? y with
    | some k => some (.dn (putN kvs k x))
    | none => none
    else none
  | .ls _, _, _ => none
/-- the store, told of what stands at the address -/
def rSetD (K : PySem.W.Frag) : TSet := fun o i v H Q => ∃ B a x, o = .ref a ∧ Rp K B H v x ∧
  ((∃ kvs ws k, H a = some (.dK ws) ∧ KvR K B H ws kvs ∧ ws.length < sizeLine ∧ i = kV k ∧ Q (upd H a (.dK (putK ws k v)))) ∨
   ∃ kvs k, DnAt K B H a kvs ∧ NkOk k ∧ Rp K B H i k.data ∧ kvs.length < sizeLine ∧ ∀ es, DnR K B H es (putN kvs k x) → Q (upd H a (DnO a es)))
theorem valN_nd {kvs : List (NestedKey × PyData)} {k : NestedKey} (h : valN kvs k = none) : k ∉ kvs.map (·.1) := by
  unfold valN at h
  rw [Option.map_eq_none_iff, List.find?_eq_none] at h
  intro hm
  obtain ⟨q, h1, h2⟩ := List.mem_map.mp hm
  exact h q h1 (by simp [h2])
theorem putN_nd {kvs : List (NestedKey × PyData)} {k : NestedKey} {x : PyData} (h : (kvs.map (·.1)).Nodup) : ((putN kvs k x).map (·.1)).Nodup := by
  unfold putN
  split
  · have e : (kvs.map fun q => if q.1 = k then (q.1, x) else q).map (·.1) = kvs.map (·.1) := by
      rw [List.map_map]
      refine List.map_congr_left fun q _ => ?_
      show (if q.1 = k then (q.1, x) else q).1 = q.1
      split <;> rfl
    rw [e]; exact h
  · rename_i hn
    have hn' : valN kvs k = none := by
      cases e : valN kvs k with
      | none => rfl
      | some z => rw [e] at hn; exact absurd rfl hn
    rw [List.map_append, List.nodup_append]
    refine ⟨h, by simp, fun a ha b hb => ?_⟩
    simp only [List.map_cons, List.map_nil, List.mem_singleton] at hb
    subst hb
    intro e
    subst e
    exact valN_nd hn' ha
theorem putN_len (kvs : List (NestedKey × PyData)) (k : NestedKey) (x : PyData) : (putN kvs k x).length ≤ kvs.length + 1 := by
  unfold putN
  split <;> simp
theorem dn_put {X : Cx} {pins : List (Addr × Obj)} {σ : St} {H : Hp} {s : Shared} {a : Addr} {A : Around} {E : Value → Shared → Prop} {B : Mset} {kvs : List (NestedKey × PyData)} {k : NestedKey} {i v : V} {iv u : Value} {x : PyData} {Q : Unit → Shared → Prop}
    (hu : A.units + 9 < cLine) (I : Inv X pins σ H s) (d : DnAt X.K B H a kvs) (hk : NkOk k) (rk : Rp X.K B H i k.data) (hl : kvs.length < sizeLine) (ri : RelV i iv) (rv : RelV v u) (rp : Rp X.K B H v x)
    (h : ∀ es s', DnR X.K B H es (putN kvs k x) → Inv X pins σ (upd H a (DnO a es)) s' → Q () s') : wpAny (model X.prog X.w) A (setItem (.ref a) iv u) Q E s := by
  obtain ⟨b, rfl⟩ := nk_ref hk rk
  cases (show iv = Value.ref b from ri)
  obtain ⟨ns, _, nd, xs, dd, kn⟩ := dn_open I d
  have mu : Mut (H a) := by
    rcases d with ⟨_, d⟩ | ⟨es, d, _⟩
    · rw [d]; exact True.intro
    · rw [d]; exact True.intro
  refine wpAny_setItem_heap (hsz := by rw [← kn.len]; omega) (room9 hu) (nk_key I hk rk) dd fun h' dd' hs => ?_
  have kn' := kn.put hk rk rv rp
  obtain ⟨q, es, ep, hq, h2, h3, h4, _, h5⟩ := dd'
  refine h ((storedH xs k b u).map (entryOfKey (nestedKind X.prog X.w))) _ ⟨kn'.dn, putN_nd nd⟩ (d_write I mu hs ⟨q, hq⟩ ⟨⟨ns, ?_, q, ep, hq, h2, ?_⟩, ⟨q, hq⟩, fun h1 h2 ⟨z1, z2, o, ep, z3, z4, z5⟩ st => ⟨z1, z2, o, ep, st o z3, z4, z5⟩⟩)
  · rw [List.length_map, ← kn'.len]
    have := putN_len kvs k x
    omega
  · rw [← h4, Array.toArray_toList]; exact h3
theorem set_dict {X : Cx} (hu : X.A.units + 9 < cLine) : PSet X (rSetD X.K) := by
  intro pins s σ H o i v ov iv u Q I ro ri rv h
  obtain ⟨B, a, x, rfl, rp, h⟩ := h
  cases (show ov = Value.ref a from ro)
  rcases h with ⟨kvs, ws, k, h1, h2, h3, rfl, q⟩ | ⟨kvs, k, h1, h2, h3, h4, q⟩
  · exact d_setItem (by omega) I (.inl ⟨ws, k, h1, rfl, h3, rfl⟩) ri rv fun s4 I4 => ⟨_, I4, q⟩
  · exact dn_put hu I h1 h2 h3 h4 ri rv rp fun es s' r I' => ⟨_, I', q es r⟩
def dPut (env : Sl) (j : Nat) (y x : PyData) : Option Sl := match env[j]? with
  | some (some (.mu m c)) => if m = .fro then none else match cPut c y x with
    | some c' => some (env.set j (some (.mu m c')))
    | none => none
  | _ => none
theorem lt_line {n : Nat} (h : n ≤ 1000000) : n < sizeLine := small h
theorem dPut_ok {K : PySem.W.Frag} {B : Mset} {H : Hp} {σ : St} {env env' : Sl} {j : Nat} {w v i : V} {y x : PyData} {Q : Hp → Prop} (en : EnvR K B H σ env) (hx : σ[j]? = some (some w)) (ry : Rp K B H i y) (rx : Rp K B H v x) (e : dPut env j y x = some env')
    (q : ∀ B' H', At K σ B H env B' H' env' → Q H') : rSetD K w i v H Q := by
  unfold dPut at e
  split at e
  · rename_i m c hm
    split at e
    · cases e
    rename_i hf
    split at e
    · rename_i c' hc
      cases e
      obtain ⟨p, g1, g2, g3⟩ := en.mu j _ _ hm
      rw [hx] at g1
      cases g1
      refine ⟨B, p, x, rfl, rx, ?_⟩
      cases c with
      | ls xs => cases hc
      | dk kvs =>
        obtain ⟨ws, g4, g5⟩ := g3
        dsimp only [cPut] at hc
        split at hc
        · rename_i hl
          split at hc
          · rename_i k hk
            cases hc
            refine .inl ⟨kvs, ws, k, g4, g5, by rw [g5.len]; exact lt_line hl, key_v ry hk, ?_⟩
            obtain ⟨gw, aw⟩ := AtS.write (o := .dK (putK ws k v)) (c' := .dk (putD kvs k x)) en hm hf hx (fun o' h' im => by rw [g4] at h'; cases h'; exact im) (fun H' _ h1 g' => ⟨_, h1, (g5.put rx).grow g'⟩)
            exact q _ _ aw
          · split at hc
            · rename_i k hk
              split at hc
              · cases hc
                cases g5
                obtain ⟨k1, k2⟩ := tk_ok hk
                refine .inr ⟨[], k, .inl ⟨rfl, g4⟩, k1, by rw [k2]; exact ry, by simpa using lt_line (n := 0) (by omega), fun es r => ?_⟩
                obtain ⟨gw, aw⟩ := AtS.write (o := DnO p es) (c' := .dn [(k, x)]) en hm hf hx (fun o' h' im => by rw [g4] at h'; cases h'; exact im) (fun H' _ h1 g' => ⟨es, h1, DnR.grow g' r⟩)
                exact q _ _ aw
              · cases hc
            · cases hc
        · cases hc
      | dn kvs =>
        obtain ⟨es, g4, g5⟩ := g3
        dsimp only [cPut] at hc
        split at hc
        · rename_i hl
          split at hc
          · rename_i k hk
            cases hc
            obtain ⟨k1, k2⟩ := tk_ok hk
            refine .inr ⟨kvs, k, .inr ⟨es, g4, g5⟩, k1, by rw [k2]; exact ry, lt_line hl, fun es' r => ?_⟩
            obtain ⟨gw, aw⟩ := AtS.write (o := DnO p es') (c' := .dn (putN kvs k x)) en hm hf hx (fun o' h' im => by rw [g4] at h'; cases h'; exact im) (fun H' _ h1 g' => ⟨es', h1, DnR.grow g' r⟩)
            exact q _ _ aw
          · cases hc
        · cases hc
    · cases e
  · cases e
def gDs (fo fi : EE) : GG := fun x env => match fo env with
  | some (.var j, e1) => match fi e1 with
    | some (d, e2) => match pdOf d with
      | some y => dPut e2 j y x
      | none => none
    | none => none
  | _ => none
theorem rd_gDs {K : PySem.W.Frag} {fo fi : EE} {v : V} {σ : St} {H : Hp} {Q : St → Hp → Prop} (h : tG K (gDs fo fi) v σ H Q) : gSub (tE K fo) (tE K fi) (rSetD K) v σ H Q := by
  obtain ⟨B, env, x, env', en, r, ev, q⟩ := h
  unfold gDs at ev
  split at ev
  · rename_i j e1 h1
    split at ev
    · rename_i d e2 h2
      split at ev
      · rename_i y hy
        refine ⟨B, env, _, _, en, h1, fun B1 H1 o a1 r1 => ⟨B1, e1, _, _, a1.en, h2, fun B2 H2 w a2 r2 => ?_⟩⟩
        have a12 := a1.trans en a2
        exact dPut_ok a2.en r1.1 (pdOf_rp r2 hy) (r.grow (a12.grow en)) ev fun B' H' a => q _ _ _ ((a12.trans en a).s)
      · cases ev
    · cases ev
  · cases ev
theorem g_dsub {X : Cx} {o i : Expr} {pos : Pos} {fo fi : EE} (hu : X.A.units + 9 < cLine) (ho : PE X o (tE X.K fo)) (hi : PE X i (tE X.K fi))
    (ha : ∀ v, assign (.Subscript o i pos) X.env v = (do
      let ov ← holding [v] (eval o X.env)
      let iv ← holding [v, ov] (eval i X.env)
      standAt pos
      holding [v, ov, iv] (setItem ov iv v)
      release [v, ov, iv] []) := by intro _; rfl) : PG X (.Subscript o i pos) (tG X.K (gDs fo fi)) := PG.imp (pg_sub ho hi (set_dict hu) ha) fun _ _ _ _ t => rd_gDs t
theorem u9 {k : Nat} {A : Around} (r : Room k A) : A.units + 9 < cLine := by have := r.un; omega
end T3

end
section
set_option linter.all false
set_option autoImplicit false
set_option Elab.async false
set_option maxRecDepth 100000
set_option maxHeartbeats 2000000
/-! list(zip(one, other)) of two tuples -/
namespace ZL
open PySem
section
variable {P : Program} {w : World} {A : Around} {E : Value → Shared → Prop} {s : Shared} {z TI TO T i1 i2 l1 l2 : Addr} {f : Bool} {oT : Obj} {m n : Nat} {xs ys : Array Value} {x y : Value}
/-- the zip's own tuple is still out: a new one is made -/
theorem heldItem {Q : Value → Shared → Prop} (D : ZipApart z TI TO i1 i2 l1 l2) (hz : IsZipHeld s.heap z TI TO T f) (hT : s.heap.get? T = some oT) (hp : IsPair s.heap TI (.ref i1) (.ref i2))
    (a1 : s.heap.IsTupleIter i1 l1 m) (a2 : s.heap.IsTupleIter i2 l2 n) (b1 : s.heap.IsTuple l1 xs) (b2 : s.heap.IsTuple l2 ys) (ex : xs[m]? = some x) (ey : ys[n]? = some y)
    (q : ∀ h', IsZipHeld h' z TI TO T true → h'.IsTupleIter i1 l1 (m + 1) → h'.IsTupleIter i2 l2 (n + 1) → IsPair h' s.heap.objs.size x y → h'.objs.size = s.heap.objs.size + 1 →
      (∀ c o, c ≠ z → c ≠ i1 → c ≠ i2 → s.heap.get? c = some o → h'.get? c = some o) → Q (.ref s.heap.objs.size) { s with heap := h' }) :
    wpAny (model P w) A (Builtin.«zip.__next__» ⟨[.ref z], []⟩) (fun fin s' => ∃ v, fin = .done (.ret v) ∧ Q v s') E s := by
  show wpAny _ _ (field (.ref z) 2 >>= _) _ _ _; refine wpAny_bind (wpAny_field hz rfl (x := .bool false) rfl ?_)
  show wpAny _ _ (field (.ref z) 3 >>= _) _ _ _; refine wpAny_bind (wpAny_field hz rfl (x := .ref TI) rfl (wpAny_bind (wpAny_seqItems hp rfl ?_)))
  show wpAny _ _ (Builtin.SmallTypes.ownedTupleIsFree (.ref z) >>= _) _ _ _; refine wpAny_bind (wpAny_tupleHeld_zip hz hT fun g1 z1 s1 => ?_)
  simp only [Bool.false_eq_true, if_false]; refine wpAny_bind ?_
  rw [← Array.forIn_toList]; simp only [List.forIn_cons, List.forIn_nil]; refine wpAny_bind (wpAny_bind (wpAny_holding ?_))
  show wpAny _ _ (Builtin.SmallTypes.nextOf (.ref i1) >>= _) _ _ _
  refine wpAny_bind (RZ.nextOf_tuple_item (s := { s with heap := g1 }) (a1.extBut s1.extBut D.i1z) (b1.extBut s1.extBut D.l1z) ex fun g2 c1 s2 => wpAny_pure (wpAny_pure (wpAny_bind (wpAny_bind (wpAny_holding ?_)))))
  show wpAny _ _ (Builtin.SmallTypes.nextOf (.ref i2) >>= _) _ _ _
  refine wpAny_bind (RZ.nextOf_tuple_item (s := { s with heap := g2 }) ((a2.extBut s1.extBut D.i2z).extBut s2.extBut D.i12.symm) ((b2.extBut s1.extBut D.l2z).extBut s2.extBut D.l2i1) ey fun g3 c2 s3 => wpAny_pure (wpAny_pure (wpAny_pure ?_)))
  show wpAny _ _ (newTuple [x, y] >>= _) _ _ _; refine wpAny_bind (wpAny_newTuple (wpAny_pure ⟨_, rfl, ?_⟩))
  have sz : g3.objs.size = s.heap.objs.size := by rw [s3.1, s2.1, s1.1]
  have k3 : ∀ c o, c ≠ z → c ≠ i1 → c ≠ i2 → s.heap.get? c = some o → g3.get? c = some o := fun c o d1 d2 d3 e => s3.extBut c o d3 (s2.extBut c o d2 (s1.extBut c o d1 e))
  have np : IsPair (g3.push { cls := .type "tuple", data := .seq #[x, y] }) g3.objs.size x y := Heap.get?_push_size _ rfl
  have ns : (g3.push { cls := .type "tuple", data := .seq #[x, y] }).objs.size = g3.objs.size + 1 := Heap.size_push ..
  show Q (.ref g3.objs.size) _
  rw [sz] at np ns ⊢
  exact q _ (Heap.get?_push_of_some _ (s3.extBut _ _ D.i2z.symm (s2.extBut _ _ D.i1z.symm z1))) ((c1.extBut s3.extBut D.i12).at fun o e => Heap.get?_push_of_some _ e) (c2.at fun o e => Heap.get?_push_of_some _ e) np ns fun c o d1 d2 d3 e => Heap.get?_push_of_some _ (k3 c o d1 d2 d3 e)
theorem heldEnd {Q : Fin → Shared → Prop} (hh : A.handled = none) (D : ZipApart z TI TO i1 i2 l1 l2) (hz : IsZipHeld s.heap z TI TO T f) (hT : s.heap.get? T = some oT) (hp : IsPair s.heap TI (.ref i1) (.ref i2))
    (a1 : s.heap.IsTupleIter i1 l1 m) (a2 : s.heap.IsTupleIter i2 l2 n) (b1 : s.heap.IsTuple l1 xs) (b2 : s.heap.IsTuple l2 ys) (en : xs[m]? = none ∨ ys[n]? = none)
    (q : ∀ h' e, (∀ c o, c ≠ z → c ≠ i1 → c ≠ i2 → s.heap.get? c = some o → h'.get? c = some o) → (∃ o, h'.get? e = some o ∧ o.cls = .type "StopIteration") → E (.ref e) { s with heap := h' }) :
    wpAny (model P w) A (Builtin.«zip.__next__» ⟨[.ref z], []⟩) Q E s := by
  show wpAny _ _ (field (.ref z) 2 >>= _) _ _ _; refine wpAny_bind (wpAny_field hz rfl (x := .bool false) rfl ?_)
  show wpAny _ _ (field (.ref z) 3 >>= _) _ _ _; refine wpAny_bind (wpAny_field hz rfl (x := .ref TI) rfl (wpAny_bind (wpAny_seqItems hp rfl ?_)))
  show wpAny _ _ (Builtin.SmallTypes.ownedTupleIsFree (.ref z) >>= _) _ _ _; refine wpAny_bind (wpAny_tupleHeld_zip hz hT fun g1 z1 s1 => ?_)
  simp only [Bool.false_eq_true, if_false]; refine wpAny_bind ?_
  rw [← Array.forIn_toList]; simp only [List.forIn_cons, List.forIn_nil]; refine wpAny_bind (wpAny_bind (wpAny_holding ?_))
  show wpAny _ _ (Builtin.SmallTypes.nextOf (.ref i1) >>= _) _ _ _
  cases ex : xs[m]? with
  | none => exact wpAny_bind (RZ.nextOf_tuple_end (s := { s with heap := g1 }) hh (a1.extBut s1.extBut D.i1z) (b1.extBut s1.extBut D.l1z) ex fun g2 e s2 he => q g2 e (fun c o d1 d2 _ v => s2 c o d2 (s1.extBut c o d1 v)) he)
  | some x =>
    have ey : ys[n]? = none := en.resolve_left fun h => by rw [ex] at h; cases h
    refine wpAny_bind (RZ.nextOf_tuple_item (s := { s with heap := g1 }) (a1.extBut s1.extBut D.i1z) (b1.extBut s1.extBut D.l1z) ex fun g2 c1 s2 => wpAny_pure (wpAny_pure (wpAny_bind (wpAny_bind (wpAny_holding ?_)))))
    show wpAny _ _ (Builtin.SmallTypes.nextOf (.ref i2) >>= _) _ _ _
    exact wpAny_bind (RZ.nextOf_tuple_end (s := { s with heap := g2 }) hh ((a2.extBut s1.extBut D.i2z).extBut s2.extBut D.i12.symm) ((b2.extBut s1.extBut D.l2z).extBut s2.extBut D.l2i1) ey fun g3 e s3 he => q g3 e (fun c o d1 d2 d3 v => s3 c o d3 (s2.extBut c o d2 (s1.extBut c o d1 v))) he)
/-- where a zip of two tuples stands; S: the list that is filled -/
def ZS (z TI TO i1 i2 l1 l2 S : Addr) (xs ys : Array Value) (k : Nat) (h : Heap) : Prop := IsPair h TI (.ref i1) (.ref i2) ∧ h.IsTupleIter i1 l1 k ∧ h.IsTupleIter i2 l2 k ∧ h.IsTuple l1 xs ∧ h.IsTuple l2 ys ∧
  ((IsZip h z TI TO .none ∧ ∃ a b, IsPair h TO a b) ∨ ∃ T f oT, IsZipHeld h z TI TO T f ∧ h.get? T = some oT ∧ T ≠ z ∧ T ≠ i1 ∧ T ≠ i2 ∧ T ≠ S)
theorem ZS.ty {k : Nat} {S : Addr} (g : ZS z TI TO i1 i2 l1 l2 S xs ys k s.heap) : s.TypeIs (.ref z) "zip" := by
  rcases g with ⟨_, _, _, _, _, ⟨h, _⟩ | ⟨_, _, _, h, _⟩⟩
  · exact ⟨_, h, rfl⟩
  · exact ⟨_, h, rfl⟩
theorem ZS.keep {k : Nat} {S : Addr} {h h' : Heap} (g : ZS z TI TO i1 i2 l1 l2 S xs ys k h) (d : S ≠ z ∧ S ≠ TI ∧ S ≠ TO ∧ S ≠ i1 ∧ S ≠ i2 ∧ S ≠ l1 ∧ S ≠ l2) (kp : ∀ b o, b ≠ S → h.get? b = some o → h'.get? b = some o) : ZS z TI TO i1 i2 l1 l2 S xs ys k h' := by
  obtain ⟨g1, g2, g3, g4, g5, g6⟩ := g
  obtain ⟨d1, d2, d3, d4, d5, d6, d7⟩ := d
  refine ⟨kp _ _ d2.symm g1, g2.at fun o e => kp _ o d4.symm e, g3.at fun o e => kp _ o d5.symm e, g4.at fun o e => kp _ o d6.symm e, g5.at fun o e => kp _ o d7.symm e, ?_⟩
  rcases g6 with ⟨h1, a, b, h2⟩ | ⟨T, f, oT, h1, h2, r1, r2, r3, r4⟩
  · exact .inl ⟨kp _ _ d1.symm h1, a, b, kp _ _ d3.symm h2⟩
  · exact .inr ⟨T, f, oT, kp _ _ d1.symm h1, kp _ _ r4 h2, r1, r2, r3, r4⟩
theorem nextZ {k : Nat} {S : Addr} {Q : Option Value → Shared → Prop} (D : ZipApart z TI TO i1 i2 l1 l2) (g : ZS z TI TO i1 i2 l1 l2 S xs ys k s.heap) (hS : S < s.heap.objs.size) (ex : xs[k]? = some x) (ey : ys[k]? = some y)
    (q : ∀ h', ZS z TI TO i1 i2 l1 l2 S xs ys (k + 1) h' → IsPair h' s.heap.objs.size x y → h'.objs.size = s.heap.objs.size + 1 → (∀ c o, c ≠ z → c ≠ TO → c ≠ i1 → c ≠ i2 → s.heap.get? c = some o → h'.get? c = some o) → Q (some (.ref s.heap.objs.size)) { s with heap := h' }) :
    wpAny (model P w) A (pyNext (.ref z)) Q E s := by
  have ty := g.ty
  obtain ⟨g1, g2, g3, g4, g5, g6⟩ := g
  have lt : ∀ {c o}, s.heap.get? c = some o → s.heap.objs.size ≠ c := fun e => Nat.ne_of_gt (Heap.lt_size e)
  have n1 : s.heap.objs.size ≠ i1 := let ⟨_, e, _⟩ := g2; lt e
  have n2 : s.heap.objs.size ≠ i2 := let ⟨_, e, _⟩ := g3; lt e
  rcases g6 with ⟨h1, a, b, h2⟩ | ⟨T, f, oT, h1, h2, r1, r2, r3, r4⟩
  · refine RZ.pyNext_zipT_item D h1 g1 h2 g2 g3 g4 g5 ex ey fun h' c1 c2 c3 c4 c5 c6 kp => q h' ⟨kp _ _ D.TIz D.TITO D.TIi1 D.TIi2 g1, c3, c4, g4.at fun o e => kp _ o D.l1z D.l1TO D.l1i1 D.l1i2 e, g5.at fun o e => kp _ o D.l2z D.l2TO D.l2i1 D.l2i2 e, ?_⟩ c5 c6 kp
    exact .inr ⟨s.heap.objs.size, false, _, c1, c5, lt h1, n1, n2, Nat.ne_of_gt hS⟩
  · unfold pyNext
    refine wpAny_bind (wpAny_attempt (wpAny_callSpecial?_slot (name := Str.ofString "__next__") ty F.slot_zip_next (wpAny_call_entry F.slot_zip_next ty F.entry_zip_next
      (heldItem D h1 h2 g1 g2 g3 g4 g5 ex ey fun h' c1 c3 c4 c5 c6 kp => wpAny_pure (q h' ⟨kp _ _ D.TIz D.TIi1 D.TIi2 g1, c3, c4, g4.at fun o e => kp _ o D.l1z D.l1i1 D.l1i2 e, g5.at fun o e => kp _ o D.l2z D.l2i1 D.l2i2 e, ?_⟩ c5 c6 fun c o d1 _ d3 d4 e => kp c o d1 d3 d4 e)) (F.args_zip_next_1 _))))
    exact .inr ⟨T, true, oT, c1, kp _ _ r1 r2 r3 h2, r1, r2, r3, r4⟩
theorem doneZ {k : Nat} {S : Addr} {Q : Option Value → Shared → Prop} (hh : A.handled = none) (D : ZipApart z TI TO i1 i2 l1 l2) (g : ZS z TI TO i1 i2 l1 l2 S xs ys k s.heap) (en : xs[k]? = none ∨ ys[k]? = none)
    (q : ∀ h', (∀ c o, c ≠ z → c ≠ TO → c ≠ i1 → c ≠ i2 → s.heap.get? c = some o → h'.get? c = some o) → Q none { s with heap := h' }) : wpAny (model P w) A (pyNext (.ref z)) Q E s := by
  have ty := g.ty
  obtain ⟨g1, g2, g3, g4, g5, g6⟩ := g
  rcases g6 with ⟨h1, a, b, h2⟩ | ⟨T, f, oT, h1, h2, r1, r2, r3, r4⟩
  · exact RZ.pyNext_zipT_end hh D h1 g1 h2 g2 g3 g4 g5 en q
  · unfold pyNext
    refine wpAny_bind (wpAny_attempt (wpAny_callSpecial?_slot (name := Str.ofString "__next__") ty F.slot_zip_next (wpAny_call_entry F.slot_zip_next ty F.entry_zip_next
      (heldEnd hh D h1 h2 g1 g2 g3 g4 g5 en fun h' e kp he => ?_) (F.args_zip_next_1 _))))
    obtain ⟨o, ho, hc⟩ := he
    exact wpAny_bind (wpAny_isInstance (T := "StopIteration") (b := true) ⟨o, ho, hc⟩ isSubtype_stop (wpAny_pure (q _ fun c o d1 _ d3 d4 e => kp c o d1 d3 d4 e)))
end

/-- the tuples that were made: their addresses rise above lo -/
structure Mk (xs ys : Array Value) (lo : Addr) (h : Heap) (as : List Addr) : Prop where
  rise : as.Pairwise (· < ·)
  above : ∀ a ∈ as, lo < a
  pairs : ∀ (j : Nat) (a : Addr), as[j]? = some a → ∃ x y, xs[j]? = some x ∧ ys[j]? = some y ∧ IsPair h a x y
section
variable {P : Program} {w : World} {A : Around} {s : Shared} {R : Result → Shared → Prop} {z TI TO i1 i2 l1 l2 S : Addr} {xs ys : Array Value}
theorem loopZ (hh : A.handled = none) (D : ZipApart z TI TO i1 i2 l1 l2) (d : S ≠ z ∧ S ≠ TI ∧ S ≠ TO ∧ S ≠ i1 ∧ S ≠ i2 ∧ S ≠ l1 ∧ S ≠ l2) (lo : z < S ∧ TO < S ∧ i1 < S ∧ i2 < S) (sz : xs.size = ys.size) (hn : xs.size ≤ sizeLine) (res : Value) {h₁ : Heap}
    (hR : ∀ h' tk acc c as, (∀ b o, b ≠ S → b ≠ z → b ≠ TO → b ≠ i1 → b ≠ i2 → h₁.get? b = some o → h'.get? b = some o) → h'.get? S = some { cls := .type "list", dict := none, data := .seq acc c, slots := #[] } → as.length = xs.size → Mk xs ys S h' as →
      acc.toList = as.map Value.ref → R (.ok (.ret res)) { s with heap := h', toks := tk }) :
    ∀ (k i : Nat) (h : Heap) (tk c : Nat) (acc : Array Value) (as : List Addr), xs.size - i = k → i ≤ xs.size → ZS z TI TO i1 i2 l1 l2 S xs ys i h → (∀ b o, b ≠ S → b ≠ z → b ≠ TO → b ≠ i1 → b ≠ i2 → h₁.get? b = some o → h.get? b = some o) →
      h.get? S = some { cls := .type "list", dict := none, data := .seq acc c, slots := #[] } → acc.toList = as.map Value.ref → as.length = i → Mk xs ys S h as →
      codeAny (model P w) A (.builtin "list.extend.loop" ⟨[.ref S, .ref z, res], []⟩) R { s with heap := h, toks := tk } := by
  obtain ⟨d1, d2, d3, d4, d5, d6, d7⟩ := id d
  intro k
  induction k with
  | zero =>
    intro i h tk c acc as hk hi g kp hS ha hl hG
    refine codeAny_builtin PySem.F.entry_extend_loop ?_
    rw [Around.under_plainId PySem.F.plain_extend_loop _]
    show wpAny _ A.in1 (pyNext (.ref z) >>= _) _ _ _
    refine wpAny_bind (doneZ (s := { s with heap := h, toks := tk }) (A := A.in1) hh D g (.inl (Array.getElem?_eq_none (by omega))) fun h' he => ?_)
    refine wpAny_pure (hR h' tk acc c as (fun b o q1 q2 q3 q4 q5 e => he b o q2 q3 q4 q5 (kp b o q1 q2 q3 q4 q5 e)) (he S _ d1 d3 d4 d5 hS) (by omega) ⟨hG.rise, hG.above, fun j a hj => ?_⟩ ha)
    obtain ⟨x, y, e1, e2, e3⟩ := hG.pairs j a hj
    have := hG.above a (List.mem_of_getElem? hj)
    exact ⟨x, y, e1, e2, he a _ (Nat.ne_of_gt (Nat.lt_trans lo.1 this)) (Nat.ne_of_gt (Nat.lt_trans lo.2.1 this)) (Nat.ne_of_gt (Nat.lt_trans lo.2.2.1 this)) (Nat.ne_of_gt (Nat.lt_trans lo.2.2.2 this)) e3⟩
  | succ k ih =>
    intro i h tk c acc as hk hi g kp hS ha hl hG
    have lt : i < xs.size := by omega
    have ex := Array.getElem?_eq_getElem lt
    have ey := Array.getElem?_eq_getElem (show i < ys.size by omega)
    have as' : acc.size = i := by rw [← Array.length_toList, ha, List.length_map, hl]
    refine codeAny_builtin PySem.F.entry_extend_loop ?_
    rw [Around.under_plainId PySem.F.plain_extend_loop _]
    show wpAny _ A.in1 (pyNext (.ref z) >>= _) _ _ _
    have hSl : S < h.objs.size := Heap.lt_size hS
    refine wpAny_bind (nextZ (s := { s with heap := h, toks := tk }) D g hSl ex ey fun h' g' ht hz hkp => ?_)
    dsimp only at ht hz hkp ⊢
    have hS' := hkp S _ d1 d3 d4 d5 hS
    have up : ∀ b o, b ≠ S → h'.get? b = some o → (h'.update S (Obj.mapSeq (·.push (Value.ref h.objs.size)))).get? b = some o := fun b o hb e => (Heap.get?_update_other _ _ (Ne.symm hb)).trans e
    show wpAny _ A.in1 (updateSeq S (·.push (Value.ref h.objs.size)) >>= _) _ _ _
    refine wpAny_bind (wpAny_updateSeq hS' rfl (wpAny_pure ⟨plainId_quiet PySem.F.plain_extend_loop _, ih (i + 1) _ tk _ (acc.push (Value.ref h.objs.size)) (as ++ [h.objs.size]) (by omega) lt (g'.keep d fun b o hb e => up b o hb e)
      (fun b o q1 q2 q3 q4 q5 e => up b o q1 (hkp b o q2 q3 q4 q5 (kp b o q1 q2 q3 q4 q5 e))) (Heap.get?_update_self _ hS' rfl) (by rw [Array.toList_push, ha, List.map_append]; rfl) (by rw [List.length_append, hl]; rfl) ⟨?_, ?_, ?_⟩⟩) (by rw [as']; omega) (by show (acc.push (Value.ref h.objs.size)).size ≤ sizeLine + 1; rw [Array.size_push, as']; omega))
    · refine List.pairwise_append.mpr ⟨hG.rise, List.pairwise_singleton _ _, fun a h1 b h2 => ?_⟩
      rw [List.mem_singleton.mp h2]
      obtain ⟨j, hj⟩ := List.mem_iff_getElem?.mp h1
      obtain ⟨_, _, _, _, e⟩ := hG.pairs j a hj
      exact Heap.lt_size e
    · intro a h1
      rcases List.mem_append.mp h1 with h1 | h1
      · exact hG.above a h1
      · rw [List.mem_singleton.mp h1]; exact hSl
    · intro j b hj
      rcases Nat.lt_trichotomy j as.length with h1 | h1 | h1
      · rw [List.getElem?_append_left h1] at hj
        obtain ⟨x, y, e1, e2, e3⟩ := hG.pairs j b hj
        have := hG.above b (List.mem_of_getElem? hj)
        exact ⟨x, y, e1, e2, up b _ (Nat.ne_of_gt this) (hkp b _ (Nat.ne_of_gt (Nat.lt_trans lo.1 this)) (Nat.ne_of_gt (Nat.lt_trans lo.2.1 this)) (Nat.ne_of_gt (Nat.lt_trans lo.2.2.1 this)) (Nat.ne_of_gt (Nat.lt_trans lo.2.2.2 this)) e3)⟩
      · subst h1
        have e : h.objs.size = b := by simpa using hj
        subst e
        exact ⟨_, _, by rw [hl]; exact ex, by rw [hl]; exact ey, up _ _ (Nat.ne_of_gt hSl) ht⟩
      · have e : (as ++ [h.objs.size])[j]? = none := List.getElem?_eq_none (by rw [List.length_append, List.length_singleton]; omega)
        rw [e] at hj; cases hj
theorem zip_len : typeLookup (.type "zip") "__len__" = pure none := by rw [typeLookup_type, builtinLookup_eq_fast]; kernel_rfl
theorem zip_hint : typeLookup (.type "zip") "__length_hint__" = pure none := by rw [typeLookup_type, builtinLookup_eq_fast]; kernel_rfl
theorem extendZ (hh : A.handled = none) (D : ZipApart z TI TO i1 i2 l1 l2) (d : S ≠ z ∧ S ≠ TI ∧ S ≠ TO ∧ S ≠ i1 ∧ S ≠ i2 ∧ S ≠ l1 ∧ S ≠ l2) (lo : z < S ∧ TO < S ∧ i1 < S ∧ i2 < S) (sz : xs.size = ys.size) (hn : xs.size ≤ sizeLine) (res : Value) (c₀ : Nat)
    (g : ZS z TI TO i1 i2 l1 l2 S xs ys 0 s.heap) (gz : IsZip s.heap z TI TO .none) (hS : s.heap.get? S = some { cls := .type "list", data := .seq #[] c₀ })
    (hR : ∀ h' tk acc c as, (∀ b o, b ≠ S → b ≠ z → b ≠ TO → b ≠ i1 → b ≠ i2 → s.heap.get? b = some o → h'.get? b = some o) → h'.get? S = some { cls := .type "list", dict := none, data := .seq acc c, slots := #[] } → as.length = xs.size → Mk xs ys S h' as →
      acc.toList = as.map Value.ref → R (.ok (.ret res)) { s with heap := h', toks := tk }) :
    wpAny (model P w) A.in1 (Builtin.List.listExtendWith (.ref S) (.ref z) res)
      (fun fin s' => match fin with | .done f => R (.ok f) s' | .again c' => c'.quiet = true ∧ codeAny (model P w) A c' R s') (fun e s' => R (.error e) s') s := by
  unfold Builtin.List.listExtendWith
  refine wpAny_bind (wpAny_typeOf g.ty ?_)
  have e1 : Builtin.List.listSameRef (.ref S) (.ref z) = false := by simp [Builtin.List.listSameRef, d.1]
  have e2 : (Value.type "zip" == Value.type "list") = false := by decide
  have e3 : (Value.type "zip" == Value.type "tuple") = false := by decide
  simp only [e1, e2, e3, Bool.or_false, Bool.false_eq_true, if_false]
  refine wpAny_bind (wpAny_pyIter_zip gz (wpAny_bind (wpAny_holding ?_)))
  unfold Builtin.List.listLengthHint
  refine wpAny_bind (wpAny_specialOf g.ty zip_len ?_)
  show wpAny _ A.in1 (specialOf (Value.ref z) (Str.ofString "__length_hint__") >>= _) _ _ _
  refine wpAny_bind (wpAny_specialOf g.ty zip_hint (wpAny_pure ?_))
  show wpAny _ A.in1 (rule "list.extend.makes-room" >>= fun _ => Builtin.List.listTouch (.ref S) >>= fun _ => again (.builtin "list.extend.loop" ⟨[.ref S, .ref z, res], []⟩)) _ _ _
  refine wpAny_bind (wpAny_rule (wpAny_bind ?_))
  show wpAny _ A.in1 (updateSeq S (·.push .none) >>= fun _ => updateSeq S (·.pop)) _ _ _
  refine wpAny_bind (wpAny_updateSeq hS rfl ?_)
  have k1 := Heap.get?_update_self (Obj.mapSeq (·.push Value.none)) hS rfl
  refine wpAny_updateSeq (hz := by seq_fits) k1 rfl ?_
  have k2 := Heap.get?_update_self (Obj.mapSeq (·.pop)) k1 rfl
  have oth : ∀ b o, b ≠ S → s.heap.get? b = some o → ((s.heap.update S (Obj.mapSeq (·.push Value.none))).update S (Obj.mapSeq (·.pop))).get? b = some o :=
    fun b o hb e => (Heap.get?_update_other _ _ (Ne.symm hb)).trans ((Heap.get?_update_other _ _ (Ne.symm hb)).trans e)
  refine wpAny_pure ⟨plainId_quiet F.plain_extend_loop _, loopZ (s := s) (h₁ := s.heap) hh D d lo sz hn res hR xs.size 0 _ _ _ #[] [] (Nat.sub_zero _) (Nat.zero_le _) (g.keep d oth) (fun b o q1 _ _ _ _ e => oth b o q1 e) k2 rfl rfl ⟨List.Pairwise.nil, (fun _ ha => nomatch ha), (fun j a hj => by simp at hj)⟩⟩
end
section
variable {P : Program} {w : World} {A : Around} {E : Value → Shared → Prop} {s : Shared} {z TI TO i1 i2 l1 l2 : Addr} {xs ys : Array Value}
theorem callZ {Q : Value → Shared → Prop} (hh : A.handled = none) (D : ZipApart z TI TO i1 i2 l1 l2) (sz : xs.size = ys.size) (hn : xs.size ≤ sizeLine)
    (gz : IsZip s.heap z TI TO .none) (g1 : IsPair s.heap TI (.ref i1) (.ref i2)) (g0 : ∃ a b, IsPair s.heap TO a b) (g2 : s.heap.IsTupleIter i1 l1 0) (g3 : s.heap.IsTupleIter i2 l2 0) (g4 : s.heap.IsTuple l1 xs) (g5 : s.heap.IsTuple l2 ys)
    (hQ : ∀ h' tk acc c as, (∀ b o, b ≠ z → b ≠ TO → b ≠ i1 → b ≠ i2 → s.heap.get? b = some o → h'.get? b = some o) → h'.get? s.heap.objs.size = some { cls := .type "list", dict := none, data := .seq acc c, slots := #[] } → as.length = xs.size → Mk xs ys s.heap.objs.size h' as →
      acc.toList = as.map Value.ref → Q (.ref s.heap.objs.size) { s with heap := h', toks := tk }) :
    wpAny (model P w) A (call (.type "list") [.ref z]) Q E s := by
  have lt : ∀ {c o}, s.heap.get? c = some o → c < s.heap.objs.size := fun e => Heap.lt_size e
  have t1 : z < s.heap.objs.size := lt gz
  have t2 : TI < s.heap.objs.size := lt g1
  have t3 : TO < s.heap.objs.size := let ⟨_, _, e⟩ := g0; lt e
  have t4 : i1 < s.heap.objs.size := let ⟨_, e, _⟩ := g2; lt e
  have t5 : i2 < s.heap.objs.size := let ⟨_, e, _⟩ := g3; lt e
  have t6 : l1 < s.heap.objs.size := let ⟨_, e, _⟩ := g4; lt e
  have t7 : l2 < s.heap.objs.size := let ⟨_, e, _⟩ := g5; lt e
  have dd : s.heap.objs.size ≠ z ∧ s.heap.objs.size ≠ TI ∧ s.heap.objs.size ≠ TO ∧ s.heap.objs.size ≠ i1 ∧ s.heap.objs.size ≠ i2 ∧ s.heap.objs.size ≠ l1 ∧ s.heap.objs.size ≠ l2 := ⟨Nat.ne_of_gt t1, Nat.ne_of_gt t2, Nat.ne_of_gt t3, Nat.ne_of_gt t4, Nat.ne_of_gt t5, Nat.ne_of_gt t6, Nat.ne_of_gt t7⟩
  refine callType_codes (Q₁ := fun obj s₁ => obj = .ref s.heap.objs.size ∧ s₁ = { s with heap := s.heap.push { cls := .type "list", data := .seq #[] } }) PySem.F.called_list (PySem.F.typeCall_list_1 _) PySem.F.entry_list_init (code_list_new _ ⟨rfl, rfl⟩) fun obj s₁ h₁ => ?_
  obtain ⟨rfl, rfl⟩ := h₁
  have hS : (s.heap.push { cls := .type "list", data := .seq #[] }).get? s.heap.objs.size = some { cls := .type "list", data := .seq #[] } := Heap.get?_push_size _ rfl
  refine ⟨⟨_, hS, rfl⟩, PySem.F.args_list_init_2 _ _, ?_⟩
  show wpAny _ _ (do let old ← Builtin.List.listItems (.ref s.heap.objs.size); Builtin.List.listUpdate (.ref s.heap.objs.size) (fun _ => #[]); letGo old.toList.reverse; Builtin.List.listExtendWith (.ref s.heap.objs.size) (.ref z) .none) _ _ _
  refine wpAny_bind ?_
  unfold Builtin.List.listItems
  refine wpAny_bind (wpAny_seqItems hS rfl (wpAny_pure ?_))
  show wpAny _ _ (updateSeq s.heap.objs.size (fun _ => #[]) >>= fun _ => letGo (#[] : Array Value).toList.reverse >>= fun _ => Builtin.List.listExtendWith (.ref s.heap.objs.size) (.ref z) .none) _ _ _
  refine wpAny_bind (wpAny_updateSeq hS rfl ?_)
  have k2 := Heap.get?_update_self (Obj.mapSeq (fun _ => (#[] : Array Value))) hS rfl
  have oth : ∀ b o, b ≠ s.heap.objs.size → s.heap.get? b = some o → ((s.heap.push { cls := .type "list", data := .seq #[] }).update s.heap.objs.size (Obj.mapSeq (fun _ => (#[] : Array Value)))).get? b = some o :=
    fun b o hb e => (Heap.get?_update_other _ _ (Ne.symm hb)).trans (Heap.get?_push_of_some _ e)
  have kz := oth z _ (Ne.symm dd.1) gz
  have gg : ZS z TI TO i1 i2 l1 l2 s.heap.objs.size xs ys 0 s.heap := ⟨g1, g2, g3, g4, g5, .inl ⟨gz, g0⟩⟩
  refine wpAny_bind (wpAny_letGo (extendZ (A := A.in1) hh D dd ⟨t1, t3, t4, t5⟩ sz hn .none _ (gg.keep dd oth) kz k2 fun h' tk acc c as kp hS' hl hG ha => ?_))
  exact ⟨rfl, hQ h' tk acc c as (fun b o q1 q2 q3 q4 e => kp b o (Nat.ne_of_lt (Heap.lt_size e)) q1 q2 q3 q4 (oth b o (Nat.ne_of_lt (Heap.lt_size e)) e)) hS' hl hG ha⟩
end
end ZL

end
section
set_option linter.all false
set_option autoImplicit false
set_option Elab.async false
set_option maxRecDepth 100000
namespace T3
open PySem L2
/-! ### several new objects at once -/
def ovr (H New : Hp) : Hp := fun b => match New b with
  | some o => some o
  | none => H b
theorem ovr_new {H New : Hp} {b : Addr} {o : HO} (h : New b = some o) : ovr H New b = some o := by unfold ovr; rw [h]
theorem ovr_old {H New : Hp} {b : Addr} (h : New b = none) : ovr H New b = H b := by unfold ovr; rw [h]
theorem newMany {X : Cx} {pins : List (Addr × Obj)} {σ : St} {H New : Hp} {s : Shared} {h' : Heap} {t' : Nat} {ch : List Addr} (I : Inv X pins σ H s) (k : ∀ b o, b ∉ ch → s.heap.get? b = some o → h'.get? b = some o) (hf : ∀ b ∈ ch, FpOk X pins H b)
    (hN : ∀ b o, New b = some o → s.heap.objs.size ≤ b) (ok : ∀ b o, New b = some o → ObjOk X.prog X.w (ovr H New) h' b o) : Inv X pins σ (ovr H New) { s with heap := h', toks := t' } := by
  have old : ∀ b o, H b = some o → ovr H New b = some o := fun b o e => by
    cases q : New b with
    | none => rw [ovr_old q]; exact e
    | some u => rw [I.hok.fresh (hN b u q)] at e; cases e
  have nit : ∀ b u, H b = some u → b ∉ ch := fun b u e z => by
    have q := (hf b z).1
    rw [q] at e; cases e
  refine I.step (g' := s.gens) (d' := s.drawn) (ch := ch) (fun b hb => ⟨(hf b hb).2.2.2.1, (hf b hb).2.1, (hf b hb).2.2.2.2.1, (hf b hb).2.2.2.2.2⟩) (fun b o _ _ hc e _ => k b o hc e) (fun b o _ _ hc e _ => ⟨o.slots, k b o hc e⟩)
    (fun b o _ e n => ?_) (fun b o hc e => ⟨o, k b o hc e⟩) (fun b xs e => old _ _ e) (fun b o u e => old _ _ e) (fun b ps e => ⟨#[], by rw [old _ _ e]; simp⟩) (fun m hm => ?_) (fun b u e => ?_) I.bare
  · cases q : New b with
    | none => rw [ovr_old q]; exact n
    | some u => exact absurd (Nat.lt_of_lt_of_le (Heap.lt_size e) (hN b u q)) (Nat.lt_irrefl _)
  · obtain ⟨o, es, ep, ho, r⟩ := hm
    exact ⟨o, es, ep, k _ o (fun z => (hf _ z).2.1 rfl) ho, r⟩
  · cases q : New b with
    | some v => rw [ovr_new q] at e; cases e; exact ok b _ q
    | none =>
      rw [ovr_old q] at e
      refine (I.hok b u e).stay (fun c v hc q => k c v ?_ q) (fun c q => old _ _ q) fun c xs q => old _ _ q
      rcases hc with z | z
      · rw [z]; exact nit b u e
      · exact nit c _ z
theorem At.allocN {K : PySem.W.Frag} {σ : St} {B B1 : Mset} {H H1 New : Hp} {env env1 : Sl} {p : Addr} (en : EnvR K B H σ env) (a : At K σ B H env B1 H1 env1) (hN : ∀ b o, New b = some o → H1 b = none) (hp : ∃ o, New p = some o) :
    Grow B1 H1 (fun q => B1 q ∨ q = p) (ovr H1 New) ∧ At K σ B H env (fun q => B1 q ∨ q = p) (ovr H1 New) env1 := by
  have old : ∀ {q o'}, H1 q = some o' → ovr H1 New q = some o' := fun {q o'} h => by
    cases e : New q with
    | none => rw [ovr_old e]; exact h
    | some u => rw [hN q u e] at h; cases h
  obtain ⟨op, hop⟩ := hp
  have np : H1 p = none := hN p op hop
  have g : Grow B1 H1 (fun q => B1 q ∨ q = p) (ovr H1 New) := ⟨fun q o' h _ => old h, fun q h => by
    rcases h with h | h
    · exact .inl h
    · rw [h]; exact .inr np⟩
  refine ⟨g, ⟨fun q o' h c => old (a.st.keep q o' h c), fun q h => ?_, fun q h w => .inl (a.st.old q h w), a.st.sub, fun q h => ?_⟩, ⟨a.en.len, fun i x h => ?_, fun i x h => ?_, fun i m c h => ?_, a.en.inj, fun q h => ?_⟩, a.sm, a.ks⟩
  · rcases h with h | h
    · exact a.st.new q h
    · rw [h]; exact .inr (a.st.liv _ np)
  · cases e : New q with
    | none => rw [ovr_old e] at h; exact a.st.liv _ h
    | some u => rw [ovr_new e] at h; cases h
  · obtain ⟨v, h1, h2⟩ := a.en.pd i x h
    exact ⟨v, h1, h2.grow g⟩
  · obtain ⟨v, h1, h2⟩ := a.en.nt i x h
    exact ⟨v, h1, h2.grow g⟩
  · obtain ⟨q, h1, h2, h3⟩ := a.en.mu i m c h
    refine ⟨q, h1, .inl h2, ?_⟩
    cases c with
    | ls xs => obtain ⟨vs, h4, h5⟩ := h3; exact ⟨vs, old h4, h5.grow g⟩
    | dk xs => obtain ⟨vs, h4, h5⟩ := h3; exact ⟨vs, old h4, h5.grow g⟩
    | dn xs => obtain ⟨vs, h4, h5⟩ := h3; exact ⟨vs, old h4, h5.grow g⟩
  · rcases h with h | h
    · obtain ⟨o', ho⟩ := a.en.dom q h
      exact ⟨o', old ho⟩
    · rw [h]; exact ⟨op, ovr_new hop⟩

/-! ### list(zip(one, other)) -/
def newZ (p : Addr) (as : List Addr) (vs : List (V × V)) : Hp := fun b => if b = p then some (.lst (as.map V.ref)) else match (as.zip vs).lookup b with
  | some q => some (.tup [q.1, q.2])
  | none => none
theorem lookup_zip {α β : Type} [BEq α] [LawfulBEq α] : ∀ {as : List α} {bs : List β} {j : Nat} {a : α} {b : β}, as.Nodup → as[j]? = some a → bs[j]? = some b → (as.zip bs).lookup a = some b
  | [], _, _, _, _, _, h, _ => by simp at h
  | _ :: _, [], _, _, _, _, _, h => by simp at h
  | x :: as, y :: bs, 0, a, b, _, h1, h2 => by
    simp at h1 h2
    subst h1 h2
    simp
  | x :: as, y :: bs, j + 1, a, b, nd, h1, h2 => by
    have nd' := List.nodup_cons.mp nd
    have h1 : as[j]? = some a := by simpa using h1
    have ne : (a == x) = false := by
      rw [beq_eq_false_iff_ne]
      intro e
      subst e
      exact nd'.1 (List.mem_of_getElem? h1)
    rw [List.zip_cons_cons, List.lookup_cons, ne]
    exact lookup_zip nd'.2 h1 (by simpa using h2)
theorem lk_mem {α β : Type} [BEq α] [LawfulBEq α] : ∀ {ps : List (α × β)} {a : α} {b : β}, ps.lookup a = some b → (a, b) ∈ ps
  | [], _, _, h => by simp at h
  | (x, y) :: ps, a, b, h => by
    rw [List.lookup_cons] at h
    split at h
    · rename_i e
      cases h
      rw [eq_of_beq e]
      exact List.mem_cons_self
    · exact List.mem_cons_of_mem _ (lk_mem h)
/-- what a list of new pairs is made of -/
def tLz (K : PySem.W.Frag) (ta : TA) : TE := fun σ H Q => ta σ H fun vs H1 => ∃ a b xs ys, vs = [.ref a, .ref b] ∧ SqT K H1 a xs ∧ SqT K H1 b ys ∧ xs.length = ys.length ∧
  ∀ p as, as.length = xs.length → as.Nodup → p ∉ as → H1 p = none → (∀ t ∈ as, H1 t = none) → Q (.ref p) (ovr H1 (newZ p as (xs.zip ys)))
theorem vals_ix {xs : List V} {us : List Value} (r : Vals xs us) {j : Nat} {u : Value} (h : us[j]? = some u) : ∃ x, xs[j]? = some x ∧ RelV x u := by
  have hl := r.length
  have hj : j < us.length := (List.getElem?_eq_some_iff.mp h).1
  obtain ⟨u', h1, h2⟩ := r.get (List.getElem?_eq_getElem (show j < xs.length by omega))
  rw [h] at h1
  cases h1
  exact ⟨_, List.getElem?_eq_getElem (show j < xs.length by omega), h2⟩
open PyProof.Rows in
theorem pe_lz {X : Cx} {e e2 : Expr} {ta : TA} {p p2 pos pos2 : Pos} (hc : X.calm = true) (hg : Gl X "list") (hm : X.mg "list" = none) (hg2 : Gl X "zip") (hm2 : X.mg "zip" = none) (ha : PA X [e, e2] ta)
    (hs : starEach [e, e2] X.env = (false, eval e X.env) :: starEach [e2] X.env := by rfl) (hpl : (backTo pos2 (starEach [e2] X.env)).any (·.1) = false := by rfl)
    (nt : starEach [.Call (.Name "zip" p2) [e, e2] [] pos2] X.env = (false, eval (.Call (.Name "zip" p2) [e, e2] [] pos2) X.env) :: starEach [] X.env := by rfl) :
    PE X (.Call (.Name "list" p) [.Call (.Name "zip" p2) [e, e2] [] pos2] [] pos) (tLz X.K ta) := by
  refine ⟨fun pins s σ H Q I h => ?_⟩
  refine PyProof.Rows.Call_ (ld_blt I hg hm (show bootBuiltins "list" = some (.type "list") by decide +kernel) (PyProof.Rows.callWith_type1 (args_cons ?_ nt) nt))
  refine PyProof.Rows.Call_ (ld_blt I hg2 hm2 PyProof.Rows.boot_zip (PyProof.Rows.callWith_type1 (thn (ha.run pos2 pins s σ H _ I h) fun us s1 ⟨vs, H1, I1, r1, q1⟩ => ?_) hs hpl))
  obtain ⟨a, b, xs, ys, ex, hqx, hqy, hl, q⟩ := q1
  subst ex
  cases r1 with
  | cons r rr =>
    cases rr with
    | cons r' rr =>
      cases rr
      cases r
      cases r'
      obtain ⟨its, rv, p1, z1⟩ := I1.tuple hqx
      obtain ⟨its2, rv2, p2, _⟩ := I1.tuple hqy
      obtain ⟨o1, ho1, _⟩ := id p1
      obtain ⟨o2, ho2, _⟩ := id p2
      refine RZ.call_zipT (show s1.heap.IsTuple a its.toArray from p1) (show s1.heap.IsTuple b its2.toArray from p2) fun h' hz hTI hTO h1 h2 hsz hk => args_nil ?_
      have I2 : Inv X pins σ H1 { s1 with heap := h' } := I1.kept (t' := s1.toks) hk
      refine ZL.callZ (s := { s1 with heap := h' }) (I2.ok.hd hc) (PySem.W.ktu_apart s1.heap.objs.size a b (Heap.lt_size ho1) (Heap.lt_size ho2)) (xs := its.toArray) (ys := its2.toArray) (by rw [List.size_toArray, List.size_toArray, ← rv.length, ← rv2.length]; exact hl) (by rw [List.size_toArray, ← rv.length]; exact z1)
        hz hTI ⟨_, _, hTO⟩ h1 h2 (Heap.IsTuple.at (show s1.heap.IsTuple a its.toArray from p1) fun o e => hk _ o e) (Heap.IsTuple.at (show s1.heap.IsTuple b its2.toArray from p2) fun o e => hk _ o e) fun h3 tk acc c as kp hS hal hG hacc => ?_
      have hal' : as.length = xs.length := by rw [hal, List.size_toArray, ← rv.length]
      have nd : as.Nodup := List.Pairwise.imp (fun {a b} (h : a < b) => Nat.ne_of_lt h) hG.rise
      have hp : h'.objs.size ∉ as := fun z => Nat.lt_irrefl _ (hG.above _ z)
      have new : ∀ t ∈ as, H1 t = none := fun t ht => I2.hok.fresh (Nat.le_of_lt (hG.above t ht))
      have newp : H1 h'.objs.size = none := I2.hok.fresh (Nat.le_refl _)
      have mem : ∀ t q, ((as.zip (xs.zip ys)).lookup t) = some q → t ∈ as := fun t q e => (List.of_mem_zip (lk_mem e)).1
      refine ⟨.ref h'.objs.size, ovr H1 (newZ h'.objs.size as (xs.zip ys)), newMany (t' := tk) (ch := [s1.heap.objs.size + 4, s1.heap.objs.size + 3, s1.heap.objs.size, s1.heap.objs.size + 1]) I2 (fun t o hn e => kp t o (fun z => hn (by simp [z])) (fun z => hn (by simp [z])) (fun z => hn (by simp [z])) (fun z => hn (by simp [z])) e) (fun t ht => ?_) (fun t o e => ?_) (fun t o e => ?_), rfl, q _ as hal' nd hp newp new⟩
      · have : s1.heap.objs.size ≤ t := by
          simp only [List.mem_cons, List.not_mem_nil, or_false] at ht
          rcases ht with z | z | z | z
          · rw [z]; exact Nat.le_add_right _ _
          · rw [z]; exact Nat.le_add_right _ _
          · rw [z]; exact Nat.le_refl _
          · rw [z]; exact Nat.le_add_right _ _
        exact I1.fpOk this (I1.hok.fresh this)
      · unfold newZ at e
        split at e
        · rename_i z; rw [z]; exact Nat.le_refl _
        · split at e
          · rename_i q' hq; exact Nat.le_of_lt (hG.above t (mem t q' hq))
          · cases e
      · unfold newZ at e
        split at e
        · rename_i z
          cases e
          subst z
          refine ⟨by rw [List.length_map, hal']; exact z1, acc.toList, c, by rw [hacc]; exact LiI.vals_refs as, ?_⟩
          rw [Array.toArray_toList]
          exact hS
        · split at e
          · rename_i q' hq
            cases e
            obtain ⟨j, hj⟩ := List.mem_iff_getElem?.mp (mem t q' hq)
            obtain ⟨u, u', e1, e2, e3⟩ := hG.pairs j t hj
            obtain ⟨x, g1, g2⟩ := vals_ix rv (show its[j]? = some u by simpa using e1)
            obtain ⟨y, g3, g4⟩ := vals_ix rv2 (show its2[j]? = some u' by simpa using e2)
            have := lookup_zip nd hj (show (xs.zip ys)[j]? = some (x, y) by rw [List.getElem?_zip_eq_some]; exact ⟨g1, g3⟩)
            rw [hq] at this
            cases this
            exact ⟨by show 2 ≤ sizeLine; decide, [u, u'], .cons g2 (.cons g4 .nil), ⟨_, e3, rfl, _, rfl⟩⟩
          · cases e
def pairD : List PyData → List PyData → List PyData
  | x :: xs, y :: ys => .tuple [x, y] :: pairD xs ys
  | _, _ => []
def eLz (f : EA) : EE := fun env => match f env with
  | some ([d1, d2], e1) => match ctn e1 d1 with
    | some (.tuple xs) => match ctn e1 d2 with
      | some (.tuple ys) => if xs.length = ys.length then some (.tmp (.ls (pairD xs ys)), e1) else none
      | _ => none
    | _ => none
  | _ => none
theorem rp_zip {K : PySem.W.Frag} {B : Mset} {H : Hp} : ∀ {as : List Addr} {vs ws : List V} {xs ys : List PyData}, as.length = vs.length → vs.length = ws.length → RpA K B H vs xs → RpA K B H ws ys →
    (∀ (j : Nat) t v w, as[j]? = some t → vs[j]? = some v → ws[j]? = some w → H t = some (.tup [v, w])) → RpA K B H (as.map V.ref) (pairD xs ys)
  | [], [], [], _, _, _, _, .nil, .nil, _ => .nil
  | [], [], _ :: _, _, _, _, h, _, _, _ => by cases h
  | [], _ :: _, _, _, _, h, _, _, _, _ => by cases h
  | _ :: _, [], _, _, _, h, _, _, _, _ => by cases h
  | _ :: _, _ :: _, [], _, _, _, h, _, _, _ => by cases h
  | a :: as, v :: vs, w :: ws, _, _, h1, h2, .cons r rr, .cons q qq, h => by
    refine .cons (.tup (.inl (.inl (h 0 a v w rfl rfl rfl))) (.cons r (.cons q .nil))) (rp_zip (by simpa using h1) (by simpa using h2) rr qq fun j t v w e1 e2 e3 => h (j + 1) t v w (by simpa using e1) (by simpa using e2) (by simpa using e3))
theorem e_lz {X : Cx} {e e2 : Expr} {f : EA} {p p2 pos pos2 : Pos} (hc : X.calm = true) (hm : X.mg "list" = none) (hm2 : X.mg "zip" = none) (ha : PA X [e, e2] (tA X.K f)) (hg : Gl X "list" := by rfl) (hg2 : Gl X "zip" := by rfl)
    (hs : starEach [e, e2] X.env = (false, eval e X.env) :: starEach [e2] X.env := by rfl) (hpl : (backTo pos2 (starEach [e2] X.env)).any (·.1) = false := by rfl)
    (nt : starEach [.Call (.Name "zip" p2) [e, e2] [] pos2] X.env = (false, eval (.Call (.Name "zip" p2) [e, e2] [] pos2) X.env) :: starEach [] X.env := by rfl) :
    PE X (.Call (.Name "list" p) [.Call (.Name "zip" p2) [e, e2] [] pos2] [] pos) (tE X.K (eLz f)) := PE.imp (pe_lz hc hg hm hg2 hm2 ha hs hpl nt) fun σ H Q t => by
  obtain ⟨B, env, d, env', en, ev, q⟩ := t
  unfold eLz at ev
  split at ev
  · rename_i d1 d2 e1 h1
    split at ev
    · rename_i xs hx
      split at ev
      · rename_i ys hy
        split at ev
        · rename_i hl
          cases ev
          refine ⟨B, env, _, _, en, h1, fun B1 H1 vs a1 r1 => ?_⟩
          have c1 := CnA.of a1.en r1 (show ctns env' [d1, d2] = some [.tuple xs, .tuple ys] by simp [ctns, hx, hy])
          cases c1 with
          | cons c1 cc =>
            cases cc with
            | cons c2 cc =>
              cases cc
              obtain ⟨a, us, rfl, k1, k2⟩ := c1.tuple
              obtain ⟨b, ws, rfl, k3, k4⟩ := c2.tuple
              refine ⟨a, b, us, ws, rfl, k1, k3, by rw [k2.length, k4.length]; exact hl, fun p as hal nd hp np nas => ?_⟩
              have hl2 : us.length = ws.length := by rw [k2.length, k4.length]; exact hl
              have hN : ∀ t o, newZ p as (us.zip ws) t = some o → H1 t = none := fun t o e => by
                unfold newZ at e
                split at e
                · rename_i z; rw [z]; exact np
                · split at e
                  · rename_i q' hq; exact nas t (List.of_mem_zip (lk_mem hq)).1
                  · cases e
              have hop : newZ p as (us.zip ws) p = some (.lst (as.map V.ref)) := by unfold newZ; rw [if_pos rfl]
              obtain ⟨g, a2⟩ := a1.allocN en hN ⟨_, hop⟩
              refine q _ _ _ a2 ⟨p, rfl, a1.st.liv _ np, .inr rfl, ⟨as.map V.ref, ovr_new hop, rp_zip hal hl2 (k2.grow g) (k4.grow g) fun j t v w e1 e2 e3 => ovr_new ?_⟩, fun i m d g1 g2 => ?_⟩
              · have ht : t ≠ p := fun z => hp (z ▸ List.mem_of_getElem? e1)
                unfold newZ
                rw [if_neg ht, lookup_zip nd e1 (show (us.zip ws)[j]? = some (v, w) by rw [List.getElem?_zip_eq_some]; exact ⟨e2, e3⟩)]
              · obtain ⟨b, h3, h4, _⟩ := a1.en.mu i m d g1
                rw [h3] at g2
                cases g2
                obtain ⟨o', ho⟩ := a1.en.dom _ h4
                rw [np] at ho; cases ho
        · cases ev
      · cases ev
    · cases ev
  · cases ev
end T3

end
section
set_option linter.all false
set_option autoImplicit false
set_option Elab.async false
set_option maxRecDepth 100000
namespace T3
open PySem L2
/-! ### dict(a list of pairs), the keys tuples -/
def pairsN : List PyData → Option (List (NestedKey × PyData))
  | [] => some []
  | .tuple [k, v] :: ps => match tk? k with
    | some k' => match pairsN ps with
      | some r => some ((k', v) :: r)
      | none => none
    | none => none
  | _ :: _ => none
def allN (kvs : List (NestedKey × PyData)) : List (NestedKey × PyData) := kvs.foldl (fun acc q => putN acc q.1 q.2) []
def PrE (K : PySem.W.Frag) (B : Mset) (H : Hp) (p : Addr) (q : NestedKey × PyData) : Prop := ∃ b v, SqT K H p [.ref b, v] ∧ NkOk q.1 ∧ Rp K B H (.ref b) q.1.data ∧ Rp K B H v q.2
theorem pairsN_ok {K : PySem.W.Frag} {B : Mset} {H : Hp} : ∀ {vs : List V} {ps : List PyData} {kvs : List (NestedKey × PyData)}, RpA K B H vs ps → pairsN ps = some kvs → ∃ as : List Addr, vs = as.map V.ref ∧ Paired (PrE K B H) as kvs
  | _, _, kvs, .nil, e => by cases e; exact ⟨[], rfl, .nil⟩
  | _, _, kvs, .cons (v := v) (d := d) r t, e => by
    unfold pairsN at e
    split at e
    · rename_i e'; cases e'
    · rename_i k x ps e'
      cases e'
      split at e
      · rename_i k' hk
        split at e
        · rename_i r' hr
          cases e
          obtain ⟨as, h1, h2⟩ := pairsN_ok t hr
          obtain ⟨k1, k2⟩ := tk_ok hk
          obtain ⟨a, ws, rfl, h3, h4⟩ := Cn.tuple (.rp r)
          cases h4 with
          | cons q1 q2 =>
            cases q2 with
            | cons q2 q3 =>
              cases q3
              have q1' := q1
              rw [← k2] at q1
              obtain ⟨b, rfl⟩ := nk_ref k1 q1
              exact ⟨a :: as, by rw [h1]; rfl, .cons ⟨b, _, h3, k1, q1, q2⟩ h2⟩
        · cases e
      · cases e
    · cases e
def rDn (K : PySem.W.Frag) : List V → Hp → VK → Prop := fun xs H Q => ∃ B a as kvs, xs = [.ref a] ∧ SqL K H a (as.map V.ref) ∧ Paired (PrE K B H) as kvs ∧
  ∀ p es, H p = none → DnR K B H es (allN kvs) → Q (.ref p) (upd H p (DnO p es))
theorem prs_of {X : Cx} {pins : List (Addr × Obj)} {σ : St} {H : Hp} {s : Shared} {B : Mset} (I : Inv X pins σ H s) : ∀ {as : List Addr} {kvs : List (NestedKey × PyData)}, Paired (PrE X.K B H) as kvs →
    ∃ xs : List (NestedKey × Addr × Value), Kn X.K B H kvs xs ∧ xs.length = as.length ∧ ∀ (j : Nat) q, xs[j]? = some q → ∃ a, as[j]? = some a ∧ s.heap.IsTuple a #[.ref q.2.1, q.2.2]
  | _, _, .nil => ⟨[], .nil, rfl, fun j q e => by simp at e⟩
  | _, _, .cons (a := p) (b := kv) h t => by
    obtain ⟨xs, k, hl, hx⟩ := prs_of I t
    obtain ⟨b, v, h1, h2, h3, h4⟩ := h
    obtain ⟨its, rv, ht, _⟩ := I.tuple h1
    cases rv with
    | cons r1 rr =>
      cases rr with
      | cons r2 rr =>
        cases rr
        cases r1
        rename_i u
        refine ⟨(kv.1, b, u) :: xs, .cons ⟨rfl, h2, h3, v, r2, h4⟩ k, by simp [hl], fun j q e => ?_⟩
        cases j with
        | zero =>
          simp at e
          subst e
          exact ⟨p, rfl, ht⟩
        | succ j =>
          obtain ⟨a, e1, e2⟩ := hx j q (by simpa using e)
          exact ⟨a, by simpa using e1, e2⟩
theorem Kn.all {K : PySem.W.Frag} {B : Mset} {H : Hp} : ∀ {more : List (NestedKey × PyData)} {rs : List (NestedKey × Addr × Value)} {kvs : List (NestedKey × PyData)} {xs : List (NestedKey × Addr × Value)}, Kn K B H more rs → Kn K B H kvs xs → (kvs.map (·.1)).Nodup →
    Kn K B H (more.foldl (fun acc q => putN acc q.1 q.2) kvs) (storedAllH xs rs) ∧ ((more.foldl (fun acc q => putN acc q.1 q.2) kvs).map (·.1)).Nodup
  | _, _, _, _, .nil, k, nd => ⟨k, nd⟩
  | _, _, _, _, .cons (a := q) (b := x) r t, k, nd => by
    obtain ⟨e1, e2, e3, v, e4, e5⟩ := r
    have k' := k.put e2 e3 e4 e5
    rw [← e1] at k'
    have := Kn.all t (by rw [e1] at k'; exact k') (putN_nd (k := q.1) (x := q.2) nd)
    unfold storedAllH at this ⊢
    rw [List.foldl_cons, List.foldl_cons, e1]
    exact this
theorem putAll_len : ∀ (more kvs : List (NestedKey × PyData)), (more.foldl (fun acc q => putN acc q.1 q.2) kvs).length ≤ kvs.length + more.length
  | [], kvs => by simp
  | q :: more, kvs => by
    have h1 := putAll_len more (putN kvs q.1 q.2)
    have h2 := putN_len kvs q.1 q.2
    rw [List.foldl_cons, List.length_cons]
    omega
theorem cr_dn {X : Cx} (hc : X.calm = true) (hu : X.A.units + 12 < cLine) : CallR X (.type "dict") (rDn X.K) := by
  intro pins s σ H vs us Q I r q
  obtain ⟨B, a, as, kvs, ex, hq, hp, q⟩ := q
  subst ex
  cases r with
  | cons r rr =>
    cases rr
    cases r
    obtain ⟨its, rv, ⟨o, n, ho, hcl, hd, hdat⟩, hz⟩ := I.list hq
    have ei := refs_at rv
    subst ei
    obtain ⟨xs, k, hl, hx⟩ := prs_of I hp
    rw [List.length_map] at hz
    have hkl : kvs.length = as.length := (Paired.length hp).symm
    let Ts : Nat → Addr := fun j => as.getD j 0
    have allk : ∀ {kvs : List (NestedKey × PyData)} {xs : List (NestedKey × Addr × Value)}, Kn X.K B H kvs xs → ∀ x ∈ xs, NkOk x.1 ∧ Rp X.K B H (.ref x.2.1) x.1.data := by
      intro kvs xs h
      induction h with
      | nil => intro x hx; simp at hx
      | cons r t ih =>
        intro x hx
        rcases List.mem_cons.mp hx with rfl | hx
        · obtain ⟨e1, e2, e3, _⟩ := r
          rw [e1]; exact ⟨e2, e3⟩
        · exact ih x hx
    have items : PairItems s.heap (as.map Value.ref).toArray Ts (xs.map fun x => (Value.ref x.2.1, x.2.2)) := by
      refine ⟨by simp [hl], fun j kk v e => ?_⟩
      rw [List.getElem?_map] at e
      cases e' : xs[j]? with
      | none => rw [e'] at e; cases e
      | some x =>
        rw [e'] at e
        cases e
        obtain ⟨p, e1, e2⟩ := hx j x e'
        have : Ts j = p := by show as.getD j 0 = p; rw [List.getD_eq_getElem?_getD, e1]; rfl
        rw [this]
        exact ⟨by simp [e1], .inl e2⟩
    have mm : (s.heap.objs.size == sysModules) = false := beq_eq_false_iff_ne.mpr (Nat.ne_of_gt I.big)
    refine call_dict_pairsH (knd := nestedKind X.prog X.w) (ps := xs) (PairArg.list a (as.map Value.ref).toArray Ts (xs.map fun x => (Value.ref x.2.1, x.2.2))) (I.ok.hd hc) ?_ ⟨⟨o, n, ho, hcl, hd, hdat⟩, items⟩ ⟨by simp, fun i key v e => ?_⟩ (fun h' hk x hxm => ?_) (by rw [List.length_map, hl]; exact hz) fun h' tk dd hk => ?_
    · show X.A.units + 1 + 1 + 8 < cLine
      omega
    · have e : (xs.map fun x => (Value.ref x.2.1, x.2.2))[i]? = some (key, v) := e
      rw [List.getElem?_map] at e
      cases e' : xs[i]? with
      | none => rw [e'] at e; cases e
      | some x => rw [e'] at e; cases e; exact ⟨x.1, x.2.1, rfl, rfl⟩
    · obtain ⟨k1, k2⟩ := allk k x hxm
      have I' : Inv X pins σ H { s with heap := s.heap } := I
      refine ⟨NestedIs.at (fun b ob vs' n' hb _ => ?_) _ _ (nk_key I k1 k2).1, k1.1⟩
      exact hk b ob (Nat.ne_of_lt (Heap.lt_size hb)) (by simp) hb
    · obtain ⟨kn, nd⟩ := Kn.all k (.nil : Kn X.K B H [] []) (by simp)
      obtain ⟨q', es, ep, hq', h2, h3, h4, _, h5⟩ := dd
      refine ⟨.ref s.heap.objs.size, upd H s.heap.objs.size (DnO s.heap.objs.size ((storedAllH [] xs).map (entryOfKey (nestedKind X.prog X.w)))), I.laid (t' := tk) (fun b u e => hk b u (by simp) e) (Nat.le_refl _) ⟨⟨mm, ?_, q', ep, hq', h2, ?_⟩, ⟨q', hq'⟩, fun g1 g2 ⟨z1, z2, o, ep, z3, z4, z5⟩ st => ⟨z1, z2, o, ep, st o z3, z4, z5⟩⟩, rfl, q _ _ (I.hok.fresh (Nat.le_refl _)) ⟨kn.dn, nd⟩⟩
      · rw [List.length_map, ← kn.len]
        have := putAll_len kvs []
        simp only [List.length_nil, Nat.zero_add] at this
        omega
      · rw [← h4, Array.toArray_toList]; exact h3
def kDict : KK := fun ds env => match ctns env ds with
  | some [.list ps] => match pairsN ps with
    | some kvs => some (.tmp (.dn (allN kvs)), env)
    | none => none
  | _ => none
theorem c_dict {K : PySem.W.Frag} : Con K kDict (rDn K) := by
  intro σ H B env B1 H1 env1 vs ds d e2 Q en a rr hk q
  unfold kDict at hk
  split at hk
  · rename_i ps hps
    split at hk
    · rename_i kvs hkv
      cases hk
      have c := CnA.of a.en rr hps
      cases c with
      | cons c cc =>
        cases cc
        obtain ⟨p, us, rfl, h1, h2⟩ := c.list
        obtain ⟨as, rfl, h3⟩ := pairsN_ok h2 hkv
        refine ⟨B1, p, as, kvs, rfl, h1, h3, fun p es np r => ?_⟩
        obtain ⟨g, a2⟩ := a.alloc en np (DnO p es) True (fun _ => False) (fun _ f => f.elim)
        refine q _ _ _ a2 ⟨p, rfl, a.st.liv _ np, .inr ⟨trivial, rfl⟩, ⟨es, upd_same, DnR.grow g r⟩, fun i m d h1 h2 => ?_⟩
        obtain ⟨b, h3, h4, _⟩ := a.en.mu i m d h1
        rw [h3] at h2
        cases h2
        obtain ⟨o', ho⟩ := a.en.dom _ h4
        rw [np] at ho; cases ho
    · cases hk
  · cases hk
theorem w_dict {X : Cx} {k : Nat} (hc : X.calm = true) (hr : Room k X.A) : Bty X "dict" kDict := ⟨_, _, cr_dn hc (by have := hr.un; omega), c_dict, by decide +kernel⟩
end T3

end
section
set_option linter.all false
set_option autoImplicit false
set_option Elab.async false
namespace T3
open PySem L2
/-! ### a, b, .. = x, y, .. by way of a tuple, names that inner scopes read too -/
def setAll : List Nat → List R → Sl → Option Sl
  | [], [], e => some e
  | i :: is, d :: ds, e => match setR i d e with
    | none => none
    | some e2 => setAll is ds e2
  | _, _, _ => none
def sParN (is : List Nat) (f : EA) : SS := fun env => match f env with
  | none => none
  | some (ds, e) => if ds.length ≤ 1000 then match setAll is ds e with
      | none => none
      | some e2 => some (.nx, e2)
    else none
@[simp] theorem z_setAll0 (e : Sl) : setAll [] [] e = some e := rfl
@[simp] theorem z_setAll1 (i : Nat) (is : List Nat) (d : R) (ds : List R) (e : Sl) : setAll (i :: is) (d :: ds) e = (match setR i d e with
    | none => none
    | some e2 => setAll is ds e2) := rfl
@[simp] theorem z_parN (is : List Nat) (f : EA) (env : Sl) : sParN is f env = (match f env with
  | none => none
  | some (ds, e) => if ds.length ≤ 1000 then match setAll is ds e with
      | none => none
      | some e2 => some (.nx, e2)
    else none) := rfl
def gNs : List Nat → TGs
  | [] => gNil
  | i :: is => gCons (gName i) (gNs is)
theorem setAll_nv : ∀ {is : List Nat} {ds : List R} {e e' : Sl}, setAll is ds e = some e' → ds.length = is.length ∧ ∀ d ∈ ds, ∀ k, d ≠ .var k
  | [], [], _, _, _ => ⟨rfl, fun d h => by simp at h⟩
  | [], _ :: _, _, _, h => by cases h
  | _ :: _, [], _, _, h => by cases h
  | i :: is, d :: ds, e, e', h => by
    rw [z_setAll1] at h
    split at h
    · cases h
    rename_i e2 h2
    obtain ⟨l, n⟩ := setAll_nv h
    refine ⟨by simp [l], fun x hx k => ?_⟩
    rcases List.mem_cons.mp hx with rfl | hx
    · exact setR_nv h2 k
    · exact n x hx k
theorem rd_names {K : PySem.W.Frag} {σ₀ : St} {B₀ B1 : Mset} {H₀ H1 : Hp} {env e' : Sl} {Q : St → Hp → Prop} (en : EnvR K B₀ H₀ σ₀ env) : ∀ {is : List Nat} {ds : List R} {vs : List V} {e : Sl} {σ : St}, AtS K σ₀ B₀ H₀ env σ B1 H1 e → RRA K H₀ B1 H1 σ e vs ds → setAll is ds e = some e' →
    (∀ σ', AtS K σ₀ B₀ H₀ env σ' B1 H1 e' → Q σ' H1) → gNs is vs σ H1 Q
  | [], [], vs, e, σ, a, r, h, q => by
    cases h
    have := r.len
    cases vs with
    | nil => exact ⟨rfl, q σ a⟩
    | cons _ _ => simp at this
  | [], _ :: _, _, _, _, _, _, h, _ => by cases h
  | _ :: _, [], _, _, _, _, _, h, _ => by cases h
  | i :: is, d :: ds, vs, e, σ, a, r, h, q => by
    rw [z_setAll1] at h
    split at h
    · cases h
    rename_i e2 h2
    have nv := (setAll_nv h).2
    cases vs with
    | nil => have := r.len; simp at this
    | cons v vs =>
      have hl : i < σ.length := by rw [← a.en.len]; exact setR_lt h2
      refine ⟨v, vs, rfl, ?_⟩
      show gNs is vs (σ.set i (some v)) H1 Q
      refine rd_names en (AtS.set en a (r.each 0 v d rfl rfl) h2) ⟨by have := r.len; simpa using this, fun k w d' hw hd => ?_, fun k l c c' w h0 h1 h2 h3 h4 => r.apart (k + 1) (l + 1) c c' w (by omega) (by simpa using h1) (by simpa using h2) (by simpa using h3) (by simpa using h4)⟩ h q
      refine RA.set h2 hl (r.each (k + 1) w d' (by simpa using hw) (by simpa using hd)) (fun c c' z1 z2 z3 => ?_) (nv d' (List.mem_of_getElem? hd))
      subst z1 z2 z3
      exact r.apart 0 (k + 1) c c' v (by omega) rfl (by simpa using hd) rfl (by simpa using hw)
theorem rd_parN {K : PySem.W.Frag} {is : List Nat} {f : EA} {D : Ends} {σ : St} {H : Hp} (h : tS K (sParN is f) D σ H) : tAsg (tTup (tA K f)) (gTup K is.length (gNs is)) D σ H := by
  obtain ⟨B, env, fl, env', en, ev, q⟩ := h
  unfold sParN at ev
  split at ev
  · cases ev
  rename_i ds e1 h1
  split at ev
  · rename_i hl
    split at ev
    · cases ev
    rename_i e2 h2
    cases ev
    refine ⟨B, env, ds, e1, en, h1, fun B1 H1 vs a1 r1 => ⟨by rw [r1.len]; exact Nat.le_of_lt (small1000 hl), fun p np => ?_⟩⟩
    obtain ⟨g, a2⟩ := a1.alloc en np (.tup vs) False (fun _ => False) (fun _ f => f.elim)
    obtain ⟨_, a3⟩ := (At.refl a1.en).alloc a1.en np (.tup vs) False (fun _ => False) (fun _ f => f.elim)
    refine ⟨p, vs, rfl, .inl (.inl upd_same), by rw [r1.len]; exact (setAll_nv h2).1, ?_⟩
    refine rd_names en a2.s ⟨r1.len, fun k v d hv hd => (r1.each k v d hv hd).later a1.en a3, r1.apart⟩ h2 fun σ' a' => q _ _ _ a'
  · cases ev
section
variable {X : Cx} {es : List Expr} {pos : Pos}
theorem ns_nil : PGs X [] (gNs []) := pgs_nil
theorem ns_cons {e : Expr} {i : Nat} {is : List Nat} (h1 : PG X e (gName i)) (h2 : PGs X es (gNs is)) (hs : (assignEach (e :: es) X.env).map (·.2) = assign e X.env :: (assignEach es X.env).map (·.2) := by rfl) : PGs X (e :: es) (gNs (i :: is)) := pgs_cons h1 h2 hs
theorem s_parN {ts : List Expr} {k k2 : Nat} {p p2 : Pos} {is : List Nat} {f : EA} (hc : X.calm = true) (ha : PA X es (tA X.K f)) (hg : PGs X ts (gNs is)) (hn : (assignEach ts X.env).length = is.length := by rfl) (hst : (assignEach ts X.env).findIdx? (·.1) = none := by rfl)
    (hs : swapsWithSole [.Tuple ts k p] (.Tuple es k2 p2) pos.line X.env = pure false := by rfl) (hw : swappedStores [.Tuple ts k p] (.Tuple es k2 p2) X.env = pure none := by rfl)
    (h1 : (assignEach [.Tuple ts k p] X.env).map (·.2) = [assign (.Tuple ts k p) X.env] := by rfl) : PS X (.Assign [.Tuple ts k p] (.Tuple es k2 p2) pos) (tS X.K (sParN is f)) :=
  PS.imp (ps_asg (pe_tup ha) (pg_tup hc hg hn hst) hs hw h1) fun _ _ _ t => rd_parN t
end
end T3

end
section
set_option linter.all false
set_option autoImplicit false
set_option Elab.async false
set_option maxRecDepth 100000
namespace T3
open PySem L2
/-! ### {k: v, ..} -/
abbrev EPs := List (EE × EE)
def ePairs : EPs → Sl → Option (List (PyData × PyData) × Sl)
  | [], env => some ([], env)
  | p :: r, env => match p.1 env with
    | none => none
    | some (dk, e1) => match pdOf dk with
      | none => none
      | some k => match p.2 e1 with
        | none => none
        | some (dv, e2) => match pdOf dv with
          | none => none
          | some v => match ePairs r e2 with
            | none => none
            | some (ps, e3) => some ((k, v) :: ps, e3)
@[simp] theorem z_ePairs0 (env : Sl) : ePairs [] env = some ([], env) := rfl
@[simp] theorem z_ePairs1 (p : EE × EE) (r : EPs) (env : Sl) : ePairs (p :: r) env = (match p.1 env with
    | none => none
    | some (dk, e1) => match pdOf dk with
      | none => none
      | some k => match p.2 e1 with
        | none => none
        | some (dv, e2) => match pdOf dv with
          | none => none
          | some v => match ePairs r e2 with
            | none => none
            | some (ps, e3) => some ((k, v) :: ps, e3)) := rfl
def PrR (K : PySem.W.Frag) (B : Mset) (H : Hp) : List (V × V) → List (PyData × PyData) → Prop := Paired fun p q => Rp K B H p.1 q.1 ∧ Rp K B H p.2 q.2
def trsOf (K : PySem.W.Frag) (ps : EPs) : List (TE × TE) := ps.map fun p => (tE K p.1, tE K p.2)
theorem rd_pairs {K : PySem.W.Frag} : ∀ {ps : EPs} {σ : St} {H : Hp} {B : Mset} {env env' : Sl} {ds : List (PyData × PyData)} {Q : List (V × V) → Hp → Prop}, EnvR K B H σ env → ePairs ps env = some (ds, env') →
    (∀ B' H' vs, At K σ B H env B' H' env' → PrR K B' H' vs ds → Q vs H') → tPairs (trsOf K ps) σ H Q
  | [], σ, H, B, env, env', ds, Q, en, ev, q => by
    cases ev
    exact q B H [] (.refl en) .nil
  | p :: r, σ, H, B, env, env', ds, Q, en, ev, q => by
    rw [z_ePairs1] at ev
    split at ev
    · cases ev
    rename_i dk e1 h1
    split at ev
    · cases ev
    rename_i k hk
    split at ev
    · cases ev
    rename_i dv e2 h2
    split at ev
    · cases ev
    rename_i v hv
    split at ev
    · cases ev
    rename_i ps' e3 h3
    cases ev
    refine ⟨B, env, dk, e1, en, h1, fun B1 H1 x a1 r1 => ⟨B1, e1, dv, e2, a1.en, h2, fun B2 H2 y a2 r2 => ?_⟩⟩
    have a12 := a1.trans en a2
    refine rd_pairs a2.en h3 fun B3 H3 vs a3 r3 => q B3 H3 _ (a12.trans en a3) (.cons ⟨?_, ?_⟩ r3)
    · exact ((pdOf_rp r1 hk).grow (a2.grow a1.en)).grow (a3.grow a2.en)
    · exact (pdOf_rp r2 hv).grow (a3.grow a2.en)
/-- a thing of ours, in no slot, is written -/
theorem At.put {K : PySem.W.Frag} {σ : St} {B B2 : Mset} {H H2 : Hp} {env env2 : Sl} {p : Addr} {o0 o : HO} (en : EnvR K B H σ env) (a : At K σ B H env B2 H2 env2) (hp : H p = none) (bp : B2 p) (h0 : H2 p = some o0) (ni : ¬ Imm o0)
    (ns : ∀ (i : Nat) m d, env2[i]? = some (some (S.mu m d)) → σ[i]? ≠ some (some (V.ref p))) : Grow B2 H2 B2 (upd H2 p o) ∧ At K σ B H env B2 (upd H2 p o) env2 := by
  have g : Grow B2 H2 B2 (upd H2 p o) := ⟨fun q o' h n => by
    by_cases e : q = p
    · subst e
      rcases n with n | n
      · exact absurd bp n
      · rw [h0] at h; cases h; exact absurd n ni
    · rw [upd_ne e]; exact h, fun q h => .inl h⟩
  refine ⟨g, ⟨fun q o' h n => ?_, a.st.new, a.st.old, a.st.sub, fun q h => ?_⟩, ⟨a.en.len, fun i x h => ?_, fun i x h => ?_, fun i m d h => ?_, a.en.inj, fun q h => ?_⟩, a.sm, a.ks⟩
  · have e : q ≠ p := fun z => by rw [z, hp] at h; cases h
    rw [upd_ne e]; exact a.st.keep q o' h n
  · by_cases e : q = p
    · rw [e]; exact hp
    · rw [upd_ne e] at h; exact a.st.liv q h
  · obtain ⟨v, h1, h2⟩ := a.en.pd i x h
    exact ⟨v, h1, h2.grow g⟩
  · obtain ⟨v, h1, h2⟩ := a.en.nt i x h
    exact ⟨v, h1, h2.grow g⟩
  · obtain ⟨b, h1, h2, h3⟩ := a.en.mu i m d h
    have nb : b ≠ p := fun z => ns i m d h (z ▸ h1)
    refine ⟨b, h1, h2, ?_⟩
    cases d with
    | ls xs => obtain ⟨vs, h4, h5⟩ := h3; exact ⟨vs, by rw [upd_ne nb]; exact h4, h5.grow g⟩
    | dk xs => obtain ⟨vs, h4, h5⟩ := h3; exact ⟨vs, by rw [upd_ne nb]; exact h4, h5.grow g⟩
    | dn xs => obtain ⟨vs, h4, h5⟩ := h3; exact ⟨vs, by rw [upd_ne nb]; exact h4, h5.grow g⟩
  · by_cases e : q = p
    · subst e; exact ⟨o, upd_same⟩
    · rw [upd_ne e]; exact a.en.dom q h
/-! the keys ints and texts -/
def keysK : List (PyData × PyData) → Option (List (Key × PyData))
  | [] => some []
  | p :: ps => match key? p.1 with
    | none => none
    | some k => match keysK ps with
      | none => none
      | some r => some ((k, p.2) :: r)
def keysN : List (PyData × PyData) → Option (List (NestedKey × PyData))
  | [] => some []
  | p :: ps => match tk? p.1 with
    | none => none
    | some k => match keysN ps with
      | none => none
      | some r => some ((k, p.2) :: r)
def allK (kvs : List (Key × PyData)) : List (Key × PyData) := kvs.foldl (fun acc q => putD acc q.1 q.2) []
theorem KvR.merge {K : PySem.W.Frag} {B : Mset} {H : Hp} : ∀ {more : List (Key × V)} {ms : List (Key × PyData)} {ws : List (Key × V)} {kvs : List (Key × PyData)}, KvR K B H more ms → KvR K B H ws kvs → KvR K B H (mergeK ws more) (ms.foldl (fun acc q => putD acc q.1 q.2) kvs)
  | _, _, _, _, .nil, r => r
  | _, _, _, _, .cons (a := p) (b := q) h t, r => by
    have := r.put (k := q.1) h.2
    unfold mergeK
    rw [List.foldl_cons, List.foldl_cons, h.1]
    exact KvR.merge t this
theorem keysK_ok {K : PySem.W.Frag} {B : Mset} {H : Hp} : ∀ {vs : List (V × V)} {ds : List (PyData × PyData)} {kvs : List (Key × PyData)}, PrR K B H vs ds → keysK ds = some kvs → ∃ ws : List (Key × V), vs = ws.map (fun kv => (kV kv.1, kv.2)) ∧ KvR K B H ws kvs
  | _, _, kvs, .nil, e => by cases e; exact ⟨[], rfl, .nil⟩
  | _, _, kvs, .cons (a := p) (b := q) r t, e => by
    unfold keysK at e
    split at e
    · cases e
    rename_i k hk
    split at e
    · cases e
    rename_i r' hr
    cases e
    obtain ⟨ws, h1, h2⟩ := keysK_ok t hr
    refine ⟨(k, p.2) :: ws, ?_, .cons ⟨rfl, r.2⟩ h2⟩
    rw [List.map_cons, ← h1, ← key_v r.1 hk]
theorem keysN_ok {K : PySem.W.Frag} {B : Mset} {H : Hp} : ∀ {vs : List (V × V)} {ds : List (PyData × PyData)} {kvs : List (NestedKey × PyData)}, PrR K B H vs ds → keysN ds = some kvs → Paired (fun (p : V × V) (q : NestedKey × PyData) => NkOk q.1 ∧ Rp K B H p.1 q.1.data ∧ Rp K B H p.2 q.2) vs kvs
  | _, _, kvs, .nil, e => by cases e; exact .nil
  | _, _, kvs, .cons (a := p) (b := q) r t, e => by
    unfold keysN at e
    split at e
    · cases e
    rename_i k hk
    split at e
    · cases e
    rename_i r' hr
    cases e
    obtain ⟨h1, h2⟩ := tk_ok hk
    exact .cons ⟨h1, by rw [h2]; exact r.1, r.2⟩ (keysN_ok t hr)
/-! the keys tuples -/
def tDispN (K : PySem.W.Frag) (trs : List (TE × TE)) : TE := fun σ H Q => ∀ p, H p = none → tPairs trs σ (upd H p (.dK [])) fun ps H2 => H2 p = some (.dK []) ∧ ∃ B kvs, Paired (fun (p : V × V) (q : NestedKey × PyData) => NkOk q.1 ∧ Rp K B H2 p.1 q.1.data ∧ Rp K B H2 p.2 q.2) ps kvs ∧ kvs.length ≤ 15 ∧
  ∀ es, DnR K B H2 es (allN kvs) → Q (.ref p) (upd H2 p (DnO p es))
theorem carr_of {X : Cx} {pins : List (Addr × Obj)} {σ : St} {H : Hp} {s : Shared} {B : Mset} (I : Inv X pins σ H s) : ∀ {ps : List (V × V)} {ws : List (Value × Value)} {kvs : List (NestedKey × PyData)}, VV ps ws → Paired (fun (p : V × V) (q : NestedKey × PyData) => NkOk q.1 ∧ Rp X.K B H p.1 q.1.data ∧ Rp X.K B H p.2 q.2) ps kvs →
    ∃ xs, CarriesH (nestedKind X.prog X.w) s.heap ws xs ∧ Kn X.K B H kvs xs
  | _, _, _, .nil, .nil => ⟨[], True.intro, .nil⟩
  | _, _, _, .cons (a := p) (b := u) r t, .cons (b := q) h t' => by
    obtain ⟨xs, h1, h2⟩ := carr_of I t t'
    obtain ⟨k1, k2, k3⟩ := h
    obtain ⟨b, eb⟩ := nk_ref k1 k2
    obtain ⟨u1, u2⟩ := u
    have e1 : u1 = Value.ref b := by have := r.1; rw [eb] at this; exact this
    subst e1
    rw [eb] at k2
    exact ⟨(q.1, b, u2) :: xs, ⟨rfl, rfl, nk_key I k1 k2, h1⟩, .cons ⟨rfl, k1, k2, p.2, r.2, k3⟩ h2⟩
theorem pe_dispN {X : Cx} {pos : Pos} {keys : List (Option Expr)} {values : List Expr} {trs : List (TE × TE)} (hu : X.A.units + 9 < cLine) (h : PPs X pos keys values trs) (hall : keys.all (·.isSome) = true) (hl : keys.length = values.length) (h0 : keys ≠ [])
    (h15 : keys.length ≤ 15) : PE X (.Dict keys values pos) (tDispN X.K trs) := by
  refine ⟨fun pins s σ H Q I q => ?_⟩
  have hn := I.hok.fresh (Nat.le_refl s.heap.objs.size)
  have I1 := I.laid (a := s.heap.objs.size) (o := .dK []) (h' := s.heap.push { cls := .type "dict", data := .dict #[] }) (t' := s.toks) (fun _ _ q => Heap.get?_push_of_some _ q) (Nat.le_refl _) (dk_empty s.heap I.big)
  have hlen := pairTrees_length keys values X.env pos hall hl
  have hne : pairTrees keys values X.env pos ≠ [] := fun he => by
    rw [he] at hlen
    exact h0 (List.length_eq_zero_iff.mp hlen.symm)
  rw [arm_eval_Dict, zip_pairTrees keys values X.env pos hall hl, dictDisplay_pairs _ hne (by rw [hlen]; omega)]
  refine wpAny_bind (wpAny_standAt (wpAny_bind (wpAny_subDictH (knd := nestedKind X.prog X.w) (show X.A.units + 8 < cLine by omega) (by rw [hlen]; exact h15) (thn (h.run pins _ σ _ _ I1 (q _ hn)) fun ws s2 ⟨ps, H2, I2, rel, e, B, kvs, hp, h16, q2⟩ => ?_))))
  obtain ⟨xs, hc, hk⟩ := carr_of I2 rel hp
  obtain ⟨ns, _, _, xs0, dd, kn0⟩ := dn_open I2 (.inl ⟨rfl, e⟩ : DnAt X.K B H2 s.heap.objs.size [])
  cases kn0
  refine ⟨xs, hc, dd, fun h' tk dd' hs => wpAny_pure ?_⟩
  obtain ⟨kn, nd⟩ := Kn.all hk (.nil : Kn X.K B H2 [] []) (by simp)
  obtain ⟨q', es, ep, hq', h2, h3, h4, _, h5⟩ := dd'
  refine ⟨.ref s.heap.objs.size, _, d_write (t' := tk) (ob := DnO s.heap.objs.size ((storedAllH [] xs).map (entryOfKey (nestedKind X.prog X.w)))) I2 (by rw [e]; exact True.intro) hs ⟨q', hq'⟩ ⟨⟨ns, ?_, q', ep, hq', h2, ?_⟩, ⟨q', hq'⟩, fun g1 g2 ⟨z1, z2, o, ep, z3, z4, z5⟩ st => ⟨z1, z2, o, ep, st o z3, z4, z5⟩⟩, rfl, q2 _ ⟨kn.dn, nd⟩⟩
  · rw [List.length_map, ← kn.len]
    have h1 := putAll_len kvs []
    simp only [List.length_nil, Nat.zero_add] at h1
    rw [sizeLine_eq]
    omega
  · rw [← h4, Array.toArray_toList]; exact h3
def eDisp (ps : EPs) : EE := fun env => match ePairs ps env with
  | none => none
  | some (ds, e1) => if ds.length ≤ 15 then match keysK ds with
      | some kvs => some (.tmp (.dk (allK kvs)), e1)
      | none => match keysN ds with
        | some kvs => some (.tmp (.dn (allN kvs)), e1)
        | none => none
    else none
@[simp] theorem z_disp (ps : EPs) (env : Sl) : eDisp ps env = (match ePairs ps env with
  | none => none
  | some (ds, e1) => if ds.length ≤ 15 then match keysK ds with
      | some kvs => some (.tmp (.dk (allK kvs)), e1)
      | none => match keysN ds with
        | some kvs => some (.tmp (.dn (allN kvs)), e1)
        | none => none
    else none) := rfl
theorem keysK_len : ∀ {ds : List (PyData × PyData)} {kvs : List (Key × PyData)}, keysK ds = some kvs → kvs.length = ds.length
  | [], _, e => by cases e; rfl
  | p :: ds, kvs, e => by
    unfold keysK at e
    split at e
    · cases e
    split at e
    · cases e
    rename_i r hr
    cases e
    simp [keysK_len hr]
theorem keysN_len : ∀ {ds : List (PyData × PyData)} {kvs : List (NestedKey × PyData)}, keysN ds = some kvs → kvs.length = ds.length
  | [], _, e => by cases e; rfl
  | p :: ds, kvs, e => by
    unfold keysN at e
    split at e
    · cases e
    split at e
    · cases e
    rename_i r hr
    cases e
    simp [keysN_len hr]
theorem e_disp {X : Cx} {pos : Pos} {keys : List (Option Expr)} {values : List Expr} {ps : EPs} (hu : X.A.units + 9 < cLine) (h : PPs X pos keys values (trsOf X.K ps)) (hall : keys.all (·.isSome) = true := by rfl) (hl : keys.length = values.length := by rfl) (h0 : keys ≠ [] := by decide)
    (h15 : keys.length ≤ 15 := by decide) : PE X (.Dict keys values pos) (tE X.K (eDisp ps)) := by
  refine ⟨fun pins s σ H Q I t => ?_⟩
  obtain ⟨B, env, d, env', en, ev, q⟩ := t
  unfold eDisp at ev
  split at ev
  · cases ev
  rename_i ds e1 h1
  split at ev
  · rename_i hl15
    split at ev
    · rename_i kvs hk
      cases ev
      refine (pe_disp h hall hl h0 h15).run pins s σ H Q I fun p np => ?_
      obtain ⟨g, a1⟩ := (At.refl en).alloc en np (.dK []) True (fun _ => False) (fun _ f => f.elim)
      refine rd_pairs a1.en h1 fun B2 H2 vs a2 r2 => ?_
      have a12 := a1.trans en a2
      have wp : ¬ Wof σ env p := fun w => by
        obtain ⟨o, ho⟩ := en.dom p (en.wb p w)
        rw [np] at ho; cases ho
      have k2 : H2 p = some (.dK []) := a2.st.keep p _ upd_same (.inl wp)
      have b2 : B2 p := a2.st.old p (.inr ⟨trivial, rfl⟩) wp
      have ns : ∀ (i : Nat) m d, env'[i]? = some (some (S.mu m d)) → σ[i]? ≠ some (some (V.ref p)) := fun i m d z1 z2 => by
        obtain ⟨c', z3⟩ := a2.sm i m d z1
        obtain ⟨b, z4, z5, _⟩ := en.mu i m c' z3
        rw [z4] at z2
        cases z2
        obtain ⟨o, ho⟩ := en.dom _ z5
        rw [np] at ho; cases ho
      obtain ⟨ws, e1, r3⟩ := keysK_ok r2 hk
      refine ⟨k2, ws, e1, by rw [Paired.length r3, keysK_len hk]; exact hl15, ?_⟩
      obtain ⟨g3, a3⟩ := At.put (o := .dK (mergeK [] ws)) en a12 np b2 k2 (fun z => z) ns
      exact q _ _ _ a3 ⟨p, rfl, np, b2, ⟨_, upd_same, (KvR.merge r3 (.nil : KvR X.K B2 H2 [] [])).grow g3⟩, ns⟩
    · split at ev
      · rename_i kvs hk
        cases ev
        refine (pe_dispN hu h hall hl h0 h15).run pins s σ H Q I fun p np => ?_
        obtain ⟨g, a1⟩ := (At.refl en).alloc en np (.dK []) True (fun _ => False) (fun _ f => f.elim)
        refine rd_pairs a1.en h1 fun B2 H2 vs a2 r2 => ?_
        have a12 := a1.trans en a2
        have wp : ¬ Wof σ env p := fun w => by
          obtain ⟨o, ho⟩ := en.dom p (en.wb p w)
          rw [np] at ho; cases ho
        have k2 : H2 p = some (.dK []) := a2.st.keep p _ upd_same (.inl wp)
        have b2 : B2 p := a2.st.old p (.inr ⟨trivial, rfl⟩) wp
        have ns : ∀ (i : Nat) m d, env'[i]? = some (some (S.mu m d)) → σ[i]? ≠ some (some (V.ref p)) := fun i m d z1 z2 => by
          obtain ⟨c', z3⟩ := a2.sm i m d z1
          obtain ⟨b, z4, z5, _⟩ := en.mu i m c' z3
          rw [z4] at z2
          cases z2
          obtain ⟨o, ho⟩ := en.dom _ z5
          rw [np] at ho; cases ho
        refine ⟨k2, B2, kvs, keysN_ok r2 hk, by rw [keysN_len hk]; exact hl15, fun es r => ?_⟩
        obtain ⟨g3, a3⟩ := At.put (o := DnO p es) en a12 np b2 k2 (fun z => z) ns
        exact q _ _ _ a3 ⟨p, rfl, np, b2, ⟨es, upd_same, DnR.grow g3 r⟩, ns⟩
      · cases ev
  · cases ev
section
variable {X : Cx} {pos : Pos}
theorem ds_nil : PPs X pos [] [] (trsOf X.K []) := pps_nil
theorem ds_cons {k v : Expr} {ks : List (Option Expr)} {vs : List Expr} {fk fv : EE} {ps : EPs} (hk : PE X k (tE X.K fk)) (hv : PE X v (tE X.K fv)) (hr : PPs X pos ks vs (trsOf X.K ps)) : PPs X pos (some k :: ks) (v :: vs) (trsOf X.K ((fk, fv) :: ps)) := pps_cons hk hv hr
end
/-! ### what is asked of a dict, in a slot or just made -/
def rGet (env : Sl) : R → PyData → Option (Option PyData)
  | .var j, y => dGet env j y
  | .tmp c, y => cGet c y
  | .pd _, _ => none
  | .nt _, _ => none
theorem rGet_ok {K : PySem.W.Frag} {H₀ : Hp} {B : Mset} {H : Hp} {σ : St} {env : Sl} {w v : V} {d : R} {y : PyData} {o : Option PyData} (en : EnvR K B H σ env) (h : RA K H₀ B H σ env w d) (r : Rp K B H v y) (e : rGet env d y = some o) : ∃ a, w = .ref a ∧ DGt K B H a v o := by
  cases d with
  | pd x => cases e
  | nt x => cases e
  | var j => exact dGet_ok en h r e
  | tmp c =>
    obtain ⟨a, rfl, _, _, hc, _⟩ := h
    exact ⟨a, rfl, cGet_ok hc r e⟩
/-- d[k] -/
def eDx (fd fk : EE) : EE := fun env => match fd env with
  | none => none
  | some (d0, e1) => match fk e1 with
    | none => none
    | some (d, e2) => match pdOf d with
      | none => none
      | some y => match rGet e2 d0 y with
        | some (some z) => some (.pd z, e2)
        | _ => none
@[simp] theorem z_dx (fd fk : EE) (env : Sl) : eDx fd fk env = (match fd env with
  | none => none
  | some (d0, e1) => match fk e1 with
    | none => none
    | some (d, e2) => match pdOf d with
      | none => none
      | some y => match rGet e2 d0 y with
        | some (some z) => some (.pd z, e2)
        | _ => none) := rfl
@[simp] theorem z_rGet1 (env : Sl) (j : Nat) (y : PyData) : rGet env (.var j) y = dGet env j y := rfl
@[simp] theorem z_rGet2 (env : Sl) (c : Ct) (y : PyData) : rGet env (.tmp c) y = cGet c y := rfl
theorem e_dx {X : Cx} {o i : Expr} {pos : Pos} {fd fk : EE} (hu : X.A.units + 9 < cLine) (ho : PE X o (tE X.K fd)) (hi : PE X i (tE X.K fk)) (hs : NoSl i := by intro _ _; rfl) : PE X (.Subscript o i pos) (tE X.K (eDx fd fk)) := PE.imp (pe_dg hu ho hi hs) fun σ H Q t => by
  obtain ⟨B, env, d, env', en, ev, q⟩ := t
  unfold eDx at ev
  split at ev
  · cases ev
  rename_i d0 e1 h1
  split at ev
  · cases ev
  rename_i d' e2 h2
  split at ev
  · cases ev
  rename_i y hy
  split at ev
  · rename_i z hz
    cases ev
    refine ⟨B, env, _, _, en, h1, fun B1 H1 w a1 r1 => ⟨B1, e1, _, _, a1.en, h2, fun B2 H2 v a2 r2 => ?_⟩⟩
    obtain ⟨a, rfl, g⟩ := rGet_ok a2.en (r1.ra.later a1.en a2) (pdOf_rp r2 hy) hz
    exact ⟨B2, a, z, rfl, g, fun v r => q B2 H2 v (a1.trans en a2) r⟩
  · cases ev
end T3

end
section
set_option linter.all false
set_option autoImplicit false
set_option Elab.async false
set_option maxRecDepth 100000
namespace T3
open PySem L2
/-! ### d.get(k), d.get(k, x) -/
def IsDD (H : Hp) (a : Addr) : Prop := (∃ ws, H a = some (.dK ws)) ∨ ∃ es, H a = some (DnO a es)
theorem isDD_at {X : Cx} {pins : List (Addr × Obj)} {σ : St} {H : Hp} {s : Shared} {a : Addr} (I : Inv X pins σ H s) (d : IsDD H a) :
    s.TypeIs (.ref a) "dict" ∧ (∀ b, Value.ref a = .ref b → ∃ ob, s.heap.get? b = some ob ∧ ob.dict = none) := by
  rcases d with ⟨kvs, e⟩ | ⟨es, e⟩
  · obtain ⟨t1, t2, _⟩ := isD_at I (.inl ⟨kvs, .inl e⟩)
    exact ⟨t1, t2⟩
  · obtain ⟨⟨y, z, o, ep, e1, e2, e3⟩, _⟩ := I.hok a _ e
    exact ⟨⟨o, e1, e2.1⟩, fun b q => by cases q; exact ⟨o, e1, e2.2.1⟩⟩
section
variable {X : Cx} {pins : List (Addr × Obj)} {σ : St} {H : Hp} {s : Shared} {a : Addr} {A : Around} {E : Value → Shared → Prop} {B : Mset} {y d : V} {u r : Value} {o : Option PyData} {x : PyData}
theorem dg_get2 {Q : Value → Shared → Prop} (hu : A.units + 9 < cLine) (I : Inv X pins σ H s) (g : DGt X.K B H a y o) (ry : RelV y u) (rd : RelV d r) (rp : Rp X.K B H d x)
    (h : ∀ w' s' v, Inv X pins σ H s' → RelV v w' → Rp X.K B H v (o.getD x) → Q w' s') : wpAny (model X.prog X.w) A (call (.builtin "dict.get") [.ref a, u, r]) Q E s := by
  rcases g with ⟨kvs, ws, k, e, rr, rfl, l⟩ | ⟨kvs, k, e, hk, rk, l⟩
  · refine d_get2 (o := valV ws k) (by omega) I (.inl ⟨ws, k, .inl e, rfl, rfl⟩) ry rd fun w' s' I' rv => h w' s' _ I' rv ?_
    rcases rr.val (k := k) with ⟨v, z, h1, h2, h3⟩ | ⟨h1, h2⟩
    · rw [l, h1, h2]; exact h3
    · rw [l, h1, h2]; exact rp
  · obtain ⟨b, rfl⟩ := nk_ref hk rk
    cases (show u = Value.ref b from ry)
    obtain ⟨ns, _, _, xs, dd, kn⟩ := dn_open I e
    refine call_meetsIn PySem.F.slot_dict_get dd.typeIs PySem.F.entry_dict_get (PySem.F.args_dict_get_3 _ _ _) (meetsH_dict_get_default (nestedKind X.prog X.w) a b ns r) ⟨room9 hu, k, xs, nk_key I hk rk, dd, ?_⟩
    rcases kn.val (k := k) with ⟨p, v, z, h1, h2, h3, h4⟩ | ⟨h1, h2⟩
    · rw [h1]
      exact h _ _ v (I.tok _) h3 (by rw [l, h2]; exact h4)
    · rw [h1]
      exact h _ _ d (I.tok _) rd (by rw [l, h2]; exact rp)
theorem dg_get1 {Q : Value → Shared → Prop} (hu : A.units + 9 < cLine) (I : Inv X pins σ H s) (g : DGt X.K B H a y o) (ry : RelV y u)
    (h : ∀ w' s' v, Inv X pins σ H s' → RelV v w' → Rp X.K B H v (o.getD .none) → Q w' s') : wpAny (model X.prog X.w) A (call (.builtin "dict.get") [.ref a, u]) Q E s := by
  rcases g with ⟨kvs, ws, k, e, rr, rfl, l⟩ | ⟨kvs, k, e, hk, rk, l⟩
  · refine d_get1 (o := valV ws k) (by omega) I (.inl ⟨ws, k, .inl e, rfl, rfl⟩) ry fun w' s' I' rv => h w' s' _ I' rv ?_
    rcases rr.val (k := k) with ⟨v, z, h1, h2, h3⟩ | ⟨h1, h2⟩
    · rw [l, h1, h2]; exact h3
    · rw [l, h1, h2]; exact .non
  · obtain ⟨b, rfl⟩ := nk_ref hk rk
    cases (show u = Value.ref b from ry)
    obtain ⟨ns, _, _, xs, dd, kn⟩ := dn_open I e
    refine call_meetsIn PySem.F.slot_dict_get dd.typeIs PySem.F.entry_dict_get (PySem.F.args_dict_get_2 _ _) (meetsH_dict_get (nestedKind X.prog X.w) a b ns) ⟨room9 hu, k, xs, nk_key I hk rk, dd, ?_⟩
    rcases kn.val (k := k) with ⟨p, v, z, h1, h2, h3, h4⟩ | ⟨h1, h2⟩
    · rw [h1]
      exact h _ _ v (I.tok _) h3 (by rw [l, h2]; exact h4)
    · rw [h1]
      exact h _ _ .non (I.tok _) rfl (by rw [l, h2]; exact .non)
end
def tGt2 (K : PySem.W.Frag) (td ty tx : TE) : TE := fun σ H Q => td σ H fun v H1 => ∃ a, v = .ref a ∧ IsDD H1 a ∧ ty σ H1 fun y H2 => tx σ H2 fun z H3 => ∃ B o x, DGt K B H3 a y o ∧ Rp K B H3 z x ∧ ∀ w, Rp K B H3 w (o.getD x) → Q w H3
def tGt1 (K : PySem.W.Frag) (td ty : TE) : TE := fun σ H Q => td σ H fun v H1 => ∃ a, v = .ref a ∧ IsDD H1 a ∧ ty σ H1 fun y H2 => ∃ B o, DGt K B H2 a y o ∧ ∀ w, Rp K B H2 w (o.getD .none) → Q w H2
section
variable {X : Cx} {o e f : Expr} {apos cpos : Pos} {td ty tx : TE}
theorem pe_gt2 (hu : X.A.units + 9 < cLine) (ho : PE X o td) (he : PE X e ty) (hf : PE X f tx) (m : M2 X o "get" apos e f cpos) : PE X (.Call (.Attribute o "get" apos) [e, f] [] cpos) (tGt2 X.K td ty tx) := by
  refine ⟨fun pins s σ H Q I h => ?_⟩
  refine wpAny_Call_method m.base m.few m.line PySem.F.plainAttrs_dict PySem.F.slot_dict_get PySem.F.type_dict_get (thn (ho.run pins s σ H _ I h) fun u s1 ⟨x, H1, I1, rx, a, ex, d, q1⟩ => ?_)
  subst ex
  obtain rfl : u = Value.ref a := rx
  obtain ⟨t1, t2⟩ := isDD_at I1 d
  refine ⟨t1, t2, ?_⟩
  rw [m.trees]
  refine Calls.callWith_builtin rfl (Calls.evalArgs_plain (Calls.spliced_cons (thn (he.run pins s1 σ H1 _ I1 q1) fun iv s2 ⟨y, H2, I2, ry, q2⟩ => Calls.spliced_cons (thn (hf.run pins s2 σ H2 _ I2 q2) fun fv s3 ⟨z, H3, I3, rz, B, ov, xx, g, rp, q3⟩ => Calls.spliced_nil ?_))))
  exact dg_get2 hu I3 g ry rz rp fun w' s4 v I4 rw' rpv => ⟨v, H3, I4, rw', q3 v rpv⟩
theorem pe_gt1 (hu : X.A.units + 9 < cLine) (ho : PE X o td) (he : PE X e ty) (m : M1 X o "get" apos e cpos) : PE X (.Call (.Attribute o "get" apos) [e] [] cpos) (tGt1 X.K td ty) := by
  refine ⟨fun pins s σ H Q I h => ?_⟩
  refine wpAny_Call_method m.base m.few m.line PySem.F.plainAttrs_dict PySem.F.slot_dict_get PySem.F.type_dict_get (thn (ho.run pins s σ H _ I h) fun u s1 ⟨x, H1, I1, rx, a, ex, d, q1⟩ => ?_)
  subst ex
  obtain rfl : u = Value.ref a := rx
  obtain ⟨t1, t2⟩ := isDD_at I1 d
  refine ⟨t1, t2, ?_⟩
  rw [m.trees]
  refine Calls.callWith_builtin rfl (Calls.evalArgs_plain (Calls.spliced_cons (thn (he.run pins s1 σ H1 _ I1 q1) fun iv s2 ⟨y, H2, I2, ry, B, ov, g, q2⟩ => Calls.spliced_nil ?_)))
  exact dg_get1 hu I2 g ry fun w' s4 v I4 rw' rpv => ⟨v, H2, I4, rw', q2 v rpv⟩
end
def isDc (env : Sl) : R → Bool
  | .var j => match env[j]? with
    | some (some (.mu _ (.dk _))) => true
    | some (some (.mu _ (.dn _))) => true
    | _ => false
  | .tmp (.dk _) => true
  | .tmp (.dn _) => true
  | _ => false
theorem isDc_ok {K : PySem.W.Frag} {H₀ : Hp} {B : Mset} {H : Hp} {σ : St} {env : Sl} {w : V} {d : R} (en : EnvR K B H σ env) (h : RA K H₀ B H σ env w d) (e : isDc env d = true) : ∃ a, w = .ref a ∧ IsDD H a := by
  cases d with
  | pd x => cases e
  | nt x => cases e
  | var j =>
    dsimp only [isDc] at e
    split at e
    · rename_i m kvs hm
      obtain ⟨a, h1, _, ws, h2, _⟩ := en.mu _ _ _ hm
      have h : σ[j]? = some (some w) := h
      rw [h] at h1
      cases h1
      exact ⟨a, rfl, .inl ⟨ws, h2⟩⟩
    · rename_i m kvs hm
      obtain ⟨a, h1, _, es, h2, _⟩ := en.mu _ _ _ hm
      have h : σ[j]? = some (some w) := h
      rw [h] at h1
      cases h1
      exact ⟨a, rfl, .inr ⟨es, h2⟩⟩
    · cases e
  | tmp c =>
    obtain ⟨a, rfl, _, _, hc, _⟩ := h
    cases c with
    | ls xs => cases e
    | dk kvs => obtain ⟨ws, h2, _⟩ := hc; exact ⟨a, rfl, .inl ⟨ws, h2⟩⟩
    | dn kvs => obtain ⟨es, h2, _⟩ := hc; exact ⟨a, rfl, .inr ⟨es, h2⟩⟩
def eGt2 (fd fk fx : EE) : EE := fun env => match fd env with
  | none => none
  | some (d0, e1) => if isDc e1 d0 = true then match fk e1 with
      | none => none
      | some (d, e2) => match pdOf d with
        | none => none
        | some y => match fx e2 with
          | none => none
          | some (d', e3) => match pdOf d' with
            | none => none
            | some x => match rGet e3 d0 y with
              | some o => some (.pd (o.getD x), e3)
              | none => none
    else none
def eGt1 (fd fk : EE) : EE := fun env => match fd env with
  | none => none
  | some (d0, e1) => if isDc e1 d0 = true then match fk e1 with
      | none => none
      | some (d, e2) => match pdOf d with
        | none => none
        | some y => match rGet e2 d0 y with
          | some o => some (.pd (o.getD .none), e2)
          | none => none
    else none
@[simp] theorem z_gt2 (fd fk fx : EE) (env : Sl) : eGt2 fd fk fx env = (match fd env with
  | none => none
  | some (d0, e1) => if isDc e1 d0 = true then match fk e1 with
      | none => none
      | some (d, e2) => match pdOf d with
        | none => none
        | some y => match fx e2 with
          | none => none
          | some (d', e3) => match pdOf d' with
            | none => none
            | some x => match rGet e3 d0 y with
              | some o => some (.pd (o.getD x), e3)
              | none => none
    else none) := rfl
@[simp] theorem z_gt1 (fd fk : EE) (env : Sl) : eGt1 fd fk env = (match fd env with
  | none => none
  | some (d0, e1) => if isDc e1 d0 = true then match fk e1 with
      | none => none
      | some (d, e2) => match pdOf d with
        | none => none
        | some y => match rGet e2 d0 y with
          | some o => some (.pd (o.getD .none), e2)
          | none => none
    else none) := rfl
section
variable {X : Cx} {o e f : Expr} {apos cpos : Pos} {fd fk fx : EE}
theorem e_gt2 (hu : X.A.units + 9 < cLine) (ho : PE X o (tE X.K fd)) (he : PE X e (tE X.K fk)) (hf : PE X f (tE X.K fx)) (m : M2 X o "get" apos e f cpos := by exact ⟨by rfl, by rfl, by rfl, by rfl⟩) : PE X (.Call (.Attribute o "get" apos) [e, f] [] cpos) (tE X.K (eGt2 fd fk fx)) := PE.imp (pe_gt2 hu ho he hf m) fun σ H Q t => by
  obtain ⟨B, env, d, env', en, ev, q⟩ := t
  unfold eGt2 at ev
  split at ev
  · cases ev
  rename_i d0 e1 h1
  split at ev
  · rename_i hd
    split at ev
    · cases ev
    rename_i d1 e2 h2
    split at ev
    · cases ev
    rename_i y hy
    split at ev
    · cases ev
    rename_i d2 e3 h3
    split at ev
    · cases ev
    rename_i x hx
    split at ev
    · rename_i ov hg
      cases ev
      refine ⟨B, env, _, _, en, h1, fun B1 H1 w a1 r1 => ?_⟩
      obtain ⟨a, rfl, dd⟩ := isDc_ok a1.en r1.ra hd
      refine ⟨a, rfl, dd, B1, e1, _, _, a1.en, h2, fun B2 H2 v a2 r2 => ⟨B2, e2, _, _, a2.en, h3, fun B3 H3 z a3 r3 => ?_⟩⟩
      have a23 := a2.trans a1.en a3
      obtain ⟨a', e', g⟩ := rGet_ok a3.en (r1.ra.later a1.en a23) ((pdOf_rp r2 hy).grow (a3.grow a2.en)) hg
      cases e'
      exact ⟨B3, ov, x, g, pdOf_rp r3 hx, fun w r => q B3 H3 w ((a1.trans en a2).trans en a3) r⟩
    · cases ev
  · cases ev
theorem e_gt1 (hu : X.A.units + 9 < cLine) (ho : PE X o (tE X.K fd)) (he : PE X e (tE X.K fk)) (m : M1 X o "get" apos e cpos := by exact ⟨by rfl, by rfl, by rfl, by rfl⟩) : PE X (.Call (.Attribute o "get" apos) [e] [] cpos) (tE X.K (eGt1 fd fk)) := PE.imp (pe_gt1 hu ho he m) fun σ H Q t => by
  obtain ⟨B, env, d, env', en, ev, q⟩ := t
  unfold eGt1 at ev
  split at ev
  · cases ev
  rename_i d0 e1 h1
  split at ev
  · rename_i hd
    split at ev
    · cases ev
    rename_i d1 e2 h2
    split at ev
    · cases ev
    rename_i y hy
    split at ev
    · rename_i ov hg
      cases ev
      refine ⟨B, env, _, _, en, h1, fun B1 H1 w a1 r1 => ?_⟩
      obtain ⟨a, rfl, dd⟩ := isDc_ok a1.en r1.ra hd
      refine ⟨a, rfl, dd, B1, e1, _, _, a1.en, h2, fun B2 H2 v a2 r2 => ?_⟩
      obtain ⟨a', e', g⟩ := rGet_ok a2.en (r1.ra.later a1.en a2) (pdOf_rp r2 hy) hg
      cases e'
      exact ⟨B2, ov, g, fun w r => q B2 H2 w (a1.trans en a2) r⟩
    · cases ev
  · cases ev
end
end T3

end
section
set_option linter.all false
set_option autoImplicit false
set_option Elab.async false
set_option maxRecDepth 100000
namespace T3
open PySem L2
/-! ### list(range(..)) -/
noncomputable def kLrg : KK := fun ds env => match ds with
  | [.pd (.int n)] => if RgOk 0 n then some (.tmp (.ls (rgT 0 n)), env) else none
  | [.pd (.int i), .pd (.int j)] => if RgOk i j then some (.tmp (.ls (rgT i j)), env) else none
  | _ => none
noncomputable def eLrg (f : EA) : EE := eThen f kLrg
@[simp] theorem z_lrg (f : EA) (env : Sl) : eLrg f env = (match f env with
  | none => none
  | some (ds, e1) => kLrg ds e1) := rfl
section
variable {X : Cx} {a b : Expr} {fa fb : EE} {p p2 pos pos2 : Pos}
theorem rl_fin {K : PySem.W.Frag} {σ : St} {B B1 : Mset} {H H1 : Hp} {env env1 : Sl} {q : Addr} {ws : List V} {xs : List PyData} {Q : VK} (en : EnvR K B H σ env) (a : At K σ B H env B1 H1 env1) (np : H1 q = none) (hw : ∀ B H, RpA K B H ws xs)
    (k : ∀ B' H' v, At K σ B H env B' H' env1 → RR K H B' H' σ env1 v (.tmp (.ls xs)) → Q v H') : Q (.ref q) (upd H1 q (.lst ws)) := con_new en a np (hw _ _) k
theorem x_lrg1 (zt : X.mg "list" = none) (zr : X.mg "range" = none) (ha : PE X a (tE X.K fa)) (hc : X.calm = true := by rfl) (hg : Gl X "list" := by rfl) (hg2 : Gl X "range" := by rfl) (na : starEach [a] X.env = (false, eval a X.env) :: starEach [] X.env := by rfl)
    (nt : starEach [.Call (.Name "range" p2) [a] [] pos2] X.env = (false, eval (.Call (.Name "range" p2) [a] [] pos2) X.env) :: starEach [] X.env := by rfl) : PE X (.Call (.Name "list" p) [.Call (.Name "range" p2) [a] [] pos2] [] pos) (tE X.K (eLrg (eCons fa eNil))) :=
  PE.imp (pe_listRg hc hg zt (prg_1 hg2 zr ha na) nt) fun σ H Q t => by
    obtain ⟨B, env, d, env', en, ev, q⟩ := t
    unfold eLrg eThen at ev
    rw [z_cons] at ev
    cases h1 : fa env with
    | none => rw [h1] at ev; cases ev
    | some r =>
      obtain ⟨d1, e1⟩ := r
      rw [h1] at ev
      simp only [z_nil, kLrg] at ev
      split at ev
      · rename_i ds n he
        cases he
        split at ev
        · rename_i ok
          cases ev
          refine ⟨B, env, _, _, en, h1, fun B1 H1 v a1 r1 => ?_⟩
          have r1 : Rp X.K B1 H1 v (.int n) := r1
          cases r1
          exact ⟨n, rfl, ok, fun p np => rl_fin en a1 np (fun _ _ => rg_rp) q⟩
        · cases ev
      · rename_i he; cases he
      · cases ev
theorem x_lrg2 (zt : X.mg "list" = none) (zr : X.mg "range" = none) (ha : PE X a (tE X.K fa)) (hb : PE X b (tE X.K fb)) (hc : X.calm = true := by rfl) (hg : Gl X "list" := by rfl) (hg2 : Gl X "range" := by rfl) (na : starEach [a, b] X.env = (false, eval a X.env) :: starEach [b] X.env := by rfl)
    (nb : starEach [b] X.env = (false, eval b X.env) :: starEach [] X.env := by rfl) (hp : (backTo pos2 (starEach [b] X.env)).any (·.1) = false := by rfl)
    (nt : starEach [.Call (.Name "range" p2) [a, b] [] pos2] X.env = (false, eval (.Call (.Name "range" p2) [a, b] [] pos2) X.env) :: starEach [] X.env := by rfl) : PE X (.Call (.Name "list" p) [.Call (.Name "range" p2) [a, b] [] pos2] [] pos) (tE X.K (eLrg (eCons fa (eCons fb eNil)))) :=
  PE.imp (pe_listRg hc hg zt (prg_2 hg2 zr ha hb na nb hp) nt) fun σ H Q t => by
    obtain ⟨B, env, d, env', en, ev, q⟩ := t
    unfold eLrg eThen at ev
    rw [z_cons] at ev
    cases h1 : fa env with
    | none => rw [h1] at ev; cases ev
    | some r =>
      obtain ⟨d1, e1⟩ := r
      rw [h1] at ev
      cases h2 : fb e1 with
      | none => simp only [z_cons, h2] at ev; cases ev
      | some r2 =>
        obtain ⟨d2, e2⟩ := r2
        simp only [z_cons, h2, z_nil, kLrg] at ev
        split at ev
        · rename_i he; cases he
        · rename_i ds i j he
          cases he
          split at ev
          · rename_i ok
            cases ev
            refine ⟨B, env, _, _, en, h1, fun B1 H1 v a1 r1 => ⟨B1, e1, _, _, a1.en, h2, fun B2 H2 w a2 r2 => ?_⟩⟩
            have r1 : Rp X.K B1 H1 v (.int i) := r1
            have r2 : Rp X.K B2 H2 w (.int j) := r2
            cases r1
            cases r2
            exact ⟨i, j, rfl, rfl, ok, fun p np => rl_fin en (a1.trans en a2) np (fun _ _ => rg_rp) q⟩
          · cases ev
        · cases ev
end
/-! ### sorted(set(pairs)) -/
def ddp : List (Int × Int) → List (Int × Int)
  | [] => []
  | p :: r => if p ∈ r then ddp r else p :: ddp r
theorem mem_ddp {q : Int × Int} : ∀ {ps : List (Int × Int)}, q ∈ ddp ps ↔ q ∈ ps
  | [] => Iff.rfl
  | p :: r => by
    unfold ddp
    split
    · rename_i h
      rw [mem_ddp, List.mem_cons]
      exact ⟨fun z => .inr z, fun z => z.elim (fun e => e ▸ h) id⟩
    · rw [List.mem_cons, List.mem_cons, mem_ddp]
theorem nd_ddp : ∀ ps : List (Int × Int), (ddp ps).Nodup
  | [] => List.nodup_nil
  | p :: r => by
    unfold ddp
    split
    · exact nd_ddp r
    · rename_i h
      exact List.nodup_cons.mpr ⟨fun z => h (mem_ddp.mp z), nd_ddp r⟩
theorem perm_nd : ∀ {xs ys : List (Int × Int)}, xs.Nodup → ys.Nodup → (∀ q, q ∈ xs ↔ q ∈ ys) → xs.Perm ys
  | [], ys, _, _, h => by
    cases ys with
    | nil => exact .nil
    | cons y ys => exact absurd ((h y).mpr (by simp)) (by simp)
  | x :: xs, ys, h1, h2, h => by
    have hx : x ∈ ys := (h x).mp (by simp)
    obtain ⟨a, b, rfl⟩ := List.append_of_mem hx
    have h1' := List.nodup_cons.mp h1
    have h2' : (x :: (a ++ b)).Nodup := (List.perm_middle.nodup_iff).mp h2
    have h3' := List.nodup_cons.mp h2'
    refine (List.Perm.cons x (perm_nd h1'.2 h3'.2 fun q => ?_)).trans List.perm_middle.symm
    constructor
    · intro z
      have := (h q).mp (by simp [z])
      rcases List.mem_append.mp this with u | u
      · simp [u]
      · rcases List.mem_cons.mp u with rfl | u
        · exact absurd z h1'.1
        · simp [u]
    · intro z
      have : q ∈ x :: xs := (h q).mpr (by rcases List.mem_append.mp z with u | u <;> simp [u])
      rcases List.mem_cons.mp this with rfl | u
      · exact absurd z h3'.1
      · exact u
theorem ms_pair {ps qs : List (Int × Int)} (hb : ∀ p ∈ qs, 0 ≤ p.1 ∧ p.1 < 64 ∧ 0 ≤ p.2 ∧ p.2 < 64) (h1 : ps.Perm qs) (h2 : ps.Pairwise (fun p q => p.1 * 64 + p.2 ≤ q.1 * 64 + q.2)) : ps = qs.mergeSort prLe := by
  have hb' : ∀ p ∈ ps, 0 ≤ p.1 ∧ p.1 < 64 ∧ 0 ≤ p.2 ∧ p.2 < 64 := fun p hp => hb p (h1.mem_iff.mp hp)
  refine List.Perm.eq_of_pairwise (le := fun p q : Int × Int => p.1 * 64 + p.2 ≤ q.1 * 64 + q.2) (fun a b ha hb2 x y => ?_) h2 ?_ (h1.trans (List.mergeSort_perm _ _).symm)
  · have a1 := hb' a ha
    have b1 := hb b ((List.mergeSort_perm qs prLe).mem_iff.mp hb2)
    exact Prod.ext (by omega) (by omega)
  · have := List.pairwise_mergeSort (le := prLe) (fun a b c h1 h2 => by unfold prLe at *; simp at h1 h2 ⊢; omega) (fun a b => by unfold prLe; simp; omega) qs
    exact this.imp (by intro a b h; unfold prLe at h; simpa using h)

theorem refs_of {K : PySem.W.Frag} {B : Mset} {H : Hp} : ∀ {us : List V} {ps : List (Int × Int)}, RpA K B H us (ps.map clD) → ∃ ks : List (Addr × (Int × Int)), us = ks.map (fun p => V.ref p.1) ∧ ks.map (·.2) = ps ∧ ∀ p ∈ ks, Rp K B H (.ref p.1) (clD p.2)
  | _, [], .nil => ⟨[], rfl, rfl, fun p hp => by simp at hp⟩
  | _, p :: ps, .cons r t => by
    obtain ⟨ks, h1, h2, h3⟩ := refs_of t
    obtain ⟨b, rfl, _⟩ := tupI_of r
    refine ⟨(b, p) :: ks, by rw [h1]; rfl, by rw [List.map_cons, h2], fun q hq => ?_⟩
    rcases List.mem_cons.mp hq with e | e
    · rw [e]; exact r
    · exact h3 q e
theorem refs_to {K : PySem.W.Frag} {B : Mset} {H : Hp} : ∀ {L : List (Addr × List Int)}, (∀ q ∈ L, ∃ k : Addr × (Int × Int), Rp K B H (.ref k.1) (clD k.2) ∧ q = (k.1, [k.2.1, k.2.2])) → ∃ M : List (Int × Int), RpA K B H (L.map fun q => V.ref q.1) (M.map clD) ∧ L.map (·.2) = M.map fun p => [p.1, p.2]
  | [], _ => ⟨[], .nil, rfl⟩
  | q :: L, h => by
    obtain ⟨M, h1, h2⟩ := refs_to (fun x hx => h x (List.mem_cons_of_mem _ hx))
    obtain ⟨k, h3, h4⟩ := h q (List.mem_cons_self ..)
    refine ⟨k.2 :: M, ?_, ?_⟩
    · rw [h4]; exact .cons h3 h1
    · rw [List.map_cons, List.map_cons, h2, h4]
def kSrtSet : KK := fun ds env => match ds with
  | [d] => match ctn env d with
    | some (.list xs) => if xs.length < 64 then match pairs? xs with
        | some ps => some (.tmp (.ls (((ddp ps).mergeSort prLe).map clD)), env)
        | none => none
      else none
    | _ => none
  | _ => none
theorem c_srtSet {K : PySem.W.Frag} {P : Program} {w : World} : Con K kSrtSet (fun vs H1 Q => rSetOfT K P w vs H1 (fun v H2 => rSortedT K P w [v] H2 Q)) := by
  intro σ H B env B1 H1 env1 vs ds d e2 Q en a rr hk q
  unfold kSrtSet at hk
  split at hk
  · rename_i d1
    match vs, rr with
    | [v], rr =>
      split at hk
      · rename_i xs hx
        obtain ⟨p, us, rfl, h1, h2⟩ := (Cn.of a.en (rr.each 0 v d1 rfl rfl) hx).list
        split at hk
        · rename_i hl
          split at hk
          · rename_i ps hp
            cases hk
            obtain ⟨e, hb⟩ := pairs_eq hp
            subst e
            obtain ⟨ks, e1, e2, h3⟩ := refs_of h2
            subst e1
            have kb : ∀ k ∈ ks, 0 ≤ k.2.1 ∧ k.2.1 < 64 ∧ 0 ≤ k.2.2 ∧ k.2.2 < 64 := fun k hk => hb _ (by rw [← e2]; exact List.mem_map_of_mem hk)
            have sq : ∀ k ∈ ks, SqT K H1 k.1 [V.int k.2.1, V.int k.2.2] := fun k hk => by
              obtain ⟨b, e, t⟩ := tupI_of (h3 k hk)
              cases e; exact t
            refine ⟨p, ks.map (fun k => (k.1, [k.2.1, k.2.2])), rfl, ?_, ?_, ?_, fun s L ns hL1 hL2 => ?_⟩
            · rw [List.map_map]; exact h1
            · intro z hz
              obtain ⟨k, hk, rfl⟩ := List.mem_map.mp hz
              exact sq k hk
            · rw [List.length_map]
              have := congrArg List.length e2
              rw [List.length_map] at this hl
              omega
            have hm : ∀ z ∈ L, ∃ k ∈ ks, z = (k.1, [k.2.1, k.2.2]) := fun z hz => by
              obtain ⟨k, hk, e⟩ := List.mem_map.mp (hL1 z hz)
              exact ⟨k, hk, e.symm⟩
            obtain ⟨g, a2⟩ := a.alloc en ns (SetTO P w s L) False (fun _ => False) (fun _ f => f.elim)
            refine ⟨s, L, 2, 64, rfl, upd_same, fun z hz => ?_, by omega, fun z hz => ?_, fun L' r pm nd hf pw nr => ?_⟩
            · obtain ⟨k, hk, rfl⟩ := hm z hz
              exact SqT.grow g (sq k hk)
            · obtain ⟨k, hk, rfl⟩ := hm z hz
              refine ⟨rfl, fun m hm => ?_⟩
              have := kb k hk
              simp only [List.mem_cons, List.not_mem_nil, or_false] at hm
              rcases hm with e | e
              · rw [e]; exact ⟨this.1, this.2.1⟩
              · rw [e]; exact this.2.2
            obtain ⟨M, m1, m2⟩ := refs_to (K := K) (B := B1) (H := H1) (L := L') (fun z hz => by
              obtain ⟨k, hk, e⟩ := hm z (pm.mem_iff.mp hz)
              exact ⟨k, h3 k hk, e⟩)
            have mi : ∀ q : Int × Int, q ∈ M ↔ q ∈ ps := fun q => by
              have i1 : q ∈ M ↔ [q.1, q.2] ∈ L'.map (·.2) := by
                rw [m2]
                refine ⟨fun h => List.mem_map.mpr ⟨q, h, rfl⟩, fun h => ?_⟩
                obtain ⟨q', h', e⟩ := List.mem_map.mp h
                have : q' = q := by
                  simp at e
                  exact Prod.ext e.1 e.2
                rw [← this]; exact h'
              rw [i1, (pm.map (·.2)).mem_iff, ← e2]
              constructor
              · intro h
                obtain ⟨z, hz, e⟩ := List.mem_map.mp h
                obtain ⟨k, hk, rfl⟩ := hm z hz
                have : k.2 = q := by
                  simp at e
                  exact Prod.ext e.1 e.2
                rw [← this]
                exact List.mem_map_of_mem hk
              · intro h
                obtain ⟨k, hk, rfl⟩ := List.mem_map.mp h
                exact hL2 (k.1, [k.2.1, k.2.2]) (List.mem_map.mpr ⟨k, hk, rfl⟩)
            have mn : M.Nodup := by
              rw [m2] at nd
              exact List.Pairwise.imp (fun h e => h (by rw [e])) (List.pairwise_map.mp nd)
            have mo : M.Pairwise (fun x y => x.1 * 64 + x.2 ≤ y.1 * 64 + y.2) := by
              have h5 : (L'.map (·.2)).Pairwise (fun x y => TS.code 64 x ≤ TS.code 64 y) := List.pairwise_map.mpr pw
              rw [m2] at h5
              refine List.Pairwise.imp (fun h => ?_) (List.pairwise_map.mp h5)
              rw [code_pr, code_pr] at h
              exact h
            have eq : M = (ddp ps).mergeSort prLe := ms_pair (fun z hz => hb z (mem_ddp.mp hz)) (perm_nd mn (nd_ddp ps) fun q => (mi q).trans mem_ddp.symm) mo
            rw [← eq] at q
            exact con_new en a2 nr (m1.grow g) q
          · cases hk
        · cases hk
      · cases hk
  · cases hk
theorem x_srtSet {X : Cx} {e : Expr} {fe : EE} {p p2 pos pos2 : Pos} (hu : X.A.units + 64 < cLine) (hm : X.mg "sorted" = none) (hm2 : X.mg "set" = none) (ha : PE X e (tE X.K fe)) (hc : X.calm = true := by rfl) (hg : Gl X "sorted" := by rfl) (hg2 : Gl X "set" := by rfl)
    (he : starEach [e] X.env = (false, eval e X.env) :: starEach [] X.env := by rfl) (nt : starEach [.Call (.Name "set" p2) [e] [] pos2] X.env = (false, eval (.Call (.Name "set" p2) [e] [] pos2) X.env) :: starEach [] X.env := by rfl) :
    PE X (.Call (.Name "sorted" p) [.Call (.Name "set" p2) [e] [] pos2] [] pos) (tE X.K (eThen (eOne fe) kSrtSet)) := by
  have h1 := pe_callTy (pos := pos2) (p := p2) (L2.cr_setOfT hc hu) hg2 hm2 (by decide +kernel) (a_cons ha a_nil he) (by decide) (by decide) he (by rfl)
  have h2 := pe_callB (pos := pos) (p := p) (L2.cr_sortedT (X := X) hc) hg hm (by decide +kernel) (pa_cons h1 pa_nil nt) (by decide) (by decide) nt (by rfl)
  exact PE.imp h2 fun σ H Q t => rd_then c_srtSet t
/-! ### len(set(ints)), the ints all different -/
def kLenSet : KK := fun ds env => match ds with
  | [d] => match ctn env d with
    | some (.list xs) => match ints? xs with
      | some ns => if ns.length < 64 ∧ ns.Nodup then some (.pd (.int ns.length), env) else none
      | none => none
    | _ => none
  | _ => none
theorem c_lenSet {K : PySem.W.Frag} : Con K kLenSet (l1 fun x H1 Q => ∃ (l : Addr) (ns : List Int), x = V.ref l ∧ SqL K H1 l (ns.map V.int) ∧ ns.length < 64 ∧ ns.Nodup ∧ Q (.int ns.length) H1) := by
  intro σ H B env B1 H1 env1 vs ds d e2 Q en a rr hk q
  intro x hx0
  subst hx0
  unfold kLenSet at hk
  split at hk
  · rename_i d1
    split at hk
    · rename_i xs hx
      obtain ⟨p, us, rfl, h1, h2⟩ := (Cn.of a.en (rr.each 0 x d1 rfl rfl) hx).list
      split at hk
      · rename_i ns hn
        split at hk
        · rename_i hh
          cases hk
          rw [ints_map hn] at h2
          have e := h2.ints
          subst e
          exact ⟨p, ns, rfl, h1, hh.1, hh.2, q _ _ _ a (Rp.int _)⟩
        · cases hk
      · cases hk
    · cases hk
  · cases hk
theorem x_lenSet {X : Cx} {e : Expr} {fe : EE} {p p2 q pos : Pos} (hm : X.mg "len" = none) (hm2 : X.mg "set" = none) (ha : PE X e (tE X.K fe)) (hc : X.calm = true := by rfl) (hg : Gl X "len" := by rfl) (hg2 : Gl X "set" := by rfl)
    (na : starEach [e] X.env = (false, eval e X.env) :: starEach [] X.env := by rfl) : PE X (.Call (.Name "len" p) [.Call (.Name "set" p2) [e] [] q] [] pos) (tE X.K (eThen (eOne fe) kLenSet)) :=
  PE.imp (L2.pe_lenSetI hc hg hm hg2 hm2 ha na) fun _ _ _ t => rd_one c_lenSet t
end T3

end
section
set_option linter.all false
set_option autoImplicit false
set_option Elab.async false
set_option maxRecDepth 100000
namespace T3
open PySem L2
/-! ### list * int, text * int -/
def kRepL : KK := fun ds env => match ds with
  | [d, .pd (.int k)] => match lsOf env d with
    | none => none
    | some xs => if 0 ≤ k ∧ k ≤ 1000 ∧ xs.length ≤ 1000 then some (.tmp (.ls (List.replicate k.toNat xs).flatten), env) else none
  | _ => none
theorem c_repL {K : PySem.W.Frag} : Con K kRepL (l2 rRep) := by
  intro σ H B env B1 H1 env1 vs ds d e2 Q en a rr hk q x y e
  unfold kRepL at hk
  split at hk
  · rename_i d1 k
    split at hk
    · cases hk
    rename_i xs hx
    split at hk
    · rename_i hl
      cases hk
      subst e
      obtain ⟨p, us, rfl, h1, h2⟩ := lsOf_at a.en (rr.each 0 x d1 rfl rfl) hx
      have h3 : Rp K B1 H1 y (.int k) := rr.each 1 y (.pd (.int k)) rfl rfl
      cases h3
      have hm : xs.length * k.toNat ≤ 1000 * 1000 := Nat.mul_le_mul hl.2.2 (by omega)
      exact ⟨p, k, us, rfl, rfl, h1, by omega, by omega, by rw [h2.length]; exact Nat.le_of_lt (small hm), fun r nr => con_new en a nr (h2.rep _) q⟩
    · cases hk
  · cases hk
def oRepS : List PyData → Option PyData
  | [.str s, .int k] => if 0 ≤ k ∧ k ≤ 1000 ∧ s.length ≤ 1000 then some (.str (Txt.mul s k)) else none
  | _ => none
def rRepS : R2 := fun x y H Q => ∃ s k, x = .str s ∧ y = .int k ∧ 0 ≤ k ∧ k ≤ 1000 ∧ s.length ≤ 1000 ∧ Q (.str (Txt.mul s k)) H
theorem mulOk_of {s : Str} {k : Int} (h1 : 0 ≤ k) (h2 : k ≤ 1000) (h3 : s.length ≤ 1000) : MulOk s k := by
  have hm : s.length * k.toNat ≤ 1000 * 1000 := Nat.mul_le_mul h3 (by omega)
  refine ⟨?_, fun h4 _ => ?_, fun h4 _ => ?_⟩
  · rw [Bool.or_eq_false_iff, decide_eq_false_iff_not, decide_eq_false_iff_not]
    omega
  · have : ((2 : Int) ^ 63 - 1) / 1000 ≤ (2 ^ 63 - 1) / k := by
      refine Int.le_ediv_of_mul_le (by omega) ?_
      have : ((2 : Int) ^ 63 - 1) / 1000 * k ≤ ((2 : Int) ^ 63 - 1) / 1000 * 1000 := Int.mul_le_mul_of_nonneg_left h2 (by decide)
      have h5 : ((2 : Int) ^ 63 - 1) / 1000 * 1000 ≤ 2 ^ 63 - 1 := by decide
      omega
    have h6 : (1000 : Int) ≤ (2 ^ 63 - 1) / 1000 := by decide
    omega
  · show decide (s.length * k.toNat > sizeLine) = false
    rw [decide_eq_false_iff_not]
    have := small hm
    omega
theorem op_repS {X : Cx} : OpR X (binaryOp .Mult) rRepS := by
  intro pins s σ H x y v u Q I rx ry h
  obtain ⟨i, k, rfl, rfl, h1, h2, h3, q⟩ := h
  obtain ⟨t, rfl⟩ := rx
  obtain ⟨t', rfl⟩ := ry
  exact SB.mul (mulOk_of h1 h2 h3) (fun t' tk => ⟨.str _, H, I.tok _, ⟨_, rfl⟩, q⟩)
theorem ok_repS {K : PySem.W.Frag} : OkE K oRepS (l2 rRepS) := by
  intro B H vs xs z Q cn ho q x y e
  unfold oRepS at ho
  split at ho
  · split at ho
    · rename_i hl
      cases ho
      obtain ⟨v, w, e2, c1, c2⟩ := cn.two
      rw [e] at e2
      cases e2
      exact ⟨_, _, c1.str, c2.int, hl.1, hl.2.1, hl.2.2, q _ (Rp.str _)⟩
    · cases ho
  · cases ho
noncomputable def kMul2 : KK := kOr kRepL (kE oRepS)
noncomputable def eMul2 (fa fb : EE) : EE := eThen (eTwo fa fb) kMul2
@[simp] theorem z_mul2 (fa fb : EE) (env : Sl) : eMul2 fa fb env = eThen (eCons fa (eCons fb eNil)) kMul2 env := rfl
theorem x_mul2 {X : Cx} {a b : Expr} {fa fb : EE} {pos : Pos} (ha : PE X a (tE X.K fa)) (hb : PE X b (tE X.K fb)) : PE X (.BinOp a .Mult b pos) (tE X.K (eMul2 fa fb)) := e_op (OpR.or op_rep op_repS) (con_or2 c_repL (con_E ok_repS)) ha hb
end T3

end
section
set_option linter.all false
set_option autoImplicit false
set_option Elab.async false
set_option maxRecDepth 100000
namespace T3
open PySem L2
/-! ### a written tuple, known to have no own dict -/
def tTupD (t : TA) : TE := fun σ H Q => t σ H fun xs H1 => xs.length ≤ sizeLine ∧ ∀ p o, H1 p = none → o.dict = none → Q (.ref p) (upd H1 p (.frz o (.tup xs)))
theorem pe_tupD {X : Cx} {es : List Expr} {t : TA} {pos : Pos} {k : Nat} (h : PA X es t) : PE X (.Tuple es k pos) (tTupD t) := by
  refine ⟨fun pins s σ H Q I hq => ?_⟩
  refine wpAny_Tuple_spliced (thn (h.run pos pins s σ H _ I hq) fun us s1 ⟨xs, H1, I1, r, z, q⟩ => ⟨by rw [← r.length]; exact z, ?_⟩)
  refine ⟨.ref s1.heap.objs.size, _, I1.laid (t' := s1.toks) (o := .frz _ (.tup xs)) (fun b u e => Heap.get?_push_of_some _ e) (Nat.le_refl _) ⟨Heap.get?_push_size _ rfl, z, us, r, ⟨_, Heap.get?_push_size _ rfl, rfl, _, rfl⟩⟩, rfl, q _ _ (I1.hok.fresh (Nat.le_refl _)) rfl⟩
def kTupD : KK := fun ds env => match datas ds with
  | none => none
  | some xs => if xs.length ≤ 1000 then some (.nt xs, env) else none
theorem con_tupD {K : PySem.W.Frag} : Con K kTupD (fun xs H1 Q => xs.length ≤ sizeLine ∧ ∀ p o, H1 p = none → o.dict = none → Q (.ref p) (upd H1 p (.frz o (.tup xs)))) := by
  intro σ H B env B1 H1 env1 vs ds d e2 Q en a rr hk q
  unfold kTupD at hk
  split at hk
  · cases hk
  rename_i xs hx
  split at hk
  · rename_i hl
    cases hk
    refine ⟨by rw [rr.len, ← datas_len hx]; exact Nat.le_of_lt (small1000 hl), fun p o np hd => ?_⟩
    obtain ⟨g, a2⟩ := a.alloc en np (.frz o (.tup vs)) False (fzOf vs ds) rr.fz
    exact q _ _ _ a2 ⟨p, rfl, o, vs, upd_same, hd, rr.data g (keep_upd np) (fun q f h => h.elim (fun h => h.2 f) (fun h => h.1)) hx⟩
  · cases hk
theorem e_tupD {X : Cx} {es : List Expr} {f : EA} {pos : Pos} {k : Nat} (h : PA X es (tA X.K f)) : PE X (.Tuple es k pos) (tE X.K (eThen f kTupD)) := PE.imp (pe_tupD h) fun _ _ _ t => rd_then con_tupD t
end T3

end
section
set_option linter.all false
set_option autoImplicit false
set_option Elab.async false
namespace T3
open PySem L2
/-- name += e, of whole numbers -/
def sAug (i : Nat) (f : EE) : SS := fun env => match env[i]? with
  | some (some (.pd (.int a))) => match f env with
    | some (.pd (.int b), e) => match setR i (.pd (.int (a + b))) e with
      | none => none
      | some e2 => some (.nx, e2)
    | _ => none
  | _ => none
@[simp] theorem z_aug (i : Nat) (f : EE) (env : Sl) : sAug i f env = (match env[i]? with
  | some (some (.pd (.int a))) => match f env with
    | some (.pd (.int b), e) => match setR i (.pd (.int (a + b))) e with
      | none => none
      | some e2 => some (.nx, e2)
    | _ => none
  | _ => none) := rfl
theorem rd_aug {K : PySem.W.Frag} {i : Nat} {f : EE} {D : Ends} {σ : St} {H : Hp} (h : tS K (sAug i f) D σ H) : tAug i (tE K f) (ipI fun i j => i + j) D σ H := by
  obtain ⟨B, env, fl, env', en, ev, q⟩ := h
  unfold sAug at ev
  split at ev
  · rename_i a h0
    split at ev
    · rename_i b e1 h1
      split at ev
      · cases ev
      rename_i e2 h2
      cases ev
      obtain ⟨v, hv, hr⟩ := en.pd i _ h0
      cases hr
      refine ⟨_, hv, B, env, _, _, en, h1, fun B1 H1 v a1 r1 => ?_⟩
      cases r1
      exact ⟨a, b, rfl, rfl, q B1 _ H1 (AtS.set en a1.s (d := .pd (.int (a + b))) (.int _) h2)⟩
    · cases ev
  · cases ev
theorem s_aug {X : Cx} {e : Expr} {pos : Pos} {f : EE} {i : Nat} {x : Str} {pos' : Pos} (hN : X.N.Nodup) (hi : X.N[i]? = some x) (hx : Loc X.env.scope x) (he : PE X e (tE X.K f)) (hf : X.fn x = true ∨ X.env.scope.names.lookup x = some .local := by first | exact .inl rfl | exact .inr rfl | assumption) :
    PS X (.AugAssign (.Name x pos') .Add e pos) (tS X.K (sAug i f)) := PS.imp (ps_aug hN hi hx he ip_add hf) fun _ _ _ t => rd_aug t
end T3

end
section
set_option linter.all false
set_option autoImplicit false
set_option Elab.async false
set_option maxRecDepth 100000
namespace T3
open PySem L2
open Sem (wp)
open AutoSeq1 (wpAny_loadPart')
/-! ### enumerate(tuple) -/
abbrev eT1 (h : Heap) (t : Addr) : Heap := h.push { cls := .type "tuple_iterator", data := .fields #[.ref t, .int 0 0] }
abbrev eT2 (h : Heap) (t : Addr) : Heap := (eT1 h t).push { cls := .type "enumerate", data := .fields #[.none, .bool false, .ref h.objs.size, rawInt 0, .none, .none] }
theorem meets_enT (t : Addr) (us : Array Value) (k : Nat) (dd : Option Addr) (sl : Array (Option Value)) :
    Meets (Builtin.«enumerate.__new__» ⟨[.type "enumerate", .ref t], []⟩) (fun _ R s =>
      s.heap.get? t = some { cls := .type "tuple", dict := dd, data := .seq us k, slots := sl } ∧ R (.ok (.ret (.ref (eT1 s.heap t).objs.size))) { s with heap := eT2 s.heap t }) :=
  .of_wp fun prog w A R s q => by
    obtain ⟨h0, g, d, tk, os⟩ := s
    obtain ⟨ht, q⟩ := q
    have hsub := sub_enumerate
    have hT : Heap.IsTuple (Shared.heap ⟨h0, g, d, tk, os⟩) t us := ⟨_, ht, rfl, k, rfl⟩
    wp_walk using wpAny_loadPart' ht
    refine wpAny_stack_any fun z => wpAny_pure ?_
    split
    · rename_i c _ _ _ _ _
      cases (c == Value.type "enumerate") <;>
      · wp_walk using wpAny_loadPart' ht, wpAny_pyIter_tuple hT
        exact ⟨_, rfl, q⟩
    · wp_walk using wpAny_loadPart' ht, wpAny_pyIter_tuple hT
      exact ⟨_, rfl, q⟩
theorem call_enT {prog : Program} {w : World} {A : Around} {E : Value → Shared → Prop} {s : Shared} {t : Addr} {us : Array Value} {Q : Value → Shared → Prop} (hT : s.heap.IsTuple t us)
    (q : ∀ h', IsEnum h' (s.heap.objs.size + 1) s.heap.objs.size 0 .none → h'.IsTupleIter s.heap.objs.size t 0 → (∀ b o, s.heap.get? b = some o → h'.get? b = some o) → Q (.ref (s.heap.objs.size + 1)) { s with heap := h' }) :
    wpAny (model prog w) A (call (.type "enumerate") [.ref t]) Q E s := by
  obtain ⟨⟨c, dct, dt, sl⟩, ht, hc, n, hd⟩ := hT
  replace hc : c = .type "tuple" := hc
  replace hd : dt = .seq us n := hd
  subst hc hd
  refine callType_new F.called_enumerate (by decide) (F.typeCall_enumerate_1 _) (F.newCall_enumerate_1 _) (fun o => F.args_object_init_2 o _) F.entry_enumerate_new (meets_enT t us n dct sl) ⟨ht, ?_⟩
  have hz : (eT1 s.heap t).objs.size = s.heap.objs.size + 1 := Heap.size_push ..
  show _ ∧ _
  rw [hz]
  have he : IsEnum (eT2 s.heap t) (s.heap.objs.size + 1) s.heap.objs.size 0 .none := by
    have := Heap.get?_push_size (eT1 s.heap t) (o := { cls := .type "enumerate", data := .fields #[.none, .bool false, .ref s.heap.objs.size, rawInt 0, .none, .none] }) rfl
    rw [hz] at this
    exact this
  exact ⟨⟨_, he, rfl⟩, q _ he ⟨_, Heap.get?_push_of_some _ (Heap.get?_push_size _ rfl), rfl, rfl⟩ fun b o x => Heap.get?_push_of_some _ (Heap.get?_push_of_some _ x)⟩
def ItET (K : PySem.W.Frag) (a : Addr) : It :=
  ⟨fun i H => ∃ (xs : List V) (x : V), SqT K H a xs ∧ xs[i]? = some x,
   fun i H v H' => ∃ T x, v = .ref T ∧ H T = none ∧ H' = upd H T (.tup [.int (i : Nat), x]) ∧ ∀ xs, SqT K H a xs → xs[i]? = some x,
   fun i H => ∃ xs : List V, SqT K H a xs ∧ i = xs.length⟩
theorem turn_et {P : Program} {w : World} {K : PySem.W.Frag} {elts : List Expr} {kk : Nat} {tpos : Pos} (a e it : Addr) (n1 : e ≠ it) (n2 : e ≠ a) (n3 : a ≠ it) :
    Turn P w K (.Tuple elts kk tpos) (ItET K a) [e, it] e (fun i h => (∃ old, IsEnum h e it ((i : Nat) : Int) old) ∧ h.IsTupleIter it a i) where
  mem := by simp
  obj i h q b hb := by
    obtain ⟨⟨old, he⟩, ⟨o, ho, hc, hd⟩⟩ := q
    rcases (show b = e ∨ b = it by simpa using hb) with rfl | rfl
    · exact ⟨_, he, fun v z => nomatch z⟩
    · exact ⟨o, ho, fun v z => by rw [hd] at z; cases z⟩
  keep i h h' q k := by
    obtain ⟨⟨old, he⟩, ⟨o, ho, r⟩⟩ := q
    exact ⟨⟨old, k e (by simp) _ he⟩, ⟨o, k it (by simp) _ ho, r⟩⟩
  item := by
    intro X hP hw hK hc i pins s σ H E I hf q hg
    subst hP hw hK
    obtain ⟨⟨old, he⟩, hit⟩ := q
    obtain ⟨xs, x, hq, hx⟩ := hg
    obtain ⟨its, rv, p, hz⟩ := I.tuple hq
    obtain ⟨u, hu, ru⟩ := rv.get hx
    have hel : e < s.heap.objs.size := Heap.lt_size he
    have hil : it < s.heap.objs.size := by obtain ⟨_, z, _⟩ := hit; exact Heap.lt_size z
    have Dr := Draws.tuple (prog := X.prog) (w := X.w) (A := X.A.in1) (I.ok.hd hc) it a n3 its.toArray
    have hi : i < its.toArray.size := by
      have := (List.getElem?_eq_some_iff.mp hu).1
      simpa using this
    refine wpAny_pyNext_enum_itemD Dr he ⟨hit, p⟩ hi n1 (by simp [n1, n2]) fun u' h' tk hu' ho hit' hT hsz hk => ?_
    have eu : u' = u := by
      have z : its.toArray[i]? = some u := by simpa using hu
      rw [z] at hu'
      exact (Option.some.inj hu').symm
    subst eu
    refine ⟨_, rfl, wpAny_letOwnedTupleGo_enum (s := { s with heap := h', toks := tk + 1 }) ho fun h'' he' sb => ?_⟩
    have new : ObjOk X.prog X.w (upd H s.heap.objs.size (.tup [.int (i : Nat), x])) h'' s.heap.objs.size (.tup [.int (i : Nat), x]) :=
      ⟨by rw [sizeLine_eq]; simp, [.int i tk, u'], .cons ⟨_, rfl⟩ (.cons ru .nil), ⟨_, (sb.2 _ (Nat.ne_of_gt hel)).trans hT, rfl, _, rfl⟩⟩
    have I1 : Inv X pins σ (upd H s.heap.objs.size (.tup [.int (i : Nat), x])) { s with heap := h'', toks := tk + 1 } :=
      I.turnedNew (ch := [e, it]) (fun b ob hb z => (sb.2 b (fun y => hb (by simp [y]))).trans (hk b ob (fun y => hb (by simp [y])) (fun y => hb (by simp [y])) z)) hf (Nat.le_refl _) new
    obtain ⟨⟨oi, hoi, ri⟩, _⟩ := hit'
    refine ⟨.ref s.heap.objs.size, _, I1, rfl, ⟨_, x, rfl, I.hok.fresh (Nat.le_refl _), rfl, fun ys hy => by rw [I.tuple_inj hy hq]; exact hx⟩, ⟨⟨u', ?_⟩, ⟨oi, (sb.2 it (Ne.symm n1)).trans hoi, ri⟩⟩, fun b hb => ?_⟩
    · have e1 : ((i + 1 : Nat) : Int) = (i : Int) + 1 := by omega
      rw [e1]; exact he'
    · have hb' : b < s.heap.objs.size := by
        rcases (show b = e ∨ b = it by simpa using hb) with z | z
        · rw [z]; exact hel
        · rw [z]; exact hil
      rw [upd_ne (Nat.ne_of_lt hb')]
      exact (hf b hb).1
  done := by
    intro X hP hw hK hc i pins s σ H E I hf q hg
    subst hP hw hK
    obtain ⟨⟨old, he⟩, hit⟩ := q
    obtain ⟨xs, hq, hx⟩ := hg
    obtain ⟨its, rv, p, hz⟩ := I.tuple hq
    obtain ⟨f0, f1, f2, f3, f4, f5⟩ := hf it (by simp)
    have hl := rv.length
    have Dr := Draws.tuple (prog := X.prog) (w := X.w) (A := X.A.in1) (I.ok.hd hc) it a n3 its.toArray
    have hi : i = its.toArray.size := by rw [hx, hl]; simp
    subst hi
    exact wpAny_pyNext_enum_endD Dr he ⟨hit, p⟩ fun h' eb => ⟨rfl, I.turned (t' := s.toks) (fun b o hb z => eb b o hb z) f0 f1 f3 f4 f5⟩
  self A i s Q E q h := by
    obtain ⟨⟨old, he⟩, _⟩ := q
    exact wpAny_pyIter_enum he h
def iET (K : PySem.W.Frag) (te : TE) : TI := fun σ H R => te σ H fun v H1 => ∃ a xs, v = .ref a ∧ SqT K H1 a xs ∧ R (ItET K a) H1
theorem pi_et {X : Cx} {e : Expr} {te : TE} {p pos tpos : Pos} {elts : List Expr} {kk : Nat} (hg : Gl X "enumerate") (hm : X.mg "enumerate" = none) (he : PE X e te) (hs : starEach [e] X.env = (false, eval e X.env) :: starEach [] X.env := by rfl) :
    PI X (.Tuple elts kk tpos) (.Call (.Name "enumerate" p) [e] [] pos) (iET X.K te) := by
  refine ⟨fun pins s σ H R I h => ?_⟩
  refine PyProof.Rows.Call_ (ld_blt I hg hm (by decide +kernel : bootBuiltins "enumerate" = some (.type "enumerate")) (PyProof.Rows.callWith_type1 (one_arg he I h (fun v s2 x H2 I2 r q => ?_) hs) hs))
  obtain ⟨a, xs, rfl, hq, q⟩ := q
  cases r
  obtain ⟨its, rv, pt, hz⟩ := I2.tuple hq
  have hal : a < s2.heap.objs.size := by obtain ⟨_, z, _⟩ := pt; exact Heap.lt_size z
  refine call_enT pt fun h' he' hit hk => wpAny_pyIter_enum he' ?_
  refine ⟨s2.heap.objs.size + 1, [s2.heap.objs.size + 1, s2.heap.objs.size], _, _, H2, rfl, I2.kept (t' := s2.toks) hk, turn_et a (s2.heap.objs.size + 1) s2.heap.objs.size (Nat.succ_ne_self _) (Nat.ne_of_gt (Nat.lt_succ_of_lt hal)) (Nat.ne_of_lt hal), ⟨⟨.none, he'⟩, hit⟩, fun b hb => ?_, q⟩
  have hle : s2.heap.objs.size ≤ b := by
    rcases (show b = s2.heap.objs.size + 1 ∨ b = s2.heap.objs.size by simpa using hb) with y | y
    · rw [y]; exact Nat.le_add_right _ _
    · rw [y]; exact Nat.le_refl _
  exact I2.fpOk hle (I2.hok.fresh hle)
theorem wk_et {K : PySem.W.Frag} {a : Addr} {xs : List PyData} : Wk K (ItET K a) (fun _ => False) (fun B H => Rp K B H (.ref a) (.tuple xs)) (enumD xs 0) where
  go i B H g hi := by
    obtain ⟨_, us, e, h1, h2⟩ := Cn.tuple (.rp g)
    cases e
    simp only [enumD, List.length_map, List.length_range] at hi
    have l1 := h2.length
    exact ⟨us, us[i]'(by omega), h1, by simp⟩
  stop B H g := by
    obtain ⟨_, us, e, h1, h2⟩ := Cn.tuple (.rp g)
    cases e
    refine ⟨us, h1, ?_⟩
    simp only [enumD, List.length_map, List.length_range]
    exact h2.length.symm
  yld i B H x H' d g hd hy := by
    obtain ⟨_, us, e, h1, h2⟩ := Cn.tuple (.rp g)
    cases e
    obtain ⟨T, u, rfl, nT, rfl, f1⟩ := hy
    refine ⟨.inr ⟨T, _, nT, rfl⟩, ?_⟩
    obtain ⟨x, m1, m2⟩ := h2.getV (f1 us h1)
    have hi : i < xs.length := (List.getElem?_eq_some_iff.mp m1).1
    simp only [enumD, List.getElem?_map, List.getElem?_range hi, Option.map_some] at hd
    cases hd
    have : xs.getD i .none = x := by
      rw [List.getD_eq_getElem?_getD, m1]
      rfl
    rw [this, Nat.zero_add]
    have gr : Grow B H B (upd H T (.tup [.int (i : Nat), u])) := ⟨fun q o h _ => keep_upd nT q o h, fun q h => .inl h⟩
    exact .tup (.inl (.inl upd_same)) (.cons (.int _) (.cons (m2.grow gr) .nil))
  keep W B H W' B' H' g s wb _ := g.grow (s.grow wb)
def iEnT (f : EE) : EI := fun env => match f env with
  | some (d, e) => match tupOf d with
    | none => none
    | some xs => some (enumD xs 0, none, e)
  | _ => none
theorem i_enT {X : Cx} {e : Expr} {f : EE} {p pos tpos : Pos} {elts : List Expr} {kk : Nat} (hg : Gl X "enumerate") (hm : X.mg "enumerate" = none) (he : PE X e (tE X.K f)) (hs : starEach [e] X.env = (false, eval e X.env) :: starEach [] X.env := by rfl) :
    PI X (.Tuple elts kk tpos) (.Call (.Name "enumerate" p) [e] [] pos) (tI X.K (iEnT f)) := PI.imp (pi_et hg hm he hs) fun σ H R h => by
  obtain ⟨B, env, xs, lk, env', en, ev, q⟩ := h
  unfold iEnT at ev
  split at ev
  · rename_i d e1 h1
    split at ev
    · cases ev
    rename_i xs h2
    cases ev
    refine ⟨B, env, _, _, en, h1, fun B1 H1 v a1 r1 => ?_⟩
    have r2 := tupOf_at r1.ra h2
    obtain ⟨a, us, rfl, g1, _⟩ := Cn.tuple (.rp r2)
    exact ⟨a, us, rfl, g1, q B1 H1 _ _ _ _ a1 rfl wk_et r2 (fun _ z => z.elim)⟩
  · cases ev
@[simp] theorem z_enT (f : EE) (env : Sl) : iEnT f env = (match f env with
  | some (d, e) => match tupOf d with
    | none => none
    | some xs => some (enumD xs 0, none, e)
  | _ => none) := rfl
end T3

end
section
set_option linter.all false
set_option autoImplicit false
set_option Elab.async false
namespace T3
open PySem L2 PyProof.Rows
/-! ### len(set(tuple of whole numbers, all unlike)) -/
theorem len_same {a b : List Int} (h1 : a.Nodup) (h2 : b.Nodup) (h : ∀ x, x ∈ a ↔ x ∈ b) : a.length = b.length :=
  Nat.le_antisymm (h1.length_le_of_subset fun x hx => (h x).mp hx) (h2.length_le_of_subset fun x hx => (h x).mpr hx)
def tLST (K : PySem.W.Frag) (ta : TE) : TE := fun σ H Q => ta σ H fun x H1 => ∃ (t : Addr) (ns : List Int), x = V.ref t ∧ SqT K H1 t (ns.map V.int) ∧ ns.length < 64 ∧ ns.Nodup ∧ Q (.int ns.length) H1
theorem pe_lst {X : Cx} {a : Expr} {ta : TE} {p p2 q pos : Pos} (hc : X.calm = true) (hg : Gl X "len") (hm : X.mg "len" = none) (hg2 : Gl X "set") (hm2 : X.mg "set" = none) (ha : PE X a ta)
    (na : starEach [a] X.env = (false, eval a X.env) :: starEach [] X.env := by rfl) : PE X (.Call (.Name "len" p) [.Call (.Name "set" p2) [a] [] q] [] pos) (tLST X.K ta) := by
  refine ⟨fun pins s σ H Q I h => Call_ (ld_blt I hg hm PySem.boot_len ?_)⟩
  refine PyProof.Rows.callWith_builtin1 (PyProof.Rows.args_cons (Call_ (ld_blt I hg2 hm2 PyProof.Rows.boot_set ?_)) rfl) rfl rfl
  refine PyProof.Rows.callWith_type1 (PyProof.Rows.args_cons (thn (ha.run pins s σ H _ I h) fun v s1 ⟨x, H1, I1, r1, k1⟩ => PyProof.Rows.args_nil ?_) na) na rfl
  obtain ⟨t, ns, rfl, hq, b, nd, k1⟩ := k1
  cases r1
  obtain ⟨its, r, pt, hz⟩ := I1.tuple hq
  refine call_set_tupI ns (I1.ok.hd hc) (show s1.heap.IsTuple t its.toArray from pt) (by simpa using r.ints) (by unfold scanBound; omega) fun h' tk c R1 hcn hk => ?_
  obtain ⟨o, es, ep, z, ho, hex, hd, g, nk, hm3, hb, hf, hn, _, _⟩ := R1
  have ec : c = ns.length := by
    have := len_same nk nd fun x => by rw [← hm3 x]; simp
    rw [List.length_map, Array.length_toList, hn] at this
    exact this
  subst ec
  refine PyProof.Rows.args_nil ?_
  have I2 : Inv X pins σ H1 { s1 with heap := h', toks := tk } := I1.kept fun b o e => hk b o e
  exact call_len_set ho hex hd hf (by rw [hn]; omega) ⟨.int ns.length, H1, I2.tok _, ⟨_, by rw [hn]⟩, k1⟩
def kLenSetT : KK := fun ds env => match ds with
  | [d] => match ctn env d with
    | some (.tuple xs) => match ints? xs with
      | some ns => if ns.length < 64 ∧ ns.Nodup then some (.pd (.int ns.length), env) else none
      | none => none
    | _ => none
  | _ => none
theorem c_lst {K : PySem.W.Frag} : Con K kLenSetT (l1 fun x H1 Q => ∃ (t : Addr) (ns : List Int), x = V.ref t ∧ SqT K H1 t (ns.map V.int) ∧ ns.length < 64 ∧ ns.Nodup ∧ Q (.int ns.length) H1) := by
  intro σ H B env B1 H1 env1 vs ds d e2 Q en a rr hk q
  intro x hx0
  subst hx0
  unfold kLenSetT at hk
  split at hk
  · rename_i d1
    split at hk
    · rename_i xs hx
      obtain ⟨p, us, rfl, h1, h2⟩ := (Cn.of a.en (rr.each 0 x d1 rfl rfl) hx).tuple
      split at hk
      · rename_i ns hn
        split at hk
        · rename_i hh
          cases hk
          rw [ints_map hn] at h2
          have e := h2.ints
          subst e
          exact ⟨p, ns, rfl, h1, hh.1, hh.2, q _ _ _ a (Rp.int _)⟩
        · cases hk
      · cases hk
    · cases hk
  · cases hk
theorem x_lst {X : Cx} {e : Expr} {fe : EE} {p p2 q pos : Pos} (hm : X.mg "len" = none) (hm2 : X.mg "set" = none) (ha : PE X e (tE X.K fe)) (hc : X.calm = true := by rfl) (hg : Gl X "len" := by rfl) (hg2 : Gl X "set" := by rfl)
    (na : starEach [e] X.env = (false, eval e X.env) :: starEach [] X.env := by rfl) : PE X (.Call (.Name "len" p) [.Call (.Name "set" p2) [e] [] q] [] pos) (tE X.K (eThen (eOne fe) kLenSetT)) :=
  PE.imp (pe_lst hc hg hm hg2 hm2 ha na) fun _ _ _ t => rd_one c_lst t
end T3

end
section
set_option linter.all false
set_option autoImplicit false
set_option Elab.async false
namespace T3
open PySem L2
/-! ### a def as a value, called by a local name -/
def eCallV (i : Nat) (nm : Str) (F : FnD) (f : EA) : EE := fun env => match env[i]? with
  | some (some (.pd (.dict [(.str s, .none)]))) => if s = nm then eCall F f env else none
  | _ => none
theorem z_callV {i : Nat} {nm : Str} {F : FnD} {f : EA} {env : Sl} (h : env[i]? = some (some (.pd (fnV nm)))) : eCallV i nm F f env = eCall F f env := by
  unfold eCallV
  rw [h]
  simp
theorem e_fnV {X : Cx} {k n i : Nat} {F : FnD} {x nm : Str} {p pos : Pos} {e : Expr} {es : List Expr} {fa : EA} (h : Has X.prog X.w X.K X.mg X.base nm n F k) (hK : ∀ a, FnK X.K nm a → X.mg nm = some (.ref a)) (hr : Room k X.A) (hn : lenA fa n) (hN : X.N[i]? = some x) (hv : Vis X.env.scope x) (ha : PA X (e :: es) (tA X.K fa))
    (hdb : (x == ("__debug__" : Str)) = false := by decide) (hcd : (x == ("__classdict__" : Str)) = false := by decide) (he : starEach (e :: es) X.env = (false, eval e X.env) :: starEach es X.env := by rfl) (hpl : (backTo pos (starEach es X.env)).any (·.1) = false := by rfl) :
    PE X (.Call (.Name x p) (e :: es) [] pos) (tE X.K (eCallV i nm F fa)) := by
  obtain ⟨f, fd, ps, h1, h2, h3, h4⟩ := h
  refine PE.imp (pe_callL h1 hr hN hv h3 h4 .nil pass0 ha hdb hcd he hpl) fun σ H Q t => ?_
  obtain ⟨B, env, d, env', en, ev, q⟩ := t
  unfold eCallV at ev
  split at ev
  · rename_i s h0
    split at ev
    · rename_i hs
      subst hs
      obtain ⟨v, hv, hr⟩ := en.pd i _ h0
      cases hr with
      | fn hf =>
        have e2 := hK _ hf
        rw [h2] at e2
        cases e2
        exact ⟨hv, rd_call hn ⟨B, env, d, env', en, ev, q⟩⟩
    · cases ev
  · cases ev
/-- the def itself, by its global name -/
theorem kc_fn {K : PySem.W.Frag} {mg : Str → Option Value} {nm : Str} {a : Addr} (h : FnK K nm a) (hm : mg nm = some (.ref a)) : KC K mg nm (fnV nm) := ⟨.ref a, .ref a, hm, rfl, fun _ _ => .fn h⟩
end T3

end
section
set_option linter.all false
set_option autoImplicit false
set_option Elab.async false
namespace T3
open PySem PyProof.Rows
/-! ### sorted(t), t a tuple of texts -/
theorem sorted_strT {prog : Program} {w : World} {A : Around} {E : Value → Shared → Prop} {s : Shared} {l : Addr} {vs : List Value} {ss : List Str} {Q : Value → Shared → Prop} (hl : IsTup s.heap l vs.toArray) (hS : StrsAre vs ss) (h64 : vs.length < 64)
    (h : ∀ (out : Array Value) (ss' : List Str), StrsAre out.toList ss' → ss'.Perm ss → sortedS ss' = true → Q (.ref (s.heap.objs.size + 1)) { s with heap := sortedAll s.heap vs out }) : wpAny (model prog w) A (call (.builtin "sorted") [.ref l]) Q E s := by
  have hz : vs.length ≤ sizeLine := by rw [sizeLine_eq]; omega
  refine Calls.call_function_entry kind_sorted plain_sorted entry_sorted (args_sorted1 _) ?_
  unfold Builtin.«sorted»
  refine wpAny_bind (m := checkCount "sorted" 1 1 _) (wpAny_pure (wpAny_bind (collect_tup hl (wpAny_bind (wpAny_newList ?_ hz)) hz)))
  generalize eg : (s.heap.push (seqObj "list" #[] 0)).update s.heap.objs.size (Obj.mapSeq (· ++ vs.toArray)) = g
  have hg : g.objs.size = s.heap.objs.size + 1 := by rw [← eg, Heap.size_update, size_push']
  have new : (g.push (seqObj "list" vs.toArray 0)).get? (s.heap.objs.size + 1) = some (seqObj "list" vs.toArray 0) := by rw [← hg]; exact Heap.get?_push_size _ rfl
  show wpAny (model prog w) _ _ _ _ { s with heap := g.push (seqObj "list" vs.toArray 0) }
  rw [hg]
  refine wpAny_bind (wpAny_holding (wpAny_call_entry slot_list_sort ⟨_, new, rfl⟩ entry_list_sort
    (list_sort_treeK strKind_oneLt new hS.keysOf (fun v₁ v₂ rest e => keyKind_strs (by rw [← e]; exact hS)) h64 fun st' a1 a2 => ⟨_, rfl, ?_⟩) (args_list_sort _)))
  subst eg
  obtain ⟨ss', h1, h2, h3⟩ := sorted_out_str hS a1 a2
  exact wpAny_pure ⟨_, rfl, h _ ss' h1 h2 h3⟩
end T3
namespace T3
open PySem L2
def rSrtS (K : PySem.W.Frag) : List V → Hp → VK → Prop := fun vs H Q => ∃ (a : Addr) (xs : List Str), vs = [V.ref a] ∧ SqT K H a (xs.map V.str) ∧ xs.length < 64 ∧
  ∀ (ys : List Str) (p : Addr), ys.Perm xs → PyProof.Rows.sortedS ys = true → H p = none → Q (.ref p) (upd H p (.lst (ys.map V.str)))
theorem cr_srtS {X : Cx} : CallR X (.builtin "sorted") (rSrtS X.K) := by
  intro pins s σ H vs us Q I r h
  obtain ⟨a, xs, rfl, hs, h64, q⟩ := h
  obtain ⟨its, rv, hl, hz⟩ := I.tuple hs
  rw [Vals.ref1 r]
  have e0 := rv.length
  rw [List.length_map] at e0
  refine sorted_strT hl rv.strs (by rw [← e0]; exact h64) fun out ys h1 h2 h3 => ?_
  obtain ⟨ep, he'⟩ := PyProof.Rows.sortedAll_at s.heap its out
  have hlen : (ys.map V.str).length ≤ sizeLine := by rw [List.length_map, h2.length_eq]; exact small64 h64
  refine ⟨.ref _, upd H (s.heap.objs.size + 1) (.lst (ys.map V.str)), ?_, rfl, q ys _ h2 h3 (I.hok.fresh (Nat.le_succ _))⟩
  exact I.laid (t' := s.toks) (fun _ _ => PyProof.Rows.sortedAll_old) (Nat.le_succ _) ⟨hlen, out.toList, ep, vals_of_strs h1, he'⟩
/-- the four letters, as they stand in the program, and sorted -/
def ltr : List Str := ["n", "e", "s", "w"]
def ltrS : List Str := ["e", "n", "s", "w"]
theorem ltr_all : ∀ a ∈ ltr, ∀ b ∈ ltr, ∀ c ∈ ltr, ∀ d ∈ ltr, [a, b, c, d].Nodup → PyProof.Rows.sortedS [a, b, c, d] = true → [a, b, c, d] = ltrS := by decide +kernel
theorem ltr_sorted {ys : List Str} (h : ys.Perm ltr) (hs : PyProof.Rows.sortedS ys = true) : ys = ltrS := by
  have nd : ys.Nodup := h.nodup_iff.mpr (by decide +kernel)
  have ln := h.length_eq
  have mm : ∀ y ∈ ys, y ∈ ltr := fun y hy => h.mem_iff.mp hy
  match ys, ln with
  | [a, b, c, d], _ => exact ltr_all a (mm a (by simp)) b (mm b (by simp)) c (mm c (by simp)) d (mm d (by simp)) nd hs
  | [], ln => simp [ltr] at ln
  | [_], ln => simp [ltr] at ln
  | [_, _], ln => simp [ltr] at ln
  | [_, _, _], ln => simp [ltr] at ln
  | _ :: _ :: _ :: _ :: _ :: _, ln => simp [ltr] at ln
def kSrtL : KK := fun ds env => match ds with
  | [.pd d] => match d with
    | .tuple xs => match strs? xs with
      | some ss => if ss = ltr then some (.tmp (.ls (ltrS.map .str)), env) else none
      | none => none
    | _ => none
  | _ => none
theorem c_srtL {K : PySem.W.Frag} : Con K kSrtL (rSrtS K) := by
  intro σ H B env B1 H1 env1 vs ds d e2 Q en a rr hk q
  unfold kSrtL at hk
  split at hk
  · rename_i d1
    split at hk
    · rename_i xs
      split at hk
      · rename_i ss hs
        split at hk
        · rename_i hl
          cases hk
          match vs, rr with
          | [v], rr =>
            obtain ⟨p, us, rfl, h1, h2⟩ := (Cn.of a.en (rr.each 0 v _ rfl rfl) (x := .tuple xs) rfl).tuple
            rw [strs_map hs] at h2
            have e := h2.strs
            subst e
            refine ⟨p, ss, rfl, h1, by rw [hl]; decide, fun ys r k1 k2 nr => ?_⟩
            subst hl
            rw [ltr_sorted k1 k2]
            refine con_new en a nr ?_ q
            exact .cons (.str _) (.cons (.str _) (.cons (.str _) (.cons (.str _) .nil)))
          | [], rr => have := rr.len; simp at this
          | _ :: _ :: _, rr => have := rr.len; simp at this
        · cases hk
      · cases hk
    · cases hk
  · cases hk
theorem w_srtL {X : Cx} : Blt X "sorted" kSrtL := ⟨_, _, cr_srtS, c_srtL, by decide +kernel⟩
end T3

end
section
set_option linter.all false
set_option autoImplicit false
set_option Elab.async false
namespace T3
open PySem L2
/-! ### whether a list or a tuple has anything -/
def bLs (f : EE) : EB := fun env => match f env with
  | some (d, e) => match ctn e d with
    | some (.list xs) => some (!xs.isEmpty, e)
    | some (.tuple xs) => some (!xs.isEmpty, e)
    | _ => none
  | _ => none
@[simp] theorem z_bLs (f : EE) (env : Sl) : bLs f env = (match f env with
  | some (d, e) => match ctn e d with
    | some (.list xs) => some (!xs.isEmpty, e)
    | some (.tuple xs) => some (!xs.isEmpty, e)
    | _ => none
  | _ => none) := rfl
theorem emp_of {K : PySem.W.Frag} {B : Mset} {H : Hp} {us : List V} {xs : List PyData} (h : RpA K B H us xs) : (!xs.isEmpty) = !us.isEmpty := by
  cases h <;> rfl
theorem b_lst {X : Cx} {a : Expr} {f : EE} (h : PE X a (tE X.K f)) (he : ∀ whole, isTrue a X.env whole = (do let v ← whole; standAt a.pos; holding [v] (truthy v)) := by exact fun _ => rfl) : PT X a (tT X.K (bLs f)) :=
  PT.imp (pt_truth h he) fun σ H Q t => by
    obtain ⟨B, env, b, env', en, ev, q⟩ := t
    unfold bLs at ev
    split at ev
    · rename_i d e1 h1
      split at ev
      · rename_i xs hx
        cases ev
        refine ⟨B, env, d, _, en, h1, fun B1 H1 v a1 r1 => ?_⟩
        obtain ⟨p, us, rfl, g1, g2⟩ := (Cn.of a1.en r1.ra hx).list
        exact ⟨_, .inl ⟨us, g1, emp_of g2⟩, q B1 H1 a1⟩
      · rename_i xs hx
        cases ev
        refine ⟨B, env, d, _, en, h1, fun B1 H1 v a1 r1 => ?_⟩
        obtain ⟨p, us, rfl, g1, g2⟩ := (Cn.of a1.en r1.ra hx).tuple
        exact ⟨_, .inr (.inl ⟨us, g1, emp_of g2⟩), q B1 H1 a1⟩
      · cases ev
    · cases ev
end T3

end
section
set_option linter.all false
set_option autoImplicit false
set_option Elab.async false
namespace T3
open PySem PyProof.Rows TS
/-! ### sorted(t), t a tuple of tuples of whole numbers -/
theorem sorted_tupsT {prog : Program} {w : World} {A : Around} {E : Value → Shared → Prop} {s : Shared} {l : Addr} {vs : List Value} {d : Nat} {B : Int} {Q : Value → Shared → Prop} (hl : IsTup s.heap l vs.toArray) (h64 : vs.length < 64) (hd : 1 ≤ d) (x : TupsOk s.heap d B vs)
    (h : ∀ out : Array Value, out.toList.Perm vs → out.toList.Pairwise (fun u v => code B (intsOf s.heap u) ≤ code B (intsOf s.heap v)) → Q (.ref (s.heap.objs.size + 1)) { s with heap := sortedAll s.heap vs out }) : wpAny (model prog w) A (call (.builtin "sorted") [.ref l]) Q E s := by
  have hz : vs.length ≤ sizeLine := by rw [sizeLine_eq]; omega
  refine Calls.call_function_entry kind_sorted plain_sorted entry_sorted (args_sorted1 _) ?_
  unfold Builtin.«sorted»
  refine wpAny_bind (m := checkCount "sorted" 1 1 _) (wpAny_pure (wpAny_bind (collect_tup hl (wpAny_bind (wpAny_newList ?_ hz)) hz)))
  generalize eg : (s.heap.push (seqObj "list" #[] 0)).update s.heap.objs.size (Obj.mapSeq (· ++ vs.toArray)) = g
  have hg : g.objs.size = s.heap.objs.size + 1 := by rw [← eg, Heap.size_update, size_push']
  have new : (g.push (seqObj "list" vs.toArray 0)).get? (s.heap.objs.size + 1) = some (seqObj "list" vs.toArray 0) := by rw [← hg]; exact Heap.get?_push_size _ rfl
  have keep : ∀ b o, s.heap.get? b = some o → o.cls = .type "tuple" → (g.push (seqObj "list" vs.toArray 0)).get? b = some o := fun b o q _ => by
    have hb : b < s.heap.objs.size := Heap.lt_size q
    refine Heap.get?_push_of_some _ ?_
    rw [← eg, Heap.get?_update_ne _ _ _ _ (Nat.ne_of_lt hb)]
    exact Heap.get?_push_of_some _ q
  show wpAny (model prog w) _ _ _ _ { s with heap := g.push (seqObj "list" vs.toArray 0) }
  rw [hg]
  refine wpAny_bind (wpAny_holding (wpAny_call_entry slot_list_sort ⟨_, new, rfl⟩ entry_list_sort
    (sort_tups new h64 hd (x.keeps keep) (fun v => code B (intsOf s.heap v)) (fun v hv ns t => ?_) fun out a1 a2 => ⟨_, rfl, ?_⟩) (args_list_sort _)))
  · obtain ⟨ns0, t0, _⟩ := x v hv
    have e : ns = ns0 := t.ints.symm.trans (t0.keeps keep).ints
    rw [e, t0.ints]
  · subst eg
    exact wpAny_pure ⟨_, rfl, h out a1 a2⟩
end T3
namespace T3
open PySem L2
def rSrtP (K : PySem.W.Frag) (d : Nat) (B : Int) : List V → Hp → VK → Prop := fun vs H Q => ∃ (a : Addr) (xs : List V), vs = [V.ref a] ∧ SqT K H a xs ∧ xs.length < 64 ∧ (∀ x ∈ xs, ∃ ns, TupI K H x ns ∧ ns.length = d ∧ TS.Bd B ns) ∧
  ∀ (ys : List V) (p : Addr), ys.Perm xs → ys.Pairwise (fun x y => ∀ n m, TupI K H x n → TupI K H y m → TS.code B n ≤ TS.code B m) → H p = none → Q (.ref p) (upd H p (.lst ys))
theorem cr_srtP {X : Cx} {d : Nat} {B : Int} (hd : 1 ≤ d) : CallR X (.builtin "sorted") (rSrtP X.K d B) := by
  intro pins s σ H vs us Q I r h
  obtain ⟨a, xs, rfl, hs, h64, hx, q⟩ := h
  obtain ⟨its, rv, hl, hz⟩ := I.tuple hs
  rw [Vals.ref1 r]
  obtain ⟨e1, e2⟩ := bkV_refs rv fun x m => by
    obtain ⟨ns, ⟨t, e, _⟩, _⟩ := hx x m
    exact ⟨t, e⟩
  refine sorted_tupsT (d := d) (B := B) hl (by rw [← rv.length]; exact h64) hd (fun v hv => ?_) fun out h1 h2 => ?_
  · obtain ⟨t, rfl⟩ := e2 v hv
    have hm : V.ref t ∈ xs := by rw [e1]; exact List.mem_map.mpr ⟨_, hv, rfl⟩
    obtain ⟨ns, ⟨t', e, ht⟩, hn, hb⟩ := hx _ hm
    cases e
    exact ⟨ns, tupI_raw I ht, hn, hb⟩
  · obtain ⟨ep, he'⟩ := PyProof.Rows.sortedAll_at s.heap its out
    have h3 : ∀ u ∈ out.toList, ∃ a, u = Value.ref a := fun u hu => e2 u (h1.mem_iff.mp hu)
    have hp : (out.toList.map bkV).Perm xs := by rw [e1]; exact h1.map bkV
    have hlen : (out.toList.map bkV).length ≤ sizeLine := by rw [hp.length_eq]; exact hz
    refine ⟨.ref _, upd H (s.heap.objs.size + 1) (.lst (out.toList.map bkV)), ?_, rfl, q _ _ hp ?_ (I.hok.fresh (Nat.le_succ _))⟩
    · exact I.laid (t' := s.toks) (fun _ _ => PyProof.Rows.sortedAll_old) (Nat.le_succ _) ⟨hlen, out.toList, ep, bkV_vals h3, he'⟩
    · rw [List.pairwise_map]
      refine List.Pairwise.imp (fun {u v} huv n m hn hm => ?_) h2
      obtain ⟨t, et, ht⟩ := hn
      obtain ⟨t', et', ht'⟩ := hm
      rw [← (show TS.intsOf s.heap u = n by rw [bkV_ref et]; exact (tupI_raw I ht).ints), ← (show TS.intsOf s.heap v = m by rw [bkV_ref et']; exact (tupI_raw I ht').ints)]
      exact huv
/-- sorted of a tuple of cells -/
def kSrtP : KK := fun ds env => match ds with
  | [d] => match ctn env d with
    | some (.tuple xs) => if xs.length < 64 then match pairs? xs with
        | some ps => some (.tmp (.ls ((ps.mergeSort prLe).map clD)), env)
        | none => none
      else none
    | _ => none
  | _ => none
theorem c_srtP {K : PySem.W.Frag} : Con K kSrtP (rSrtP K 2 64) := by
  intro σ H B env B1 H1 env1 vs ds d e2 Q en a rr hk q
  unfold kSrtP at hk
  split at hk
  · rename_i d1
    match vs, rr with
    | [v], rr =>
      split at hk
      · rename_i xs hx
        obtain ⟨p, us, rfl, h1, h2⟩ := (Cn.of a.en (rr.each 0 v d1 rfl rfl) hx).tuple
        split at hk
        · rename_i h64
          split at hk
          · rename_i ps hp
            cases hk
            obtain ⟨rfl, hb⟩ := pairs_eq hp
            refine ⟨p, us, rfl, h1, by rw [h2.length]; exact h64, fun x hx => ?_, fun ys r k1 k2 nr => ?_⟩
            · obtain ⟨j, hj, e⟩ := List.getElem_of_mem hx
              obtain ⟨y, z1, z2⟩ := h2.getV (i := j) (v := x) (by rw [List.getElem?_eq_getElem hj, e])
              rw [List.getElem?_map] at z1
              cases hc : ps[j]? with
              | none => rw [hc] at z1; cases z1
              | some c =>
                rw [hc] at z1
                cases z1
                have hbb := hb c (List.mem_of_getElem? hc)
                refine ⟨[c.1, c.2], tupI_of z2, rfl, fun k hk => ?_⟩
                rcases List.mem_cons.mp hk with e | e
                · rw [e]; exact ⟨hbb.1, hbb.2.1⟩
                · rw [List.mem_singleton.mp e]; exact hbb.2.2
            · obtain ⟨zs, g1, g2⟩ := h2.perm k1
              obtain ⟨qs, rfl, g3⟩ := map_perm_clD g2
              have ord : ∀ {ys : List V} {qs : List (Int × Int)}, RpA K B1 H1 ys (qs.map clD) → ys.Pairwise (fun x y => ∀ n m, TupI K H1 x n → TupI K H1 y m → TS.code 64 n ≤ TS.code 64 m) → qs.Pairwise (fun x y => x.1 * 64 + x.2 ≤ y.1 * 64 + y.2) := by
                intro ys qs
                induction qs generalizing ys with
                | nil => intro _ _; exact .nil
                | cons c qs ih =>
                  intro r pw
                  cases r with
                  | cons r1 r2 =>
                    cases pw with
                    | cons w1 w2 =>
                      refine .cons (fun y hy => ?_) (ih r2 w2)
                      obtain ⟨j, hj, e⟩ := List.getElem_of_mem hy
                      obtain ⟨vv, z1, z2⟩ := r2.get (i := j) (d := clD y) (by rw [List.getElem?_map, List.getElem?_eq_getElem hj, e]; rfl)
                      have := w1 vv (List.mem_of_getElem? z1) _ _ (tupI_of r1) (tupI_of z2)
                      rw [code_pr, code_pr] at this
                      exact this
              have eq : qs = ps.mergeSort prLe := by
                have hbq : ∀ z : Int × Int, z ∈ qs → 0 ≤ z.1 ∧ z.1 < 64 ∧ 0 ≤ z.2 ∧ z.2 < 64 := fun z hz => hb z (g3.mem_iff.mp hz)
                refine List.Perm.eq_of_pairwise (le := fun x y : Int × Int => x.1 * 64 + x.2 ≤ y.1 * 64 + y.2) (fun x y hx hy l1 l2 => ?_) (ord g1 k2) ?_ (g3.trans (List.mergeSort_perm _ _).symm)
                · have b1 := hbq x hx
                  have b2 := hb y ((List.mergeSort_perm ps prLe).mem_iff.mp hy)
                  exact Prod.ext (by omega) (by omega)
                · have := List.pairwise_mergeSort (le := prLe) (fun a b c h1 h2 => by simp [prLe] at h1 h2 ⊢; omega) (fun a b => by simp [prLe]; omega) ps
                  exact this.imp (by intro a b h; simpa [prLe] using h)
              rw [← eq] at q
              exact con_new en a nr g1 q
          · cases hk
        · cases hk
      · cases hk
    | [], rr => have := rr.len; simp at this
    | _ :: _ :: _, rr => have := rr.len; simp at this
  · cases hk
theorem w_srtP {X : Cx} : Blt X "sorted" kSrtP := ⟨_, _, cr_srtP (by decide), c_srtP, by decide +kernel⟩
end T3

end
section
set_option linter.all false
set_option autoImplicit false
set_option Elab.async false
namespace T3
open PySem L2
/-! ### a list goes from one name to another: the first one is not read again till it is set anew -/
def sMov (i j : Nat) : SS := fun env => match env[j]? with
  | some (some (.mu .own c)) => if free env i = true ∧ i ≠ j then some (.nx, (env.set j none).set i (some (.mu .own c))) else none
  | _ => none
theorem rd_mov {K : PySem.W.Frag} {i j : Nat} {D : Ends} {σ : St} {H : Hp} (h : tS K (sMov i j) D σ H) : tAsg (tVar j) (gName i) D σ H := by
  obtain ⟨B, env, fl, env', en, ev, q⟩ := h
  unfold sMov at ev
  split at ev
  · rename_i c hj
    split at ev
    · rename_i hc
      obtain ⟨hf, ne⟩ := hc
      cases ev
      obtain ⟨a, ha, hB, hC⟩ := en.mu j .own c hj
      obtain ⟨hi, hm⟩ := free_ne hf
      have hiσ : i < σ.length := by rw [← en.len]; exact hi
      have ne' : j ≠ i := fun z => ne z.symm
      have out : ∀ (k : Nat) x, ((env.set j none).set i (some (.mu .own c)))[k]? = some (some x) → (k = i ∧ x = .mu .own c) ∨ (i ≠ k ∧ j ≠ k ∧ env[k]? = some (some x)) := fun k x e => by
        rcases get_set e with ⟨z, z'⟩ | ⟨z, e⟩
        · exact .inl ⟨z.symm, by cases z'; rfl⟩
        · rcases get_set e with ⟨y, y'⟩ | ⟨y, e⟩
          · cases y'
          · exact .inr ⟨z, y, e⟩
      have wsub : ∀ b, Wof (σ.set i (some (.ref a))) ((env.set j none).set i (some (.mu .own c))) b → Wof σ env b := by
        rintro b ⟨k, m, c', h1, h2, h3⟩
        rcases out k _ h1 with ⟨rfl, _⟩ | ⟨z, y, e⟩
        · rw [List.getElem?_set_self hiσ] at h3
          cases h3
          exact ⟨j, .own, c, hj, by decide, ha⟩
        · rw [List.getElem?_set_ne z] at h3
          exact ⟨k, m, c', e, h2, h3⟩
      refine ⟨_, ha, q B _ H ⟨⟨fun _ _ h _ => h, fun _ h => .inl h, fun _ h _ => h, fun b w => .inl (wsub b w), fun _ h => h⟩, ⟨by simp [en.len], fun k x h => ?_, fun k x h => ?_, fun k m c' h => ?_, fun k l m n c1 c2 b h1 h2 h3 h4 => ?_, en.dom⟩, fun k m c' h hn => ?_⟩⟩
      · rcases out k _ h with ⟨_, z⟩ | ⟨z, y, e⟩
        · cases z
        · obtain ⟨v, h1, h2⟩ := en.pd k x e
          exact ⟨v, by rw [List.getElem?_set_ne z]; exact h1, h2⟩
      · rcases out k _ h with ⟨_, z⟩ | ⟨z, y, e⟩
        · cases z
        · obtain ⟨v, h1, h2⟩ := en.nt k x e
          exact ⟨v, by rw [List.getElem?_set_ne z]; exact h1, h2⟩
      · rcases out k _ h with ⟨rfl, z⟩ | ⟨z, y, e⟩
        · cases z
          exact ⟨a, by rw [List.getElem?_set_self hiσ], hB, hC⟩
        · obtain ⟨v, h1, h2⟩ := en.mu k m c' e
          exact ⟨v, by rw [List.getElem?_set_ne z]; exact h1, h2⟩
      · rcases out k _ h1 with ⟨rfl, _⟩ | ⟨z, y, e⟩
        · rcases out l _ h2 with ⟨rfl, _⟩ | ⟨z2, y2, e2⟩
          · rfl
          · rw [List.getElem?_set_self hiσ] at h3
            cases h3
            rw [List.getElem?_set_ne z2] at h4
            exact absurd (en.inj j l _ _ _ _ a hj e2 ha h4) y2
        · rcases out l _ h2 with ⟨rfl, _⟩ | ⟨z2, y2, e2⟩
          · rw [List.getElem?_set_self hiσ] at h4
            cases h4
            rw [List.getElem?_set_ne z] at h3
            exact absurd (en.inj j k _ _ _ _ a hj e ha h3) y
          · rw [List.getElem?_set_ne z] at h3
            rw [List.getElem?_set_ne z2] at h4
            exact en.inj k l _ _ _ _ b e e2 h3 h4
      · have k1 : i ≠ k := fun z => by subst z; exact hn (hm _ _ h)
        have k2 : j ≠ k := fun z => by subst z; rw [hj] at h; cases h; exact hn rfl
        exact ⟨by rw [List.getElem?_set_ne k1], c', by rw [List.getElem?_set_ne k1, List.getElem?_set_ne k2]; exact h⟩
    · cases ev
  · cases ev
theorem s_mov {X : Cx} {pos : Pos} {e : Expr} {i j : Nat} {x : Str} {pos' : Pos} (hN : X.N.Nodup) (hi : X.N[i]? = some x) (hx : Loc X.env.scope x) (he : PE X e (tVar j)) (hs : swapsWith e (some (.Name x pos')) pos.line X.env = pure false := by rfl) (hf : X.fn x = true ∨ X.env.scope.names.lookup x = some .local := by first | exact .inl rfl | exact .inr rfl | assumption) :
    PS X (.Assign [.Name x pos'] e pos) (tS X.K (sMov i j)) := PS.imp (ps_set hN hi hx he hs hf) fun _ _ _ t => rd_mov t
@[simp] theorem z_mov (i j : Nat) (env : Sl) : sMov i j env = (match env[j]? with
  | some (some (.mu .own c)) => if free env i = true ∧ i ≠ j then some (.nx, (env.set j none).set i (some (.mu .own c))) else none
  | _ => none) := rfl
end T3

end
section
set_option linter.all false
set_option autoImplicit false
set_option Elab.async false
namespace T3
open PySem PySem.Spec PySem.W L2 PyProof.Rows
/-! ### sorted(d), the keys of the dict d being tuples of as many small whole numbers -/
def keyV (e : DictEntry) : V := bkV e.key
def rSrtD (K : PySem.W.Frag) (d : Nat) (B : Int) : List V → Hp → VK → Prop := fun vs H Q => ∃ (a : Addr) (es : List DictEntry), vs = [V.ref a] ∧ H a = some (DnO a es) ∧ es.length < 64 ∧ (∀ e ∈ es, ∃ b ns, e.key = .ref b ∧ TupI K H (.ref b) ns ∧ ns.length = d ∧ TS.Bd B ns) ∧
  ∀ (ys : List V) (p : Addr), ys.Perm (es.map keyV) → ys.Pairwise (fun x y => ∀ n m, TupI K H x n → TupI K H y m → TS.code B n ≤ TS.code B m) → H p = none → Q (.ref p) (upd H p (.lst ys))
theorem cr_srtD {X : Cx} {d : Nat} {B : Int} (hc : X.calm = true) (hd : 1 ≤ d) : CallR X (.builtin "sorted") (rSrtD X.K d B) := by
  intro pins s σ H vs us Q I r h
  obtain ⟨a, es, rfl, ha, h64, hk, q⟩ := h
  rw [Vals.ref1 r]
  obtain ⟨lo, hz, o, ep, ho, hx, hda⟩ : (a == sysModules) = false ∧ es.length ≤ sizeLine ∧ ∃ o ep, s.heap.get? a = some o ∧ o.ExactDict ∧ o.data = .dict es.toArray ep := (I.hok a _ ha).1
  refine Calls.call_function_entry PyProof.Rows.kind_sorted PyProof.Rows.plain_sorted PyProof.Rows.entry_sorted (PyProof.Rows.args_sorted1 _) ?_
  unfold Builtin.«sorted»
  refine wpAny_bind (m := checkCount "sorted" 1 1 _) (wpAny_pure (wpAny_bind (PySem.W.kdu_collect (A := X.A.in1) (KdlSrc.rawDict (es := es.toArray) (ep := ep) lo) (I.ok.hd hc) ⟨o, ho, hx, hda⟩ (by simpa using hz) fun h' tk acc hk' hacc => ?_)))
  have el : acc.toList = es.map (·.key) := by
    apply List.ext_getElem?
    intro i
    obtain ⟨h1, h2⟩ := hacc
    by_cases hi : i < es.length
    · have hi' : i < acc.size := by rw [h1]; simpa using hi
      obtain ⟨_, e⟩ := h2 i acc[i] (Array.getElem?_eq_getElem hi')
      rw [Array.getElem?_toList, Array.getElem?_eq_getElem hi', e]
      simp [hi]
    · rw [Array.getElem?_toList, Array.getElem?_eq_none (by rw [h1]; simpa using hi)]
      simp [hi]
  have I1 : Inv X pins σ H { s with heap := h', toks := tk } := I.kept hk'
  have vlen : acc.toList.length < 64 := by rw [el, List.length_map]; exact h64
  refine wpAny_bind (wpAny_newList ?_ (by rw [sizeLine_eq]; omega))
  have hoL : (h'.push (seqObj "list" acc.toList.toArray 0)).get? h'.objs.size = some (seqObj "list" acc.toList.toArray 0) := Heap.get?_push_size _ rfl
  show wpAny _ _ _ _ _ { s with heap := h'.push (seqObj "list" acc.toList.toArray 0), toks := tk }
  have tups : TS.TupsOk h' d B acc.toList := fun v hv => by
    rw [el] at hv
    obtain ⟨e, he, rfl⟩ := List.mem_map.mp hv
    obtain ⟨b, ns, e1, ⟨t, e2, ht⟩, hn, hb⟩ := hk e he
    cases e2
    rw [e1]
    exact ⟨ns, tupI_raw I1 ht, hn, hb⟩
  have keep : ∀ b u, h'.get? b = some u → u.cls = .type "tuple" → (h'.push (seqObj "list" acc.toList.toArray 0)).get? b = some u := fun b u e _ => Heap.get?_push_of_some _ e
  refine wpAny_bind (wpAny_holding (wpAny_call_entry PyProof.Rows.slot_list_sort ⟨_, hoL, rfl⟩ PyProof.Rows.entry_list_sort
    (TS.sort_tups (s := { s with heap := h'.push (seqObj "list" acc.toList.toArray 0), toks := tk }) hoL vlen hd (tups.keeps keep) (fun v => TS.code B (TS.intsOf h' v)) (fun v hv ns t => ?_) fun out a1 a2 => ⟨_, rfl, ?_⟩) (PyProof.Rows.args_list_sort _)))
  · obtain ⟨ns0, t0, _⟩ := tups v hv
    have e : ns = ns0 := t.ints.symm.trans (t0.keeps keep).ints
    rw [e, t0.ints]
  · obtain ⟨e', he'⟩ := PyProof.Rows.sortedHeap_at (vs := acc.toList) (out := out) hoL
    have h3 : ∀ u ∈ out.toList, ∃ b, u = Value.ref b := fun u hu => by
      have := a1.mem_iff.mp hu
      rw [el] at this
      obtain ⟨e, he, rfl⟩ := List.mem_map.mp this
      obtain ⟨b, ns, e1, _⟩ := hk e he
      exact ⟨b, e1⟩
    have hp : (out.toList.map bkV).Perm (es.map keyV) := by
      have := a1.map bkV
      rw [el, List.map_map] at this
      exact this
    have hlen : (out.toList.map bkV).length ≤ sizeLine := by rw [hp.length_eq, List.length_map]; exact hz
    refine wpAny_pure ⟨_, rfl, .ref h'.objs.size, upd H h'.objs.size (.lst (out.toList.map bkV)), I1.laid (t' := tk) (fun b u e => ?_) (Nat.le_refl _)
      (show ObjOk X.prog X.w _ _ _ (.lst (out.toList.map bkV)) from ⟨hlen, out.toList, e', bkV_vals h3, by rw [Array.toArray_toList]; exact he'⟩), rfl, q _ _ hp ?_ (I1.hok.fresh (Nat.le_refl _))⟩
    · have hb : b < h'.objs.size := Heap.lt_size e
      rw [PyProof.Rows.sortedHeap_old (Nat.ne_of_lt hb) (by rw [size_push']; exact Nat.lt_succ_of_lt hb)]
      exact Heap.get?_push_of_some _ e
    · rw [List.pairwise_map]
      refine List.Pairwise.imp (fun {u v} huv n m hn hm => ?_) a2
      obtain ⟨t, et, ht⟩ := hn
      obtain ⟨t', et', ht'⟩ := hm
      rw [← (show TS.intsOf h' u = n by rw [bkV_ref et]; exact (tupI_raw I1 ht).ints), ← (show TS.intsOf h' v = m by rw [bkV_ref et']; exact (tupI_raw I1 ht').ints)]
      exact huv
end T3
namespace T3
open PySem L2
/-- sorted of a dict of cells -/
def kSrtD : KK := fun ds env => match ds with
  | [.var i] => match env[i]? with
    | some (some (.mu _ (.dn kvs))) => if kvs.length < 64 then match pairs? (kvs.map fun q => q.1.data) with
        | some ps => some (.tmp (.ls ((ps.mergeSort prLe).map clD)), env)
        | none => none
      else none
    | _ => none
  | _ => none
theorem DnR.keys {K : PySem.W.Frag} {B : Mset} {H : Hp} : ∀ {es : List DictEntry} {kvs : List (NestedKey × PyData)}, Paired (DnE K B H) es kvs → RpA K B H (es.map keyV) (kvs.map fun q => q.1.data)
  | _, _, .nil => .nil
  | _, _, .cons h r => by
    obtain ⟨_, _, ⟨b, e, hr⟩, _⟩ := h
    refine .cons ?_ (DnR.keys r)
    unfold keyV
    rw [e]
    exact hr
theorem srt_pairs {K : PySem.W.Frag} {B1 : Mset} {H1 : Hp} {ys : List V} {ps qs : List (Int × Int)} (hb : ∀ z ∈ ps, 0 ≤ z.1 ∧ z.1 < 64 ∧ 0 ≤ z.2 ∧ z.2 < 64) (g3 : qs.Perm ps) (g1 : RpA K B1 H1 ys (qs.map clD)) (k2 : ys.Pairwise (fun x y => ∀ n m, TupI K H1 x n → TupI K H1 y m → TS.code 64 n ≤ TS.code 64 m)) : qs = ps.mergeSort prLe := by
  have ord : ∀ {ys : List V} {qs : List (Int × Int)}, RpA K B1 H1 ys (qs.map clD) → ys.Pairwise (fun x y => ∀ n m, TupI K H1 x n → TupI K H1 y m → TS.code 64 n ≤ TS.code 64 m) → qs.Pairwise (fun x y => x.1 * 64 + x.2 ≤ y.1 * 64 + y.2) := by
    intro ys qs
    induction qs generalizing ys with
    | nil => intro _ _; exact .nil
    | cons c qs ih =>
      intro r pw
      cases r with
      | cons r1 r2 =>
        cases pw with
        | cons w1 w2 =>
          refine .cons (fun y hy => ?_) (ih r2 w2)
          obtain ⟨j, hj, e⟩ := List.getElem_of_mem hy
          obtain ⟨vv, z1, z2⟩ := r2.get (i := j) (d := clD y) (by rw [List.getElem?_map, List.getElem?_eq_getElem hj, e]; rfl)
          have := w1 vv (List.mem_of_getElem? z1) _ _ (tupI_of r1) (tupI_of z2)
          rw [code_pr, code_pr] at this
          exact this
  have hbq : ∀ z : Int × Int, z ∈ qs → 0 ≤ z.1 ∧ z.1 < 64 ∧ 0 ≤ z.2 ∧ z.2 < 64 := fun z hz => hb z (g3.mem_iff.mp hz)
  refine List.Perm.eq_of_pairwise (le := fun x y : Int × Int => x.1 * 64 + x.2 ≤ y.1 * 64 + y.2) (fun x y hx hy l1 l2 => ?_) (ord g1 k2) ?_ (g3.trans (List.mergeSort_perm _ _).symm)
  · have b1 := hbq x hx
    have b2 := hb y ((List.mergeSort_perm ps prLe).mem_iff.mp hy)
    exact Prod.ext (by omega) (by omega)
  · have := List.pairwise_mergeSort (le := prLe) (fun a b c h1 h2 => by simp [prLe] at h1 h2 ⊢; omega) (fun a b => by simp [prLe]; omega) ps
    exact this.imp (by intro a b h; simpa [prLe] using h)
theorem c_srtD {K : PySem.W.Frag} : Con K kSrtD (rSrtD K 2 64) := by
  intro σ H B env B1 H1 env1 vs ds d e2 Q en a rr hk q
  unfold kSrtD at hk
  split at hk
  · rename_i i
    match vs, rr with
    | [v], rr =>
      split at hk
      · rename_i m kvs hi
        split at hk
        · rename_i h64
          split at hk
          · rename_i ps hp
            cases hk
            obtain ⟨p, hσ, hB, es, he, hR⟩ := a.en.mu i _ _ hi
            have hv : v = .ref p := by
              have h1 : σ[i]? = some (some v) := rr.each 0 v _ rfl rfl
              rw [hσ] at h1
              cases h1
              rfl
            subst hv
            have h2 := DnR.keys hR.ent
            have hl : es.length = kvs.length := by have := h2.length; simpa using this
            obtain ⟨ep, hb⟩ := pairs_eq hp
            rw [ep] at h2
            refine ⟨p, es, rfl, he, by rw [hl]; exact h64, fun e hm => ?_, fun ys r k1 k2 nr => ?_⟩
            · obtain ⟨j, hj, ej⟩ := List.getElem_of_mem hm
              obtain ⟨y, z1, z2⟩ := h2.getV (i := j) (v := keyV e) (by rw [List.getElem?_map, List.getElem?_eq_getElem hj, ej]; rfl)
              rw [List.getElem?_map] at z1
              cases hc : ps[j]? with
              | none => rw [hc] at z1; cases z1
              | some c =>
                rw [hc] at z1
                cases z1
                have hbb := hb c (List.mem_of_getElem? hc)
                obtain ⟨t, et, ht⟩ := tupI_of z2
                refine ⟨t, [c.1, c.2], bkV_ref et, ⟨t, rfl, ht⟩, rfl, fun k hk => ?_⟩
                rcases List.mem_cons.mp hk with e | e
                · rw [e]; exact ⟨hbb.1, hbb.2.1⟩
                · rw [List.mem_singleton.mp e]; exact hbb.2.2
            · obtain ⟨zs, g1, g2⟩ := h2.perm k1
              obtain ⟨qs, rfl, g3⟩ := map_perm_clD g2
              rw [show ps.mergeSort prLe = qs from (srt_pairs hb g3 g1 k2).symm] at q
              exact con_new en a nr g1 q
          · cases hk
        · cases hk
      · cases hk
    | [], rr => have := rr.len; simp at this
    | _ :: _ :: _, rr => have := rr.len; simp at this
  · cases hk
theorem w_srtD {X : Cx} {k : Nat} (hc : X.calm = true) (hr : Room k X.A) : Blt X "sorted" kSrtD := ⟨_, _, cr_srtD hc (by decide), c_srtD, by decide +kernel⟩
end T3

end
section
set_option linter.all false
set_option autoImplicit false
set_option Elab.async false
set_option maxRecDepth 100000
set_option maxHeartbeats 1000000
/-! zip of a list and a tuple. First: zip over any two iterators that are known by their steps. -/
namespace ZM
open PySem RZ
open PySem.Sem (wp)
/-- from every heap with P, the iterator it hands out x, only it changes, behind it R holds -/
def Stp (prog : Program) (w : World) (it : Addr) (P : Heap → Prop) (x : Value) (R : Heap → Prop) : Prop :=
  ∀ {A : Around} {E : Value → Shared → Prop} {Q : Value → Shared → Prop} {s : Shared}, P s.heap → (∀ h', R h' → Heap.SameBut it s.heap h' → Q x { s with heap := h' }) → wpAny (model prog w) A (Builtin.SmallTypes.nextOf (.ref it)) Q E s
def Fin (prog : Program) (w : World) (it : Addr) (P : Heap → Prop) : Prop :=
  ∀ {A : Around} {E : Value → Shared → Prop} {Q : Value → Shared → Prop} {s : Shared}, A.handled = none → P s.heap → (∀ h' e, Heap.ExtBut it s.heap h' → (∃ o, h'.get? e = some o ∧ o.cls = .type "StopIteration") → E (.ref e) { s with heap := h' }) → wpAny (model prog w) A (Builtin.SmallTypes.nextOf (.ref it)) Q E s
/-- P speaks of the objects at it and l alone -/
def Of (it l : Addr) (P : Heap → Prop) : Prop := ∀ b h h', Heap.ExtBut b h h' → it ≠ b → l ≠ b → P h → P h'
section
variable {prog : Program} {w : World} {A : Around} {E : Value → Shared → Prop} {s : Shared}
theorem stp_list {it l : Addr} {i : Nat} {xs : Array Value} {x : Value} (hx : xs[i]? = some x) : Stp prog w it (fun h => h.IsListIter it l i ∧ h.IsList l xs) x (fun h => h.IsListIter it l (i + 1)) :=
  fun p q => wpAny_nextOf_list_item p.1 p.2 hx q
theorem stp_tup {it l : Addr} {i : Nat} {xs : Array Value} {x : Value} (hx : xs[i]? = some x) : Stp prog w it (fun h => h.IsTupleIter it l i ∧ h.IsTuple l xs) x (fun h => h.IsTupleIter it l (i + 1)) :=
  fun p q => nextOf_tuple_item p.1 p.2 hx q
theorem fin_list {it l : Addr} {i : Nat} {xs : Array Value} (hx : xs[i]? = none) : Fin prog w it (fun h => h.IsListIter it l i ∧ h.IsList l xs) :=
  fun hh p q => wpAny_nextOf_list_end hh p.1 p.2 hx q
theorem fin_tup {it l : Addr} {i : Nat} {xs : Array Value} (hx : xs[i]? = none) : Fin prog w it (fun h => h.IsTupleIter it l i ∧ h.IsTuple l xs) :=
  fun hh p q => nextOf_tuple_end hh p.1 p.2 hx q
theorem of_list {it l : Addr} {i : Nat} {xs : Array Value} : Of it l (fun h => h.IsListIter it l i ∧ h.IsList l xs) := fun b h h' e n1 n2 p => ⟨p.1.extBut e n1, p.2.extBut e n2⟩
theorem of_tup {it l : Addr} {i : Nat} {xs : Array Value} : Of it l (fun h => h.IsTupleIter it l i ∧ h.IsTuple l xs) := fun b h h' e n1 n2 p => ⟨p.1.extBut e n1, p.2.extBut e n2⟩
theorem of_list1 {it l : Addr} {i : Nat} : ∀ b h h', Heap.ExtBut b h h' → it ≠ b → h.IsListIter it l i → h'.IsListIter it l i := fun b h h' e n1 p => p.extBut e n1
theorem of_tup1 {it l : Addr} {i : Nat} : ∀ b h h', Heap.ExtBut b h h' → it ≠ b → h.IsTupleIter it l i → h'.IsTupleIter it l i := fun b h h' e n1 p => p.extBut e n1
theorem zip_item {z TI TO i1 i2 l1 l2 : Addr} {x y a b : Value} {P1 P2 R1 R2 : Heap → Prop} {Q : Value → Shared → Prop} (D : ZipApart z TI TO i1 i2 l1 l2)
    (S1 : Stp prog w i1 P1 x R1) (S2 : Stp prog w i2 P2 y R2) (o1 : Of i1 l1 P1) (o2 : Of i2 l2 P2) (q1 : ∀ b h h', Heap.ExtBut b h h' → i1 ≠ b → R1 h → R1 h') (q2 : ∀ b h h', Heap.ExtBut b h h' → i2 ≠ b → R2 h → R2 h')
    (hz : IsZip s.heap z TI TO .none) (hTI : IsPair s.heap TI (.ref i1) (.ref i2)) (hTO : IsPair s.heap TO a b) (p1 : P1 s.heap) (p2 : P2 s.heap) (lt1 : i1 < s.heap.objs.size) (lt2 : i2 < s.heap.objs.size)
    (hQ : ∀ h', IsZip h' z TI TO (rawInt s.heap.objs.size) → IsPair h' TO x y → R1 h' → R2 h' → IsPair h' s.heap.objs.size x y → h'.objs.size = s.heap.objs.size + 1 →
      (∀ c o, c ≠ z → c ≠ TO → c ≠ i1 → c ≠ i2 → s.heap.get? c = some o → h'.get? c = some o) → Q (.ref s.heap.objs.size) { s with heap := h' }) :
    wpAny (model prog w) A (Builtin.«zip.__next__» ⟨[.ref z], []⟩) (fun fin s' => ∃ v, fin = .done (.ret v) ∧ Q v s') E s := by
  show wpAny _ _ (field (.ref z) 2 >>= _) _ _ _
  refine wpAny_bind (wpAny_field hz rfl (x := .bool false) rfl ?_)
  show wpAny _ _ (field (.ref z) 3 >>= _) _ _ _
  refine wpAny_bind (wpAny_field hz rfl (x := .ref TI) rfl (wpAny_bind (wpAny_seqItems hTI rfl ?_)))
  show wpAny _ _ (Builtin.SmallTypes.ownedTupleIsFree (.ref z) >>= _) _ _ _
  refine wpAny_bind ?_
  unfold Builtin.SmallTypes.ownedTupleIsFree
  refine wpAny_bind (wpAny_field hz rfl (x := .none) rfl (wpAny_pure ?_))
  simp only [if_true]
  refine wpAny_bind (wpAny_rule (wpAny_bind (wpAny_field hz rfl (x := .ref TO) rfl (wpAny_bind (wpAny_setField_rec hz (by simp) fun ha za sa => wpAny_bind ?_)))))
  replace za : IsZip ha z TI TO .ellipsis := za
  simp only [List.zipIdx_cons, List.zipIdx_nil, List.forIn_cons, List.forIn_nil]
  refine wpAny_bind (wpAny_bind (wpAny_onRaise ?_))
  show wpAny _ _ (Builtin.SmallTypes.nextOf (.ref i1) >>= _) _ _ _
  refine wpAny_bind (S1 (o1 _ _ _ sa.extBut D.i1z D.l1z p1) fun hb rb sb => wpAny_pure ?_)
  have tb : IsPair hb TO a b := sb.extBut _ _ D.TOi1 (sa.extBut _ _ D.TOz hTO)
  refine wpAny_bind (wpAny_seqItems tb rfl (wpAny_bind (wpAny_updateSeq_pair tb fun hc tc sc => wpAny_bind (wpAny_letGo (wpAny_pure ?_)))))
  replace tc : IsPair hc TO x b := tc
  refine wpAny_bind (wpAny_bind (wpAny_onRaise ?_))
  show wpAny _ _ (Builtin.SmallTypes.nextOf (.ref i2) >>= _) _ _ _
  refine wpAny_bind (S2 (o2 _ _ _ sc.extBut D.TOi2.symm D.l2TO (o2 _ _ _ sb.extBut D.i12.symm D.l2i1 (o2 _ _ _ sa.extBut D.i2z D.l2z p2))) fun hd rd sd => wpAny_pure ?_)
  have td : IsPair hd TO x b := sd.extBut _ _ D.TOi2 tc
  refine wpAny_bind (wpAny_seqItems td rfl (wpAny_bind (wpAny_updateSeq_pair td fun he te se => wpAny_bind (wpAny_letGo (wpAny_pure (wpAny_pure ?_))))))
  replace te : IsPair he TO x y := te
  refine wpAny_bind (wpAny_seqItems te rfl (wpAny_bind (wpAny_newTuple ?_)))
  have sz : he.objs.size = s.heap.objs.size := by rw [se.1, sd.1, sc.1, sb.1, sa.1]
  have ze : IsZip he z TI TO .ellipsis := se.extBut _ _ D.TOz.symm (sd.extBut _ _ D.i2z.symm (sc.extBut _ _ D.TOz.symm (sb.extBut _ _ D.i1z.symm za)))
  have r1 : R1 he := q1 _ _ _ se.extBut D.TOi1.symm (q1 _ _ _ sd.extBut D.i12 (q1 _ _ _ sc.extBut D.TOi1.symm rb))
  have r2 : R2 he := q2 _ _ _ se.extBut D.TOi2.symm rd
  have kp : ∀ c o, c ≠ z → c ≠ TO → c ≠ i1 → c ≠ i2 → s.heap.get? c = some o → he.get? c = some o := fun c o c1 c2 c3 c4 e => se.extBut _ _ c2 (sd.extBut _ _ c4 (sc.extBut _ _ c2 (sb.extBut _ _ c3 (sa.extBut _ _ c1 e))))
  have zl : z < he.objs.size := Heap.lt_size ze
  show wpAny _ _ (Builtin.SmallTypes.ownedTupleHandOut (.ref z) (.ref he.objs.size) >>= _) _ _ _
  refine wpAny_bind ?_
  unfold Builtin.SmallTypes.ownedTupleHandOut
  have zf : IsZip (he.push { cls := .type "tuple", data := .seq #[x, y] }) z TI TO .ellipsis := Heap.get?_push_of_some _ ze
  have ef : Heap.ExtBut he.objs.size he (he.push { cls := .type "tuple", data := .seq #[x, y] }) := fun c o _ e => Heap.get?_push_of_some _ e
  refine wpAny_bind (wpAny_setField_rec zf (by simp) fun hg zg sg => ?_)
  replace zg : IsZip hg z TI TO (rawInt he.objs.size) := zg
  refine wpAny_setField_rec zg (by simp) fun hh zh sh => wpAny_pure ⟨_, rfl, ?_⟩
  replace zh : IsZip hh z TI TO (rawInt he.objs.size) := zh
  have up : ∀ c o, c ≠ z → he.get? c = some o → hh.get? c = some o := fun c o c1 e => sh.extBut _ _ c1 (sg.extBut _ _ c1 (Heap.get?_push_of_some _ e))
  have th : IsPair hh he.objs.size x y := sh.extBut _ _ (Nat.ne_of_gt zl) (sg.extBut _ _ (Nat.ne_of_gt zl) (Heap.get?_push_size _ rfl))
  have s8 : hh.objs.size = he.objs.size + 1 := by rw [sh.1, sg.1, Heap.size_push]
  have r1' : R1 hh := q1 _ _ _ sh.extBut D.i1z (q1 _ _ _ sg.extBut D.i1z (q1 _ _ _ ef (by rw [sz]; exact Nat.ne_of_lt lt1) r1))
  have r2' : R2 hh := q2 _ _ _ sh.extBut D.i2z (q2 _ _ _ sg.extBut D.i2z (q2 _ _ _ ef (by rw [sz]; exact Nat.ne_of_lt lt2) r2))
  show Q (.ref he.objs.size) _
  rw [sz] at zh th s8
  rw [sz]
  exact hQ hh zh (up _ _ D.TOz te) r1' r2' th s8 fun c o c1 c2 c3 c4 e => up c o c1 (kp c o c1 c2 c3 c4 e)
theorem zip_end {z TI TO i1 i2 l1 l2 : Addr} {a b : Value} {P1 P2 : Heap → Prop} {Q : PySem.Fin → Shared → Prop} (hh : A.handled = none) (D : ZipApart z TI TO i1 i2 l1 l2)
    (o1 : Of i1 l1 P1) (o2 : Of i2 l2 P2) (K : Fin prog w i1 P1 ∨ (∃ x R1, Stp prog w i1 P1 x R1) ∧ Fin prog w i2 P2)
    (hz : IsZip s.heap z TI TO .none) (hTI : IsPair s.heap TI (.ref i1) (.ref i2)) (hTO : IsPair s.heap TO a b) (p1 : P1 s.heap) (p2 : P2 s.heap)
    (hE : ∀ h' e, (∀ c o, c ≠ z → c ≠ TO → c ≠ i1 → c ≠ i2 → s.heap.get? c = some o → h'.get? c = some o) → (∃ o, h'.get? e = some o ∧ o.cls = .type "StopIteration") → E (.ref e) { s with heap := h' }) :
    wpAny (model prog w) A (Builtin.«zip.__next__» ⟨[.ref z], []⟩) Q E s := by
  show wpAny _ _ (field (.ref z) 2 >>= _) _ _ _
  refine wpAny_bind (wpAny_field hz rfl (x := .bool false) rfl ?_)
  show wpAny _ _ (field (.ref z) 3 >>= _) _ _ _
  refine wpAny_bind (wpAny_field hz rfl (x := .ref TI) rfl (wpAny_bind (wpAny_seqItems hTI rfl ?_)))
  show wpAny _ _ (Builtin.SmallTypes.ownedTupleIsFree (.ref z) >>= _) _ _ _
  refine wpAny_bind ?_
  unfold Builtin.SmallTypes.ownedTupleIsFree
  refine wpAny_bind (wpAny_field hz rfl (x := .none) rfl (wpAny_pure ?_))
  simp only [if_true]
  refine wpAny_bind (wpAny_rule (wpAny_bind (wpAny_field hz rfl (x := .ref TO) rfl (wpAny_bind (wpAny_setField_rec hz (by simp) fun ha za sa => wpAny_bind ?_)))))
  replace za : IsZip ha z TI TO .ellipsis := za
  simp only [List.zipIdx_cons, List.zipIdx_nil, List.forIn_cons, List.forIn_nil]
  refine wpAny_bind (wpAny_bind (wpAny_onRaise ?_))
  show wpAny _ _ (Builtin.SmallTypes.nextOf (.ref i1) >>= _) _ _ _
  have pa := o1 _ _ _ sa.extBut D.i1z D.l1z p1
  rcases K with F | ⟨⟨x, R1, S1⟩, F⟩
  · refine wpAny_bind (F hh pa fun hb e sb ⟨oe, g, c⟩ => ?_)
    have zb : IsZip hb z TI TO .ellipsis := sb _ _ D.i1z.symm za
    have ne : e ≠ z := fun x => by subst x; rw [zb] at g; cases g; simp at c
    exact wpAny_setField_rec zb (by simp) fun hc _ sc => hE hc e (fun c o c1 _ c3 _ x => sc.extBut _ _ c1 (sb _ _ c3 (sa.extBut _ _ c1 x))) ⟨oe, sc.extBut _ _ ne g, c⟩
  · refine wpAny_bind (S1 pa fun hb rb sb => wpAny_pure ?_)
    have tb : IsPair hb TO a b := sb.extBut _ _ D.TOi1 (sa.extBut _ _ D.TOz hTO)
    refine wpAny_bind (wpAny_seqItems tb rfl (wpAny_bind (wpAny_updateSeq_pair tb fun hc tc sc => wpAny_bind (wpAny_letGo (wpAny_pure ?_)))))
    refine wpAny_bind (wpAny_bind (wpAny_onRaise ?_))
    show wpAny _ _ (Builtin.SmallTypes.nextOf (.ref i2) >>= _) _ _ _
    refine wpAny_bind (F hh (o2 _ _ _ sc.extBut D.TOi2.symm D.l2TO (o2 _ _ _ sb.extBut D.i12.symm D.l2i1 (o2 _ _ _ sa.extBut D.i2z D.l2z p2))) fun hd e sd ⟨oe, g, c⟩ => ?_)
    have zd : IsZip hd z TI TO .ellipsis := sd _ _ D.i2z.symm (sc.extBut _ _ D.TOz.symm (sb.extBut _ _ D.i1z.symm za))
    have ne : e ≠ z := fun x => by subst x; rw [zd] at g; cases g; simp at c
    exact wpAny_setField_rec zd (by simp) fun hf _ sf => hE hf e (fun c o c1 c2 c3 c4 x => sf.extBut _ _ c1 (sd _ _ c4 (sc.extBut _ _ c2 (sb.extBut _ _ c3 (sa.extBut _ _ c1 x))))) ⟨oe, sf.extBut _ _ ne g, c⟩
theorem next_item {z TI TO i1 i2 l1 l2 : Addr} {x y a b : Value} {P1 P2 R1 R2 : Heap → Prop} {Q : Option Value → Shared → Prop} (D : ZipApart z TI TO i1 i2 l1 l2)
    (S1 : Stp prog w i1 P1 x R1) (S2 : Stp prog w i2 P2 y R2) (o1 : Of i1 l1 P1) (o2 : Of i2 l2 P2) (q1 : ∀ b h h', Heap.ExtBut b h h' → i1 ≠ b → R1 h → R1 h') (q2 : ∀ b h h', Heap.ExtBut b h h' → i2 ≠ b → R2 h → R2 h')
    (hz : IsZip s.heap z TI TO .none) (hTI : IsPair s.heap TI (.ref i1) (.ref i2)) (hTO : IsPair s.heap TO a b) (p1 : P1 s.heap) (p2 : P2 s.heap) (lt1 : i1 < s.heap.objs.size) (lt2 : i2 < s.heap.objs.size)
    (hQ : ∀ h', IsZip h' z TI TO (rawInt s.heap.objs.size) → IsPair h' TO x y → R1 h' → R2 h' → IsPair h' s.heap.objs.size x y → h'.objs.size = s.heap.objs.size + 1 →
      (∀ c o, c ≠ z → c ≠ TO → c ≠ i1 → c ≠ i2 → s.heap.get? c = some o → h'.get? c = some o) → Q (some (.ref s.heap.objs.size)) { s with heap := h' }) :
    wpAny (model prog w) A (pyNext (.ref z)) Q E s := by
  have hT : s.TypeIs (.ref z) "zip" := ⟨_, hz, rfl⟩
  unfold pyNext
  exact wpAny_bind (wpAny_attempt (wpAny_callSpecial?_slot (name := Str.ofString "__next__") hT F.slot_zip_next
    (wpAny_call_entry F.slot_zip_next hT F.entry_zip_next (zip_item D S1 S2 o1 o2 q1 q2 hz hTI hTO p1 p2 lt1 lt2 fun h' a1 a2 a3 a4 a5 a6 a7 => wpAny_pure (hQ h' a1 a2 a3 a4 a5 a6 a7)) (F.args_zip_next_1 _))))
theorem next_end {z TI TO i1 i2 l1 l2 : Addr} {a b : Value} {P1 P2 : Heap → Prop} {Q : Option Value → Shared → Prop} (hh : A.handled = none) (D : ZipApart z TI TO i1 i2 l1 l2)
    (o1 : Of i1 l1 P1) (o2 : Of i2 l2 P2) (K : Fin prog w i1 P1 ∨ (∃ x R1, Stp prog w i1 P1 x R1) ∧ Fin prog w i2 P2)
    (hz : IsZip s.heap z TI TO .none) (hTI : IsPair s.heap TI (.ref i1) (.ref i2)) (hTO : IsPair s.heap TO a b) (p1 : P1 s.heap) (p2 : P2 s.heap)
    (hQ : ∀ h', (∀ c o, c ≠ z → c ≠ TO → c ≠ i1 → c ≠ i2 → s.heap.get? c = some o → h'.get? c = some o) → Q none { s with heap := h' }) : wpAny (model prog w) A (pyNext (.ref z)) Q E s := by
  have hT : s.TypeIs (.ref z) "zip" := ⟨_, hz, rfl⟩
  unfold pyNext
  refine wpAny_bind (wpAny_attempt (wpAny_callSpecial?_slot (name := Str.ofString "__next__") hT F.slot_zip_next
    (wpAny_call_entry F.slot_zip_next hT F.entry_zip_next (zip_end hh D o1 o2 K hz hTI hTO p1 p2 fun h' e hk ⟨o, ho, hc⟩ => ?_) (F.args_zip_next_1 _))))
  exact wpAny_bind (wpAny_isInstance (T := "StopIteration") (b := true) ⟨o, ho, hc⟩ isSubtype_stop (wpAny_pure (hQ _ hk)))
end
end ZM

end
section
set_option linter.all false
set_option autoImplicit false
set_option Elab.async false
set_option maxRecDepth 100000
set_option maxHeartbeats 1000000
/-! zip(list, tuple): the call, its turns, the walk. -/
namespace ZM
open PySem PySem.Spec PyProof.Rows L2 RZ
abbrev hA (h : Heap) (l1 : Addr) : Heap := h.push { cls := .type "list_iterator", data := .fields #[.ref l1, .int 0 0] }
abbrev hB (h : Heap) (l1 l2 : Addr) : Heap := (hA h l1).push { cls := .type "tuple_iterator", data := .fields #[.ref l2, .int 0 0] }
abbrev hC (h : Heap) (l1 l2 : Addr) : Heap := (hB h l1 l2).push { cls := .type "tuple", data := .seq #[.ref h.objs.size, .ref (hA h l1).objs.size] }
abbrev hD (h : Heap) (l1 l2 : Addr) : Heap := (hC h l1 l2).push { cls := .type "tuple", data := .seq #[.none, .none] }
abbrev hE (h : Heap) (l1 l2 : Addr) : Heap := (hD h l1 l2).push { cls := .type "zip", data := .fields #[.none, .bool false, .bool false, .ref (hB h l1 l2).objs.size, .ref (hC h l1 l2).objs.size] }
theorem meets_new (l1 l2 : Addr) (xs ys : Array Value) :
    Meets (Builtin.«zip.__new__» ⟨[.type "zip", .ref l1, .ref l2], []⟩) (fun _ R s => s.heap.IsList l1 xs ∧ s.heap.IsTuple l2 ys ∧ R (.ok (.ret (.ref (hD s.heap l1 l2).objs.size))) { s with heap := hE s.heap l1 l2 }) :=
  .of_wp fun prog w A R s h => by
    obtain ⟨hp, g, d, tk, os⟩ := s
    obtain ⟨u1, u2, h⟩ := h
    have hsub := sub_zip
    have v1 : Heap.IsList (Shared.heap ⟨hp, g, d, tk, os⟩) l1 xs := u1
    have v2 : Heap.IsTuple (Shared.heap ⟨hp.push { cls := .type "list_iterator", data := .fields #[.ref l1, .int 0 0] }, g, d, tk, os⟩) l2 ys := Heap.IsTuple.push u2 _
    wp_walk using wpAny_pyIter_list v1, wpAny_pyIter_tuple v2
    exact ⟨_, rfl, h⟩
theorem call_zm {prog : Program} {w : World} {A : Around} {E : Value → Shared → Prop} {s : Shared} {l1 l2 : Addr} {xs ys : Array Value} {Q : Value → Shared → Prop} (u1 : s.heap.IsList l1 xs) (u2 : s.heap.IsTuple l2 ys)
    (h : ∀ h', IsZip h' (s.heap.objs.size + 4) (s.heap.objs.size + 2) (s.heap.objs.size + 3) .none → IsPair h' (s.heap.objs.size + 2) (.ref s.heap.objs.size) (.ref (s.heap.objs.size + 1)) →
      IsPair h' (s.heap.objs.size + 3) .none .none → h'.IsListIter s.heap.objs.size l1 0 → h'.IsTupleIter (s.heap.objs.size + 1) l2 0 → (∀ c o, s.heap.get? c = some o → h'.get? c = some o) → Q (.ref (s.heap.objs.size + 4)) { s with heap := h' }) :
    wpAny (model prog w) A (call (.type "zip") [.ref l1, .ref l2]) Q E s := by
  refine callType_new F.called_zip (by decide) (F.typeCall_zip_2 _ _) (F.newCall_zip_2 _ _) (fun obj => F.args_object_init_3 obj _ _) F.entry_zip_new (meets_new l1 l2 xs ys) ⟨u1, u2, ?_⟩
  have za : (hA s.heap l1).objs.size = s.heap.objs.size + 1 := Heap.size_push ..
  have zb : (hB s.heap l1 l2).objs.size = s.heap.objs.size + 2 := by rw [Heap.size_push, za]
  have zc : (hC s.heap l1 l2).objs.size = s.heap.objs.size + 3 := by rw [Heap.size_push, zb]
  have zd : (hD s.heap l1 l2).objs.size = s.heap.objs.size + 4 := by rw [Heap.size_push, zc]
  have up : ∀ c o, (hD s.heap l1 l2).get? c = some o → (hE s.heap l1 l2).get? c = some o := fun c o e => Heap.get?_push_of_some _ e
  have up2 : ∀ c o, (hC s.heap l1 l2).get? c = some o → (hE s.heap l1 l2).get? c = some o := fun c o e => up c o (Heap.get?_push_of_some _ e)
  have up3 : ∀ c o, (hB s.heap l1 l2).get? c = some o → (hE s.heap l1 l2).get? c = some o := fun c o e => up2 c o (Heap.get?_push_of_some _ e)
  have up4 : ∀ c o, (hA s.heap l1).get? c = some o → (hE s.heap l1 l2).get? c = some o := fun c o e => up3 c o (Heap.get?_push_of_some _ e)
  have g5 : (hE s.heap l1 l2).get? (hD s.heap l1 l2).objs.size = some _ := Heap.get?_push_size _ rfl
  have g4 : (hE s.heap l1 l2).get? (hC s.heap l1 l2).objs.size = some _ := up _ _ (Heap.get?_push_size _ rfl)
  have g3 : (hE s.heap l1 l2).get? (hB s.heap l1 l2).objs.size = some _ := up2 _ _ (Heap.get?_push_size _ rfl)
  have g2 : (hE s.heap l1 l2).get? (hA s.heap l1).objs.size = some _ := up3 _ _ (Heap.get?_push_size _ rfl)
  have g1 : (hE s.heap l1 l2).get? s.heap.objs.size = some _ := up4 _ _ (Heap.get?_push_size _ rfl)
  show _ ∧ _
  rw [zb, zc, zd] at g5
  rw [za, zb] at g3
  rw [zc] at g4
  rw [za] at g2
  rw [zd]
  exact ⟨⟨_, g5, rfl⟩, h _ g5 g3 g4 ⟨_, g1, rfl, rfl⟩ ⟨_, g2, rfl, rfl⟩ fun c o x => up4 c o (Heap.get?_push_of_some _ x)⟩
def ItM (K : PySem.W.Frag) (a b : Addr) : It :=
  ⟨fun i H => ∃ (xs ys : List V) (x y : V), SqL K H a xs ∧ SqT K H b ys ∧ xs[i]? = some x ∧ ys[i]? = some y,
    fun i H v H' => ∃ T x y, v = .ref T ∧ H T = none ∧ H' = upd H T (.tup [x, y]) ∧ (∀ xs, SqL K H a xs → xs[i]? = some x) ∧ ∀ ys, SqT K H b ys → ys[i]? = some y,
    fun i H => ∃ xs ys : List V, SqL K H a xs ∧ SqT K H b ys ∧ (xs.length ≤ i ∨ ys.length ≤ i)⟩
theorem turn_zm {P : Program} {w : World} {K : PySem.W.Frag} {elts : List Expr} {kk : Nat} {tpos : Pos} {a b z TI TO i1 i2 : Addr} (D : ZipApart z TI TO i1 i2 a b) :
    Turn P w K (.Tuple elts kk tpos) (ItM K a b) [z, TI, TO, i1, i2] z (fun i h => IsZip h z TI TO .none ∧ IsPair h TI (.ref i1) (.ref i2) ∧ (∃ x y, IsPair h TO x y) ∧ h.IsListIter i1 a i ∧ h.IsTupleIter i2 b i) where
  mem := by simp
  obj := fun i h st c hc => by
    obtain ⟨hz, hTI, ⟨x, y, hTO⟩, ⟨o1, e1, _, d1⟩, ⟨o2, e2, _, d2⟩⟩ := st
    simp only [List.mem_cons, List.not_mem_nil, or_false] at hc
    rcases hc with rfl | rfl | rfl | rfl | rfl
    · exact ⟨_, hz, fun v q => nomatch q⟩
    · exact ⟨_, hTI, fun v q => nomatch q⟩
    · exact ⟨_, hTO, fun v q => nomatch q⟩
    · exact ⟨o1, e1, fun v q => by rw [d1] at q; cases q⟩
    · exact ⟨o2, e2, fun v q => by rw [d2] at q; cases q⟩
  keep := fun i h h' st k => by
    obtain ⟨hz, hTI, ⟨x, y, hTO⟩, h1, h2⟩ := st
    exact ⟨k z (by simp) _ hz, k TI (by simp) _ hTI, ⟨x, y, k TO (by simp) _ hTO⟩, h1.at fun o q => k i1 (by simp) o q, h2.at fun o q => k i2 (by simp) o q⟩
  item := by
    intro X hP hw hK hc i pins s σ H E I hf st hg
    subst hP hw hK
    obtain ⟨hz, hTI, ⟨x0, y0, hTO⟩, h1, h2⟩ := st
    obtain ⟨xs, ys, x, y, hqx, hqy, hx, hy⟩ := hg
    obtain ⟨its, rv, p, _⟩ := I.list hqx
    obtain ⟨its2, rv2, p2, _⟩ := I.tuple hqy
    obtain ⟨u, hu, ru⟩ := rv.get hx
    obtain ⟨u2, hu2, ru2⟩ := rv2.get hy
    have hzl : z < s.heap.objs.size := Heap.lt_size hz
    have lt1 : i1 < s.heap.objs.size := by obtain ⟨_, e1, _⟩ := id h1; exact Heap.lt_size e1
    have lt2 : i2 < s.heap.objs.size := by obtain ⟨_, e2, _⟩ := id h2; exact Heap.lt_size e2
    refine next_item D (stp_list (i := i) (xs := its.toArray) (by simpa using hu)) (stp_tup (i := i) (xs := its2.toArray) (by simpa using hu2)) of_list of_tup of_list1 of_tup1 hz hTI hTO ⟨h1, p.isList⟩ ⟨h2, p2⟩ lt1 lt2 fun h' z' TO' h1' h2' hT hsz hk => ?_
    refine ⟨_, rfl, wpAny_letOwnedTupleGo_zip (s := { s with heap := h' }) z' fun h'' z'' sb => ?_⟩
    have hT2 : h''.get? s.heap.objs.size = some { cls := .type "tuple", data := .seq #[u, u2] } := (sb.2 _ (Nat.ne_of_gt hzl)).trans hT
    have new : ObjOk X.prog X.w (upd H s.heap.objs.size (.tup [x, y])) h'' s.heap.objs.size (.tup [x, y]) := ⟨by show 2 ≤ sizeLine; decide, [u, u2], .cons ru (.cons ru2 .nil), ⟨_, hT2, rfl, _, rfl⟩⟩
    have I1 : Inv X pins σ (upd H s.heap.objs.size (.tup [x, y])) { s with heap := h'' } :=
      I.turnedNew (t' := s.toks) (ch := [z, TI, TO, i1, i2]) (fun c o hb q => (sb.2 c (fun q' => hb (by simp [q']))).trans (hk c o (fun q' => hb (by simp [q'])) (fun q' => hb (by simp [q'])) (fun q' => hb (by simp [q'])) (fun q' => hb (by simp [q'])) q)) hf (Nat.le_refl _) new
    refine ⟨.ref s.heap.objs.size, _, I1, rfl, ⟨_, x, y, rfl, I.hok.fresh (Nat.le_refl _), rfl, fun l hl => by rw [I.list_inj hl hqx]; exact hx, fun l hl => by rw [I.tuple_inj hl hqy]; exact hy⟩, ⟨z'', ?_, ⟨u, u2, ?_⟩, ?_, ?_⟩, fun c hcm => ?_⟩
    · exact (sb.2 _ D.TIz).trans (hk _ _ D.TIz D.TITO D.TIi1 D.TIi2 hTI)
    · exact (sb.2 _ D.TOz).trans TO'
    · exact h1'.at fun o q => (sb.2 _ D.i1z).trans q
    · exact h2'.at fun o q => (sb.2 _ D.i2z).trans q
    · have hlt : c < s.heap.objs.size := by
        have hcm' := hcm
        simp only [List.mem_cons, List.not_mem_nil, or_false] at hcm'
        rcases hcm' with q | q | q | q | q
        · rw [q]; exact hzl
        · rw [q]; exact Heap.lt_size hTI
        · rw [q]; exact Heap.lt_size hTO
        · rw [q]; exact lt1
        · rw [q]; exact lt2
      rw [upd_ne (Nat.ne_of_lt hlt)]
      exact (hf c hcm).1
  done := by
    intro X hP hw hK hc i pins s σ H E I hf st hg
    subst hP hw hK
    obtain ⟨hz, hTI, ⟨x0, y0, hTO⟩, h1, h2⟩ := st
    obtain ⟨xs, ys, hqx, hqy, hend⟩ := hg
    obtain ⟨its, rv, p, _⟩ := I.list hqx
    obtain ⟨its2, rv2, p2, _⟩ := I.tuple hqy
    have l1 := rv.length
    have l2 := rv2.length
    have K' : Fin X.prog X.w i1 (fun h => h.IsListIter i1 a i ∧ h.IsList a its.toArray) ∨ (∃ x R1, Stp X.prog X.w i1 (fun h => h.IsListIter i1 a i ∧ h.IsList a its.toArray) x R1) ∧ Fin X.prog X.w i2 (fun h => h.IsTupleIter i2 b i ∧ h.IsTuple b its2.toArray) := by
      by_cases q : its.length ≤ i
      · exact .inl (fin_list (by simp; omega))
      · refine .inr ⟨⟨its[i]'(by omega), _, stp_list (by simp)⟩, fin_tup (by simp; omega)⟩
    exact next_end (I.ok.hd hc) D of_list of_tup K' hz hTI hTO ⟨h1, p.isList⟩ ⟨h2, p2⟩ fun h' hk => ⟨rfl, I.turnedL (t' := s.toks) (ch := [z, TI, TO, i1, i2]) (fun c o hb q =>
      hk c o (fun q' => hb (by simp [q'])) (fun q' => hb (by simp [q'])) (fun q' => hb (by simp [q'])) (fun q' => hb (by simp [q'])) q) hf⟩
  self := fun A i s Q E st h => wpAny_pyIter_zip st.1 h
def iZM (K : PySem.W.Frag) (ta : TA) : TI := fun σ H R => ta σ H fun vs H1 => ∃ a b xs ys, vs = [.ref a, .ref b] ∧ SqL K H1 a xs ∧ SqT K H1 b ys ∧ R (ItM K a b) H1
theorem pi_zm {X : Cx} {e e2 : Expr} {ta : TA} {p pos tpos : Pos} {elts : List Expr} {kk : Nat} (hg : Gl X "zip") (hm : X.mg "zip" = none) (ha : PA X [e, e2] ta)
    (hs : starEach [e, e2] X.env = (false, eval e X.env) :: starEach [e2] X.env := by rfl) (hpl : (backTo pos (starEach [e2] X.env)).any (·.1) = false := by rfl) :
    PI X (.Tuple elts kk tpos) (.Call (.Name "zip" p) [e, e2] [] pos) (iZM X.K ta) := by
  refine ⟨fun pins s σ H R I h => ?_⟩
  refine Call_ (ld_blt I hg hm PyProof.Rows.boot_zip (PyProof.Rows.callWith_type1 (thn (ha.run pos pins s σ H _ I h) fun us s1 ⟨vs, H1, I1, r1, q1⟩ => ?_) hs hpl))
  obtain ⟨a, b, xs, ys, ex, hqx, hqy, q⟩ := q1
  subst ex
  cases r1 with
  | cons r rr =>
    cases rr with
    | cons r' rr =>
      cases rr
      cases r
      cases r'
      have fresh5 : ∀ c, c ∈ [s1.heap.objs.size + 4, s1.heap.objs.size + 2, s1.heap.objs.size + 3, s1.heap.objs.size, s1.heap.objs.size + 1] → FpOk X pins H1 c := fun c hcm => by
        have hle : s1.heap.objs.size ≤ c := by
          simp only [List.mem_cons, List.not_mem_nil, or_false] at hcm
          rcases hcm with z | z | z | z | z <;> rw [z] <;> omega
        exact I1.fpOk hle (I1.hok.fresh hle)
      obtain ⟨its, rv, p1, _⟩ := I1.list hqx
      obtain ⟨its2, rv2, p2, _⟩ := I1.tuple hqy
      obtain ⟨o2, ho2, _⟩ := id p2
      refine call_zm (show s1.heap.IsList a its.toArray from p1.isList) (show s1.heap.IsTuple b its2.toArray from p2) fun h' hz hTI hTO h1 h2 hk => wpAny_pyIter_zip hz ?_
      have I2 : Inv X pins σ H1 { s1 with heap := h' } := I1.kept (t' := s1.toks) hk
      exact ⟨s1.heap.objs.size + 4, [s1.heap.objs.size + 4, s1.heap.objs.size + 2, s1.heap.objs.size + 3, s1.heap.objs.size, s1.heap.objs.size + 1], _, _, H1, rfl, I2, turn_zm (PySem.W.ktu_apart s1.heap.objs.size a b p1.lt (Heap.lt_size ho2)), ⟨hz, hTI, ⟨_, _, hTO⟩, h1, h2⟩, fresh5, q⟩
end ZM
namespace T3
open PySem L2
theorem wk_zm {K : PySem.W.Frag} {a b : Addr} {xs ys : List PyData} : Wk K (ZM.ItM K a b) (fun q => q = a) (fun B H => (∃ vs, H a = some (.lst vs) ∧ RpA K B H vs xs) ∧ Rp K B H (.ref b) (.tuple ys)) (zipD xs ys) where
  go i B H g hi := by
    obtain ⟨⟨us, h1, h2⟩, g2⟩ := g
    obtain ⟨_, ws, e, h3, h4⟩ := Cn.tuple (.rp g2)
    cases e
    simp only [zipD, List.length_zipWith] at hi
    have l1 := h2.length
    have l2 := h4.length
    exact ⟨us, ws, us[i]'(by omega), ws[i]'(by omega), .inl (.inl h1), h3, by simp, by simp⟩
  stop B H g := by
    obtain ⟨⟨us, h1, h2⟩, g2⟩ := g
    obtain ⟨_, ws, e, h3, h4⟩ := Cn.tuple (.rp g2)
    cases e
    refine ⟨us, ws, .inl (.inl h1), h3, ?_⟩
    simp only [zipD, List.length_zipWith]
    have l1 := h2.length
    have l2 := h4.length
    omega
  yld i B H x H' d g hd hy := by
    obtain ⟨⟨us, h1, h2⟩, g2⟩ := g
    obtain ⟨_, ws, e, h3, h4⟩ := Cn.tuple (.rp g2)
    cases e
    obtain ⟨T, u, w, rfl, nT, rfl, f1, f2⟩ := hy
    refine ⟨.inr ⟨T, _, nT, rfl⟩, ?_⟩
    simp only [zipD, List.getElem?_zipWith] at hd
    have k1 := f1 us (.inl (.inl h1))
    have k2 := f2 ws h3
    obtain ⟨x, m1, m2⟩ := h2.getV k1
    obtain ⟨y, m3, m4⟩ := h4.getV k2
    rw [m1, m3] at hd
    cases hd
    have gr : Grow B H B (upd H T (.tup [u, w])) := ⟨fun q o h _ => keep_upd nT q o h, fun q h => .inl h⟩
    exact .tup (.inl (.inl upd_same)) (.cons (m2.grow gr) (.cons (m4.grow gr) .nil))
  keep W B H W' B' H' g s wb hp := by
    obtain ⟨⟨vs, h1, h2⟩, g2⟩ := g
    exact ⟨⟨vs, s.keep _ _ h1 (.inl (hp a rfl)), h2.grow (s.grow wb)⟩, g2.grow (s.grow wb)⟩
/-- zip(list variable, tuple) -/
def iZm (f : EA) : EI := fun env => match f env with
  | some ([.var i, d2], e) => match e[i]? with
    | some (some (.mu m (.ls xs))) => match tupOf d2 with
      | none => none
      | some ys => some (zipD xs ys, some (i, m), e.set i (some (.mu .fro (.ls xs))))
    | _ => none
  | _ => none
theorem i_zm {X : Cx} {e e2 : Expr} {f : EA} {p pos tpos : Pos} {elts : List Expr} {kk : Nat} (hg : Gl X "zip") (hm : X.mg "zip" = none) (ha : PA X [e, e2] (tA X.K f))
    (hs : starEach [e, e2] X.env = (false, eval e X.env) :: starEach [e2] X.env := by rfl) (hpl : (backTo pos (starEach [e2] X.env)).any (·.1) = false := by rfl) :
    PI X (.Tuple elts kk tpos) (.Call (.Name "zip" p) [e, e2] [] pos) (tI X.K (iZm f)) := PI.imp (ZM.pi_zm hg hm ha hs hpl) fun σ H R h => by
  obtain ⟨B, env, xs, lk, env', en, ev, q⟩ := h
  unfold iZm at ev
  split at ev
  · rename_i i d2 e1 h1
    split at ev
    · rename_i m xs h2
      split at ev
      · cases ev
      rename_i ys h3
      cases ev
      refine ⟨B, env, _, _, en, h1, fun B1 H1 vs a1 rr => ?_⟩
      match vs, rr with
      | [v, w], rr =>
        have k := rr.each 0 v (.var i) rfl rfl
        have r2 := tupOf_at (rr.each 1 w d2 rfl rfl) h3
        have k1 := k
        unfold RA at k1
        obtain ⟨a, g1, g2, us, g3, g4⟩ := a1.en.mu i _ _ h2
        have ev : v = .ref a := by
          have := k1.symm.trans g1
          simpa using this
        subst ev
        obtain ⟨b, ws, rfl, g5, _⟩ := Cn.tuple (.rp r2)
        refine ⟨a, b, us, ws, rfl, .inl (.inl g3), g5, q B1 H1 _ _ _ _ a1 ⟨_, h2, rfl⟩ wk_zm ⟨⟨us, g3, g4⟩, r2⟩ (fun p z => ?_)⟩
        subst z
        refine ⟨fun ⟨j, m', c, z1, z2, z3⟩ => ?_, _, g3⟩
        rcases get_set z1 with ⟨e1, e2⟩ | ⟨e1, z1⟩
        · cases e2; exact z2 rfl
        · exact e1 (a1.en.inj i j _ _ _ _ _ h2 z1 k1 z3)
      | [], rr => have := rr.len; simp at this
      | [_], rr => have := rr.len; simp at this
      | _ :: _ :: _ :: _, rr => have := rr.len; simp at this
    · cases ev
  · cases ev
end T3

end
section
set_option linter.all false
set_option autoImplicit false
set_option Elab.async false
namespace T3
open PySem L2
/-! ### a new list that is never changed again is held as data -/
theorem At.fz {K : PySem.W.Frag} {σ : St} {B B1 : Mset} {H H1 : Hp} {env env1 : Sl} {p : Addr} (en : EnvR K B H σ env) (a : At K σ B H env B1 H1 env1) (h0 : H p = none) (hn : ∀ (i : Nat) m d, env1[i]? = some (some (S.mu m d)) → σ[i]? ≠ some (some (V.ref p))) :
    Grow B1 H1 (fun q => B1 q ∧ q ≠ p) H1 ∧ At K σ B H env (fun q => B1 q ∧ q ≠ p) H1 env1 := by
  have g : Grow B1 H1 (fun q => B1 q ∧ q ≠ p) H1 := ⟨fun _ _ h _ => h, fun _ h => .inl h.1⟩
  refine ⟨g, ⟨a.st.keep, fun q h => a.st.new q h.1, fun q h w => ⟨a.st.old q h w, fun e => ?_⟩, a.st.sub, a.st.liv⟩, ⟨a.en.len, fun i x h => ?_, fun i x h => ?_, fun i m c h => ?_, a.en.inj, fun q h => a.en.dom q h.1⟩, a.sm, a.ks⟩
  · obtain ⟨o, ho⟩ := en.dom q h
    rw [e, h0] at ho
    cases ho
  · obtain ⟨v, h1, h2⟩ := a.en.pd i x h
    exact ⟨v, h1, h2.grow g⟩
  · obtain ⟨v, h1, h2⟩ := a.en.nt i x h
    exact ⟨v, h1, h2.grow g⟩
  · obtain ⟨v, h1, h2, h3⟩ := a.en.mu i m c h
    refine ⟨v, h1, ⟨h2, fun e => hn i m c h (by rw [h1, e])⟩, ?_⟩
    cases c with
    | ls xs => obtain ⟨vs, k1, k2⟩ := h3; exact ⟨vs, k1, k2.grow g⟩
    | dk kvs => obtain ⟨vs, k1, k2⟩ := h3; exact ⟨vs, k1, k2.grow g⟩
    | dn kvs => obtain ⟨vs, k1, k2⟩ := h3; exact ⟨vs, k1, k2.grow g⟩
def eFzn (f : EE) : EE := fun env => match f env with
  | some (.tmp (.ls xs), e) => some (.pd (.list xs), e)
  | _ => none
theorem e_fzn {X : Cx} {e : Expr} {f : EE} (h : PE X e (tE X.K f)) : PE X e (tE X.K (eFzn f)) := PE.imp h fun σ H Q t => by
  obtain ⟨B, env, d, env', en, ev, q⟩ := t
  unfold eFzn at ev
  split at ev
  · rename_i xs e1 h1
    cases ev
    refine ⟨B, env, _, _, en, h1, fun B1 H1 v a1 r1 => ?_⟩
    obtain ⟨p, rfl, h0, hb, ⟨vs, k1, k2⟩, hn⟩ := r1
    obtain ⟨g, a2⟩ := a1.fz en h0 hn
    exact q _ _ _ a2 (Rp.lst k1 (fun z => z.2 rfl) (k2.grow g))
  · cases ev
@[simp] theorem z_fzn (f : EE) (env : Sl) : eFzn f env = (match f env with
  | some (.tmp (.ls xs), e) => some (.pd (.list xs), e)
  | _ => none) := rfl
end T3

end
section
set_option linter.all false
set_option autoImplicit false
set_option Elab.async false
namespace T3
open PySem L2
/-! ### meanings step by step: what holds behind a statement -/
def wS (f : SS) (env : Sl) (P : Fl → Sl → Prop) : Prop := match f env with
  | none => False
  | some p => P p.1 p.2
theorem wS_ex {f : SS} {env : Sl} {P : Fl → Sl → Prop} : wS f env P ↔ ∃ fl e, f env = some (fl, e) ∧ P fl e := by
  unfold wS
  constructor
  · intro h
    split at h
    · exact h.elim
    · rename_i p hp
      exact ⟨p.1, p.2, hp, h⟩
  · rintro ⟨fl, e, h1, h2⟩
    rw [h1]
    exact h2
def Go (g : SS) (P : Fl → Sl → Prop) (e : Sl) : Prop := wS g e P
def nxt (K : Sl → Prop) (P : Fl → Sl → Prop) : Fl → Sl → Prop
  | .nx, e => K e
  | .bk, e => P .bk e
  | .ct, e => P .ct e
  | .rt d, e => P (.rt d) e
def wF (F : FnD) (as : List S) (Q : R → List S → Prop) : Prop := ∃ r as', F as = some (r, as') ∧ Q r as'
/-- behind a def's body -/
def retP (as : List S) (Q : R → List S → Prop) : Fl → Sl → Prop
  | .rt d, e => ∃ d' as', outR e d = some d' ∧ finals as e = some as' ∧ Q d' as'
  | .nx, e => ∃ as', finals as e = some as' ∧ Q (.pd .none) as'
  | .bk, _ => False
  | .ct, _ => False
/-- behind a loop's body -/
def lpP (I : Sl → Prop) (P : Fl → Sl → Prop) : Fl → Sl → Prop
  | .nx, e => I e
  | .ct, e => I e
  | .bk, e => P .nx e
  | .rt d, e => P (.rt d) e
section
variable {f g : SS} {env : Sl} {P P' : Fl → Sl → Prop} {K : Sl → Prop} {e : Sl}
theorem go : Go g P e ↔ wS g e P := Iff.rfl
@[simp] theorem nxt_nx : nxt K P .nx e = K e := rfl
@[simp] theorem nxt_rt {d : R} : nxt K P (.rt d) e = P (.rt d) e := rfl
@[simp] theorem lpP_nx : lpP K P .nx e = K e := rfl
@[simp] theorem lpP_ct : lpP K P .ct e = K e := rfl
@[simp] theorem lpP_bk : lpP K P .bk e = P .nx e := rfl
@[simp] theorem lpP_rt {d : R} : lpP K P (.rt d) e = P (.rt d) e := rfl
@[simp] theorem retP_rt {as : List S} {Q : R → List S → Prop} {d : R} : retP as Q (.rt d) e = ∃ d' as', outR e d = some d' ∧ finals as e = some as' ∧ Q d' as' := rfl
@[simp] theorem retP_nx {as : List S} {Q : R → List S → Prop} : retP as Q .nx e = ∃ as', finals as e = some as' ∧ Q (.pd .none) as' := rfl
theorem wS.imp (h : wS f env P) (i : ∀ fl e, P fl e → P' fl e) : wS f env P' := let ⟨fl, e, a, b⟩ := wS_ex.mp h; wS_ex.mpr ⟨fl, e, a, i fl e b⟩
theorem wS_of {fl : Fl} (h : f env = some (fl, e)) (q : P fl e) : wS f env P := wS_ex.mpr ⟨fl, e, h, q⟩
theorem wS_seq (h : wS f env (nxt (Go g P) P)) : wS (sSeq f g) env P := by
  rw [wS_ex] at h ⊢
  obtain ⟨fl, e, h1, h2⟩ := h
  cases fl with
  | nx =>
    obtain ⟨fl, e', h3, h4⟩ := wS_ex.mp h2
    exact ⟨fl, e', by simp [h1, h3], h4⟩
  | bk => exact ⟨_, _, by simp [h1], h2⟩
  | ct => exact ⟨_, _, by simp [h1], h2⟩
  | rt d => exact ⟨_, _, by simp [h1], h2⟩
theorem wS_ifW {c : EB} (h : match c env with
  | none => False
  | some p => if p.1 = true then Go f P p.2 else Go g P p.2) : wS (sIf c f g) env P := by
  split at h
  · exact h.elim
  · rename_i p h1
    unfold wS
    rw [z_if, h1]
    split at h
    · rename_i hb
      simp only [hb, if_true]
      exact h
    · rename_i hb
      simp only [hb]
      exact h
theorem wS_if {c : EB} {b : Bool} (h : c env = some (b, e)) (q : if b = true then Go f P e else Go g P e) : wS (sIf c f g) env P := by
  cases b with
  | true =>
    obtain ⟨fl, e', h1, h2⟩ := wS_ex.mp q
    exact wS_of (by simp [h, h1]) h2
  | false =>
    obtain ⟨fl, e', h1, h2⟩ := wS_ex.mp q
    exact wS_of (by simp [h, h1]) h2
/-- behind a target -/
def gW (g : GG) (x : PyData) (e : Sl) (K : Sl → Prop) : Prop := match g x e with
  | none => False
  | some e1 => K e1
theorem gW_ex {g : GG} {x : PyData} {e : Sl} {K : Sl → Prop} (h : gW g x e K) : ∃ e1, g x e = some e1 ∧ K e1 := by
  unfold gW at h
  split at h
  · exact h.elim
  · rename_i e1 h1
    exact ⟨e1, h1, h⟩
theorem wS_forL {g : GG} {body : SS} (I : List PyData → Sl → Prop) (hs : ∀ x rest e, I (x :: rest) e → gW g x e (Go body (lpP (I rest) P))) (he : ∀ e, I [] e → P .nx e) : ∀ xs e, I xs e → wS (forL g body xs) e P
  | [], e, h => wS_of (fl := .nx) rfl (he e h)
  | x :: xs, e, h => by
    obtain ⟨e1, h1, hw⟩ := gW_ex (hs x xs e h)
    obtain ⟨fl, e2, h2, h3⟩ := wS_ex.mp hw
    cases fl with
    | nx =>
      obtain ⟨fl, e3, h4, h5⟩ := wS_ex.mp (wS_forL I hs he xs e2 h3)
      exact wS_of (by simp only [forL, h1, h2, h4]) h5
    | ct =>
      obtain ⟨fl, e3, h4, h5⟩ := wS_ex.mp (wS_forL I hs he xs e2 h3)
      exact wS_of (by simp only [forL, h1, h2, h4]) h5
    | bk => exact wS_of (fl := .nx) (by simp only [forL, h1, h2]) h3
    | rt d => exact wS_of (fl := .rt d) (by simp only [forL, h1, h2]) h3
/-- a loop by its invariant: what is left to go through, and the slots -/
theorem wS_for {it : EI} {g : GG} {body : SS} {xs : List PyData} {lk : Lk} (hi : it env = some (xs, lk, e)) (I : List PyData → Sl → Prop) (h0 : I xs e)
    (hs : ∀ x rest e, I (x :: rest) e → gW g x e (Go body (lpP (I rest) fun fl e => P fl (unlock lk e)))) (he : ∀ e, I [] e → P .nx (unlock lk e)) : wS (sFor it g body) env P := by
  obtain ⟨fl, e', h1, h2⟩ := wS_ex.mp (wS_forL (P := fun fl e => P fl (unlock lk e)) I hs he xs e h0)
  exact wS_of (by simp only [z_for, hi, h1]) h2
/-- behind a test -/
def bW (c : EB) (e : Sl) (K L : Sl → Prop) : Prop := match c e with
  | none => False
  | some p => if p.1 = true then K p.2 else L p.2
theorem bW_ex {c : EB} {e : Sl} {K L : Sl → Prop} (h : bW c e K L) : ∃ b e1, c e = some (b, e1) ∧ if b = true then K e1 else L e1 := by
  unfold bW at h
  split at h
  · exact h.elim
  · rename_i p h1
    exact ⟨p.1, p.2, h1, h⟩
theorem wS_whileN {c : EB} {body : SS} (I : Nat → Sl → Prop) (hs : ∀ n e, I n e → bW c e (fun e1 => wS body e1 (lpP (fun e => ∃ m, m < n ∧ I m e) P)) (P .nx)) : ∀ n e, I n e → ∃ N fl e', whileN c body N e = some (fl, e') ∧ P fl e' := by
  intro n
  induction n using Nat.strongRecOn with
  | _ n ih =>
    intro e h
    obtain ⟨b, e1, h1, h2⟩ := bW_ex (hs n e h)
    cases b with
    | false => exact ⟨1, .nx, e1, by simp only [whileN, h1], h2⟩
    | true =>
      obtain ⟨fl, e2, h3, h4⟩ := wS_ex.mp h2
      cases fl with
      | nx =>
        obtain ⟨m, hm, hI⟩ := h4
        obtain ⟨N, fl, e3, h5, h6⟩ := ih m hm e2 hI
        exact ⟨N + 1, fl, e3, by simp only [whileN, h1, h3, h5], h6⟩
      | ct =>
        obtain ⟨m, hm, hI⟩ := h4
        obtain ⟨N, fl, e3, h5, h6⟩ := ih m hm e2 hI
        exact ⟨N + 1, fl, e3, by simp only [whileN, h1, h3, h5], h6⟩
      | bk => exact ⟨1, .nx, e2, by simp only [whileN, h1, h3], h4⟩
      | rt d => exact ⟨1, .rt d, e2, by simp only [whileN, h1, h3], h4⟩
theorem wS_while {c : EB} {body : SS} (I : Nat → Sl → Prop) (n : Nat) (h0 : I n env) (hs : ∀ n e, I n e → bW c e (fun e1 => wS body e1 (lpP (fun e => ∃ m, m < n ∧ I m e) P)) (P .nx)) : wS (sWhile c body) env P := by
  obtain ⟨N, fl, e', h1, h2⟩ := wS_whileN I hs n env h0
  exact wS_of (sWhile_of h1) h2
theorem wF_run {n : Nat} {b : SS} {as : List S} {Q : R → List S → Prop} (h : startE n as = e) (q : wS b e (retP as Q)) : wF (runFn n b) as Q := by
  obtain ⟨fl, e', h1, h2⟩ := wS_ex.mp q
  cases fl with
  | nx =>
    obtain ⟨as', h3, h4⟩ := h2
    exact ⟨_, _, by rw [run_of h, h1]; simp only [h3], h4⟩
  | rt d =>
    obtain ⟨d', as', h3, h4, h5⟩ := h2
    exact ⟨_, _, by rw [run_of h, h1]; simp only [h3, h4], h5⟩
  | bk => exact h2.elim
  | ct => exact h2.elim
/-- a comprehension by its invariant -/
theorem lc_inv {it : EI} {g : GG} {t : EB} {f : EE} {vs : List Nat} {xs : List PyData} {lk : Lk} (hi : it env = some (xs, lk, e)) (hl : xs.length ≤ 1000000) (I : List PyData → List PyData → Sl → Prop) (h0 : I xs [] e)
    (hs : ∀ x rest acc e, I (x :: rest) acc e → ∃ e1 b e2, g x (wipeE e vs) = some e1 ∧ t e1 = some (b, e2) ∧ if b = true then ∃ d y e3, f e2 = some (d, e3) ∧ data1 d = some y ∧ I rest (acc ++ [y]) (unwipe e e3 vs) else I rest acc (unwipe e e2 vs)) :
    ∃ acc e', eLc it g t f vs env = some (.tmp (.ls acc), unlock lk e') ∧ I [] acc e' := by
  have go : ∀ xs acc e, I xs acc e → ∃ acc' e', lcL g t f vs xs e acc = some (acc', e') ∧ I [] acc' e' := by
    intro xs
    induction xs with
    | nil => intro acc e h; exact ⟨acc, e, rfl, h⟩
    | cons x xs ih =>
      intro acc e h
      obtain ⟨e1, b, e2, h1, h2, h3⟩ := hs x xs acc e h
      cases b with
      | false =>
        obtain ⟨acc', e', h4, h5⟩ := ih acc _ h3
        exact ⟨acc', e', by simp only [lcL, h1, h2, Bool.false_eq_true, if_false, h4], h5⟩
      | true =>
        obtain ⟨d, y, e3, h4, h5, h6⟩ := h3
        obtain ⟨acc', e', h7, h8⟩ := ih _ _ h6
        exact ⟨acc', e', by simp only [lcL, h1, h2, if_true, h4, h5, h7], h8⟩
  obtain ⟨acc, e', h1, h2⟩ := go xs [] e h0
  exact ⟨acc, e', by simp only [z_lc, hi, hl, if_true, h1], h2⟩
end
end T3

end
section
set_option linter.all false
set_option autoImplicit false
set_option Elab.async false
namespace T3
open PySem L2
section
variable (env : Sl) (fa fb : EE) (f : EA) (x y : PyData) (j : Nat) (ds : List R) (neg : Bool)
@[simp] theorem z_dg : eDg fa fb env = (match fa env with
  | some (.var j, e1) => match fb e1 with
    | some (d, e2) => match pdOf d with
      | some y => match dGet e2 j y with
        | some (some z) => some (.pd z, e2)
        | _ => none
      | none => none
    | none => none
  | _ => none) := rfl
@[simp] theorem z_di : eDi neg fa fb env = (match fa env with
  | some (d, e1) => match pdOf d with
    | some y => match fb e1 with
      | some (.var j, e2) => match dGet e2 j y with
        | some o => some (.pd (.bool (if neg = true then !o.isSome else o.isSome)), e2)
        | none => none
      | _ => none
    | none => none
  | none => none) := rfl
@[simp] theorem z_pdOf1 : pdOf (.pd x) = some x := rfl
@[simp] theorem z_pdOf2 (xs : List PyData) : pdOf (.nt xs) = some (.tuple xs) := rfl
@[simp] theorem z_dGet : dGet env j y = (match env[j]? with
  | some (some (.mu _ c)) => cGet c y
  | _ => none) := rfl
@[simp] theorem z_dPut : dPut env j y x = (match env[j]? with
  | some (some (.mu m c)) => if m = .fro then none else match cPut c y x with
    | some c' => some (env.set j (some (.mu m c')))
    | none => none
  | _ => none) := rfl
@[simp] theorem z_gDs : gDs fa fb x env = (match fa env with
  | some (.var j, e1) => match fb e1 with
    | some (d, e2) => match pdOf d with
      | some y => dPut e2 j y x
      | none => none
    | none => none
  | _ => none) := rfl
@[simp] theorem z_lz : eLz f env = (match f env with
  | some ([d1, d2], e1) => match ctn e1 d1 with
    | some (.tuple xs) => match ctn e1 d2 with
      | some (.tuple ys) => if xs.length = ys.length then some (.tmp (.ls (pairD xs ys)), e1) else none
      | _ => none
    | _ => none
  | _ => none) := rfl
@[simp] theorem z_kDict : kDict ds env = (match ctns env ds with
  | some [.list ps] => match pairsN ps with
    | some kvs => some (.tmp (.dn (allN kvs)), env)
    | none => none
  | _ => none) := rfl
end
/-! ### look-ups and stores by keys -/
theorem valN_put (kvs : List (NestedKey × PyData)) (k k' : NestedKey) (x : PyData) : valN (putN kvs k x) k' = if k' = k then some x else valN kvs k' := by
  have hm : ∀ kvs : List (NestedKey × PyData), valN (kvs.map fun q => if q.1 = k then (q.1, x) else q) k' = if k' = k then (valN kvs k').map (fun _ => x) else valN kvs k' := by
    intro kvs
    induction kvs with
    | nil => simp [valN]
    | cons q r ih =>
      by_cases e : q.1 = k'
      · by_cases e2 : k' = k
        · subst e2
          simp [valN, e]
        · have : ¬ q.1 = k := fun z => e2 (e ▸ z)
          simp [valN, e, e2, this]
      · have h1 : valN (q :: r) k' = valN r k' := by simp [valN, e]
        rw [h1, ← ih]
        by_cases e3 : q.1 = k
        · simp [valN, e, e3, show ¬ k = k' from fun z => e (e3.trans z)]
        · simp [valN, e, e3]
  have ha : ∀ kvs : List (NestedKey × PyData), valN kvs k = none → valN (kvs ++ [(k, x)]) k' = if k' = k then some x else valN kvs k' := by
    intro kvs
    induction kvs with
    | nil =>
      intro _
      by_cases e : k' = k
      · simp [valN, e]
      · simp [valN, e, show ¬ k = k' from fun z => e z.symm]
    | cons q r ih =>
      intro h
      by_cases e : q.1 = k
      · simp [valN, e] at h
      · have h1 : valN r k = none := by simpa [valN, e] using h
        by_cases e2 : q.1 = k'
        · have : ¬ k' = k := fun z => e (e2.trans z)
          simp [valN, e2, this]
        · have := ih h1
          simpa [valN, e2] using this
  unfold putN
  split
  · rename_i h
    rw [hm]
    by_cases e : k' = k
    · subst e
      obtain ⟨z, hz⟩ := Option.isSome_iff_exists.mp h
      simp [hz]
    · simp [e]
  · rename_i h
    exact ha kvs (by simpa using h)
theorem putN_keys (kvs : List (NestedKey × PyData)) (k : NestedKey) (x : PyData) : (putN kvs k x).map (·.1) = if (valN kvs k).isSome = true then kvs.map (·.1) else kvs.map (·.1) ++ [k] := by
  unfold putN
  split
  · rw [List.map_map]
    refine List.map_congr_left fun q _ => ?_
    show (if q.1 = k then (q.1, x) else q).1 = q.1
    split <;> rfl
  · simp
theorem putN_len_old {kvs : List (NestedKey × PyData)} {k : NestedKey} {x : PyData} (h : (valN kvs k).isSome = true) : (putN kvs k x).length = kvs.length := by
  unfold putN
  rw [if_pos h, List.length_map]
end T3

end
section
set_option linter.all false
set_option autoImplicit false
set_option Elab.async false
namespace MM
open PySem L2 T3
abbrev Cell := Int × Int
abbrev Ly := Int × Int × Int
inductive Dir where | n | e | s | w
  deriving DecidableEq
def Dir.code : Dir → Nat
  | .n => 110
  | .e => 101
  | .s => 115
  | .w => 119
def chS (d : Dir) : Str := ⟨#[d.code]⟩
def rowS (ds : List Dir) : Str := ⟨(ds.map Dir.code).toArray⟩
def lyD (l : Ly) : PyData := .tuple [.int l.1, .int l.2.1, .int l.2.2]
def stD (c : Cell) (l : Ly) : PyData := .tuple [clD c, lyD l]
def stepC (c : Cell) : Dir → Cell
  | .n => (c.1, c.2 + 1)
  | .e => (c.1 + 1, c.2)
  | .s => (c.1, c.2 - 1)
  | .w => (c.1 - 1, c.2)
def roll (l : Ly) : Dir → Ly
  | .n => (l.2.1, 5 - l.1, l.2.2)
  | .s => (5 - l.2.1, l.1, l.2.2)
  | .e => (l.2.2, l.2.1, 5 - l.1)
  | .w => (5 - l.2.2, l.2.1, l.1)
def lyings : List Ly := [(0, 1, 2), (0, 2, 4), (0, 3, 1), (0, 4, 3), (1, 0, 3), (1, 2, 0), (1, 3, 5), (1, 5, 2), (2, 0, 1), (2, 1, 5), (2, 4, 0), (2, 5, 4), (3, 0, 4), (3, 1, 0), (3, 4, 5), (3, 5, 1), (4, 0, 2), (4, 2, 5), (4, 3, 0), (4, 5, 3), (5, 1, 3), (5, 2, 1), (5, 3, 4), (5, 4, 2)]
theorem roll_mem : ∀ l ∈ lyings, ∀ d, roll l d ∈ lyings := by
  intro l hl d
  cases d <;> revert l <;> decide
theorem ly_bound : ∀ l ∈ lyings, 0 ≤ l.1 ∧ l.1 ≤ 5 := by decide
theorem signs_row (ds : List Dir) : signs (rowS ds) = ds.map fun d => .str (chS d) := by
  simp [signs, rowS, chS]
theorem row_nil : rowS [] = ⟨#[]⟩ := rfl
theorem chS_n : chS .n = "n" := by decide
theorem chS_e : chS .e = "e" := by decide
theorem chS_s : chS .s = "s" := by decide
theorem chS_w : chS .w = "w" := by decide
theorem chS_inj {a b : Dir} (h : chS a = chS b) : a = b := by
  cases a <;> cases b <;> first | rfl | (exfalso; revert h; decide)
/-- eqv of cells, ints -/
theorem eqv_int (i j : Int) : PyData.eqv (.int i) (.int j) = decide (i = j) := by
  simp only [PyData.eqv]; by_cases h : i = j <;> simp [h]
theorem eqv_cell (c d : Cell) : PyData.eqv (clD c) (clD d) = decide (c = d) := by
  simp only [clD, PyData.eqv, PyData.eqvAll]
  by_cases h1 : c.1 = d.1 <;> by_cases h2 : c.2 = d.2 <;> simp [h1, h2, Prod.ext_iff]
theorem eqv_ly (c d : Ly) : PyData.eqv (lyD c) (lyD d) = decide (c = d) := by
  simp only [lyD, PyData.eqv, PyData.eqvAll]
  by_cases h1 : c.1 = d.1 <;> by_cases h2 : c.2.1 = d.2.1 <;> by_cases h3 : c.2.2 = d.2.2 <;> simp [h1, h2, h3, Prod.ext_iff]
theorem eqv_ch (a b : Dir) : PyData.eqv (.str (chS a)) (.str (chS b)) = decide (a = b) := by
  simp only [PyData.eqv]
  by_cases h : a = b
  · simp [h]
  · simp [h]
    intro z
    exact h (chS_inj z)
/-! shapes -/
theorem sh_int (i : Int) : SeqAt.shaped (.int i) = true := by simp [SeqAt.shaped, PyData.canLay0, PyData.depth]
theorem sh_ch (d : Dir) : SeqAt.shaped (.str (chS d)) = true := by cases d <;> simp [SeqAt.shaped, PyData.canLay0, PyData.depth, PyData.strOk, chS, Dir.code]
theorem sh_bool (i : Bool) : SeqAt.shaped (.bool i) = true := by simp [SeqAt.shaped, PyData.canLay0, PyData.depth]
theorem sh_none : SeqAt.shaped .none = true := by simp [SeqAt.shaped, PyData.canLay0, PyData.depth]
theorem sh_cell (c : Cell) : SeqAt.shaped (clD c) = true := by simp [clD, SeqAt.shaped, PyData.canLay0, PyData.canLayAll0, PyData.depth, PyData.depthAll]
theorem sh_ly (c : Ly) : SeqAt.shaped (lyD c) = true := by simp [lyD, SeqAt.shaped, PyData.canLay0, PyData.canLayAll0, PyData.depth, PyData.depthAll]
theorem lay_map {α : Type} (f : α → PyData) (h : ∀ a, (f a).canLay0 = true) : ∀ l : List α, PyData.canLayAll0 (l.map f) = true
  | [] => by simp [PyData.canLayAll0]
  | a :: l => by simp [PyData.canLayAll0, h a, lay_map f h l]
theorem depth_map {α : Type} (f : α → PyData) (k : Nat) (h : ∀ a, (f a).depth ≤ k) : ∀ l : List α, PyData.depthAll (l.map f) ≤ k
  | [] => by simp [PyData.depthAll]
  | a :: l => by
    have h1 := h a
    have h2 := depth_map f k h l
    simp only [List.map_cons, PyData.depthAll]
    omega
theorem sh_tup {α : Type} (f : α → PyData) (h1 : ∀ a, (f a).canLay0 = true) (h2 : ∀ a, (f a).depth ≤ 60) (l : List α) : SeqAt.shaped (.tuple (l.map f)) = true := by
  have a := lay_map f h1 l
  have b := depth_map f 60 h2 l
  simp only [SeqAt.shaped, PyData.canLay0, PyData.depth, a, Bool.true_and, decide_eq_true_eq]
  exact decide_eq_true (by omega)
theorem sh_lst {α : Type} (f : α → PyData) (h1 : ∀ a, (f a).canLay0 = true) (h2 : ∀ a, (f a).depth ≤ 60) (l : List α) : SeqAt.shaped (.list (l.map f)) = true := by
  have a := lay_map f h1 l
  have b := depth_map f 60 h2 l
  simp only [SeqAt.shaped, PyData.canLay0, PyData.depth, a, Bool.true_and, decide_eq_true_eq]
  exact decide_eq_true (by omega)
theorem sh_cells (l : List Cell) : SeqAt.shaped (.tuple (l.map clD)) = true := sh_tup clD (fun c => by simp [clD, PyData.canLay0, PyData.canLayAll0]) (fun c => by simp [clD, PyData.depth, PyData.depthAll]) l
theorem sh_cellsL (l : List Cell) : SeqAt.shaped (.list (l.map clD)) = true := sh_lst clD (fun c => by simp [clD, PyData.canLay0, PyData.canLayAll0]) (fun c => by simp [clD, PyData.depth, PyData.depthAll]) l
theorem sh_ints (l : List Int) : SeqAt.shaped (.tuple (l.map .int)) = true := sh_tup .int (fun c => by simp [PyData.canLay0]) (fun c => by simp [PyData.depth]) l
theorem sh_intsL (l : List Int) : SeqAt.shaped (.list (l.map .int)) = true := sh_lst .int (fun c => by simp [PyData.canLay0]) (fun c => by simp [PyData.depth]) l
theorem any_cell (c : Cell) (l : List Cell) : ((l.map clD).any fun z => PyData.eqv z (clD c)) = decide (c ∈ l) := by
  induction l with
  | nil => simp
  | cons a l ih =>
    rw [List.map_cons, List.any_cons, ih, eqv_cell]
    by_cases h : a = c
    · simp [h]
    · have h' : ¬ c = a := fun z => h z.symm
      simp [h, h']
/-! comprehensions that change nothing -/
theorem lcL_pure {g : GG} {t : EB} {f : EE} {vs : List Nat} {env : Sl} {α : Type} {p : α → Bool} {y : α → PyData} {q : α → PyData} : ∀ (as : List α) (acc : List PyData),
    (∀ a ∈ as, ∃ e1 e2, g (q a) (wipeE env vs) = some e1 ∧ t e1 = some (p a, e2) ∧ (p a = true → ∃ d e3, f e2 = some (d, e3) ∧ data1 d = some (y a) ∧ unwipe env e3 vs = env) ∧ (p a = false → unwipe env e2 vs = env)) →
    lcL g t f vs (as.map q) env acc = some (acc ++ (as.filter p).map y, env)
  | [], acc, _ => by simp [lcL]
  | a :: as, acc, h => by
    obtain ⟨e1, e2, h1, h2, h3, h4⟩ := h a (by simp)
    have ih := fun acc => lcL_pure (g := g) (t := t) (f := f) (vs := vs) (env := env) (p := p) (y := y) (q := q) as acc (fun b hb => h b (by simp [hb]))
    rw [List.map_cons]
    unfold lcL
    rw [h1]
    simp only [h2]
    cases hp : p a with
    | true =>
      obtain ⟨d, e3, k1, k2, k3⟩ := h3 hp
      simp only [k1, k2, k3, if_true, ih, List.filter_cons, hp, List.map_cons, List.append_assoc, List.cons_append, List.nil_append]
    | false =>
      simp only [h4 hp, ih, List.filter_cons, hp]
      simp
theorem lcL_all {g : GG} {f : EE} {vs : List Nat} {env : Sl} {α : Type} {y : α → PyData} {q : α → PyData} (as : List α) 
    (h : ∀ a ∈ as, ∃ e1 d e3, g (q a) (wipeE env vs) = some e1 ∧ f e1 = some (d, e3) ∧ data1 d = some (y a) ∧ unwipe env e3 vs = env) :
    lcL g bYes f vs (as.map q) env [] = some (as.map y, env) := by
  have := lcL_pure (g := g) (t := bYes) (f := f) (vs := vs) (env := env) (p := fun _ => true) (y := y) (q := q) as [] (fun a ha => by
    obtain ⟨e1, d, e3, h1, h2, h3, h4⟩ := h a ha
    exact ⟨e1, e1, h1, rfl, fun _ => ⟨d, e3, h2, h3, h4⟩, fun z => by simp at z⟩)
  rw [this, List.filter_eq_self.mpr (fun _ _ => rfl)]
  rfl
theorem bools_of {α : Type} (f : α → Bool) : ∀ l : List α, bools? (l.map fun a => .bool (f a)) = some (l.map f)
  | [] => rfl
  | a :: l => by simp [bools?, bools_of f l]
theorem ints_of : ∀ l : List Int, ints? (l.map .int) = some l
  | [] => rfl
  | a :: l => by simp [ints?, ints_of l]
end MM

end
section
set_option linter.all false
set_option autoImplicit false
set_option Elab.async false
namespace MM
open PySem L2 T3
/-- data of a bounded depth and weight, that is shown in few signs -/
structure RD (p k : Nat) (d : PyData) : Prop where
  lay : d.canLay0 = true
  dep : d.depth ≤ p
  shw : d.showable = true
  lvs : d.leavesShort 13 = true
  wt : d.weight ≤ k
theorem RD.int {i : Int} (h1 : -999999999999 ≤ i) (h2 : i ≤ 999999999999) : RD 0 40 (.int i) := by
  have hl : i.natAbs.log2 ≤ 39 := by
    by_cases h0 : i.natAbs = 0
    · rw [h0]; decide
    · have : i.natAbs.log2 < 40 := (Nat.log2_lt h0).mpr (by omega)
      omega
  refine ⟨by simp [PyData.canLay0], by simp [PyData.depth], ?_, ?_, ?_⟩
  · simp only [PyData.showable, decide_eq_true_eq]; omega
  · simp only [PyData.leavesShort, decide_eq_true_eq]; exact PyData.shown_int_le2 h1 h2
  · simp only [PyData.weight]; split <;> omega
theorem RD.none : RD 0 40 .none := ⟨by simp [PyData.canLay0], by simp [PyData.depth], by simp [PyData.showable], by simp [PyData.leavesShort], by simp [PyData.weight]⟩
theorem RD.bool (b : Bool) : RD 0 40 (.bool b) := ⟨by simp [PyData.canLay0], by simp [PyData.depth], by simp [PyData.showable], by simp [PyData.leavesShort], by simp [PyData.weight]⟩
theorem RD.all {p k : Nat} : ∀ {xs : List PyData}, (∀ x ∈ xs, RD p k x) → PyData.canLayAll0 xs = true ∧ PyData.depthAll xs ≤ p ∧ PyData.showableAll xs = true ∧ PyData.leavesShortAll 13 xs = true ∧ PyData.weightAll xs ≤ (k + 1) * xs.length
  | [], _ => by simp [PyData.canLayAll0, PyData.depthAll, PyData.showableAll, PyData.leavesShortAll, PyData.weightAll]
  | x :: xs, h => by
    obtain ⟨a1, a2, a3, a4, a5⟩ := h x (by simp)
    obtain ⟨b1, b2, b3, b4, b5⟩ := RD.all (xs := xs) fun y hy => h y (by simp [hy])
    refine ⟨by simp [PyData.canLayAll0, a1, b1], ?_, by simp [PyData.showableAll, a3, b3], by simp [PyData.leavesShortAll, a4, b4], ?_⟩
    · simp only [PyData.depthAll]; omega
    · simp only [PyData.weightAll, List.length_cons]
      rw [Nat.mul_add]
      omega
theorem RD.tup {p k n : Nat} {xs : List PyData} (h : ∀ x ∈ xs, RD p k x) (hn : xs.length ≤ n) : RD (p + 1) ((k + 1) * n) (.tuple xs) := by
  obtain ⟨b1, b2, b3, b4, b5⟩ := RD.all h
  refine ⟨by simp [PyData.canLay0, b1], ?_, by simp [PyData.showable, b3], by simp [PyData.leavesShort, b4], ?_⟩
  · simp only [PyData.depth]; omega
  · simp only [PyData.weight]
    exact Nat.le_trans b5 (Nat.mul_le_mul_left _ hn)
theorem RD.lst {p k n : Nat} {xs : List PyData} (h : ∀ x ∈ xs, RD p k x) (hn : xs.length ≤ n) : RD (p + 1) ((k + 1) * n) (.list xs) := by
  obtain ⟨b1, b2, b3, b4, b5⟩ := RD.all h
  refine ⟨by simp [PyData.canLay0, b1], ?_, by simp [PyData.showable, b3], by simp [PyData.leavesShort, b4], ?_⟩
  · simp only [PyData.depth]; omega
  · simp only [PyData.weight]
    exact Nat.le_trans b5 (Nat.mul_le_mul_left _ hn)
theorem RD.mono {p k p' k' : Nat} {d : PyData} (h : RD p k d) (h1 : p ≤ p') (h2 : k ≤ k') : RD p' k' d := ⟨h.lay, Nat.le_trans h.dep h1, h.shw, h.lvs, Nat.le_trans h.wt h2⟩
theorem RD.ok {p k : Nat} {d : PyData} (h : RD p k d) (h1 : p ≤ 60) (h2 : k ≤ 60000) : ShOk d := by
  have := h.dep
  have hw := h.wt
  refine ⟨?_, h.shw, ?_⟩
  · unfold SeqAt.shaped
    rw [h.lay, Bool.true_and]
    exact decide_eq_true (by omega)
  · have := PyData.shown_le 13 (by omega) d h.lvs
    omega
theorem RD.cell {c : Cell} (h : -9 ≤ c.1 ∧ c.1 ≤ 9 ∧ -9 ≤ c.2 ∧ c.2 ≤ 9) : RD 1 82 (clD c) := RD.tup (k := 40) (n := 2) (by
  intro x hx
  simp only [List.mem_cons, List.not_mem_nil, or_false] at hx
  rcases hx with rfl | rfl
  · exact RD.int (by omega) (by omega)
  · exact RD.int (by omega) (by omega)) (by simp)
theorem RD.ly {l : Ly} (h : l ∈ lyings) : RD 1 123 (lyD l) := RD.tup (k := 40) (n := 3) (by
  have b : 0 ≤ l.1 ∧ l.1 ≤ 5 ∧ 0 ≤ l.2.1 ∧ l.2.1 ≤ 5 ∧ 0 ≤ l.2.2 ∧ l.2.2 ≤ 5 := by revert l; decide
  intro x hx
  simp only [List.mem_cons, List.not_mem_nil, or_false] at hx
  rcases hx with rfl | rfl | rfl
  · exact RD.int (by omega) (by omega)
  · exact RD.int (by omega) (by omega)
  · exact RD.int (by omega) (by omega)) (by simp)
theorem repr_t {xs : List PyData} (h : ShOk (.tuple xs)) : oRepr [.tuple xs] = some (.str (PyData.tuple xs).shown) := by
  show (if ShOk (.tuple xs) then some (PyData.str (PyData.tuple xs).shown) else none) = _
  exact if_pos h
theorem repr_l {xs : List PyData} (h : ShOk (.list xs)) : oRepr [.list xs] = some (.str (PyData.list xs).shown) := by
  show (if ShOk (.list xs) then some (PyData.str (PyData.list xs).shown) else none) = _
  exact if_pos h
theorem nex_str (s : Str) (env : Sl) : kNex [.pd (.str s), .pd (.str s)] env = some (.pd (.bool false), env) := by
  simp [kNex, oNeS]
end MM

end
section
set_option linter.all false
set_option autoImplicit false
set_option Elab.async false
namespace MM
open PySem L2 T3
/-! exchanges -/
def swp {α : Type} (xs : List α) (p : Int × Int) : List α := match xs[p.1.toNat]?, xs[p.2.toNat]? with
  | some x, some y => (xs.set p.1.toNat y).set p.2.toNat x
  | _, _ => xs
def held {α : Type} (xs : List α) (ps : List (Int × Int)) : List α := ps.foldl swp xs
theorem swp_len {α : Type} (xs : List α) (p : Int × Int) : (swp xs p).length = xs.length := by
  unfold swp
  split <;> simp
theorem held_len {α : Type} (ps : List (Int × Int)) : ∀ xs : List α, (held xs ps).length = xs.length := by
  induction ps with
  | nil => intro xs; rfl
  | cons p ps ih => intro xs; show (held (swp xs p) ps).length = _; rw [ih, swp_len]
theorem swp_map {α β : Type} (f : α → β) (xs : List α) (p : Int × Int) : swp (xs.map f) p = (swp xs p).map f := by
  unfold swp
  simp only [List.getElem?_map]
  cases xs[p.1.toNat]? with
  | none => simp
  | some x =>
    cases xs[p.2.toNat]? with
    | none => simp
    | some y => simp [List.map_set]
theorem held_map {α β : Type} (f : α → β) (ps : List (Int × Int)) : ∀ xs : List α, held (xs.map f) ps = (held xs ps).map f := by
  induction ps with
  | nil => intro xs; rfl
  | cons p ps ih =>
    intro xs
    show held (swp (xs.map f) p) ps = (held (swp xs p) ps).map f
    rw [swp_map, ih]
/-- a list is held by its places -/
theorem held_at {α : Type} (xs : List α) (d : α) (ps : List (Int × Int)) : held xs ps = (held (List.range xs.length) ps).map fun i => xs.getD i d := by
  rw [← held_map]
  congr 1
  apply List.ext_getElem?
  intro i
  by_cases h : i < xs.length
  · simp [h]
  · simp [h]
theorem set_set_perm {α : Type} (xs : List α) (a b : Nat) (x y : α) (ha : xs[a]? = some x) (hb : xs[b]? = some y) : ((xs.set a y).set b x).Perm xs := by
  obtain ⟨la, rfl⟩ := List.getElem?_eq_some_iff.mp ha
  obtain ⟨lb, rfl⟩ := List.getElem?_eq_some_iff.mp hb
  have h := Array.swap_perm (xs := xs.toArray) (i := a) (j := b) (by simpa using la) (by simpa using lb)
  have h2 := h.toList
  simpa [Array.swap] using h2
theorem swp_perm {α : Type} (xs : List α) (p : Int × Int) : (swp xs p).Perm xs := by
  unfold swp
  split
  · rename_i x y h1 h2; exact set_set_perm xs _ _ x y h1 h2
  · exact .refl _
theorem held_perm {α : Type} (ps : List (Int × Int)) : ∀ xs : List α, (held xs ps).Perm xs := by
  induction ps with
  | nil => intro xs; exact .refl _
  | cons p ps ih => intro xs; exact (ih (swp xs p)).trans (swp_perm xs p)
/-- from where each came -/
def org (n : Nat) (ps : List (Int × Int)) : List Nat := held (List.range n) ps
/-- to where each went -/
def mv (n : Nat) (ps : List (Int × Int)) (j : Nat) : Nat := (org n ps).idxOf j
theorem org_len (n : Nat) (ps : List (Int × Int)) : (org n ps).length = n := by unfold org; rw [held_len, List.length_range]
theorem org_perm (n : Nat) (ps : List (Int × Int)) : (org n ps).Perm (List.range n) := held_perm ps _
theorem org_nodup (n : Nat) (ps : List (Int × Int)) : (org n ps).Nodup := (org_perm n ps).nodup_iff.mpr List.nodup_range
theorem org_mem {n : Nat} {ps : List (Int × Int)} {j : Nat} : j ∈ org n ps ↔ j < n := by rw [(org_perm n ps).mem_iff, List.mem_range]
theorem mv_lt {n : Nat} {ps : List (Int × Int)} {j : Nat} (h : j < n) : mv n ps j < n := by
  have := List.idxOf_lt_length_iff.mpr (org_mem (ps := ps).mpr h)
  rw [org_len] at this
  exact this
theorem org_mv {n : Nat} {ps : List (Int × Int)} {j : Nat} (h : j < n) : (org n ps)[mv n ps j]? = some j := by
  have hl : mv n ps j < (org n ps).length := by rw [org_len]; exact mv_lt h
  rw [List.getElem?_eq_getElem hl]
  exact congrArg some (List.getElem_idxOf hl)
theorem mv_inj {n : Nat} {ps : List (Int × Int)} {i j : Nat} (hi : i < n) (hj : j < n) (h : mv n ps i = mv n ps j) : i = j := by
  have h1 := org_mv (ps := ps) hi
  rw [h, org_mv hj] at h1
  exact (Option.some.inj h1).symm
theorem mv_org {n : Nat} {ps : List (Int × Int)} {i j : Nat} (h : (org n ps)[i]? = some j) : mv n ps j = i := by
  obtain ⟨hl, e⟩ := List.getElem?_eq_some_iff.mp h
  have := (org_nodup n ps).idxOf_getElem i hl
  rw [e] at this
  exact this
/-! orbits -/
def itr (m : Nat → Nat) : Nat → Nat → Nat
  | 0, x => x
  | k + 1, x => itr m k (m x)
theorem itr_succ (m : Nat → Nat) : ∀ k x, itr m (k + 1) x = m (itr m k x)
  | 0, x => rfl
  | k + 1, x => by
    show itr m (k + 1) (m x) = m (itr m (k + 1) x)
    rw [itr_succ m k (m x)]
    rfl
theorem itr_add (m : Nat → Nat) : ∀ a b x, itr m (a + b) x = itr m a (itr m b x)
  | a, 0, x => rfl
  | a, b + 1, x => by
    show itr m (a + b) (m x) = itr m a (itr m b (m x))
    exact itr_add m a b (m x)
theorem itr_lt {n : Nat} {m : Nat → Nat} (hm : ∀ j, j < n → m j < n) : ∀ k x, x < n → itr m k x < n
  | 0, x, h => h
  | k + 1, x, h => itr_lt hm k (m x) (hm x h)
theorem itr_inj {n : Nat} {m : Nat → Nat} (hm : ∀ j, j < n → m j < n) (hi : ∀ i j, i < n → j < n → m i = m j → i = j) : ∀ k x y, x < n → y < n → itr m k x = itr m k y → x = y
  | 0, _, _, _, _, h => h
  | k + 1, x, y, hx, hy, h => hi x y hx hy (itr_inj hm hi k (m x) (m y) (hm x hx) (hm y hy) h)
/-- back home within n -/
theorem home {n : Nat} {m : Nat → Nat} (hm : ∀ j, j < n → m j < n) (hi : ∀ i j, i < n → j < n → m i = m j → i = j) (x : Nat) (hx : x < n) : ∃ k, 1 ≤ k ∧ k ≤ n ∧ itr m k x = x := by
  apply Classical.byContradiction
  intro hno
  have hno' : ∀ k, 1 ≤ k → k ≤ n → itr m k x ≠ x := fun k h1 h2 h3 => hno ⟨k, h1, h2, h3⟩
  have nd : ((List.range (n + 1)).map fun k => itr m k x).Nodup := by
    rw [List.Nodup, List.pairwise_map]
    have := List.pairwise_lt_range (n := n + 1)
    refine List.Pairwise.imp_of_mem ?_ this
    intro a b ha hb hab he
    have hb' : b ≤ n := by have := List.mem_range.mp hb; omega
    have e1 : itr m a (itr m (b - a) x) = itr m b x := by rw [← itr_add]; congr 1; omega
    have e2 := itr_inj hm hi a x (itr m (b - a) x) hx (itr_lt hm _ x hx) (by rw [e1]; exact he)
    exact hno' (b - a) (by omega) (by omega) e2.symm
  have sub : ((List.range (n + 1)).map fun k => itr m k x) ⊆ List.range n := by
    intro y hy
    obtain ⟨k, _, rfl⟩ := List.mem_map.mp hy
    exact List.mem_range.mpr (itr_lt hm k x hx)
  have := nd.length_le_of_subset sub
  simp at this
  omega
/-- the first time back -/
theorem period {n : Nat} {m : Nat → Nat} (hm : ∀ j, j < n → m j < n) (hi : ∀ i j, i < n → j < n → m i = m j → i = j) (x : Nat) (hx : x < n) : ∃ k, 1 ≤ k ∧ k ≤ n ∧ itr m k x = x ∧ ∀ j, 1 ≤ j → j < k → itr m j x ≠ x := by
  obtain ⟨k, h1, h2, h3⟩ := home hm hi x hx
  have : ∀ k, 1 ≤ k → itr m k x = x → ∃ k', 1 ≤ k' ∧ k' ≤ k ∧ itr m k' x = x ∧ ∀ j, 1 ≤ j → j < k' → itr m j x ≠ x := by
    intro k
    induction k using Nat.strongRecOn with
    | ind k ih =>
      intro h1 h3
      by_cases h : ∃ j, 1 ≤ j ∧ j < k ∧ itr m j x = x
      · obtain ⟨j, a, b, c⟩ := h
        obtain ⟨k', p1, p2, p3, p4⟩ := ih j b a c
        exact ⟨k', p1, by omega, p3, p4⟩
      · exact ⟨k, h1, Nat.le_refl _, h3, fun j a b c => h ⟨j, a, b, c⟩⟩
  obtain ⟨k', p1, p2, p3, p4⟩ := this k h1 h3
  exact ⟨k', p1, by omega, p3, p4⟩
end MM

end
section
set_option linter.all false
set_option autoImplicit false
set_option Elab.async false
namespace MM
open PySem L2 T3
def orb (m : Nat → Nat) (k x : Nat) : List Nat := (List.range k).map fun t => itr m t x
def PerP (n : Nat) (m : Nat → Nat) (x k : Nat) : Prop := 1 ≤ k ∧ k ≤ n ∧ itr m k x = x ∧ ∀ j, 1 ≤ j → j < k → itr m j x ≠ x
noncomputable def per (n : Nat) (m : Nat → Nat) (x : Nat) : Nat := Classical.epsilon (PerP n m x)
theorem per_spec {n : Nat} {m : Nat → Nat} (hm : ∀ j, j < n → m j < n) (hi : ∀ i j, i < n → j < n → m i = m j → i = j) {x : Nat} (hx : x < n) : PerP n m x (per n m x) := Classical.epsilon_spec (period hm hi x hx)
theorem orb_succ (m : Nat → Nat) (k x : Nat) : orb m (k + 1) x = orb m k x ++ [itr m k x] := by
  simp [orb, List.range_succ]
theorem orb_mem {m : Nat → Nat} {k x y : Nat} : y ∈ orb m k x ↔ ∃ t, t < k ∧ itr m t x = y := by
  simp [orb]
theorem orb_len (m : Nat → Nat) (k x : Nat) : (orb m k x).length = k := by simp [orb]
/-- all that is come to is in the orbit -/
theorem orb_all {n : Nat} {m : Nat → Nat} {x k : Nat} (h : PerP n m x k) : ∀ t, itr m t x ∈ orb m k x := by
  have : ∀ t, ∃ s, s < k ∧ itr m s x = itr m t x := by
    intro t
    induction t with
    | zero => exact ⟨0, h.1, rfl⟩
    | succ t ih =>
      obtain ⟨s, h1, h2⟩ := ih
      by_cases e : s + 1 = k
      · exact ⟨0, h.1, by rw [itr_succ, ← h2, ← itr_succ m s x, e, h.2.2.1]; rfl⟩
      · exact ⟨s + 1, by omega, by rw [itr_succ, itr_succ, h2]⟩
  intro t
  exact orb_mem.mpr (this t)
def least (x : Nat) (ys : List Nat) : Nat := ys.foldl min x
theorem least_le : ∀ (ys : List Nat) (x y : Nat), y ∈ x :: ys → least x ys ≤ y
  | [], x, y, h => by simp at h; subst h; exact Nat.le_refl _
  | z :: ys, x, y, h => by
    show least (min x z) ys ≤ y
    rcases List.mem_cons.mp h with rfl | h
    · exact Nat.le_trans (least_le ys (min y z) (min y z) (by simp)) (Nat.min_le_left _ _)
    · rcases List.mem_cons.mp h with rfl | h
      · exact Nat.le_trans (least_le ys (min x y) (min x y) (by simp)) (Nat.min_le_right _ _)
      · exact least_le ys _ y (by simp [h])
theorem least_mem : ∀ (ys : List Nat) (x : Nat), least x ys ∈ x :: ys
  | [], x => by simp [least]
  | z :: ys, x => by
    have h := least_mem ys (min x z)
    rcases List.mem_cons.mp h with h | h
    · have e : least x (z :: ys) = min x z := h
      rw [e]
      by_cases c : x ≤ z
      · simp [Nat.min_eq_left c]
      · simp [Nat.min_eq_right (by omega : z ≤ x)]
    · exact List.mem_cons_of_mem _ (List.mem_cons_of_mem _ h)
/-- each spot that moves is in the round of its least spot -/
theorem in_round {n : Nat} {m : Nat → Nat} (hm : ∀ j, j < n → m j < n) (hi : ∀ i j, i < n → j < n → m i = m j → i = j) {j : Nat} (hj : j < n) (hne : m j ≠ j) : ∃ x, x < n ∧ 1 < per n m x ∧ (∀ y ∈ orb m (per n m x) x, x ≤ y) ∧ j ∈ orb m (per n m x) x := by
  have pj := per_spec hm hi hj
  have hx := least_mem (orb m (per n m j) j) j
  have jm : j ∈ orb m (per n m j) j := orb_all pj 0
  have hx' : least j (orb m (per n m j) j) ∈ orb m (per n m j) j := by
    rcases List.mem_cons.mp hx with h | h
    · rw [h]; exact jm
    · exact h
  obtain ⟨t, ht, et⟩ := orb_mem.mp hx'
  generalize hX : least j (orb m (per n m j) j) = x at *
  have xl : x < n := by rw [← et]; exact itr_lt hm t j hj
  have px := per_spec hm hi xl
  have back : itr m (per n m j - t) x = j := by
    rw [← et, ← itr_add, show per n m j - t + t = per n m j by omega]
    exact pj.2.2.1
  refine ⟨x, xl, ?_, ?_, ?_⟩
  · have h1 := px.1
    apply Classical.byContradiction
    intro hno
    have e1 : per n m x = 1 := by omega
    have fx : m x = x := by have := px.2.2.1; rw [e1] at this; exact this
    have all : ∀ s, itr m s x = x := by
      intro s
      induction s with
      | zero => rfl
      | succ s ih => rw [itr_succ, ih, fx]
    rw [all] at back
    subst back
    exact hne fx
  · intro y hy
    obtain ⟨s, hs, es⟩ := orb_mem.mp hy
    rw [← hX]
    apply least_le
    apply List.mem_cons_of_mem
    have : itr m (s + t) j = y := by rw [itr_add, et, es]
    rw [← this]
    exact orb_all pj _
  · rw [← back]
    exact orb_all px _
end MM

end
section
set_option linter.all false
set_option autoImplicit false
set_option Elab.async false
namespace MM
open PySem L2 T3
/-! dicts -/
theorem valD_any (kvs : List (Key × PyData)) (k : Key) : (valD kvs k).isSome = kvs.any fun kv => decide (kv.1 = k) := by
  unfold valD
  rw [Option.isSome_map]
  induction kvs with
  | nil => rfl
  | cons a l ih =>
    rw [List.find?_cons, List.any_cons]
    by_cases h : a.1 = k <;> simp [h, ih]
theorem putD_len (kvs : List (Key × PyData)) (k : Key) (x : PyData) : (putD kvs k x).length ≤ kvs.length + 1 := by
  unfold putD
  split <;> simp
theorem putD_self (kvs : List (Key × PyData)) (k : Key) (x : PyData) : (valD (putD kvs k x) k).isSome = true := by
  rw [valD_any]
  unfold putD
  split
  · rename_i h
    rw [List.any_eq_true] at h ⊢
    obtain ⟨a, ha, e⟩ := h
    have e' : a.1 = k := by simpa using e
    exact ⟨(a.1, x), List.mem_map.mpr ⟨a, ha, by rw [if_pos e']⟩, by simp [e']⟩
  · simp
theorem putD_keep (kvs : List (Key × PyData)) (k k' : Key) (x : PyData) (h : (valD kvs k').isSome = true) : (valD (putD kvs k x) k').isSome = true := by
  rw [valD_any] at h ⊢
  rw [List.any_eq_true] at h
  obtain ⟨a, ha, e⟩ := h
  have e' : a.1 = k' := by simpa using e
  unfold putD
  rw [List.any_eq_true]
  split
  · refine ⟨if a.1 = k then (a.1, x) else a, List.mem_map.mpr ⟨a, ha, rfl⟩, ?_⟩
    by_cases c : a.1 = k <;> simp [c] <;> simp [← e', c]
  · exact ⟨a, by simp [ha], e⟩
/-! lists of ints -/
theorem eqvAll_ints : ∀ xs ys : List Int, PyData.eqvAll (xs.map .int) (ys.map .int) = decide (xs = ys)
  | [], [] => by simp [PyData.eqvAll]
  | [], y :: ys => by simp [PyData.eqvAll]
  | x :: xs, [] => by simp [PyData.eqvAll]
  | x :: xs, y :: ys => by
    have ih := eqvAll_ints xs ys
    have := eqv_int x y
    simp only [List.map_cons, PyData.eqvAll, this, ih]
    by_cases h1 : x = y <;> by_cases h2 : xs = ys <;> simp [h1, h2]
theorem eqv_intsL (xs ys : List Int) : PyData.eqv (.list (xs.map .int)) (.list (ys.map .int)) = decide (xs = ys) := by
  rw [PyData.eqv, eqvAll_ints]
theorem eqv_intsT (xs ys : List Int) : PyData.eqv (.tuple (xs.map .int)) (.tuple (ys.map .int)) = decide (xs = ys) := by
  rw [PyData.eqv, eqvAll_ints]
theorem sort_perm {xs ys : List Int} (h : xs.Perm ys) : xs.mergeSort (fun a b => decide (a ≤ b)) = ys.mergeSort (fun a b => decide (a ≤ b)) := by
  have tr : ∀ a b c : Int, decide (a ≤ b) = true → decide (b ≤ c) = true → decide (a ≤ c) = true := by
    intro a b c h1 h2; simp at *; omega
  have to : ∀ a b : Int, (decide (a ≤ b) || decide (b ≤ a)) = true := by
    intro a b; simp; omega
  refine List.Perm.eq_of_pairwise (le := fun a b => decide (a ≤ b) = true) ?_ (List.pairwise_mergeSort tr to xs) (List.pairwise_mergeSort tr to ys) ?_
  · intro a b _ _ h1 h2; simp at h1 h2; omega
  · exact (List.mergeSort_perm xs _).trans (h.trans (List.mergeSort_perm ys _).symm)
/-- each mark has come where the exchange tells -/
theorem held_get {α : Type} (ms : List α) (T : List (Int × Int)) {n j : Nat} (hn : ms.length = n) (hj : j < n) : (held ms T)[mv n T j]? = ms[j]? := by
  have hd : ms.length ≠ 0 := by omega
  obtain ⟨d, hd⟩ : ∃ d, ms[j]? = some d := ⟨ms[j], List.getElem?_eq_getElem (by omega)⟩
  rw [held_at ms d T, hn]
  have := org_mv (ps := T) hj
  unfold org at this
  rw [List.getElem?_map, this, hd]
  simp [hd]
end MM

end
section
set_option linter.all false
set_option autoImplicit false
set_option Elab.async false
namespace MM
open PySem L2 T3
def sw2 (xs : List Int) (a o : Nat) : List Int := (xs.set a (xs.getD o 0)).set o (xs.getD a 0)
theorem sw2_len (xs : List Int) (a o : Nat) : (sw2 xs a o).length = xs.length := by simp [sw2]
theorem sw2_get {xs : List Int} {a o : Nat} (ha : a < xs.length) (ho : o < xs.length) (j : Nat) : (sw2 xs a o)[j]? = if o = j then xs[a]? else if a = j then xs[o]? else xs[j]? := by
  unfold sw2
  rw [List.getElem?_set, List.getElem?_set]
  by_cases h1 : o = j
  · subst h1
    simp [ha, ho]
  · by_cases h2 : a = j
    · subst h2
      simp [h1, ha, ho]
    · simp [h1, h2]
/-- each place is where something came -/
theorem mv_sur {n : Nat} (T : List (Int × Int)) {i : Nat} (h : i < n) : ∃ j, j < n ∧ mv n T j = i := by
  have hl : i < (org n T).length := by rw [org_len]; exact h
  refine ⟨(org n T)[i], ?_, mv_org (List.getElem?_eq_getElem hl)⟩
  exact org_mem.mp (List.getElem_mem hl)
theorem held_sw2 (ms : List Int) (T : List (Int × Int)) {n a o : Nat} (hn : ms.length = n) (ha : a < n) (ho : o < n) : held (sw2 ms a o) T = sw2 (held ms T) (mv n T a) (mv n T o) := by
  apply List.ext_getElem?
  intro i
  by_cases hi : i < n
  · obtain ⟨j, hj, rfl⟩ := mv_sur T hi
    rw [held_get (sw2 ms a o) T (by rw [sw2_len, hn]) hj, sw2_get (by omega) (by omega), sw2_get (by rw [held_len, hn]; exact mv_lt ha) (by rw [held_len, hn]; exact mv_lt ho), held_get ms T hn ha, held_get ms T hn ho, held_get ms T hn hj]
    by_cases h1 : o = j
    · simp [h1]
    · have h1' : ¬ mv n T o = mv n T j := fun e => h1 (mv_inj ho hj e)
      by_cases h2 : a = j
      · simp [h1, h2, h1']
      · have h2' : ¬ mv n T a = mv n T j := fun e => h2 (mv_inj ha hj e)
        simp [h1, h2, h1', h2']
  · rw [List.getElem?_eq_none (by rw [held_len, sw2_len]; omega), List.getElem?_eq_none (by rw [sw2_len, held_len]; omega)]
theorem filter_one : ∀ (n k : Nat) (p : Nat → Bool), k < n → (∀ i, i < n → p i = decide (i = k)) → (List.range n).filter p = [k]
  | 0, k, p, h, _ => by omega
  | n + 1, k, p, h, hp => by
    rw [List.range_succ, List.filter_append]
    by_cases e : n = k
    · subst e
      have h0 : (List.range n).filter p = [] := by
        rw [List.filter_eq_nil_iff]
        intro a ha
        have := List.mem_range.mp ha
        rw [hp a (by omega)]
        simp; omega
      rw [h0]
      simp [hp n (by omega)]
    · rw [filter_one n k p (by omega) (fun i hi => hp i (by omega))]
      have := hp n (by omega)
      simp [this, e]
/-- one mark put otherwise: otherwise at one spot -/
theorem held_one (ms : List Int) (T : List (Int × Int)) {n a : Nat} (v : Int) (hn : ms.length = n) (ha : a < n) (hv : v ≠ ms.getD a 0) : (List.range n).filter (fun i => !decide ((held ms T).getD i 0 = (held (ms.set a v) T).getD i 0)) = [mv n T a] := by
  apply filter_one n _ _ (mv_lt ha)
  intro i hi
  obtain ⟨j, hj, rfl⟩ := mv_sur T hi
  rw [List.getD_eq_getElem?_getD, List.getD_eq_getElem?_getD, held_get ms T hn hj, held_get (ms.set a v) T (by simp [hn]) hj, List.getElem?_set]
  by_cases h : a = j
  · subst h
    have hl : a < ms.length := by omega
    rw [List.getD_eq_getElem?_getD] at hv
    simp [hl] at hv ⊢
    omega
  · have h' : ¬ mv n T j = mv n T a := fun e => h (mv_inj ha hj e.symm)
    simp [h, h']
end MM

end
section
set_option linter.all false
set_option autoImplicit false
set_option Elab.async false
set_option maxRecDepth 10000
namespace MM
open PySem L2 T3
/-! ### a dict with a cell's mark each -/
def ck (c : Cell) : NestedKey := .tup [.num c.1, .num c.2]
theorem ck_inj {a b : Cell} (h : ck a = ck b) : a = b := by
  obtain ⟨a1, a2⟩ := a
  obtain ⟨b1, b2⟩ := b
  simp [ck] at h
  simp [h]
theorem tk_cell (c : Cell) : tk? (clD c) = some (ck c) := by
  simp [tk?, clD, nk?, nks?, ck, NestedKey.depth, NestedKey.depthAll]
def dN : List Cell → List PyData → List (NestedKey × PyData)
  | c :: cs, y :: ys => (ck c, y) :: dN cs ys
  | _, _ => []
theorem dN_len : ∀ {cs : List Cell} {ys : List PyData}, cs.length = ys.length → (dN cs ys).length = cs.length
  | [], [], _ => rfl
  | [], _ :: _, h => by simp at h
  | _ :: _, [], h => by simp at h
  | c :: cs, y :: ys, h => by simp [dN, dN_len (cs := cs) (ys := ys) (by simpa using h)]
theorem dN_val {c : Cell} : ∀ {cs : List Cell} {ys : List PyData}, cs.length = ys.length → valN (dN cs ys) (ck c) = if c ∈ cs then ys[cs.idxOf c]? else none
  | [], [], _ => by simp [dN, valN]
  | [], _ :: _, h => by simp at h
  | _ :: _, [], h => by simp at h
  | a :: cs, y :: ys, h => by
    by_cases e : a = c
    · subst e
      simp [dN, valN]
    · have e' : ¬ ck a = ck c := fun z => e (ck_inj z)
      have := dN_val (c := c) (cs := cs) (ys := ys) (by simpa using h)
      have e2 : ¬ c = a := fun z => e z.symm
      have : valN (dN (a :: cs) (y :: ys)) (ck c) = valN (dN cs ys) (ck c) := by simp [dN, valN, e']
      rw [this, dN_val (c := c) (cs := cs) (ys := ys) (by simpa using h)]
      simp [e2, List.idxOf_cons, beq_eq_false_iff_ne.mpr e]
theorem dN_map {c : Cell} {x : PyData} : ∀ {cs : List Cell} {ys : List PyData}, cs.length = ys.length → cs.Nodup → c ∈ cs → ((dN cs ys).map fun q => if q.1 = ck c then (q.1, x) else q) = dN cs (ys.set (cs.idxOf c) x)
  | [], _, _, _, h => by simp at h
  | _ :: _, [], h, _, _ => by simp at h
  | a :: cs, y :: ys, h, nd, hc => by
    have nd' := List.nodup_cons.mp nd
    have hl : cs.length = ys.length := by simpa using h
    by_cases e : a = c
    · subst e
      have off : ∀ {cs : List Cell} {ys : List PyData}, a ∉ cs → ((dN cs ys).map fun q => if q.1 = ck a then (q.1, x) else q) = dN cs ys := by
        intro cs
        induction cs with
        | nil => intro ys _; simp [dN]
        | cons b cs ih =>
          intro ys hn
          cases ys with
          | nil => simp [dN]
          | cons z ys =>
            have h1 : ¬ ck b = ck a := fun z => hn (by simp [ck_inj z])
            simp only [dN, List.map_cons, h1, if_false]
            rw [ih (fun z => hn (by simp [z]))]
      simp only [dN, List.map_cons, if_true, List.idxOf_cons_self, List.set_cons_zero]
      rw [off nd'.1]
    · have e' : ¬ ck a = ck c := fun z => e (ck_inj z)
      have hc' : c ∈ cs := by
        rcases List.mem_cons.mp hc with z | z
        · exact absurd z.symm e
        · exact z
      simp only [dN, List.map_cons, e', if_false, List.idxOf_cons, beq_eq_false_iff_ne.mpr e, cond_false, List.set_cons_succ]
      rw [dN_map hl nd'.2 hc']
theorem dN_put {c : Cell} {x : PyData} {cs : List Cell} {ys : List PyData} (h : cs.length = ys.length) (nd : cs.Nodup) (hc : c ∈ cs) : putN (dN cs ys) (ck c) x = dN cs (ys.set (cs.idxOf c) x) := by
  unfold putN
  rw [dN_val h, if_pos hc]
  have hi : cs.idxOf c < ys.length := by rw [← h]; exact List.idxOf_lt_length_iff.mpr hc
  rw [List.getElem?_eq_getElem hi]
  simp only [Option.isSome_some, if_true]
  exact dN_map h nd hc
theorem dN_pairs : ∀ {cs : List Cell} {ys : List PyData}, cs.length = ys.length → pairsN (pairD (cs.map clD) ys) = some (dN cs ys)
  | [], [], _ => by simp [pairD, pairsN, dN]
  | [], _ :: _, h => by simp at h
  | _ :: _, [], h => by simp at h
  | c :: cs, y :: ys, h => by
    have := dN_pairs (cs := cs) (ys := ys) (by simpa using h)
    simp only [List.map_cons, pairD, pairsN, tk_cell, this, dN]
theorem dN_all {cs : List Cell} {ys : List PyData} (h : cs.length = ys.length) (nd : cs.Nodup) : allN (dN cs ys) = dN cs ys := by
  have go : ∀ (cs : List Cell) (ys : List PyData) (acc : List (NestedKey × PyData)), cs.Nodup → (∀ c ∈ cs, valN acc (ck c) = none) → (dN cs ys).foldl (fun acc q => putN acc q.1 q.2) acc = acc ++ dN cs ys := by
    intro cs
    induction cs with
    | nil => intro ys acc _ _; simp [dN]
    | cons c cs ih =>
      intro ys acc nd hn
      have nd' := List.nodup_cons.mp nd
      cases ys with
      | nil => simp [dN]
      | cons y ys =>
        have h1 : putN acc (ck c) y = acc ++ [(ck c, y)] := by
          unfold putN
          rw [hn c (by simp)]
          rfl
        simp only [dN, List.foldl_cons, h1]
        rw [ih ys (acc ++ [(ck c, y)]) nd'.2 (fun d hd => ?_)]
        · simp
        · have hne : ck d ≠ ck c := fun z => nd'.1 (ck_inj z ▸ hd)
          have := valN_put acc (ck c) (ck d) y
          rw [h1, if_neg hne, hn d (by simp [hd])] at this
          exact this
  unfold allN
  rw [go cs ys [] nd (fun c _ => by simp [valN])]
  simp
theorem cGet_dN {c : Cell} {cs : List Cell} {ys : List PyData} (h : cs.length = ys.length) (hc : c ∈ cs) : cGet (.dn (dN cs ys)) (clD c) = some ys[cs.idxOf c]? := by
  simp only [cGet, tk_cell, dN_val h, if_pos hc]
theorem cPut_dN {c : Cell} {cs : List Cell} {ys : List PyData} {x : PyData} (h : cs.length = ys.length) (hl : cs.length ≤ 1000000) (nd : cs.Nodup) (hc : c ∈ cs) : cPut (.dn (dN cs ys)) (clD c) x = some (.dn (dN cs (ys.set (cs.idxOf c) x))) := by
  simp only [cPut, tk_cell, dN_len h, hl, if_true, dN_put h nd hc]
/-! ### faces and cells by themselves -/
theorem swp_parts {α : Type} {xs : List α} {i j : Nat} {x y : α} (hi : i < 6) (hx : xs[i]? = some x) (hy : xs[6 + j]? = some y) :
    (swp xs ((i : Int), 6 + (j : Int))).take 6 = (xs.take 6).set i y ∧ (swp xs ((i : Int), 6 + (j : Int))).drop 6 = (xs.drop 6).set j x := by
  unfold swp
  have e1 : ((i : Int)).toNat = i := by omega
  have e2 : ((6 + (j : Int) : Int)).toNat = 6 + j := by omega
  simp only [e1, e2, hx, hy]
  constructor
  · rw [List.take_set, List.take_set, List.set_eq_of_length_le (by simp; omega)]
  · rw [List.drop_set, if_neg (by omega), List.drop_set, if_pos hi]
    congr 1
    omega
theorem map_idx {β : Type} {cs : List Cell} {ys : List β} {d : β} (h : cs.length = ys.length) (nd : cs.Nodup) : cs.map (fun c => ys.getD (cs.idxOf c) d) = ys := by
  refine List.ext_getElem (by simp [h]) fun i h1 h2 => ?_
  have hi : i < cs.length := by simpa using h1
  rw [List.getElem_map, nd.idxOf_getElem i hi, List.getD_eq_getElem?_getD, List.getElem?_eq_getElem h2]
  rfl
/-! ### comprehensions, by what each turn gives -/
def lcOk (g : GG) (f : EE) (vs : List Nat) (e : Sl) (x y : PyData) : Prop := match g x (wipeE e vs) with
  | none => False
  | some e1 => match f e1 with
    | none => False
    | some p => data1 p.1 = some y ∧ unwipe e p.2 vs = e
theorem lcOk_ex {g : GG} {f : EE} {vs : List Nat} {e : Sl} {x y : PyData} (h : lcOk g f vs e x y) : ∃ e1, g x (wipeE e vs) = some e1 ∧ ∃ p, f e1 = some p ∧ data1 p.1 = some y ∧ unwipe e p.2 vs = e := by
  unfold lcOk at h
  split at h
  · exact h.elim
  · rename_i e1 h1
    split at h
    · exact h.elim
    · rename_i p h2
      exact ⟨e1, h1, p, h2, h⟩
theorem lc_all {it : EI} {g : GG} {f : EE} {vs : List Nat} {env e : Sl} {lk : Lk} {α : Type} {q y : α → PyData} (as : List α) (hi : it env = some (as.map q, lk, e)) (hl : as.length ≤ 1000000) (h : ∀ a ∈ as, lcOk g f vs e (q a) (y a)) :
    eLc it g bYes f vs env = some (.tmp (.ls (as.map y)), unlock lk e) := by
  have := lcL_all (g := g) (f := f) (vs := vs) (env := e) (y := y) (q := q) as fun a ha => by
    obtain ⟨e1, h1, p, h2, h3, h4⟩ := lcOk_ex (h a ha)
    exact ⟨e1, p.1, p.2, h1, h2, h3, h4⟩
  rw [z_lc, hi]
  simp only [List.length_map, hl, if_true, this]
def lcIf (g : GG) (t : EB) (f : EE) (vs : List Nat) (e : Sl) (x : PyData) (b : Bool) (y : PyData) : Prop := match g x (wipeE e vs) with
  | none => False
  | some e1 => match t e1 with
    | none => False
    | some r => r.1 = b ∧ if b = true then match f r.2 with
        | none => False
        | some p => data1 p.1 = some y ∧ unwipe e p.2 vs = e
      else unwipe e r.2 vs = e
theorem lcIf_ex {g : GG} {t : EB} {f : EE} {vs : List Nat} {e : Sl} {x y : PyData} {b : Bool} (h : lcIf g t f vs e x b y) : ∃ e1, g x (wipeE e vs) = some e1 ∧ ∃ r, t e1 = some r ∧ r.1 = b ∧ if b = true then ∃ q, f r.2 = some q ∧ data1 q.1 = some y ∧ unwipe e q.2 vs = e else unwipe e r.2 vs = e := by
  unfold lcIf at h
  split at h
  · exact h.elim
  · rename_i e1 h1
    split at h
    · exact h.elim
    · rename_i r h2
      refine ⟨e1, h1, r, h2, h.1, ?_⟩
      have h3 := h.2
      split at h3
      · rename_i hb
        rw [if_pos hb]
        split at h3
        · exact h3.elim
        · rename_i p hp
          exact ⟨p, hp, h3⟩
      · rename_i hb
        rw [if_neg hb]
        exact h3
theorem lc_if {it : EI} {g : GG} {t : EB} {f : EE} {vs : List Nat} {env e : Sl} {lk : Lk} {α : Type} {q y : α → PyData} {p : α → Bool} (as : List α) (hi : it env = some (as.map q, lk, e)) (hl : as.length ≤ 1000000) (h : ∀ a ∈ as, lcIf g t f vs e (q a) (p a) (y a)) :
    eLc it g t f vs env = some (.tmp (.ls ((as.filter p).map y)), unlock lk e) := by
  have := lcL_pure (g := g) (t := t) (f := f) (vs := vs) (env := e) (p := p) (y := y) (q := q) as [] fun a ha => by
    obtain ⟨e1, h1, ⟨b, e2⟩, h2, rfl, h3⟩ := lcIf_ex (h a ha)
    refine ⟨e1, e2, h1, h2, fun z => ?_, fun z => ?_⟩
    · rw [if_pos z] at h3
      obtain ⟨q, h4, h5, h6⟩ := h3
      exact ⟨q.1, q.2, h4, h5, h6⟩
    · rw [if_neg (by rw [z]; decide)] at h3; exact h3
  rw [z_lc, hi]
  simp only [List.length_map, hl, if_true, this, List.nil_append]
end MM

end
section
set_option linter.all false
set_option autoImplicit false
set_option Elab.async false
namespace T3
open PySem L2
/-! ### a comprehension within another -/
theorem relabel_cf {env : Env} {x : Str} : ∀ {names : List (Str × NameKind)}, (names.lookup x = some .cell ∨ names.lookup x = some .free) →
    ((names.map fun (n, k) => if (k == NameKind.free && env.scope.kind == .function && env.kindOf n == some .cell) then (n, NameKind.cell) else (n, k)).lookup x = some .cell ∨ (names.map fun (n, k) => if (k == NameKind.free && env.scope.kind == .function && env.kindOf n == some .cell) then (n, NameKind.cell) else (n, k)).lookup x = some .free)
  | [], h => by simp at h
  | (n, k) :: r, h => by
    have ih := @relabel_cf env x r
    simp only [List.map_cons]
    cases hx : x == n with
    | true =>
      have h' : k = .cell ∨ k = .free := by simpa [List.lookup_cons, hx] using h
      split
      · left; simp [List.lookup_cons, hx]
      · rcases h' with rfl | rfl
        · left; simp [List.lookup_cons, hx]
        · right; simp [List.lookup_cons, hx]
    | false =>
      have h' : r.lookup x = some .cell ∨ r.lookup x = some .free := by simpa [List.lookup_cons, hx] using h
      split <;> simpa [List.lookup_cons, hx] using ih h'
theorem blk2 {N : List Str} {sc0 scope : Scope} {own : List (Str × Nat)} {a : List (Str × Addr)} {b : Addr} {d : Env} (h : blkC N sc0 scope own = true) : BlkOk N (compEnvC sc0 a b d).scope scope own := by
  have q := blkOk_by h
  exact ⟨q.kind, q.uniq, q.ix, fun y hy e => relabel_cf (q.free y hy e), q.own⟩
/-! ### slots known by their facts alone -/
def frS : Option S → Bool
  | some (.mu .own _) => true
  | some (.pd _) => true
  | some (.nt _) => true
  | none => true
  | _ => false
@[simp] theorem frS_n : frS none = true := rfl
@[simp] theorem frS_p (x : PyData) : frS (some (.pd x)) = true := rfl
@[simp] theorem frS_t (x : List PyData) : frS (some (.nt x)) = true := rfl
@[simp] theorem frS_o (c : Ct) : frS (some (.mu .own c)) = true := rfl
theorem free_frS {e : Sl} {i : Nat} {s : Option S} (h : e[i]? = some s) : free e i = frS s := by
  unfold free frS
  rw [h]
  rcases s with _ | s
  · rfl
  · cases s with
    | pd x => rfl
    | nt x => rfl
    | mu m c => cases m <;> rfl
theorem free_ne_set {e : Sl} {i j : Nat} {s : Option S} (h : i ≠ j) : free (e.set i s) j = free e j := by
  unfold free
  rw [List.getElem?_set_ne h]
theorem free_eq_set {e : Sl} {i : Nat} {s : Option S} (h : i < e.length) : free (e.set i s) i = frS s := free_frS (by simp [h])
/-- so many slots, all from k on free -/
structure Al (k n : Nat) (e : Sl) : Prop where
  len : e.length = n
  fre : ∀ i, k ≤ i → i < n → free e i = true
theorem Al.set {k n i : Nat} {e : Sl} {s : Option S} (h : Al k n e) (q : frS s = true) : Al k n (e.set i s) := by
  refine ⟨by rw [List.length_set, h.len], fun j h1 h2 => ?_⟩
  by_cases z : i = j
  · subst z
    rw [free_eq_set (by rw [h.len]; exact h2)]
    exact q
  · rw [free_ne_set z]
    exact h.fre j h1 h2
theorem Al.low {k n i : Nat} {e : Sl} {s : Option S} (h : Al k n e) (q : i < k) : Al k n (e.set i s) := by
  refine ⟨by rw [List.length_set, h.len], fun j h1 h2 => ?_⟩
  rw [free_ne_set (by omega)]
  exact h.fre j h1 h2
theorem Al.start {n : Nat} (as : List S) (h : as.length ≤ n) : Al as.length n (startE n as) := by
  refine ⟨by simp [startE]; omega, fun i h1 h2 => ?_⟩
  have : (startE n as)[i]? = some none := by
    unfold startE
    rw [List.getElem?_append_right (by simpa using h1), List.length_map, List.getElem?_replicate, if_pos (by omega)]
  rw [free_frS this]
  rfl
/-- the slots but for some -/
structure Kp (e e' : Sl) (vs : List Nat) : Prop where
  len : e'.length = e.length
  at_ : ∀ i, i ∉ vs → e'[i]? = e[i]?
@[simp] theorem Kp.refl (e : Sl) (vs : List Nat) : Kp e e vs := ⟨rfl, fun _ _ => rfl⟩
theorem Kp.set {e e' : Sl} {vs : List Nat} {v : Nat} {s : Option S} (h : Kp e e' vs) (m : v ∈ vs) : Kp e (e'.set v s) vs :=
  ⟨by rw [List.length_set, h.len], fun i hi => by
    have ne : v ≠ i := fun z => hi (by rw [← z]; exact m)
    rw [List.getElem?_set_ne ne, h.at_ i hi]⟩
@[simp] theorem Kp.wipe (e : Sl) (vs : List Nat) : Kp e (wipeE e vs) vs := ⟨wipeE_len, fun i hi => wipeE_out hi⟩
theorem Kp.un {e e' : Sl} {vs : List Nat} (h : Kp e e' vs) : unwipe e e' vs = e := by
  have key : ∀ ws, unwipe e e' ws = unwipe e e' ws ∧ ∀ i, (unwipe e e' ws)[i]? = if i ∈ ws then e[i]? else e'[i]? := by
    intro ws
    induction ws with
    | nil => exact ⟨rfl, fun i => by simp [unwipe]⟩
    | cons v ws ih =>
      refine ⟨rfl, fun i => ?_⟩
      have l : (unwipe e e' ws).length = e.length := by rw [unwipe_len, h.len]
      unfold unwipe
      rw [List.getElem?_set]
      by_cases z : v = i
      · subst z
        rw [if_pos rfl, l]
        by_cases y : v < e.length
        · simp [y]
        · simp [y, List.getElem?_eq_none (Nat.le_of_not_lt y)]
      · rw [if_neg z, ih.2 i]
        simp only [List.mem_cons]
        by_cases y : i ∈ ws
        · simp [y]
        · rw [if_neg y, if_neg (by simp [y]; exact fun q => z q.symm)]
  refine List.ext_getElem? fun i => ?_
  rw [(key vs).2 i]
  split
  · rfl
  · rename_i q
    exact h.at_ i q
theorem wipe_at (e : Sl) (i : Nat) : ∀ vs : List Nat, (wipeE e vs)[i]? = if i ∈ vs then (if i < e.length then some none else none) else e[i]?
  | [] => by simp [wipeE]
  | v :: vs => by
    unfold wipeE
    rw [List.getElem?_set, wipe_at e i vs, wipeE_len]
    by_cases z : v = i
    · subst z; simp
    · rw [if_neg z]
      have : i ∈ v :: vs ↔ i ∈ vs := ⟨fun q => (List.mem_cons.mp q).elim (fun y => absurd y.symm z) id, List.mem_cons_of_mem _⟩
      simp [this]
theorem wipe_free {e : Sl} {i : Nat} {vs : List Nat} (h : i ∈ vs) (l : i < e.length) : free (wipeE e vs) i = true := by
  rw [free_frS (s := none) (by rw [wipe_at]; simp [h, l])]
  rfl
/-- one turn of a comprehension without a test -/
def lcO (g : GG) (f : EE) (vs : List Nat) (e : Sl) (x y : PyData) : Prop := match g x (wipeE e vs) with
  | none => False
  | some e1 => match f e1 with
    | none => False
    | some p => data1 p.1 = some y ∧ Kp e p.2 vs
def lcI (g : GG) (t : EB) (f : EE) (vs : List Nat) (e : Sl) (x : PyData) (b : Bool) (y : PyData) : Prop := match g x (wipeE e vs) with
  | none => False
  | some e1 => match t e1 with
    | none => False
    | some r => r.1 = b ∧ if b = true then match f r.2 with
        | none => False
        | some p => data1 p.1 = some y ∧ Kp e p.2 vs
      else Kp e r.2 vs
theorem lcA {it : EI} {g : GG} {f : EE} {vs : List Nat} {env e : Sl} {lk : Lk} {α : Type} {q : α → PyData} {as : List α} (y : α → PyData) (hi : it env = some (as.map q, lk, e)) (hl : as.length ≤ 1000000) (h : ∀ a ∈ as, lcO g f vs e (q a) (y a)) :
    eLc it g bYes f vs env = some (.tmp (.ls (as.map y)), unlock lk e) :=
  MM.lc_all as hi hl fun a ha => by
    have := h a ha
    unfold lcO at this
    unfold MM.lcOk
    split
    · rename_i z; rw [z] at this; exact this
    · rename_i e1 z
      rw [z] at this
      simp only at this
      split
      · rename_i z2; rw [z2] at this; exact this
      · rename_i p z2
        rw [z2] at this
        exact ⟨this.1, this.2.un⟩
theorem lcF {it : EI} {g : GG} {t : EB} {f : EE} {vs : List Nat} {env e : Sl} {lk : Lk} {α : Type} {q : α → PyData} {as : List α} (p : α → Bool) (y : α → PyData) (hi : it env = some (as.map q, lk, e)) (hl : as.length ≤ 1000000) (h : ∀ a ∈ as, lcI g t f vs e (q a) (p a) (y a)) :
    eLc it g t f vs env = some (.tmp (.ls ((as.filter p).map y)), unlock lk e) :=
  MM.lc_if as hi hl fun a ha => by
    have := h a ha
    unfold lcI at this
    unfold MM.lcIf
    split
    · rename_i z; rw [z] at this; exact this
    · rename_i e1 z
      rw [z] at this
      simp only at this
      split
      · rename_i z2; rw [z2] at this; exact this
      · rename_i r z2
        rw [z2] at this
        simp only at this
        refine ⟨this.1, ?_⟩
        have t2 := this.2
        split
        · rename_i hb
          rw [if_pos hb] at t2
          split
          · rename_i z3; rw [z3] at t2; exact t2
          · rename_i p z3
            rw [z3] at t2
            exact ⟨t2.1, t2.2.un⟩
        · rename_i hb
          rw [if_neg hb] at t2
          exact t2.un
end T3

end
section
set_option linter.all false
set_option autoImplicit false
set_option Elab.async false
set_option maxRecDepth 100000
set_option maxHeartbeats 4000000
namespace L05
open PySem L2 T3
noncomputable section
-- CASES a0 l0 c0 k0 a1 l1 c1 k1 a2 l2 c2 k2 a3 l3 c3 k3 a4 l4 c4 k4 a5 l5 c5 k5 a6 l6 c6 k6 a7 l7 c7 k7 a8 l8 c8 k8 a9 l9 c9 k9 a10 l10 c10 k10 a11 l11 c11 k11 a12 l12 c12 k12 a13 l13 c13 k13 a14 l14 c14 k14 a15 l15 c15 k15 a16 l16 c16 k16 a17 l17 c17 k17 a18 l18 c18 k18 a19 l19 c19 k19 a20 l20 c20 k20 a21 l21 c21 k21 a22 l22 c22 k22 a23 l23 c23 k23 a24 l24 c24 k24 a25 l25 c25 k25 a26 l26 c26 k26 a27 l27 c27 k27 a28 l28 c28 k28 a29 l29 c29 k29 a30 l30 c30 k30 a31 l31 c31 k31 a32 l32 c32 k32 a33 l33 c33 k33 a34 l34 c34 k34 a35 l35 c35 k35 a36 l36 c36 k36 a37 l37 c37 k37 a38 l38 c38 k38 a39 l39 c39 k39 a40 l40 c40 k40 a41 l41 c41 k41 a42 l42 c42 k42 a43 l43 c43 k43 z_isinstance z_bool z_int z_len z_tuple z_all z_zip z_str z_enumerate z_range z_list z_max z_min z_sorted z_dict z_repr ca_LAST_LINE cb_LAST_LINE ca_MOST_CELLS cb_MOST_CELLS ca_LYINGS cb_LYINGS ca_OPPOSITE_SUM cb_OPPOSITE_SUM ca_LETTERS cb_LETTERS ca_FACES cb_FACES ca_MOST_MARK cb_MOST_MARK da_STEPS dl_STEPS dk_STEPS db_STEPS
-- LEVEL 7
-- HOT 1
def topS (i : Nat) : Stmt := PySem.Challenge.pw_tumblemarks_k05_marks_and_exchanges.main.body.getD i (.Pass ⟨0, 0, 0, 0⟩)
def v_LAST_LINE : PyData := (.int 3)
def v_MOST_CELLS : PyData := (.int 9)
def v_OPPOSITE_SUM : PyData := (.int 5)
def v_LETTERS : PyData := (.tuple [(.str "n"), (.str "e"), (.str "s"), (.str "w")])
def v_LYINGS : PyData := (.tuple [(.tuple [(.int 0), (.int 1), (.int 2)]), (.tuple [(.int 0), (.int 2), (.int 4)]), (.tuple [(.int 0), (.int 3), (.int 1)]), (.tuple [(.int 0), (.int 4), (.int 3)]), (.tuple [(.int 1), (.int 0), (.int 3)]), (.tuple [(.int 1), (.int 2), (.int 0)]), (.tuple [(.int 1), (.int 3), (.int 5)]), (.tuple [(.int 1), (.int 5), (.int 2)]), (.tuple [(.int 2), (.int 0), (.int 1)]), (.tuple [(.int 2), (.int 1), (.int 5)]), (.tuple [(.int 2), (.int 4), (.int 0)]), (.tuple [(.int 2), (.int 5), (.int 4)]), (.tuple [(.int 3), (.int 0), (.int 4)]), (.tuple [(.int 3), (.int 1), (.int 0)]), (.tuple [(.int 3), (.int 4), (.int 5)]), (.tuple [(.int 3), (.int 5), (.int 1)]), (.tuple [(.int 4), (.int 0), (.int 2)]), (.tuple [(.int 4), (.int 2), (.int 5)]), (.tuple [(.int 4), (.int 3), (.int 0)]), (.tuple [(.int 4), (.int 5), (.int 3)]), (.tuple [(.int 5), (.int 1), (.int 3)]), (.tuple [(.int 5), (.int 2), (.int 1)]), (.tuple [(.int 5), (.int 3), (.int 4)]), (.tuple [(.int 5), (.int 4), (.int 2)])])
def v_FACES : PyData := (.int 6)
def v_MOST_MARK : PyData := (.int 999)
def v_STEPS : List (Str × PyData) := [("n", (.tuple [(.int 0), (.int 1)])), ("e", (.tuple [(.int 1), (.int 0)])), ("s", (.tuple [(.int 0), (.int (-1))])), ("w", (.tuple [(.int (-1)), (.int 0)]))]
/-! ### is_whole -/
abbrev s_is_whole : Stmt := topS 14
abbrev N_is_whole : List Str := ["thing", "most"]
theorem sc_is_whole : FnScope N_is_whole ["thing", "most"] (defScope s_is_whole) := ⟨rfl, rfl, rfl, by decide +kernel, rfl, by decide +kernel, by decide +kernel⟩
def m_is_whole : SS := (sRet (eB (bAnd (bT (eThen (eOne (eVar 0)) (kE (oIsi .int)))) (bAnd (bNot (bT (eThen (eOne (eVar 0)) (kE (oIsi .bool))))) (bT (eCh (Cm.f .le) (Cm.f .le) (eC (.int 0)) (eVar 0) (eVar 1)))))))
def f_is_whole : FnD := runFn 2 m_is_whole
theorem p_is_whole {P : Program} {w : World} {K : PySem.W.Frag} {mg : Str → Option Value} {base : Heap} (at_ : At0 K mg "is_whole" s_is_whole ["thing", "most"]) (z_isinstance : mg "isinstance" = none) (z_bool : mg "bool" = none) (z_int : mg "int" = none) : Has P w K mg base "is_whole" 2 f_is_whole 1 := by
  have nd := sc_is_whole.nd
  refine has_of (b := m_is_whole) (N := N_is_whole) (k := 0) at_ sc_is_whole rfl fun f cdv A outer s H E hr => ?_
  exact (ss_one (s_ret (e_and (e_bool (e_isi .int (e_var (pv 0)) (by rfl) z_isinstance (by rfl) z_int (by decide +kernel))) (e_and (e_not (e_bool (e_isi .bool (e_var (pv 0)) (by rfl) z_isinstance (by rfl) z_bool (by decide +kernel)))) (e_and1 (e_chain .le .le k_int (e_var (pv 0)) (e_var (pv 1))))))))
/-! ### is_cell -/
abbrev s_is_cell : Stmt := topS 15
abbrev N_is_cell : List Str := ["thing", "column", "line"]
theorem sc_is_cell : FnScope N_is_cell ["thing"] (defScope s_is_cell) := ⟨rfl, rfl, rfl, by decide +kernel, rfl, by decide +kernel, by decide +kernel⟩
def m_is_cell : SS := (sSeq (sIf (bOr (bNot (bT (eThen (eOne (eVar 0)) (kE (oIsi .tuple))))) (bT (eNe (eThen (eCons (eVar 0) eNil) (kE oLen)) (eC (.int 2))))) (sRet (eC (.bool false))) sPass)
  (sSeq (sAsg (eVar 0) (gT 2 (gCn (gN 1) (gCn (gN 2) gNl))))
  (sRet (eB (bAnd (bT (eCall f_is_whole (eCons (eVar 1) (eCons (eC v_LAST_LINE) eNil)))) (bT (eCall f_is_whole (eCons (eVar 2) (eCons (eC v_LAST_LINE) eNil)))))))))
def f_is_cell : FnD := runFn 3 m_is_cell
theorem p_is_cell {P : Program} {w : World} {K : PySem.W.Frag} {mg : Str → Option Value} {base : Heap} (at_ : At0 K mg "is_cell" s_is_cell ["thing"]) (h_is_whole : Has P w K mg base "is_whole" 2 f_is_whole 1) (z_len : mg "len" = none) (z_isinstance : mg "isinstance" = none) (z_tuple : mg "tuple" = none) (c_LAST_LINE : KC K mg "LAST_LINE" v_LAST_LINE) : Has P w K mg base "is_cell" 1 f_is_cell 2 := by
  have nd := sc_is_cell.nd
  refine has_of (b := m_is_cell) (N := N_is_cell) (k := 1) at_ sc_is_cell rfl fun f cdv A outer s H E hr => ?_
  exact (ss_cons (s_if (PW.pt (b_or (b_not (b_truth (e_isi .tuple (e_var (pv 0)) (by rfl) z_isinstance (by rfl) z_tuple (by decide +kernel)))) (b_or1 (y_cmp (q_ne hr) (x_blt (w_len rfl hr) z_len (a_cons (e_var (pv 0)) a_nil)) k_int)))) (ss_one (s_ret k_bl)) ss_nil)
    (ss_cons (s_asg (e_var (pv 0)) (g_tup rfl (gs_cons (g_name (i := 1) nd rfl (.inl rfl)) (gs_cons (g_name (i := 2) nd rfl (.inl rfl)) gs_nil))))
    (ss_one (s_ret (e_and (e_bool (e_fn h_is_whole (hr.mono (by decide)) (lenA_cons (lenA_cons lenA_nil)) (a_cons (e_var (pv 1)) (a_cons (e_glob c_LAST_LINE) a_nil)))) (e_and1 (e_fn h_is_whole (hr.mono (by decide)) (lenA_cons (lenA_cons lenA_nil)) (a_cons (e_var (pv 2)) (a_cons (e_glob c_LAST_LINE) a_nil)))))))))
/-! ### is_rising -/
abbrev s_is_rising : Stmt := topS 16
abbrev N_is_rising : List Str := ["things", "one", "other"]
theorem sc_is_rising : FnScope N_is_rising ["things"] (defScope s_is_rising) := ⟨rfl, rfl, rfl, by decide +kernel, rfl, by decide +kernel, by decide +kernel⟩
def m_is_rising : SS := (sRet (eThen (eCons (eLc (iZt (eCons (eVar 0) (eCons (eSl (eVar 0) (oSome (eC (.int 1))) oNo) eNil))) (gT 2 (gCn (gN 1) (gCn (gN 2) gNl))) bYes (eLt (eVar 1) (eVar 2)) [1, 2]) eNil) (kE oAll)))
def f_is_rising : FnD := runFn 3 m_is_rising
theorem p_is_rising {P : Program} {w : World} {K : PySem.W.Frag} {mg : Str → Option Value} {base : Heap} (at_ : At0 K mg "is_rising" s_is_rising ["things"]) (z_all : mg "all" = none) (z_zip : mg "zip" = none) : Has P w K mg base "is_rising" 1 f_is_rising 1 := by
  have nd := sc_is_rising.nd
  refine has_of (b := m_is_rising) (N := N_is_rising) (k := 0) at_ sc_is_rising rfl fun f cdv A outer s H E hr => ?_
  exact (ss_one (s_ret (x_blt (w_all rfl hr) z_all (a_cons (x_lc [("one", 1), ("other", 2)] rfl nd rfl (i_zip (by rfl) z_zip (a_cons (e_var (pv 0)) (a_cons (e_sl (e_var (pv 0)) (o_some k_int) o_no) a_nil))) (blkOk_by (N := N_is_rising) (sc := defScope s_is_rising) (by decide +kernel)) (only_gT (only_gCn (only_gN (by decide)) (only_gCn (only_gN (by decide)) only_gNl))) (fun _ _ _ _ _ => (v_tup rfl (vs_cons (v_name (i := 1) (by decide) nd rfl (.inl rfl)) (vs_cons (v_name (i := 2) (by decide) nd rfl (.inl rfl)) vs_nil)))) (fun _ _ _ _ _ => ts_yes) (fun _ _ _ _ _ => (x_cmp (q_lt hr) (e_var (pv 1)) (e_var (pv 2))))) a_nil))))
/-! ### is_floor -/
abbrev s_is_floor : Stmt := topS 17
abbrev N_is_floor : List Str := ["thing", "part"]
theorem sc_is_floor : FnScope N_is_floor ["thing"] (defScope s_is_floor) := ⟨rfl, rfl, rfl, by decide +kernel, rfl, by decide +kernel, by decide +kernel⟩
def m_is_floor : SS := (sSeq (sIf (bOr (bNot (bT (eThen (eOne (eVar 0)) (kE (oIsi .tuple))))) (bNot (bT (eCh (Cm.f .le) (Cm.f .le) (eC (.int 1)) (eThen (eCons (eVar 0) eNil) (kE oLen)) (eC v_MOST_CELLS))))) (sRet (eC (.bool false))) sPass)
  (sRet (eB (bAnd (bT (eThen (eCons (eLc (iSeq (eVar 0)) (gN 1) bYes (eCall f_is_cell (eCons (eVar 1) eNil)) [1]) eNil) (kE oAll))) (bT (eCall f_is_rising (eCons (eVar 0) eNil)))))))
def f_is_floor : FnD := runFn 2 m_is_floor
theorem p_is_floor {P : Program} {w : World} {K : PySem.W.Frag} {mg : Str → Option Value} {base : Heap} (at_ : At0 K mg "is_floor" s_is_floor ["thing"]) (h_is_rising : Has P w K mg base "is_rising" 1 f_is_rising 1) (h_is_cell : Has P w K mg base "is_cell" 1 f_is_cell 2) (z_len : mg "len" = none) (z_isinstance : mg "isinstance" = none) (z_tuple : mg "tuple" = none) (z_all : mg "all" = none) (c_MOST_CELLS : KC K mg "MOST_CELLS" v_MOST_CELLS) : Has P w K mg base "is_floor" 1 f_is_floor 3 := by
  have nd := sc_is_floor.nd
  refine has_of (b := m_is_floor) (N := N_is_floor) (k := 2) at_ sc_is_floor rfl fun f cdv A outer s H E hr => ?_
  exact (ss_cons (s_if (PW.pt (b_or (b_not (b_truth (e_isi .tuple (e_var (pv 0)) (by rfl) z_isinstance (by rfl) z_tuple (by decide +kernel)))) (b_or1 (b_not (b_chain .le .le k_int (x_blt (w_len rfl hr) z_len (a_cons (e_var (pv 0)) a_nil)) (e_glob c_MOST_CELLS)))))) (ss_one (s_ret k_bl)) ss_nil)
    (ss_one (s_ret (e_and (e_bool (x_blt (w_all rfl hr) z_all (a_cons (x_lc [("part", 1)] rfl nd rfl (i_seq (e_var (pv 0))) (blkOk_by (N := N_is_floor) (sc := defScope s_is_floor) (by decide +kernel)) (only_gN (by decide)) (fun _ _ _ _ _ => (v_name (i := 1) (by decide) nd rfl (.inl rfl))) (fun _ _ _ _ _ => ts_yes) (fun _ _ _ _ _ => (e_fn h_is_cell (hr.mono (by decide)) (lenA_cons lenA_nil) (a_cons (e_var (pv 1)) a_nil)))) a_nil))) (e_and1 (e_fn h_is_rising (hr.mono (by decide)) (lenA_cons lenA_nil) (a_cons (e_var (pv 0)) a_nil)))))))
/-! ### is_cell_of -/
abbrev s_is_cell_of : Stmt := topS 18
abbrev N_is_cell_of : List Str := ["floor", "thing"]
theorem sc_is_cell_of : FnScope N_is_cell_of ["floor", "thing"] (defScope s_is_cell_of) := ⟨rfl, rfl, rfl, by decide +kernel, rfl, by decide +kernel, by decide +kernel⟩
def m_is_cell_of : SS := (sRet (eB (bAnd (bT (eCall f_is_cell (eCons (eVar 1) eNil))) (bT (eIn (eVar 1) (eVar 0))))))
def f_is_cell_of : FnD := runFn 2 m_is_cell_of
theorem p_is_cell_of {P : Program} {w : World} {K : PySem.W.Frag} {mg : Str → Option Value} {base : Heap} (at_ : At0 K mg "is_cell_of" s_is_cell_of ["floor", "thing"]) (h_is_cell : Has P w K mg base "is_cell" 1 f_is_cell 2) : Has P w K mg base "is_cell_of" 2 f_is_cell_of 3 := by
  have nd := sc_is_cell_of.nd
  refine has_of (b := m_is_cell_of) (N := N_is_cell_of) (k := 2) at_ sc_is_cell_of rfl fun f cdv A outer s H E hr => ?_
  exact (ss_one (s_ret (e_and (e_bool (e_fn h_is_cell (hr.mono (by decide)) (lenA_cons lenA_nil) (a_cons (e_var (pv 1)) a_nil))) (e_and1 (x_cmp (q_in hr) (e_var (pv 1)) (e_var (pv 0)))))))
/-! ### is_lying -/
abbrev s_is_lying : Stmt := topS 19
abbrev N_is_lying : List Str := ["thing", "face"]
theorem sc_is_lying : FnScope N_is_lying ["thing"] (defScope s_is_lying) := ⟨rfl, rfl, rfl, by decide +kernel, rfl, by decide +kernel, by decide +kernel⟩
def m_is_lying : SS := (sSeq (sIf (bNot (bT (eThen (eOne (eVar 0)) (kE (oIsi .tuple))))) (sRet (eC (.bool false))) sPass)
  (sRet (eB (bAnd (bT (eThen (eCons (eLc (iSeq (eVar 0)) (gN 1) bYes (eCall f_is_whole (eCons (eVar 1) (eCons (eC v_OPPOSITE_SUM) eNil))) [1]) eNil) (kE oAll))) (bT (eIn (eVar 0) (eC v_LYINGS)))))))
def f_is_lying : FnD := runFn 2 m_is_lying
theorem p_is_lying {P : Program} {w : World} {K : PySem.W.Frag} {mg : Str → Option Value} {base : Heap} (at_ : At0 K mg "is_lying" s_is_lying ["thing"]) (h_is_whole : Has P w K mg base "is_whole" 2 f_is_whole 1) (z_isinstance : mg "isinstance" = none) (z_tuple : mg "tuple" = none) (z_all : mg "all" = none) (c_LYINGS : KC K mg "LYINGS" v_LYINGS) (c_OPPOSITE_SUM : KC K mg "OPPOSITE_SUM" v_OPPOSITE_SUM) : Has P w K mg base "is_lying" 1 f_is_lying 2 := by
  have nd := sc_is_lying.nd
  refine has_of (b := m_is_lying) (N := N_is_lying) (k := 1) at_ sc_is_lying rfl fun f cdv A outer s H E hr => ?_
  exact (ss_cons (s_if (b_not (b_truth (e_isi .tuple (e_var (pv 0)) (by rfl) z_isinstance (by rfl) z_tuple (by decide +kernel)))) (ss_one (s_ret k_bl)) ss_nil)
    (ss_one (s_ret (e_and (e_bool (x_blt (w_all rfl hr) z_all (a_cons (x_lc [("face", 1)] rfl nd rfl (i_seq (e_var (pv 0))) (blkOk_by (N := N_is_lying) (sc := defScope s_is_lying) (by decide +kernel)) (only_gN (by decide)) (fun _ _ _ _ _ => (v_name (i := 1) (by decide) nd rfl (.inl rfl))) (fun _ _ _ _ _ => ts_yes) (fun _ _ _ _ _ => (e_fn h_is_whole (hr.mono (by decide)) (lenA_cons (lenA_cons lenA_nil)) (a_cons (e_var (pv 1)) (a_cons (e_glob c_OPPOSITE_SUM) a_nil))))) a_nil))) (e_and1 (x_cmp (q_in hr) (e_var (pv 0)) (e_glob c_LYINGS)))))))
/-! ### is_stand -/
abbrev s_is_stand : Stmt := topS 20
abbrev N_is_stand : List Str := ["floor", "thing", "cell", "lying"]
theorem sc_is_stand : FnScope N_is_stand ["floor", "thing"] (defScope s_is_stand) := ⟨rfl, rfl, rfl, by decide +kernel, rfl, by decide +kernel, by decide +kernel⟩
def m_is_stand : SS := (sSeq (sIf (bOr (bNot (bT (eThen (eOne (eVar 1)) (kE (oIsi .tuple))))) (bT (eNe (eThen (eCons (eVar 1) eNil) (kE oLen)) (eC (.int 2))))) (sRet (eC (.bool false))) sPass)
  (sSeq (sAsg (eVar 1) (gT 2 (gCn (gN 2) (gCn (gN 3) gNl))))
  (sRet (eB (bAnd (bT (eCall f_is_cell_of (eCons (eVar 0) (eCons (eVar 2) eNil)))) (bT (eCall f_is_lying (eCons (eVar 3) eNil))))))))
def f_is_stand : FnD := runFn 4 m_is_stand
theorem p_is_stand {P : Program} {w : World} {K : PySem.W.Frag} {mg : Str → Option Value} {base : Heap} (at_ : At0 K mg "is_stand" s_is_stand ["floor", "thing"]) (h_is_lying : Has P w K mg base "is_lying" 1 f_is_lying 2) (h_is_cell_of : Has P w K mg base "is_cell_of" 2 f_is_cell_of 3) (z_len : mg "len" = none) (z_isinstance : mg "isinstance" = none) (z_tuple : mg "tuple" = none) : Has P w K mg base "is_stand" 2 f_is_stand 4 := by
  have nd := sc_is_stand.nd
  refine has_of (b := m_is_stand) (N := N_is_stand) (k := 3) at_ sc_is_stand rfl fun f cdv A outer s H E hr => ?_
  exact (ss_cons (s_if (PW.pt (b_or (b_not (b_truth (e_isi .tuple (e_var (pv 1)) (by rfl) z_isinstance (by rfl) z_tuple (by decide +kernel)))) (b_or1 (y_cmp (q_ne hr) (x_blt (w_len rfl hr) z_len (a_cons (e_var (pv 1)) a_nil)) k_int)))) (ss_one (s_ret k_bl)) ss_nil)
    (ss_cons (s_asg (e_var (pv 1)) (g_tup rfl (gs_cons (g_name (i := 2) nd rfl (.inl rfl)) (gs_cons (g_name (i := 3) nd rfl (.inl rfl)) gs_nil))))
    (ss_one (s_ret (e_and (e_bool (e_fn h_is_cell_of (hr.mono (by decide)) (lenA_cons (lenA_cons lenA_nil)) (a_cons (e_var (pv 0)) (a_cons (e_var (pv 2)) a_nil)))) (e_and1 (e_fn h_is_lying (hr.mono (by decide)) (lenA_cons lenA_nil) (a_cons (e_var (pv 3)) a_nil))))))))
/-! ### is_letter -/
abbrev s_is_letter : Stmt := topS 21
abbrev N_is_letter : List Str := ["thing"]
theorem sc_is_letter : FnScope N_is_letter ["thing"] (defScope s_is_letter) := ⟨rfl, rfl, rfl, by decide +kernel, rfl, by decide +kernel, by decide +kernel⟩
def m_is_letter : SS := (sRet (eB (bAnd (bT (eThen (eOne (eVar 0)) (kE (oIsi .str)))) (bT (eIn (eVar 0) (eC v_LETTERS))))))
def f_is_letter : FnD := runFn 1 m_is_letter
theorem p_is_letter {P : Program} {w : World} {K : PySem.W.Frag} {mg : Str → Option Value} {base : Heap} (at_ : At0 K mg "is_letter" s_is_letter ["thing"]) (z_isinstance : mg "isinstance" = none) (z_str : mg "str" = none) (c_LETTERS : KC K mg "LETTERS" v_LETTERS) : Has P w K mg base "is_letter" 1 f_is_letter 1 := by
  have nd := sc_is_letter.nd
  refine has_of (b := m_is_letter) (N := N_is_letter) (k := 0) at_ sc_is_letter rfl fun f cdv A outer s H E hr => ?_
  exact (ss_one (s_ret (e_and (e_bool (e_isi .str (e_var (pv 0)) (by rfl) z_isinstance (by rfl) z_str (by decide +kernel))) (e_and1 (x_cmp (q_in hr) (e_var (pv 0)) (e_glob c_LETTERS))))))
/-! ### is_row -/
abbrev s_is_row : Stmt := topS 22
abbrev N_is_row : List Str := ["thing", "sign"]
theorem sc_is_row : FnScope N_is_row ["thing"] (defScope s_is_row) := ⟨rfl, rfl, rfl, by decide +kernel, rfl, by decide +kernel, by decide +kernel⟩
def m_is_row : SS := (sRet (eB (bAnd (bT (eThen (eOne (eVar 0)) (kE (oIsi .str)))) (bT (eThen (eCons (eLc (iSeq (eVar 0)) (gN 1) bYes (eCall f_is_letter (eCons (eVar 1) eNil)) [1]) eNil) (kE oAll))))))
def f_is_row : FnD := runFn 2 m_is_row
theorem p_is_row {P : Program} {w : World} {K : PySem.W.Frag} {mg : Str → Option Value} {base : Heap} (at_ : At0 K mg "is_row" s_is_row ["thing"]) (h_is_letter : Has P w K mg base "is_letter" 1 f_is_letter 1) (z_all : mg "all" = none) (z_isinstance : mg "isinstance" = none) (z_str : mg "str" = none) : Has P w K mg base "is_row" 1 f_is_row 2 := by
  have nd := sc_is_row.nd
  refine has_of (b := m_is_row) (N := N_is_row) (k := 1) at_ sc_is_row rfl fun f cdv A outer s H E hr => ?_
  exact (ss_one (s_ret (e_and (e_bool (e_isi .str (e_var (pv 0)) (by rfl) z_isinstance (by rfl) z_str (by decide +kernel))) (e_and1 (x_blt (w_all rfl hr) z_all (a_cons (x_lc [("sign", 1)] rfl nd rfl (i_seq (e_var (pv 0))) (blkOk_by (N := N_is_row) (sc := defScope s_is_row) (by decide +kernel)) (only_gN (by decide)) (fun _ _ _ _ _ => (v_name (i := 1) (by decide) nd rfl (.inl rfl))) (fun _ _ _ _ _ => ts_yes) (fun _ _ _ _ _ => (e_fn h_is_letter (hr.mono (by decide)) (lenA_cons lenA_nil) (a_cons (e_var (pv 1)) a_nil)))) a_nil))))))
/-! ### need_floor -/
abbrev s_need_floor : Stmt := topS 23
abbrev N_need_floor : List Str := ["floor"]
theorem sc_need_floor : FnScope N_need_floor ["floor"] (defScope s_need_floor) := ⟨rfl, rfl, rfl, by decide +kernel, rfl, by decide +kernel, by decide +kernel⟩
def m_need_floor : SS := (sIf (bNot (bT (eCall f_is_floor (eCons (eVar 0) eNil)))) sNever sPass)
def f_need_floor : FnD := runFn 1 m_need_floor
theorem p_need_floor {P : Program} {w : World} {K : PySem.W.Frag} {mg : Str → Option Value} {base : Heap} (at_ : At0 K mg "need_floor" s_need_floor ["floor"]) (h_is_floor : Has P w K mg base "is_floor" 1 f_is_floor 3) : Has P w K mg base "need_floor" 1 f_need_floor 4 := by
  have nd := sc_need_floor.nd
  refine has_of (b := m_need_floor) (N := N_need_floor) (k := 3) at_ sc_need_floor rfl fun f cdv A outer s H E hr => ?_
  exact (ss_one (s_if (b_not (b_truth (e_fn h_is_floor (hr.mono (by decide)) (lenA_cons lenA_nil) (a_cons (e_var (pv 0)) a_nil)))) (ss_one s_never) ss_nil))
/-! ### need_stand -/
abbrev s_need_stand : Stmt := topS 24
abbrev N_need_stand : List Str := ["floor", "stand"]
theorem sc_need_stand : FnScope N_need_stand ["floor", "stand"] (defScope s_need_stand) := ⟨rfl, rfl, rfl, by decide +kernel, rfl, by decide +kernel, by decide +kernel⟩
def m_need_stand : SS := (sIf (bNot (bT (eCall f_is_stand (eCons (eVar 0) (eCons (eVar 1) eNil))))) sNever sPass)
def f_need_stand : FnD := runFn 2 m_need_stand
theorem p_need_stand {P : Program} {w : World} {K : PySem.W.Frag} {mg : Str → Option Value} {base : Heap} (at_ : At0 K mg "need_stand" s_need_stand ["floor", "stand"]) (h_is_stand : Has P w K mg base "is_stand" 2 f_is_stand 4) : Has P w K mg base "need_stand" 2 f_need_stand 5 := by
  have nd := sc_need_stand.nd
  refine has_of (b := m_need_stand) (N := N_need_stand) (k := 4) at_ sc_need_stand rfl fun f cdv A outer s H E hr => ?_
  exact (ss_one (s_if (b_not (b_truth (e_fn h_is_stand (hr.mono (by decide)) (lenA_cons (lenA_cons lenA_nil)) (a_cons (e_var (pv 0)) (a_cons (e_var (pv 1)) a_nil))))) (ss_one s_never) ss_nil))
/-! ### need_row -/
abbrev s_need_row : Stmt := topS 25
abbrev N_need_row : List Str := ["row"]
theorem sc_need_row : FnScope N_need_row ["row"] (defScope s_need_row) := ⟨rfl, rfl, rfl, by decide +kernel, rfl, by decide +kernel, by decide +kernel⟩
def m_need_row : SS := (sIf (bNot (bT (eCall f_is_row (eCons (eVar 0) eNil)))) sNever sPass)
def f_need_row : FnD := runFn 1 m_need_row
theorem p_need_row {P : Program} {w : World} {K : PySem.W.Frag} {mg : Str → Option Value} {base : Heap} (at_ : At0 K mg "need_row" s_need_row ["row"]) (h_is_row : Has P w K mg base "is_row" 1 f_is_row 2) : Has P w K mg base "need_row" 1 f_need_row 3 := by
  have nd := sc_need_row.nd
  refine has_of (b := m_need_row) (N := N_need_row) (k := 2) at_ sc_need_row rfl fun f cdv A outer s H E hr => ?_
  exact (ss_one (s_if (b_not (b_truth (e_fn h_is_row (hr.mono (by decide)) (lenA_cons lenA_nil) (a_cons (e_var (pv 0)) a_nil)))) (ss_one s_never) ss_nil))
/-! ### rolled_cell -/
abbrev s_rolled_cell : Stmt := topS 27
abbrev N_rolled_cell : List Str := ["cell", "letter", "column", "line", "eastward", "northward"]
theorem sc_rolled_cell : FnScope N_rolled_cell ["cell", "letter"] (defScope s_rolled_cell) := ⟨rfl, rfl, rfl, by decide +kernel, rfl, by decide +kernel, by decide +kernel⟩
def m_rolled_cell : SS := (sSeq (sAsg (eVar 0) (gT 2 (gCn (gN 2) (gCn (gN 3) gNl))))
  (sSeq (sAsg (eKd v_STEPS (eVar 1)) (gT 2 (gCn (gN 4) (gCn (gN 5) gNl))))
  (sRet (eThen (eCons (eAdd (eVar 2) (eVar 4)) (eCons (eAdd (eVar 3) (eVar 5)) eNil)) kTup))))
def f_rolled_cell : FnD := runFn 6 m_rolled_cell
theorem p_rolled_cell {P : Program} {w : World} {K : PySem.W.Frag} {mg : Str → Option Value} {base : Heap} (at_ : At0 K mg "rolled_cell" s_rolled_cell ["cell", "letter"]) (d_STEPS : KD K w mg "STEPS" v_STEPS) : Has P w K mg base "rolled_cell" 2 f_rolled_cell 1 := by
  have nd := sc_rolled_cell.nd
  refine has_of (b := m_rolled_cell) (N := N_rolled_cell) (k := 0) at_ sc_rolled_cell rfl fun f cdv A outer s H E hr => ?_
  exact (ss_cons (s_asg (e_var (pv 0)) (g_tup rfl (gs_cons (g_name (i := 2) nd rfl (.inl rfl)) (gs_cons (g_name (i := 3) nd rfl (.inl rfl)) gs_nil))))
    (ss_cons (s_asg (e_kdn d_STEPS (e_var (pv 1))) (g_tup rfl (gs_cons (g_name (i := 4) nd rfl (.inl rfl)) (gs_cons (g_name (i := 5) nd rfl (.inl rfl)) gs_nil))))
    (ss_one (s_ret (e_tup (a_cons (x_add (e_var (pv 2)) (e_var (pv 4))) (a_cons (x_add (e_var (pv 3)) (e_var (pv 5))) a_nil)))))))
/-! ### rolled_lying -/
abbrev s_rolled_lying : Stmt := topS 28
abbrev N_rolled_lying : List Str := ["lying", "letter", "low", "north", "east"]
theorem sc_rolled_lying : FnScope N_rolled_lying ["lying", "letter"] (defScope s_rolled_lying) := ⟨rfl, rfl, rfl, by decide +kernel, rfl, by decide +kernel, by decide +kernel⟩
def m_rolled_lying : SS := (sSeq (sAsg (eVar 0) (gT 3 (gCn (gN 2) (gCn (gN 3) (gCn (gN 4) gNl)))))
  (sSeq (sIf (bT (eEq (eVar 1) (eC (.str "n")))) (sRet (eThen (eCons (eVar 3) (eCons (eSub (eC v_OPPOSITE_SUM) (eVar 2)) (eCons (eVar 4) eNil))) kTup)) sPass)
  (sSeq (sIf (bT (eEq (eVar 1) (eC (.str "s")))) (sRet (eThen (eCons (eSub (eC v_OPPOSITE_SUM) (eVar 3)) (eCons (eVar 2) (eCons (eVar 4) eNil))) kTup)) sPass)
  (sSeq (sIf (bT (eEq (eVar 1) (eC (.str "e")))) (sRet (eThen (eCons (eVar 4) (eCons (eVar 3) (eCons (eSub (eC v_OPPOSITE_SUM) (eVar 2)) eNil))) kTup)) sPass)
  (sRet (eThen (eCons (eSub (eC v_OPPOSITE_SUM) (eVar 4)) (eCons (eVar 3) (eCons (eVar 2) eNil))) kTup))))))
def f_rolled_lying : FnD := runFn 5 m_rolled_lying
theorem p_rolled_lying {P : Program} {w : World} {K : PySem.W.Frag} {mg : Str → Option Value} {base : Heap} (at_ : At0 K mg "rolled_lying" s_rolled_lying ["lying", "letter"]) (c_OPPOSITE_SUM : KC K mg "OPPOSITE_SUM" v_OPPOSITE_SUM) : Has P w K mg base "rolled_lying" 2 f_rolled_lying 1 := by
  have nd := sc_rolled_lying.nd
  refine has_of (b := m_rolled_lying) (N := N_rolled_lying) (k := 0) at_ sc_rolled_lying rfl fun f cdv A outer s H E hr => ?_
  exact (ss_cons (s_asg (e_var (pv 0)) (g_tup rfl (gs_cons (g_name (i := 2) nd rfl (.inl rfl)) (gs_cons (g_name (i := 3) nd rfl (.inl rfl)) (gs_cons (g_name (i := 4) nd rfl (.inl rfl)) gs_nil)))))
    (ss_cons (s_if (y_cmp (q_eq hr) (e_var (pv 1)) k_str) (ss_one (s_ret (e_tup (a_cons (e_var (pv 3)) (a_cons (x_sub (e_glob c_OPPOSITE_SUM) (e_var (pv 2))) (a_cons (e_var (pv 4)) a_nil)))))) ss_nil)
    (ss_cons (s_if (y_cmp (q_eq hr) (e_var (pv 1)) k_str) (ss_one (s_ret (e_tup (a_cons (x_sub (e_glob c_OPPOSITE_SUM) (e_var (pv 3))) (a_cons (e_var (pv 2)) (a_cons (e_var (pv 4)) a_nil)))))) ss_nil)
    (ss_cons (s_if (y_cmp (q_eq hr) (e_var (pv 1)) k_str) (ss_one (s_ret (e_tup (a_cons (e_var (pv 4)) (a_cons (e_var (pv 3)) (a_cons (x_sub (e_glob c_OPPOSITE_SUM) (e_var (pv 2))) a_nil)))))) ss_nil)
    (ss_one (s_ret (e_tup (a_cons (x_sub (e_glob c_OPPOSITE_SUM) (e_var (pv 4))) (a_cons (e_var (pv 3)) (a_cons (e_var (pv 2)) a_nil))))))))))
/-! ### rolled_stand -/
abbrev s_rolled_stand : Stmt := topS 29
abbrev N_rolled_stand : List Str := ["stand", "letter", "cell", "lying"]
theorem sc_rolled_stand : FnScope N_rolled_stand ["stand", "letter"] (defScope s_rolled_stand) := ⟨rfl, rfl, rfl, by decide +kernel, rfl, by decide +kernel, by decide +kernel⟩
def m_rolled_stand : SS := (sSeq (sAsg (eVar 0) (gT 2 (gCn (gN 2) (gCn (gN 3) gNl))))
  (sRet (eThen (eCons (eCall f_rolled_cell (eCons (eVar 2) (eCons (eVar 1) eNil))) (eCons (eCall f_rolled_lying (eCons (eVar 3) (eCons (eVar 1) eNil))) eNil)) kTup)))
def f_rolled_stand : FnD := runFn 4 m_rolled_stand
theorem p_rolled_stand {P : Program} {w : World} {K : PySem.W.Frag} {mg : Str → Option Value} {base : Heap} (at_ : At0 K mg "rolled_stand" s_rolled_stand ["stand", "letter"]) (h_rolled_lying : Has P w K mg base "rolled_lying" 2 f_rolled_lying 1) (h_rolled_cell : Has P w K mg base "rolled_cell" 2 f_rolled_cell 1) : Has P w K mg base "rolled_stand" 2 f_rolled_stand 2 := by
  have nd := sc_rolled_stand.nd
  refine has_of (b := m_rolled_stand) (N := N_rolled_stand) (k := 1) at_ sc_rolled_stand rfl fun f cdv A outer s H E hr => ?_
  exact (ss_cons (s_asg (e_var (pv 0)) (g_tup rfl (gs_cons (g_name (i := 2) nd rfl (.inl rfl)) (gs_cons (g_name (i := 3) nd rfl (.inl rfl)) gs_nil))))
    (ss_one (s_ret (e_tup (a_cons (e_fn h_rolled_cell (hr.mono (by decide)) (lenA_cons (lenA_cons lenA_nil)) (a_cons (e_var (pv 2)) (a_cons (e_var (pv 1)) a_nil))) (a_cons (e_fn h_rolled_lying (hr.mono (by decide)) (lenA_cons (lenA_cons lenA_nil)) (a_cons (e_var (pv 3)) (a_cons (e_var (pv 1)) a_nil))) a_nil))))))
/-! ### place_off -/
abbrev s_place_off : Stmt := topS 30
abbrev N_place_off : List Str := ["floor", "cell", "row", "here", "place", "letter"]
theorem sc_place_off : FnScope N_place_off ["floor", "cell", "row"] (defScope s_place_off) := ⟨rfl, rfl, rfl, by decide +kernel, rfl, by decide +kernel, by decide +kernel⟩
def m_place_off : SS := (sSeq (sSet 3 (eVar 1))
  (sSeq (sFor (iEn (eVar 2)) (gT 2 (gCn (gN 4) (gCn (gN 5) gNl))) (sSeq (sSet 3 (eCall f_rolled_cell (eCons (eVar 3) (eCons (eVar 5) eNil))))
  (sIf (bT (eNin (eVar 3) (eVar 0))) (sRet (eVar 4)) sPass)))
  (sRet (eC .none))))
def f_place_off : FnD := runFn 6 m_place_off
theorem p_place_off {P : Program} {w : World} {K : PySem.W.Frag} {mg : Str → Option Value} {base : Heap} (at_ : At0 K mg "place_off" s_place_off ["floor", "cell", "row"]) (h_rolled_cell : Has P w K mg base "rolled_cell" 2 f_rolled_cell 1) (z_enumerate : mg "enumerate" = none) : Has P w K mg base "place_off" 3 f_place_off 2 := by
  have nd := sc_place_off.nd
  refine has_of (b := m_place_off) (N := N_place_off) (k := 1) at_ sc_place_off rfl fun f cdv A outer s H E hr => ?_
  exact (ss_cons (s_set (i := 3) nd rfl (.inl rfl) (e_var (pv 1)))
    (ss_cons (s_for PassesOwn.never rfl (i_en (by rfl) z_enumerate (e_var (pv 2))) (g_tup rfl (gs_cons (g_name (i := 4) nd rfl (.inl rfl)) (gs_cons (g_name (i := 5) nd rfl (.inl rfl)) gs_nil))) (ss_cons (s_set (i := 3) nd rfl (.inl rfl) (e_fn h_rolled_cell (hr.mono (by decide)) (lenA_cons (lenA_cons lenA_nil)) (a_cons (e_var (pv 3)) (a_cons (e_var (pv 5)) a_nil))))
    (ss_one (s_if (y_cmp (q_nin hr) (e_var (pv 3)) (e_var (pv 0))) (ss_one (s_ret (e_var (pv 4)))) ss_nil))))
    (ss_one (s_ret k_non))))
/-! ### spots_of -/
abbrev s_spots_of : Stmt := topS 34
abbrev N_spots_of : List Str := ["floor"]
theorem sc_spots_of : FnScope N_spots_of ["floor"] (defScope s_spots_of) := ⟨rfl, rfl, rfl, by decide +kernel, rfl, by decide +kernel, by decide +kernel⟩
def m_spots_of : SS := (sRet (eTrg (eCons (eAdd (eC v_FACES) (eThen (eCons (eVar 0) eNil) (kE oLen))) eNil)))
def f_spots_of : FnD := runFn 1 m_spots_of
theorem p_spots_of {P : Program} {w : World} {K : PySem.W.Frag} {mg : Str → Option Value} {base : Heap} (at_ : At0 K mg "spots_of" s_spots_of ["floor"]) (z_tuple : mg "tuple" = none) (z_range : mg "range" = none) (z_len : mg "len" = none) (c_FACES : KC K mg "FACES" v_FACES) : Has P w K mg base "spots_of" 1 f_spots_of 1 := by
  have nd := sc_spots_of.nd
  refine has_of (b := m_spots_of) (N := N_spots_of) (k := 0) at_ sc_spots_of rfl fun f cdv A outer s H E hr => ?_
  exact (ss_one (s_ret (x_trg1 z_tuple z_range (x_add (e_glob c_FACES) (x_blt (w_len rfl hr) z_len (a_cons (e_var (pv 0)) a_nil))))))
/-! ### spot_of_cell -/
abbrev s_spot_of_cell : Stmt := topS 35
abbrev N_spot_of_cell : List Str := ["floor", "cell"]
theorem sc_spot_of_cell : FnScope N_spot_of_cell ["floor", "cell"] (defScope s_spot_of_cell) := ⟨rfl, rfl, rfl, by decide +kernel, rfl, by decide +kernel, by decide +kernel⟩
def m_spot_of_cell : SS := (sRet (eAdd (eC v_FACES) (eBM isNt (eVar 0) (eCons (eVar 1) eNil) kIxT)))
def f_spot_of_cell : FnD := runFn 2 m_spot_of_cell
theorem p_spot_of_cell {P : Program} {w : World} {K : PySem.W.Frag} {mg : Str → Option Value} {base : Heap} (at_ : At0 K mg "spot_of_cell" s_spot_of_cell ["floor", "cell"]) (c_FACES : KC K mg "FACES" v_FACES) : Has P w K mg base "spot_of_cell" 2 f_spot_of_cell 1 := by
  have nd := sc_spot_of_cell.nd
  refine has_of (b := m_spot_of_cell) (N := N_spot_of_cell) (k := 0) at_ sc_spot_of_cell rfl fun f cdv A outer s H E hr => ?_
  exact (ss_one (s_ret (x_add (e_glob c_FACES) (e_tix (u65 hr) (e_var (pv 0)) (a_cons (e_var (pv 1)) a_nil)))))
/-! ### is_marks -/
abbrev s_is_marks : Stmt := topS 36
abbrev N_is_marks : List Str := ["floor", "thing", "mark"]
theorem sc_is_marks : FnScope N_is_marks ["floor", "thing"] (defScope s_is_marks) := ⟨rfl, rfl, rfl, by decide +kernel, rfl, by decide +kernel, by decide +kernel⟩
def m_is_marks : SS := (sSeq (sIf (bOr (bNot (bT (eThen (eOne (eVar 1)) (kE (oIsi .tuple))))) (bT (eNe (eThen (eCons (eVar 1) eNil) (kE oLen)) (eThen (eCons (eCall f_spots_of (eCons (eVar 0) eNil)) eNil) (kE oLen))))) (sRet (eC (.bool false))) sPass)
  (sRet (eThen (eCons (eLc (iSeq (eVar 1)) (gN 2) bYes (eCall f_is_whole (eCons (eVar 2) (eCons (eC v_MOST_MARK) eNil))) [2]) eNil) (kE oAll))))
def f_is_marks : FnD := runFn 3 m_is_marks
theorem p_is_marks {P : Program} {w : World} {K : PySem.W.Frag} {mg : Str → Option Value} {base : Heap} (at_ : At0 K mg "is_marks" s_is_marks ["floor", "thing"]) (h_spots_of : Has P w K mg base "spots_of" 1 f_spots_of 1) (h_is_whole : Has P w K mg base "is_whole" 2 f_is_whole 1) (z_len : mg "len" = none) (z_isinstance : mg "isinstance" = none) (z_tuple : mg "tuple" = none) (z_all : mg "all" = none) (c_MOST_MARK : KC K mg "MOST_MARK" v_MOST_MARK) : Has P w K mg base "is_marks" 2 f_is_marks 2 := by
  have nd := sc_is_marks.nd
  refine has_of (b := m_is_marks) (N := N_is_marks) (k := 1) at_ sc_is_marks rfl fun f cdv A outer s H E hr => ?_
  exact (ss_cons (s_if (PW.pt (b_or (b_not (b_truth (e_isi .tuple (e_var (pv 1)) (by rfl) z_isinstance (by rfl) z_tuple (by decide +kernel)))) (b_or1 (y_cmp (q_ne hr) (x_blt (w_len rfl hr) z_len (a_cons (e_var (pv 1)) a_nil)) (x_blt (w_len rfl hr) z_len (a_cons (e_fn h_spots_of (hr.mono (by decide)) (lenA_cons lenA_nil) (a_cons (e_var (pv 0)) a_nil)) a_nil)))))) (ss_one (s_ret k_bl)) ss_nil)
    (ss_one (s_ret (x_blt (w_all rfl hr) z_all (a_cons (x_lc [("mark", 2)] rfl nd rfl (i_seq (e_var (pv 1))) (blkOk_by (N := N_is_marks) (sc := defScope s_is_marks) (by decide +kernel)) (only_gN (by decide)) (fun _ _ _ _ _ => (v_name (i := 2) (by decide) nd rfl (.inl rfl))) (fun _ _ _ _ _ => ts_yes) (fun _ _ _ _ _ => (e_fn h_is_whole (hr.mono (by decide)) (lenA_cons (lenA_cons lenA_nil)) (a_cons (e_var (pv 2)) (a_cons (e_glob c_MOST_MARK) a_nil))))) a_nil)))))
/-! ### need_marks -/
abbrev s_need_marks : Stmt := topS 37
abbrev N_need_marks : List Str := ["floor", "marks"]
theorem sc_need_marks : FnScope N_need_marks ["floor", "marks"] (defScope s_need_marks) := ⟨rfl, rfl, rfl, by decide +kernel, rfl, by decide +kernel, by decide +kernel⟩
def m_need_marks : SS := (sIf (bNot (bT (eCall f_is_marks (eCons (eVar 0) (eCons (eVar 1) eNil))))) sNever sPass)
def f_need_marks : FnD := runFn 2 m_need_marks
theorem p_need_marks {P : Program} {w : World} {K : PySem.W.Frag} {mg : Str → Option Value} {base : Heap} (at_ : At0 K mg "need_marks" s_need_marks ["floor", "marks"]) (h_is_marks : Has P w K mg base "is_marks" 2 f_is_marks 2) : Has P w K mg base "need_marks" 2 f_need_marks 3 := by
  have nd := sc_need_marks.nd
  refine has_of (b := m_need_marks) (N := N_need_marks) (k := 2) at_ sc_need_marks rfl fun f cdv A outer s H E hr => ?_
  exact (ss_one (s_if (b_not (b_truth (e_fn h_is_marks (hr.mono (by decide)) (lenA_cons (lenA_cons lenA_nil)) (a_cons (e_var (pv 0)) (a_cons (e_var (pv 1)) a_nil))))) (ss_one s_never) ss_nil))
/-! ### trade_at -/
abbrev s_trade_at : Stmt := topS 38
abbrev N_trade_at : List Str := ["floor", "stand", "cell", "lying"]
theorem sc_trade_at : FnScope N_trade_at ["floor", "stand"] (defScope s_trade_at) := ⟨rfl, rfl, rfl, by decide +kernel, rfl, by decide +kernel, by decide +kernel⟩
def m_trade_at : SS := (sSeq (sAsg (eVar 1) (gT 2 (gCn (gN 2) (gCn (gN 3) gNl))))
  (sRet (eThen (eCons (eIx (eVar 3) (eC (.int 0))) (eCons (eCall f_spot_of_cell (eCons (eVar 0) (eCons (eVar 2) eNil))) eNil)) kTup)))
def f_trade_at : FnD := runFn 4 m_trade_at
theorem p_trade_at {P : Program} {w : World} {K : PySem.W.Frag} {mg : Str → Option Value} {base : Heap} (at_ : At0 K mg "trade_at" s_trade_at ["floor", "stand"]) (h_spot_of_cell : Has P w K mg base "spot_of_cell" 2 f_spot_of_cell 1) : Has P w K mg base "trade_at" 2 f_trade_at 2 := by
  have nd := sc_trade_at.nd
  refine has_of (b := m_trade_at) (N := N_trade_at) (k := 1) at_ sc_trade_at rfl fun f cdv A outer s H E hr => ?_
  exact (ss_cons (s_asg (e_var (pv 1)) (g_tup rfl (gs_cons (g_name (i := 2) nd rfl (.inl rfl)) (gs_cons (g_name (i := 3) nd rfl (.inl rfl)) gs_nil))))
    (ss_one (s_ret (e_tup (a_cons (x_ix (e_var (pv 3)) k_int) (a_cons (e_fn h_spot_of_cell (hr.mono (by decide)) (lenA_cons (lenA_cons lenA_nil)) (a_cons (e_var (pv 0)) (a_cons (e_var (pv 2)) a_nil))) a_nil))))))
/-! ### trades -/
abbrev s_trades : Stmt := topS 39
abbrev N_trades : List Str := ["floor", "stand", "row", "traded", "here", "letter"]
theorem sc_trades : FnScope N_trades ["floor", "stand", "row"] (defScope s_trades) := ⟨rfl, rfl, rfl, by decide +kernel, rfl, by decide +kernel, by decide +kernel⟩
def m_trades : SS := (sSeq (sSet 3 (eThen eNil kLst))
  (sSeq (sSet 4 (eVar 1))
  (sSeq (sFor (iSeq (eVar 2)) (gN 5) (sSeq (sSet 4 (eCall f_rolled_stand (eCons (eVar 4) (eCons (eVar 5) eNil))))
  (sExpr (eBM isL (eVar 3) (eCons (eCall f_trade_at (eCons (eVar 0) (eCons (eVar 4) eNil))) eNil) kAppend))))
  (sRet (eVar 3)))))
def f_trades : FnD := runFn 6 m_trades
theorem p_trades {P : Program} {w : World} {K : PySem.W.Frag} {mg : Str → Option Value} {base : Heap} (at_ : At0 K mg "trades" s_trades ["floor", "stand", "row"]) (h_rolled_stand : Has P w K mg base "rolled_stand" 2 f_rolled_stand 2) (h_trade_at : Has P w K mg base "trade_at" 2 f_trade_at 2) : Has P w K mg base "trades" 3 f_trades 3 := by
  have nd := sc_trades.nd
  refine has_of (b := m_trades) (N := N_trades) (k := 2) at_ sc_trades rfl fun f cdv A outer s H E hr => ?_
  exact (ss_cons (s_set (i := 3) nd rfl (.inl rfl) (e_lst a_nil))
    (ss_cons (s_set (i := 4) nd rfl (.inl rfl) (e_var (pv 1)))
    (ss_cons (s_for PassesOwn.never rfl (i_seq (e_var (pv 2))) (g_name (i := 5) nd rfl (.inl rfl)) (ss_cons (s_set (i := 4) nd rfl (.inl rfl) (e_fn h_rolled_stand (hr.mono (by decide)) (lenA_cons (lenA_cons lenA_nil)) (a_cons (e_var (pv 4)) (a_cons (e_var (pv 5)) a_nil))))
    (ss_one (s_expr (m_append (e_var (pv 3)) (a_cons (e_fn h_trade_at (hr.mono (by decide)) (lenA_cons (lenA_cons lenA_nil)) (a_cons (e_var (pv 0)) (a_cons (e_var (pv 4)) a_nil))) a_nil))))))
    (ss_one (s_ret (e_var (pv 3)))))))
/-! ### held_traded -/
abbrev s_held_traded : Stmt := topS 40
abbrev N_held_traded : List Str := ["traded", "held", "now", "one", "other"]
theorem sc_held_traded : FnScope N_held_traded ["traded", "held"] (defScope s_held_traded) := ⟨rfl, rfl, rfl, by decide +kernel, rfl, by decide +kernel, by decide +kernel⟩
def m_held_traded : SS := (sSeq (sSet 2 (eThen (eCons (eVar 1) eNil) (kL oList)))
  (sSeq (sFor (iSeq (eVar 0)) (gT 2 (gCn (gN 3) (gCn (gN 4) gNl))) (sAsg (eThen (eCons (eIx (eVar 2) (eVar 4)) (eCons (eIx (eVar 2) (eVar 3)) eNil)) kTup) (gT 2 (gCn (gS (eVar 2) (eVar 3)) (gCn (gS (eVar 2) (eVar 4)) gNl)))))
  (sRet (eThen (eCons (eVar 2) eNil) kTupN))))
def f_held_traded : FnD := runFn 5 m_held_traded
theorem p_held_traded {P : Program} {w : World} {K : PySem.W.Frag} {mg : Str → Option Value} {base : Heap} (at_ : At0 K mg "held_traded" s_held_traded ["traded", "held"]) (z_list : mg "list" = none) (z_tuple : mg "tuple" = none) : Has P w K mg base "held_traded" 2 f_held_traded 1 := by
  have nd := sc_held_traded.nd
  refine has_of (b := m_held_traded) (N := N_held_traded) (k := 0) at_ sc_held_traded rfl fun f cdv A outer s H E hr => ?_
  exact (ss_cons (s_set (i := 2) nd rfl (.inl rfl) (x_bty (w_list rfl hr) z_list (a_cons (e_var (pv 1)) a_nil)))
    (ss_cons (s_for PassesOwn.never rfl (i_seq (e_var (pv 0))) (g_tup rfl (gs_cons (g_name (i := 3) nd rfl (.inl rfl)) (gs_cons (g_name (i := 4) nd rfl (.inl rfl)) gs_nil))) (ss_one (s_asg (e_tup (a_cons (x_ix (e_var (pv 2)) (e_var (pv 4))) (a_cons (x_ix (e_var (pv 2)) (e_var (pv 3))) a_nil))) (g_tup rfl (gs_cons (g_sub (e_var (pv 2)) (e_var (pv 3))) (gs_cons (g_sub (e_var (pv 2)) (e_var (pv 4))) gs_nil))))))
    (ss_one (s_ret (x_bty (w_tuple rfl hr) z_tuple (a_cons (e_var (pv 2)) a_nil))))))
/-! ### held_behind -/
abbrev s_held_behind : Stmt := topS 41
abbrev N_held_behind : List Str := ["floor", "stand", "row", "held"]
theorem sc_held_behind : FnScope N_held_behind ["floor", "stand", "row", "held"] (defScope s_held_behind) := ⟨rfl, rfl, rfl, by decide +kernel, rfl, by decide +kernel, by decide +kernel⟩
def m_held_behind : SS := (sRet (eCall f_held_traded (eCons (eCall f_trades (eCons (eVar 0) (eCons (eVar 1) (eCons (eVar 2) eNil)))) (eCons (eVar 3) eNil))))
def f_held_behind : FnD := runFn 4 m_held_behind
theorem p_held_behind {P : Program} {w : World} {K : PySem.W.Frag} {mg : Str → Option Value} {base : Heap} (at_ : At0 K mg "held_behind" s_held_behind ["floor", "stand", "row", "held"]) (h_held_traded : Has P w K mg base "held_traded" 2 f_held_traded 1) (h_trades : Has P w K mg base "trades" 3 f_trades 3) : Has P w K mg base "held_behind" 4 f_held_behind 4 := by
  have nd := sc_held_behind.nd
  refine has_of (b := m_held_behind) (N := N_held_behind) (k := 3) at_ sc_held_behind rfl fun f cdv A outer s H E hr => ?_
  exact (ss_one (s_ret (e_fn h_held_traded (hr.mono (by decide)) (lenA_cons (lenA_cons lenA_nil)) (a_cons (e_fn h_trades (hr.mono (by decide)) (lenA_cons (lenA_cons (lenA_cons lenA_nil))) (a_cons (e_var (pv 0)) (a_cons (e_var (pv 1)) (a_cons (e_var (pv 2)) a_nil)))) (a_cons (e_var (pv 3)) a_nil)))))
/-! ### exchange_by -/
abbrev s_exchange_by : Stmt := topS 42
abbrev N_exchange_by : List Str := ["traded", "spots", "origins", "spot"]
theorem sc_exchange_by : FnScope N_exchange_by ["traded", "spots"] (defScope s_exchange_by) := ⟨rfl, rfl, rfl, by decide +kernel, rfl, by decide +kernel, by decide +kernel⟩
def m_exchange_by : SS := (sSeq (sSet 2 (eCall f_held_traded (eCons (eVar 0) (eCons (eVar 1) eNil))))
  (sRet (eThen (eCons (eLc (iSeq (eVar 1)) (gN 3) bYes (eBM isNt (eVar 2) (eCons (eVar 3) eNil) kIxT) [3]) eNil) kTupN)))
def f_exchange_by : FnD := runFn 4 m_exchange_by
theorem p_exchange_by {P : Program} {w : World} {K : PySem.W.Frag} {mg : Str → Option Value} {base : Heap} (at_ : At0 K mg "exchange_by" s_exchange_by ["traded", "spots"]) (h_held_traded : Has P w K mg base "held_traded" 2 f_held_traded 1) (z_tuple : mg "tuple" = none) : Has P w K mg base "exchange_by" 2 f_exchange_by 2 := by
  have nd := sc_exchange_by.nd
  refine has_of (b := m_exchange_by) (N := N_exchange_by) (k := 1) at_ sc_exchange_by rfl fun f cdv A outer s H E hr => ?_
  exact (ss_cons (s_set (i := 2) nd rfl (.inr rfl) (e_fn h_held_traded (hr.mono (by decide)) (lenA_cons (lenA_cons lenA_nil)) (a_cons (e_var (pv 0)) (a_cons (e_var (pv 1)) a_nil))))
    (ss_one (s_ret (x_bty (w_tuple rfl hr) z_tuple (a_cons (x_lc [("spot", 3)] rfl nd rfl (i_seq (e_var (pv 1))) (blkOk_by (N := N_exchange_by) (sc := defScope s_exchange_by) (by decide +kernel)) (only_gN (by decide)) (fun _ _ _ _ _ => (v_name (i := 3) (by decide) nd rfl (.inl rfl))) (fun _ _ _ _ _ => ts_yes) (fun _ _ _ _ _ => (e_tix (u65 hr) (e_var (pv 2)) (a_cons (e_var (pv 3)) a_nil)))) a_nil)))))
/-! ### _law_cell_at -/
abbrev s__law_cell_at : Stmt := topS 46
abbrev N__law_cell_at : List Str := ["_law_script", "_law_k"]
theorem sc__law_cell_at : FnScope N__law_cell_at ["_law_script", "_law_k"] (defScope s__law_cell_at) := ⟨rfl, rfl, rfl, by decide +kernel, rfl, by decide +kernel, by decide +kernel⟩
def m__law_cell_at : SS := (sSeq (sIf (bT (eLt (eVar 1) (eThen (eCons (eVar 0) eNil) (kE oLen)))) (sRet (eIx (eVar 0) (eVar 1))) sPass)
  (sRet (eC (.int 0))))
def f__law_cell_at : FnD := runFn 2 m__law_cell_at
theorem p__law_cell_at {P : Program} {w : World} {K : PySem.W.Frag} {mg : Str → Option Value} {base : Heap} (at_ : At0 K mg "_law_cell_at" s__law_cell_at ["_law_script", "_law_k"]) (z_len : mg "len" = none) : Has P w K mg base "_law_cell_at" 2 f__law_cell_at 1 := by
  have nd := sc__law_cell_at.nd
  refine has_of (b := m__law_cell_at) (N := N__law_cell_at) (k := 0) at_ sc__law_cell_at rfl fun f cdv A outer s H E hr => ?_
  exact (ss_cons (s_if (y_cmp (q_lt hr) (e_var (pv 1)) (x_blt (w_len rfl hr) z_len (a_cons (e_var (pv 0)) a_nil))) (ss_one (s_ret (x_ix (e_var (pv 0)) (e_var (pv 1))))) ss_nil)
    (ss_one (s_ret k_int)))
/-! ### _law_pen -/
abbrev s__law_pen : Stmt := topS 47
abbrev N__law_pen : List Str := ["_law_cell"]
theorem sc__law_pen : FnScope N__law_pen ["_law_cell"] (defScope s__law_pen) := ⟨rfl, rfl, rfl, by decide +kernel, rfl, by decide +kernel, by decide +kernel⟩
def m__law_pen : SS := (sRet (eThen (eCons (eThen (eCons (eC (.int 0)) (eCons (eSub (eVar 0) (ePow (eC (.int 10)) (eC (.int 18)))) eNil)) (kE oMax)) (eCons (eAdd (eMod (eVar 0) (eC (.int 2147483629))) (eC (.int 1))) (eCons (eC (.int 0)) eNil))) kLst))
def f__law_pen : FnD := runFn 1 m__law_pen
theorem p__law_pen {P : Program} {w : World} {K : PySem.W.Frag} {mg : Str → Option Value} {base : Heap} (at_ : At0 K mg "_law_pen" s__law_pen ["_law_cell"]) (z_max : mg "max" = none) : Has P w K mg base "_law_pen" 1 f__law_pen 1 := by
  have nd := sc__law_pen.nd
  refine has_of (b := m__law_pen) (N := N__law_pen) (k := 0) at_ sc__law_pen rfl fun f cdv A outer s H E hr => ?_
  exact (ss_one (s_ret (e_lst (a_cons (x_blt (w_max rfl hr) z_max (a_cons k_int (a_cons (x_sub (e_var (pv 0)) (x_pow k_int k_int)) a_nil))) (a_cons (x_add (x_mod (e_var (pv 0)) k_int) k_int) (a_cons k_int a_nil))))))
/-! ### _law_draw -/
abbrev s__law_draw : Stmt := topS 48
abbrev N__law_draw : List Str := ["_law_pen_here", "_law_many", "_law_found", "_law_stirred"]
theorem sc__law_draw : FnScope N__law_draw ["_law_pen_here", "_law_many"] (defScope s__law_draw) := ⟨rfl, rfl, rfl, by decide +kernel, rfl, by decide +kernel, by decide +kernel⟩
def m__law_draw : SS := (sSeq (sIf (bT (eGt (eIx (eVar 0) (eC (.int 0))) (eC (.int 0)))) (sSeq (sSet 2 (eMod (eIx (eVar 0) (eC (.int 0))) (eVar 1)))
  (sSeq (sAsg (eFdiv (eIx (eVar 0) (eC (.int 0))) (eVar 1)) (gS (eVar 0) (eC (.int 0))))
  (sRet (eVar 2)))) sPass)
  (sSeq (sAsg (eAdd (eIx (eVar 0) (eC (.int 2))) (eC (.int 1))) (gS (eVar 0) (eC (.int 2))))
  (sSeq (sAsg (eMod (eAdd (eAdd (eMul (eIx (eVar 0) (eC (.int 1))) (eC (.int 48271))) (eMul (eC (.int 1013)) (eIx (eVar 0) (eC (.int 2))))) (eC (.int 11))) (eC (.int 2147483647))) (gS (eVar 0) (eC (.int 1))))
  (sSeq (sSet 3 (eMod (eAdd (eAdd (eMul (eIx (eVar 0) (eC (.int 1))) (eIx (eVar 0) (eC (.int 1)))) (eMul (eC (.int 40692)) (eIx (eVar 0) (eC (.int 1))))) (eC (.int 7))) (eC (.int 2147483629))))
  (sRet (eMod (eFdiv (eMod (eMul (eVar 3) (eC (.int 69621))) (eC (.int 2147483647))) (eC (.int 16))) (eVar 1)))))))
def f__law_draw : FnD := runFn 4 m__law_draw
theorem p__law_draw {P : Program} {w : World} {K : PySem.W.Frag} {mg : Str → Option Value} {base : Heap} (at_ : At0 K mg "_law_draw" s__law_draw ["_law_pen_here", "_law_many"])  : Has P w K mg base "_law_draw" 2 f__law_draw 1 := by
  have nd := sc__law_draw.nd
  refine has_of (b := m__law_draw) (N := N__law_draw) (k := 0) at_ sc__law_draw rfl fun f cdv A outer s H E hr => ?_
  exact (ss_cons (s_if (y_cmp (q_gt hr) (x_ix (e_var (pv 0)) k_int) k_int) (ss_cons (s_set (i := 2) nd rfl (.inl rfl) (x_mod (x_ix (e_var (pv 0)) k_int) (e_var (pv 1))))
    (ss_cons (s_asg (x_fdiv (x_ix (e_var (pv 0)) k_int) (e_var (pv 1))) (g_sub (e_var (pv 0)) k_int))
    (ss_one (s_ret (e_var (pv 2)))))) ss_nil)
    (ss_cons (s_asg (x_add (x_ix (e_var (pv 0)) k_int) k_int) (g_sub (e_var (pv 0)) k_int))
    (ss_cons (s_asg (x_mod (x_add (x_add (x_mul (x_ix (e_var (pv 0)) k_int) k_int) (x_mul k_int (x_ix (e_var (pv 0)) k_int))) k_int) k_int) (g_sub (e_var (pv 0)) k_int))
    (ss_cons (s_set (i := 3) nd rfl (.inl rfl) (x_mod (x_add (x_add (x_mul (x_ix (e_var (pv 0)) k_int) (x_ix (e_var (pv 0)) k_int)) (x_mul k_int (x_ix (e_var (pv 0)) k_int))) k_int) k_int))
    (ss_one (s_ret (x_mod (x_fdiv (x_mod (x_mul (e_var (pv 3)) k_int) k_int) k_int) (e_var (pv 1)))))))))
/-! ### _law_pick -/
abbrev s__law_pick : Stmt := topS 49
abbrev N__law_pick : List Str := ["_law_pen_here", "_law_some"]
theorem sc__law_pick : FnScope N__law_pick ["_law_pen_here", "_law_some"] (defScope s__law_pick) := ⟨rfl, rfl, rfl, by decide +kernel, rfl, by decide +kernel, by decide +kernel⟩
def m__law_pick : SS := (sRet (eIx (eVar 1) (eCall f__law_draw (eCons (eVar 0) (eCons (eThen (eCons (eVar 1) eNil) (kE oLen)) eNil)))))
def f__law_pick : FnD := runFn 2 m__law_pick
theorem p__law_pick {P : Program} {w : World} {K : PySem.W.Frag} {mg : Str → Option Value} {base : Heap} (at_ : At0 K mg "_law_pick" s__law_pick ["_law_pen_here", "_law_some"]) (h__law_draw : Has P w K mg base "_law_draw" 2 f__law_draw 1) (z_len : mg "len" = none) : Has P w K mg base "_law_pick" 2 f__law_pick 2 := by
  have nd := sc__law_pick.nd
  refine has_of (b := m__law_pick) (N := N__law_pick) (k := 1) at_ sc__law_pick rfl fun f cdv A outer s H E hr => ?_
  exact (ss_one (s_ret (x_ix (e_var (pv 1)) (e_fn h__law_draw (hr.mono (by decide)) (lenA_cons (lenA_cons lenA_nil)) (a_cons (e_var (pv 0)) (a_cons (x_blt (w_len rfl hr) z_len (a_cons (e_var (pv 1)) a_nil)) a_nil))))))
/-! ### _law_to -/
abbrev s__law_to : Stmt := topS 50
abbrev N__law_to : List Str := ["_law_cell", "_law_letter", "_law_across"]
theorem sc__law_to : FnScope N__law_to ["_law_cell", "_law_letter"] (defScope s__law_to) := ⟨rfl, rfl, rfl, by decide +kernel, rfl, by decide +kernel, by decide +kernel⟩
def m__law_to : SS := (sSeq (sSet 2 (eSub (eThen (eCons (eEq (eVar 1) (eC (.str "e"))) eNil) (kE oInt1)) (eThen (eCons (eEq (eVar 1) (eC (.str "w"))) eNil) (kE oInt1))))
  (sRet (eThen (eCons (eAdd (eIx (eVar 0) (eC (.int 0))) (eVar 2)) (eCons (eSub (eAdd (eIx (eVar 0) (eC (.int 1))) (eThen (eCons (eEq (eVar 1) (eC (.str "n"))) eNil) (kE oInt1))) (eThen (eCons (eEq (eVar 1) (eC (.str "s"))) eNil) (kE oInt1))) eNil)) kTup)))
def f__law_to : FnD := runFn 3 m__law_to
theorem p__law_to {P : Program} {w : World} {K : PySem.W.Frag} {mg : Str → Option Value} {base : Heap} (at_ : At0 K mg "_law_to" s__law_to ["_law_cell", "_law_letter"]) (z_int : mg "int" = none) : Has P w K mg base "_law_to" 2 f__law_to 1 := by
  have nd := sc__law_to.nd
  refine has_of (b := m__law_to) (N := N__law_to) (k := 0) at_ sc__law_to rfl fun f cdv A outer s H E hr => ?_
  exact (ss_cons (s_set (i := 2) nd rfl (.inl rfl) (x_sub (x_bty (w_int rfl hr) z_int (a_cons (x_cmp (q_eq hr) (e_var (pv 1)) k_str) a_nil)) (x_bty (w_int rfl hr) z_int (a_cons (x_cmp (q_eq hr) (e_var (pv 1)) k_str) a_nil))))
    (ss_one (s_ret (e_tup (a_cons (x_add (x_ix (e_var (pv 0)) k_int) (e_var (pv 2))) (a_cons (x_sub (x_add (x_ix (e_var (pv 0)) k_int) (x_bty (w_int rfl hr) z_int (a_cons (x_cmp (q_eq hr) (e_var (pv 1)) k_str) a_nil))) (x_bty (w_int rfl hr) z_int (a_cons (x_cmp (q_eq hr) (e_var (pv 1)) k_str) a_nil))) a_nil))))))
/-! ### _law_six -/
abbrev s__law_six : Stmt := topS 51
abbrev N__law_six : List Str := ["_law_lying_here", "_law_low", "_law_north", "_law_east"]
theorem sc__law_six : FnScope N__law_six ["_law_lying_here"] (defScope s__law_six) := ⟨rfl, rfl, rfl, by decide +kernel, rfl, by decide +kernel, by decide +kernel⟩
def m__law_six : SS := (sSeq (sAsg (eVar 0) (gT 3 (gCn (gN 1) (gCn (gN 2) (gCn (gN 3) gNl)))))
  (sRet (eThen (eCons (eVar 1) (eCons (eSub (eC (.int 5)) (eVar 1)) (eCons (eVar 2) (eCons (eSub (eC (.int 5)) (eVar 2)) (eCons (eVar 3) (eCons (eSub (eC (.int 5)) (eVar 3)) eNil)))))) kTup)))
def f__law_six : FnD := runFn 4 m__law_six
theorem p__law_six {P : Program} {w : World} {K : PySem.W.Frag} {mg : Str → Option Value} {base : Heap} (at_ : At0 K mg "_law_six" s__law_six ["_law_lying_here"])  : Has P w K mg base "_law_six" 1 f__law_six 1 := by
  have nd := sc__law_six.nd
  refine has_of (b := m__law_six) (N := N__law_six) (k := 0) at_ sc__law_six rfl fun f cdv A outer s H E hr => ?_
  exact (ss_cons (s_asg (e_var (pv 0)) (g_tup rfl (gs_cons (g_name (i := 1) nd rfl (.inl rfl)) (gs_cons (g_name (i := 2) nd rfl (.inl rfl)) (gs_cons (g_name (i := 3) nd rfl (.inl rfl)) gs_nil)))))
    (ss_one (s_ret (e_tup (a_cons (e_var (pv 1)) (a_cons (x_sub k_int (e_var (pv 1))) (a_cons (e_var (pv 2)) (a_cons (x_sub k_int (e_var (pv 2))) (a_cons (e_var (pv 3)) (a_cons (x_sub k_int (e_var (pv 3))) a_nil))))))))))
/-! ### _law_rolled -/
abbrev s__law_rolled : Stmt := topS 52
abbrev N__law_rolled : List Str := ["_law_six_here", "_law_letter", "_law_low", "_law_top", "_law_north", "_law_south", "_law_east", "_law_west"]
theorem sc__law_rolled : FnScope N__law_rolled ["_law_six_here", "_law_letter"] (defScope s__law_rolled) := ⟨rfl, rfl, rfl, by decide +kernel, rfl, by decide +kernel, by decide +kernel⟩
def m__law_rolled : SS := (sSeq (sAsg (eVar 0) (gT 6 (gCn (gN 2) (gCn (gN 3) (gCn (gN 4) (gCn (gN 5) (gCn (gN 6) (gCn (gN 7) gNl))))))))
  (sSeq (sIf (bT (eEq (eVar 1) (eC (.str "n")))) (sRet (eThen (eCons (eVar 4) (eCons (eVar 5) (eCons (eVar 3) (eCons (eVar 2) (eCons (eVar 6) (eCons (eVar 7) eNil)))))) kTup)) sPass)
  (sSeq (sIf (bT (eEq (eVar 1) (eC (.str "s")))) (sRet (eThen (eCons (eVar 5) (eCons (eVar 4) (eCons (eVar 2) (eCons (eVar 3) (eCons (eVar 6) (eCons (eVar 7) eNil)))))) kTup)) sPass)
  (sSeq (sIf (bT (eEq (eVar 1) (eC (.str "e")))) (sRet (eThen (eCons (eVar 6) (eCons (eVar 7) (eCons (eVar 4) (eCons (eVar 5) (eCons (eVar 3) (eCons (eVar 2) eNil)))))) kTup)) sPass)
  (sRet (eThen (eCons (eVar 7) (eCons (eVar 6) (eCons (eVar 4) (eCons (eVar 5) (eCons (eVar 2) (eCons (eVar 3) eNil)))))) kTup))))))
def f__law_rolled : FnD := runFn 8 m__law_rolled
theorem p__law_rolled {P : Program} {w : World} {K : PySem.W.Frag} {mg : Str → Option Value} {base : Heap} (at_ : At0 K mg "_law_rolled" s__law_rolled ["_law_six_here", "_law_letter"])  : Has P w K mg base "_law_rolled" 2 f__law_rolled 1 := by
  have nd := sc__law_rolled.nd
  refine has_of (b := m__law_rolled) (N := N__law_rolled) (k := 0) at_ sc__law_rolled rfl fun f cdv A outer s H E hr => ?_
  exact (ss_cons (s_asg (e_var (pv 0)) (g_tup rfl (gs_cons (g_name (i := 2) nd rfl (.inl rfl)) (gs_cons (g_name (i := 3) nd rfl (.inl rfl)) (gs_cons (g_name (i := 4) nd rfl (.inl rfl)) (gs_cons (g_name (i := 5) nd rfl (.inl rfl)) (gs_cons (g_name (i := 6) nd rfl (.inl rfl)) (gs_cons (g_name (i := 7) nd rfl (.inl rfl)) gs_nil))))))))
    (ss_cons (s_if (y_cmp (q_eq hr) (e_var (pv 1)) k_str) (ss_one (s_ret (e_tup (a_cons (e_var (pv 4)) (a_cons (e_var (pv 5)) (a_cons (e_var (pv 3)) (a_cons (e_var (pv 2)) (a_cons (e_var (pv 6)) (a_cons (e_var (pv 7)) a_nil))))))))) ss_nil)
    (ss_cons (s_if (y_cmp (q_eq hr) (e_var (pv 1)) k_str) (ss_one (s_ret (e_tup (a_cons (e_var (pv 5)) (a_cons (e_var (pv 4)) (a_cons (e_var (pv 2)) (a_cons (e_var (pv 3)) (a_cons (e_var (pv 6)) (a_cons (e_var (pv 7)) a_nil))))))))) ss_nil)
    (ss_cons (s_if (y_cmp (q_eq hr) (e_var (pv 1)) k_str) (ss_one (s_ret (e_tup (a_cons (e_var (pv 6)) (a_cons (e_var (pv 7)) (a_cons (e_var (pv 4)) (a_cons (e_var (pv 5)) (a_cons (e_var (pv 3)) (a_cons (e_var (pv 2)) a_nil))))))))) ss_nil)
    (ss_one (s_ret (e_tup (a_cons (e_var (pv 7)) (a_cons (e_var (pv 6)) (a_cons (e_var (pv 4)) (a_cons (e_var (pv 5)) (a_cons (e_var (pv 2)) (a_cons (e_var (pv 3)) a_nil)))))))))))))
/-! ### _law_walked -/
abbrev s__law_walked : Stmt := topS 53
abbrev N__law_walked : List Str := ["_law_floor_here", "_law_stand_here", "_law_row_here", "_law_found", "_law_letter", "_law_cell"]
theorem sc__law_walked : FnScope N__law_walked ["_law_floor_here", "_law_stand_here", "_law_row_here"] (defScope s__law_walked) := ⟨rfl, rfl, rfl, by decide +kernel, rfl, by decide +kernel, by decide +kernel⟩
def m__law_walked : SS := (sSeq (sSet 3 (eThen (eCons (eThen (eCons (eIx (eVar 1) (eC (.int 0))) (eCons (eCall f__law_six (eCons (eIx (eVar 1) (eC (.int 1))) eNil)) eNil)) kTup) eNil) kLst))
  (sSeq (sFor (iSeq (eVar 2)) (gN 4) (sSeq (sSet 5 (eCall f__law_to (eCons (eIx (eIx (eVar 3) (eNeg (eC (.int 1)))) (eC (.int 0))) (eCons (eVar 4) eNil))))
  (sSeq (sIf (bT (eNin (eVar 5) (eVar 0))) (sRet (eVar 3)) sPass)
  (sExpr (eBM isL (eVar 3) (eCons (eThen (eCons (eVar 5) (eCons (eCall f__law_rolled (eCons (eIx (eIx (eVar 3) (eNeg (eC (.int 1)))) (eC (.int 1))) (eCons (eVar 4) eNil))) eNil)) kTup) eNil) kAppend)))))
  (sRet (eVar 3))))
def f__law_walked : FnD := runFn 6 m__law_walked
theorem p__law_walked {P : Program} {w : World} {K : PySem.W.Frag} {mg : Str → Option Value} {base : Heap} (at_ : At0 K mg "_law_walked" s__law_walked ["_law_floor_here", "_law_stand_here", "_law_row_here"]) (h__law_six : Has P w K mg base "_law_six" 1 f__law_six 1) (h__law_to : Has P w K mg base "_law_to" 2 f__law_to 1) (h__law_rolled : Has P w K mg base "_law_rolled" 2 f__law_rolled 1) : Has P w K mg base "_law_walked" 3 f__law_walked 2 := by
  have nd := sc__law_walked.nd
  refine has_of (b := m__law_walked) (N := N__law_walked) (k := 1) at_ sc__law_walked rfl fun f cdv A outer s H E hr => ?_
  exact (ss_cons (s_set (i := 3) nd rfl (.inl rfl) (e_lst (a_cons (e_tup (a_cons (x_ix (e_var (pv 1)) k_int) (a_cons (e_fn h__law_six (hr.mono (by decide)) (lenA_cons lenA_nil) (a_cons (x_ix (e_var (pv 1)) k_int) a_nil)) a_nil))) a_nil)))
    (ss_cons (s_for PassesOwn.never rfl (i_seq (e_var (pv 2))) (g_name (i := 4) nd rfl (.inl rfl)) (ss_cons (s_set (i := 5) nd rfl (.inl rfl) (e_fn h__law_to (hr.mono (by decide)) (lenA_cons (lenA_cons lenA_nil)) (a_cons (x_ix (x_ix (e_var (pv 3)) (x_neg k_int)) k_int) (a_cons (e_var (pv 4)) a_nil))))
    (ss_cons (s_if (y_cmp (q_nin hr) (e_var (pv 5)) (e_var (pv 0))) (ss_one (s_ret (e_var (pv 3)))) ss_nil)
    (ss_one (s_expr (m_append (e_var (pv 3)) (a_cons (e_tup (a_cons (e_var (pv 5)) (a_cons (e_fn h__law_rolled (hr.mono (by decide)) (lenA_cons (lenA_cons lenA_nil)) (a_cons (x_ix (x_ix (e_var (pv 3)) (x_neg k_int)) k_int) (a_cons (e_var (pv 4)) a_nil))) a_nil))) a_nil)))))))
    (ss_one (s_ret (e_var (pv 3))))))
/-! ### _law_floor -/
abbrev s__law_floor : Stmt := topS 54
abbrev N__law_floor : List Str := ["_law_pen_here", "_law_most", "_law_found", "_law_lap", "_law_cell"]
theorem sc__law_floor : FnScope N__law_floor ["_law_pen_here", "_law_most"] (defScope s__law_floor) := ⟨rfl, rfl, rfl, by decide +kernel, rfl, by decide +kernel, by decide +kernel⟩
def m__law_floor : SS := (sSeq (sSet 2 (eThen (eCons (eThen (eCons (eCall f__law_draw (eCons (eVar 0) (eCons (eC (.int 4)) eNil))) (eCons (eCall f__law_draw (eCons (eVar 0) (eCons (eC (.int 4)) eNil))) eNil)) kTup) eNil) kLst))
  (sSeq (sFor (iRg1 (eCons (eCall f__law_draw (eCons (eVar 0) (eCons (eVar 1) eNil))) eNil)) (gN 3) (sSeq (sSet 4 (eCall f__law_to (eCons (eCall f__law_pick (eCons (eVar 0) (eCons (eVar 2) eNil))) (eCons (eIx (eC (.str "ensw")) (eCall f__law_draw (eCons (eVar 0) (eCons (eC (.int 4)) eNil)))) eNil))))
  (sSeq (sIf (bT (eEq (eCall f__law_draw (eCons (eVar 0) (eCons (eC (.int 8)) eNil))) (eC (.int 0)))) (sSet 4 (eThen (eCons (eCall f__law_draw (eCons (eVar 0) (eCons (eC (.int 4)) eNil))) (eCons (eCall f__law_draw (eCons (eVar 0) (eCons (eC (.int 4)) eNil))) eNil)) kTup)) sPass)
  (sIf (bAnd (bT (eLe (eC (.int 0)) (eThen (eCons (eVar 4) eNil) (kE oMin)))) (bAnd (bT (eLt (eThen (eCons (eVar 4) eNil) (kE oMax)) (eC (.int 4)))) (bT (eNin (eVar 4) (eVar 2))))) (sExpr (eBM isL (eVar 2) (eCons (eVar 4) eNil) kAppend)) sPass))))
  (sRet (eThen (eCons (eThen (eCons (eVar 2) eNil) kSorted) eNil) kTupN))))
def f__law_floor : FnD := runFn 5 m__law_floor
theorem p__law_floor {P : Program} {w : World} {K : PySem.W.Frag} {mg : Str → Option Value} {base : Heap} (at_ : At0 K mg "_law_floor" s__law_floor ["_law_pen_here", "_law_most"]) (h__law_draw : Has P w K mg base "_law_draw" 2 f__law_draw 1) (h__law_to : Has P w K mg base "_law_to" 2 f__law_to 1) (h__law_pick : Has P w K mg base "_law_pick" 2 f__law_pick 2) (z_range : mg "range" = none) (z_max : mg "max" = none) (z_min : mg "min" = none) (z_tuple : mg "tuple" = none) (z_sorted : mg "sorted" = none) : Has P w K mg base "_law_floor" 2 f__law_floor 3 := by
  have nd := sc__law_floor.nd
  refine has_of (b := m__law_floor) (N := N__law_floor) (k := 2) at_ sc__law_floor rfl fun f cdv A outer s H E hr => ?_
  exact (ss_cons (s_set (i := 2) nd rfl (.inl rfl) (e_lst (a_cons (e_tup (a_cons (e_fn h__law_draw (hr.mono (by decide)) (lenA_cons (lenA_cons lenA_nil)) (a_cons (e_var (pv 0)) (a_cons k_int a_nil))) (a_cons (e_fn h__law_draw (hr.mono (by decide)) (lenA_cons (lenA_cons lenA_nil)) (a_cons (e_var (pv 0)) (a_cons k_int a_nil))) a_nil))) a_nil)))
    (ss_cons (s_for PassesOwn.never rfl (i_rg1 (by rfl) z_range (a_cons (e_fn h__law_draw (hr.mono (by decide)) (lenA_cons (lenA_cons lenA_nil)) (a_cons (e_var (pv 0)) (a_cons (e_var (pv 1)) a_nil))) a_nil)) (g_name (i := 3) nd rfl (.inl rfl)) (ss_cons (s_set (i := 4) nd rfl (.inl rfl) (e_fn h__law_to (hr.mono (by decide)) (lenA_cons (lenA_cons lenA_nil)) (a_cons (e_fn h__law_pick (hr.mono (by decide)) (lenA_cons (lenA_cons lenA_nil)) (a_cons (e_var (pv 0)) (a_cons (e_var (pv 2)) a_nil))) (a_cons (x_ix k_str (e_fn h__law_draw (hr.mono (by decide)) (lenA_cons (lenA_cons lenA_nil)) (a_cons (e_var (pv 0)) (a_cons k_int a_nil)))) a_nil))))
    (ss_cons (s_if (y_cmp (q_eq hr) (e_fn h__law_draw (hr.mono (by decide)) (lenA_cons (lenA_cons lenA_nil)) (a_cons (e_var (pv 0)) (a_cons k_int a_nil))) k_int) (ss_one (s_set (i := 4) nd rfl (.inl rfl) (e_tup (a_cons (e_fn h__law_draw (hr.mono (by decide)) (lenA_cons (lenA_cons lenA_nil)) (a_cons (e_var (pv 0)) (a_cons k_int a_nil))) (a_cons (e_fn h__law_draw (hr.mono (by decide)) (lenA_cons (lenA_cons lenA_nil)) (a_cons (e_var (pv 0)) (a_cons k_int a_nil))) a_nil))))) ss_nil)
    (ss_one (s_if (PW.pt (b_and (y_cmp (q_le hr) k_int (x_blt (w_min rfl hr) z_min (a_cons (e_var (pv 4)) a_nil))) (b_and (y_cmp (q_lt hr) (x_blt (w_max rfl hr) z_max (a_cons (e_var (pv 4)) a_nil)) k_int) (b_and1 (y_cmp (q_nin hr) (e_var (pv 4)) (e_var (pv 2))))))) (ss_one (s_expr (m_append (e_var (pv 2)) (a_cons (e_var (pv 4)) a_nil)))) ss_nil)))))
    (ss_one (s_ret (x_bty (w_tuple rfl hr) z_tuple (a_cons (x_blt (w_sorted rfl hr) z_sorted (a_cons (e_var (pv 2)) a_nil)) a_nil))))))
/-! ### _law_lying -/
abbrev s__law_lying : Stmt := topS 55
abbrev N__law_lying : List Str := ["_law_pen_here", "_law_six_here", "_law_lap"]
theorem sc__law_lying : FnScope N__law_lying ["_law_pen_here"] (defScope s__law_lying) := ⟨rfl, rfl, rfl, by decide +kernel, rfl, by decide +kernel, by decide +kernel⟩
def m__law_lying : SS := (sSeq (sSet 1 (eCall f__law_six (eCons (eThen (eCons (eC (.int 0)) (eCons (eC (.int 1)) (eCons (eC (.int 2)) eNil))) kTup) eNil)))
  (sSeq (sFor (iRg1 (eCons (eAdd (eC (.int 4)) (eCall f__law_draw (eCons (eVar 0) (eCons (eC (.int 2)) eNil)))) eNil)) (gN 2) (sSet 1 (eCall f__law_rolled (eCons (eVar 1) (eCons (eIx (eC (.str "ensw")) (eCall f__law_draw (eCons (eVar 0) (eCons (eC (.int 4)) eNil)))) eNil)))))
  (sRet (eThen (eCons (eIx (eVar 1) (eC (.int 0))) (eCons (eIx (eVar 1) (eC (.int 2))) (eCons (eIx (eVar 1) (eC (.int 4))) eNil))) kTup))))
def f__law_lying : FnD := runFn 3 m__law_lying
theorem p__law_lying {P : Program} {w : World} {K : PySem.W.Frag} {mg : Str → Option Value} {base : Heap} (at_ : At0 K mg "_law_lying" s__law_lying ["_law_pen_here"]) (h__law_six : Has P w K mg base "_law_six" 1 f__law_six 1) (h__law_draw : Has P w K mg base "_law_draw" 2 f__law_draw 1) (h__law_rolled : Has P w K mg base "_law_rolled" 2 f__law_rolled 1) (z_range : mg "range" = none) : Has P w K mg base "_law_lying" 1 f__law_lying 2 := by
  have nd := sc__law_lying.nd
  refine has_of (b := m__law_lying) (N := N__law_lying) (k := 1) at_ sc__law_lying rfl fun f cdv A outer s H E hr => ?_
  exact (ss_cons (s_set (i := 1) nd rfl (.inl rfl) (e_fn h__law_six (hr.mono (by decide)) (lenA_cons lenA_nil) (a_cons (e_tup (a_cons k_int (a_cons k_int (a_cons k_int a_nil)))) a_nil)))
    (ss_cons (s_for PassesOwn.never rfl (i_rg1 (by rfl) z_range (a_cons (x_add k_int (e_fn h__law_draw (hr.mono (by decide)) (lenA_cons (lenA_cons lenA_nil)) (a_cons (e_var (pv 0)) (a_cons k_int a_nil)))) a_nil)) (g_name (i := 2) nd rfl (.inl rfl)) (ss_one (s_set (i := 1) nd rfl (.inl rfl) (e_fn h__law_rolled (hr.mono (by decide)) (lenA_cons (lenA_cons lenA_nil)) (a_cons (e_var (pv 1)) (a_cons (x_ix k_str (e_fn h__law_draw (hr.mono (by decide)) (lenA_cons (lenA_cons lenA_nil)) (a_cons (e_var (pv 0)) (a_cons k_int a_nil)))) a_nil))))))
    (ss_one (s_ret (e_tup (a_cons (x_ix (e_var (pv 1)) k_int) (a_cons (x_ix (e_var (pv 1)) k_int) (a_cons (x_ix (e_var (pv 1)) k_int) a_nil))))))))
/-! ### _law_stand -/
abbrev s__law_stand : Stmt := topS 56
abbrev N__law_stand : List Str := ["_law_pen_here", "_law_floor_here"]
theorem sc__law_stand : FnScope N__law_stand ["_law_pen_here", "_law_floor_here"] (defScope s__law_stand) := ⟨rfl, rfl, rfl, by decide +kernel, rfl, by decide +kernel, by decide +kernel⟩
def m__law_stand : SS := (sRet (eThen (eCons (eCall f__law_pick (eCons (eVar 0) (eCons (eThen (eCons (eVar 1) eNil) (kL oList)) eNil))) (eCons (eCall f__law_lying (eCons (eVar 0) eNil)) eNil)) kTup))
def f__law_stand : FnD := runFn 2 m__law_stand
theorem p__law_stand {P : Program} {w : World} {K : PySem.W.Frag} {mg : Str → Option Value} {base : Heap} (at_ : At0 K mg "_law_stand" s__law_stand ["_law_pen_here", "_law_floor_here"]) (h__law_lying : Has P w K mg base "_law_lying" 1 f__law_lying 2) (h__law_pick : Has P w K mg base "_law_pick" 2 f__law_pick 2) (z_list : mg "list" = none) : Has P w K mg base "_law_stand" 2 f__law_stand 3 := by
  have nd := sc__law_stand.nd
  refine has_of (b := m__law_stand) (N := N__law_stand) (k := 2) at_ sc__law_stand rfl fun f cdv A outer s H E hr => ?_
  exact (ss_one (s_ret (e_tup (a_cons (e_fn h__law_pick (hr.mono (by decide)) (lenA_cons (lenA_cons lenA_nil)) (a_cons (e_var (pv 0)) (a_cons (x_bty (w_list rfl hr) z_list (a_cons (e_var (pv 1)) a_nil)) a_nil))) (a_cons (e_fn h__law_lying (hr.mono (by decide)) (lenA_cons lenA_nil) (a_cons (e_var (pv 0)) a_nil)) a_nil)))))
/-! ### _law_row -/
abbrev s__law_row : Stmt := topS 57
abbrev N__law_row : List Str := ["_law_pen_here", "_law_floor_here", "_law_cell", "_law_most", "_law_found", "_law_lap", "_law_some", "_law_letter"]
theorem sc__law_row : FnScope N__law_row ["_law_pen_here", "_law_floor_here", "_law_cell", "_law_most"] (defScope s__law_row) := ⟨rfl, rfl, rfl, by decide +kernel, rfl, by decide +kernel, by decide +kernel⟩
def m__law_row : SS := (sSeq (sSet 4 (eC (.str "")))
  (sSeq (sFor (iRg1 (eCons (eCall f__law_draw (eCons (eVar 0) (eCons (eAdd (eVar 3) (eC (.int 1))) eNil))) eNil)) (gN 5) (sSeq (sSet 6 (eLc (iSeq (eC (.str "ensw"))) (gN 7) (bT (eIn (eCall f__law_to (eCons (eVar 2) (eCons (eVar 7) eNil))) (eVar 1))) (eVar 7) [7]))
  (sIf (bT (eNe (eVar 6) (eThen eNil kLst))) (sSeq (sSet 4 (eAdd (eVar 4) (eCall f__law_pick (eCons (eVar 0) (eCons (eVar 6) eNil)))))
  (sSet 2 (eCall f__law_to (eCons (eVar 2) (eCons (eIx (eVar 4) (eNeg (eC (.int 1)))) eNil))))) sPass)))
  (sRet (eVar 4))))
def f__law_row : FnD := runFn 8 m__law_row
theorem p__law_row {P : Program} {w : World} {K : PySem.W.Frag} {mg : Str → Option Value} {base : Heap} (at_ : At0 K mg "_law_row" s__law_row ["_law_pen_here", "_law_floor_here", "_law_cell", "_law_most"]) (h__law_draw : Has P w K mg base "_law_draw" 2 f__law_draw 1) (h__law_to : Has P w K mg base "_law_to" 2 f__law_to 1) (h__law_pick : Has P w K mg base "_law_pick" 2 f__law_pick 2) (z_range : mg "range" = none) : Has P w K mg base "_law_row" 4 f__law_row 3 := by
  have nd := sc__law_row.nd
  refine has_of (b := m__law_row) (N := N__law_row) (k := 2) at_ sc__law_row rfl fun f cdv A outer s H E hr => ?_
  exact (ss_cons (s_set (i := 4) nd rfl (.inl rfl) k_str)
    (ss_cons (s_for PassesOwn.never rfl (i_rg1 (by rfl) z_range (a_cons (e_fn h__law_draw (hr.mono (by decide)) (lenA_cons (lenA_cons lenA_nil)) (a_cons (e_var (pv 0)) (a_cons (x_add (e_var (pv 3)) k_int) a_nil))) a_nil)) (g_name (i := 5) nd rfl (.inl rfl)) (ss_cons (x_setLc (i := 6) [("_law_letter", 7)] rfl nd rfl rfl rfl (sw_true rfl rfl rfl (by decide +kernel)) (i_seq k_str) (blkOk_by (N := N__law_row) (sc := defScope s__law_row) (by decide +kernel)) (only_gN (by decide)) (fun _ _ _ _ _ => (v_name (i := 7) (by decide) nd rfl (.inl rfl))) (fun _ _ _ _ _ => (ts_one (y_cmp (q_in hr) (e_fn h__law_to (hr.mono (by decide)) (lenA_cons (lenA_cons lenA_nil)) (a_cons (e_var (pv 2)) (a_cons (e_var (pv 7)) a_nil))) (e_var (pv 1))))) (fun _ _ _ _ _ => (e_var (pv 7))))
    (ss_one (s_if (y_cmp (q_ne hr) (e_var (pv 6)) (e_lst a_nil)) (ss_cons (s_set (i := 4) nd rfl (.inl rfl) (x_add (e_var (pv 4)) (e_fn h__law_pick (hr.mono (by decide)) (lenA_cons (lenA_cons lenA_nil)) (a_cons (e_var (pv 0)) (a_cons (e_var (pv 6)) a_nil)))))
    (ss_one (s_set (i := 2) nd rfl (.inr rfl) (e_fn h__law_to (hr.mono (by decide)) (lenA_cons (lenA_cons lenA_nil)) (a_cons (e_var (pv 2)) (a_cons (x_ix (e_var (pv 4)) (x_neg k_int)) a_nil)))))) ss_nil))))
    (ss_one (s_ret (e_var (pv 4))))))
/-! ### _law_marks -/
abbrev s__law_marks : Stmt := topS 58
abbrev N__law_marks : List Str := ["_law_pen_here", "_law_floor_here", "_law_most", "_law_spot"]
theorem sc__law_marks : FnScope N__law_marks ["_law_pen_here", "_law_floor_here"] (defScope s__law_marks) := ⟨rfl, rfl, rfl, by decide +kernel, rfl, by decide +kernel, by decide +kernel⟩
def m__law_marks : SS := (sSeq (sSet 2 (eCall f__law_pick (eCons (eVar 0) (eCons (eThen (eCons (eC (.int 2)) (eCons (eC (.int 4)) (eCons (eC (.int 1000)) eNil))) kLst) eNil))))
  (sRet (eThen (eCons (eLc (iRg1 (eCons (eAdd (eC (.int 6)) (eThen (eCons (eVar 1) eNil) (kE oLen))) eNil)) (gN 3) bYes (eCall f__law_draw (eCons (eVar 0) (eCons (eVar 2) eNil))) [3]) eNil) kTupN)))
def f__law_marks : FnD := runFn 4 m__law_marks
theorem p__law_marks {P : Program} {w : World} {K : PySem.W.Frag} {mg : Str → Option Value} {base : Heap} (at_ : At0 K mg "_law_marks" s__law_marks ["_law_pen_here", "_law_floor_here"]) (h__law_pick : Has P w K mg base "_law_pick" 2 f__law_pick 2) (h__law_draw : Has P w K mg base "_law_draw" 2 f__law_draw 1) (z_tuple : mg "tuple" = none) (z_range : mg "range" = none) (z_len : mg "len" = none) : Has P w K mg base "_law_marks" 2 f__law_marks 3 := by
  have nd := sc__law_marks.nd
  refine has_of (b := m__law_marks) (N := N__law_marks) (k := 2) at_ sc__law_marks rfl fun f cdv A outer s H E hr => ?_
  exact (ss_cons (s_set (i := 2) nd rfl (.inr rfl) (e_fn h__law_pick (hr.mono (by decide)) (lenA_cons (lenA_cons lenA_nil)) (a_cons (e_var (pv 0)) (a_cons (e_lst (a_cons k_int (a_cons k_int (a_cons k_int a_nil)))) a_nil))))
    (ss_one (s_ret (x_bty (w_tuple rfl hr) z_tuple (a_cons (x_lc [("_law_spot", 3)] rfl nd rfl (i_rg1 (by rfl) z_range (a_cons (x_add k_int (x_blt (w_len rfl hr) z_len (a_cons (e_var (pv 1)) a_nil))) a_nil)) (blkOk_by (N := N__law_marks) (sc := defScope s__law_marks) (by decide +kernel)) (only_gN (by decide)) (fun _ _ _ _ _ => (v_name (i := 3) (by decide) nd rfl (.inl rfl))) (fun _ _ _ _ _ => ts_yes) (fun _ _ _ _ _ => (e_fn h__law_draw (hr.mono (by decide)) (lenA_cons (lenA_cons lenA_nil)) (a_cons (e_var (pv 0)) (a_cons (e_var (pv 2)) a_nil))))) a_nil)))))
/-! ### _law_traded -/
abbrev s__law_traded : Stmt := topS 59
abbrev N__law_traded : List Str := ["_law_floor_here", "_law_stand_here", "_law_row_here", "_law_marks_here", "_law_faces", "_law_cells", "_law_cell", "_law_six_here"]
theorem sc__law_traded : FnScope N__law_traded ["_law_floor_here", "_law_stand_here", "_law_row_here", "_law_marks_here"] (defScope s__law_traded) := ⟨rfl, rfl, rfl, by decide +kernel, rfl, by decide +kernel, by decide +kernel⟩
def m__law_traded : SS := (sSeq (sParN [4, 5] (eCons (eThen (eCons (eSl (eVar 3) oNo (oSome (eC (.int 6)))) eNil) (kL oList)) (eCons (eThen (eCons (eLz (eCons (eVar 0) (eCons (eSl (eVar 3) (oSome (eC (.int 6))) oNo) eNil))) eNil) kDict) eNil)))
  (sSeq (sFor (iSeq (eSl (eCall f__law_walked (eCons (eVar 0) (eCons (eVar 1) (eCons (eVar 2) eNil)))) (oSome (eC (.int 1))) oNo)) (gT 2 (gCn (gN 6) (gCn (gN 7) gNl))) (sAsg (eThen (eCons (eDg (eVar 5) (eVar 6)) (eCons (eIx (eVar 4) (eIx (eVar 7) (eC (.int 0)))) eNil)) kTup) (gT 2 (gCn (gS (eVar 4) (eIx (eVar 7) (eC (.int 0)))) (gCn (gDs (eVar 5) (eVar 6)) gNl)))))
  (sRet (eThen (eCons (eAdd (eVar 4) (eLc (iSeq (eVar 0)) (gN 6) bYes (eDg (eVar 5) (eVar 6)) [6])) eNil) kTupN))))
def f__law_traded : FnD := runFn 8 m__law_traded
theorem p__law_traded {P : Program} {w : World} {K : PySem.W.Frag} {mg : Str → Option Value} {base : Heap} (at_ : At0 K mg "_law_traded" s__law_traded ["_law_floor_here", "_law_stand_here", "_law_row_here", "_law_marks_here"]) (h__law_walked : Has P w K mg base "_law_walked" 3 f__law_walked 2) (z_dict : mg "dict" = none) (z_list : mg "list" = none) (z_zip : mg "zip" = none) (z_tuple : mg "tuple" = none) : Has P w K mg base "_law_traded" 4 f__law_traded 3 := by
  have nd := sc__law_traded.nd
  refine has_of (b := m__law_traded) (N := N__law_traded) (k := 2) at_ sc__law_traded rfl fun f cdv A outer s H E hr => ?_
  exact (ss_cons (s_parN rfl (a_cons (x_bty (w_list rfl hr) z_list (a_cons (e_sl (e_var (pv 3)) o_no (o_some k_int)) a_nil)) (a_cons (x_bty (w_dict rfl hr) z_dict (a_cons (e_lz rfl z_list z_zip (a_cons (e_var (pv 0)) (a_cons (e_sl (e_var (pv 3)) (o_some k_int) o_no) a_nil))) a_nil)) a_nil)) (ns_cons (pg_name (i := 4) nd rfl (.inl rfl)) (ns_cons (pg_name (i := 5) nd rfl (.inr rfl)) ns_nil)))
    (ss_cons (s_for PassesOwn.never rfl (i_seq (e_sl (e_fn h__law_walked (hr.mono (by decide)) (lenA_cons (lenA_cons (lenA_cons lenA_nil))) (a_cons (e_var (pv 0)) (a_cons (e_var (pv 1)) (a_cons (e_var (pv 2)) a_nil)))) (o_some k_int) o_no)) (g_tup rfl (gs_cons (g_name (i := 6) nd rfl (.inl rfl)) (gs_cons (g_name (i := 7) nd rfl (.inl rfl)) gs_nil))) (ss_one (s_asg (e_tup (a_cons (e_dg (u9 hr) (e_var (pv 5)) (e_var (pv 6))) (a_cons (x_ix (e_var (pv 4)) (x_ix (e_var (pv 7)) k_int)) a_nil))) (g_tup rfl (gs_cons (g_sub (e_var (pv 4)) (x_ix (e_var (pv 7)) k_int)) (gs_cons (g_dsub (u9 hr) (e_var (pv 5)) (e_var (pv 6))) gs_nil))))))
    (ss_one (s_ret (x_bty (w_tuple rfl hr) z_tuple (a_cons (x_add (e_var (pv 4)) (x_lc [("_law_cell", 6)] rfl nd rfl (i_seq (e_var (pv 0))) (blkOk_by (N := N__law_traded) (sc := defScope s__law_traded) (by decide +kernel)) (only_gN (by decide)) (fun _ _ _ _ _ => (v_name (i := 6) (by decide) nd rfl (.inl rfl))) (fun _ _ _ _ _ => ts_yes) (fun _ _ _ _ _ => (e_dg (u9 hr) (e_var (pv 5)) (e_var (pv 6)))))) a_nil))))))
/-! ### _law_moves -/
abbrev s__law_moves : Stmt := topS 60
abbrev N__law_moves : List Str := ["_law_floor_here", "_law_stand_here", "_law_row_here", "_law_told", "_law_spot"]
theorem sc__law_moves : FnScope N__law_moves ["_law_floor_here", "_law_stand_here", "_law_row_here"] (defScope s__law_moves) := ⟨rfl, rfl, rfl, by decide +kernel, rfl, by decide +kernel, by decide +kernel⟩
def m__law_moves : SS := (sSeq (sSet 3 (eCall f__law_traded (eCons (eVar 0) (eCons (eVar 1) (eCons (eVar 2) (eCons (eTrg (eCons (eAdd (eC (.int 6)) (eThen (eCons (eVar 0) eNil) (kE oLen))) eNil)) eNil))))))
  (sRet (eThen (eCons (eLc (iRg1 (eCons (eThen (eCons (eVar 3) eNil) (kE oLen)) eNil)) (gN 4) bYes (eBM isNt (eVar 3) (eCons (eVar 4) eNil) kIxT) [4]) eNil) kTupN)))
def f__law_moves : FnD := runFn 5 m__law_moves
theorem p__law_moves {P : Program} {w : World} {K : PySem.W.Frag} {mg : Str → Option Value} {base : Heap} (at_ : At0 K mg "_law_moves" s__law_moves ["_law_floor_here", "_law_stand_here", "_law_row_here"]) (h__law_traded : Has P w K mg base "_law_traded" 4 f__law_traded 3) (z_tuple : mg "tuple" = none) (z_range : mg "range" = none) (z_len : mg "len" = none) : Has P w K mg base "_law_moves" 3 f__law_moves 4 := by
  have nd := sc__law_moves.nd
  refine has_of (b := m__law_moves) (N := N__law_moves) (k := 3) at_ sc__law_moves rfl fun f cdv A outer s H E hr => ?_
  exact (ss_cons (s_set (i := 3) nd rfl (.inr rfl) (e_fn h__law_traded (hr.mono (by decide)) (lenA_cons (lenA_cons (lenA_cons (lenA_cons lenA_nil)))) (a_cons (e_var (pv 0)) (a_cons (e_var (pv 1)) (a_cons (e_var (pv 2)) (a_cons (x_trg1 z_tuple z_range (x_add k_int (x_blt (w_len rfl hr) z_len (a_cons (e_var (pv 0)) a_nil)))) a_nil))))))
    (ss_one (s_ret (x_bty (w_tuple rfl hr) z_tuple (a_cons (x_lc [("_law_spot", 4)] rfl nd rfl (i_rg1 (by rfl) z_range (a_cons (x_blt (w_len rfl hr) z_len (a_cons (e_var (pv 3)) a_nil)) a_nil)) (blkOk_by (N := N__law_moves) (sc := defScope s__law_moves) (by decide +kernel)) (only_gN (by decide)) (fun _ _ _ _ _ => (v_name (i := 4) (by decide) nd rfl (.inl rfl))) (fun _ _ _ _ _ => ts_yes) (fun _ _ _ _ _ => (e_tix (u65 hr) (e_var (pv 3)) (a_cons (e_var (pv 4)) a_nil)))) a_nil)))))
/-! ### need_let -/
abbrev s_need_let : Stmt := topS 26
abbrev N_need_let : List Str := ["floor", "cell", "row"]
theorem sc_need_let : FnScope N_need_let ["floor", "cell", "row"] (defScope s_need_let) := ⟨rfl, rfl, rfl, by decide +kernel, rfl, by decide +kernel, by decide +kernel⟩
def m_need_let : SS := (sIf (bT (eIsn (eCall f_place_off (eCons (eVar 0) (eCons (eVar 1) (eCons (eVar 2) eNil)))) (eC .none))) sNever sPass)
def f_need_let : FnD := runFn 3 m_need_let
theorem p_need_let {P : Program} {w : World} {K : PySem.W.Frag} {mg : Str → Option Value} {base : Heap} (at_ : At0 K mg "need_let" s_need_let ["floor", "cell", "row"]) (h_place_off : Has P w K mg base "place_off" 3 f_place_off 2) : Has P w K mg base "need_let" 3 f_need_let 3 := by
  have nd := sc_need_let.nd
  refine has_of (b := m_need_let) (N := N_need_let) (k := 2) at_ sc_need_let rfl fun f cdv A outer s H E hr => ?_
  exact (ss_one (s_if (y_cmp (q_isn hr) (e_fn h_place_off (hr.mono (by decide)) (lenA_cons (lenA_cons (lenA_cons lenA_nil))) (a_cons (e_var (pv 0)) (a_cons (e_var (pv 1)) (a_cons (e_var (pv 2)) a_nil)))) k_non) (ss_one s_never) ss_nil))
/-! ### marks_behind -/
abbrev s_marks_behind : Stmt := topS 43
abbrev N_marks_behind : List Str := ["floor", "stand", "row", "marks"]
theorem sc_marks_behind : FnScope N_marks_behind ["floor", "stand", "row", "marks"] (defScope s_marks_behind) := ⟨rfl, rfl, rfl, by decide +kernel, rfl, by decide +kernel, by decide +kernel⟩
def m_marks_behind : SS := (sSeq (sExpr (eCall f_need_floor (eCons (eVar 0) eNil)))
  (sSeq (sExpr (eCall f_need_stand (eCons (eVar 0) (eCons (eVar 1) eNil))))
  (sSeq (sExpr (eCall f_need_row (eCons (eVar 2) eNil)))
  (sSeq (sExpr (eCall f_need_marks (eCons (eVar 0) (eCons (eVar 3) eNil))))
  (sSeq (sExpr (eCall f_need_let (eCons (eVar 0) (eCons (eIx (eVar 1) (eC (.int 0))) (eCons (eVar 2) eNil)))))
  (sRet (eCall f_held_behind (eCons (eVar 0) (eCons (eVar 1) (eCons (eVar 2) (eCons (eVar 3) eNil)))))))))))
def f_marks_behind : FnD := runFn 4 m_marks_behind
theorem p_marks_behind {P : Program} {w : World} {K : PySem.W.Frag} {mg : Str → Option Value} {base : Heap} (at_ : At0 K mg "marks_behind" s_marks_behind ["floor", "stand", "row", "marks"]) (h_need_floor : Has P w K mg base "need_floor" 1 f_need_floor 4) (h_need_stand : Has P w K mg base "need_stand" 2 f_need_stand 5) (h_need_row : Has P w K mg base "need_row" 1 f_need_row 3) (h_need_marks : Has P w K mg base "need_marks" 2 f_need_marks 3) (h_need_let : Has P w K mg base "need_let" 3 f_need_let 3) (h_held_behind : Has P w K mg base "held_behind" 4 f_held_behind 4) : Has P w K mg base "marks_behind" 4 f_marks_behind 6 := by
  have nd := sc_marks_behind.nd
  refine has_of (b := m_marks_behind) (N := N_marks_behind) (k := 5) at_ sc_marks_behind rfl fun f cdv A outer s H E hr => ?_
  exact (ss_cons (s_expr (e_fn h_need_floor (hr.mono (by decide)) (lenA_cons lenA_nil) (a_cons (e_var (pv 0)) a_nil)))
    (ss_cons (s_expr (e_fn h_need_stand (hr.mono (by decide)) (lenA_cons (lenA_cons lenA_nil)) (a_cons (e_var (pv 0)) (a_cons (e_var (pv 1)) a_nil))))
    (ss_cons (s_expr (e_fn h_need_row (hr.mono (by decide)) (lenA_cons lenA_nil) (a_cons (e_var (pv 2)) a_nil)))
    (ss_cons (s_expr (e_fn h_need_marks (hr.mono (by decide)) (lenA_cons (lenA_cons lenA_nil)) (a_cons (e_var (pv 0)) (a_cons (e_var (pv 3)) a_nil))))
    (ss_cons (s_expr (e_fn h_need_let (hr.mono (by decide)) (lenA_cons (lenA_cons (lenA_cons lenA_nil))) (a_cons (e_var (pv 0)) (a_cons (x_ix (e_var (pv 1)) k_int) (a_cons (e_var (pv 2)) a_nil)))))
    (ss_one (s_ret (e_fn h_held_behind (hr.mono (by decide)) (lenA_cons (lenA_cons (lenA_cons (lenA_cons lenA_nil)))) (a_cons (e_var (pv 0)) (a_cons (e_var (pv 1)) (a_cons (e_var (pv 2)) (a_cons (e_var (pv 3)) a_nil))))))))))))
/-! ### exchange -/
abbrev s_exchange : Stmt := topS 44
abbrev N_exchange : List Str := ["floor", "stand", "row"]
theorem sc_exchange : FnScope N_exchange ["floor", "stand", "row"] (defScope s_exchange) := ⟨rfl, rfl, rfl, by decide +kernel, rfl, by decide +kernel, by decide +kernel⟩
def m_exchange : SS := (sSeq (sExpr (eCall f_need_floor (eCons (eVar 0) eNil)))
  (sSeq (sExpr (eCall f_need_stand (eCons (eVar 0) (eCons (eVar 1) eNil))))
  (sSeq (sExpr (eCall f_need_row (eCons (eVar 2) eNil)))
  (sSeq (sExpr (eCall f_need_let (eCons (eVar 0) (eCons (eIx (eVar 1) (eC (.int 0))) (eCons (eVar 2) eNil)))))
  (sRet (eCall f_exchange_by (eCons (eCall f_trades (eCons (eVar 0) (eCons (eVar 1) (eCons (eVar 2) eNil)))) (eCons (eCall f_spots_of (eCons (eVar 0) eNil)) eNil))))))))
def f_exchange : FnD := runFn 3 m_exchange
theorem p_exchange {P : Program} {w : World} {K : PySem.W.Frag} {mg : Str → Option Value} {base : Heap} (at_ : At0 K mg "exchange" s_exchange ["floor", "stand", "row"]) (h_need_floor : Has P w K mg base "need_floor" 1 f_need_floor 4) (h_need_stand : Has P w K mg base "need_stand" 2 f_need_stand 5) (h_need_row : Has P w K mg base "need_row" 1 f_need_row 3) (h_need_let : Has P w K mg base "need_let" 3 f_need_let 3) (h_exchange_by : Has P w K mg base "exchange_by" 2 f_exchange_by 2) (h_spots_of : Has P w K mg base "spots_of" 1 f_spots_of 1) (h_trades : Has P w K mg base "trades" 3 f_trades 3) : Has P w K mg base "exchange" 3 f_exchange 6 := by
  have nd := sc_exchange.nd
  refine has_of (b := m_exchange) (N := N_exchange) (k := 5) at_ sc_exchange rfl fun f cdv A outer s H E hr => ?_
  exact (ss_cons (s_expr (e_fn h_need_floor (hr.mono (by decide)) (lenA_cons lenA_nil) (a_cons (e_var (pv 0)) a_nil)))
    (ss_cons (s_expr (e_fn h_need_stand (hr.mono (by decide)) (lenA_cons (lenA_cons lenA_nil)) (a_cons (e_var (pv 0)) (a_cons (e_var (pv 1)) a_nil))))
    (ss_cons (s_expr (e_fn h_need_row (hr.mono (by decide)) (lenA_cons lenA_nil) (a_cons (e_var (pv 2)) a_nil)))
    (ss_cons (s_expr (e_fn h_need_let (hr.mono (by decide)) (lenA_cons (lenA_cons (lenA_cons lenA_nil))) (a_cons (e_var (pv 0)) (a_cons (x_ix (e_var (pv 1)) k_int) (a_cons (e_var (pv 2)) a_nil)))))
    (ss_one (s_ret (e_fn h_exchange_by (hr.mono (by decide)) (lenA_cons (lenA_cons lenA_nil)) (a_cons (e_fn h_trades (hr.mono (by decide)) (lenA_cons (lenA_cons (lenA_cons lenA_nil))) (a_cons (e_var (pv 0)) (a_cons (e_var (pv 1)) (a_cons (e_var (pv 2)) a_nil)))) (a_cons (e_fn h_spots_of (hr.mono (by decide)) (lenA_cons lenA_nil) (a_cons (e_var (pv 0)) a_nil)) a_nil)))))))))
/-! ### law -/
abbrev s_law : Stmt := topS 61
abbrev N_law : List Str := ["_law_script", "_law_k", "_law_pen_here", "_law_floor_here", "_law_stand_here", "_law_row_here", "_law_marks_here", "_law_kept", "_law_due", "_law_moves_here", "_law_lap"]
theorem sc_law : FnScope N_law ["_law_script"] (defScope s_law) := ⟨rfl, rfl, rfl, by decide +kernel, rfl, by decide +kernel, by decide +kernel⟩
def m_law : SS := (sSeq (sFor (iRg1 (eCons (eThen (eCons (eC (.int 1)) (eCons (eThen (eCons (eThen (eCons (eVar 0) eNil) (kE oLen)) (eCons (eC (.int 4)) eNil)) (kE oMin)) eNil)) (kE oMax)) eNil)) (gN 1) (sSeq (sSet 2 (eCall f__law_pen (eCons (eCall f__law_cell_at (eCons (eVar 0) (eCons (eVar 1) eNil))) eNil)))
  (sSeq (sSet 3 (eCall f__law_floor (eCons (eVar 2) (eCons (eC (.int 9)) eNil))))
  (sSeq (sSet 4 (eCall f__law_stand (eCons (eVar 2) (eCons (eVar 3) eNil))))
  (sFor (iSeq (eThen (eCons (eCall f__law_row (eCons (eVar 2) (eCons (eVar 3) (eCons (eIx (eVar 4) (eC (.int 0))) (eCons (eC (.int 60)) eNil))))) (eCons (eCall f__law_row (eCons (eVar 2) (eCons (eVar 3) (eCons (eIx (eVar 4) (eC (.int 0))) (eCons (eC (.int 3)) eNil))))) (eCons (eC (.str "")) eNil))) kLst)) (gN 5) (sSeq (sSet 6 (eCall f__law_marks (eCons (eVar 2) (eCons (eVar 3) eNil))))
  (sSeq (sPar 7 8 (eCons (eThen (eCons (eThen (eCons (eVar 3) (eCons (eVar 4) (eCons (eVar 6) eNil))) kTup) eNil) (kE oRepr)) (eCons (eThen (eCons (eCall f__law_traded (eCons (eVar 3) (eCons (eVar 4) (eCons (eVar 5) (eCons (eVar 6) eNil))))) eNil) (kE oRepr)) eNil)))
  (sSeq (sSet 9 (eThen (eCons (eCall f__law_moves (eCons (eVar 3) (eCons (eVar 4) (eCons (eVar 5) eNil)))) eNil) (kE oRepr)))
  (sSeq (sFor (iRg1 (eCons (eC (.int 2)) eNil)) (gN 10) (sIf (bOr (bT (eNex (eThen (eCons (eCall f_marks_behind (eCons (eVar 3) (eCons (eVar 4) (eCons (eVar 5) (eCons (eVar 6) eNil))))) eNil) (kE oRepr)) (eVar 8))) (bT (eNex (eThen (eCons (eCall f_exchange (eCons (eVar 3) (eCons (eVar 4) (eCons (eVar 5) eNil)))) eNil) (kE oRepr)) (eVar 9)))) (sRet (eC (.bool false))) sPass))
  (sIf (bT (eNex (eThen (eCons (eThen (eCons (eVar 3) (eCons (eVar 4) (eCons (eVar 6) eNil))) kTup) eNil) (kE oRepr)) (eVar 7))) (sRet (eC (.bool false))) sPass))))))))))
  (sRet (eC (.bool true))))
def f_law : FnD := runFn 11 m_law
theorem q_law {P : Program} {w : World} {K : PySem.W.Frag} {mg : Str → Option Value} {base : Heap} {f : Addr} {fd : FuncData} (Fn : Fun K "law" "law" s_law f fd) (h__law_pen : Has P w K mg base "_law_pen" 1 f__law_pen 1) (h__law_cell_at : Has P w K mg base "_law_cell_at" 2 f__law_cell_at 1) (h__law_floor : Has P w K mg base "_law_floor" 2 f__law_floor 3) (h__law_stand : Has P w K mg base "_law_stand" 2 f__law_stand 3) (h__law_row : Has P w K mg base "_law_row" 4 f__law_row 3) (h__law_marks : Has P w K mg base "_law_marks" 2 f__law_marks 3) (h__law_traded : Has P w K mg base "_law_traded" 4 f__law_traded 3) (h__law_moves : Has P w K mg base "_law_moves" 3 f__law_moves 4) (h_exchange : Has P w K mg base "exchange" 3 f_exchange 6) (h_marks_behind : Has P w K mg base "marks_behind" 4 f_marks_behind 6) (z_range : mg "range" = none) (z_max : mg "max" = none) (z_min : mg "min" = none) (z_len : mg "len" = none) (z_repr : mg "repr" = none) : FnG P w K mg base 7 f fd ["_law_script"] (spF K f_law 1) := by
  have nd := sc_law.nd
  refine fn_okG (b := m_law) (N := N_law) (k := 6) Fn sc_law rfl fun cdv A outer s H E hr gd => ?_
  exact (ss_cons (s_for PassesOwn.never rfl (i_rg1 (by rfl) z_range (a_cons (x_blt (w_max rfl hr) z_max (a_cons k_int (a_cons (x_blt (w_min rfl hr) z_min (a_cons (x_blt (w_len rfl hr) z_len (a_cons (e_var (pv 0)) a_nil)) (a_cons k_int a_nil))) a_nil))) a_nil)) (g_name (i := 1) nd rfl (.inl rfl)) (ss_cons (s_set (i := 2) nd rfl (.inl rfl) (e_fn h__law_pen (hr.mono (by decide)) (lenA_cons lenA_nil) (a_cons (e_fn h__law_cell_at (hr.mono (by decide)) (lenA_cons (lenA_cons lenA_nil)) (a_cons (e_var (pv 0)) (a_cons (e_var (pv 1)) a_nil))) a_nil)))
    (ss_cons (s_set (i := 3) nd rfl (.inl rfl) (e_fn h__law_floor (hr.mono (by decide)) (lenA_cons (lenA_cons lenA_nil)) (a_cons (e_var (pv 2)) (a_cons k_int a_nil))))
    (ss_cons (s_set (i := 4) nd rfl (.inl rfl) (e_fn h__law_stand (hr.mono (by decide)) (lenA_cons (lenA_cons lenA_nil)) (a_cons (e_var (pv 2)) (a_cons (e_var (pv 3)) a_nil))))
    (ss_one (s_for PassesOwn.never rfl (i_seq (e_lst (a_cons (e_fn h__law_row (hr.mono (by decide)) (lenA_cons (lenA_cons (lenA_cons (lenA_cons lenA_nil)))) (a_cons (e_var (pv 2)) (a_cons (e_var (pv 3)) (a_cons (x_ix (e_var (pv 4)) k_int) (a_cons k_int a_nil))))) (a_cons (e_fn h__law_row (hr.mono (by decide)) (lenA_cons (lenA_cons (lenA_cons (lenA_cons lenA_nil)))) (a_cons (e_var (pv 2)) (a_cons (e_var (pv 3)) (a_cons (x_ix (e_var (pv 4)) k_int) (a_cons k_int a_nil))))) (a_cons k_str a_nil))))) (g_name (i := 5) nd rfl (.inl rfl)) (ss_cons (s_set (i := 6) nd rfl (.inl rfl) (e_fn h__law_marks (hr.mono (by decide)) (lenA_cons (lenA_cons lenA_nil)) (a_cons (e_var (pv 2)) (a_cons (e_var (pv 3)) a_nil))))
    (ss_cons (s_par (i := 7) (j := 8) rfl nd rfl rfl (by decide) rfl rfl (a_cons (x_blt (w_repr gd hr) z_repr (a_cons (e_tup (a_cons (e_var (pv 3)) (a_cons (e_var (pv 4)) (a_cons (e_var (pv 6)) a_nil)))) a_nil)) (a_cons (x_blt (w_repr gd hr) z_repr (a_cons (e_fn h__law_traded (hr.mono (by decide)) (lenA_cons (lenA_cons (lenA_cons (lenA_cons lenA_nil)))) (a_cons (e_var (pv 3)) (a_cons (e_var (pv 4)) (a_cons (e_var (pv 5)) (a_cons (e_var (pv 6)) a_nil))))) a_nil)) a_nil)) rfl)
    (ss_cons (s_set (i := 9) nd rfl (.inl rfl) (x_blt (w_repr gd hr) z_repr (a_cons (e_fn h__law_moves (hr.mono (by decide)) (lenA_cons (lenA_cons (lenA_cons lenA_nil))) (a_cons (e_var (pv 3)) (a_cons (e_var (pv 4)) (a_cons (e_var (pv 5)) a_nil)))) a_nil)))
    (ss_cons (s_for PassesOwn.never rfl (i_rg1 (by rfl) z_range (a_cons k_int a_nil)) (g_name (i := 10) nd rfl (.inl rfl)) (ss_one (s_if (PW.pt (b_or (y_cmp (q_nex hr) (x_blt (w_repr gd hr) z_repr (a_cons (e_fn h_marks_behind (hr.mono (by decide)) (lenA_cons (lenA_cons (lenA_cons (lenA_cons lenA_nil)))) (a_cons (e_var (pv 3)) (a_cons (e_var (pv 4)) (a_cons (e_var (pv 5)) (a_cons (e_var (pv 6)) a_nil))))) a_nil)) (e_var (pv 8))) (b_or1 (y_cmp (q_nex hr) (x_blt (w_repr gd hr) z_repr (a_cons (e_fn h_exchange (hr.mono (by decide)) (lenA_cons (lenA_cons (lenA_cons lenA_nil))) (a_cons (e_var (pv 3)) (a_cons (e_var (pv 4)) (a_cons (e_var (pv 5)) a_nil)))) a_nil)) (e_var (pv 9)))))) (ss_one (s_ret k_bl)) ss_nil)))
    (ss_one (s_if (y_cmp (q_nex hr) (x_blt (w_repr gd hr) z_repr (a_cons (e_tup (a_cons (e_var (pv 3)) (a_cons (e_var (pv 4)) (a_cons (e_var (pv 6)) a_nil)))) a_nil)) (e_var (pv 7))) (ss_one (s_ret k_bl)) ss_nil))))))))))))
    (ss_one (s_ret k_bl)))
end
end L05

end
section
set_option linter.all false
set_option autoImplicit false
set_option Elab.async false
set_option maxRecDepth 10000
namespace L05
open PySem L2 T3 MM
theorem is_whole_int (i m : Int) : f_is_whole [.pd (.int i), .pd (.int m)] = some (.pd (.bool (decide (0 ≤ i) && decide (i ≤ m))), [.pd (.int i), .pd (.int m)]) := by
  unfold f_is_whole
  rw [run_of (e := [some (.pd (.int i)), some (.pd (.int m))]) rfl]
  simp [m_is_whole, oIsi, isi5, eCh, Cm.f]
  by_cases h : 0 ≤ i <;> simp [h]
def inB (c : Cell) : Bool := (decide (0 ≤ c.1) && decide (c.1 ≤ 3)) && (decide (0 ≤ c.2) && decide (c.2 ≤ 3))
theorem is_cell_sp (c : Cell) : f_is_cell [.pd (clD c)] = some (.pd (.bool (inB c)), [.pd (clD c)]) := by
  unfold f_is_cell
  rw [run_of (e := [some (.pd (clD c)), none, none]) rfl]
  simp [m_is_cell, clD, oIsi, isi5, oLen, eNe, oNe, sh_int, eqv_int, is_whole_int, v_LAST_LINE, inB]
  by_cases h1 : 0 ≤ c.1 <;> by_cases h2 : c.1 ≤ 3 <;> simp [h1, h2]
def ltC (c d : Cell) : Bool := HT.lexLt [c.1, c.2] [d.1, d.2]
def chain : List Cell → Bool
  | c :: d :: r => ltC c d && chain (d :: r)
  | _ => true
theorem zip_cells : ∀ cs : List Cell, zipD (cs.map clD) (cs.tail.map clD) = (cs.zip cs.tail).map fun p => .tuple [clD p.1, clD p.2] := by
  intro cs
  have : ∀ (as bs : List Cell), zipD (as.map clD) (bs.map clD) = (as.zip bs).map fun p => .tuple [clD p.1, clD p.2] := by
    intro as
    induction as with
    | nil => intro bs; simp [zipD]
    | cons a as ih =>
      intro bs
      cases bs with
      | nil => simp [zipD]
      | cons b bs =>
        have := ih bs
        simp only [zipD] at this ⊢
        simp [this]
  exact this cs cs.tail
theorem chain_all : ∀ cs : List Cell, ((cs.zip cs.tail).map fun p => ltC p.1 p.2).all id = chain cs
  | [] => rfl
  | [_] => rfl
  | c :: d :: r => by
    have := chain_all (d :: r)
    simp only [List.tail_cons] at this ⊢
    simp [chain, this]
theorem cut1_d (xs : List PyData) : cutD xs (some 1) none = xs.tail := by
  unfold cutD
  rw [show HT.sIx xs.length 0 (some 1) = min 1 xs.length from HT.sIx_nat xs.length 0 1, HT.sIx_none]
  cases xs with
  | nil => rfl
  | cons x r => simp
theorem is_rising_sp (cs : List Cell) (h9 : cs.length ≤ 1000) : f_is_rising [.nt (cs.map clD)] = some (.pd (.bool (chain cs)), [.nt (cs.map clD)]) := by
  unfold f_is_rising
  rw [run_of (e := [some (.nt (cs.map clD)), none, none]) rfl]
  have e : lcL (gT 2 (gCn (gN 1) (gCn (gN 2) gNl))) bYes (eLt (eVar 1) (eVar 2)) [1, 2] ((cs.zip cs.tail).map fun p => .tuple [clD p.1, clD p.2]) [some (.nt (cs.map clD)), none, none] [] = some ((cs.zip cs.tail).map (fun p => .bool (ltC p.1 p.2)), [some (.nt (cs.map clD)), none, none]) :=
    lcL_all (cs.zip cs.tail) fun p _ => ⟨[some (.nt (cs.map clD)), some (.pd (clD p.1)), some (.pd (clD p.2))], .pd (.bool (ltC p.1 p.2)), [some (.nt (cs.map clD)), some (.pd (clD p.1)), some (.pd (clD p.2))], by simp [wipeE], by simp [eLt, kLt, kLt0, oI, oLtT, clD, ints?, ltC], rfl, by simp [unwipe]⟩
  have ht : (cs.map clD).tail = cs.tail.map clD := by simp
  have hl : cs.length ≤ 1000001 := by omega
  have hc := chain_all cs
  simp [m_is_rising, eLc, iZt, eSl, oSome, oNo, kSl, cut1_d, tupOf, ht, zip_cells, e, oAll, bools_of, hl, -List.map_tail, -List.all_map, hc]
def okFl (cs : List Cell) : Prop := 1 ≤ cs.length ∧ cs.length ≤ 9 ∧ (∀ c ∈ cs, inB c = true) ∧ chain cs = true
theorem is_floor_sp (cs : List Cell) (h : okFl cs) : f_is_floor [.nt (cs.map clD)] = some (.pd (.bool true), [.nt (cs.map clD)]) := by
  unfold f_is_floor
  rw [run_of (e := [some (.nt (cs.map clD)), none]) rfl]
  have e : lcL (gN 1) bYes (eCall f_is_cell (eCons (eVar 1) eNil)) [1] (cs.map clD) [some (.nt (cs.map clD)), none] [] = some (cs.map (fun c => .bool (inB c)), [some (.nt (cs.map clD)), none]) :=
    lcL_all cs fun c _ => ⟨[some (.nt (cs.map clD)), some (.pd (clD c))], .pd (.bool (inB c)), [some (.nt (cs.map clD)), some (.pd (clD c))], by simp [wipeE], by simp [is_cell_sp], rfl, by simp [unwipe]⟩
  obtain ⟨h1, h2, h3, h4⟩ := h
  have ha : (cs.map inB).all id = true := by simpa using h3
  have l1 : (1 : Int) ≤ cs.length := by omega
  have l2 : (cs.length : Int) ≤ 9 := by omega
  have l3 : cs.length ≤ 1000000 := by omega
  simp [m_is_floor, oIsi, isi5, eCh, Cm.f, oLen, v_MOST_CELLS, eLc, iSeq, e, oAll, bools_of, is_rising_sp cs (by omega), l1, l2, l3, h4, ha, -List.all_map, -List.length_map]
  simp [l1, l2, l3, e, oAll, bools_of, is_rising_sp cs (by omega), ha, h4, List.length_map, -List.all_map]
theorem need_floor_sp (cs : List Cell) (h : okFl cs) : f_need_floor [.nt (cs.map clD)] = some (.pd .none, [.nt (cs.map clD)]) := by
  unfold f_need_floor
  rw [run_of (e := [some (.nt (cs.map clD))]) rfl]
  simp [m_need_floor, is_floor_sp cs h]
theorem is_cell_of_sp (cs : List Cell) (c : Cell) (hc : c ∈ cs) (hb : inB c = true) : f_is_cell_of [.nt (cs.map clD), .pd (clD c)] = some (.pd (.bool true), [.nt (cs.map clD), .pd (clD c)]) := by
  unfold f_is_cell_of
  rw [run_of (e := [some (.nt (cs.map clD)), some (.pd (clD c))]) rfl]
  simp [m_is_cell_of, is_cell_sp, hb, eIn, oIn, sh_cell, sh_cells, any_cell, hc, -List.any_map, -List.any_eq_true]
theorem ly_all : ∀ l ∈ lyings, 0 ≤ l.1 ∧ l.1 ≤ 5 ∧ 0 ≤ l.2.1 ∧ l.2.1 ≤ 5 ∧ 0 ≤ l.2.2 ∧ l.2.2 ≤ 5 := by decide
theorem is_lying_sp (l : Ly) (hl : l ∈ lyings) : f_is_lying [.pd (lyD l)] = some (.pd (.bool true), [.pd (lyD l)]) := by
  have e : lcL (gN 1) bYes (eCall f_is_whole (eCons (eVar 1) (eCons (eC v_OPPOSITE_SUM) eNil))) [1] ([l.1, l.2.1, l.2.2].map .int) [some (.pd (lyD l)), none] [] = some ([l.1, l.2.1, l.2.2].map (fun i => .bool (decide (0 ≤ i) && decide (i ≤ 5))), [some (.pd (lyD l)), none]) :=
    lcL_all [l.1, l.2.1, l.2.2] fun i _ => ⟨[some (.pd (lyD l)), some (.pd (.int i))], .pd (.bool (decide (0 ≤ i) && decide (i ≤ 5))), [some (.pd (lyD l)), some (.pd (.int i))], by simp [wipeE], by simp [is_whole_int, v_OPPOSITE_SUM], rfl, by simp [unwipe]⟩
  obtain ⟨b1, b2, b3, b4, b5, b6⟩ := ly_all l hl
  have hv : v_LYINGS = .tuple (lyings.map lyD) := by rfl
  have hs : SeqAt.shaped (.tuple (lyings.map lyD)) = true := sh_tup lyD (fun c => by simp [lyD, PyData.canLay0, PyData.canLayAll0]) (fun c => by simp [lyD, PyData.depth, PyData.depthAll]) lyings
  have hi : ((lyings.map lyD).any fun z => PyData.eqv z (lyD l)) = true := by
    rw [List.any_eq_true]
    exact ⟨lyD l, List.mem_map.mpr ⟨l, hl, rfl⟩, by rw [eqv_ly]; simp⟩
  unfold f_is_lying
  rw [run_of (e := [some (.pd (lyD l)), none]) rfl]
  have es : iSeq (eVar 0) [some (.pd (lyD l)), none] = some ([l.1, l.2.1, l.2.2].map .int, none, [some (.pd (lyD l)), none]) := by simp [iSeq, lyD]
  have eo : oIsi .tuple [lyD l] = some (.bool true) := rfl
  simp only [m_is_lying, z_seq, z_if, z_bNot, z_bT, z_then, z_one, z_cons, z_var, z_nil, List.getElem?_cons_zero, z_kE, z_ctns1, z_ctns0, z_ctn1, eo, Bool.not_true, Bool.false_eq_true, if_false, z_pass, z_ret, z_eB, z_bAnd, eLc, es, e, List.length_map, z_unl, z_ctn3, oAll]
  simp [bools?, b1, b2, b3, b4, b5, b6, eIn, oIn, hv, sh_ly, hs, hi, -List.any_map, -List.any_eq_true]
theorem is_stand_sp (cs : List Cell) (c : Cell) (l : Ly) (hc : c ∈ cs) (hb : inB c = true) (hl : l ∈ lyings) : f_is_stand [.nt (cs.map clD), .pd (stD c l)] = some (.pd (.bool true), [.nt (cs.map clD), .pd (stD c l)]) := by
  unfold f_is_stand
  rw [run_of (e := [some (.nt (cs.map clD)), some (.pd (stD c l)), none, none]) rfl]
  simp [m_is_stand, stD, oIsi, isi5, oLen, eNe, oNe, sh_int, eqv_int, is_cell_of_sp cs c hc hb, is_lying_sp l hl]
theorem need_stand_sp (cs : List Cell) (c : Cell) (l : Ly) (hc : c ∈ cs) (hb : inB c = true) (hl : l ∈ lyings) : f_need_stand [.nt (cs.map clD), .pd (stD c l)] = some (.pd .none, [.nt (cs.map clD), .pd (stD c l)]) := by
  unfold f_need_stand
  rw [run_of (e := [some (.nt (cs.map clD)), some (.pd (stD c l))]) rfl]
  simp [m_need_stand, is_stand_sp cs c l hc hb hl]
theorem is_letter_sp (d : Dir) : f_is_letter [.pd (.str (chS d))] = some (.pd (.bool true), [.pd (.str (chS d))]) := by
  unfold f_is_letter
  rw [run_of (e := [some (.pd (.str (chS d)))]) rfl]
  have hv : v_LETTERS = .tuple ([Dir.n, .e, .s, .w].map fun d => .str (chS d)) := by
    simp only [v_LETTERS, List.map_cons, List.map_nil, chS_n, chS_e, chS_s, chS_w]
  have hs : SeqAt.shaped (.tuple ([Dir.n, .e, .s, .w].map fun d => .str (chS d))) = true := sh_tup _ (fun d => by have := SeqAt.canLay_of_shaped (sh_ch d); exact this) (fun d => by simp [PyData.depth]) _
  have hi : (([Dir.n, .e, .s, .w].map fun d => PyData.str (chS d)).any fun z => PyData.eqv z (.str (chS d))) = true := by
    rw [List.any_eq_true]
    exact ⟨.str (chS d), List.mem_map.mpr ⟨d, by cases d <;> simp, rfl⟩, by rw [eqv_ch]; simp⟩
  simp only [m_is_letter, hv]
  simp only [z_ret, z_eB, z_bAnd, z_bT, z_then, z_one, z_cons, z_var, z_nil, List.getElem?_cons_zero, z_kE, z_ctns1, z_ctns0, z_ctn1, oIsi, isi5, if_true, eIn, z_two, z_c, oIn, sh_ch, hs, hi, and_self, z_out1, z_fin1, z_fin0]
  rfl
theorem is_row_sp (ds : List Dir) (hl : ds.length ≤ 1000) : f_is_row [.pd (.str (rowS ds))] = some (.pd (.bool true), [.pd (.str (rowS ds))]) := by
  unfold f_is_row
  rw [run_of (e := [some (.pd (.str (rowS ds))), none]) rfl]
  have e : lcL (gN 1) bYes (eCall f_is_letter (eCons (eVar 1) eNil)) [1] (ds.map fun d => .str (chS d)) [some (.pd (.str (rowS ds))), none] [] = some (ds.map (fun _ => .bool true), [some (.pd (.str (rowS ds))), none]) :=
    lcL_all ds fun d _ => ⟨[some (.pd (.str (rowS ds))), some (.pd (.str (chS d)))], .pd (.bool true), [some (.pd (.str (rowS ds))), some (.pd (.str (chS d)))], by simp [wipeE], by simp [is_letter_sp], rfl, by simp [unwipe]⟩
  have l3 : ds.length ≤ 1000000 := by omega
  have bs := bools_of (fun _ : Dir => true) ds
  have hb : (ds.map (fun _ : Dir => true)).all id = true := by simp
  simp [m_is_row, oIsi, isi5, eLc, iSeq, signs_row, e, l3, oAll, bs, hb, -List.all_map, -List.map_const']
theorem need_row_sp (ds : List Dir) (hl : ds.length ≤ 1000) : f_need_row [.pd (.str (rowS ds))] = some (.pd .none, [.pd (.str (rowS ds))]) := by
  unfold f_need_row
  rw [run_of (e := [some (.pd (.str (rowS ds)))]) rfl]
  simp [m_need_row, is_row_sp ds hl]
theorem steps_look (d : Dir) : v_STEPS.lookup (chS d) = some (.tuple [.int (stepC (0, 0) d).1, .int (stepC (0, 0) d).2]) := by
  cases d <;> rfl
theorem rolled_cell_sp (c : Cell) (d : Dir) : f_rolled_cell [.pd (clD c), .pd (.str (chS d))] = some (.pd (clD (stepC c d)), [.pd (clD c), .pd (.str (chS d))]) := by
  unfold f_rolled_cell
  rw [run_of (e := [some (.pd (clD c)), some (.pd (.str (chS d))), none, none, none, none]) rfl]
  simp [m_rolled_cell, clD, eKd, steps_look, eAdd, kAdd, oI]
  cases d <;> simp [stepC] <;> omega
theorem rolled_lying_sp (l : Ly) (d : Dir) : f_rolled_lying [.pd (lyD l), .pd (.str (chS d))] = some (.pd (lyD (roll l d)), [.pd (lyD l), .pd (.str (chS d))]) := by
  unfold f_rolled_lying
  rw [run_of (e := [some (.pd (lyD l)), some (.pd (.str (chS d))), none, none, none]) rfl]
  cases d <;> simp [m_rolled_lying, lyD, eEq, oEq, ← chS_n, ← chS_s, ← chS_e, sh_ch, eqv_ch, eSub, kSub, oI, v_OPPOSITE_SUM, roll]
theorem rolled_stand_sp (c : Cell) (l : Ly) (d : Dir) : f_rolled_stand [.pd (stD c l), .pd (.str (chS d))] = some (.pd (stD (stepC c d) (roll l d)), [.pd (stD c l), .pd (.str (chS d))]) := by
  unfold f_rolled_stand
  rw [run_of (e := [some (.pd (stD c l)), some (.pd (.str (chS d))), none, none]) rfl]
  simp [m_rolled_stand, stD, rolled_cell_sp, rolled_lying_sp]
/-! rows -/
def letR (cs : List Cell) : Cell → List Dir → Prop
  | _, [] => True
  | c, d :: ds => stepC c d ∈ cs ∧ letR cs (stepC c d) ds
def endC (c : Cell) (ds : List Dir) : Cell := ds.foldl stepC c
def endL (l : Ly) (ds : List Dir) : Ly := ds.foldl roll l
theorem enum_row (ds : List Dir) : enumD (signs (rowS ds)) 0 = (ds.zipIdx).map fun p => .tuple [.int (p.2 : Nat), .str (chS p.1)] := by
  rw [signs_row]
  apply List.ext_getElem?
  intro i
  by_cases h : i < ds.length
  · simp [enumD, h]
  · simp [enumD, h]
theorem place_off_loop (cs : List Cell) (a1 a2 : S) : ∀ (ds : List Dir) (k : Nat) (c : Cell) (s4 s5 : Option S), letR cs c ds → (s4 = none ∨ ∃ x, s4 = some (.pd x)) → (s5 = none ∨ ∃ x, s5 = some (.pd x)) →
    ∃ c' s4' s5', forL (gT 2 (gCn (gN 4) (gCn (gN 5) gNl))) (sSeq (sSet 3 (eCall f_rolled_cell (eCons (eVar 3) (eCons (eVar 5) eNil)))) (sIf (bT (eNin (eVar 3) (eVar 0))) (sRet (eVar 4)) sPass)) ((ds.zipIdx k).map fun p => .tuple [.int (p.2 : Nat), .str (chS p.1)]) [some (.nt (cs.map clD)), some a1, some a2, some (.pd (clD c)), s4, s5] = some (.nx, [some (.nt (cs.map clD)), some a1, some a2, some (.pd (clD c')), s4', s5'])
  | [], k, c, s4, s5, _, _, _ => ⟨c, s4, s5, rfl⟩
  | d :: ds, k, c, s4, s5, h, h4, h5 => by
    obtain ⟨h1, h2⟩ := h
    obtain ⟨c', s4', s5', ih⟩ := place_off_loop cs a1 a2 ds (k + 1) (stepC c d) (some (.pd (.int (k : Nat)))) (some (.pd (.str (chS d)))) h2 (.inr ⟨_, rfl⟩) (.inr ⟨_, rfl⟩)
    refine ⟨c', s4', s5', ?_⟩
    rw [List.zipIdx_cons, List.map_cons]
    unfold forL
    have hn : ¬ ((cs.map clD).any fun z => PyData.eqv z (clD (stepC c d))) = false := by rw [any_cell]; simp [h1]
    rcases h4 with rfl | ⟨x4, rfl⟩ <;> rcases h5 with rfl | ⟨x5, rfl⟩ <;>
      (simp [rolled_cell_sp, eNin, oIn, sh_cell, sh_cells, any_cell, h1, -List.any_map, -List.any_eq_true]; exact ih)
theorem place_off_sp (cs : List Cell) (c : Cell) (ds : List Dir) (h : letR cs c ds) : f_place_off [.nt (cs.map clD), .pd (clD c), .pd (.str (rowS ds))] = some (.pd .none, [.nt (cs.map clD), .pd (clD c), .pd (.str (rowS ds))]) := by
  unfold f_place_off
  rw [run_of (e := [some (.nt (cs.map clD)), some (.pd (clD c)), some (.pd (.str (rowS ds))), none, none, none]) rfl]
  obtain ⟨c', s4', s5', e⟩ := place_off_loop cs (.pd (clD c)) (.pd (.str (rowS ds))) ds 0 c none none h (.inl rfl) (.inl rfl)
  simp [m_place_off, iEn, enum_row, e]
theorem need_let_sp (cs : List Cell) (c : Cell) (ds : List Dir) (h : letR cs c ds) : f_need_let [.nt (cs.map clD), .pd (clD c), .pd (.str (rowS ds))] = some (.pd .none, [.nt (cs.map clD), .pd (clD c), .pd (.str (rowS ds))]) := by
  unfold f_need_let
  rw [run_of (e := [some (.nt (cs.map clD)), some (.pd (clD c)), some (.pd (.str (rowS ds)))]) rfl]
  simp [m_need_let, place_off_sp cs c ds h, eIsn, oIsN, isN]
theorem atI_at {α : Type} {xs : List α} {i : Int} {x : α} (h0 : 0 ≤ i) (h : xs[i.toNat]? = some x) : atI xs i = some x := by
  obtain ⟨hl, e⟩ := List.getElem?_eq_some_iff.mp h
  unfold atI ixN
  have : i < xs.length := by omega
  simp [h0, this, e]
theorem ixN_at {n : Nat} {i : Int} (h0 : 0 ≤ i) (h : i < n) : ixN n i = some i.toNat := by
  unfold ixN; simp [h0, h]
def ups (n : Nat) : List Int := (List.range n).map fun k => ((k : Nat) : Int)
theorem ups_len (n : Nat) : (ups n).length = n := by simp [ups]
theorem rgT_ups (n : Nat) : rgT 0 (n : Int) = (ups n).map .int := by
  simp [rgT, ups]
theorem rgD_ups (n : Nat) : rgD 0 n 1 = (ups n).map .int := by
  simp [rgD, ups]
theorem rgOk_of (n : Nat) (h : n ≤ 1000) : RgOk 0 (n : Int) := by
  refine ⟨by decide, by decide, ?_, ?_, ?_⟩
  · have : (-2 ^ 62 : Int) ≤ 0 := by decide
    omega
  · have : (1000 : Int) < 2 ^ 62 := by decide
    omega
  · have : 1000 ≤ 2 ^ 24 := by decide
    omega
theorem kTrg1 (n : Int) (env : Sl) (h : RgOk 0 n) : kTrg [.pd (.int n)] env = some (.pd (.tuple (rgT 0 n)), env) := by
  show (if RgOk 0 n then some (R.pd (.tuple (rgT 0 n)), env) else none) = _
  exact if_pos h
theorem spots_of_sp (cs : List Cell) (h9 : cs.length ≤ 9) : f_spots_of [.nt (cs.map clD)] = some (.pd (.tuple ((ups (6 + cs.length)).map .int)), [.nt (cs.map clD)]) := by
  unfold f_spots_of
  rw [run_of (e := [some (.nt (cs.map clD))]) rfl]
  have r : RgOk 0 (6 + (cs.length : Int)) := by
    have := rgOk_of (6 + cs.length) (by omega)
    rw [show ((6 + cs.length : Nat) : Int) = 6 + (cs.length : Int) by omega] at this
    exact this
  have e : rgT 0 (6 + (cs.length : Int)) = (ups (6 + cs.length)).map .int := by
    rw [← rgT_ups]; simp
  simp [m_spots_of, eTrg, eAdd, kAdd, oI, v_FACES, oLen, kTrg1 _ _ r, e]
def okM (n : Nat) (ms : List Int) : Prop := ms.length = n ∧ ∀ m ∈ ms, 0 ≤ m ∧ m ≤ 999
def isT (s : S) (xs : List PyData) : Prop := s = .pd (.tuple xs) ∨ s = .nt xs
theorem is_marks_sp (cs : List Cell) (ms : List Int) (s : S) (hs : isT s (ms.map .int)) (h9 : cs.length ≤ 9) (hm : okM (6 + cs.length) ms) : f_is_marks [.nt (cs.map clD), s] = some (.pd (.bool true), [.nt (cs.map clD), s]) := by
  have e : ∀ s' : S, lcL (gN 2) bYes (eCall f_is_whole (eCons (eVar 2) (eCons (eC v_MOST_MARK) eNil))) [2] (ms.map .int) [some (.nt (cs.map clD)), some s', none] [] = some (ms.map (fun i => .bool (decide (0 ≤ i) && decide (i ≤ 999))), [some (.nt (cs.map clD)), some s', none]) := fun s' =>
    lcL_all ms fun i _ => ⟨[some (.nt (cs.map clD)), some s', some (.pd (.int i))], .pd (.bool (decide (0 ≤ i) && decide (i ≤ 999))), [some (.nt (cs.map clD)), some s', some (.pd (.int i))], by simp [wipeE], by simp [is_whole_int, v_MOST_MARK], rfl, by simp [unwipe]⟩
  obtain ⟨h1, h2⟩ := hm
  have l3 : 6 + cs.length ≤ 1000000 := by omega
  have hb : (ms.map (fun i => (decide (0 ≤ i) && decide (i ≤ 999)))).all id = true := by
    simp only [List.all_map, List.all_eq_true]
    intro x hx
    have := h2 x hx
    simp [this]
  have bs := bools_of (fun i : Int => (decide (0 ≤ i) && decide (i ≤ 999))) ms
  have hl : (ms.length : Int) = (6 + cs.length : Nat) := by omega
  rcases hs with rfl | rfl
  · unfold f_is_marks
    rw [run_of (e := [some (.nt (cs.map clD)), some (.pd (.tuple (ms.map .int))), none]) rfl]
    simp [m_is_marks, oIsi, isi5, eNe, oNe, oLen, spots_of_sp cs h9, ups_len, sh_int, eqv_int, h1, eLc, iSeq, e, oAll, bs, hb, -List.all_map, -List.length_map]
    simp [m_is_marks, oIsi, isi5, eNe, oNe, oLen, spots_of_sp cs h9, ups_len, sh_int, eqv_int, h1, eLc, iSeq, e, oAll, bs, hb, l3, -List.all_map]
  · unfold f_is_marks
    rw [run_of (e := [some (.nt (cs.map clD)), some (.nt (ms.map .int)), none]) rfl]
    simp [m_is_marks, oIsi, isi5, eNe, oNe, oLen, spots_of_sp cs h9, ups_len, sh_int, eqv_int, h1, eLc, iSeq, e, oAll, bs, hb, -List.all_map, -List.length_map]
    simp [m_is_marks, oIsi, isi5, eNe, oNe, oLen, spots_of_sp cs h9, ups_len, sh_int, eqv_int, h1, eLc, iSeq, e, oAll, bs, hb, l3, -List.all_map]
theorem forL_cons {g : GG} {body : SS} {x : PyData} {xs : List PyData} {env e1 e2 : Sl} (h1 : g x env = some e1) (h2 : body e1 = some (.nx, e2)) : forL g body (x :: xs) env = forL g body xs e2 := by
  simp [forL, h1, h2]
theorem need_marks_sp (cs : List Cell) (ms : List Int) (s : S) (hs : isT s (ms.map .int)) (h9 : cs.length ≤ 9) (hm : okM (6 + cs.length) ms) : f_need_marks [.nt (cs.map clD), s] = some (.pd .none, [.nt (cs.map clD), s]) := by
  have e := is_marks_sp cs ms s hs h9 hm
  rcases hs with rfl | rfl
  · unfold f_need_marks
    rw [run_of (e := [some (.nt (cs.map clD)), some (.pd (.tuple (ms.map .int)))]) rfl]
    simp [m_need_marks, e]
  · unfold f_need_marks
    rw [run_of (e := [some (.nt (cs.map clD)), some (.nt (ms.map .int))]) rfl]
    simp [m_need_marks, e]
theorem firstIx_cell (c : Cell) : ∀ cs : List Cell, c ∈ cs → firstIx (clD c) (cs.map clD) = some (cs.idxOf c)
  | [], h => by simp at h
  | a :: cs, h => by
    rw [List.map_cons, firstIx, eqv_cell]
    by_cases e : a = c
    · simp [e]
    · have : c ∈ cs := by
        rcases List.mem_cons.mp h with h | h
        · exact absurd h.symm e
        · exact h
      simp [e, firstIx_cell c cs this, List.idxOf_cons, beq_eq_false_iff_ne.mpr e]
theorem firstIx_nat (c : Nat) : ∀ cs : List Nat, c ∈ cs → firstIx (.int (c : Int)) (cs.map fun k => .int ((k : Nat) : Int)) = some (cs.idxOf c)
  | [], h => by simp at h
  | a :: cs, h => by
    rw [List.map_cons, firstIx, eqv_int]
    by_cases e : a = c
    · simp [e]
    · have : c ∈ cs := by
        rcases List.mem_cons.mp h with h | h
        · exact absurd h.symm e
        · exact h
      have e' : ¬ (a : Int) = c := by omega
      simp [e, e', firstIx_nat c cs this, List.idxOf_cons, beq_eq_false_iff_ne.mpr e]
def trd (cs : List Cell) : Cell → Ly → List Dir → List (Int × Int)
  | _, _, [] => []
  | c, l, d :: ds => ((roll l d).1, 6 + (cs.idxOf (stepC c d) : Int)) :: trd cs (stepC c d) (roll l d) ds
theorem trd_len (cs : List Cell) : ∀ (ds : List Dir) (c : Cell) (l : Ly), (trd cs c l ds).length = ds.length
  | [], _, _ => rfl
  | d :: ds, c, l => by simp [trd, trd_len cs ds]
def Fr (s : Option S) : Prop := s = none ∨ ∃ x, s = some (.pd x)
theorem spot_of_cell_sp (cs : List Cell) (c : Cell) (h : c ∈ cs) : f_spot_of_cell [.nt (cs.map clD), .pd (clD c)] = some (.pd (.int (6 + (cs.idxOf c : Int))), [.nt (cs.map clD), .pd (clD c)]) := by
  have hf := firstIx_cell c cs h
  unfold f_spot_of_cell
  rw [run_of (e := [some (.nt (cs.map clD)), some (.pd (clD c))]) rfl]
  simp [m_spot_of_cell, eBM, eAdd, kAdd, oI, v_FACES, isNt, kIxT, oIxT, sh_cells, sh_cell, hf]
theorem trade_at_sp (cs : List Cell) (c : Cell) (l : Ly) (h : c ∈ cs) : f_trade_at [.nt (cs.map clD), .pd (stD c l)] = some (.pd (clD (l.1, 6 + (cs.idxOf c : Int))), [.nt (cs.map clD), .pd (stD c l)]) := by
  have hz : atI [PyData.int l.1, .int l.2.1, .int l.2.2] 0 = some (.int l.1) := rfl
  have sl : stD c l = .tuple [clD c, lyD l] := rfl
  have ll : lyD l = .tuple [.int l.1, .int l.2.1, .int l.2.2] := rfl
  have hd : clD (l.1, 6 + (cs.idxOf c : Int)) = .tuple [.int l.1, .int (6 + (cs.idxOf c : Int))] := rfl
  unfold f_trade_at
  rw [run_of (e := [some (.nt (cs.map clD)), some (.pd (stD c l)), none, none]) rfl]
  simp [m_trade_at, sl, spot_of_cell_sp cs c h, eIx, oIx, ll, hz, hd]
theorem trades_loop (cs : List Cell) (a1 a2 : S) : ∀ (ds : List Dir) (c : Cell) (l : Ly) (acc : List PyData) (s5 : Option S), letR cs c ds → acc.length + ds.length ≤ 1000 → Fr s5 →
    ∃ x s5', forL (gN 5) (sSeq (sSet 4 (eCall f_rolled_stand (eCons (eVar 4) (eCons (eVar 5) eNil))))
  (sExpr (eBM isL (eVar 3) (eCons (eCall f_trade_at (eCons (eVar 0) (eCons (eVar 4) eNil))) eNil) kAppend))) (ds.map fun d => .str (chS d)) [some (.nt (cs.map clD)), some a1, some a2, some (.mu .own (.ls acc)), some (.pd (stD c l)), s5] = some (.nx, [some (.nt (cs.map clD)), some a1, some a2, some (.mu .own (.ls (acc ++ (trd cs c l ds).map clD))), some (.pd x), s5'])
  | [], c, l, acc, s5, _, _, _ => ⟨stD c l, s5, by simp [forL, trd]⟩
  | d :: ds, c, l, acc, s5, h, ha, h5 => by
    obtain ⟨h1, h2⟩ := h
    obtain ⟨x, s5', ih⟩ := trades_loop cs a1 a2 ds (stepC c d) (roll l d) (acc ++ [clD ((roll l d).1, 6 + (cs.idxOf (stepC c d) : Int))]) (some (.pd (.str (chS d)))) h2 (by simp at ha ⊢; omega) (.inr ⟨_, rfl⟩)
    refine ⟨x, s5', ?_⟩
    have hl : acc.length ≤ 1000000 := by omega
    rw [List.map_cons, forL_cons (e1 := [some (.nt (cs.map clD)), some a1, some a2, some (.mu .own (.ls acc)), some (.pd (stD c l)), some (.pd (.str (chS d)))]) (e2 := [some (.nt (cs.map clD)), some a1, some a2, some (.mu .own (.ls (acc ++ [clD ((roll l d).1, 6 + (cs.idxOf (stepC c d) : Int))]))), some (.pd (stD (stepC c d) (roll l d))), some (.pd (.str (chS d)))]) ?_ ?_, ih]
    · simp [trd]
    · rcases h5 with rfl | ⟨x5, rfl⟩ <;> simp
    · simp [rolled_stand_sp, trade_at_sp cs _ (roll l d) h1, eBM, isL, kAppend, hl]
theorem trades_sp (cs : List Cell) (c : Cell) (l : Ly) (ds : List Dir) (h : letR cs c ds) (hl : ds.length ≤ 1000) : f_trades [.nt (cs.map clD), .pd (stD c l), .pd (.str (rowS ds))] = some (.tmp (.ls ((trd cs c l ds).map clD)), [.nt (cs.map clD), .pd (stD c l), .pd (.str (rowS ds))]) := by
  obtain ⟨x, s5', e⟩ := trades_loop cs (.pd (stD c l)) (.pd (.str (rowS ds))) ds c l [] none h (by simpa using hl) (.inl rfl)
  unfold f_trades
  rw [run_of (e := [some (.nt (cs.map clD)), some (.pd (stD c l)), some (.pd (.str (rowS ds))), none, none, none]) rfl]
  simp [m_trades, iSeq, signs_row, e]
theorem held_loop (a0 a1 : S) : ∀ (ps : List (Int × Int)) (xs : List PyData) (s3 s4 : Option S), (∀ p ∈ ps, 0 ≤ p.1 ∧ p.1 < xs.length ∧ 0 ≤ p.2 ∧ p.2 < xs.length) → Fr s3 → Fr s4 →
    ∃ s3' s4', forL (gT 2 (gCn (gN 3) (gCn (gN 4) gNl))) (sAsg (eThen (eCons (eIx (eVar 2) (eVar 4)) (eCons (eIx (eVar 2) (eVar 3)) eNil)) kTup) (gT 2 (gCn (gS (eVar 2) (eVar 3)) (gCn (gS (eVar 2) (eVar 4)) gNl)))) (ps.map clD) [some a0, some a1, some (.mu .own (.ls xs)), s3, s4] = some (.nx, [some a0, some a1, some (.mu .own (.ls (held xs ps))), s3', s4'])
  | [], xs, s5, s6, _, _, _ => ⟨s5, s6, rfl⟩
  | p :: ps, xs, s5, s6, h, h5, h6 => by
    obtain ⟨b1, b2, b3, b4⟩ := h p (by simp)
    obtain ⟨s5', s6', ih⟩ := held_loop a0 a1 ps (swp xs p) (some (.pd (.int p.1))) (some (.pd (.int p.2))) (fun q hq => by rw [swp_len]; exact h q (by simp [hq])) (.inr ⟨_, rfl⟩) (.inr ⟨_, rfl⟩)
    refine ⟨s5', s6', ?_⟩
    have l1 : p.1.toNat < xs.length := by omega
    have l2 : p.2.toNat < xs.length := by omega
    have g1 := atI_at (x := xs[p.1.toNat]) b1 (List.getElem?_eq_getElem l1)
    have g2 := atI_at (x := xs[p.2.toNat]) b3 (List.getElem?_eq_getElem l2)
    have sw : swp xs p = (xs.set p.1.toNat xs[p.2.toNat]).set p.2.toNat xs[p.1.toNat] := by
      simp [swp, List.getElem?_eq_getElem l1, List.getElem?_eq_getElem l2]
    have i1 := ixN_at b1 b2
    have i2 := ixN_at b3 b4
    rw [List.map_cons, forL_cons (e1 := [some a0, some a1, some (.mu .own (.ls xs)), some (.pd (.int p.1)), some (.pd (.int p.2))]) (e2 := [some a0, some a1, some (.mu .own (.ls (swp xs p))), some (.pd (.int p.1)), some (.pd (.int p.2))]) ?_ ?_, ih]
    · rfl
    · rcases h5 with rfl | ⟨x5, rfl⟩ <;> rcases h6 with rfl | ⟨x6, rfl⟩ <;> simp [clD]
    · simp [eIx, oIx, g1, g2, gS, putL, i1, i2, sw]
theorem held_traded_sp (ps : List (Int × Int)) (xs : List PyData) (s : S) (hs : isT s xs) (hp : ∀ p ∈ ps, 0 ≤ p.1 ∧ p.1 < xs.length ∧ 0 ≤ p.2 ∧ p.2 < xs.length) : f_held_traded [.mu .bor (.ls (ps.map clD)), s] = some (.nt (held xs ps), [.mu .bor (.ls (ps.map clD)), s]) := by
  obtain ⟨s5', s6', e⟩ := held_loop (.mu .fro (.ls (ps.map clD))) s ps xs none none hp (.inl rfl) (.inl rfl)
  rcases hs with rfl | rfl
  · unfold f_held_traded
    rw [run_of (e := [some (.mu .bor (.ls (ps.map clD))), some (.pd (.tuple xs)), none, none, none]) rfl]
    simp [m_held_traded, oList, iSeq, e, kTupN]
  · unfold f_held_traded
    rw [run_of (e := [some (.mu .bor (.ls (ps.map clD))), some (.nt xs), none, none, none]) rfl]
    simp [m_held_traded, oList, iSeq, e, kTupN]
theorem held_behind_sp (cs : List Cell) (c : Cell) (l : Ly) (ds : List Dir) (xs : List PyData) (s : S) (hs : isT s xs) (h : letR cs c ds) (hl : ds.length ≤ 1000) (hp : ∀ p ∈ trd cs c l ds, 0 ≤ p.1 ∧ p.1 < xs.length ∧ 0 ≤ p.2 ∧ p.2 < xs.length) : f_held_behind [.nt (cs.map clD), .pd (stD c l), .pd (.str (rowS ds)), s] = some (.nt (held xs (trd cs c l ds)), [.nt (cs.map clD), .pd (stD c l), .pd (.str (rowS ds)), s]) := by
  have e := held_traded_sp (trd cs c l ds) xs s hs hp
  rcases hs with rfl | rfl
  · unfold f_held_behind
    rw [run_of (e := [some (.nt (cs.map clD)), some (.pd (stD c l)), some (.pd (.str (rowS ds))), some (.pd (.tuple xs))]) rfl]
    simp [m_held_behind, trades_sp cs c l ds h hl, e]
  · unfold f_held_behind
    rw [run_of (e := [some (.nt (cs.map clD)), some (.pd (stD c l)), some (.pd (.str (rowS ds))), some (.nt xs)]) rfl]
    simp [m_held_behind, trades_sp cs c l ds h hl, e]
structure Sit (cs : List Cell) (c : Cell) (l : Ly) (ds : List Dir) : Prop where
  fl : okFl cs
  mem : c ∈ cs
  ly : l ∈ lyings
  lt : letR cs c ds
  ln : ds.length ≤ 1000
theorem trd_ok (cs : List Cell) : ∀ (ds : List Dir) (c : Cell) (l : Ly), l ∈ lyings → letR cs c ds → ∀ p ∈ trd cs c l ds, 0 ≤ p.1 ∧ p.1 < 6 ∧ 6 ≤ p.2 ∧ p.2 < 6 + (cs.length : Int)
  | [], _, _, _, _, p, hp => by simp [trd] at hp
  | d :: ds, c, l, hl, h, p, hp => by
    obtain ⟨h1, h2⟩ := h
    rcases List.mem_cons.mp hp with rfl | hp
    · have b := ly_bound _ (roll_mem l hl d)
      have i := List.idxOf_lt_length_iff.mpr h1
      simp only
      omega
    · exact trd_ok cs ds _ _ (roll_mem l hl d) h2 p hp
theorem Sit.trd {cs : List Cell} {c : Cell} {l : Ly} {ds : List Dir} (h : Sit cs c l ds) {n : Nat} (hn : n = 6 + cs.length) : ∀ p ∈ trd cs c l ds, 0 ≤ p.1 ∧ p.1 < n ∧ 0 ≤ p.2 ∧ p.2 < n := by
  intro p hp
  have := trd_ok cs ds c l h.ly h.lt p hp
  omega
theorem Sit.b {cs : List Cell} {c : Cell} {l : Ly} {ds : List Dir} (h : Sit cs c l ds) : inB c = true := h.fl.2.2.1 c h.mem
theorem marks_behind_sp {cs : List Cell} {c : Cell} {l : Ly} {ds : List Dir} (h : Sit cs c l ds) (ms : List Int) (s : S) (hs : isT s (ms.map .int)) (hm : okM (6 + cs.length) ms) : f_marks_behind [.nt (cs.map clD), .pd (stD c l), .pd (.str (rowS ds)), s] = some (.nt ((held ms (trd cs c l ds)).map .int), [.nt (cs.map clD), .pd (stD c l), .pd (.str (rowS ds)), s]) := by
  have h9 := h.fl.2.1
  have e1 := need_floor_sp cs h.fl
  have e2 := need_stand_sp cs c l h.mem h.b h.ly
  have e3 := need_row_sp ds h.ln
  have e4 := need_marks_sp cs ms s hs h9 hm
  have e5 := need_let_sp cs c ds h.lt
  have e6 := held_behind_sp cs c l ds (ms.map .int) s hs h.lt h.ln (h.trd (by rw [List.length_map]; exact hm.1))
  rw [held_map] at e6
  have hz : atI [clD c, lyD l] 0 = some (clD c) := rfl
  have sl : stD c l = .tuple [clD c, lyD l] := rfl
  rw [sl] at e2 e6 ⊢
  rcases hs with rfl | rfl
  · unfold f_marks_behind
    rw [run_of (e := [some (.nt (cs.map clD)), some (.pd (.tuple [clD c, lyD l])), some (.pd (.str (rowS ds))), some (.pd (.tuple (ms.map .int)))]) rfl]
    simp [m_marks_behind, e1, e2, e3, e4, eIx, oIx, hz, e5, e6]
  · unfold f_marks_behind
    rw [run_of (e := [some (.nt (cs.map clD)), some (.pd (.tuple [clD c, lyD l])), some (.pd (.str (rowS ds))), some (.nt (ms.map .int))]) rfl]
    simp [m_marks_behind, e1, e2, e3, e4, eIx, oIx, hz, e5, e6]
theorem ups_map (n : Nat) : (ups n).map PyData.int = (List.range n).map fun k => .int ((k : Nat) : Int) := by simp [ups]
def exI (n : Nat) (ps : List (Int × Int)) : List Int := (List.range n).map fun j => ((mv n ps j : Nat) : Int)
theorem exchange_by_sp (n : Nat) (T : List (Int × Int)) (hn : n ≤ 1000) (hp : ∀ p ∈ T, 0 ≤ p.1 ∧ p.1 < n ∧ 0 ≤ p.2 ∧ p.2 < n) : f_exchange_by [.mu .bor (.ls (T.map clD)), .pd (.tuple ((ups n).map .int))] = some (.nt ((exI n T).map .int), [.mu .bor (.ls (T.map clD)), .pd (.tuple ((ups n).map .int))]) := by
  have e6 := held_traded_sp T ((ups n).map .int) (.pd (.tuple ((ups n).map .int))) (.inl rfl) (by simpa [ups_len] using hp)
  rw [ups_map] at e6 ⊢
  rw [held_map] at e6
  have el : lcL (gN 3) bYes (eBM isNt (eVar 2) (eCons (eVar 3) eNil) kIxT) [3] ((List.range n).map fun k => .int ((k : Nat) : Int)) [some (.mu .bor (.ls (T.map clD))), some (.pd (.tuple ((List.range n).map fun k => .int ((k : Nat) : Int)))), some (.nt ((org n T).map fun k => .int ((k : Nat) : Int))), none] [] = some ((List.range n).map (fun j => .int ((mv n T j : Nat) : Int)), [some (.mu .bor (.ls (T.map clD))), some (.pd (.tuple ((List.range n).map fun k => .int ((k : Nat) : Int)))), some (.nt ((org n T).map fun k => .int ((k : Nat) : Int))), none]) :=
    lcL_all (List.range n) fun j hj => ⟨[some (.mu .bor (.ls (T.map clD))), some (.pd (.tuple ((List.range n).map fun k => .int ((k : Nat) : Int)))), some (.nt ((org n T).map fun k => .int ((k : Nat) : Int))), some (.pd (.int (j : Nat)))], .pd (.int ((mv n T j : Nat) : Int)), [some (.mu .bor (.ls (T.map clD))), some (.pd (.tuple ((List.range n).map fun k => .int ((k : Nat) : Int)))), some (.nt ((org n T).map fun k => .int ((k : Nat) : Int))), some (.pd (.int (j : Nat)))], by simp [wipeE], by
        have hs : SeqAt.shaped (.tuple ((org n T).map fun k => .int ((k : Nat) : Int))) = true := sh_tup _ (fun c => by simp [PyData.canLay0]) (fun c => by simp [PyData.depth]) _
        have hf := firstIx_nat j (org n T) (org_mem.mpr (List.mem_range.mp hj))
        simp [eBM, isNt, kIxT, oIxT, hs, sh_int, hf, mv], rfl, by simp [unwipe]⟩
  have hl : (List.range n).length ≤ 1000000 := by simp; omega
  unfold f_exchange_by
  rw [run_of (e := [some (.mu .bor (.ls (T.map clD))), some (.pd (.tuple ((List.range n).map fun k => .int ((k : Nat) : Int)))), none, none]) rfl]
  have hx : (exI n T).map PyData.int = (List.range n).map (fun j => .int ((mv n T j : Nat) : Int)) := by simp [exI]
  rw [hx]
  rw [show held (List.range n) T = org n T from rfl] at e6
  have hn2 : n ≤ 1000000 := by omega
  simp [m_exchange_by, e6, eLc, iSeq, el, hn2, kTupN]
theorem exchange_sp {cs : List Cell} {c : Cell} {l : Ly} {ds : List Dir} (h : Sit cs c l ds) : f_exchange [.nt (cs.map clD), .pd (stD c l), .pd (.str (rowS ds))] = some (.nt ((exI (6 + cs.length) (trd cs c l ds)).map .int), [.nt (cs.map clD), .pd (stD c l), .pd (.str (rowS ds))]) := by
  have h9 := h.fl.2.1
  have e1 := need_floor_sp cs h.fl
  have e2 := need_stand_sp cs c l h.mem h.b h.ly
  have e3 := need_row_sp ds h.ln
  have e5 := need_let_sp cs c ds h.lt
  have e4 := trades_sp cs c l ds h.lt h.ln
  have e6 := exchange_by_sp (6 + cs.length) (trd cs c l ds) (by omega) (h.trd rfl)
  have es := spots_of_sp cs h9
  have hz : atI [clD c, lyD l] 0 = some (clD c) := rfl
  have sl : stD c l = .tuple [clD c, lyD l] := rfl
  rw [sl] at e2 e4 ⊢
  unfold f_exchange
  rw [run_of (e := [some (.nt (cs.map clD)), some (.pd (.tuple [clD c, lyD l])), some (.pd (.str (rowS ds)))]) rfl]
  simp [m_exchange, e1, e2, e3, e4, eIx, oIx, hz, e5, es, e6]
def nD (xs : List Nat) : List PyData := xs.map fun k => .int ((k : Nat) : Int)
theorem nD_at {xs : List Nat} {i y : Nat} (h : xs[i]? = some y) : atI (nD xs) (i : Int) = some (.int (y : Int)) := by
  apply atI_at (by omega)
  simp [nD, h]
theorem rf_loop {n : Nat} {m : Nat → Nat} (x k : Nat) (hm : ∀ j, j < n → m j < n) (hx : x < n) (hp : PerP n m x k) (hn : n ≤ 1000) : ∀ (j i : Nat), 1 ≤ i → i + j = k → whileN (bT (eNe (eVar 3) (eVar 1))) (sSeq (sExpr (eBM isL (eVar 2) (eCons (eVar 3) eNil) kAppend))
  (sSet 3 (eIx (eVar 0) (eVar 3)))) (j + 1) [some (.nt (nD ((List.range n).map m))), some (.pd (.int (x : Nat))), some (.mu .own (.ls (nD (orb m i x)))), some (.pd (.int (itr m i x : Nat)))] = some (.nx, [some (.nt (nD ((List.range n).map m))), some (.pd (.int (x : Nat))), some (.mu .own (.ls (nD (orb m k x)))), some (.pd (.int (x : Nat)))])
  | 0, i, h1, hk => by
    have e : i = k := by omega
    subst e
    unfold whileN
    simp [eNe, oNe, sh_int, eqv_int, hp.2.2.1]
  | j + 1, i, h1, hk => by
    have ne := hp.2.2.2 i h1 (by omega)
    have ne' : ¬ (itr m i x : Int) = x := by omega
    have lt := itr_lt hm i x hx
    have ih := rf_loop x k hm hx hp hn j (i + 1) (by omega) (by omega)
    have g : atI (nD ((List.range n).map m)) (itr m i x : Nat) = some (.int (m (itr m i x) : Nat)) := nD_at (by simp [lt])
    have hl : (nD (orb m i x)).length ≤ 1000000 := by simp [nD, orb_len]; have := hp.2.1; omega
    unfold whileN
    have c : bT (eNe (eVar 3) (eVar 1)) [some (.nt (nD ((List.range n).map m))), some (.pd (.int (x : Nat))), some (.mu .own (.ls (nD (orb m i x)))), some (.pd (.int (itr m i x : Nat)))] = some (true, [some (.nt (nD ((List.range n).map m))), some (.pd (.int (x : Nat))), some (.mu .own (.ls (nD (orb m i x)))), some (.pd (.int (itr m i x : Nat)))]) := by
      simp [eNe, oNe, sh_int, eqv_int, ne']
    have b : sSeq (sExpr (eBM isL (eVar 2) (eCons (eVar 3) eNil) kAppend)) (sSet 3 (eIx (eVar 0) (eVar 3))) [some (.nt (nD ((List.range n).map m))), some (.pd (.int (x : Nat))), some (.mu .own (.ls (nD (orb m i x)))), some (.pd (.int (itr m i x : Nat)))] = some (.nx, [some (.nt (nD ((List.range n).map m))), some (.pd (.int (x : Nat))), some (.mu .own (.ls (nD (orb m (i + 1) x)))), some (.pd (.int (itr m (i + 1) x : Nat)))]) := by
      have os : nD (orb m (i + 1) x) = nD (orb m i x) ++ [.int (itr m i x : Nat)] := by simp [orb_succ, nD]
      rw [os]
      simp [eBM, isL, kAppend, hl, eIx, oIx, g, itr_succ]
    simp only [c, b]
    exact ih
theorem iRg1_of {f : EA} {env e : Sl} {n : Nat} (h : f env = some ([.pd (.int (n : Nat))], e)) (hn : n ≤ 1000) : iRg1 f env = some ((ups n).map .int, none, e) := by
  have b : RgI1 (n : Int) := by
    unfold RgI1
    have h1 : (-(2 ^ 62) : Int) ≤ 0 := by decide
    have h2 : (1000 : Int) < 2 ^ 62 := by decide
    omega
  unfold iRg1
  rw [h]
  show (if RgI1 (n : Int) then some (rgD 0 (n : Int).toNat 1, none, e) else none) = _
  rw [if_pos b, Int.toNat_natCast, rgD_ups]
theorem ints_nD : ∀ xs : List Nat, ints? (nD xs) = some (xs.map fun k => ((k : Nat) : Int))
  | [] => rfl
  | x :: xs => by
    show (match ints? (nD xs) with | none => none | some ns => some (((x : Nat) : Int) :: ns)) = _
    rw [ints_nD xs]
    rfl
noncomputable def turnD (n : Nat) (m : Nat → Nat) (x : Nat) : PyData := .tuple (nD (orb m (per n m x) x))
noncomputable def firstB (n : Nat) (m : Nat → Nat) (x : Nat) : Bool := decide (1 < per n m x) && decide ((x : Int) = ((orb m (per n m x) x).tail.map fun k => ((k : Nat) : Int)).foldl min (x : Int))
theorem orb_head {m : Nat → Nat} {k x : Nat} (h : 1 ≤ k) : ∃ os, orb m k x = x :: os := by
  obtain ⟨j, rfl⟩ : ∃ j, k = j + 1 := ⟨k - 1, by omega⟩
  exact ⟨_, by rw [orb, List.range_succ_eq_map, List.map_cons]; rfl⟩
theorem inner_loop (a0 a1 a2 a3 a4 a5 : S) (s7 s9 : Option S) : ∀ (xs : List Nat) (kvs : List (Key × PyData)) (s8 : Option S), kvs.length + xs.length ≤ 1000000 → Fr s8 →
    ∃ kvs' s8', forL (gN 8) (sDp (eVar 6) (eVar 8) (eC (.bool true))) (nD xs) [some a0, some a1, some a2, some a3, some a4, some a5, some (.mu .own (.dk kvs)), s7, s8, s9] = some (.nx, [some a0, some a1, some a2, some a3, some a4, some a5, some (.mu .own (.dk kvs')), s7, s8', s9]) ∧ Fr s8' ∧ kvs'.length ≤ kvs.length + xs.length ∧ (∀ k, (valD kvs k).isSome = true → (valD kvs' k).isSome = true) ∧ ∀ x ∈ xs, (valD kvs' (.inl ((x : Nat) : Int))).isSome = true
  | [], kvs, s8, h, h8 => ⟨kvs, s8, rfl, h8, by simp, fun _ h => h, fun x hx => by simp at hx⟩
  | x :: xs, kvs, s8, h, h8 => by
    have l1 := putD_len kvs (.inl ((x : Nat) : Int)) (.bool true)
    obtain ⟨kvs', s8', e, f8, l, k1, k2⟩ := inner_loop a0 a1 a2 a3 a4 a5 s7 s9 xs (putD kvs (.inl ((x : Nat) : Int)) (.bool true)) (some (.pd (.int (x : Nat)))) (by simp at h; omega) (.inr ⟨_, rfl⟩)
    refine ⟨kvs', s8', ?_, f8, by simp; omega, fun k hk => k1 k (putD_keep _ _ _ _ hk), ?_⟩
    · have hl : kvs.length ≤ 1000000 := by omega
      rw [show nD (x :: xs) = .int ((x : Nat) : Int) :: nD xs from rfl, forL_cons (e1 := [some a0, some a1, some a2, some a3, some a4, some a5, some (.mu .own (.dk kvs)), s7, some (.pd (.int (x : Nat))), s9]) (e2 := [some a0, some a1, some a2, some a3, some a4, some a5, some (.mu .own (.dk (putD kvs (.inl ((x : Nat) : Int)) (.bool true)))), s7, some (.pd (.int (x : Nat))), s9]) ?_ ?_, e]
      · rcases h8 with rfl | ⟨x8, rfl⟩ <;> simp
      · simp [sDp, key?, hl]
    · intro y hy
      rcases List.mem_cons.mp hy with rfl | hy
      · exact k1 _ (putD_self _ _ _)
      · exact k2 y hy
theorem outer_loop (a0 a1 a2 a3 a4 a5 : S) (s9 : Option S) {α : Type} (f : α → List Nat) (hf : ∀ a, (f a).length ≤ 1000) : ∀ (as : List α) (kvs : List (Key × PyData)) (s7 s8 : Option S), kvs.length + as.length * 1000 ≤ 1000000 → Fr s7 → Fr s8 →
    ∃ kvs' s7' s8', forL (gN 7) (sFor (iSeq (eVar 7)) (gN 8) (sDp (eVar 6) (eVar 8) (eC (.bool true)))) (as.map fun a => .tuple (nD (f a))) [some a0, some a1, some a2, some a3, some a4, some a5, some (.mu .own (.dk kvs)), s7, s8, s9] = some (.nx, [some a0, some a1, some a2, some a3, some a4, some a5, some (.mu .own (.dk kvs')), s7', s8', s9]) ∧ Fr s8' ∧ (∀ k, (valD kvs k).isSome = true → (valD kvs' k).isSome = true) ∧ ∀ a ∈ as, ∀ x ∈ f a, (valD kvs' (.inl ((x : Nat) : Int))).isSome = true
  | [], kvs, s7, s8, h, h7, h8 => ⟨kvs, s7, s8, rfl, h8, fun _ h => h, fun x hx => by simp at hx⟩
  | a :: as, kvs, s7, s8, h, h7, h8 => by
    have hfa := hf a
    simp only [List.length_cons] at h
    obtain ⟨kv1, s81, e1, f81, l1, p1, p2⟩ := inner_loop a0 a1 a2 a3 a4 a5 (some (.pd (.tuple (nD (f a))))) s9 (f a) kvs s8 (by omega) h8
    obtain ⟨kvs', s7', s8', e, f8, k1, k2⟩ := outer_loop a0 a1 a2 a3 a4 a5 s9 f hf as kv1 (some (.pd (.tuple (nD (f a))))) s81 (by omega) (.inr ⟨_, rfl⟩) f81
    refine ⟨kvs', s7', s8', ?_, f8, fun k hk => k1 k (p1 k hk), ?_⟩
    · rw [List.map_cons, forL_cons (e1 := [some a0, some a1, some a2, some a3, some a4, some a5, some (.mu .own (.dk kvs)), some (.pd (.tuple (nD (f a)))), s8, s9]) (e2 := [some a0, some a1, some a2, some a3, some a4, some a5, some (.mu .own (.dk kv1)), some (.pd (.tuple (nD (f a)))), s81, s9]) ?_ ?_, e]
      · rcases h7 with rfl | ⟨x7, rfl⟩ <;> simp
      · simp [iSeq, e1]
    · intro b hb x hx
      rcases List.mem_cons.mp hb with rfl | hb
      · exact k1 _ (p2 x hx)
      · exact k2 b hb x hx
abbrev Pn := Int × Int × Int
def penC (p : Pn) : Ct := .ls [.int p.1, .int p.2.1, .int p.2.2]
def drB (p : Pn) : Int := (p.2.1 * 48271 + 1013 * (p.2.2 + 1) + 11) % 2147483647
def drS (b : Int) : Int := (b * b + 40692 * b + 7) % 2147483629 * 69621 % 2147483647 / 16
def drw (p : Pn) (n : Int) : Int × Pn := if 0 < p.1 then (p.1 % n, (p.1 / n, p.2.1, p.2.2)) else (drS (drB p) % n, (p.1, drB p, p.2.2 + 1))
theorem drw_b (p : Pn) {n : Int} (h : 0 < n) : 0 ≤ (drw p n).1 ∧ (drw p n).1 < n := by
  unfold drw
  split
  · exact ⟨Int.emod_nonneg _ (by omega), Int.emod_lt_of_pos _ h⟩
  · exact ⟨Int.emod_nonneg _ (by omega), Int.emod_lt_of_pos _ h⟩
theorem cmul_r (i j : Int) (h : 0 ≤ j ∧ j < 2147483648) : CMul i j := .inr (by
  have h1 : (2147483648 : Int) < 2 ^ 64 := by decide
  have h2 : (-2 ^ 64 : Int) < 0 := by decide
  omega)
theorem cmul_l (i j : Int) (h : 0 ≤ i ∧ i < 2147483648) : CMul i j := .inl (by
  have h1 : (2147483648 : Int) < 2 ^ 64 := by decide
  have h2 : (-2 ^ 64 : Int) < 0 := by decide
  omega)
theorem draw_sp (p : Pn) (n : Int) (h0 : 0 < n) (h1 : n < 1000000000000000) : f__law_draw [.mu .bor (penC p), .pd (.int n)] = some (.pd (.int (drw p n).1), [.mu .bor (penC (drw p n).2), .pd (.int n)]) := by
  obtain ⟨a, b, t⟩ := p
  unfold f__law_draw
  rw [run_of (e := [some (.mu .bor (penC (a, b, t))), some (.pd (.int n)), none, none]) rfl]
  have c1 := cmul_r b 48271 (by omega)
  have c2 := cmul_l 1013 (t + 1) (by omega)
  have cd : CDivW a n := cdv _ _ h0 h1
  have cd2 : ∀ i, CDivW i 16 := fun i => cdv _ _ (by decide) (by decide)
  have bb : 0 ≤ drB (a, b, t) ∧ drB (a, b, t) < 2147483648 := by
    have h1 := Int.emod_nonneg (b * 48271 + 1013 * (t + 1) + 11) (b := 2147483647) (by decide)
    have h2 := Int.emod_lt_of_pos (b * 48271 + 1013 * (t + 1) + 11) (b := 2147483647) (by decide)
    show 0 ≤ (b * 48271 + 1013 * (t + 1) + 11) % 2147483647 ∧ (b * 48271 + 1013 * (t + 1) + 11) % 2147483647 < 2147483648
    omega
  have c3 := cmul_l (drB (a, b, t)) (drB (a, b, t)) bb
  have c4 := cmul_l 40692 (drB (a, b, t)) (by omega)
  have c5 : ∀ i, CMul i 69621 := fun i => cmul_r i 69621 (by omega)
  have db : (b * 48271 + 1013 * (t + 1) + 11) % 2147483647 = drB (a, b, t) := rfl
  have x0 : ∀ x y z : PyData, atI [x, y, z] 0 = some x := fun _ _ _ => rfl
  have x1 : ∀ x y z : PyData, atI [x, y, z] 1 = some y := fun _ _ _ => rfl
  have x2 : ∀ x y z : PyData, atI [x, y, z] 2 = some z := fun _ _ _ => rfl
  have i0 : ixN 3 0 = some 0 := rfl
  have i1 : ixN 3 1 = some 1 := rfl
  have i2 : ixN 3 2 = some 2 := rfl
  by_cases ha : 0 < a
  · simp [m__law_draw, penC, oIx, x0, kGt, oI, ha, kMod, h0, kFdiv, cd, putL, i0, drw]
  · simp [m__law_draw, penC, oIx, x0, x1, x2, kGt, oI, ha, kMod, h0, kFdiv, cd2, putL, i1, i2, drw, kAdd, kMul, c1, c2, c3, c4, c5, db, drS]
theorem pick_sp (p : Pn) (xs : List PyData) (x : PyData) (h0 : 0 < xs.length) (h1 : xs.length < 1073741824) (hx : xs[(drw p xs.length).1.toNat]? = some x) : f__law_pick [.mu .bor (penC p), .mu .bor (.ls xs)] = some (.pd x, [.mu .bor (penC (drw p xs.length).2), .mu .bor (.ls xs)]) := by
  unfold f__law_pick
  rw [run_of (e := [some (.mu .bor (penC p)), some (.mu .bor (.ls xs))]) rfl]
  have d := draw_sp p xs.length (by omega) (by omega)
  have a := atI_at (drw_b p (n := xs.length) (by omega)).1 hx
  simp [m__law_pick, oLen, d, oIx, a]
theorem law_to_sp (c : Cell) (d : Dir) : f__law_to [.pd (clD c), .pd (.str (chS d))] = some (.pd (clD (stepC c d)), [.pd (clD c), .pd (.str (chS d))]) := by
  unfold f__law_to
  rw [run_of (e := [some (.pd (clD c)), some (.pd (.str (chS d))), none]) rfl]
  have x0 : ∀ x y : PyData, atI [x, y] 0 = some x := fun _ _ => rfl
  have x1 : ∀ x y : PyData, atI [x, y] 1 = some y := fun _ _ => rfl
  cases d <;> simp [m__law_to, clD, oEq, ← chS_n, ← chS_s, ← chS_e, ← chS_w, sh_ch, eqv_ch, oInt1, kSub, oI, oIx, x0, x1, kAdd, stepC] <;> rfl
def sixD (l : Ly) : PyData := .tuple [.int l.1, .int (5 - l.1), .int l.2.1, .int (5 - l.2.1), .int l.2.2, .int (5 - l.2.2)]
theorem six_sp (l : Ly) : f__law_six [.pd (lyD l)] = some (.pd (sixD l), [.pd (lyD l)]) := by
  unfold f__law_six
  rw [run_of (e := [some (.pd (lyD l)), none, none, none]) rfl]
  simp [m__law_six, lyD, kSub, oI, sixD]
theorem rolled_sp (l : Ly) (d : Dir) : f__law_rolled [.pd (sixD l), .pd (.str (chS d))] = some (.pd (sixD (roll l d)), [.pd (sixD l), .pd (.str (chS d))]) := by
  unfold f__law_rolled
  rw [run_of (e := [some (.pd (sixD l)), some (.pd (.str (chS d))), none, none, none, none, none, none]) rfl]
  have e1 : 5 - (5 - l.1) = l.1 := by omega
  have e2 : 5 - (5 - l.2.1) = l.2.1 := by omega
  have e3 : 5 - (5 - l.2.2) = l.2.2 := by omega
  cases d <;> simp [m__law_rolled, sixD, oEq, ← chS_n, ← chS_s, ← chS_e, ← chS_w, sh_ch, eqv_ch, roll, e1, e2, e3]
def dirAt (r : Int) : Dir := if r = 0 then .e else if r = 1 then .n else if r = 2 then .s else .w
theorem ensw_eq : ("ensw" : Str) = ⟨#[101, 110, 115, 119]⟩ := by decide
theorem ensw_ix (r : Int) (h0 : 0 ≤ r) (h1 : r < 4) : oIx [.str "ensw", .int r] = some (.str (chS (dirAt r))) := by
  have : r = 0 ∨ r = 1 ∨ r = 2 ∨ r = 3 := by omega
  rw [ensw_eq]
  rcases this with rfl | rfl | rfl | rfl <;> rfl
theorem ensw_draw (j : Nat) (p : Pn) (env e' : Sl) (hj : env[j]? = some (some (.mu .bor (penC p)))) (he : e' = env.set j (some (.mu .bor (penC (drw p 4).2)))) : eIx (eC (.str "ensw")) (eCall f__law_draw (eCons (eVar j) (eCons (eC (.int 4)) eNil))) env = some (.pd (.str (chS (dirAt (drw p 4).1))), e') := by
  have d := draw_sp p 4 (by omega) (by omega)
  have b := drw_b p (n := 4) (by omega)
  have x := ensw_ix (drw p 4).1 b.1 b.2
  subst he
  simp [hj, d, x]
theorem lying_loop : ∀ (xs : List PyData) (p : Pn) (l : Ly) (s2 : Option S), l ∈ lyings → Fr s2 →
    ∃ p' l' s2', l' ∈ lyings ∧ forL (gN 2) (sSet 1 (eCall f__law_rolled (eCons (eVar 1) (eCons (eIx (eC (.str "ensw")) (eCall f__law_draw (eCons (eVar 0) (eCons (eC (.int 4)) eNil)))) eNil)))) xs [some (.mu .bor (penC p)), some (.pd (sixD l)), s2] = some (.nx, [some (.mu .bor (penC p')), some (.pd (sixD l')), s2'])
  | [], p, l, s2, hl, _ => ⟨p, l, s2, hl, rfl⟩
  | x :: xs, p, l, s2, hl, h2 => by
    obtain ⟨p', l', s2', q, ih⟩ := lying_loop xs (drw p 4).2 (roll l (dirAt (drw p 4).1)) (some (.pd x)) (roll_mem l hl _) (.inr ⟨_, rfl⟩)
    refine ⟨p', l', s2', q, ?_⟩
    have e := ensw_draw 0 p [some (.mu .bor (penC p)), some (.pd (sixD l)), some (.pd x)] _ rfl rfl
    rw [forL_cons (e1 := [some (.mu .bor (penC p)), some (.pd (sixD l)), some (.pd x)]) (e2 := [some (.mu .bor (penC (drw p 4).2)), some (.pd (sixD (roll l (dirAt (drw p 4).1)))), some (.pd x)]) ?_ ?_, ih]
    · rcases h2 with rfl | ⟨x2, rfl⟩ <;> simp
    · simp [e, rolled_sp, -z_ix]
theorem lying_sp (p : Pn) : ∃ p' l, l ∈ lyings ∧ f__law_lying [.mu .bor (penC p)] = some (.pd (lyD l), [.mu .bor (penC p')]) := by
  have d := draw_sp p 2 (by omega) (by omega)
  have b := drw_b p (n := 2) (by omega)
  obtain ⟨k, hk⟩ : ∃ k : Nat, 4 + (drw p 2).1 = k := ⟨(4 + (drw p 2).1).toNat, by omega⟩
  have i := iRg1_of (f := eCons (eAdd (eC (.int 4)) (eCall f__law_draw (eCons (eVar 0) (eCons (eC (.int 2)) eNil)))) eNil) (env := [some (.mu .bor (penC p)), some (.pd (sixD (0, 1, 2))), none]) (e := [some (.mu .bor (penC (drw p 2).2)), some (.pd (sixD (0, 1, 2))), none]) (n := k) (by simp [d, kAdd, oI, hk]) (by omega)
  obtain ⟨p', l', s2', q, e⟩ := lying_loop ((ups k).map .int) (drw p 2).2 (0, 1, 2) none (by decide) (.inl rfl)
  refine ⟨p', l', q, ?_⟩
  unfold f__law_lying
  rw [run_of (e := [some (.mu .bor (penC p)), none, none]) rfl]
  have s := six_sp (0, 1, 2)
  have y : lyD (0, 1, 2) = .tuple [.int 0, .int 1, .int 2] := rfl
  rw [y] at s
  have x0 : ∀ a b c d e f : PyData, atI [a, b, c, d, e, f] 0 = some a := fun _ _ _ _ _ _ => rfl
  have x1 : ∀ a b c d e f : PyData, atI [a, b, c, d, e, f] 2 = some c := fun _ _ _ _ _ _ => rfl
  have x2 : ∀ a b c d e f : PyData, atI [a, b, c, d, e, f] 4 = some e := fun _ _ _ _ _ _ => rfl
  have sd : sixD l' = .tuple [.int l'.1, .int (5 - l'.1), .int l'.2.1, .int (5 - l'.2.1), .int l'.2.2, .int (5 - l'.2.2)] := rfl
  simp only [m__law_lying]
  simp [s, i, e, sd, oIx, x0, x1, x2, lyD]
theorem stand_sp (p : Pn) (cs : List Cell) (h0 : 0 < cs.length) (h1 : cs.length < 1000) : ∃ p' c l, c ∈ cs ∧ l ∈ lyings ∧ f__law_stand [.mu .bor (penC p), .nt (cs.map clD)] = some (.pd (stD c l), [.mu .bor (penC p'), .nt (cs.map clD)]) := by
  have b := drw_b p (n := cs.length) (by omega)
  obtain ⟨p', l, hl, e⟩ := lying_sp (drw p cs.length).2
  have hi : (drw p cs.length).1.toNat < cs.length := by omega
  have k := pick_sp p (cs.map clD) (clD cs[(drw p cs.length).1.toNat]) (by simpa using h0) (by simp; omega) (by simp [hi])
  rw [List.length_map] at k
  refine ⟨p', cs[(drw p cs.length).1.toNat], l, List.getElem_mem hi, hl, ?_⟩
  unfold f__law_stand
  rw [run_of (e := [some (.mu .bor (penC p)), some (.nt (cs.map clD))]) rfl]
  simp [m__law_stand, oList, k, e, stD]
def good (cs : List Cell) : Prop := 0 < cs.length ∧ cs.Nodup ∧ ∀ c ∈ cs, inB c = true
theorem oMin_cell (c : Cell) : oMin [clD c] = some (.int (min c.1 c.2)) := rfl
theorem oMax_cell (c : Cell) : oMax [clD c] = some (.int (max c.1 c.2)) := rfl
theorem inB_mm (c : Cell) : (decide (0 ≤ min c.1 c.2) && decide (max c.1 c.2 < 4)) = inB c := by
  unfold inB
  rw [Bool.eq_iff_iff]
  simp
  omega
theorem floor_third (p : Pn) (cs : List Cell) (c : Cell) (a1 s3 : Option S) (hl : cs.length < 1000) : sIf (bAnd (bT (eLe (eC (.int 0)) (eThen (eCons (eVar 4) eNil) (kE oMin)))) (bAnd (bT (eLt (eThen (eCons (eVar 4) eNil) (kE oMax)) (eC (.int 4)))) (bT (eNin (eVar 4) (eVar 2))))) (sExpr (eBM isL (eVar 2) (eCons (eVar 4) eNil) kAppend)) sPass [some (.mu .bor (penC p)), a1, some (.mu .own (.ls (cs.map clD))), s3, some (.pd (clD c))] = some (.nx, [some (.mu .bor (penC p)), a1, some (.mu .own (.ls ((if inB c = true ∧ c ∉ cs then cs ++ [c] else cs).map clD))), s3, some (.pd (clD c))]) := by
  have hi := inB_mm c
  have hl' : cs.length ≤ 1000000 := by omega
  by_cases h1 : 0 ≤ min c.1 c.2
  · by_cases h2 : max c.1 c.2 < 4
    · have hb : inB c = true := by rw [← hi]; simp [h1, h2]
      by_cases h3 : c ∈ cs
      · simp [oMin_cell, oMax_cell, kLe, kLt, kLt0, oI, h1, h2, oIn, sh_cell, sh_cellsL, any_cell, h3, -List.any_map, -List.any_eq_true]
      · simp [oMin_cell, oMax_cell, kLe, kLt, kLt0, oI, h1, h2, oIn, sh_cell, sh_cellsL, any_cell, h3, hb, isL, kAppend, hl', -List.any_map, -List.any_eq_true]
    · have hb : inB c = false := by rw [← hi]; simp [h1, h2]
      simp [oMin_cell, oMax_cell, kLe, kLt, kLt0, oI, h1, h2, hb]
  · have hb : inB c = false := by rw [← hi]; simp [h1]
    simp [oMin_cell, oMax_cell, kLe, kLt, kLt0, oI, h1, hb]
theorem good_add {cs : List Cell} (c : Cell) (h : good cs) : good (if inB c = true ∧ c ∉ cs then cs ++ [c] else cs) ∧ (if inB c = true ∧ c ∉ cs then cs ++ [c] else cs).length ≤ cs.length + 1 := by
  split
  · rename_i hc
    refine ⟨⟨by simp, ?_, ?_⟩, by simp⟩
    · rw [List.nodup_append]
      refine ⟨h.2.1, by simp, ?_⟩
      intro a ha b hb
      simp at hb
      subst hb
      intro e
      subst e
      exact hc.2 ha
    · intro d hd
      rcases List.mem_append.mp hd with hd | hd
      · exact h.2.2 d hd
      · simp at hd; subst hd; exact hc.1
  · exact ⟨h, by omega⟩
theorem floor_step (p : Pn) (cs : List Cell) (a1 s3 s4 : Option S) (hg : good cs) (hl : cs.length < 1000) (h4 : Fr s4) : ∃ p' cs' c', good cs' ∧ cs'.length ≤ cs.length + 1 ∧ (sSeq (sSet 4 (eCall f__law_to (eCons (eCall f__law_pick (eCons (eVar 0) (eCons (eVar 2) eNil))) (eCons (eIx (eC (.str "ensw")) (eCall f__law_draw (eCons (eVar 0) (eCons (eC (.int 4)) eNil)))) eNil))))
  (sSeq (sIf (bT (eEq (eCall f__law_draw (eCons (eVar 0) (eCons (eC (.int 8)) eNil))) (eC (.int 0)))) (sSet 4 (eThen (eCons (eCall f__law_draw (eCons (eVar 0) (eCons (eC (.int 4)) eNil))) (eCons (eCall f__law_draw (eCons (eVar 0) (eCons (eC (.int 4)) eNil))) eNil)) kTup)) sPass)
  (sIf (bAnd (bT (eLe (eC (.int 0)) (eThen (eCons (eVar 4) eNil) (kE oMin)))) (bAnd (bT (eLt (eThen (eCons (eVar 4) eNil) (kE oMax)) (eC (.int 4)))) (bT (eNin (eVar 4) (eVar 2))))) (sExpr (eBM isL (eVar 2) (eCons (eVar 4) eNil) kAppend)) sPass))) [some (.mu .bor (penC p)), a1, some (.mu .own (.ls (cs.map clD))), s3, s4] = some (.nx, [some (.mu .bor (penC p')), a1, some (.mu .own (.ls (cs'.map clD))), s3, some (.pd (clD c'))]) := by
  obtain ⟨g0, g1, g2⟩ := hg
  have b := drw_b p (n := cs.length) (by omega)
  have hi : (drw p cs.length).1.toNat < cs.length := by omega
  have k := pick_sp p (cs.map clD) (clD cs[(drw p cs.length).1.toNat]) (by simpa using g0) (by simp; omega) (by simp [hi])
  rw [List.length_map] at k
  generalize drw p cs.length = q at *
  generalize hc : cs[q.1.toNat] = c at *
  have e := ensw_draw 0 q.2 [some (.mu .bor (penC q.2)), a1, some (.mu .own (.ls (cs.map clD))), s3, s4] _ rfl rfl
  generalize drw q.2 4 = q2 at *
  generalize dirAt q2.1 = d at *
  have first : sSet 4 (eCall f__law_to (eCons (eCall f__law_pick (eCons (eVar 0) (eCons (eVar 2) eNil))) (eCons (eIx (eC (.str "ensw")) (eCall f__law_draw (eCons (eVar 0) (eCons (eC (.int 4)) eNil)))) eNil))) [some (.mu .bor (penC p)), a1, some (.mu .own (.ls (cs.map clD))), s3, s4] = some (.nx, [some (.mu .bor (penC q2.2)), a1, some (.mu .own (.ls (cs.map clD))), s3, some (.pd (clD (stepC c d)))]) := by
    rcases h4 with rfl | ⟨x4, rfl⟩ <;> simp [k, e, law_to_sp, -z_ix]
  have d8 := draw_sp q2.2 8 (by omega) (by omega)
  generalize drw q2.2 8 = q3 at *
  have second : ∃ p' c', sIf (bT (eEq (eCall f__law_draw (eCons (eVar 0) (eCons (eC (.int 8)) eNil))) (eC (.int 0)))) (sSet 4 (eThen (eCons (eCall f__law_draw (eCons (eVar 0) (eCons (eC (.int 4)) eNil))) (eCons (eCall f__law_draw (eCons (eVar 0) (eCons (eC (.int 4)) eNil))) eNil)) kTup)) sPass [some (.mu .bor (penC q2.2)), a1, some (.mu .own (.ls (cs.map clD))), s3, some (.pd (clD (stepC c d)))] = some (.nx, [some (.mu .bor (penC p')), a1, some (.mu .own (.ls (cs.map clD))), s3, some (.pd (clD c'))]) := by
    have d1 := draw_sp q3.2 4 (by omega) (by omega)
    have d2 := draw_sp (drw q3.2 4).2 4 (by omega) (by omega)
    by_cases z : q3.1 = 0
    · exact ⟨(drw (drw q3.2 4).2 4).2, ((drw q3.2 4).1, (drw (drw q3.2 4).2 4).1), by simp [d8, oEq, sh_int, eqv_int, z, d1, d2, clD]⟩
    · exact ⟨q3.2, stepC c d, by simp [d8, oEq, sh_int, eqv_int, z]⟩
  obtain ⟨p', c', second⟩ := second
  have ga := good_add c' ⟨g0, g1, g2⟩
  refine ⟨p', _, c', ga.1, ga.2, ?_⟩
  have third := floor_third p' cs c' a1 s3 hl
  rw [z_seq, first]
  simp only []
  rw [z_seq, second]
  simp only []
  exact third
theorem floor_loop (a1 : Option S) : ∀ (xs : List PyData) (p : Pn) (cs : List Cell) (s3 s4 : Option S), good cs → cs.length + xs.length < 1000 → Fr s3 → Fr s4 → ∃ p' cs' s3' s4', good cs' ∧ cs'.length ≤ cs.length + xs.length ∧ forL (gN 3) (sSeq (sSet 4 (eCall f__law_to (eCons (eCall f__law_pick (eCons (eVar 0) (eCons (eVar 2) eNil))) (eCons (eIx (eC (.str "ensw")) (eCall f__law_draw (eCons (eVar 0) (eCons (eC (.int 4)) eNil)))) eNil))))
  (sSeq (sIf (bT (eEq (eCall f__law_draw (eCons (eVar 0) (eCons (eC (.int 8)) eNil))) (eC (.int 0)))) (sSet 4 (eThen (eCons (eCall f__law_draw (eCons (eVar 0) (eCons (eC (.int 4)) eNil))) (eCons (eCall f__law_draw (eCons (eVar 0) (eCons (eC (.int 4)) eNil))) eNil)) kTup)) sPass)
  (sIf (bAnd (bT (eLe (eC (.int 0)) (eThen (eCons (eVar 4) eNil) (kE oMin)))) (bAnd (bT (eLt (eThen (eCons (eVar 4) eNil) (kE oMax)) (eC (.int 4)))) (bT (eNin (eVar 4) (eVar 2))))) (sExpr (eBM isL (eVar 2) (eCons (eVar 4) eNil) kAppend)) sPass))) xs [some (.mu .bor (penC p)), a1, some (.mu .own (.ls (cs.map clD))), s3, s4] = some (.nx, [some (.mu .bor (penC p')), a1, some (.mu .own (.ls (cs'.map clD))), s3', s4'])
  | [], p, cs, s3, s4, hg, hl, h3, h4 => ⟨p, cs, s3, s4, hg, by simp, rfl⟩
  | x :: xs, p, cs, s3, s4, hg, hl, h3, h4 => by
    obtain ⟨p1, cs1, c1, g1, l1, e1⟩ := floor_step p cs a1 (some (.pd x)) s4 hg (by omega) h4
    simp only [List.length_cons] at hl
    obtain ⟨p', cs', s3', s4', g', l', e⟩ := floor_loop a1 xs p1 cs1 (some (.pd x)) (some (.pd (clD c1))) g1 (by omega) (.inr ⟨_, rfl⟩) (.inr ⟨_, rfl⟩)
    refine ⟨p', cs', s3', s4', g', by simp only [List.length_cons]; omega, ?_⟩
    rw [forL_cons (e1 := [some (.mu .bor (penC p)), a1, some (.mu .own (.ls (cs.map clD))), some (.pd x), s4]) ?_ e1, e]
    rcases h3 with rfl | ⟨x3, rfl⟩ <;> simp
theorem inB_b {c : Cell} (h : inB c = true) : 0 ≤ c.1 ∧ c.1 ≤ 3 ∧ 0 ≤ c.2 ∧ c.2 ≤ 3 := by
  unfold inB at h
  simp at h
  omega
theorem pairs_of : ∀ cs : List Cell, (∀ c ∈ cs, inB c = true) → pairs? (cs.map clD) = some cs
  | [], _ => rfl
  | c :: cs, h => by
    have b := inB_b (h c (by simp))
    have e : pair? (clD c) = some c := by
      show (if 0 ≤ c.1 ∧ c.1 < 64 ∧ 0 ≤ c.2 ∧ c.2 < 64 then some (c.1, c.2) else none) = _
      rw [if_pos (by omega)]
    rw [List.map_cons, pairs?, e, pairs_of cs (fun d hd => h d (by simp [hd]))]
theorem ltC_of {c d : Cell} (hc : inB c = true) (hd : inB d = true) (h : prLe c d = true) (hne : c ≠ d) : ltC c d = true := by
  have b1 := inB_b hc
  have b2 := inB_b hd
  unfold prLe at h
  have h' : c.1 * 64 + c.2 ≤ d.1 * 64 + d.2 := by simpa using h
  have hne' : ¬ (c.1 = d.1 ∧ c.2 = d.2) := fun ⟨x, y⟩ => hne (Prod.ext x y)
  unfold ltC
  simp only [HT.lexLt]
  by_cases e : c.1 = d.1
  · simp [e]; omega
  · simp [e]; omega
theorem chain_of : ∀ cs : List Cell, (∀ c ∈ cs, inB c = true) → cs.Pairwise (fun a b => prLe a b = true) → cs.Nodup → chain cs = true
  | [], _, _, _ => rfl
  | [c], _, _, _ => rfl
  | c :: d :: r, h, hp, hn => by
    have ih := chain_of (d :: r) (fun x hx => h x (by simp [hx])) (List.pairwise_cons.mp hp).2 (List.nodup_cons.mp hn).2
    have l := ltC_of (h c (by simp)) (h d (by simp)) ((List.pairwise_cons.mp hp).1 d (by simp)) (fun e => (List.nodup_cons.mp hn).1 (by simp [e]))
    simp [chain, ih, l]
theorem floor_sp (p : Pn) : ∃ p' cs, okFl cs ∧ f__law_floor [.mu .bor (penC p), .pd (.int 9)] = some (.nt (cs.map clD), [.mu .bor (penC p'), .pd (.int 9)]) := by
  have d1 := draw_sp p 4 (by omega) (by omega)
  have b1 := drw_b p (n := 4) (by omega)
  generalize drw p 4 = q1 at *
  have d2 := draw_sp q1.2 4 (by omega) (by omega)
  have b2 := drw_b q1.2 (n := 4) (by omega)
  generalize drw q1.2 4 = q2 at *
  have d3 := draw_sp q2.2 9 (by omega) (by omega)
  have b3 := drw_b q2.2 (n := 9) (by omega)
  generalize drw q2.2 9 = q3 at *
  obtain ⟨k, hk⟩ : ∃ k : Nat, q3.1 = k := ⟨q3.1.toNat, by omega⟩
  rw [hk] at d3
  have g0 : good [(q1.1, q2.1)] := ⟨by simp, by simp, fun c hc => by
    simp at hc
    subst hc
    unfold inB
    simp
    omega⟩
  obtain ⟨p', cs, s3', s4', g', l', e⟩ := floor_loop (some (.pd (.int 9))) ((ups k).map .int) q3.2 [(q1.1, q2.1)] none none g0 (by simp [ups_len]; omega) (.inl rfl) (.inl rfl)
  have i := iRg1_of (f := eCons (eCall f__law_draw (eCons (eVar 0) (eCons (eVar 1) eNil))) eNil) (env := [some (.mu .bor (penC q2.2)), some (.pd (.int 9)), some (.mu .own (.ls ([(q1.1, q2.1)].map clD))), none, none]) (e := [some (.mu .bor (penC q3.2)), some (.pd (.int 9)), some (.mu .own (.ls ([(q1.1, q2.1)].map clD))), none, none]) (n := k) (by simp [d3]) (by omega)
  have ll : cs.length ≤ 9 := by simp [ups_len] at l'; omega
  have tr : ∀ a b c : Cell, prLe a b = true → prLe b c = true → prLe a c = true := by
    intro a b c h1 h2; simp [prLe] at *; omega
  have to : ∀ a b : Cell, (prLe a b || prLe b a) = true := by
    intro a b; simp [prLe]; omega
  have pm := List.mergeSort_perm cs prLe
  have pw := List.pairwise_mergeSort tr to cs
  have ok : okFl (cs.mergeSort prLe) := ⟨by rw [List.length_mergeSort]; exact g'.1, by rw [List.length_mergeSort]; exact ll, fun c hc => g'.2.2 c (pm.mem_iff.mp hc), chain_of _ (fun c hc => g'.2.2 c (pm.mem_iff.mp hc)) pw (pm.nodup_iff.mpr g'.2.1)⟩
  refine ⟨p', cs.mergeSort prLe, ok, ?_⟩
  have hn : ints? (cs.map clD) = none := by
    obtain ⟨c, r, rfl⟩ : ∃ c r, cs = c :: r := by
      cases cs with
      | nil => exact absurd g'.1 (by simp)
      | cons c r => exact ⟨c, r, rfl⟩
    rfl
  have hp := pairs_of cs g'.2.2
  have hlt : cs.length < 64 := by omega
  unfold f__law_floor
  rw [run_of (e := [some (.mu .bor (penC p)), some (.pd (.int 9)), none, none, none]) rfl]
  have cd : PyData.tuple [.int q1.1, .int q2.1] = clD (q1.1, q2.1) := rfl
  simp only [List.map_cons, List.map_nil] at i e
  simp only [m__law_floor]
  simp [d1, d2, cd, i, e, kSorted, hn, hp, hlt, kTupN]
def all4 : List Dir := [.e, .n, .s, .w]
theorem ensw_row : ("ensw" : Str) = rowS all4 := by decide
def chD (d : Dir) : PyData := .str (chS d)
def ops (cs : List Cell) (c : Cell) : List Dir := all4.filter fun d => decide (stepC c d ∈ cs)
theorem sh_chs (l : List Dir) : SeqAt.shaped (.list (l.map chD)) = true := sh_lst chD (fun d => by have := SeqAt.canLay_of_shaped (sh_ch d); exact this) (fun d => by simp [chD, PyData.depth]) l
theorem eqv_nil (xs : List PyData) : PyData.eqv (.list xs) (.list []) = decide (xs = []) := by
  cases xs <;> simp [PyData.eqv, PyData.eqvAll]
theorem ops_lc (cs : List Cell) (c : Cell) (a0 a3 a4 a5 a6 : Option S) : lcL (gN 7) (bT (eIn (eCall f__law_to (eCons (eVar 2) (eCons (eVar 7) eNil))) (eVar 1))) (eVar 7) [7] (all4.map chD) [a0, some (.nt (cs.map clD)), some (.pd (clD c)), a3, a4, a5, a6, none] [] = some ((ops cs c).map chD, [a0, some (.nt (cs.map clD)), some (.pd (clD c)), a3, a4, a5, a6, none]) := by
  have := lcL_pure (g := gN 7) (t := bT (eIn (eCall f__law_to (eCons (eVar 2) (eCons (eVar 7) eNil))) (eVar 1))) (f := eVar 7) (vs := [7]) (env := [a0, some (.nt (cs.map clD)), some (.pd (clD c)), a3, a4, a5, a6, none]) (p := fun d => decide (stepC c d ∈ cs)) (y := chD) (q := chD) all4 [] (fun d _ => by
    refine ⟨[a0, some (.nt (cs.map clD)), some (.pd (clD c)), a3, a4, a5, a6, some (.pd (chD d))], [a0, some (.nt (cs.map clD)), some (.pd (clD c)), a3, a4, a5, a6, some (.pd (chD d))], by simp [wipeE], ?_, fun _ => ⟨.pd (chD d), [a0, some (.nt (cs.map clD)), some (.pd (clD c)), a3, a4, a5, a6, some (.pd (chD d))], by simp, rfl, by simp [unwipe]⟩, fun _ => by simp [unwipe]⟩
    have t := law_to_sp c d
    rw [show PyData.str (chS d) = chD d from rfl] at t
    simp [t, oIn, sh_cell, sh_cells, any_cell, -List.any_map, -List.any_eq_true])
  rw [this]
  rfl
theorem rowS_app (ds : List Dir) (d : Dir) : rowS ds ++ chS d = rowS (ds ++ [d]) := by
  show Str.mk (_ ++ _) = _
  simp [rowS, chS]
theorem row_len (ds : List Dir) : (rowS ds).length = ds.length := by
  show (rowS ds).cps.size = _
  simp [rowS]
theorem row_last (ds : List Dir) (d : Dir) (h : ds.length < 1000) : oIx [.str (rowS (ds ++ [d])), .int (-1)] = some (chD d) := by
  have e : atI (rowS (ds ++ [d])).cps.toList (-1) = some d.code := by
    unfold atI ixN
    have hl : (rowS (ds ++ [d])).cps.toList.length = ds.length + 1 := by simp [rowS]
    rw [hl]
    have h1 : ¬ (0 : Int) ≤ -1 := by decide
    have h2 : -((ds.length + 1 : Nat) : Int) ≤ -1 := by omega
    rw [if_neg h1, if_pos h2]
    have h3 : (-1 + ((ds.length + 1 : Nat) : Int)).toNat = ds.length := by omega
    rw [h3]
    simp [rowS]
  have hl : (rowS (ds ++ [d])).length ≤ 1000000 := by rw [row_len]; simp; omega
  simp only [oIx, hl, if_true, e]
  rfl
theorem letR_app {cs : List Cell} : ∀ (ds : List Dir) (c : Cell) (d : Dir), letR cs c ds → stepC (endC c ds) d ∈ cs → letR cs c (ds ++ [d])
  | [], c, d, _, h => ⟨h, trivial⟩
  | x :: ds, c, d, h1, h => ⟨h1.1, letR_app ds (stepC c x) d h1.2 h⟩
theorem endC_app (c : Cell) (ds : List Dir) (d : Dir) : endC c (ds ++ [d]) = stepC (endC c ds) d := by simp [endC]
def Fr6 (s : Option S) : Prop := s = none ∨ ∃ xs, s = some (.mu .own (.ls xs))
theorem row_step (cs : List Cell) (c0 : Cell) (a3 s5 : Option S) (p : Pn) (ds : List Dir) (s6 : Option S) (hl : letR cs c0 ds) (hn : ds.length < 1000) (h6 : Fr6 s6) : ∃ p' ds' xs, letR cs c0 ds' ∧ ds'.length ≤ ds.length + 1 ∧ (sSeq (sSet 6 (eLc (iSeq (eC (.str "ensw"))) (gN 7) (bT (eIn (eCall f__law_to (eCons (eVar 2) (eCons (eVar 7) eNil))) (eVar 1))) (eVar 7) [7]))
  (sIf (bT (eNe (eVar 6) (eThen eNil kLst))) (sSeq (sSet 4 (eAdd (eVar 4) (eCall f__law_pick (eCons (eVar 0) (eCons (eVar 6) eNil)))))
  (sSet 2 (eCall f__law_to (eCons (eVar 2) (eCons (eIx (eVar 4) (eNeg (eC (.int 1)))) eNil))))) sPass)) [some (.mu .bor (penC p)), some (.nt (cs.map clD)), some (.pd (clD (endC c0 ds))), a3, some (.pd (.str (rowS ds))), s5, s6, none] = some (.nx, [some (.mu .bor (penC p')), some (.nt (cs.map clD)), some (.pd (clD (endC c0 ds'))), a3, some (.pd (.str (rowS ds'))), s5, some (.mu .own (.ls xs)), none]) := by
  have oc := ops_lc cs (endC c0 ds) (some (.mu .bor (penC p))) a3 (some (.pd (.str (rowS ds)))) s5 s6
  have sg : signs "ensw" = all4.map chD := by rw [ensw_row, signs_row]; rfl
  have a4 : (all4.map chD).length ≤ 1000000 := by decide
  have first : sSet 6 (eLc (iSeq (eC (.str "ensw"))) (gN 7) (bT (eIn (eCall f__law_to (eCons (eVar 2) (eCons (eVar 7) eNil))) (eVar 1))) (eVar 7) [7]) [some (.mu .bor (penC p)), some (.nt (cs.map clD)), some (.pd (clD (endC c0 ds))), a3, some (.pd (.str (rowS ds))), s5, s6, none] = some (.nx, [some (.mu .bor (penC p)), some (.nt (cs.map clD)), some (.pd (clD (endC c0 ds))), a3, some (.pd (.str (rowS ds))), s5, some (.mu .own (.ls ((ops cs (endC c0 ds)).map chD))), none]) := by
    simp only [z_set, z_lc, z_seqI, z_c, sg, a4, if_true, oc, z_unl]
    rcases h6 with rfl | ⟨xs, rfl⟩ <;> simp
  have s0 : SeqAt.shaped (.list []) = true := sh_intsL []
  by_cases hz : ops cs (endC c0 ds) = []
  · refine ⟨p, ds, (ops cs (endC c0 ds)).map chD, hl, by omega, ?_⟩
    rw [z_seq, first]
    simp [oNe, sh_chs, s0, eqv_nil, hz]
  · have hp : 0 < (ops cs (endC c0 ds)).length := List.length_pos_iff.mpr hz
    have h4 : (ops cs (endC c0 ds)).length ≤ 4 := List.length_filter_le _ all4
    generalize ho : ops cs (endC c0 ds) = os at *
    have b := drw_b p (n := os.length) (by omega)
    have hi : (drw p os.length).1.toNat < os.length := by omega
    have k := pick_sp p (os.map chD) (chD os[(drw p os.length).1.toNat]) (by simpa using hp) (by simp; omega) (by simp [hi])
    rw [List.length_map] at k
    have hm : os[(drw p os.length).1.toNat] ∈ ops cs (endC c0 ds) := by rw [ho]; exact List.getElem_mem hi
    have hs : stepC (endC c0 ds) os[(drw p os.length).1.toNat] ∈ cs := by
      have := (List.mem_filter.mp hm).2
      simpa using this
    generalize hd : os[(drw p os.length).1.toNat] = d at *
    refine ⟨(drw p os.length).2, ds ++ [d], os.map chD, letR_app ds c0 d hl hs, by simp, ?_⟩
    rw [z_seq, first]
    have rl := row_last ds d hn
    have t := law_to_sp (endC c0 ds) d
    rw [show PyData.str (chS d) = chD d from rfl] at t
    have ln : ds.length + (chS d).length ≤ 1000000 := by have : (chS d).length = 1 := rfl; omega
    rw [endC_app]
    have hne : ¬ os.map chD = [] := by simpa using hz
    have cat : oCatS [.str (rowS ds), chD d] = some (.str (rowS (ds ++ [d]))) := by
      show (if (rowS ds).length + (chS d).length ≤ 1000000 then some (PyData.str (rowS ds ++ chS d)) else none) = _
      rw [row_len, if_pos ln, rowS_app]
    simp [oNe, sh_chs, s0, eqv_nil, hz, k, cat, kAdd, oI, kNeg, oNeg, rl, t]
theorem row_loop (cs : List Cell) (c0 : Cell) (a3 : Option S) : ∀ (xs : List PyData) (p : Pn) (ds : List Dir) (s5 s6 : Option S), letR cs c0 ds → ds.length + xs.length < 1000 → Fr s5 → Fr6 s6 → ∃ p' ds' s5' s6', letR cs c0 ds' ∧ ds'.length ≤ ds.length + xs.length ∧ forL (gN 5) (sSeq (sSet 6 (eLc (iSeq (eC (.str "ensw"))) (gN 7) (bT (eIn (eCall f__law_to (eCons (eVar 2) (eCons (eVar 7) eNil))) (eVar 1))) (eVar 7) [7]))
  (sIf (bT (eNe (eVar 6) (eThen eNil kLst))) (sSeq (sSet 4 (eAdd (eVar 4) (eCall f__law_pick (eCons (eVar 0) (eCons (eVar 6) eNil)))))
  (sSet 2 (eCall f__law_to (eCons (eVar 2) (eCons (eIx (eVar 4) (eNeg (eC (.int 1)))) eNil))))) sPass)) xs [some (.mu .bor (penC p)), some (.nt (cs.map clD)), some (.pd (clD (endC c0 ds))), a3, some (.pd (.str (rowS ds))), s5, s6, none] = some (.nx, [some (.mu .bor (penC p')), some (.nt (cs.map clD)), some (.pd (clD (endC c0 ds'))), a3, some (.pd (.str (rowS ds'))), s5', s6', none])
  | [], p, ds, s5, s6, hl, _, _, _ => ⟨p, ds, s5, s6, hl, by simp, rfl⟩
  | x :: xs, p, ds, s5, s6, hl, hn, h5, h6 => by
    simp only [List.length_cons] at hn
    obtain ⟨p1, ds1, ys, g1, l1, e1⟩ := row_step cs c0 a3 (some (.pd x)) p ds s6 hl (by omega) h6
    obtain ⟨p', ds', s5', s6', g', l', e⟩ := row_loop cs c0 a3 xs p1 ds1 (some (.pd x)) (some (.mu .own (.ls ys))) g1 (by omega) (.inr ⟨_, rfl⟩) (.inr ⟨_, rfl⟩)
    refine ⟨p', ds', s5', s6', g', by simp only [List.length_cons]; omega, ?_⟩
    rw [forL_cons (e1 := [some (.mu .bor (penC p)), some (.nt (cs.map clD)), some (.pd (clD (endC c0 ds))), a3, some (.pd (.str (rowS ds))), some (.pd x), s6, none]) ?_ e1, e]
    rcases h5 with rfl | ⟨x3, rfl⟩ <;> simp
theorem row_sp (p : Pn) (cs : List Cell) (c : Cell) (m : Nat) (hm : m ≤ 100) : ∃ p' ds, letR cs c ds ∧ ds.length ≤ m ∧ f__law_row [.mu .bor (penC p), .nt (cs.map clD), .pd (clD c), .pd (.int (m : Nat))] = some (.pd (.str (rowS ds)), [.mu .bor (penC p'), .nt (cs.map clD), .pd (clD c), .pd (.int (m : Nat))]) := by
  have d1 := draw_sp p ((m : Int) + 1) (by omega) (by omega)
  have b1 := drw_b p (n := (m : Int) + 1) (by omega)
  generalize drw p ((m : Int) + 1) = q1 at *
  obtain ⟨k, hk⟩ : ∃ k : Nat, q1.1 = k := ⟨q1.1.toNat, by omega⟩
  rw [hk] at d1
  have i := iRg1_of (f := eCons (eCall f__law_draw (eCons (eVar 0) (eCons (eAdd (eVar 3) (eC (.int 1))) eNil))) eNil) (env := [some (.mu .bor (penC p)), some (.nt (cs.map clD)), some (.pd (clD c)), some (.pd (.int (m : Nat))), some (.pd (.str "")), none, none, none]) (e := [some (.mu .bor (penC q1.2)), some (.nt (cs.map clD)), some (.pd (clD c)), some (.pd (.int (m : Nat))), some (.pd (.str "")), none, none, none]) (n := k) (by simp [kAdd, oI, d1]) (by omega)
  obtain ⟨p', ds, s5', s6', g', l', e⟩ := row_loop cs c (some (.pd (.int (m : Nat)))) ((ups k).map .int) q1.2 [] none none trivial (by simp [ups_len]; omega) (.inl rfl) (.inl rfl)
  refine ⟨p', ds, g', by simp [ups_len] at l'; omega, ?_⟩
  have r0 : rowS [] = "" := by decide
  rw [r0, show endC c [] = c from rfl] at e
  unfold f__law_row
  rw [run_of (e := [some (.mu .bor (penC p)), some (.nt (cs.map clD)), some (.pd (clD c)), some (.pd (.int (m : Nat))), none, none, none, none]) rfl]
  simp only [m__law_row]
  simp [i, e]
theorem marks_lc (a1 : Option S) (M : Int) (h0 : 0 < M) (h1 : M ≤ 1000) : ∀ (xs : List PyData) (p : Pn) (acc : List PyData), ∃ (p' : Pn) (ms : List Int), ms.length = xs.length ∧ (∀ m ∈ ms, 0 ≤ m ∧ m ≤ 999) ∧ lcL (gN 3) bYes (eCall f__law_draw (eCons (eVar 0) (eCons (eVar 2) eNil))) [3] xs [some (.mu .bor (penC p)), a1, some (.pd (.int M)), none] acc = some (acc ++ ms.map .int, [some (.mu .bor (penC p')), a1, some (.pd (.int M)), none])
  | [], p, acc => ⟨p, [], rfl, by simp, by simp [lcL]⟩
  | x :: xs, p, acc => by
    have d := draw_sp p M h0 (by omega)
    have b := drw_b p h0
    obtain ⟨p', ms, l1, l2, e⟩ := marks_lc a1 M h0 h1 xs (drw p M).2 (acc ++ [.int (drw p M).1])
    refine ⟨p', (drw p M).1 :: ms, by simp [l1], ?_, ?_⟩
    · intro m hm
      rcases List.mem_cons.mp hm with rfl | hm
      · omega
      · exact l2 m hm
    · unfold lcL
      have g : gN 3 x (wipeE [some (.mu .bor (penC p)), a1, some (.pd (.int M)), none] [3]) = some [some (.mu .bor (penC p)), a1, some (.pd (.int M)), some (.pd x)] := by simp [wipeE]
      have f : eCall f__law_draw (eCons (eVar 0) (eCons (eVar 2) eNil)) [some (.mu .bor (penC p)), a1, some (.pd (.int M)), some (.pd x)] = some (.pd (.int (drw p M).1), [some (.mu .bor (penC (drw p M).2)), a1, some (.pd (.int M)), some (.pd x)]) := by simp [d]
      have u : unwipe [some (.mu .bor (penC p)), a1, some (.pd (.int M)), none] [some (.mu .bor (penC (drw p M).2)), a1, some (.pd (.int M)), some (.pd x)] [3] = [some (.mu .bor (penC (drw p M).2)), a1, some (.pd (.int M)), none] := by simp [unwipe]
      rw [g]
      simp only [bYes, if_true, f, z_data1, u, e]
      simp
theorem marks_sp (p : Pn) (cs : List Cell) (h9 : cs.length ≤ 9) : ∃ p' ms, okM (6 + cs.length) ms ∧ f__law_marks [.mu .bor (penC p), .nt (cs.map clD)] = some (.nt (ms.map .int), [.mu .bor (penC p'), .nt (cs.map clD)]) := by
  have b := drw_b p (n := 3) (by omega)
  obtain ⟨M, h0, h1, hM⟩ : ∃ M : Int, 0 < M ∧ M ≤ 1000 ∧ [PyData.int 2, .int 4, .int 1000][(drw p 3).1.toNat]? = some (.int M) := by
    have : (drw p 3).1 = 0 ∨ (drw p 3).1 = 1 ∨ (drw p 3).1 = 2 := by omega
    rcases this with e | e | e <;> rw [e]
    · exact ⟨2, by omega, by omega, rfl⟩
    · exact ⟨4, by omega, by omega, rfl⟩
    · exact ⟨1000, by omega, by omega, rfl⟩
  have k := pick_sp p [.int 2, .int 4, .int 1000] (.int M) (by decide) (by decide) hM
  rw [show (([PyData.int 2, .int 4, .int 1000].length : Nat) : Int) = 3 from rfl] at k
  generalize drw p 3 = q at *
  have i := iRg1_of (f := eCons (eAdd (eC (.int 6)) (eThen (eCons (eVar 1) eNil) (kE oLen))) eNil) (env := [some (.mu .bor (penC q.2)), some (.nt (cs.map clD)), some (.pd (.int M)), none]) (e := [some (.mu .bor (penC q.2)), some (.nt (cs.map clD)), some (.pd (.int M)), none]) (n := 6 + cs.length) (by simp [kAdd, oI, oLen]) (by omega)
  obtain ⟨p', ms, l1, l2, e⟩ := marks_lc (some (.nt (cs.map clD))) M h0 h1 ((ups (6 + cs.length)).map .int) q.2 []
  rw [List.length_map, ups_len] at l1
  refine ⟨p', ms, ⟨l1, l2⟩, ?_⟩
  unfold f__law_marks
  rw [run_of (e := [some (.mu .bor (penC p)), some (.nt (cs.map clD)), none, none]) rfl]
  have hl : ((ups (6 + cs.length)).map PyData.int).length ≤ 1000000 := by rw [List.length_map, ups_len]; omega
  simp only [m__law_marks]
  simp [k, i, e, hl, kTupN, -List.length_map]
theorem int_at {xs : List Int} {i : Nat} (h : i < xs.length) : atI (xs.map PyData.int) (i : Int) = some (.int (xs.getD i 0)) := by
  apply atI_at (by omega)
  simp [h]
theorem cut_lo (xs : List PyData) (a : Nat) (h : a ≤ xs.length) : cutD xs none (some (a : Int)) = xs.take a := by
  unfold cutD
  rw [HT.sIx_none, HT.sIx_nat, Nat.min_eq_left h]
  simp
theorem cut_hi (xs : List PyData) (a : Nat) (h : a + 1 ≤ xs.length) : cutD xs (some ((a : Int) + 1)) none = xs.drop (a + 1) := by
  unfold cutD
  rw [HT.sIx_none, show ((a : Int) + 1) = ((a + 1 : Nat) : Int) by omega, HT.sIx_nat, Nat.min_eq_left h]
  rw [List.take_of_length_le (by simp)]
def fre : Option S → Bool
  | none => true
  | some (.pd _) => true
  | some (.nt _) => true
  | some (.mu .own _) => true
  | _ => false
def freO : Option (Option S) → Bool
  | some s => fre s
  | none => false
theorem z_free2 (env : Sl) (i : Nat) : free env i = freO env[i]? := by
  rw [z_free]
  cases env[i]? with
  | none => rfl
  | some s =>
    cases s with
    | none => rfl
    | some s =>
      cases s with
      | pd x => rfl
      | nt x => rfl
      | mu m c => cases m <;> rfl
theorem freO_some (s : Option S) : freO (some s) = fre s := rfl
theorem fre_n : fre none = true := rfl
theorem fre_p (x : PyData) : fre (some (.pd x)) = true := rfl
theorem fre_t (x : List PyData) : fre (some (.nt x)) = true := rfl
theorem fre_o (c : Ct) : fre (some (.mu .own c)) = true := rfl
theorem cell_at_sp (ns : List Int) (k : Nat) : ∃ i, f__law_cell_at [.pd (.list (ns.map .int)), .pd (.int (k : Nat))] = some (.pd (.int i), [.pd (.list (ns.map .int)), .pd (.int (k : Nat))]) := by
  by_cases h : k < ns.length
  · refine ⟨ns.getD k 0, ?_⟩
    have g := int_at h
    have h' : (k : Int) < ns.length := by omega
    unfold f__law_cell_at
    rw [run_of (e := [some (.pd (.list (ns.map .int))), some (.pd (.int (k : Nat)))]) rfl]
    simp only [m__law_cell_at]
    simp [kLt, kLt0, oI, oLen, h', oIx, g, h, -List.getD_eq_getElem?_getD]
  · refine ⟨0, ?_⟩
    have h' : ¬ (k : Int) < ns.length := by omega
    unfold f__law_cell_at
    rw [run_of (e := [some (.pd (.list (ns.map .int))), some (.pd (.int (k : Nat)))]) rfl]
    simp only [m__law_cell_at]
    simp [kLt, kLt0, oI, oLen, h', h]
theorem pen_sp (i : Int) : ∃ p : Pn, f__law_pen [.pd (.int i)] = some (.tmp (penC p), [.pd (.int i)]) := by
  have cp : CPow 10 18 := ⟨by decide, by decide, by decide⟩
  refine ⟨(if i - 10 ^ (18 : Int).toNat > 0 then i - 10 ^ (18 : Int).toNat else 0, i % 2147483629 + 1, 0), ?_⟩
  unfold f__law_pen
  rw [run_of (e := [some (.pd (.int i))]) rfl]
  simp only [m__law_pen]
  simp [kPow, oI, cp, kSub, oMax, kMod, kAdd, penC]
theorem rep_one (x : PyData) (k : Nat) : (List.replicate k [x]).flatten = List.replicate k x := by
  induction k with
  | zero => rfl
  | succ k ih => simp [List.replicate_succ, ih]
theorem held_same (n : Nat) (r : Int) (T : List (Int × Int)) : held (List.replicate n r) T = List.replicate n r := List.perm_replicate.mp (held_perm T _)
theorem kTrg3 (n : Nat) (env : Sl) (h : n ≤ 100) : kTrg [.pd (.int 999), .pd (.int (999 - (n : Nat))), .pd (.int (-1))] env = some (.pd (.tuple (((List.range n).map fun k => (999 - (k : Nat) : Int)).map .int)), env) := by
  have d : dnOk 999 (999 - (n : Nat)) := by
    unfold dnOk
    have h1 : (-(2 ^ 62) : Int) ≤ 0 := by decide
    have h2 : (1000 : Int) < 2 ^ 62 := by decide
    omega
  have e : rgN (999 - (999 - (n : Nat) : Int)).toNat 999 (-1) = ((List.range n).map fun k => (999 - (k : Nat) : Int)).map .int := by
    rw [show (999 - (999 - (n : Nat) : Int)).toNat = n by omega]
    unfold rgN
    rw [List.map_map]
    apply List.map_congr_left
    intro k _
    simp only [Function.comp]
    congr 1
    omega
  show (if (-1 : Int) = -1 ∧ dnOk 999 (999 - (n : Nat)) then some (R.pd (.tuple (rgN (999 - (999 - (n : Nat) : Int)).toNat 999 (-1))), env) else none) = _
  rw [if_pos ⟨rfl, d⟩, e]
def off (cs : List Cell) : Cell → List Dir → Option Nat
  | _, [] => none
  | c, d :: ds => if stepC c d ∈ cs then (off cs (stepC c d) ds).map (· + 1) else some 0
theorem off_cons (cs : List Cell) (c : Cell) (d : Dir) (ds : List Dir) : off cs c (d :: ds) = if stepC c d ∈ cs then (off cs (stepC c d) ds).map (· + 1) else some 0 := rfl
theorem off_let {cs : List Cell} : ∀ {ds : List Dir} {c : Cell}, off cs c ds = none ↔ letR cs c ds
  | [], c => by simp [off, letR]
  | d :: ds, c => by
    unfold off letR
    split
    · rename_i h
      have := off_let (cs := cs) (ds := ds) (c := stepC c d)
      simp [h, this]
    · rename_i h
      simp [h]
theorem place_off_loop2 (cs : List Cell) (a1 a2 : S) : ∀ (ds : List Dir) (k : Nat) (c : Cell) (s4 s5 : Option S), Fr s4 → Fr s5 →
    ∃ e', forL (gT 2 (gCn (gN 4) (gCn (gN 5) gNl))) (sSeq (sSet 3 (eCall f_rolled_cell (eCons (eVar 3) (eCons (eVar 5) eNil)))) (sIf (bT (eNin (eVar 3) (eVar 0))) (sRet (eVar 4)) sPass)) ((ds.zipIdx k).map fun p => .tuple [.int (p.2 : Nat), .str (chS p.1)]) [some (.nt (cs.map clD)), some a1, some a2, some (.pd (clD c)), s4, s5] = some (match off cs c ds with
      | none => .nx
      | some i => .rt (.pd (.int ((k + i : Nat) : Int))), some (.nt (cs.map clD)) :: some a1 :: some a2 :: e')
  | [], k, c, s4, s5, _, _ => ⟨_, rfl⟩
  | d :: ds, k, c, s4, s5, h4, h5 => by
    have st : gT 2 (gCn (gN 4) (gCn (gN 5) gNl)) (.tuple [.int (k : Nat), .str (chS d)]) [some (.nt (cs.map clD)), some a1, some a2, some (.pd (clD c)), s4, s5] = some [some (.nt (cs.map clD)), some a1, some a2, some (.pd (clD c)), some (.pd (.int (k : Nat))), some (.pd (.str (chS d)))] := by
      rcases h4 with rfl | ⟨x4, rfl⟩ <;> rcases h5 with rfl | ⟨x5, rfl⟩ <;> simp
    rw [List.zipIdx_cons, List.map_cons]
    by_cases h : stepC c d ∈ cs
    · obtain ⟨e', ih⟩ := place_off_loop2 cs a1 a2 ds (k + 1) (stepC c d) (some (.pd (.int (k : Nat)))) (some (.pd (.str (chS d)))) (.inr ⟨_, rfl⟩) (.inr ⟨_, rfl⟩)
      refine ⟨e', ?_⟩
      rw [forL_cons (e2 := [some (.nt (cs.map clD)), some a1, some a2, some (.pd (clD (stepC c d))), some (.pd (.int (k : Nat))), some (.pd (.str (chS d)))]) st ?_, ih]
      · rw [off_cons, if_pos h]
        cases off cs (stepC c d) ds with
        | none => rfl
        | some i =>
          simp only [Option.map_some]
          rw [show k + 1 + i = k + (i + 1) by omega]
      · simp [rolled_cell_sp, oIn, sh_cell, sh_cells, any_cell, h, -List.any_map, -List.any_eq_true]
    · refine ⟨[some (.pd (clD (stepC c d))), some (.pd (.int (k : Nat))), some (.pd (.str (chS d)))], ?_⟩
      unfold forL
      simp only [] at st ⊢
      rw [st]
      rw [off_cons, if_neg h]
      simp [rolled_cell_sp, oIn, sh_cell, sh_cells, any_cell, h, -List.any_map, -List.any_eq_true]
def offD : Option Nat → PyData
  | none => .none
  | some i => .int (i : Nat)
theorem place_off_sp2 (cs : List Cell) (c : Cell) (ds : List Dir) : f_place_off [.nt (cs.map clD), .pd (clD c), .pd (.str (rowS ds))] = some (.pd (offD (off cs c ds)), [.nt (cs.map clD), .pd (clD c), .pd (.str (rowS ds))]) := by
  unfold f_place_off
  rw [run_of (e := [some (.nt (cs.map clD)), some (.pd (clD c)), some (.pd (.str (rowS ds))), none, none, none]) rfl]
  obtain ⟨e', e⟩ := place_off_loop2 cs (.pd (clD c)) (.pd (.str (rowS ds))) ds 0 c none none (.inl rfl) (.inl rfl)
  cases h : off cs c ds with
  | none =>
    rw [h] at e
    simp [m_place_off, iEn, enum_row, e, offD]
  | some i =>
    rw [h] at e
    simp [m_place_off, iEn, enum_row, e, offD]
theorem stand_loop (a0 a1 a2 a3 : S) : ∀ (ds : List Dir) (c : Cell) (l : Ly) (s5 : Option S), Fr s5 → ∃ s5', forL (gN 5) (sSet 4 (eCall f_rolled_stand (eCons (eVar 4) (eCons (eVar 5) eNil)))) (ds.map fun d => .str (chS d)) [some a0, some a1, some a2, some a3, some (.pd (stD c l)), s5] = some (.nx, [some a0, some a1, some a2, some a3, some (.pd (stD (endC c ds) (endL l ds))), s5'])
  | [], c, l, s5, _ => ⟨s5, rfl⟩
  | d :: ds, c, l, s5, h5 => by
    obtain ⟨s5', ih⟩ := stand_loop a0 a1 a2 a3 ds (stepC c d) (roll l d) (some (.pd (.str (chS d)))) (.inr ⟨_, rfl⟩)
    refine ⟨s5', ?_⟩
    rw [List.map_cons, forL_cons (e1 := [some a0, some a1, some a2, some a3, some (.pd (stD c l)), some (.pd (.str (chS d)))]) (e2 := [some a0, some a1, some a2, some a3, some (.pd (stD (stepC c d) (roll l d))), some (.pd (.str (chS d)))]) ?_ ?_, ih]
    · rfl
    · rcases h5 with rfl | ⟨x5, rfl⟩ <;> simp
    · simp [rolled_stand_sp]
theorem join_fold : ∀ (ds : List Dir) (acc : Array Nat), (ds.map chS).foldl (fun acc p => acc ++ (Str.ofString "").cps ++ p.cps) acc = acc ++ (ds.map Dir.code).toArray
  | [], acc => by simp
  | d :: ds, acc => by
    rw [List.map_cons, List.foldl_cons, join_fold ds]
    have : (Str.ofString "").cps = #[] := by decide
    rw [this]
    simp [chS]
theorem join_row (ds : List Dir) : Txt.join "" (ds.map chS) = rowS ds := by
  cases ds with
  | nil => decide
  | cons d ds =>
    show (⟨(ds.map chS).foldl (fun acc p => acc ++ (Str.ofString "").cps ++ p.cps) (chS d).cps⟩ : Str) = _
    rw [join_fold]
    simp [chS, rowS]
theorem strs_ch : ∀ ds : List Dir, strs? (ds.map chD) = some (ds.map chS)
  | [] => rfl
  | d :: ds => by
    show (match strs? (ds.map chD) with | none => none | some ys => some (chS d :: ys)) = _
    rw [strs_ch ds]
    rfl
theorem oJoin_row (ds : List Dir) (h : ds.length ≤ 1000) : oJoin [.str "", .list (ds.map chD)] = some (.str (rowS ds)) := by
  show (match strs? (ds.map chD) with | some ys => if JoOk "" ys then some (PyData.str (Txt.join "" ys)) else none | none => none) = _
  rw [strs_ch]
  have hs : ∀ ds : List Dir, ((ds.map chS).map (·.length)).sum = ds.length := by
    intro ds
    induction ds with
    | nil => rfl
    | cons d ds ih => rw [List.map_cons, List.map_cons, List.sum_cons, ih]; show 1 + ds.length = _; simp; omega
  have j : JoOk "" (ds.map chS) := by
    unfold JoOk
    rw [hs, List.length_map]
    show ds.length + ds.length * 0 ≤ _
    omega
  simp only [if_pos j, join_row]
def opp : Dir → Dir
  | .e => .w
  | .n => .s
  | .s => .n
  | .w => .e
def bk (ds : List Dir) : List Dir := ds.reverse.map opp
theorem rev_row (ds : List Dir) : revS (rowS ds) = rowS ds.reverse := by simp [revS, rowS]
theorem six_ensw (d : Dir) : oSix [.str "ensw", chD d] = some (.int (match d with | .e => 0 | .n => 1 | .s => 2 | .w => 3)) := by
  have h : ∀ i, Builtin.Str.occurrences "ensw" (chS d) 0 4 1 = [i] → oSix [.str "ensw", chD d] = some (.int (i : Nat)) := by
    intro i hi
    show (match Builtin.Str.occurrences "ensw" (chS d) 0 4 1 with | i :: _ => some (PyData.int (i : Nat)) | [] => none) = _
    rw [hi]
  cases d
  · exact h 1 (by decide +kernel)
  · exact h 0 (by decide +kernel)
  · exact h 2 (by decide +kernel)
  · exact h 3 (by decide +kernel)
theorem wsne_eq : ("wsne" : Str) = ⟨#[119, 115, 110, 101]⟩ := by decide
theorem wsne_ix (d : Dir) : oIx [.str "wsne", .int (match d with | .e => 0 | .n => 1 | .s => 2 | .w => 3)] = some (chD (opp d)) := by
  rw [wsne_eq]
  cases d <;> rfl
def wlk (cs : List Cell) : Cell → Ly → List Dir → List (Cell × Ly)
  | c, l, [] => [(c, l)]
  | c, l, d :: ds => (c, l) :: if stepC c d ∈ cs then wlk cs (stepC c d) (roll l d) ds else []
def wD (p : Cell × Ly) : PyData := .tuple [clD p.1, sixD p.2]
theorem at_last {α : Type} (acc : List α) (x : α) : atI (acc ++ [x]) (-1) = some x := by
  unfold atI ixN
  have h1 : ¬ (0 : Int) ≤ -1 := by decide
  have h2 : -((acc ++ [x]).length : Int) ≤ -1 := by simp; omega
  rw [if_neg h1, if_pos h2]
  have h3 : (-1 + ((acc ++ [x]).length : Int)).toNat = acc.length := by simp; omega
  rw [h3]
  simp
theorem walked_loop (cs : List Cell) (a1 a2 : S) : ∀ (ds : List Dir) (c : Cell) (l : Ly) (acc : List PyData) (s4 s5 : Option S), acc.length + ds.length ≤ 1000 → Fr s4 → Fr s5 →
    ∃ fl s4' s5', (fl = .nx ∨ fl = .rt (.var 3)) ∧ forL (gN 4) (sSeq (sSet 5 (eCall f__law_to (eCons (eIx (eIx (eVar 3) (eNeg (eC (.int 1)))) (eC (.int 0))) (eCons (eVar 4) eNil))))
  (sSeq (sIf (bT (eNin (eVar 5) (eVar 0))) (sRet (eVar 3)) sPass)
  (sExpr (eBM isL (eVar 3) (eCons (eThen (eCons (eVar 5) (eCons (eCall f__law_rolled (eCons (eIx (eIx (eVar 3) (eNeg (eC (.int 1)))) (eC (.int 1))) (eCons (eVar 4) eNil))) eNil)) kTup) eNil) kAppend)))) (ds.map chD) [some (.nt (cs.map clD)), some a1, some a2, some (.mu .own (.ls (acc ++ [wD (c, l)]))), s4, s5] = some (fl, [some (.nt (cs.map clD)), some a1, some a2, some (.mu .own (.ls (acc ++ (wlk cs c l ds).map wD))), s4', s5'])
  | [], c, l, acc, s4, s5, _, _, _ => ⟨.nx, s4, s5, .inl rfl, rfl⟩
  | d :: ds, c, l, acc, s4, s5, hl, h4, h5 => by
    have la := at_last acc (wD (c, l))
    have x0 : atI [clD c, sixD l] 0 = some (clD c) := rfl
    have x1 : atI [clD c, sixD l] 1 = some (sixD l) := rfl
    have wd : wD (c, l) = .tuple [clD c, sixD l] := rfl
    have wd2 : wD (stepC c d, roll l d) = .tuple [clD (stepC c d), sixD (roll l d)] := rfl
    have t := law_to_sp c d
    have r := rolled_sp l d
    rw [show PyData.str (chS d) = chD d from rfl] at t r
    have ln : (acc ++ [wD (c, l)]).length ≤ 1000000 := by simp at hl ⊢; omega
    have st : gN 4 (chD d) [some (.nt (cs.map clD)), some a1, some a2, some (.mu .own (.ls (acc ++ [wD (c, l)]))), s4, s5] = some [some (.nt (cs.map clD)), some a1, some a2, some (.mu .own (.ls (acc ++ [wD (c, l)]))), some (.pd (chD d)), s5] := by
      rcases h4 with rfl | ⟨x4, rfl⟩ <;> simp
    rw [List.map_cons]
    by_cases h : stepC c d ∈ cs
    · obtain ⟨fl, s4', s5', hf, ih⟩ := walked_loop cs a1 a2 ds (stepC c d) (roll l d) (acc ++ [wD (c, l)]) (some (.pd (chD d))) (some (.pd (clD (stepC c d)))) (by simp at hl ⊢; omega) (.inr ⟨_, rfl⟩) (.inr ⟨_, rfl⟩)
      refine ⟨fl, s4', s5', hf, ?_⟩
      rw [forL_cons (e2 := [some (.nt (cs.map clD)), some a1, some a2, some (.mu .own (.ls (acc ++ [wD (c, l)] ++ [wD (stepC c d, roll l d)]))), some (.pd (chD d)), some (.pd (clD (stepC c d)))]) st ?_, ih]
      · have : wlk cs c l (d :: ds) = (c, l) :: wlk cs (stepC c d) (roll l d) ds := by simp [wlk, h]
        rw [this]
        simp
      · generalize hA : acc ++ [wD (c, l)] = A at *
        rw [wd] at la
        rcases h5 with rfl | ⟨x5, rfl⟩ <;>
          simp [kNeg, oNeg, oIx, la, x0, x1, t, r, oIn, sh_cell, sh_cells, any_cell, h, isL, kAppend, ln, wd2, -List.any_map, -List.any_eq_true]
    · have : wlk cs c l (d :: ds) = [(c, l)] := by simp [wlk, h]
      rw [this]
      refine ⟨.rt (.var 3), some (.pd (chD d)), some (.pd (clD (stepC c d))), .inr rfl, ?_⟩
      unfold forL
      rw [st]
      simp only [List.map_cons, List.map_nil]
      generalize hA : acc ++ [wD (c, l)] = A at *
      rw [wd] at la
      rcases h5 with rfl | ⟨x5, rfl⟩ <;>
        simp [kNeg, oNeg, oIx, la, x0, x1, t, r, oIn, sh_cell, sh_cells, any_cell, h, -List.any_map, -List.any_eq_true]
theorem walked_sp (cs : List Cell) (c : Cell) (l : Ly) (ds : List Dir) (hl : ds.length ≤ 1000) : f__law_walked [.nt (cs.map clD), .pd (stD c l), .pd (.str (rowS ds))] = some (.tmp (.ls ((wlk cs c l ds).map wD)), [.nt (cs.map clD), .pd (stD c l), .pd (.str (rowS ds))]) := by
  obtain ⟨fl, s4', s5', hf, e⟩ := walked_loop cs (.pd (stD c l)) (.pd (.str (rowS ds))) ds c l [] none none (by simpa using hl) (.inl rfl) (.inl rfl)
  rw [List.nil_append] at e
  have x0 : atI [clD c, lyD l] 0 = some (clD c) := rfl
  have x1 : atI [clD c, lyD l] 1 = some (lyD l) := rfl
  have sl : stD c l = .tuple [clD c, lyD l] := rfl
  have wd : PyData.tuple [clD c, sixD l] = wD (c, l) := rfl
  have sg : signs (rowS ds) = ds.map chD := by rw [signs_row]; rfl
  rw [sl] at e ⊢
  unfold f__law_walked
  rw [run_of (e := [some (.nt (cs.map clD)), some (.pd (.tuple [clD c, lyD l])), some (.pd (.str (rowS ds))), none, none, none]) rfl]
  simp only [m__law_walked]
  rcases hf with rfl | rfl <;> simp [oIx, x0, x1, six_sp, wd, sg, e]
theorem wlk_len (cs : List Cell) : ∀ (ds : List Dir) (c : Cell) (l : Ly), (wlk cs c l ds).length = (match off cs c ds with | none => ds.length + 1 | some i => i + 1)
  | [], c, l => rfl
  | d :: ds, c, l => by
    rw [off_cons]
    by_cases h : stepC c d ∈ cs
    · have := wlk_len cs ds (stepC c d) (roll l d)
      simp only [wlk, h, if_true, List.length_cons, this]
      cases off cs (stepC c d) ds <;> simp
    · simp [wlk, h]
theorem off_lt {cs : List Cell} : ∀ {ds : List Dir} {c : Cell} {i : Nat}, off cs c ds = some i → i < ds.length
  | [], c, i, h => by cases h
  | d :: ds, c, i, h => by
    rw [off_cons] at h
    split at h
    · cases ho : off cs (stepC c d) ds with
      | none => rw [ho] at h; cases h
      | some j =>
        rw [ho] at h
        have := off_lt ho
        simp at h
        simp
        omega
    · cases h
      simp
theorem wlk_last {cs : List Cell} : ∀ {ds : List Dir} {c : Cell} {l : Ly}, letR cs c ds → ∃ w, wlk cs c l ds = w ++ [(endC c ds, endL l ds)]
  | [], c, l, _ => ⟨[], rfl⟩
  | d :: ds, c, l, h => by
    obtain ⟨w, e⟩ := wlk_last (l := roll l d) h.2
    refine ⟨(c, l) :: w, ?_⟩
    have h1 := h.1
    simp only [wlk, h1, if_true, e]
    rfl
theorem step_opp (c : Cell) (d : Dir) : stepC (stepC c d) (opp d) = c := by
  cases d <;> simp [stepC, opp] <;> (apply Prod.ext <;> simp <;> omega)
theorem roll_opp (l : Ly) (d : Dir) : roll (roll l d) (opp d) = l := by
  obtain ⟨a, b, c⟩ := l
  cases d <;> simp [roll, opp] <;> omega
theorem endC_snoc (c : Cell) (ds es : List Dir) : endC c (ds ++ es) = endC (endC c ds) es := by simp [endC]
theorem endL_snoc (c : Ly) (ds es : List Dir) : endL c (ds ++ es) = endL (endL c ds) es := by simp [endL]
theorem bk_cons (d : Dir) (ds : List Dir) : bk (d :: ds) = bk ds ++ [opp d] := by simp [bk]
theorem bk_len (ds : List Dir) : (bk ds).length = ds.length := by simp [bk]
theorem bk_end (c : Cell) (l : Ly) : ∀ ds : List Dir, endC (endC c ds) (bk ds) = c ∧ endL (endL l ds) (bk ds) = l := by
  intro ds
  induction ds generalizing c l with
  | nil => exact ⟨rfl, rfl⟩
  | cons d ds ih =>
    obtain ⟨h1, h2⟩ := ih (stepC c d) (roll l d)
    rw [bk_cons, endC_snoc, endL_snoc]
    refine ⟨?_, ?_⟩
    · show stepC (endC (endC (stepC c d) ds) (bk ds)) (opp d) = c
      rw [h1, step_opp]
    · show roll (endL (endL (roll l d) ds) (bk ds)) (opp d) = l
      rw [h2, roll_opp]
theorem letR_snoc {cs : List Cell} : ∀ (ds es : List Dir) (c : Cell), letR cs c ds → letR cs (endC c ds) es → letR cs c (ds ++ es)
  | [], es, c, _, h => h
  | d :: ds, es, c, h1, h => ⟨h1.1, letR_snoc ds es _ h1.2 h⟩
theorem letR_bk {cs : List Cell} : ∀ (ds : List Dir) (c : Cell), c ∈ cs → letR cs c ds → letR cs (endC c ds) (bk ds)
  | [], c, _, _ => trivial
  | d :: ds, c, hc, h => by
    rw [bk_cons]
    refine letR_snoc _ _ _ (letR_bk ds (stepC c d) h.1 h.2) ⟨?_, trivial⟩
    have := (bk_end (stepC c d) (0, 0, 0) ds).1
    show stepC (endC (endC (stepC c d) ds) (bk ds)) (opp d) ∈ cs
    rw [this, step_opp]
    exact hc
theorem letR_take {cs : List Cell} : ∀ (n : Nat) (ds : List Dir) (c : Cell), letR cs c ds → letR cs c (ds.take n)
  | 0, ds, c, _ => by simp [letR]
  | n + 1, [], c, _ => trivial
  | n + 1, d :: ds, c, h => ⟨h.1, letR_take n ds _ h.2⟩
theorem row_app (ds es : List Dir) : rowS ds ++ rowS es = rowS (ds ++ es) := by
  show Str.mk (_ ++ _) = _
  simp [rowS]
theorem cut_row (ds : List Dir) (n : Nat) : cutS (rowS ds) none (some (n : Int)) = rowS (ds.take n) := by
  unfold cutS
  rw [HT.sIx_none, HT.sIx_nat, row_len]
  have h : ((rowS ds).cps.toList.drop 0).take (min n ds.length - 0) = (ds.take n).map Dir.code := by
    simp only [rowS, List.drop_zero, Nat.sub_zero, List.map_take]
    apply List.ext_getElem?
    intro i
    simp only [List.getElem?_take, List.getElem?_map]
    by_cases h1 : i < n
    · by_cases h2 : i < ds.length
      · simp [h1, h2]; omega
      · simp [h1, h2]
    · simp [h1]; omega
  rw [h]
  rfl
theorem rd_floor (cs : List Cell) (h : okFl cs) : RD 2 747 (.tuple (cs.map clD)) := RD.tup (k := 82) (n := 9) (by
  intro x hx
  obtain ⟨c, hc, rfl⟩ := List.mem_map.mp hx
  have := inB_b (h.2.2.1 c hc)
  exact RD.cell (by omega)) (by rw [List.length_map]; exact h.2.1)
theorem off_rd {o : Option Nat} (h : ∀ i, o = some i → i ≤ 1000) : RD 0 40 (offD o) := by
  cases o with
  | none => exact RD.none
  | some i => have := h i rfl; exact RD.int (by omega) (by omega)
theorem two_lc {x : PyData} {f : EE} {env : Sl} (hw : ∀ k : Nat, ∃ e1 e3, gN 13 (.int (k : Nat)) (wipeE env [13]) = some e1 ∧ f e1 = some (.pd x, e3) ∧ unwipe env e3 [13] = env) : lcL (gN 13) bYes f [13] ((List.range 2).map fun k => .int ((k : Nat) : Int)) env [] = some ([x, x], env) := by
  have := lcL_all (g := gN 13) (f := f) (vs := [13]) (env := env) (y := fun _ => x) (q := fun k => .int ((k : Nat) : Int)) (List.range 2) (fun k _ => by
    obtain ⟨e1, e3, h1, h2, h3⟩ := hw k
    exact ⟨e1, .pd x, e3, h1, h2, rfl, h3⟩)
  rw [this]
  rfl
end L05

end
section
set_option linter.all false
set_option autoImplicit false
set_option Elab.async false
set_option maxRecDepth 10000
namespace L05
open PySem L2 T3 MM
theorem ltC_iff (a b : Cell) : ltC a b = true ↔ a.1 < b.1 ∨ (a.1 = b.1 ∧ a.2 < b.2) := by
  unfold ltC
  simp only [HT.lexLt]
  by_cases e : a.1 = b.1
  · by_cases e2 : a.2 = b.2
    · simp [e, e2]
    · simp [e, e2]
  · simp [e]
theorem chain_nd {cs : List Cell} (h : chain cs = true) : cs.Nodup := by
  have tr : ∀ a b c : Cell, ltC a b = true → ltC b c = true → ltC a c = true := by
    intro a b c h1 h2
    rw [ltC_iff] at *
    omega
  have ir : ∀ a : Cell, ltC a a ≠ true := by
    intro a h
    rw [ltC_iff] at h
    omega
  have go : ∀ (cs : List Cell), chain cs = true → cs.Pairwise (fun a b => ltC a b = true) := by
    intro cs
    induction cs with
    | nil => intro _; exact .nil
    | cons a cs ih =>
      intro h
      cases cs with
      | nil => exact List.pairwise_singleton _ _
      | cons b cs =>
        simp only [chain, Bool.and_eq_true] at h
        have hp := ih h.2
        refine List.pairwise_cons.mpr ⟨fun c hc => ?_, hp⟩
        rcases List.mem_cons.mp hc with rfl | hc
        · exact h.1
        · exact tr a b c h.1 ((List.pairwise_cons.mp hp).1 c hc)
  exact List.Pairwise.imp (fun {a b} h e => by subst e; exact ir a h) (go cs h)
def aft (cs : List Cell) : Cell → Ly → List Dir → List (Cell × Ly)
  | _, _, [] => []
  | c, l, d :: ds => (stepC c d, roll l d) :: aft cs (stepC c d) (roll l d) ds
theorem wlk_aft {cs : List Cell} : ∀ {ds : List Dir} {c : Cell} {l : Ly}, letR cs c ds → wlk cs c l ds = (c, l) :: aft cs c l ds
  | [], _, _, _ => rfl
  | d :: ds, c, l, h => by
    obtain ⟨h1, h2⟩ := h
    simp only [wlk, aft, if_pos h1, wlk_aft h2]
theorem traded_sp {cs : List Cell} {c : Cell} {l : Ly} {ds : List Dir} (h : Sit cs c l ds) (xs : List PyData) (s : S) (hs : isT s xs) (hx : xs.length = 6 + cs.length) : f__law_traded [.nt (cs.map clD), .pd (stD c l), .pd (.str (rowS ds)), s] = some (.nt (held xs (trd cs c l ds)), [.nt (cs.map clD), .pd (stD c l), .pd (.str (rowS ds)), s]) := by
  have nd := chain_nd h.fl.2.2.2
  have h9 := h.fl.2.1
  have key : wF f__law_traded [.nt (cs.map clD), .pd (stD c l), .pd (.str (rowS ds)), s] (fun r as => r = .nt (held xs (trd cs c l ds)) ∧ as = [.nt (cs.map clD), .pd (stD c l), .pd (.str (rowS ds)), s]) := by
    have c1 : cutD xs none (some 6) = xs.take 6 := cut_lo xs 6 (by omega)
    have c2 : cutD xs (some 6) none = xs.drop 6 := cut_hi xs 5 (by omega)
    have ld : cs.length = (xs.drop 6).length := by simp; omega
    have pr := dN_pairs ld
    have al := dN_all ld nd
    have wk := walked_sp cs c l ds h.ln
    rw [wlk_aft h.lt] at wk
    refine wF_run (e := [some (.nt (cs.map clD)), some (.pd (stD c l)), some (.pd (.str (rowS ds))), some s, none, none, none, none]) rfl ?_
    refine wS_seq ?_
    have st1 : sParN [4, 5] (eCons (eThen (eCons (eSl (eVar 3) oNo (oSome (eC (.int 6)))) eNil) (kL oList)) (eCons (eThen (eCons (eLz (eCons (eVar 0) (eCons (eSl (eVar 3) (oSome (eC (.int 6))) oNo) eNil))) eNil) kDict) eNil)) [some (.nt (cs.map clD)), some (.pd (stD c l)), some (.pd (.str (rowS ds))), some s, none, none, none, none] = some (.nx, [some (.nt (cs.map clD)), some (.pd (stD c l)), some (.pd (.str (rowS ds))), some s, some (.mu .own (.ls (xs.take 6))), some (.mu .own (.dn (dN cs (xs.drop 6)))), none, none]) := by
      rcases hs with rfl | rfl
      · simp [oSome, kSl, c1, c2, oList, pr, al, hx]
      · simp [oSome, kSl, c1, c2, oList, pr, al, hx]
    refine wS_of st1 ?_
    simp only [nxt_nx]
    rw [go]
    refine wS_seq ?_
    refine wS_for (xs := (aft cs c l ds).map wD) (lk := none) (e := [some (.nt (cs.map clD)), some (.pd (stD c l)), some (.pd (.str (rowS ds))), some s, some (.mu .own (.ls (xs.take 6))), some (.mu .own (.dn (dN cs (xs.drop 6)))), none, none]) (by simp [wk, oSome, kSl, cut1_d])
      (fun rest e => ∃ ds' c' l' xs' s6 s7, rest = (aft cs c' l' ds').map wD ∧ letR cs c' ds' ∧ l' ∈ lyings ∧ xs'.length = 6 + cs.length ∧ held xs' (trd cs c' l' ds') = held xs (trd cs c l ds) ∧ fre s6 = true ∧ fre s7 = true ∧
        e = [some (.nt (cs.map clD)), some (.pd (stD c l)), some (.pd (.str (rowS ds))), some s, some (.mu .own (.ls (xs'.take 6))), some (.mu .own (.dn (dN cs (xs'.drop 6)))), s6, s7])
      ⟨ds, c, l, xs, none, none, rfl, h.lt, h.ly, hx, rfl, rfl, rfl, rfl⟩ ?_ ?_
    · rintro x rest e ⟨ds', c', l', xs', s6, s7, er, hlt, hly, hxl, hh, f6, f7, rfl⟩
      cases ds' with
      | nil => simp [aft] at er
      | cons d ds' =>
        simp only [aft, List.map_cons, List.cons.injEq] at er
        simp only [trd] at hh
        obtain ⟨rfl, rfl⟩ := er
        obtain ⟨hc1, hlt⟩ := hlt
        have hly' := roll_mem l' hly d
        have hb := ly_bound _ hly'
        generalize roll l' d = l2 at *
        generalize stepC c' d = c2' at *
        obtain ⟨i, hi⟩ : ∃ i : Nat, l2.1 = i := ⟨l2.1.toNat, by omega⟩
        have hi6 : i < 6 := by omega
        have hj := List.idxOf_lt_length_iff.mpr hc1
        have ex : xs'[i]? = some (xs'[i]'(by omega)) := List.getElem?_eq_getElem _
        have ey : xs'[6 + cs.idxOf c2']? = some (xs'[6 + cs.idxOf c2']'(by omega)) := List.getElem?_eq_getElem _
        generalize xs'[i]'(by omega) = vx at ex
        generalize xs'[6 + cs.idxOf c2']'(by omega) = vy at ey
        have ld' : cs.length = (xs'.drop 6).length := by simp; omega
        have g1 := cGet_dN ld' hc1
        rw [List.getElem?_drop, ey] at g1
        have g2 : atI (xs'.take 6) (i : Int) = some vx := atI_at (by omega) (by simp [List.getElem?_take, hi6, ex])
        have g3 := cPut_dN (x := vx) ld' (by omega) nd hc1
        obtain ⟨w1, w2⟩ := swp_parts hi6 ex ey
        have g4 : ixN (xs'.take 6).length (i : Int) = some i := by rw [ixN_at (by omega) (by simp; omega)]; simp
        have g5 : atI [PyData.int l2.1, .int (5 - l2.1), .int l2.2.1, .int (5 - l2.2.1), .int l2.2.2, .int (5 - l2.2.2)] 0 = some (.int (i : Int)) := by rw [← hi]; rfl
        have ee : held (swp xs' ((i : Int), 6 + (cs.idxOf c2' : Int))) (trd cs c2' l2 ds') = held xs' (((i : Int), 6 + (cs.idxOf c2' : Int)) :: trd cs c2' l2 ds') := rfl
        have tg : gT 2 (gCn (gN 6) (gCn (gN 7) gNl)) (wD (c2', l2)) [some (.nt (cs.map clD)), some (.pd (stD c l)), some (.pd (.str (rowS ds))), some s, some (.mu .own (.ls (xs'.take 6))), some (.mu .own (.dn (dN cs (xs'.drop 6)))), s6, s7] = some [some (.nt (cs.map clD)), some (.pd (stD c l)), some (.pd (.str (rowS ds))), some s, some (.mu .own (.ls (xs'.take 6))), some (.mu .own (.dn (dN cs (xs'.drop 6)))), some (.pd (clD c2')), some (.pd (sixD l2))] := by
          simp [wD, z_free2, freO_some, f6, f7, -z_free]
        unfold gW
        rw [tg]
        · refine wS_of (fl := .nx) (e := [some (.nt (cs.map clD)), some (.pd (stD c l)), some (.pd (.str (rowS ds))), some s, some (.mu .own (.ls ((xs'.take 6).set i vy))), some (.mu .own (.dn (dN cs ((xs'.drop 6).set (cs.idxOf c2') vx)))), some (.pd (clD c2')), some (.pd (sixD l2))]) ?_ ?_
          · simp [g1, sixD, oIx, g2, g5, putL, g4, g3, -List.length_take]
          · refine ⟨ds', c2', l2, swp xs' ((i : Int), 6 + (cs.idxOf c2' : Int)), some (.pd (clD c2')), some (.pd (sixD l2)), rfl, hlt, hly', by rw [swp_len]; exact hxl, ?_, rfl, rfl, by rw [w1, w2]⟩
            rw [ee, ← hh, hi]
    · rintro e ⟨ds', c', l', xs', s6, s7, er, hlt, hly, hxl, hh, f6, f7, rfl⟩
      cases ds' with
      | cons d ds' => simp [aft] at er
      | nil =>
        have hh : xs' = held xs (trd cs c l ds) := hh
        subst hh
        generalize held xs (trd cs c l ds) = xs' at *
        have ld' : cs.length = (xs'.drop 6).length := by simp; omega
        have el := lc_all (it := iSeq (eVar 0)) (g := gN 6) (f := eDg (eVar 5) (eVar 6)) (vs := [6]) (q := clD) (y := fun c => (xs'.drop 6).getD (cs.idxOf c) .none) (lk := none) (env := [some (.nt (cs.map clD)), some (.pd (stD c l)), some (.pd (.str (rowS ds))), some s, some (.mu .own (.ls (xs'.take 6))), some (.mu .own (.dn (dN cs (xs'.drop 6)))), s6, s7]) cs rfl (by omega) (fun a ha => by
          have g1 := cGet_dN ld' ha
          have hj := List.idxOf_lt_length_iff.mpr ha
          rw [List.getElem?_eq_getElem (show cs.idxOf a < (xs'.drop 6).length by omega)] at g1
          have e : (xs'.drop 6).getD (cs.idxOf a) .none = (xs'.drop 6)[cs.idxOf a]'(by omega) := by rw [List.getD_eq_getElem?_getD, List.getElem?_eq_getElem (show cs.idxOf a < (xs'.drop 6).length by omega)]; rfl
          rw [e]
          simp [lcOk, wipeE, unwipe, g1])
        rw [map_idx ld' nd] at el
        simp only [z_unl, nxt_nx]
        rw [go]
        refine wS_of (fl := .rt (.nt xs')) (e := [some (.nt (cs.map clD)), some (.pd (stD c l)), some (.pd (.str (rowS ds))), some s, some (.mu .own (.ls (xs'.take 6))), some (.mu .own (.dn (dN cs (xs'.drop 6)))), s6, s7]) ?_ ?_
        · have hl : 6 + cs.length ≤ 1000000 := by omega
          simp [el, kAdd, oI, oCatS, oCatT, kCatL, lsOf, kTupN, hxl, hl, List.take_append_drop, -z_lc]
        · rcases hs with rfl | rfl <;> simp
  obtain ⟨r, as, e, rfl, rfl⟩ := key
  exact e
end L05

end
section
set_option linter.all false
set_option autoImplicit false
set_option Elab.async false
set_option maxRecDepth 10000
namespace L05
open PySem L2 T3 MM
theorem moves_sp {cs : List Cell} {c : Cell} {l : Ly} {ds : List Dir} (h : Sit cs c l ds) : f__law_moves [.nt (cs.map clD), .pd (stD c l), .pd (.str (rowS ds))] = some (.nt ((exI (6 + cs.length) (trd cs c l ds)).map .int), [.nt (cs.map clD), .pd (stD c l), .pd (.str (rowS ds))]) := by
  have h9 := h.fl.2.1
  have tr := traded_sp h ((ups (6 + cs.length)).map .int) (.pd (.tuple ((ups (6 + cs.length)).map .int))) (.inl rfl) (by simp [ups_len])
  rw [ups_map, held_map] at tr
  have t1 : ∀ env, kTrg [.pd (.int (6 + cs.length : Nat))] env = some (.pd (.tuple ((ups (6 + cs.length)).map .int)), env) := fun env => by rw [kTrg1 _ _ (rgOk_of _ (by omega)), rgT_ups]
  rw [ups_map] at t1
  have e6 : ((6 : Int) + (cs.length : Int)) = ((6 + cs.length : Nat) : Int) := by omega
  generalize hn : 6 + cs.length = n at *
  generalize hT : trd cs c l ds = T at *
  have tr' : f__law_traded [.nt (cs.map clD), .pd (stD c l), .pd (.str (rowS ds)), .pd (.tuple ((List.range n).map fun k => .int ((k : Nat) : Int)))] = some (.nt ((org n T).map fun k => .int ((k : Nat) : Int)), [.nt (cs.map clD), .pd (stD c l), .pd (.str (rowS ds)), .pd (.tuple ((List.range n).map fun k => .int ((k : Nat) : Int)))]) := tr
  have hs : SeqAt.shaped (.tuple ((org n T).map fun k => .int ((k : Nat) : Int))) = true := sh_tup _ (fun c => by simp [PyData.canLay0]) (fun c => by simp [PyData.depth]) _
  have el := lc_all (it := iRg1 (eCons (eThen (eCons (eVar 3) eNil) (kE oLen)) eNil)) (g := gN 4) (f := eBM isNt (eVar 3) (eCons (eVar 4) eNil) kIxT) (vs := [4]) (q := fun k => .int ((k : Nat) : Int)) (y := fun j => .int ((mv n T j : Nat) : Int)) (lk := none)
    (env := [some (.nt (cs.map clD)), some (.pd (stD c l)), some (.pd (.str (rowS ds))), some (.nt ((org n T).map fun k => .int ((k : Nat) : Int))), none]) (e := [some (.nt (cs.map clD)), some (.pd (stD c l)), some (.pd (.str (rowS ds))), some (.nt ((org n T).map fun k => .int ((k : Nat) : Int))), none]) (List.range n) (by
      rw [← ups_map]
      exact iRg1_of (n := n) (by simp [oLen, org_len]) (by omega)) (by simp; omega) (fun j hj => by
      have hf := firstIx_nat j (org n T) (org_mem.mpr (List.mem_range.mp hj))
      simp [lcOk, wipeE, unwipe, isNt, kIxT, oIxT, hs, sh_int, hf, mv])
  have hx : (exI n T).map PyData.int = (List.range n).map (fun j => .int ((mv n T j : Nat) : Int)) := by simp [exI]
  rw [hx]
  unfold f__law_moves
  rw [run_of (e := [some (.nt (cs.map clD)), some (.pd (stD c l)), some (.pd (.str (rowS ds))), none, none]) rfl]
  simp [m__law_moves, kAdd, oI, oLen, e6, hn, t1, tr', el, kTupN, -z_lc]
theorem rd_marks {n : Nat} (ms : List Int) (hn : ms.length ≤ n) (h : ∀ m ∈ ms, 0 ≤ m ∧ m ≤ 999) : RD 1 (41 * n) (.tuple (ms.map .int)) := RD.tup (k := 40) (n := n) (by
  intro x hx
  obtain ⟨m, hm, rfl⟩ := List.mem_map.mp hx
  have := h m hm
  exact RD.int (by omega) (by omega)) (by simpa using hn)
theorem rd_stand {c : Cell} {l : Ly} (hc : inB c = true) (hl : l ∈ lyings) : RD 2 248 (stD c l) := RD.tup (k := 123) (n := 2) (by
  intro x hx
  have := inB_b hc
  simp only [List.mem_cons, List.not_mem_nil, or_false] at hx
  rcases hx with rfl | rfl
  · exact (RD.cell (by omega)).mono (by omega) (by omega)
  · exact RD.ly hl) (by simp)
def lapI (E : Option S → Sl) (rest : List PyData) (e : Sl) : Prop := ∃ s, fre s = true ∧ (∀ x ∈ rest, ∃ k : Int, x = .int k) ∧ e = E s
theorem lap0 (n : Nat) (E : Option S → Sl) (s : Option S) (h : fre s = true) : lapI E (nD (List.range n)) (E s) := ⟨s, h, fun x hx => by simp only [nD, List.mem_map] at hx; obtain ⟨k, _, rfl⟩ := hx; exact ⟨_, rfl⟩, rfl⟩
def LI (ns : List Int) (rest : List PyData) (e : Sl) : Prop := ∃ (ks : List Nat) (s1 s2 s3 s4 s5 s6 s7 s8 s9 s10 : Option S), rest = nD ks ∧ (fre s1 = true ∧ fre s2 = true ∧ fre s3 = true ∧ fre s4 = true ∧ fre s5 = true ∧ fre s6 = true ∧ fre s7 = true ∧ fre s8 = true ∧ fre s9 = true ∧ fre s10 = true) ∧
  e = [some (.pd (.list (ns.map .int))), s1, s2, s3, s4, s5, s6, s7, s8, s9, s10]
def RI (cs : List Cell) (c : Cell) (l : Ly) (a0 a1 : Option S) (rest : List PyData) (e : Sl) : Prop := ∃ (rows : List (List Dir)) (p : Pn) (s5 s6 s7 s8 s9 s10 : Option S), rest = (rows.map fun ds => .str (rowS ds)) ∧ (∀ ds ∈ rows, Sit cs c l ds) ∧ (fre s5 = true ∧ fre s6 = true ∧ fre s7 = true ∧ fre s8 = true ∧ fre s9 = true ∧ fre s10 = true) ∧
  e = [a0, a1, some (.mu .own (penC p)), some (.nt (cs.map clD)), some (.pd (stD c l)), s5, s6, s7, s8, s9, s10]
theorem hmath (ns : List Int) (hn : ns.length ≤ 63) : ∃ as, f_law [.pd (.list (ns.map .int))] = some (.pd (.bool true), as) := by
  have key : wF f_law [.pd (.list (ns.map .int))] (fun r _ => r = .pd (.bool true)) := by
    refine wF_run (e := [some (.pd (.list (ns.map .int))), none, none, none, none, none, none, none, none, none, none]) rfl ?_
    refine wS_seq ?_
    refine wS_for (xs := nD (List.range (max 1 (min ns.length 4)))) (lk := none) (e := [some (.pd (.list (ns.map .int))), none, none, none, none, none, none, none, none, none, none]) ?_ (LI ns) ⟨_, none, none, none, none, none, none, none, none, none, none, rfl, ⟨rfl, rfl, rfl, rfl, rfl, rfl, rfl, rfl, rfl, rfl⟩, rfl⟩ ?_ ?_
    · have h1 : (if (4 : Int) < ns.length then (4 : Int) else ns.length) = ((min ns.length 4 : Nat) : Int) := by split <;> omega
      have h2 : (if ((min ns.length 4 : Nat) : Int) > 1 then ((min ns.length 4 : Nat) : Int) else 1) = ((max 1 (min ns.length 4) : Nat) : Int) := by split <;> omega
      unfold nD
      rw [← ups_map]
      refine iRg1_of (n := max 1 (min ns.length 4)) ?_ (by omega)
      simp only [z_cons, z_then, z_c, z_var, List.getElem?_cons_zero, z_nil, z_kE, z_ctns1, z_ctns0, z_ctn1, oLen, List.length_map, oMin, h1, oMax, h2]
    · rintro x rest e ⟨ks, s1, s2, s3, s4, s5, s6, s7, s8, s9, s10, er, ⟨f1, f2, f3, f4, f5, f6, f7, f8, f9, f10⟩, rfl⟩
      cases ks with
      | nil => simp [nD] at er
      | cons k ks =>
        obtain ⟨rfl, rfl⟩ : x = .int (k : Nat) ∧ rest = nD ks := by simpa [nD] using er
        obtain ⟨i, ec⟩ := cell_at_sp ns k
        obtain ⟨p0, ep⟩ := pen_sp i
        obtain ⟨p1, cs, ok, ef⟩ := floor_sp p0
        have l0 := ok.1
        have l9 := ok.2.1
        obtain ⟨p2, c, l, hc, hl, es⟩ := stand_sp p1 cs (by omega) (by omega)
        obtain ⟨p3, r1, lr1, n1, e1⟩ := row_sp p2 cs c 60 (by omega)
        obtain ⟨p4, r2, lr2, n2, e2⟩ := row_sp p3 cs c 3 (by omega)
        have e1 : f__law_row [.mu .bor (penC p2), .nt (cs.map clD), .pd (clD c), .pd (.int 60)] = some (.pd (.str (rowS r1)), [.mu .bor (penC p3), .nt (cs.map clD), .pd (clD c), .pd (.int 60)]) := e1
        have e2 : f__law_row [.mu .bor (penC p3), .nt (cs.map clD), .pd (clD c), .pd (.int 3)] = some (.pd (.str (rowS r2)), [.mu .bor (penC p4), .nt (cs.map clD), .pd (clD c), .pd (.int 3)]) := e2
        have x0 : atI [clD c, lyD l] 0 = some (clD c) := rfl
        simp only [gW, z_gN, z_setR, z_free2, List.getElem?_cons_succ, List.getElem?_cons_zero, freO_some, f1, if_true, List.set_cons_succ, List.set_cons_zero]
        rw [go]
        refine wS_seq ?_
        simp [wS, ec, ep, z_free2, freO_some, f2, -z_free]
        rw [go]
        refine wS_seq ?_
        simp [wS, ef, z_free2, freO_some, f3, -z_free]
        rw [go]
        refine wS_seq ?_
        simp [wS, es, z_free2, freO_some, f4, -z_free]
        rw [go]
        refine wS_for (xs := [r1, r2, []].map fun ds => .str (rowS ds)) (lk := none) (e := [some (.pd (.list (ns.map .int))), some (.pd (.int (k : Nat))), some (.mu .own (penC p4)), some (.nt (cs.map clD)), some (.pd (stD c l)), s5, s6, s7, s8, s9, s10]) ?_ (RI cs c l (some (.pd (.list (ns.map .int)))) (some (.pd (.int (k : Nat)))))
          ⟨[r1, r2, []], p4, s5, s6, s7, s8, s9, s10, rfl, ?_, ⟨f5, f6, f7, f8, f9, f10⟩, rfl⟩ ?_ ?_
        · simp [stD, oIx, x0, e1, e2]
          rfl
        · intro ds hd
          simp only [List.mem_cons, List.not_mem_nil, or_false] at hd
          rcases hd with rfl | rfl | rfl
          · exact ⟨ok, hc, hl, lr1, by omega⟩
          · exact ⟨ok, hc, hl, lr2, by omega⟩
          · exact ⟨ok, hc, hl, trivial, by simp⟩
        · rintro x rest e ⟨rows, p, s5, s6, s7, s8, s9, s10, er, hr, ⟨f5, f6, f7, f8, f9, f10⟩, rfl⟩
          cases rows with
          | nil => simp at er
          | cons ds rows =>
            obtain ⟨rfl, rfl⟩ : x = .str (rowS ds) ∧ rest = (rows.map fun ds => .str (rowS ds)) := by simpa using er
            have h : Sit cs c l ds := hr ds (by simp)
            obtain ⟨p', ms, okm, em⟩ := marks_sp p cs l9
            have tr := traded_sp h (ms.map .int) (.nt (ms.map .int)) (.inr rfl) (by simpa using okm.1)
            rw [held_map] at tr
            have mo := moves_sp h
            have mb := marks_behind_sp h ms (.nt (ms.map .int)) (.inr rfl) okm
            have ex := exchange_sp h
            have om : ShOk (.tuple ((held ms (trd cs c l ds)).map .int)) := (rd_marks (n := 15) _ (by rw [held_len, okm.1]; omega) (fun m hm => okm.2 m ((held_perm _ ms).mem_iff.mp hm))).ok (by omega) (by omega)
            have ox : ShOk (.tuple ((exI (6 + cs.length) (trd cs c l ds)).map .int)) := (rd_marks (n := 15) _ (by simp [exI]; omega) (fun m hm => by
              simp only [exI, List.mem_map, List.mem_range] at hm
              obtain ⟨j, hj, rfl⟩ := hm
              have := mv_lt (ps := trd cs c l ds) hj
              omega)).ok (by omega) (by omega)
            have o3 : ShOk (.tuple [.tuple (cs.map clD), stD c l, .tuple (ms.map .int)]) := (RD.tup (p := 2) (k := 747) (n := 3) (by
              intro x hx
              simp only [List.mem_cons, List.not_mem_nil, or_false] at hx
              rcases hx with rfl | rfl | rfl
              · exact rd_floor cs ok
              · exact (rd_stand h.b hl).mono (by omega) (by omega)
              · exact (rd_marks (n := 15) ms (by rw [okm.1]; omega) okm.2).mono (by omega) (by omega)) (by simp)).ok (by omega) (by omega)
            have q1 := repr_t om
            have q2 := repr_t ox
            have q3 := repr_t o3
            generalize (PyData.tuple ((held ms (trd cs c l ds)).map .int)).shown = K1 at *
            generalize (PyData.tuple ((exI (6 + cs.length) (trd cs c l ds)).map .int)).shown = K2 at *
            generalize (PyData.tuple [.tuple (cs.map clD), stD c l, .tuple (ms.map .int)]).shown = K3 at *
            simp only [gW, z_gN, z_setR, z_free2, List.getElem?_cons_succ, List.getElem?_cons_zero, freO_some, f5, if_true, List.set_cons_succ, List.set_cons_zero]
            rw [go]
            refine wS_seq ?_
            simp [wS, em, z_free2, freO_some, f6, -z_free]
            rw [go]
            refine wS_seq ?_
            simp [wS, tr, q1, q3, z_free2, freO_some, f7, f8, -z_free]
            rw [go]
            refine wS_seq ?_
            simp [wS, mo, q2, z_free2, freO_some, f9, -z_free]
            rw [go]
            refine wS_seq ?_
            refine wS_for (xs := nD (List.range 2)) (lk := none) (e := [some (.pd (.list (ns.map .int))), some (.pd (.int (k : Nat))), some (.mu .own (penC p')), some (.nt (cs.map clD)), some (.pd (stD c l)), some (.pd (.str (rowS ds))), some (.nt (ms.map .int)), some (.pd (.str K3)), some (.pd (.str K1)), some (.pd (.str K2)), s10]) ?_
              (lapI fun s10 => [some (.pd (.list (ns.map .int))), some (.pd (.int (k : Nat))), some (.mu .own (penC p')), some (.nt (cs.map clD)), some (.pd (stD c l)), some (.pd (.str (rowS ds))), some (.nt (ms.map .int)), some (.pd (.str K3)), some (.pd (.str K1)), some (.pd (.str K2)), s10])
              (lap0 2 _ s10 f10) ?_ ?_
            · unfold nD
              rw [← ups_map]
              exact iRg1_of (n := 2) rfl (by omega)
            · rintro x rest e ⟨s10, f10, hx, rfl⟩
              obtain ⟨k', rfl⟩ := hx x (by simp)
              simp only [gW, z_gN, z_setR, z_free2, List.getElem?_cons_succ, List.getElem?_cons_zero, freO_some, f10, if_true, List.set_cons_succ, List.set_cons_zero]
              rw [go]
              simp [wS, mb, ex, q1, q2, nex_str]
              exact ⟨some (.pd (.int k')), rfl, fun x hx' => hx x (List.mem_cons_of_mem _ hx'), rfl⟩
            · rintro e ⟨s10, f10, _, rfl⟩
              simp only [z_unl, nxt_nx]
              rw [go]
              simp [wS, q3, nex_str]
              exact ⟨rows, p', some (.pd (.str (rowS ds))), some (.nt (ms.map .int)), some (.pd (.str K3)), some (.pd (.str K1)), some (.pd (.str K2)), s10, rfl, fun d hd => hr d (by simp [hd]), ⟨rfl, rfl, rfl, rfl, rfl, f10⟩, rfl⟩
        · rintro e ⟨rows, p, s5', s6', s7', s8', s9', s10', er, _, ⟨g5, g6, g7, g8, g9, g10⟩, rfl⟩
          exact ⟨ks, some (.pd (.int (k : Nat))), some (.mu .own (penC p)), some (.nt (cs.map clD)), some (.pd (stD c l)), s5', s6', s7', s8', s9', s10', rfl, ⟨rfl, rfl, rfl, rfl, g5, g6, g7, g8, g9, g10⟩, rfl⟩
    · rintro e ⟨ks, s1, s2, s3, s4, s5, s6, s7, s8, s9, s10, er, _, rfl⟩
      simp only [z_unl, nxt_nx]
      rw [go]
      simp [wS]
  obtain ⟨r, as, e, rfl⟩ := key
  exact ⟨as, e⟩
end L05

end
section
set_option Elab.async false
set_option linter.all false
set_option maxRecDepth 100000
open PySem PySem.W PyProof.Rows
set_option maxHeartbeats 0 in
open_top hd05 for PySem.Challenge.rw_tumblemarks_k05_marks_and_exchanges

end
section
set_option linter.all false
set_option autoImplicit false
set_option Elab.async false
set_option maxRecDepth 100000
set_option maxHeartbeats 4000000
namespace L05
open PySem L2 T3
noncomputable section
theorem fin {P : Program} {w : World} {K : PySem.W.Frag} {h : Heap} {mg : Str → Option Value} {fa : Addr} (X : K.In h) (G : h.Ns mainGlobals mg) (hfa : mg "law" = some (.ref fa))
    {f0 : Addr} {oc0 kV0 dc0 pm0 cd0 ct0 : Value} {od0 an0 : Option Addr} {sl0 : Array (Option Value)}
    (a0 : PySem.W.nsIn K mainGlobals "is_whole" = some (some (.ref f0))) (l0 : K.lookup f0 = some ⟨oc0, od0, .func (PySem.W.fnOf "is_whole" "is_whole" (defArgs s_is_whole) (defBody s_is_whole) (defScope s_is_whole) .none kV0 dc0 pm0 an0 cd0 ct0), sl0⟩) (c0 : PySem.W.codeIn K cd0 "is_whole" = true) (k0 : PySem.W.keepIn K (.ref f0) = true)
    {f1 : Addr} {oc1 kV1 dc1 pm1 cd1 ct1 : Value} {od1 an1 : Option Addr} {sl1 : Array (Option Value)}
    (a1 : PySem.W.nsIn K mainGlobals "is_cell" = some (some (.ref f1))) (l1 : K.lookup f1 = some ⟨oc1, od1, .func (PySem.W.fnOf "is_cell" "is_cell" (defArgs s_is_cell) (defBody s_is_cell) (defScope s_is_cell) .none kV1 dc1 pm1 an1 cd1 ct1), sl1⟩) (c1 : PySem.W.codeIn K cd1 "is_cell" = true) (k1 : PySem.W.keepIn K (.ref f1) = true)
    {f2 : Addr} {oc2 kV2 dc2 pm2 cd2 ct2 : Value} {od2 an2 : Option Addr} {sl2 : Array (Option Value)}
    (a2 : PySem.W.nsIn K mainGlobals "is_rising" = some (some (.ref f2))) (l2 : K.lookup f2 = some ⟨oc2, od2, .func (PySem.W.fnOf "is_rising" "is_rising" (defArgs s_is_rising) (defBody s_is_rising) (defScope s_is_rising) .none kV2 dc2 pm2 an2 cd2 ct2), sl2⟩) (c2 : PySem.W.codeIn K cd2 "is_rising" = true) (k2 : PySem.W.keepIn K (.ref f2) = true)
    {f3 : Addr} {oc3 kV3 dc3 pm3 cd3 ct3 : Value} {od3 an3 : Option Addr} {sl3 : Array (Option Value)}
    (a3 : PySem.W.nsIn K mainGlobals "is_floor" = some (some (.ref f3))) (l3 : K.lookup f3 = some ⟨oc3, od3, .func (PySem.W.fnOf "is_floor" "is_floor" (defArgs s_is_floor) (defBody s_is_floor) (defScope s_is_floor) .none kV3 dc3 pm3 an3 cd3 ct3), sl3⟩) (c3 : PySem.W.codeIn K cd3 "is_floor" = true) (k3 : PySem.W.keepIn K (.ref f3) = true)
    {f4 : Addr} {oc4 kV4 dc4 pm4 cd4 ct4 : Value} {od4 an4 : Option Addr} {sl4 : Array (Option Value)}
    (a4 : PySem.W.nsIn K mainGlobals "is_cell_of" = some (some (.ref f4))) (l4 : K.lookup f4 = some ⟨oc4, od4, .func (PySem.W.fnOf "is_cell_of" "is_cell_of" (defArgs s_is_cell_of) (defBody s_is_cell_of) (defScope s_is_cell_of) .none kV4 dc4 pm4 an4 cd4 ct4), sl4⟩) (c4 : PySem.W.codeIn K cd4 "is_cell_of" = true) (k4 : PySem.W.keepIn K (.ref f4) = true)
    {f5 : Addr} {oc5 kV5 dc5 pm5 cd5 ct5 : Value} {od5 an5 : Option Addr} {sl5 : Array (Option Value)}
    (a5 : PySem.W.nsIn K mainGlobals "is_lying" = some (some (.ref f5))) (l5 : K.lookup f5 = some ⟨oc5, od5, .func (PySem.W.fnOf "is_lying" "is_lying" (defArgs s_is_lying) (defBody s_is_lying) (defScope s_is_lying) .none kV5 dc5 pm5 an5 cd5 ct5), sl5⟩) (c5 : PySem.W.codeIn K cd5 "is_lying" = true) (k5 : PySem.W.keepIn K (.ref f5) = true)
    {f6 : Addr} {oc6 kV6 dc6 pm6 cd6 ct6 : Value} {od6 an6 : Option Addr} {sl6 : Array (Option Value)}
    (a6 : PySem.W.nsIn K mainGlobals "is_stand" = some (some (.ref f6))) (l6 : K.lookup f6 = some ⟨oc6, od6, .func (PySem.W.fnOf "is_stand" "is_stand" (defArgs s_is_stand) (defBody s_is_stand) (defScope s_is_stand) .none kV6 dc6 pm6 an6 cd6 ct6), sl6⟩) (c6 : PySem.W.codeIn K cd6 "is_stand" = true) (k6 : PySem.W.keepIn K (.ref f6) = true)
    {f7 : Addr} {oc7 kV7 dc7 pm7 cd7 ct7 : Value} {od7 an7 : Option Addr} {sl7 : Array (Option Value)}
    (a7 : PySem.W.nsIn K mainGlobals "is_letter" = some (some (.ref f7))) (l7 : K.lookup f7 = some ⟨oc7, od7, .func (PySem.W.fnOf "is_letter" "is_letter" (defArgs s_is_letter) (defBody s_is_letter) (defScope s_is_letter) .none kV7 dc7 pm7 an7 cd7 ct7), sl7⟩) (c7 : PySem.W.codeIn K cd7 "is_letter" = true) (k7 : PySem.W.keepIn K (.ref f7) = true)
    {f8 : Addr} {oc8 kV8 dc8 pm8 cd8 ct8 : Value} {od8 an8 : Option Addr} {sl8 : Array (Option Value)}
    (a8 : PySem.W.nsIn K mainGlobals "is_row" = some (some (.ref f8))) (l8 : K.lookup f8 = some ⟨oc8, od8, .func (PySem.W.fnOf "is_row" "is_row" (defArgs s_is_row) (defBody s_is_row) (defScope s_is_row) .none kV8 dc8 pm8 an8 cd8 ct8), sl8⟩) (c8 : PySem.W.codeIn K cd8 "is_row" = true) (k8 : PySem.W.keepIn K (.ref f8) = true)
    {f9 : Addr} {oc9 kV9 dc9 pm9 cd9 ct9 : Value} {od9 an9 : Option Addr} {sl9 : Array (Option Value)}
    (a9 : PySem.W.nsIn K mainGlobals "need_floor" = some (some (.ref f9))) (l9 : K.lookup f9 = some ⟨oc9, od9, .func (PySem.W.fnOf "need_floor" "need_floor" (defArgs s_need_floor) (defBody s_need_floor) (defScope s_need_floor) .none kV9 dc9 pm9 an9 cd9 ct9), sl9⟩) (c9 : PySem.W.codeIn K cd9 "need_floor" = true) (k9 : PySem.W.keepIn K (.ref f9) = true)
    {f10 : Addr} {oc10 kV10 dc10 pm10 cd10 ct10 : Value} {od10 an10 : Option Addr} {sl10 : Array (Option Value)}
    (a10 : PySem.W.nsIn K mainGlobals "need_stand" = some (some (.ref f10))) (l10 : K.lookup f10 = some ⟨oc10, od10, .func (PySem.W.fnOf "need_stand" "need_stand" (defArgs s_need_stand) (defBody s_need_stand) (defScope s_need_stand) .none kV10 dc10 pm10 an10 cd10 ct10), sl10⟩) (c10 : PySem.W.codeIn K cd10 "need_stand" = true) (k10 : PySem.W.keepIn K (.ref f10) = true)
    {f11 : Addr} {oc11 kV11 dc11 pm11 cd11 ct11 : Value} {od11 an11 : Option Addr} {sl11 : Array (Option Value)}
    (a11 : PySem.W.nsIn K mainGlobals "need_row" = some (some (.ref f11))) (l11 : K.lookup f11 = some ⟨oc11, od11, .func (PySem.W.fnOf "need_row" "need_row" (defArgs s_need_row) (defBody s_need_row) (defScope s_need_row) .none kV11 dc11 pm11 an11 cd11 ct11), sl11⟩) (c11 : PySem.W.codeIn K cd11 "need_row" = true) (k11 : PySem.W.keepIn K (.ref f11) = true)
    {f12 : Addr} {oc12 kV12 dc12 pm12 cd12 ct12 : Value} {od12 an12 : Option Addr} {sl12 : Array (Option Value)}
    (a12 : PySem.W.nsIn K mainGlobals "rolled_cell" = some (some (.ref f12))) (l12 : K.lookup f12 = some ⟨oc12, od12, .func (PySem.W.fnOf "rolled_cell" "rolled_cell" (defArgs s_rolled_cell) (defBody s_rolled_cell) (defScope s_rolled_cell) .none kV12 dc12 pm12 an12 cd12 ct12), sl12⟩) (c12 : PySem.W.codeIn K cd12 "rolled_cell" = true) (k12 : PySem.W.keepIn K (.ref f12) = true)
    {f13 : Addr} {oc13 kV13 dc13 pm13 cd13 ct13 : Value} {od13 an13 : Option Addr} {sl13 : Array (Option Value)}
    (a13 : PySem.W.nsIn K mainGlobals "rolled_lying" = some (some (.ref f13))) (l13 : K.lookup f13 = some ⟨oc13, od13, .func (PySem.W.fnOf "rolled_lying" "rolled_lying" (defArgs s_rolled_lying) (defBody s_rolled_lying) (defScope s_rolled_lying) .none kV13 dc13 pm13 an13 cd13 ct13), sl13⟩) (c13 : PySem.W.codeIn K cd13 "rolled_lying" = true) (k13 : PySem.W.keepIn K (.ref f13) = true)
    {f14 : Addr} {oc14 kV14 dc14 pm14 cd14 ct14 : Value} {od14 an14 : Option Addr} {sl14 : Array (Option Value)}
    (a14 : PySem.W.nsIn K mainGlobals "rolled_stand" = some (some (.ref f14))) (l14 : K.lookup f14 = some ⟨oc14, od14, .func (PySem.W.fnOf "rolled_stand" "rolled_stand" (defArgs s_rolled_stand) (defBody s_rolled_stand) (defScope s_rolled_stand) .none kV14 dc14 pm14 an14 cd14 ct14), sl14⟩) (c14 : PySem.W.codeIn K cd14 "rolled_stand" = true) (k14 : PySem.W.keepIn K (.ref f14) = true)
    {f15 : Addr} {oc15 kV15 dc15 pm15 cd15 ct15 : Value} {od15 an15 : Option Addr} {sl15 : Array (Option Value)}
    (a15 : PySem.W.nsIn K mainGlobals "place_off" = some (some (.ref f15))) (l15 : K.lookup f15 = some ⟨oc15, od15, .func (PySem.W.fnOf "place_off" "place_off" (defArgs s_place_off) (defBody s_place_off) (defScope s_place_off) .none kV15 dc15 pm15 an15 cd15 ct15), sl15⟩) (c15 : PySem.W.codeIn K cd15 "place_off" = true) (k15 : PySem.W.keepIn K (.ref f15) = true)
    {f16 : Addr} {oc16 kV16 dc16 pm16 cd16 ct16 : Value} {od16 an16 : Option Addr} {sl16 : Array (Option Value)}
    (a16 : PySem.W.nsIn K mainGlobals "spots_of" = some (some (.ref f16))) (l16 : K.lookup f16 = some ⟨oc16, od16, .func (PySem.W.fnOf "spots_of" "spots_of" (defArgs s_spots_of) (defBody s_spots_of) (defScope s_spots_of) .none kV16 dc16 pm16 an16 cd16 ct16), sl16⟩) (c16 : PySem.W.codeIn K cd16 "spots_of" = true) (k16 : PySem.W.keepIn K (.ref f16) = true)
    {f17 : Addr} {oc17 kV17 dc17 pm17 cd17 ct17 : Value} {od17 an17 : Option Addr} {sl17 : Array (Option Value)}
    (a17 : PySem.W.nsIn K mainGlobals "spot_of_cell" = some (some (.ref f17))) (l17 : K.lookup f17 = some ⟨oc17, od17, .func (PySem.W.fnOf "spot_of_cell" "spot_of_cell" (defArgs s_spot_of_cell) (defBody s_spot_of_cell) (defScope s_spot_of_cell) .none kV17 dc17 pm17 an17 cd17 ct17), sl17⟩) (c17 : PySem.W.codeIn K cd17 "spot_of_cell" = true) (k17 : PySem.W.keepIn K (.ref f17) = true)
    {f18 : Addr} {oc18 kV18 dc18 pm18 cd18 ct18 : Value} {od18 an18 : Option Addr} {sl18 : Array (Option Value)}
    (a18 : PySem.W.nsIn K mainGlobals "is_marks" = some (some (.ref f18))) (l18 : K.lookup f18 = some ⟨oc18, od18, .func (PySem.W.fnOf "is_marks" "is_marks" (defArgs s_is_marks) (defBody s_is_marks) (defScope s_is_marks) .none kV18 dc18 pm18 an18 cd18 ct18), sl18⟩) (c18 : PySem.W.codeIn K cd18 "is_marks" = true) (k18 : PySem.W.keepIn K (.ref f18) = true)
    {f19 : Addr} {oc19 kV19 dc19 pm19 cd19 ct19 : Value} {od19 an19 : Option Addr} {sl19 : Array (Option Value)}
    (a19 : PySem.W.nsIn K mainGlobals "need_marks" = some (some (.ref f19))) (l19 : K.lookup f19 = some ⟨oc19, od19, .func (PySem.W.fnOf "need_marks" "need_marks" (defArgs s_need_marks) (defBody s_need_marks) (defScope s_need_marks) .none kV19 dc19 pm19 an19 cd19 ct19), sl19⟩) (c19 : PySem.W.codeIn K cd19 "need_marks" = true) (k19 : PySem.W.keepIn K (.ref f19) = true)
    {f20 : Addr} {oc20 kV20 dc20 pm20 cd20 ct20 : Value} {od20 an20 : Option Addr} {sl20 : Array (Option Value)}
    (a20 : PySem.W.nsIn K mainGlobals "trade_at" = some (some (.ref f20))) (l20 : K.lookup f20 = some ⟨oc20, od20, .func (PySem.W.fnOf "trade_at" "trade_at" (defArgs s_trade_at) (defBody s_trade_at) (defScope s_trade_at) .none kV20 dc20 pm20 an20 cd20 ct20), sl20⟩) (c20 : PySem.W.codeIn K cd20 "trade_at" = true) (k20 : PySem.W.keepIn K (.ref f20) = true)
    {f21 : Addr} {oc21 kV21 dc21 pm21 cd21 ct21 : Value} {od21 an21 : Option Addr} {sl21 : Array (Option Value)}
    (a21 : PySem.W.nsIn K mainGlobals "trades" = some (some (.ref f21))) (l21 : K.lookup f21 = some ⟨oc21, od21, .func (PySem.W.fnOf "trades" "trades" (defArgs s_trades) (defBody s_trades) (defScope s_trades) .none kV21 dc21 pm21 an21 cd21 ct21), sl21⟩) (c21 : PySem.W.codeIn K cd21 "trades" = true) (k21 : PySem.W.keepIn K (.ref f21) = true)
    {f22 : Addr} {oc22 kV22 dc22 pm22 cd22 ct22 : Value} {od22 an22 : Option Addr} {sl22 : Array (Option Value)}
    (a22 : PySem.W.nsIn K mainGlobals "held_traded" = some (some (.ref f22))) (l22 : K.lookup f22 = some ⟨oc22, od22, .func (PySem.W.fnOf "held_traded" "held_traded" (defArgs s_held_traded) (defBody s_held_traded) (defScope s_held_traded) .none kV22 dc22 pm22 an22 cd22 ct22), sl22⟩) (c22 : PySem.W.codeIn K cd22 "held_traded" = true) (k22 : PySem.W.keepIn K (.ref f22) = true)
    {f23 : Addr} {oc23 kV23 dc23 pm23 cd23 ct23 : Value} {od23 an23 : Option Addr} {sl23 : Array (Option Value)}
    (a23 : PySem.W.nsIn K mainGlobals "held_behind" = some (some (.ref f23))) (l23 : K.lookup f23 = some ⟨oc23, od23, .func (PySem.W.fnOf "held_behind" "held_behind" (defArgs s_held_behind) (defBody s_held_behind) (defScope s_held_behind) .none kV23 dc23 pm23 an23 cd23 ct23), sl23⟩) (c23 : PySem.W.codeIn K cd23 "held_behind" = true) (k23 : PySem.W.keepIn K (.ref f23) = true)
    {f24 : Addr} {oc24 kV24 dc24 pm24 cd24 ct24 : Value} {od24 an24 : Option Addr} {sl24 : Array (Option Value)}
    (a24 : PySem.W.nsIn K mainGlobals "exchange_by" = some (some (.ref f24))) (l24 : K.lookup f24 = some ⟨oc24, od24, .func (PySem.W.fnOf "exchange_by" "exchange_by" (defArgs s_exchange_by) (defBody s_exchange_by) (defScope s_exchange_by) .none kV24 dc24 pm24 an24 cd24 ct24), sl24⟩) (c24 : PySem.W.codeIn K cd24 "exchange_by" = true) (k24 : PySem.W.keepIn K (.ref f24) = true)
    {f25 : Addr} {oc25 kV25 dc25 pm25 cd25 ct25 : Value} {od25 an25 : Option Addr} {sl25 : Array (Option Value)}
    (a25 : PySem.W.nsIn K mainGlobals "_law_cell_at" = some (some (.ref f25))) (l25 : K.lookup f25 = some ⟨oc25, od25, .func (PySem.W.fnOf "_law_cell_at" "_law_cell_at" (defArgs s__law_cell_at) (defBody s__law_cell_at) (defScope s__law_cell_at) .none kV25 dc25 pm25 an25 cd25 ct25), sl25⟩) (c25 : PySem.W.codeIn K cd25 "_law_cell_at" = true) (k25 : PySem.W.keepIn K (.ref f25) = true)
    {f26 : Addr} {oc26 kV26 dc26 pm26 cd26 ct26 : Value} {od26 an26 : Option Addr} {sl26 : Array (Option Value)}
    (a26 : PySem.W.nsIn K mainGlobals "_law_pen" = some (some (.ref f26))) (l26 : K.lookup f26 = some ⟨oc26, od26, .func (PySem.W.fnOf "_law_pen" "_law_pen" (defArgs s__law_pen) (defBody s__law_pen) (defScope s__law_pen) .none kV26 dc26 pm26 an26 cd26 ct26), sl26⟩) (c26 : PySem.W.codeIn K cd26 "_law_pen" = true) (k26 : PySem.W.keepIn K (.ref f26) = true)
    {f27 : Addr} {oc27 kV27 dc27 pm27 cd27 ct27 : Value} {od27 an27 : Option Addr} {sl27 : Array (Option Value)}
    (a27 : PySem.W.nsIn K mainGlobals "_law_draw" = some (some (.ref f27))) (l27 : K.lookup f27 = some ⟨oc27, od27, .func (PySem.W.fnOf "_law_draw" "_law_draw" (defArgs s__law_draw) (defBody s__law_draw) (defScope s__law_draw) .none kV27 dc27 pm27 an27 cd27 ct27), sl27⟩) (c27 : PySem.W.codeIn K cd27 "_law_draw" = true) (k27 : PySem.W.keepIn K (.ref f27) = true)
    {f28 : Addr} {oc28 kV28 dc28 pm28 cd28 ct28 : Value} {od28 an28 : Option Addr} {sl28 : Array (Option Value)}
    (a28 : PySem.W.nsIn K mainGlobals "_law_pick" = some (some (.ref f28))) (l28 : K.lookup f28 = some ⟨oc28, od28, .func (PySem.W.fnOf "_law_pick" "_law_pick" (defArgs s__law_pick) (defBody s__law_pick) (defScope s__law_pick) .none kV28 dc28 pm28 an28 cd28 ct28), sl28⟩) (c28 : PySem.W.codeIn K cd28 "_law_pick" = true) (k28 : PySem.W.keepIn K (.ref f28) = true)
    {f29 : Addr} {oc29 kV29 dc29 pm29 cd29 ct29 : Value} {od29 an29 : Option Addr} {sl29 : Array (Option Value)}
    (a29 : PySem.W.nsIn K mainGlobals "_law_to" = some (some (.ref f29))) (l29 : K.lookup f29 = some ⟨oc29, od29, .func (PySem.W.fnOf "_law_to" "_law_to" (defArgs s__law_to) (defBody s__law_to) (defScope s__law_to) .none kV29 dc29 pm29 an29 cd29 ct29), sl29⟩) (c29 : PySem.W.codeIn K cd29 "_law_to" = true) (k29 : PySem.W.keepIn K (.ref f29) = true)
    {f30 : Addr} {oc30 kV30 dc30 pm30 cd30 ct30 : Value} {od30 an30 : Option Addr} {sl30 : Array (Option Value)}
    (a30 : PySem.W.nsIn K mainGlobals "_law_six" = some (some (.ref f30))) (l30 : K.lookup f30 = some ⟨oc30, od30, .func (PySem.W.fnOf "_law_six" "_law_six" (defArgs s__law_six) (defBody s__law_six) (defScope s__law_six) .none kV30 dc30 pm30 an30 cd30 ct30), sl30⟩) (c30 : PySem.W.codeIn K cd30 "_law_six" = true) (k30 : PySem.W.keepIn K (.ref f30) = true)
    {f31 : Addr} {oc31 kV31 dc31 pm31 cd31 ct31 : Value} {od31 an31 : Option Addr} {sl31 : Array (Option Value)}
    (a31 : PySem.W.nsIn K mainGlobals "_law_rolled" = some (some (.ref f31))) (l31 : K.lookup f31 = some ⟨oc31, od31, .func (PySem.W.fnOf "_law_rolled" "_law_rolled" (defArgs s__law_rolled) (defBody s__law_rolled) (defScope s__law_rolled) .none kV31 dc31 pm31 an31 cd31 ct31), sl31⟩) (c31 : PySem.W.codeIn K cd31 "_law_rolled" = true) (k31 : PySem.W.keepIn K (.ref f31) = true)
    {f32 : Addr} {oc32 kV32 dc32 pm32 cd32 ct32 : Value} {od32 an32 : Option Addr} {sl32 : Array (Option Value)}
    (a32 : PySem.W.nsIn K mainGlobals "_law_walked" = some (some (.ref f32))) (l32 : K.lookup f32 = some ⟨oc32, od32, .func (PySem.W.fnOf "_law_walked" "_law_walked" (defArgs s__law_walked) (defBody s__law_walked) (defScope s__law_walked) .none kV32 dc32 pm32 an32 cd32 ct32), sl32⟩) (c32 : PySem.W.codeIn K cd32 "_law_walked" = true) (k32 : PySem.W.keepIn K (.ref f32) = true)
    {f33 : Addr} {oc33 kV33 dc33 pm33 cd33 ct33 : Value} {od33 an33 : Option Addr} {sl33 : Array (Option Value)}
    (a33 : PySem.W.nsIn K mainGlobals "_law_floor" = some (some (.ref f33))) (l33 : K.lookup f33 = some ⟨oc33, od33, .func (PySem.W.fnOf "_law_floor" "_law_floor" (defArgs s__law_floor) (defBody s__law_floor) (defScope s__law_floor) .none kV33 dc33 pm33 an33 cd33 ct33), sl33⟩) (c33 : PySem.W.codeIn K cd33 "_law_floor" = true) (k33 : PySem.W.keepIn K (.ref f33) = true)
    {f34 : Addr} {oc34 kV34 dc34 pm34 cd34 ct34 : Value} {od34 an34 : Option Addr} {sl34 : Array (Option Value)}
    (a34 : PySem.W.nsIn K mainGlobals "_law_lying" = some (some (.ref f34))) (l34 : K.lookup f34 = some ⟨oc34, od34, .func (PySem.W.fnOf "_law_lying" "_law_lying" (defArgs s__law_lying) (defBody s__law_lying) (defScope s__law_lying) .none kV34 dc34 pm34 an34 cd34 ct34), sl34⟩) (c34 : PySem.W.codeIn K cd34 "_law_lying" = true) (k34 : PySem.W.keepIn K (.ref f34) = true)
    {f35 : Addr} {oc35 kV35 dc35 pm35 cd35 ct35 : Value} {od35 an35 : Option Addr} {sl35 : Array (Option Value)}
    (a35 : PySem.W.nsIn K mainGlobals "_law_stand" = some (some (.ref f35))) (l35 : K.lookup f35 = some ⟨oc35, od35, .func (PySem.W.fnOf "_law_stand" "_law_stand" (defArgs s__law_stand) (defBody s__law_stand) (defScope s__law_stand) .none kV35 dc35 pm35 an35 cd35 ct35), sl35⟩) (c35 : PySem.W.codeIn K cd35 "_law_stand" = true) (k35 : PySem.W.keepIn K (.ref f35) = true)
    {f36 : Addr} {oc36 kV36 dc36 pm36 cd36 ct36 : Value} {od36 an36 : Option Addr} {sl36 : Array (Option Value)}
    (a36 : PySem.W.nsIn K mainGlobals "_law_row" = some (some (.ref f36))) (l36 : K.lookup f36 = some ⟨oc36, od36, .func (PySem.W.fnOf "_law_row" "_law_row" (defArgs s__law_row) (defBody s__law_row) (defScope s__law_row) .none kV36 dc36 pm36 an36 cd36 ct36), sl36⟩) (c36 : PySem.W.codeIn K cd36 "_law_row" = true) (k36 : PySem.W.keepIn K (.ref f36) = true)
    {f37 : Addr} {oc37 kV37 dc37 pm37 cd37 ct37 : Value} {od37 an37 : Option Addr} {sl37 : Array (Option Value)}
    (a37 : PySem.W.nsIn K mainGlobals "_law_marks" = some (some (.ref f37))) (l37 : K.lookup f37 = some ⟨oc37, od37, .func (PySem.W.fnOf "_law_marks" "_law_marks" (defArgs s__law_marks) (defBody s__law_marks) (defScope s__law_marks) .none kV37 dc37 pm37 an37 cd37 ct37), sl37⟩) (c37 : PySem.W.codeIn K cd37 "_law_marks" = true) (k37 : PySem.W.keepIn K (.ref f37) = true)
    {f38 : Addr} {oc38 kV38 dc38 pm38 cd38 ct38 : Value} {od38 an38 : Option Addr} {sl38 : Array (Option Value)}
    (a38 : PySem.W.nsIn K mainGlobals "_law_traded" = some (some (.ref f38))) (l38 : K.lookup f38 = some ⟨oc38, od38, .func (PySem.W.fnOf "_law_traded" "_law_traded" (defArgs s__law_traded) (defBody s__law_traded) (defScope s__law_traded) .none kV38 dc38 pm38 an38 cd38 ct38), sl38⟩) (c38 : PySem.W.codeIn K cd38 "_law_traded" = true) (k38 : PySem.W.keepIn K (.ref f38) = true)
    {f39 : Addr} {oc39 kV39 dc39 pm39 cd39 ct39 : Value} {od39 an39 : Option Addr} {sl39 : Array (Option Value)}
    (a39 : PySem.W.nsIn K mainGlobals "_law_moves" = some (some (.ref f39))) (l39 : K.lookup f39 = some ⟨oc39, od39, .func (PySem.W.fnOf "_law_moves" "_law_moves" (defArgs s__law_moves) (defBody s__law_moves) (defScope s__law_moves) .none kV39 dc39 pm39 an39 cd39 ct39), sl39⟩) (c39 : PySem.W.codeIn K cd39 "_law_moves" = true) (k39 : PySem.W.keepIn K (.ref f39) = true)
    {f40 : Addr} {oc40 kV40 dc40 pm40 cd40 ct40 : Value} {od40 an40 : Option Addr} {sl40 : Array (Option Value)}
    (a40 : PySem.W.nsIn K mainGlobals "need_let" = some (some (.ref f40))) (l40 : K.lookup f40 = some ⟨oc40, od40, .func (PySem.W.fnOf "need_let" "need_let" (defArgs s_need_let) (defBody s_need_let) (defScope s_need_let) .none kV40 dc40 pm40 an40 cd40 ct40), sl40⟩) (c40 : PySem.W.codeIn K cd40 "need_let" = true) (k40 : PySem.W.keepIn K (.ref f40) = true)
    {f41 : Addr} {oc41 kV41 dc41 pm41 cd41 ct41 : Value} {od41 an41 : Option Addr} {sl41 : Array (Option Value)}
    (a41 : PySem.W.nsIn K mainGlobals "marks_behind" = some (some (.ref f41))) (l41 : K.lookup f41 = some ⟨oc41, od41, .func (PySem.W.fnOf "marks_behind" "marks_behind" (defArgs s_marks_behind) (defBody s_marks_behind) (defScope s_marks_behind) .none kV41 dc41 pm41 an41 cd41 ct41), sl41⟩) (c41 : PySem.W.codeIn K cd41 "marks_behind" = true) (k41 : PySem.W.keepIn K (.ref f41) = true)
    {f42 : Addr} {oc42 kV42 dc42 pm42 cd42 ct42 : Value} {od42 an42 : Option Addr} {sl42 : Array (Option Value)}
    (a42 : PySem.W.nsIn K mainGlobals "exchange" = some (some (.ref f42))) (l42 : K.lookup f42 = some ⟨oc42, od42, .func (PySem.W.fnOf "exchange" "exchange" (defArgs s_exchange) (defBody s_exchange) (defScope s_exchange) .none kV42 dc42 pm42 an42 cd42 ct42), sl42⟩) (c42 : PySem.W.codeIn K cd42 "exchange" = true) (k42 : PySem.W.keepIn K (.ref f42) = true)
    {f43 : Addr} {oc43 kV43 dc43 pm43 cd43 ct43 : Value} {od43 an43 : Option Addr} {sl43 : Array (Option Value)}
    (a43 : PySem.W.nsIn K mainGlobals "law" = some (some (.ref f43))) (l43 : K.lookup f43 = some ⟨oc43, od43, .func (PySem.W.fnOf "law" "law" (defArgs s_law) (defBody s_law) (defScope s_law) .none kV43 dc43 pm43 an43 cd43 ct43), sl43⟩) (c43 : PySem.W.codeIn K cd43 "law" = true) (k43 : PySem.W.keepIn K (.ref f43) = true)
    (z_isinstance : PySem.W.nsIn K mainGlobals "isinstance" = some none)
    (z_bool : PySem.W.nsIn K mainGlobals "bool" = some none)
    (z_int : PySem.W.nsIn K mainGlobals "int" = some none)
    (z_len : PySem.W.nsIn K mainGlobals "len" = some none)
    (z_tuple : PySem.W.nsIn K mainGlobals "tuple" = some none)
    (z_all : PySem.W.nsIn K mainGlobals "all" = some none)
    (z_zip : PySem.W.nsIn K mainGlobals "zip" = some none)
    (z_str : PySem.W.nsIn K mainGlobals "str" = some none)
    (z_enumerate : PySem.W.nsIn K mainGlobals "enumerate" = some none)
    (z_range : PySem.W.nsIn K mainGlobals "range" = some none)
    (z_list : PySem.W.nsIn K mainGlobals "list" = some none)
    (z_max : PySem.W.nsIn K mainGlobals "max" = some none)
    (z_min : PySem.W.nsIn K mainGlobals "min" = some none)
    (z_sorted : PySem.W.nsIn K mainGlobals "sorted" = some none)
    (z_dict : PySem.W.nsIn K mainGlobals "dict" = some none)
    (z_repr : PySem.W.nsIn K mainGlobals "repr" = some none)
    {u_LAST_LINE : Value} (ca_LAST_LINE : PySem.W.nsIn K mainGlobals "LAST_LINE" = some (some u_LAST_LINE)) (cb_LAST_LINE : kvB K 9 u_LAST_LINE v_LAST_LINE = true)
    {u_MOST_CELLS : Value} (ca_MOST_CELLS : PySem.W.nsIn K mainGlobals "MOST_CELLS" = some (some u_MOST_CELLS)) (cb_MOST_CELLS : kvB K 9 u_MOST_CELLS v_MOST_CELLS = true)
    {u_LYINGS : Value} (ca_LYINGS : PySem.W.nsIn K mainGlobals "LYINGS" = some (some u_LYINGS)) (cb_LYINGS : kvB K 9 u_LYINGS v_LYINGS = true)
    {u_OPPOSITE_SUM : Value} (ca_OPPOSITE_SUM : PySem.W.nsIn K mainGlobals "OPPOSITE_SUM" = some (some u_OPPOSITE_SUM)) (cb_OPPOSITE_SUM : kvB K 9 u_OPPOSITE_SUM v_OPPOSITE_SUM = true)
    {u_LETTERS : Value} (ca_LETTERS : PySem.W.nsIn K mainGlobals "LETTERS" = some (some u_LETTERS)) (cb_LETTERS : kvB K 9 u_LETTERS v_LETTERS = true)
    {u_FACES : Value} (ca_FACES : PySem.W.nsIn K mainGlobals "FACES" = some (some u_FACES)) (cb_FACES : kvB K 9 u_FACES v_FACES = true)
    {u_MOST_MARK : Value} (ca_MOST_MARK : PySem.W.nsIn K mainGlobals "MOST_MARK" = some (some u_MOST_MARK)) (cb_MOST_MARK : kvB K 9 u_MOST_MARK v_MOST_MARK = true)
    {d_STEPS : Addr} {es_STEPS : Array DictEntry} {n_STEPS : Nat} (da_STEPS : PySem.W.nsIn K mainGlobals "STEPS" = some (some (.ref d_STEPS))) (dl_STEPS : K.lookup d_STEPS = some ⟨.type "dict", none, .dict es_STEPS n_STEPS, #[]⟩) (dk_STEPS : PySem.W.KeysLit w.params es_STEPS.toList) (db_STEPS : kdB K d_STEPS v_STEPS = true) :
    ∃ fd : FuncData, (∀ (s : Shared) (v : Value), BindsTo s fd ⟨[v], []⟩ [("_law_script", v)]) ∧ ∀ base : Heap, K.In base → base.Ns mainGlobals mg → FnG P w K mg base 7 fa fd ["_law_script"] (spF K f_law 1) := by
  have e := hfa.symm.trans (PySem.W.mg_of X G a43)
  cases e
  have Z_isinstance := PySem.W.mg_none_of X G z_isinstance
  have Z_bool := PySem.W.mg_none_of X G z_bool
  have Z_int := PySem.W.mg_none_of X G z_int
  have Z_len := PySem.W.mg_none_of X G z_len
  have Z_tuple := PySem.W.mg_none_of X G z_tuple
  have Z_all := PySem.W.mg_none_of X G z_all
  have Z_zip := PySem.W.mg_none_of X G z_zip
  have Z_str := PySem.W.mg_none_of X G z_str
  have Z_enumerate := PySem.W.mg_none_of X G z_enumerate
  have Z_range := PySem.W.mg_none_of X G z_range
  have Z_list := PySem.W.mg_none_of X G z_list
  have Z_max := PySem.W.mg_none_of X G z_max
  have Z_min := PySem.W.mg_none_of X G z_min
  have Z_sorted := PySem.W.mg_none_of X G z_sorted
  have Z_dict := PySem.W.mg_none_of X G z_dict
  have Z_repr := PySem.W.mg_none_of X G z_repr
  have C_LAST_LINE : KC K mg "LAST_LINE" v_LAST_LINE := kc_by X G ca_LAST_LINE cb_LAST_LINE
  have C_MOST_CELLS : KC K mg "MOST_CELLS" v_MOST_CELLS := kc_by X G ca_MOST_CELLS cb_MOST_CELLS
  have C_LYINGS : KC K mg "LYINGS" v_LYINGS := kc_by X G ca_LYINGS cb_LYINGS
  have C_OPPOSITE_SUM : KC K mg "OPPOSITE_SUM" v_OPPOSITE_SUM := kc_by X G ca_OPPOSITE_SUM cb_OPPOSITE_SUM
  have C_LETTERS : KC K mg "LETTERS" v_LETTERS := kc_by X G ca_LETTERS cb_LETTERS
  have C_FACES : KC K mg "FACES" v_FACES := kc_by X G ca_FACES cb_FACES
  have C_MOST_MARK : KC K mg "MOST_MARK" v_MOST_MARK := kc_by X G ca_MOST_MARK cb_MOST_MARK
  have D_STEPS : KD K w mg "STEPS" v_STEPS := kd_mk X G da_STEPS dl_STEPS dk_STEPS db_STEPS
  have A_is_whole : At0 K mg "is_whole" s_is_whole ["thing", "most"] := at0_mk X G a0 l0 c0 k0 fun _ _ _ _ _ _ us hl => match us, hl with | [_, _], _ => rfl
  have A_is_cell : At0 K mg "is_cell" s_is_cell ["thing"] := at0_mk X G a1 l1 c1 k1 fun _ _ _ _ _ _ us hl => match us, hl with | [_], _ => rfl
  have A_is_rising : At0 K mg "is_rising" s_is_rising ["things"] := at0_mk X G a2 l2 c2 k2 fun _ _ _ _ _ _ us hl => match us, hl with | [_], _ => rfl
  have A_is_floor : At0 K mg "is_floor" s_is_floor ["thing"] := at0_mk X G a3 l3 c3 k3 fun _ _ _ _ _ _ us hl => match us, hl with | [_], _ => rfl
  have A_is_cell_of : At0 K mg "is_cell_of" s_is_cell_of ["floor", "thing"] := at0_mk X G a4 l4 c4 k4 fun _ _ _ _ _ _ us hl => match us, hl with | [_, _], _ => rfl
  have A_is_lying : At0 K mg "is_lying" s_is_lying ["thing"] := at0_mk X G a5 l5 c5 k5 fun _ _ _ _ _ _ us hl => match us, hl with | [_], _ => rfl
  have A_is_stand : At0 K mg "is_stand" s_is_stand ["floor", "thing"] := at0_mk X G a6 l6 c6 k6 fun _ _ _ _ _ _ us hl => match us, hl with | [_, _], _ => rfl
  have A_is_letter : At0 K mg "is_letter" s_is_letter ["thing"] := at0_mk X G a7 l7 c7 k7 fun _ _ _ _ _ _ us hl => match us, hl with | [_], _ => rfl
  have A_is_row : At0 K mg "is_row" s_is_row ["thing"] := at0_mk X G a8 l8 c8 k8 fun _ _ _ _ _ _ us hl => match us, hl with | [_], _ => rfl
  have A_need_floor : At0 K mg "need_floor" s_need_floor ["floor"] := at0_mk X G a9 l9 c9 k9 fun _ _ _ _ _ _ us hl => match us, hl with | [_], _ => rfl
  have A_need_stand : At0 K mg "need_stand" s_need_stand ["floor", "stand"] := at0_mk X G a10 l10 c10 k10 fun _ _ _ _ _ _ us hl => match us, hl with | [_, _], _ => rfl
  have A_need_row : At0 K mg "need_row" s_need_row ["row"] := at0_mk X G a11 l11 c11 k11 fun _ _ _ _ _ _ us hl => match us, hl with | [_], _ => rfl
  have A_rolled_cell : At0 K mg "rolled_cell" s_rolled_cell ["cell", "letter"] := at0_mk X G a12 l12 c12 k12 fun _ _ _ _ _ _ us hl => match us, hl with | [_, _], _ => rfl
  have A_rolled_lying : At0 K mg "rolled_lying" s_rolled_lying ["lying", "letter"] := at0_mk X G a13 l13 c13 k13 fun _ _ _ _ _ _ us hl => match us, hl with | [_, _], _ => rfl
  have A_rolled_stand : At0 K mg "rolled_stand" s_rolled_stand ["stand", "letter"] := at0_mk X G a14 l14 c14 k14 fun _ _ _ _ _ _ us hl => match us, hl with | [_, _], _ => rfl
  have A_place_off : At0 K mg "place_off" s_place_off ["floor", "cell", "row"] := at0_mk X G a15 l15 c15 k15 fun _ _ _ _ _ _ us hl => match us, hl with | [_, _, _], _ => rfl
  have A_spots_of : At0 K mg "spots_of" s_spots_of ["floor"] := at0_mk X G a16 l16 c16 k16 fun _ _ _ _ _ _ us hl => match us, hl with | [_], _ => rfl
  have A_spot_of_cell : At0 K mg "spot_of_cell" s_spot_of_cell ["floor", "cell"] := at0_mk X G a17 l17 c17 k17 fun _ _ _ _ _ _ us hl => match us, hl with | [_, _], _ => rfl
  have A_is_marks : At0 K mg "is_marks" s_is_marks ["floor", "thing"] := at0_mk X G a18 l18 c18 k18 fun _ _ _ _ _ _ us hl => match us, hl with | [_, _], _ => rfl
  have A_need_marks : At0 K mg "need_marks" s_need_marks ["floor", "marks"] := at0_mk X G a19 l19 c19 k19 fun _ _ _ _ _ _ us hl => match us, hl with | [_, _], _ => rfl
  have A_trade_at : At0 K mg "trade_at" s_trade_at ["floor", "stand"] := at0_mk X G a20 l20 c20 k20 fun _ _ _ _ _ _ us hl => match us, hl with | [_, _], _ => rfl
  have A_trades : At0 K mg "trades" s_trades ["floor", "stand", "row"] := at0_mk X G a21 l21 c21 k21 fun _ _ _ _ _ _ us hl => match us, hl with | [_, _, _], _ => rfl
  have A_held_traded : At0 K mg "held_traded" s_held_traded ["traded", "held"] := at0_mk X G a22 l22 c22 k22 fun _ _ _ _ _ _ us hl => match us, hl with | [_, _], _ => rfl
  have A_held_behind : At0 K mg "held_behind" s_held_behind ["floor", "stand", "row", "held"] := at0_mk X G a23 l23 c23 k23 fun _ _ _ _ _ _ us hl => match us, hl with | [_, _, _, _], _ => rfl
  have A_exchange_by : At0 K mg "exchange_by" s_exchange_by ["traded", "spots"] := at0_mk X G a24 l24 c24 k24 fun _ _ _ _ _ _ us hl => match us, hl with | [_, _], _ => rfl
  have A__law_cell_at : At0 K mg "_law_cell_at" s__law_cell_at ["_law_script", "_law_k"] := at0_mk X G a25 l25 c25 k25 fun _ _ _ _ _ _ us hl => match us, hl with | [_, _], _ => rfl
  have A__law_pen : At0 K mg "_law_pen" s__law_pen ["_law_cell"] := at0_mk X G a26 l26 c26 k26 fun _ _ _ _ _ _ us hl => match us, hl with | [_], _ => rfl
  have A__law_draw : At0 K mg "_law_draw" s__law_draw ["_law_pen_here", "_law_many"] := at0_mk X G a27 l27 c27 k27 fun _ _ _ _ _ _ us hl => match us, hl with | [_, _], _ => rfl
  have A__law_pick : At0 K mg "_law_pick" s__law_pick ["_law_pen_here", "_law_some"] := at0_mk X G a28 l28 c28 k28 fun _ _ _ _ _ _ us hl => match us, hl with | [_, _], _ => rfl
  have A__law_to : At0 K mg "_law_to" s__law_to ["_law_cell", "_law_letter"] := at0_mk X G a29 l29 c29 k29 fun _ _ _ _ _ _ us hl => match us, hl with | [_, _], _ => rfl
  have A__law_six : At0 K mg "_law_six" s__law_six ["_law_lying_here"] := at0_mk X G a30 l30 c30 k30 fun _ _ _ _ _ _ us hl => match us, hl with | [_], _ => rfl
  have A__law_rolled : At0 K mg "_law_rolled" s__law_rolled ["_law_six_here", "_law_letter"] := at0_mk X G a31 l31 c31 k31 fun _ _ _ _ _ _ us hl => match us, hl with | [_, _], _ => rfl
  have A__law_walked : At0 K mg "_law_walked" s__law_walked ["_law_floor_here", "_law_stand_here", "_law_row_here"] := at0_mk X G a32 l32 c32 k32 fun _ _ _ _ _ _ us hl => match us, hl with | [_, _, _], _ => rfl
  have A__law_floor : At0 K mg "_law_floor" s__law_floor ["_law_pen_here", "_law_most"] := at0_mk X G a33 l33 c33 k33 fun _ _ _ _ _ _ us hl => match us, hl with | [_, _], _ => rfl
  have A__law_lying : At0 K mg "_law_lying" s__law_lying ["_law_pen_here"] := at0_mk X G a34 l34 c34 k34 fun _ _ _ _ _ _ us hl => match us, hl with | [_], _ => rfl
  have A__law_stand : At0 K mg "_law_stand" s__law_stand ["_law_pen_here", "_law_floor_here"] := at0_mk X G a35 l35 c35 k35 fun _ _ _ _ _ _ us hl => match us, hl with | [_, _], _ => rfl
  have A__law_row : At0 K mg "_law_row" s__law_row ["_law_pen_here", "_law_floor_here", "_law_cell", "_law_most"] := at0_mk X G a36 l36 c36 k36 fun _ _ _ _ _ _ us hl => match us, hl with | [_, _, _, _], _ => rfl
  have A__law_marks : At0 K mg "_law_marks" s__law_marks ["_law_pen_here", "_law_floor_here"] := at0_mk X G a37 l37 c37 k37 fun _ _ _ _ _ _ us hl => match us, hl with | [_, _], _ => rfl
  have A__law_traded : At0 K mg "_law_traded" s__law_traded ["_law_floor_here", "_law_stand_here", "_law_row_here", "_law_marks_here"] := at0_mk X G a38 l38 c38 k38 fun _ _ _ _ _ _ us hl => match us, hl with | [_, _, _, _], _ => rfl
  have A__law_moves : At0 K mg "_law_moves" s__law_moves ["_law_floor_here", "_law_stand_here", "_law_row_here"] := at0_mk X G a39 l39 c39 k39 fun _ _ _ _ _ _ us hl => match us, hl with | [_, _, _], _ => rfl
  have A_need_let : At0 K mg "need_let" s_need_let ["floor", "cell", "row"] := at0_mk X G a40 l40 c40 k40 fun _ _ _ _ _ _ us hl => match us, hl with | [_, _, _], _ => rfl
  have A_marks_behind : At0 K mg "marks_behind" s_marks_behind ["floor", "stand", "row", "marks"] := at0_mk X G a41 l41 c41 k41 fun _ _ _ _ _ _ us hl => match us, hl with | [_, _, _, _], _ => rfl
  have A_exchange : At0 K mg "exchange" s_exchange ["floor", "stand", "row"] := at0_mk X G a42 l42 c42 k42 fun _ _ _ _ _ _ us hl => match us, hl with | [_, _, _], _ => rfl
  refine ⟨PySem.W.fnOf "law" "law" (defArgs s_law) (defBody s_law) (defScope s_law) .none kV43 dc43 pm43 an43 cd43 ct43, fun s v => .of_eq rfl, fun base _ _ => ?_⟩
  have H_is_whole : Has P w K mg base "is_whole" 2 f_is_whole 1 := p_is_whole A_is_whole Z_isinstance Z_bool Z_int
  have H_is_cell : Has P w K mg base "is_cell" 1 f_is_cell 2 := p_is_cell A_is_cell H_is_whole Z_len Z_isinstance Z_tuple C_LAST_LINE
  have H_is_rising : Has P w K mg base "is_rising" 1 f_is_rising 1 := p_is_rising A_is_rising Z_all Z_zip
  have H_is_floor : Has P w K mg base "is_floor" 1 f_is_floor 3 := p_is_floor A_is_floor H_is_rising H_is_cell Z_len Z_isinstance Z_tuple Z_all C_MOST_CELLS
  have H_is_cell_of : Has P w K mg base "is_cell_of" 2 f_is_cell_of 3 := p_is_cell_of A_is_cell_of H_is_cell
  have H_is_lying : Has P w K mg base "is_lying" 1 f_is_lying 2 := p_is_lying A_is_lying H_is_whole Z_isinstance Z_tuple Z_all C_LYINGS C_OPPOSITE_SUM
  have H_is_stand : Has P w K mg base "is_stand" 2 f_is_stand 4 := p_is_stand A_is_stand H_is_lying H_is_cell_of Z_len Z_isinstance Z_tuple
  have H_is_letter : Has P w K mg base "is_letter" 1 f_is_letter 1 := p_is_letter A_is_letter Z_isinstance Z_str C_LETTERS
  have H_is_row : Has P w K mg base "is_row" 1 f_is_row 2 := p_is_row A_is_row H_is_letter Z_all Z_isinstance Z_str
  have H_need_floor : Has P w K mg base "need_floor" 1 f_need_floor 4 := p_need_floor A_need_floor H_is_floor
  have H_need_stand : Has P w K mg base "need_stand" 2 f_need_stand 5 := p_need_stand A_need_stand H_is_stand
  have H_need_row : Has P w K mg base "need_row" 1 f_need_row 3 := p_need_row A_need_row H_is_row
  have H_rolled_cell : Has P w K mg base "rolled_cell" 2 f_rolled_cell 1 := p_rolled_cell A_rolled_cell D_STEPS
  have H_rolled_lying : Has P w K mg base "rolled_lying" 2 f_rolled_lying 1 := p_rolled_lying A_rolled_lying C_OPPOSITE_SUM
  have H_rolled_stand : Has P w K mg base "rolled_stand" 2 f_rolled_stand 2 := p_rolled_stand A_rolled_stand H_rolled_lying H_rolled_cell
  have H_place_off : Has P w K mg base "place_off" 3 f_place_off 2 := p_place_off A_place_off H_rolled_cell Z_enumerate
  have H_spots_of : Has P w K mg base "spots_of" 1 f_spots_of 1 := p_spots_of A_spots_of Z_tuple Z_range Z_len C_FACES
  have H_spot_of_cell : Has P w K mg base "spot_of_cell" 2 f_spot_of_cell 1 := p_spot_of_cell A_spot_of_cell C_FACES
  have H_is_marks : Has P w K mg base "is_marks" 2 f_is_marks 2 := p_is_marks A_is_marks H_spots_of H_is_whole Z_len Z_isinstance Z_tuple Z_all C_MOST_MARK
  have H_need_marks : Has P w K mg base "need_marks" 2 f_need_marks 3 := p_need_marks A_need_marks H_is_marks
  have H_trade_at : Has P w K mg base "trade_at" 2 f_trade_at 2 := p_trade_at A_trade_at H_spot_of_cell
  have H_trades : Has P w K mg base "trades" 3 f_trades 3 := p_trades A_trades H_rolled_stand H_trade_at
  have H_held_traded : Has P w K mg base "held_traded" 2 f_held_traded 1 := p_held_traded A_held_traded Z_list Z_tuple
  have H_held_behind : Has P w K mg base "held_behind" 4 f_held_behind 4 := p_held_behind A_held_behind H_held_traded H_trades
  have H_exchange_by : Has P w K mg base "exchange_by" 2 f_exchange_by 2 := p_exchange_by A_exchange_by H_held_traded Z_tuple
  have H__law_cell_at : Has P w K mg base "_law_cell_at" 2 f__law_cell_at 1 := p__law_cell_at A__law_cell_at Z_len
  have H__law_pen : Has P w K mg base "_law_pen" 1 f__law_pen 1 := p__law_pen A__law_pen Z_max
  have H__law_draw : Has P w K mg base "_law_draw" 2 f__law_draw 1 := p__law_draw A__law_draw 
  have H__law_pick : Has P w K mg base "_law_pick" 2 f__law_pick 2 := p__law_pick A__law_pick H__law_draw Z_len
  have H__law_to : Has P w K mg base "_law_to" 2 f__law_to 1 := p__law_to A__law_to Z_int
  have H__law_six : Has P w K mg base "_law_six" 1 f__law_six 1 := p__law_six A__law_six 
  have H__law_rolled : Has P w K mg base "_law_rolled" 2 f__law_rolled 1 := p__law_rolled A__law_rolled 
  have H__law_walked : Has P w K mg base "_law_walked" 3 f__law_walked 2 := p__law_walked A__law_walked H__law_six H__law_to H__law_rolled
  have H__law_floor : Has P w K mg base "_law_floor" 2 f__law_floor 3 := p__law_floor A__law_floor H__law_draw H__law_to H__law_pick Z_range Z_max Z_min Z_tuple Z_sorted
  have H__law_lying : Has P w K mg base "_law_lying" 1 f__law_lying 2 := p__law_lying A__law_lying H__law_six H__law_draw H__law_rolled Z_range
  have H__law_stand : Has P w K mg base "_law_stand" 2 f__law_stand 3 := p__law_stand A__law_stand H__law_lying H__law_pick Z_list
  have H__law_row : Has P w K mg base "_law_row" 4 f__law_row 3 := p__law_row A__law_row H__law_draw H__law_to H__law_pick Z_range
  have H__law_marks : Has P w K mg base "_law_marks" 2 f__law_marks 3 := p__law_marks A__law_marks H__law_pick H__law_draw Z_tuple Z_range Z_len
  have H__law_traded : Has P w K mg base "_law_traded" 4 f__law_traded 3 := p__law_traded A__law_traded H__law_walked Z_dict Z_list Z_zip Z_tuple
  have H__law_moves : Has P w K mg base "_law_moves" 3 f__law_moves 4 := p__law_moves A__law_moves H__law_traded Z_tuple Z_range Z_len
  have H_need_let : Has P w K mg base "need_let" 3 f_need_let 3 := p_need_let A_need_let H_place_off
  have H_marks_behind : Has P w K mg base "marks_behind" 4 f_marks_behind 6 := p_marks_behind A_marks_behind H_need_floor H_need_stand H_need_row H_need_marks H_need_let H_held_behind
  have H_exchange : Has P w K mg base "exchange" 3 f_exchange 6 := p_exchange A_exchange H_need_floor H_need_stand H_need_row H_need_let H_exchange_by H_spots_of H_trades
  exact q_law (fun_mk (st := s_law) l43 c43 k43) H__law_pen H__law_cell_at H__law_floor H__law_stand H__law_row H__law_marks H__law_traded H__law_moves H_exchange H_marks_behind Z_range Z_max Z_min Z_len Z_repr
end
end L05
open PySem PySem.W PyProof.Rows
theorem main05 (hmath : ∀ ns : List Int, ns.length ≤ 63 → ∃ as, L05.f_law [.pd (.list (ns.map .int))] = some (.pd (.bool true), as)) : PySem.Challenge.rw_tumblemarks_k05_marks_and_exchanges.Holds := by
  refine hd05 ?_
  k_fill
  refine T3.walkG (l := PySem.Challenge.rw_tumblemarks_k05_marks_and_exchanges) (n := 63) (k := 7) (x := "_law_script") (sp := fun w => T3.spF _ L05.f_law 1) rfl (by decide) rfl ⟨rfl, by decide, by decide⟩ (fun w h Y => PySem.W.kIn_of Y) ?F (fun _ H a ns hl O hS => T3.law_sp (hmath ns hl) O hS)
  case F =>
    intro w mg fa h KX G hmg
    refine' L05.fin KX G hmg ?a0 ?l0 ?c0 ?k0 ?a1 ?l1 ?c1 ?k1 ?a2 ?l2 ?c2 ?k2 ?a3 ?l3 ?c3 ?k3 ?a4 ?l4 ?c4 ?k4 ?a5 ?l5 ?c5 ?k5 ?a6 ?l6 ?c6 ?k6 ?a7 ?l7 ?c7 ?k7 ?a8 ?l8 ?c8 ?k8 ?a9 ?l9 ?c9 ?k9 ?a10 ?l10 ?c10 ?k10 ?a11 ?l11 ?c11 ?k11 ?a12 ?l12 ?c12 ?k12 ?a13 ?l13 ?c13 ?k13 ?a14 ?l14 ?c14 ?k14 ?a15 ?l15 ?c15 ?k15 ?a16 ?l16 ?c16 ?k16 ?a17 ?l17 ?c17 ?k17 ?a18 ?l18 ?c18 ?k18 ?a19 ?l19 ?c19 ?k19 ?a20 ?l20 ?c20 ?k20 ?a21 ?l21 ?c21 ?k21 ?a22 ?l22 ?c22 ?k22 ?a23 ?l23 ?c23 ?k23 ?a24 ?l24 ?c24 ?k24 ?a25 ?l25 ?c25 ?k25 ?a26 ?l26 ?c26 ?k26 ?a27 ?l27 ?c27 ?k27 ?a28 ?l28 ?c28 ?k28 ?a29 ?l29 ?c29 ?k29 ?a30 ?l30 ?c30 ?k30 ?a31 ?l31 ?c31 ?k31 ?a32 ?l32 ?c32 ?k32 ?a33 ?l33 ?c33 ?k33 ?a34 ?l34 ?c34 ?k34 ?a35 ?l35 ?c35 ?k35 ?a36 ?l36 ?c36 ?k36 ?a37 ?l37 ?c37 ?k37 ?a38 ?l38 ?c38 ?k38 ?a39 ?l39 ?c39 ?k39 ?a40 ?l40 ?c40 ?k40 ?a41 ?l41 ?c41 ?k41 ?a42 ?l42 ?c42 ?k42 ?a43 ?l43 ?c43 ?k43 ?z_isinstance ?z_bool ?z_int ?z_len ?z_tuple ?z_all ?z_zip ?z_str ?z_enumerate ?z_range ?z_list ?z_max ?z_min ?z_sorted ?z_dict ?z_repr ?ca_LAST_LINE ?cb_LAST_LINE ?ca_MOST_CELLS ?cb_MOST_CELLS ?ca_LYINGS ?cb_LYINGS ?ca_OPPOSITE_SUM ?cb_OPPOSITE_SUM ?ca_LETTERS ?cb_LETTERS ?ca_FACES ?cb_FACES ?ca_MOST_MARK ?cb_MOST_MARK ?da_STEPS ?dl_STEPS ?dk_STEPS ?db_STEPS
    case a0 => k_is
    case l0 => k_is
    case c0 => k_is
    case k0 => k_is
    case a1 => k_is
    case l1 => k_is
    case c1 => k_is
    case k1 => k_is
    case a2 => k_is
    case l2 => k_is
    case c2 => k_is
    case k2 => k_is
    case a3 => k_is
    case l3 => k_is
    case c3 => k_is
    case k3 => k_is
    case a4 => k_is
    case l4 => k_is
    case c4 => k_is
    case k4 => k_is
    case a5 => k_is
    case l5 => k_is
    case c5 => k_is
    case k5 => k_is
    case a6 => k_is
    case l6 => k_is
    case c6 => k_is
    case k6 => k_is
    case a7 => k_is
    case l7 => k_is
    case c7 => k_is
    case k7 => k_is
    case a8 => k_is
    case l8 => k_is
    case c8 => k_is
    case k8 => k_is
    case a9 => k_is
    case l9 => k_is
    case c9 => k_is
    case k9 => k_is
    case a10 => k_is
    case l10 => k_is
    case c10 => k_is
    case k10 => k_is
    case a11 => k_is
    case l11 => k_is
    case c11 => k_is
    case k11 => k_is
    case a12 => k_is
    case l12 => k_is
    case c12 => k_is
    case k12 => k_is
    case a13 => k_is
    case l13 => k_is
    case c13 => k_is
    case k13 => k_is
    case a14 => k_is
    case l14 => k_is
    case c14 => k_is
    case k14 => k_is
    case a15 => k_is
    case l15 => k_is
    case c15 => k_is
    case k15 => k_is
    case a16 => k_is
    case l16 => k_is
    case c16 => k_is
    case k16 => k_is
    case a17 => k_is
    case l17 => k_is
    case c17 => k_is
    case k17 => k_is
    case a18 => k_is
    case l18 => k_is
    case c18 => k_is
    case k18 => k_is
    case a19 => k_is
    case l19 => k_is
    case c19 => k_is
    case k19 => k_is
    case a20 => k_is
    case l20 => k_is
    case c20 => k_is
    case k20 => k_is
    case a21 => k_is
    case l21 => k_is
    case c21 => k_is
    case k21 => k_is
    case a22 => k_is
    case l22 => k_is
    case c22 => k_is
    case k22 => k_is
    case a23 => k_is
    case l23 => k_is
    case c23 => k_is
    case k23 => k_is
    case a24 => k_is
    case l24 => k_is
    case c24 => k_is
    case k24 => k_is
    case a25 => k_is
    case l25 => k_is
    case c25 => k_is
    case k25 => k_is
    case a26 => k_is
    case l26 => k_is
    case c26 => k_is
    case k26 => k_is
    case a27 => k_is
    case l27 => k_is
    case c27 => k_is
    case k27 => k_is
    case a28 => k_is
    case l28 => k_is
    case c28 => k_is
    case k28 => k_is
    case a29 => k_is
    case l29 => k_is
    case c29 => k_is
    case k29 => k_is
    case a30 => k_is
    case l30 => k_is
    case c30 => k_is
    case k30 => k_is
    case a31 => k_is
    case l31 => k_is
    case c31 => k_is
    case k31 => k_is
    case a32 => k_is
    case l32 => k_is
    case c32 => k_is
    case k32 => k_is
    case a33 => k_is
    case l33 => k_is
    case c33 => k_is
    case k33 => k_is
    case a34 => k_is
    case l34 => k_is
    case c34 => k_is
    case k34 => k_is
    case a35 => k_is
    case l35 => k_is
    case c35 => k_is
    case k35 => k_is
    case a36 => k_is
    case l36 => k_is
    case c36 => k_is
    case k36 => k_is
    case a37 => k_is
    case l37 => k_is
    case c37 => k_is
    case k37 => k_is
    case a38 => k_is
    case l38 => k_is
    case c38 => k_is
    case k38 => k_is
    case a39 => k_is
    case l39 => k_is
    case c39 => k_is
    case k39 => k_is
    case a40 => k_is
    case l40 => k_is
    case c40 => k_is
    case k40 => k_is
    case a41 => k_is
    case l41 => k_is
    case c41 => k_is
    case k41 => k_is
    case a42 => k_is
    case l42 => k_is
    case c42 => k_is
    case k42 => k_is
    case a43 => k_is
    case l43 => k_is
    case c43 => k_is
    case k43 => k_is
    case z_isinstance => k_is
    case z_bool => k_is
    case z_int => k_is
    case z_len => k_is
    case z_tuple => k_is
    case z_all => k_is
    case z_zip => k_is
    case z_str => k_is
    case z_enumerate => k_is
    case z_range => k_is
    case z_list => k_is
    case z_max => k_is
    case z_min => k_is
    case z_sorted => k_is
    case z_dict => k_is
    case z_repr => k_is
    case ca_LAST_LINE => k_is
    case cb_LAST_LINE => first | k_is | (decide +kernel) | rfl
    case ca_MOST_CELLS => k_is
    case cb_MOST_CELLS => first | k_is | (decide +kernel) | rfl
    case ca_LYINGS => k_is
    case cb_LYINGS => first | k_is | (decide +kernel) | rfl
    case ca_OPPOSITE_SUM => k_is
    case cb_OPPOSITE_SUM => first | k_is | (decide +kernel) | rfl
    case ca_LETTERS => k_is
    case cb_LETTERS => first | k_is | (decide +kernel) | rfl
    case ca_FACES => k_is
    case cb_FACES => first | k_is | (decide +kernel) | rfl
    case ca_MOST_MARK => k_is
    case cb_MOST_MARK => first | k_is | (decide +kernel) | rfl
    case da_STEPS => k_is
    case dl_STEPS => k_is
    case dk_STEPS => k_keys
    case db_STEPS => first | k_is | (decide +kernel) | rfl

end
theorem PySem.Challenge.cw_tumblemarks_k05_marks_and_exchanges_holds : PySem.Challenge.rw_tumblemarks_k05_marks_and_exchanges.Holds := by
  exact main05 L05.hmath

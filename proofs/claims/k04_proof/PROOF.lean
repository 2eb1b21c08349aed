import PyProof.Rows.All
import Wide.All
import OpenK.AllK
import Wide.FinOn
import KE.KStateDown
import Lean
import HandS.Base
import HandS.Call
import HandS.Ends
import HandS.More
import HandS.Words
import HandS.WordsExc
import HandS.Defaults
import HandS.Head0
import HandS.Head1
import HandS.Head2
import HandS.Head3
import HandS.HeadEnd
import HandS.HeadHook1
import HandS.HeadHook2
import HandS.ForExc
import HandS.Dict
import HandS.Comp
import HandS.Iter
import HandS.Text
import HandS.Flow
import HandS.IsInst
import HandS.ExcInit
import HandS.ExcIs
import HandS.ExcField
import HandS.Wide
import KE.KExcIs
import HandS.ExcValue
import HandS.DictComp
import HandS.EndBits
import HandS.TryOnly
import HandS.Gcd
import HandS.Lambda
import HandS.EndTab
import HandS.HeadHook4
import KE.KNestM
import HandS.Walk
import PyProof.ReprLen
import PyProof.Rows.TupDisplay
import HandS.Set
import HandS.TupSets
import PyProof.Rows.SetFrom
import PyProof.Rows.SortShellAny
import PyProof.StrWalks
import PyProof.FactsAll.subtypes_3
import KE.SortKeyHeap
import HandS.SortKw
import HandS.OwnEq
import PyProof.InstNe
import HandS.Codes
import HandS.Property
import PyProof.StrBlock2
import KE.GoesEnum
import HandS.TupAny
import PyProof.ListStr
import HandS.Style
import KE.DataMinKey
import PyProof.SeqI3
import PyProof.WalksS
import HandS.ExcOwn
import PyProof.StrLawsRepr
import PySem.Challenge.RW_meanways_k04_closures
set_option Elab.async false
set_option linter.all false
set_option maxRecDepth 100000
set_option maxHeartbeats 1000000
/-! what the head tells: facts of the written part as tests of one's own -/
namespace Mw
open PySem PySem.Spec PyProof.Rows L2
abbrev Fct := PySem.W.Frag → Bool
def asM (n : Nat) (g : Addr → Option Obj) : List Addr := cStatics :: sysModules :: He.asD g n
def obsM (fa : List Fct) (fn : List He.DefD) (K : PySem.W.Frag) : He.AlD := ((fa.all fun f => f K) && fn.all fun d => d.ok K, fn.map fun d => He.fnW K d.at_)
def SaysM (fa : List Fct) (fn : List He.DefD) (K : PySem.W.Frag) : Prop := obsM fa fn K = He.valD fn
def obsMG (n : Nat) (fa : List Fct) (fn : List He.DefD) (g : Addr → Option Obj) : He.AlD := obsM fa fn (He.frG g (asM n g))
def hookM (n : Nat) (fa : List Fct) (fn : List He.DefD) : PySem.W.Hook where
  α := He.AlD
  obs := fun s => obsMG n fa fn s.heap.get?
  val := fun _ => He.valD fn
  says := fun _ h => ∃ K : PySem.W.Frag, K.In h ∧ SaysM fa fn K
  of := fun _ _ e => ⟨_, He.frG_in, e⟩
  keeps := fun _ _ _ ⟨K, hK, c⟩ k => ⟨K, PySem.W.Frag.In.keeps hK k, c⟩
theorem obsMG_eq {n : Nat} {fa : List Fct} {fn : List He.DefD} {g : Addr → Option Obj} {s : Shared} (h : ∀ a, g a = s.heap.get? a) : obsMG n fa fn g = (hookM n fa fn).obs s := by
  have e : g = s.heap.get? := funext h
  subst e
  rfl
theorem SaysM.fact {fa : List Fct} {fn : List He.DefD} {K : PySem.W.Frag} (c : SaysM fa fn K) (i : Nat) {f : Fct} (h : fa[i]? = some f := by rfl) : f K = true := by
  have c0 : ((fa.all fun f => f K) && fn.all fun d => d.ok K) = true := congrArg Prod.fst c
  exact List.all_eq_true.mp (He.ba c0).1 f (List.mem_of_getElem? h)
theorem SaysM.defn {fa : List Fct} {fn : List He.DefD} {K : PySem.W.Frag} (c : SaysM fa fn K) (i : Nat) {d : He.DefD} (h : fn[i]? = some d := by rfl) :
    ∃ fd, FunD K d.name d.qual d.params d.body d.scope (d.dvs K) (d.kws K) (He.fAd K d.at_) fd := by
  have c0 : ((fa.all fun f => f K) && fn.all fun d => d.ok K) = true := congrArg Prod.fst c
  have c1 : fn.map (fun d => He.fnW K d.at_) = fn.map He.DefD.val := congrArg Prod.snd c
  have e2 : (fn.map fun d => He.fnW K d.at_)[i]? = (fn.map He.DefD.val)[i]? := by rw [c1]
  rw [List.getElem?_map, List.getElem?_map, h] at e2
  exact He.DefD.funD (Option.some.inj e2) (List.all_eq_true.mp (He.ba c0).2 d (List.mem_of_getElem? h))
end Mw
set_option Elab.async false
set_option linter.all false
set_option maxRecDepth 100000
set_option maxHeartbeats 1000000
namespace Mw
open PySem PySem.Spec PyProof.Rows L2
/-! data that stand in the abstract heap -/
/-- the data that a key is -/
def kD : Key → PyData
  | .inl i => .int i
  | .inr x => .str x
mutual
def Dt (H : Hp) : PyData → V → Prop
  | .none, v => v = .non
  | .bool b, v => v = .bl b
  | .int i, v => v = .int i
  | .str x, v => v = .str x
  | .list ds, v => ∃ a xs, v = .ref a ∧ H a = some (.lst xs) ∧ DtL H ds xs
  | .tuple ds, v => ∃ a xs, v = .ref a ∧ H a = some (.tup xs) ∧ DtL H ds xs
  | .dict kvs, v => ∃ a, v = .ref a ∧ ((∃ es, H a = some (.dK es) ∧ DtK H kvs es) ∨ ∃ es, H a = some (.dT es) ∧ DtT H kvs es)
def DtL (H : Hp) : List PyData → List V → Prop
  | [], xs => xs = []
  | d :: ds, xs => ∃ x r, xs = x :: r ∧ Dt H d x ∧ DtL H ds r
def DtK (H : Hp) : List (PyData × PyData) → List (Key × V) → Prop
  | [], es => es = []
  | (k, d) :: r, es => ∃ y x t, es = (y, x) :: t ∧ Dt H k (kV y) ∧ Dt H d x ∧ DtK H r t
def DtT (H : Hp) : List (PyData × PyData) → List (List Key × V) → Prop
  | [], es => es = []
  | (k, d) :: r, es => ∃ y x t, es = (y, x) :: t ∧ k = .tuple (y.map kD) ∧ Dt H d x ∧ DtT H r t
end
mutual
theorem Dt.same {H H' : Hp} (s : Same H H') : ∀ (d : PyData) (v : V), Dt H d v → Dt H' d v
  | .none, v, h => by simpa only [Dt] using h
  | .bool _, v, h => by simpa only [Dt] using h
  | .int _, v, h => by simpa only [Dt] using h
  | .str _, v, h => by simpa only [Dt] using h
  | .list ds, v, h => by
    simp only [Dt] at h ⊢
    obtain ⟨a, xs, e, ha, hd⟩ := h
    exact ⟨a, xs, e, s _ _ ha, DtL.same s ds xs hd⟩
  | .tuple ds, v, h => by
    simp only [Dt] at h ⊢
    obtain ⟨a, xs, e, ha, hd⟩ := h
    exact ⟨a, xs, e, s _ _ ha, DtL.same s ds xs hd⟩
  | .dict kvs, v, h => by
    simp only [Dt] at h ⊢
    obtain ⟨a, e, ⟨es, ha, hd⟩ | ⟨es, ha, hd⟩⟩ := h
    · exact ⟨a, e, .inl ⟨es, s _ _ ha, DtK.same s kvs es hd⟩⟩
    · exact ⟨a, e, .inr ⟨es, s _ _ ha, DtT.same s kvs es hd⟩⟩
theorem DtL.same {H H' : Hp} (s : Same H H') : ∀ (ds : List PyData) (xs : List V), DtL H ds xs → DtL H' ds xs
  | [], xs, h => by simpa only [DtL] using h
  | d :: ds, xs, h => by
    simp only [DtL] at h ⊢
    obtain ⟨x, r, e, hx, hr⟩ := h
    exact ⟨x, r, e, Dt.same s d x hx, DtL.same s ds r hr⟩
theorem DtK.same {H H' : Hp} (s : Same H H') : ∀ (ds : List (PyData × PyData)) (xs : List (Key × V)), DtK H ds xs → DtK H' ds xs
  | [], xs, h => by simpa only [DtK] using h
  | (k, d) :: ds, xs, h => by
    simp only [DtK] at h ⊢
    obtain ⟨y, x, t, e, hy, hx, hr⟩ := h
    exact ⟨y, x, t, e, Dt.same s k _ hy, Dt.same s d x hx, DtK.same s ds t hr⟩
theorem DtT.same {H H' : Hp} (s : Same H H') : ∀ (ds : List (PyData × PyData)) (xs : List (List Key × V)), DtT H ds xs → DtT H' ds xs
  | [], xs, h => by simpa only [DtT] using h
  | (k, d) :: ds, xs, h => by
    simp only [DtT] at h ⊢
    obtain ⟨y, x, t, e, hy, hx, hr⟩ := h
    exact ⟨y, x, t, e, hy, Dt.same s d x hx, DtT.same s ds t hr⟩
end
theorem dtk_keys {H : Hp} : ∀ (ks : List Key), DtL H (ks.map kD) (ks.map kV)
  | [] => by simp only [List.map_nil, DtL]
  | k :: ks => by
    simp only [List.map_cons, DtL]
    refine ⟨kV k, _, rfl, ?_, dtk_keys ks⟩
    cases k <;> simp only [kD, Dt, kV]
section
variable {X : Cx} {pins : List (Addr × Obj)} {σ : L2.St} {H : Hp} {s : Shared}
theorem keys_rd {h : Heap} : ∀ (ks : List Key) (us : List Value), Vals (ks.map kV) us → ∃ as, ReadsAll h us (ks.map kD) as ∧ as = []
  | [], us, r => by
    cases r
    exact ⟨[], .nil, rfl⟩
  | k :: ks, us, r => by
    rw [List.map_cons] at r
    cases r with
    | cons r1 r2 =>
      obtain ⟨as, q, rfl⟩ := keys_rd ks _ r2
      refine ⟨[] ++ [], ?_, rfl⟩
      cases k with
      | inl i =>
        obtain ⟨t, rfl⟩ := r1
        exact .cons (.int i t) q
      | inr x =>
        obtain ⟨t, rfl⟩ := r1
        exact .cons (.str x t) q
mutual
/-- what stands as data is read as data; only tracked objects are met -/
theorem Dt.rd (I : Inv X pins σ H s) : ∀ (d : PyData) (v : V) (u : Value), Dt H d v → RelV v u → ∃ as, Reads s.heap u d as ∧ ∀ b ∈ as, H b ≠ none
  | .none, v, u, h, r => by
    simp only [Dt] at h
    subst h; cases r
    exact ⟨[], .none, fun _ z => absurd z (by simp)⟩
  | .bool b, v, u, h, r => by
    simp only [Dt] at h
    subst h; cases r
    exact ⟨[], .bool b, fun _ z => absurd z (by simp)⟩
  | .int i, v, u, h, r => by
    simp only [Dt] at h
    subst h; obtain ⟨t, rfl⟩ := r
    exact ⟨[], .int i t, fun _ z => absurd z (by simp)⟩
  | .str x, v, u, h, r => by
    simp only [Dt] at h
    subst h; obtain ⟨t, rfl⟩ := r
    exact ⟨[], .str x t, fun _ z => absurd z (by simp)⟩
  | .list ds, v, u, h, r => by
    simp only [Dt] at h
    obtain ⟨a, xs, rfl, ha, hd⟩ := h
    cases r
    obtain ⟨_, its, n, rv, ho⟩ := (show ObjOk X.prog X.w H s.heap a (.lst xs) from I.hok a _ ha)
    obtain ⟨as, hr, hn⟩ := DtL.rd I ds xs its hd rv
    refine ⟨a :: as, .list ho rfl rfl hr, fun b hb => ?_⟩
    rcases List.mem_cons.mp hb with rfl | hb
    · rw [ha]; simp
    · exact hn b hb
  | .tuple ds, v, u, h, r => by
    simp only [Dt] at h
    obtain ⟨a, xs, rfl, ha, hd⟩ := h
    cases r
    obtain ⟨_, its, rv, o, ho, hc, n, hda⟩ := (show ObjOk X.prog X.w H s.heap a (.tup xs) from I.hok a _ ha)
    obtain ⟨as, hr, hn⟩ := DtL.rd I ds xs its hd rv
    exact ⟨as, .tuple ho hc hda hr, hn⟩
  | .dict kvs, v, u, h, r => by
    simp only [Dt] at h
    obtain ⟨a, rfl, ⟨es, ha, hd⟩ | ⟨es, ha, hd⟩⟩ := h
    all_goals cases r
    rotate_left
    · obtain ⟨_, _, xs, rel, o, ent, ep, ho, hx, hda, he, _, _⟩ := dt_of I.hok ha
      obtain ⟨as, bs, h1, h2, n1, n2⟩ := DtT.rd I kvs es xs hd rel
      refine ⟨a :: as ++ bs, .dict ho hx.1 hda (by rw [he]; exact h1) (by rw [he]; exact h2), fun b hb => ?_⟩
      rcases List.mem_append.mp hb with hb | hb
      · rcases List.mem_cons.mp hb with rfl | hb
        · rw [ha]; simp
        · exact n1 b hb
      · exact n2 b hb
    obtain ⟨_, _, vs, rel, o, ent, ep, ho, hx, hda, _, hp, _⟩ := (show ObjOk X.prog X.w H s.heap a (.dK es) from I.hok a _ ha)
    obtain ⟨as, bs, h1, h2, n1, n2⟩ := DtK.rd I kvs es vs _ hd rel hp
    refine ⟨a :: as ++ bs, .dict ho hx.1 hda h1 h2, fun b hb => ?_⟩
    rcases List.mem_append.mp hb with hb | hb
    · rcases List.mem_cons.mp hb with rfl | hb
      · rw [ha]; simp
      · exact n1 b hb
    · exact n2 b hb
theorem DtL.rd (I : Inv X pins σ H s) : ∀ (ds : List PyData) (xs : List V) (us : List Value), DtL H ds xs → Vals xs us → ∃ as, ReadsAll s.heap us ds as ∧ ∀ b ∈ as, H b ≠ none
  | [], xs, us, h, r => by
    simp only [DtL] at h
    subst h; cases r
    exact ⟨[], .nil, fun _ z => absurd z (by simp)⟩
  | d :: ds, xs, us, h, r => by
    simp only [DtL] at h
    obtain ⟨x, t, rfl, hx, ht⟩ := h
    cases r with
    | cons r1 r2 =>
      obtain ⟨as, q1, n1⟩ := Dt.rd I d _ _ hx r1
      obtain ⟨bs, q2, n2⟩ := DtL.rd I ds _ _ ht r2
      exact ⟨as ++ bs, .cons q1 q2, fun b hb => (List.mem_append.mp hb).elim (n1 b) (n2 b)⟩
theorem DtK.rd (I : Inv X pins σ H s) : ∀ (ds : List (PyData × PyData)) (es : List (Key × V)) (vs : List (Key × Value)) (ent : List DictEntry), DtK H ds es → KV es vs → Pairs (mixKind X.prog X.w) ent vs →
    ∃ as bs, ReadsAll s.heap (ent.map (·.key)) (ds.map (·.1)) as ∧ ReadsAll s.heap (ent.map (·.val)) (ds.map (·.2)) bs ∧ (∀ b ∈ as, H b ≠ none) ∧ ∀ b ∈ bs, H b ≠ none
  | [], es, vs, ent, h, r, p => by
    simp only [DtK] at h
    subst h; cases r; cases p
    exact ⟨[], [], .nil, .nil, fun _ z => absurd z (by simp), fun _ z => absurd z (by simp)⟩
  | (k, d) :: ds, es, vs, ent, h, r, p => by
    simp only [DtK] at h
    obtain ⟨y, x, t, rfl, hy, hx, ht⟩ := h
    cases r with
    | cons r1 r2 =>
      cases p with
      | cons p1 p2 p3 =>
        rename_i kv vs' e ent'
        obtain ⟨e1, e2⟩ := r1
        have e1' : y = kv.1 := e1
        have rk : RelV (kV y) e.key := by
          have q : keyIs kv.1 e.key = true := p1
          rw [← e1'] at q
          rcases keyIs_shape q with ⟨i, t, rfl, q2⟩ | ⟨z, t, rfl, q2⟩
          · exact ⟨t, q2⟩
          · exact ⟨t, q2⟩
        have rv : RelV x e.val := by rw [p2]; exact e2
        obtain ⟨a1, q1, n1⟩ := Dt.rd I k _ _ hy rk
        obtain ⟨b1, q2, n2⟩ := Dt.rd I d _ _ hx rv
        obtain ⟨as, bs, q3, q4, n3, n4⟩ := DtK.rd I ds t _ _ ht r2 p3
        exact ⟨a1 ++ as, b1 ++ bs, .cons q1 q3, .cons q2 q4, fun b hb => (List.mem_append.mp hb).elim (n1 b) (n3 b), fun b hb => (List.mem_append.mp hb).elim (n2 b) (n4 b)⟩
theorem DtT.rd (I : Inv X pins σ H s) : ∀ (ds : List (PyData × PyData)) (es : List (List Key × V)) (xs : List (List Key × Addr × Value)), DtT H ds es → KT H es xs →
    ∃ as bs, ReadsAll s.heap ((xs.map (entryOfKey (tupleKind (mixKind X.prog X.w)))).map (·.key)) (ds.map (·.1)) as ∧ ReadsAll s.heap ((xs.map (entryOfKey (tupleKind (mixKind X.prog X.w)))).map (·.val)) (ds.map (·.2)) bs ∧ (∀ b ∈ as, H b ≠ none) ∧ ∀ b ∈ bs, H b ≠ none
  | [], es, xs, h, r => by
    simp only [DtT] at h
    subst h; cases r
    exact ⟨[], [], .nil, .nil, fun _ z => absurd z (by simp), fun _ z => absurd z (by simp)⟩
  | (k, d) :: ds, es, xs, h, r => by
    simp only [DtT] at h
    obtain ⟨y, x, t, rfl, hy, hx, ht⟩ := h
    cases r with
    | cons r1 r2 =>
      rename_i q qs
      obtain ⟨_, e2, e3⟩ := r1
      obtain ⟨_, its, rv, o, ho, hc, n, hda⟩ := (show ObjOk X.prog X.w H s.heap q.2.1 (.tup (y.map kV)) from I.hok _ _ e2)
      obtain ⟨a1, q1, n1⟩ : ∃ as, Reads s.heap (.ref q.2.1) k as ∧ ∀ b ∈ as, H b ≠ none := by
        obtain ⟨us, hr, hn⟩ := keys_rd (h := s.heap) y its rv
        exact ⟨us, hy ▸ .tuple ho hc hda hr, fun b hb => absurd hb (by rw [hn]; simp)⟩
      obtain ⟨b1, q2, n2⟩ := Dt.rd I d _ _ hx e3
      obtain ⟨as, bs, q3, q4, n3, n4⟩ := DtT.rd I ds t _ ht r2
      exact ⟨a1 ++ as, b1 ++ bs, .cons q1 q3, .cons q2 q4, fun b hb => (List.mem_append.mp hb).elim (n1 b) (n3 b), fun b hb => (List.mem_append.mp hb).elim (n2 b) (n4 b)⟩
end
/-- the written part holds the table of modules -/
def SysIn (K : PySem.W.Frag) : Prop := (K.lookup sysModules).isSome = true
/-- repr of data -/
def rRepr : List V → Hp → VK → Prop := fun xs H Q => ∃ v d, xs = [v] ∧ Dt H d v ∧ d.showable = true ∧ d.depth ≤ 60 ∧ d.shown.length ≤ sizeLine ∧ Q (.str d.shown) H
theorem call_repr (hs : SysIn X.K) (hg : X.A.guards = some []) (hu : X.A.units + 64 < cLine) : CallR X (.builtin "repr") rRepr := by
  intro pins s σ H xs us Q I r h
  obtain ⟨v, d, rfl, hd, sh, dp, sz, q⟩ := h
  obtain ⟨u, rfl, rv⟩ := vals1 r
  obtain ⟨as, hr, hn⟩ := Dt.rd I d v u hd rv
  have nosys : sysModules ∉ as := fun hm => by
    obtain ⟨o, ho⟩ := Option.isSome_iff_exists.mp hs
    exact hn _ hm (I.bs _ o (I.ok.mod.kin _ _ ho)).2
  have fin : ∀ (t : Tok) (tk : Nat), EP X pins σ Q (.str d.shown t) { s with toks := tk } := fun t tk => ⟨.str d.shown, H, I.tok _, ⟨_, rfl⟩, q⟩
  cases d with
  | none =>
    simp only [Dt] at hd
    subst hd; cases rv
    simp only [PyData.shown] at fin
    exact PySem.P.repr_of_none (fin _ _)
  | bool b =>
    simp only [Dt] at hd
    subst hd; cases rv
    simp only [PyData.shown] at fin
    exact PySem.P.repr_of_bool (fin _ _)
  | int i =>
    simp only [Dt] at hd
    subst hd; obtain ⟨t, rfl⟩ := rv
    simp only [PyData.shown] at fin
    exact PySem.P.repr_of_int (by simpa [PyData.showable] using sh) (fin _ _)
  | str x =>
    simp only [Dt] at hd
    subst hd; obtain ⟨t, rfl⟩ := rv
    simp only [PyData.shown] at fin sz
    exact PySem.P.repr_of_str (fin _ _) sz
  | list ds =>
    simp only [Dt] at hd
    obtain ⟨a, ys, rfl, _, _⟩ := hd
    cases rv
    exact repr_of_reads' hr sh (fun _ => nosys) hg (by omega) (fun _ _ e => e) (fun h' t tk k => ⟨.str _, H, I.kept k, ⟨_, rfl⟩, q⟩) sz
  | tuple ds =>
    simp only [Dt] at hd
    obtain ⟨a, ys, rfl, _, _⟩ := hd
    cases rv
    exact repr_of_reads' hr sh (fun _ => nosys) hg (by omega) (fun _ _ e => e) (fun h' t tk k => ⟨.str _, H, I.kept k, ⟨_, rfl⟩, q⟩) sz
  | dict ds =>
    simp only [Dt] at hd
    obtain ⟨a, rfl, _⟩ := hd
    cases rv
    exact repr_of_reads' hr sh (fun _ => nosys) hg (by omega) (fun _ _ e => e) (fun h' t tk k => ⟨.str _, H, I.kept k, ⟨_, rfl⟩, q⟩) sz
end
end Mw
set_option Elab.async false
set_option linter.all false
set_option maxRecDepth 100000
set_option maxHeartbeats 1000000
/-! the draws: what a law's state of draws looks like between two calls -/
namespace Mw
open PySem PySem.Spec PyProof.Rows L2
/-- the function object of the written part at a -/
def fdOf (K : PySem.W.Frag) (a : Addr) : FuncData := match K.lookup a with
  | some ⟨_, _, .func fd, _⟩ => fd
  | _ => PySem.W.fnOf "" "" ⟨[], [], none, [], [], none, []⟩ [] ⟨.function, [], false, false, []⟩ .none .none .none .none none .none .none
theorem funD_of {K : PySem.W.Frag} {x qual : Str} {params : Arguments} {body : List Stmt} {scope : Scope} {dvs : List V} {kws : List (Str × V)} {f : Addr} (h : ∃ fd, FunD K x qual params body scope dvs kws f fd) :
    FunD K x qual params body scope dvs kws f (fdOf K f) := by
  obtain ⟨fd, F⟩ := h
  obtain ⟨oc, od, dV, kV, doc, pm, an, cdv, ct, osl, e, lk, r⟩ := F.ex
  have e2 : fdOf K f = fd := by
    unfold fdOf
    rw [lk]
  rw [e2]
  exact F
/-- the heap without d and W -/
def Hid (d W : Addr) (H : Hp) : Hp := fun b => if b = d ∨ b = W then none else H b
theorem Hid.sub (d W : Addr) (H : Hp) : Same (Hid d W H) H := fun b o h => by
  unfold Hid at h
  split at h
  · cases h
  · exact h
theorem Hid.at_ {d W b : Addr} {H : Hp} (h1 : b ≠ d) (h2 : b ≠ W) : Hid d W H b = H b := by
  unfold Hid
  rw [if_neg (fun z => z.elim h1 h2)]
theorem Hid.upd_out {d W b : Addr} {H : Hp} {o : HO} (h1 : b ≠ d) (h2 : b ≠ W) : Hid d W (upd H b o) = upd (Hid d W H) b o := by
  funext c
  unfold Hid upd
  by_cases e : c = b
  · subst e
    rw [if_neg (fun z => z.elim h1 h2), if_pos rfl, if_pos rfl]
  · simp only [if_neg e]
theorem Hid.upd_d {d W : Addr} {H : Hp} {o : HO} : Hid d W (upd H d o) = Hid d W H := by
  funext c
  unfold Hid upd
  by_cases e : c = d
  · rw [if_pos (.inl e), if_pos (.inl e)]
  · simp only [if_neg e]
theorem Hid.upd_w {d W : Addr} {H : Hp} {o : HO} : Hid d W (upd H W o) = Hid d W H := by
  funext c
  unfold Hid upd
  by_cases e : c = W
  · rw [if_pos (.inr e), if_pos (.inr e)]
  · simp only [if_neg e]
theorem Hid.none_ {d W b : Addr} {H : Hp} (h : H b = none) : Hid d W H b = none := by
  unfold Hid
  rw [h, ite_self]
/-- all but d and W stays -/
def Sd (d W : Addr) (H H' : Hp) : Prop := Same (Hid d W H) (Hid d W H')
theorem Sd.refl {d W : Addr} (H : Hp) : Sd d W H H := Same.refl _
theorem Sd.trans {d W : Addr} {H H1 H2 : Hp} (a : Sd d W H H1) (b : Sd d W H1 H2) : Sd d W H H2 := Same.trans a b
theorem Sd.of {d W : Addr} {H H' : Hp} (s : Same H H') : Sd d W H H' := fun b o h => by
  by_cases h1 : b = d
  · unfold Hid at h
    rw [if_pos (.inl h1)] at h
    cases h
  · by_cases h2 : b = W
    · unfold Hid at h
      rw [if_pos (.inr h2)] at h
      cases h
    · rw [Hid.at_ h1 h2] at h ⊢
      exact s b o h
theorem Sd.at_ {d W b : Addr} {H H' : Hp} {o : HO} (s : Sd d W H H') (h1 : b ≠ d) (h2 : b ≠ W) (h : H b = some o) : H' b = some o := by
  have z := s b o (by rw [Hid.at_ h1 h2]; exact h)
  rw [Hid.at_ h1 h2] at z
  exact z
theorem same_upd {H : Hp} {p : Addr} {o : HO} (h : H p = none) : Same H (upd H p o) := fun b x e => by
  rw [upd_ne (ne_of_none e h)]
  exact e
theorem Sd.new {d W : Addr} {H : Hp} {p : Addr} {o : HO} (h : H p = none) : Sd d W H (upd H p o) := .of (same_upd h)
theorem Sd.upd_d {d W : Addr} {H : Hp} {o : HO} : Sd d W H (upd H d o) := by
  unfold Sd
  rw [Hid.upd_d]
  exact Same.refl _
theorem Sd.upd_w {d W : Addr} {H : Hp} {o : HO} : Sd d W H (upd H W o) := by
  unfold Sd
  rw [Hid.upd_w]
  exact Same.refl _
def drK (W C : Addr) (r t : Int) : List (Key × V) := [(.inr "wide", .ref W), (.inr "cells", .ref C), (.inr "rest", .int r), (.inr "turn", .int t)]
theorem dr_wide (W C : Addr) (r t : Int) : valV (drK W C r t) (.inr "wide" : Key) = some (.ref W) := by rfl
theorem dr_cells (W C : Addr) (r t : Int) : valV (drK W C r t) (.inr "cells" : Key) = some (.ref C) := by rfl
theorem dr_rest (W C : Addr) (r t : Int) : valV (drK W C r t) (.inr "rest" : Key) = some (.int r) := by rfl
theorem dr_turn (W C : Addr) (r t : Int) : valV (drK W C r t) (.inr "turn" : Key) = some (.int t) := by rfl
theorem dr_pr (W C : Addr) (r t z : Int) : putK (drK W C r t) (.inr "rest" : Key) (.int z) = drK W C z t := by rfl
theorem dr_pt (W C : Addr) (r t z : Int) : putK (drK W C r t) (.inr "turn" : Key) (.int z) = drK W C r z := by rfl
/-- the state of draws at d, its lists at W and C; n draws are left -/
structure Drw (H : Hp) (d W C : Addr) (n : Nat) : Prop where
  ex : ∃ (r t : Int) (ws cs : List Int), H d = some (.dK (drK W C r t)) ∧ H W = some (.lst (ws.map V.int)) ∧ H C = some (.lst (cs.map V.int)) ∧ 0 ≤ t ∧ t + n ≤ 1099511627776
  ne : W ≠ C
theorem Drw.mono {H : Hp} {d W C : Addr} {n m : Nat} (h : Drw H d W C n) (l : m ≤ n) : Drw H d W C m := by
  obtain ⟨⟨r, t, ws, cs, a, b, c, e, f⟩, g⟩ := h
  exact ⟨⟨r, t, ws, cs, a, b, c, e, by omega⟩, g⟩
theorem Drw.same {H H' : Hp} {d W C : Addr} {n : Nat} (h : Drw H d W C n) (s : Same H H') : Drw H' d W C n := by
  obtain ⟨⟨r, t, ws, cs, a, b, c, e, f⟩, g⟩ := h
  exact ⟨⟨r, t, ws, cs, s _ _ a, s _ _ b, s _ _ c, e, f⟩, g⟩
theorem Drw.d_ne {H : Hp} {d W C : Addr} {n : Nat} (h : Drw H d W C n) {b : Addr} {o : HO} (e : H b = some o) (hk : ∀ kvs, o ≠ .dK kvs) : b ≠ d := by
  obtain ⟨⟨r, t, ws, cs, a, _⟩, _⟩ := h
  intro z
  rw [z, a] at e
  exact hk _ (Option.some.inj e).symm
theorem Drw.new_d {H : Hp} {d W C : Addr} {n : Nat} (h : Drw H d W C n) {b : Addr} (e : H b = none) : b ≠ d ∧ b ≠ W ∧ b ≠ C := by
  obtain ⟨⟨r, t, ws, cs, a, b1, c1, _⟩, _⟩ := h
  exact ⟨(ne_of_none a e).symm, (ne_of_none b1 e).symm, (ne_of_none c1 e).symm⟩
end Mw
namespace Mw
open PySem PySem.Spec PyProof.Rows L2
/-- what holds behind the first statement, said once -/
theorem seq_gen {t u : TS} {D : Ends} {σ : L2.St} {H : Hp} (Pv : L2.St → Hp → Prop) (tail : ∀ σ' H', Pv σ' H' → u D σ' H') (first : ∀ X : L2.St → Hp → Prop, (∀ σ' H', Pv σ' H' → X σ' H') → t { D with nx := X } σ H) : tSeq t u D σ H := first _ tail
theorem eqv_ints_nil (ws : List Int) : PyData.eqv (.list (ws.map PyData.int)) (.list []) = ws.isEmpty := by
  cases ws with
  | nil => rfl
  | cons a r => rfl
theorem dp_ints {K : PySem.W.Frag} {H : Hp} : ∀ ws : List Int, DpAll K H (ws.map V.int) (ws.map PyData.int)
  | [] => .nil
  | z :: r => .cons (.int z) (dp_ints r)
theorem lay_ints : ∀ ws : List Int, PyData.canLayAll0 (ws.map PyData.int) = true ∧ PyData.depthAll (ws.map PyData.int) = 0
  | [] => ⟨rfl, rfl⟩
  | z :: r => by
    obtain ⟨h1, h2⟩ := lay_ints r
    constructor
    · simp only [List.map_cons, PyData.canLayAll0, PyData.canLay0, h1, Bool.and_self]
    · simp only [List.map_cons, PyData.depthAll, PyData.depth, h2, Nat.max_self]
theorem shaped_ints (ws : List Int) : SeqAt.shaped (.list (ws.map PyData.int)) = true := by
  obtain ⟨h1, h2⟩ := lay_ints ws
  unfold SeqAt.shaped
  simp only [PyData.canLay0, PyData.depth, h1, h2]
  decide
theorem ints_get {ws : List Int} {j : Nat} {y : V} (h : (ws.map V.int)[j]? = some y) : ∃ z, ws[j]? = some z ∧ y = .int z := by
  rw [List.getElem?_map] at h
  cases e : ws[j]? with
  | none => rw [e] at h; cases h
  | some z => rw [e] at h; exact ⟨z, rfl, (Option.some.inj h).symm⟩
end Mw
namespace Mw
open PySem PySem.Spec PyProof.Rows L2
/-- how far a def has come: the draws' state, what it found at its entry, the objects that it made -/
structure Rn (d W C : Addr) (n : Nat) (H0 H : Hp) (L : List (Addr × HO)) : Prop where
  dr : Drw H d W C n
  sd : Sd d W H0 H
  ob : ∀ q ∈ L, Hid d W H q.1 = some q.2
theorem Rn.start {d W C : Addr} {n : Nat} {H : Hp} (D : Drw H d W C n) : Rn d W C n H H [] := ⟨D, Sd.refl _, fun _ h => absurd h (by simp)⟩
theorem Rn.made {d W C : Addr} {n : Nat} {H0 H : Hp} {L : List (Addr × HO)} {p : Addr} (R : Rn d W C n H0 H L) (hp : H p = none) (o : HO) : Rn d W C n H0 (upd H p o) ((p, o) :: L) := by
  obtain ⟨n1, n2, n3⟩ := R.dr.new_d hp
  refine ⟨R.dr.same (same_upd hp), R.sd.trans (Sd.new hp), fun q hq => ?_⟩
  rcases List.mem_cons.mp hq with rfl | hq
  · rw [Hid.at_ n1 n2, upd_same]
  · exact (Sd.new (o := o) hp : Sd d W H (upd H p o)) _ _ (R.ob q hq)
@[elab_as_elim] theorem alloc {d W C : Addr} {n : Nat} {H0 H : Hp} {L : List (Addr × HO)} {p : Addr} {o : HO} {motive : Hp → Prop} (hp : H p = none) (R : Rn d W C n H0 H L)
    (h : ∀ H', Rn d W C n H0 H' ((p, o) :: L) → motive H') : motive (upd H p o) := h _ (R.made hp o)
theorem Rn.call {d W C : Addr} {n m : Nat} {H0 H H' : Hp} {L : List (Addr × HO)} (R : Rn d W C n H0 H L) (D : Drw H' d W C m) (s : Sd d W H H') : Rn d W C m H0 H' L :=
  ⟨D, R.sd.trans s, fun q hq => s _ _ (R.ob q hq)⟩
theorem Rn.at_ {d W C : Addr} {n : Nat} {H0 H : Hp} {L : List (Addr × HO)} (R : Rn d W C n H0 H L) {q : Addr × HO} (h : q ∈ L) : Hid d W H q.1 = some q.2 := R.ob q h
theorem Rn.get {d W C : Addr} {n : Nat} {H0 H : Hp} {L : List (Addr × HO)} (R : Rn d W C n H0 H L) {p : Addr} {o : HO} (h : (p, o) ∈ L) : H p = some o := Hid.sub d W H _ _ (R.ob (p, o) h)
/-- data as a list of the heap, item by item -/
theorem DtL.at_ {H : Hp} : ∀ {ds : List PyData} {xs : List V} {i : Nat} {x : V}, DtL H ds xs → xs[i]? = some x → ∃ dd, ds[i]? = some dd ∧ Dt H dd x
  | [], xs, i, x, h, e => by
    simp only [DtL] at h
    subst h
    simp at e
  | d :: ds, xs, i, x, h, e => by
    simp only [DtL] at h
    obtain ⟨y, r, rfl, h1, h2⟩ := h
    cases i with
    | zero =>
      have e' : y = x := Option.some.inj e
      subst e'
      exact ⟨d, rfl, h1⟩
    | succ i =>
      obtain ⟨dd, e1, e2⟩ := DtL.at_ (ds := ds) (i := i) h2 (show r[i]? = some x from e)
      exact ⟨dd, e1, e2⟩
/-- the values of _law_odd -/
def oddD : List PyData := [.none, .bool true, .bool false, .int (-1), .int (-7), .int (10 ^ 40), .str "", .str "a", .str "z", .str "ba", .str "aa", .str "R", .tuple [], .tuple [.int 0], .tuple [.str "a", .str "b"], .list [], .list [.int 1], .dict [], .int 0, .int 7,
  .list [.list []], .tuple [.bool true], .tuple [.int 0, .none], .str "1", .tuple [.str ""], .int (-(10 ^ 20)), .tuple [.int 1, .int 1], .str "abcdr", .str "abr ", .dict [(.str "a", .int 1)]]
end Mw
namespace Mw
open PySem PySem.Spec PyProof.Rows L2
theorem le_line {n : Nat} (h : n ≤ 1000) : n ≤ sizeLine := Nat.le_of_lt (small1000 h)
end Mw
namespace Mw
open PySem PySem.Spec PyProof.Rows L2
theorem Rn.hid {d W C : Addr} {n : Nat} {H0 H : Hp} {L : List (Addr × HO)} (R : Rn d W C n H0 H L) {p : Addr} {o : HO} (h : (p, o) ∈ L) : Hid d W H p = some o := R.ob (p, o) h
theorem ex_ref {G : Hp} {a : Addr} {β : Type} {f : β → HO} {x : β} {Pr : β → Prop} (h : G a = some (f x)) (hp : Pr x) : ∃ b y, V.ref a = V.ref b ∧ G b = some (f y) ∧ Pr y := ⟨a, x, rfl, h, hp⟩
theorem ex_cons {x : V} {r : List V} {A : V → Prop} {B : List V → Prop} (h1 : A x) (h2 : B r) : ∃ y t, x :: r = y :: t ∧ A y ∧ B t := ⟨x, r, rfl, h1, h2⟩
theorem ex_pair {y : Key} {x : V} {t : List (Key × V)} {A : Key → Prop} {B : V → Prop} {D : List (Key × V) → Prop} (h1 : A y) (h2 : B x) (h3 : D t) : ∃ y' x' t', (y, x) :: t = (y', x') :: t' ∧ A y' ∧ B x' ∧ D t' := ⟨y, x, t, rfl, h1, h2, h3⟩
end Mw
namespace Mw
open PySem PySem.Spec PyProof.Rows L2
theorem grow_ints {H : Hp} {W : Addr} {acc : List Int} {i : Nat} {z : Int} (la : acc.length ≤ i) : ∃ acc' : List Int, acc'.length ≤ i + 1 ∧ upd H W (.lst (acc.map V.int ++ [V.int z])) W = some (.lst (acc'.map V.int)) := by
  refine ⟨acc ++ [z], by rw [List.length_append]; exact Nat.add_le_add_right la 1, ?_⟩
  rw [upd_same, List.map_append]
  rfl
end Mw
set_option Elab.async false
set_option linter.all false
set_option maxRecDepth 100000
set_option maxHeartbeats 1000000
namespace PySem
namespace MwK
open PySem.W PySem.Calls PyProof.Rows PySem.HandSPX
section
variable {M : Model} {A : Around} {E : Value → Shared → Prop} {h : Heap} {g : Array GenState} {d : Drawn} {t : Nat} {os : OsState}
variable {nm q : Str} {C N : Addr} {bs bm bmB : List Value} {hdct : Bool} {sn : List Str} {sub : List Value} {ab : Bool} {col : Option Bool} {dd : Option Addr} {k0 k1 k2 k3 k5 : Option Value} {B newId initId : String}
theorem check_newK (F : ExcBaseFacts B newId initId bmB) (hT : ∀ X : String, bm.contains (.type X) = bmB.contains (.type X)) {kn : Str} {kv : Value} {Q : Unit → Shared → Prop}
    (hC : h.get? C = some (excClassObj nm q C N bs bm hdct sn sub ab col dd k0 k1 k2 k3 k5 newId)) (hq : Q () ⟨h, g, d, t, os⟩) :
    wpAny M A (checkBuiltinCall newId ⟨[.ref C], [(kn, kv)]⟩) Q E ⟨h, g, d, t, os⟩ := by
  have c1 : (Value.ref C :: bm).contains (.type B) = true := by rw [List.contains_cons, hT, F.hasB, Bool.or_true]
  have c2 := F.noStar
  simp only [checkBuiltinCall, F.newKind, F.newSplit, F.newRow]
  repeat (first | refine wpAny_loadPart_at hC ?_ | (refine wpAny_isSubtype_exc hC ?_; rw [c1]) | refine wpAny_staticBase_exc hC ?_ | refine wpAny_madeBy_exc hC ?_ | simp only [bne_self_eq_false, Bool.false_eq_true, if_false] | wp_step)
  exact hq
theorem check_callK {kn : Str} {kv : Value} {Q : Unit → Shared → Prop} (hC : h.get? C = some (excClassObj nm q C N bs bm hdct sn sub ab col dd k0 k1 k2 k3 k5 newId))
    (hq : Q () ⟨h, g, d, t, os⟩) : wpAny M A (checkBuiltinCall "type.__call__" ⟨[.ref C], [(kn, kv)]⟩) Q E ⟨h, g, d, t, os⟩ := by
  have f3 := tc_sub
  have ty : (⟨h, g, d, t, os⟩ : Shared).TypeIs (.ref C) "type" := ⟨_, hC, rfl⟩
  simp only [checkBuiltinCall, tc_kind, tc_split]
  repeat (any_goals (first | assumption | with_reducible refine wpAny_loadPart_at hC ?_ | with_reducible refine wpAny_onRaise ?_ | with_reducible refine wpAny_map ?_ | wp_step))
end
section
variable {prog : Program} {w : World} {A : Around} {E : Value → Shared → Prop} {R : Result → Shared → Prop} {h : Heap} {g : Array GenState} {d : Drawn} {t : Nat} {os : OsState}
variable {nm q : Str} {C N : Addr} {bs bm bmB : List Value} {hdct : Bool} {sn : List Str} {sub : List Value} {ab : Bool} {col : Option Bool} {dd : Option Addr} {k0 k1 k2 k3 k5 : Option Value} {B newId initId : String}
theorem newK (F : ExcBaseFacts B newId initId bmB) (hT : ∀ X : String, bm.contains (.type X) = bmB.contains (.type X)) {kn : Str} {kv : Value}
    (hC : h.get? C = some (excClassObj nm q C N bs bm hdct sn sub ab col dd k0 k1 k2 k3 k5 newId))
    (hq : R (.ok (.ret (.ref (h.objs.size + 1)))) ⟨(h.push (W.kdv_tup [])).push (excO C h.objs.size), g, d, t, os⟩) :
    codeAny (model prog w) A (.builtin newId ⟨[.ref C], [(kn, kv)]⟩) R ⟨h, g, d, t, os⟩ := by
  have c0 := F.ends
  have c1 : (Value.ref C :: bm).contains (.type B) = true := by rw [List.contains_cons, hT, F.hasB, Bool.or_true]
  have c2 : (Value.ref C :: bm).contains (.type "AttributeError") = false := by rw [List.contains_cons, hT, F.noAttr]; rfl
  have c3 : (Value.ref C :: bm).contains (.type "NameError") = false := by rw [List.contains_cons, hT, F.noName]; rfl
  refine codeAny_builtinAt F.entry ?_
  unfold Builtin.«BaseException.__new__»
  refine wpAt_bind ?_
  show wpAt _ _ _ (stack >>= _) _ _ _
  refine wpAt_bind (wpAt_stack fun p below => wpAt_of_wpAny ?_)
  wp_walk
  refine wpAt_of_wpAny ?_
  rw [F.owner]
  repeat (first | with_reducible refine wpAny_madeHere_exc F.canon hC ?_ | with_reducible refine wpAny_loadPart_at hC ?_ | (with_reducible refine wpAny_isSubtype_exc hC ?_; first | rw [c1] | rw [c2] | rw [c3]) | wp_step)
  show R _ _
  rw [Heap.size_push]
  exact hq
theorem type_callK (F : ExcBaseFacts B newId initId bmB) (hT : ∀ X : String, bm.contains (.type X) = bmB.contains (.type X)) {kn : Str} {kv : Value} {fI : Addr} {Q : Fin → Shared → Prop}
    (hC : h.get? C = some (excClassObj nm q C N bs bm hdct sn sub ab col dd k0 k1 k2 k3 k5 newId))
    (hi : W.Looks (model prog w) h (typeLookup (.ref C) "__init__") (some (.ref fI))) (hb : ∀ self, W.Looks (model prog w) h (bindSpecial (.ref fI) self) (.ref fI, [self]))
    (hq : codeAny (model prog w) A (.call (.ref fI) ⟨[.ref (h.objs.size + 1)], [(kn, kv)]⟩)
      (fun r s' => match r with | .ok (.ret v) => v = .none ∧ Q (.done (.ret (.ref (h.objs.size + 1)))) s' | .ok _ => False | .error e => E e s')
      ⟨(h.push (W.kdv_tup [])).push (excO C h.objs.size), g, d, t, os⟩) :
    wpAny (model prog w) A (Builtin.«type.__call__» ⟨[.ref C], [(kn, kv)]⟩) Q E ⟨h, g, d, t, os⟩ := by
  repeat (first | with_reducible refine wpAny_loadPart_at hC ?_ | with_reducible refine wpAny_madeBy_exc hC ?_ | wp_step)
  refine codeAny_call_builtin_code (Code.quiet_builtin _ F.quiet) (check_newK F hT hC ?_)
  refine newK F hT hC ?_
  show wpAny _ _ _ _ _ _
  have k : ∀ b o, h.get? b = some o → ((h.push (W.kdv_tup [])).push (excO C h.objs.size)).get? b = some o := fun b o e => Heap.get?_push_of_some _ (Heap.get?_push_of_some _ e)
  have hC1 := k _ _ hC
  have hx : ((h.push (W.kdv_tup [])).push (excO C h.objs.size)).get? (h.objs.size + 1) = some (excO C h.objs.size) := by heap_get
  have cc : (Value.ref C :: bm).contains (.ref C) = true := by simp
  have i1 := hi.keeps k
  have b1 := (hb (.ref (h.objs.size + 1))).keeps k
  unfold isInstance
  repeat (first | with_reducible refine wpAny_loadPart_at hx ?_ | (with_reducible refine wpAny_isSubtype_exc hC1 ?_; rw [cc]) | wp_step)
  show wpAny _ _ (typeLookup (.ref C) _) _ _ _
  refine i1.at ?_
  refine wpAny_holding (wpAny_bind (b1.at ?_))
  refine wpAny_bind (wpAny_call (codeAny_mono hq fun r s' z => ?_))
  rcases r with e | (v | _ | _ | _) <;> first | exact z | exact z.elim | skip
  obtain ⟨rfl, z⟩ := z
  first
    | exact wpAny_pure (wpAny_pure z)
    | (wp_walk; exact z)
theorem callK (F : ExcBaseFacts B newId initId bmB) (hT : ∀ X : String, bm.contains (.type X) = bmB.contains (.type X)) {kn : Str} {kv : Value} {fI : Addr}
    (hC : h.get? C = some (excClassObj nm q C N bs bm hdct sn sub ab col dd k0 k1 k2 k3 k5 newId))
    (hi : W.Looks (model prog w) h (typeLookup (.ref C) "__init__") (some (.ref fI))) (hb : ∀ self, W.Looks (model prog w) h (bindSpecial (.ref fI) self) (.ref fI, [self]))
    (hq : codeAny (model prog w) (A.under (.builtin "type.__call__" ⟨[.ref C], [(kn, kv)]⟩)) (.call (.ref fI) ⟨[.ref (h.objs.size + 1)], [(kn, kv)]⟩) (W.InitBack (h.objs.size + 1) R)
      ⟨(h.push (W.kdv_tup [])).push (excO C h.objs.size), g, d, t, os⟩) :
    codeAny (model prog w) A (.call (.ref C) ⟨[], [(kn, kv)]⟩) R ⟨h, g, d, t, os⟩ := by
  have f1 := tc_lookup
  have f2 := tc_bind (.ref C)
  have ty : (⟨h, g, d, t, os⟩ : Shared).TypeIs (.ref C) "type" := ⟨_, hC, rfl⟩
  refine codeAny_of_tree ?_
  show wpAny _ _ (callAny (.ref C) _) _ _ _
  repeat (any_goals (first | assumption | with_reducible refine wpAny_loadPart_at hC ?_ | wp_step))
  refine ⟨rfl, ?_⟩
  refine codeAny_call_builtin_at (Code.quiet_builtin _ (by decide +kernel)) entry_typeCall (check_callK hC (type_callK F hT hC hi hb ?_))
  refine codeAny_mono hq fun r s' z => ?_
  rcases r with e | (v | _ | _ | _) <;> exact z
end
end MwK
end PySem
set_option Elab.async false
set_option linter.all false
set_option maxRecDepth 100000
set_option maxHeartbeats 1000000
/-! own error classes over ValueError, by steps, with an __init__ of one field; their instances as values -/
namespace Mw
open PySem PySem.Spec PyProof.Rows L2
/-- what the written part must say of such a class -/
def oexB (K : PySem.W.Frag) (C : Addr) : Bool :=
  (match K.lookup C with
    | some ⟨.type "type", _, .cls cl, ks⟩ => (match cl.mro, ks.toList with
      | .ref C0 :: bm, [_, _, _, _, some (.builtin nw), _] => decide (C0 = C) && (decide (nw = "ValueError.__new__") && (!cl.hasDel && (cl.hasDict && PySem.HandSPX.refsVE bm)))
      | _, _ => false)
    | _ => false) &&
  (He.eqO (PySem.W.findIn K (.ref C) "__setattr__") (some (some (.builtin "object.__setattr__"))) &&
  (decide (PySem.W.subIn K (.ref C) (.type "BaseException") = some true) && (decide (PySem.W.typeIn K (.ref C) = some (.type "type")) && PySem.W.keepIn K (.ref C))))
theorem oexB_ok {K : PySem.W.Frag} {C : Addr} (h : oexB K C = true) : OexC K C := by
  obtain ⟨h1, h⟩ := He.ba h
  obtain ⟨h2, h⟩ := He.ba h
  obtain ⟨h3, h⟩ := He.ba h
  obtain ⟨h4, h5⟩ := He.ba h
  refine ⟨?_, He.eqO_ok h2, of_decide_eq_true h3, of_decide_eq_true h4, h5⟩
  split at h1
  · rename_i dd cl ks ho
    split at h1
    · rename_i C0 bm k0 k1 k2 k3 nw k5 hm hs
      obtain ⟨a1, h1⟩ := He.ba h1
      obtain ⟨a2, h1⟩ := He.ba h1
      obtain ⟨a3, h1⟩ := He.ba h1
      obtain ⟨a4, a5⟩ := He.ba h1
      obtain rfl := of_decide_eq_true a1
      obtain rfl := of_decide_eq_true a2
      obtain ⟨nm, bs, mro, ns, qn, hd, sn, sub, ab, col, del⟩ := cl
      dsimp only at hm a3 a4
      subst hm a4
      have a3' : del = false := by simpa using a3
      subst a3'
      have hsl : ks = #[k0, k1, k2, k3, some (.builtin "ValueError.__new__"), k5] := by
        obtain ⟨l⟩ := ks
        simp only at hs
        rw [hs]
      subst hsl
      exact ⟨nm, qn, ns, bs, bm, sn, sub, ab, col, dd, k0, k1, k2, k3, k5, ho, a5⟩
    · cases h1
  · cases h1
/-- what isinstance and a field's read ask of the class -/
structure IsC (K : PySem.W.Frag) (C : Addr) : Prop where
  cl : (PySem.W.clsIn K C).isSome = true
  ga : PySem.W.findIn K (.ref C) "__getattribute__" = some (some (.builtin "BaseException.__getattribute__"))
  gg : PySem.W.findIn K (.ref C) "__getattr__" = some none
  ex : PySem.W.subIn K (.ref C) (.type "BaseException") = some true
  ca : PySem.W.findIn K (.ref C) "__class__" = some (some (.builtin "object.__class__"))
  sp : PySem.W.specialIn K (.builtin "object.__class__") "__get__" = some (some (.builtin "getset_descriptor.__get__"))
  tk : PySem.W.takesIn K (.builtin "object.__class__") = some true
  mr : PySem.W.mroIn K C (.type "object") = some true
  hd : PySem.W.hasDictIn K C = true
def isB (K : PySem.W.Frag) (C : Addr) : Bool := (PySem.W.clsIn K C).isSome && (He.eqO (PySem.W.findIn K (.ref C) "__getattribute__") (some (some (.builtin "BaseException.__getattribute__"))) && (He.eqO (PySem.W.findIn K (.ref C) "__getattr__") (some none) &&
  (decide (PySem.W.subIn K (.ref C) (.type "BaseException") = some true) && (He.eqO (PySem.W.findIn K (.ref C) "__class__") (some (some (.builtin "object.__class__"))) &&
  (He.eqO (PySem.W.specialIn K (.builtin "object.__class__") "__get__") (some (some (.builtin "getset_descriptor.__get__"))) && (decide (PySem.W.takesIn K (.builtin "object.__class__") = some true) &&
  (decide (PySem.W.mroIn K C (.type "object") = some true) && PySem.W.hasDictIn K C)))))))
theorem isB_ok {K : PySem.W.Frag} {C : Addr} (h : isB K C = true) : IsC K C := by
  obtain ⟨h1, h⟩ := He.ba h
  obtain ⟨h2, h⟩ := He.ba h
  obtain ⟨h3, h⟩ := He.ba h
  obtain ⟨h4, h⟩ := He.ba h
  obtain ⟨h5, h⟩ := He.ba h
  obtain ⟨h6, h⟩ := He.ba h
  obtain ⟨h7, h⟩ := He.ba h
  obtain ⟨h8, h9⟩ := He.ba h
  exact ⟨h1, He.eqO_ok h2, He.eqO_ok h3, of_decide_eq_true h4, He.eqO_ok h5, He.eqO_ok h6, of_decide_eq_true h7, of_decide_eq_true h8, h9⟩
/-- C's __init__ is the def at fI; no class of it has the name f -/
structure InC (K : PySem.W.Frag) (C fI : Addr) (f : Str) : Prop where
  ini : PySem.W.findIn K (.ref C) "__init__" = some (some (.ref fI))
  tI : PySem.W.typeIn K (.ref fI) = some (.type "function")
  no : PySem.W.findIn K (.ref C) f = some none
def inB (K : PySem.W.Frag) (C : Addr) (f : Str) : Bool := He.eqO (PySem.W.findIn K (.ref C) "__init__") (some (some (.ref (He.ma K C "__init__")))) &&
  (decide (PySem.W.typeIn K (.ref (He.ma K C "__init__")) = some (.type "function")) && He.eqO (PySem.W.findIn K (.ref C) f) (some none))
theorem inB_ok {K : PySem.W.Frag} {C : Addr} {f : Str} (h : inB K C f = true) : InC K C (He.ma K C "__init__") f := by
  obtain ⟨h1, h⟩ := He.ba h
  obtain ⟨h2, h3⟩ := He.ba h
  exact ⟨He.eqO_ok h1, of_decide_eq_true h2, He.eqO_ok h3⟩
/-- M.__init__ read off the class M is ValueError's -/
structure BaC (K : PySem.W.Frag) (M : Addr) : Prop where
  sp : PySem.W.specialIn K (.ref M) "__getattribute__" = some (some (.builtin "type.__getattribute__"))
  rd : PySem.W.readsIn K M (.type "type") = true
  fi : PySem.W.findCls K (.ref M) (.type "type") "__init__" = some (.val (.builtin "ValueError.__init__"))

def baB (K : PySem.W.Frag) (M : Addr) : Bool := He.eqO (PySem.W.specialIn K (.ref M) "__getattribute__") (some (some (.builtin "type.__getattribute__"))) && (PySem.W.readsIn K M (.type "type") &&
  (match PySem.W.findCls K (.ref M) (.type "type") "__init__" with
    | some (.val (.builtin nm)) => decide (nm = "ValueError.__init__")
    | _ => false))
theorem baB_ok {K : PySem.W.Frag} {M : Addr} (h : baB K M = true) : BaC K M := by
  obtain ⟨h1, h⟩ := He.ba h
  obtain ⟨h2, h3⟩ := He.ba h
  refine ⟨He.eqO_ok h1, h2, ?_⟩
  split at h3
  · rename_i nm e
    rw [e, of_decide_eq_true h3]
  · cases h3
/-- an instance of the class C: as it was made by C's own __init__, or without one -/
inductive IsE (H : Hp) (a C : Addr) : Prop where
  | own (dx : Addr) (fs : List (Str × V)) (h : H a = some (exo a C (some dx))) (hd : H dx = some (exd dx fs))
  | bare (h : H a = some (ExO (.ref C) a))
theorem IsE.same {H H' : Hp} {a C : Addr} (s : Same H H') : IsE H a C → IsE H' a C
  | .own dx fs h hd => .own dx fs (s _ _ h) (s _ _ hd)
  | .bare h => .bare (s _ _ h)
section
variable {X : Cx} {pins : List (Addr × Obj)} {σ : L2.St} {H : Hp} {s : Shared}
/-- where such an instance stands -/
theorem IsE.inst (I : Inv X pins σ H s) {a C : Addr} (h : IsE H a C) : ∃ (ox : Obj) (od : Option Obj), PySem.W.InstAt s.heap a ox C od := by
  cases h with
  | own dx fs h hd =>
    obtain ⟨t1, ho⟩ := exo_at I.hok h
    obtain ⟨mA, hns, _⟩ := exd_at I.hok hd
    obtain ⟨o, es, ep, e1, e2, _⟩ := hns
    exact ⟨_, some o, ho, rfl, rfl, e1⟩
  | bare h =>
    obtain ⟨⟨oe, vs, ho, hz, hd, _⟩, _, _⟩ := I.hok a _ h
    obtain ⟨oc, od, oda, osl⟩ := oe
    obtain ⟨h1, h2⟩ := hz
    dsimp only at h1 h2 hd
    subst h1 h2 hd
    exact ⟨_, none, ho, rfl, rfl, trivial⟩
/-- isinstance(e, c), e such an instance -/
def rIsiE (K : PySem.W.Frag) : List V → Hp → VK → Prop := fun xs H Q => ∃ (a C : Addr) (c : V) (u : Value) (b : Bool), xs = [.ref a, c] ∧ IsE H a C ∧ IsC K C ∧ ClsV c u ∧ PySem.W.kitOne K (.ref C) u = some b ∧ Q (.bl b) H
theorem call_isiE : CallR X (.builtin "isinstance") (rIsiE X.K) := by
  intro pins s σ H xs us Q I r h
  obtain ⟨a, C, c, u, b, rfl, hi, T, k, e, q⟩ := h
  obtain ⟨u1, u2, rfl, r1, r2⟩ := vals2 r
  have e2 := k.eq r2
  subst e2
  cases (show u1 = Value.ref a from r1)
  obtain ⟨ox, od, J⟩ := hi.inst I
  exact PySem.W.kia_one (PySem.W.kitx_exc T.cl T.ga T.gg T.ex T.ca T.sp T.tk T.mr) I.kIn J e (fun z => nomatch z) fun tk => ⟨.bl b, H, I.tok tk, rfl, q⟩
end
/-- M.__init__(self, ..), M an own base class without an __init__ -/
def tOwnI (K : PySem.W.Frag) (ta : TA) : TE := fun σ H Q => ta σ H fun vs H1 => ∃ (a C : Addr) (ws : List V), vs = .ref a :: ws ∧ ws.length ≤ 1000 ∧ OexC K C ∧ H1 a = some (exo a C none) ∧ Q .non H1
/-- x.f -/
def tFld (K : PySem.W.Frag) (f : Str) (te : TE) : TE := fun σ H Q => te σ H fun x H1 => ∃ (a C dx : Addr) (fs : List (Str × V)) (v : V), x = .ref a ∧ H1 a = some (exo a C (some dx)) ∧ H1 dx = some (exd dx fs) ∧ fs.lookup f = some v ∧ IsC K C ∧
  PySem.W.findIn K (.ref C) f = some none ∧ Q v H1
def tMkV1 (C : Addr) (sp : Sp) (te : TE) : TE := fun σ H Q => te σ H fun v H1 => ∀ a, H1 a = none → sp [.ref a, v] (upd H1 a (exo a C none)) (fun v H2 => v = .non ∧ Q (.ref a) H2) (fun _ _ _ => False)
def tMkV (C : Addr) (sp : Sp) (ta : TA) : TE := fun σ H Q => ta σ H fun vs H1 => vs.length ≤ 1000 ∧ ∀ a, H1 a = none → sp (.ref a :: vs) (upd H1 a (exo a C none)) (fun v H2 => v = .non ∧ Q (.ref a) H2) (fun _ _ _ => False)
section
variable {X : Cx} {CX : CXT} {o e : Expr} {es : List Expr} {to te : TE} {ta tk : TA} {f x kn : Str} {p p' p1 p2 pos kpos : Pos} {M C fI : Addr} {k : Nat} {fd : FuncData} {ps : List Str} {sp : Sp}
theorem pe_owninit {pl : Sem Bool} (hg : Gl X x) (hm : X.mg x = some (.ref M)) (T : BaC X.K M) (ha : PA X (e :: es) ta) (hdb : (x == ("__debug__" : Str)) = false := by decide)
    (hc : eval (.Call (.Attribute (.Name x p1) "__init__" p2) (e :: es) [] pos) X.env = (do
      let ov ← eval (.Name x p1) X.env
      standAt p2.atName
      let (f, first) ← holding [ov] (getMethod ov "__init__" pl)
      callWith pos f first (backTo pos (starEach (e :: es) X.env)) (backToKw pos (keywordEach [] X.env))) := by rfl)
    (he : starEach (e :: es) X.env = (false, eval e X.env) :: starEach es X.env := by rfl) (hpl : (backTo pos (starEach es X.env)).any (·.1) = false := by rfl) :
    PE X (.Call (.Attribute (.Name x p1) "__init__" p2) (e :: es) [] pos) (tOwnI X.K ta) := by
  refine ⟨fun pins s σ H Q I h => ?_⟩
  refine PySem.W.methodCall_KW (ld_glob I hg hm ?_ hdb) hc
  refine PySem.W.method_cls I.kIn T.sp (PySem.W.cls_value I.kIn T.rd T.fi (by decide +kernel) ?_)
  show wpAny _ _ (callWith pos (Value.builtin "ValueError.__init__") [] (backTo pos (starEach (e :: es) X.env)) []) _ _ _
  refine PyProof.Rows.callWith_method1 (thn (ha.run pos pins _ σ H _ (I.tok _) h) fun us s1 ⟨vs, H1, I1, r1, a, C, ws, ev, hl, T, ea, q⟩ => ?_) he hpl
  subst ev
  cases r1 with
  | @cons _ u0 _ ur ra rw' =>
    obtain rfl : u0 = Value.ref a := ra
    have hlen : ur.length ≤ sizeLine := by
      rw [← Paired.length rw', sizeLine_eq]
      omega
    exact oinit_ok T I1 ea hlen fun s' J => ⟨.non, H1, J, rfl, q⟩
theorem pe_fld (he : PE X e te) (hb : attributeBase e f X.env (eval e X.env) = eval e X.env := by rfl) : PE X (.Attribute e f pos) (tFld X.K f te) := by
  refine ⟨fun pins s σ H Q I h => ?_⟩
  refine attr_of hb (thn (he.run pins s σ H _ I h) fun u s1 hh => ?_)
  obtain ⟨x, H1, I1, rx, a, C, dx, fs, v, ex, ea, ed, l, T, hno, q⟩ := hh
  subst ex
  obtain rfl : u = Value.ref a := rx
  obtain ⟨t1, ho⟩ := exo_at I1.hok ea
  obtain ⟨mA, hns, hr⟩ := exd_at I1.hok ed
  obtain ⟨od, hod, hl⟩ := lookIn_ns hns
  obtain ⟨u, hu, ru⟩ := RelO.some_of (v := v) (o := mA f) (by rw [← l]; exact hr f)
  exact HandSPX.exc_get I1.kIn ⟨ho, rfl, rfl, hod⟩ T.ga T.gg T.ex (PySem.W.findObj_own T.hd hno rfl (by rw [hl, hu])) (handed_of ru) ⟨v, H1, I1.tok _, ru, q⟩
/-- what is common to the two ways to make an instance -/
theorem mkv_end {R : Result → Shared → Prop} {pins : List (Addr × Obj)} {σ : L2.St} {H1 : Hp} {s s' : Shared} {a : Addr} {Q : VK} {r : Result} (hx : Passes CX X (fun _ _ _ => False)) (I2 : Inv X pins σ H1 s)
    (hq' : CR CX X.stack X.prog X.w H1 s (fun v H2 => v = .non ∧ Q (.ref a) H2) (fun _ _ _ => False) r s')
    (hR : ∀ s', EP X pins σ Q (.ref a) s' → R (.ok (.ret (.ref a))) s') (hE : ∀ e s', X.xe e s' → R (.error e) s') : PySem.W.InitBack a R r s' := by
  cases r with
  | error er => exact hE _ _ (hx pins σ _ _ er s' I2 hq')
  | ok fl =>
    cases fl with
    | ret u =>
      obtain ⟨v, H', I3, rv, ev, q3⟩ := I2.after hq'
      subst ev
      exact ⟨rv, hR _ ⟨V.ref a, H', I3, rfl, q3⟩⟩
    | next => exact False.elim hq'
    | brk => exact False.elim hq'
    | cont => exact False.elim hq'
theorem pe_mkv (T : OexC X.K C) (iC : PySem.W.findIn X.K (.ref C) "__init__" = some (some (.ref fI))) (tI : PySem.W.typeIn X.K (.ref fI) = some (.type "function"))
    (F1 : FnOk X.prog X.w X.K X.mg X.base CX k fI fd ps sp) (hr : Room (k + 1) X.A) (hb : Binds X.K fd ps []) (hx : Passes CX X (fun _ _ _ => False)) (hg : Gl X x) (hm : X.mg x = some (.ref C)) (ha : PA X (e :: es) ta)
    (hdb : (x == ("__debug__" : Str)) = false := by decide) (he : starEach (e :: es) X.env = (false, eval e X.env) :: starEach es X.env := by rfl) (hpl : (backTo pos (starEach es X.env)).any (·.1) = false := by rfl) :
    PE X (.Call (.Name x p) (e :: es) [] pos) (tMkV C sp ta) := by
  refine ⟨fun pins s σ H Q I h => ?_⟩
  obtain ⟨nm, q, N, bs, bm, sn, sub, ab, col, dd, k0, k1, k2, k3, k5, hC, hbm⟩ := T.cls
  refine wpAny_Call_Name_kw (ld_glob I hg hm ?_ hdb)
  refine PySem.W.callWith_K (h₀ := X.base) I.ok.mod.kin T.kC (thn (ha.run pos pins s σ H _ I h) fun us s1 ⟨vs, H1, I1, r1, hz, q1⟩ => ⟨I1.kIn, ?_⟩) he hpl
  show wpAny _ _ (call (.ref C) us) _ _ _
  obtain ⟨hp, g, dr, tk, os⟩ := s1
  have hsz : hp.objs.size ≤ hp.objs.size + 1 := Nat.le_succ _
  have hn : H1 (hp.objs.size + 1) = none := I1.hok.fresh hsz
  have hq := q1 (hp.objs.size + 1) hn
  have kk : ∀ b o, hp.get? b = some o → ((hp.push (PySem.W.kdv_tup us)).push (PySem.HandSPX.excO C hp.objs.size)).get? b = some o := fun b o e => Heap.get?_push_of_some _ (Heap.get?_push_of_some _ e)
  have hget : ((hp.push (PySem.W.kdv_tup us)).push (PySem.HandSPX.excO C hp.objs.size)).get? (hp.objs.size + 1) = some (PySem.HandSPX.excO C hp.objs.size) := by heap_get
  have I2 : Inv X pins σ (upd H1 (hp.objs.size + 1) (exo (hp.objs.size + 1) C none)) ⟨(hp.push (PySem.W.kdv_tup us)).push (PySem.HandSPX.excO C hp.objs.size), g, dr, tk, os⟩ :=
    I1.laid (t' := tk) (a := hp.objs.size + 1) (o := exo (hp.objs.size + 1) C none) (h' := (hp.push (PySem.W.kdv_tup us)).push (PySem.HandSPX.excO C hp.objs.size)) kk hsz (exo_ok hget)
  have r2 : Vals (V.ref (hp.objs.size + 1) :: vs) (Value.ref (hp.objs.size + 1) :: us) := .cons rfl r1
  have hl : (Value.ref (hp.objs.size + 1) :: us ++ []).length = ps.length := by
    have e := r2.length
    rw [F1.len _ _ _ _ hq] at e
    rw [List.append_nil]
    exact e.symm
  have hus : us.length ≤ sizeLine := by
    rw [← Paired.length r1, sizeLine_eq]
    omega
  have hb2 := hb ⟨(hp.push (PySem.W.kdv_tup us)).push (PySem.HandSPX.excO C hp.objs.size), g, dr, tk, os⟩ (Value.ref (hp.objs.size + 1) :: us) I2.kIn hl
  rw [List.append_nil] at hb2
  refine wpAny_call (PySem.HandSPX.call_own F.excBase_ValueError (fun Y => PySem.HandSPX.refsVE_contains Y bm hbm) (I1.kIn _ _ hC) (PySem.W.looks_findIn I1.kIn iC) (fun self => PySem.W.bind_fn I1.kIn self tI) hus
    (codeAny_mono (F1.run _ X.stack _ _ ⟨Value.ref (hp.objs.size + 1) :: us, []⟩ (Value.ref (hp.objs.size + 1) :: us) _ _ (fun _ _ _ => False) (hr.make C us []) (I2.env0.make C us []) hb2 r2 hq) fun r s' hq' => ?_))
  exact mkv_end hx I2 hq' (fun _ z => z) (fun _ _ z => z)
theorem pe_mkvK (T : OexC X.K C) (iC : PySem.W.findIn X.K (.ref C) "__init__" = some (some (.ref fI))) (tI : PySem.W.typeIn X.K (.ref fI) = some (.type "function"))
    (F1 : FnOk X.prog X.w X.K X.mg X.base CX k fI fd ps sp) (hr : Room (k + 1) X.A) (hb : ∀ (s : Shared) (a w : Value), X.K.In s.heap → BindsTo s fd ⟨[a], [(kn, w)]⟩ (ps.zip [a, w])) (hx : Passes CX X (fun _ _ _ => False)) (hg : Gl X x) (hm : X.mg x = some (.ref C))
    (he : PE X e te) (hdb : (x == ("__debug__" : Str)) = false := by decide) (hall : (backToKw pos (keywordEach [⟨some kn, e, kpos⟩] X.env)).all (·.1.isSome) = true := by rfl) (hks : (backToKw pos (keywordEach [⟨some kn, e, kpos⟩] X.env)).filterMap (·.1) = [kn] := by rfl)
    (hpl : ((backTo pos (starEach [] X.env)).any (·.1) || (backToKw pos (keywordEach [⟨some kn, e, kpos⟩] X.env)).any (·.1.isNone)) = false := by rfl) :
    PE X (.Call (.Name x p) [] [⟨some kn, e, kpos⟩] pos) (tMkV1 C sp te) := by
  refine ⟨fun pins s σ H Q I h => ?_⟩
  obtain ⟨nm, q, N, bs, bm, sn, sub, ab, col, dd, k0, k1, k2, k3, k5, hC, hbm⟩ := T.cls
  refine wpAny_Call_Name_kw (ld_glob I hg hm ?_ hdb)
  have hkw : PK X [⟨some kn, e, kpos⟩] (tCons te tNil) := pk_cons he pk_nil
  have h' : tCons te tNil σ H (fun vs H1 => match vs with | [y] => ∀ a, H1 a = none → sp [.ref a, y] (upd H1 a (exo a C none)) (fun v H2 => v = .non ∧ Q (.ref a) H2) (fun _ _ _ => False) | _ => False) := h
  refine PySem.W.callWith_KW0 (h₀ := X.base) I.ok.mod.kin T.kC hall (thn (hkw.run pos pins s σ H _ I h') fun us s1 ⟨vs, H1, I1, r1, q1⟩ => ⟨I1.kIn, ?_⟩) hpl
  rw [hks]
  match vs, r1, q1 with | [y], r1, q1 => ?_
  obtain ⟨u, rfl, ru⟩ := vals1 r1
  obtain ⟨hp, g, dr, tk, os⟩ := s1
  have hsz : hp.objs.size ≤ hp.objs.size + 1 := Nat.le_succ _
  have hn : H1 (hp.objs.size + 1) = none := I1.hok.fresh hsz
  have hq := q1 (hp.objs.size + 1) hn
  have kk : ∀ b o, hp.get? b = some o → ((hp.push (PySem.W.kdv_tup [])).push (PySem.HandSPX.excO C hp.objs.size)).get? b = some o := fun b o e => Heap.get?_push_of_some _ (Heap.get?_push_of_some _ e)
  have hget : ((hp.push (PySem.W.kdv_tup [])).push (PySem.HandSPX.excO C hp.objs.size)).get? (hp.objs.size + 1) = some (PySem.HandSPX.excO C hp.objs.size) := by heap_get
  have I2 : Inv X pins σ (upd H1 (hp.objs.size + 1) (exo (hp.objs.size + 1) C none)) ⟨(hp.push (PySem.W.kdv_tup [])).push (PySem.HandSPX.excO C hp.objs.size), g, dr, tk, os⟩ :=
    I1.laid (t' := tk) (a := hp.objs.size + 1) (o := exo (hp.objs.size + 1) C none) (h' := (hp.push (PySem.W.kdv_tup [])).push (PySem.HandSPX.excO C hp.objs.size)) kk hsz (exo_ok hget)
  have r2 : Vals [V.ref (hp.objs.size + 1), y] [Value.ref (hp.objs.size + 1), u] := .cons rfl (.cons ru .nil)
  refine wpAny_call (PySem.MwK.callK F.excBase_ValueError (fun Y => PySem.HandSPX.refsVE_contains Y bm hbm) (I1.kIn _ _ hC) (PySem.W.looks_findIn I1.kIn iC) (fun self => PySem.W.bind_fn I1.kIn self tI)
    (codeAny_mono (F1.run _ X.stack _ _ ⟨[Value.ref (hp.objs.size + 1)], [(kn, u)]⟩ [Value.ref (hp.objs.size + 1), u] _ _ (fun _ _ _ => False) (hr.make C [] [(kn, u)]) (I2.env0.make C [] [(kn, u)]) (hb _ _ _ I2.kIn) r2 hq) fun r s' hq' => ?_))
  exact mkv_end hx I2 hq' (fun _ z => z) (fun _ _ z => z)
end
end Mw
set_option Elab.async false
set_option linter.all false
set_option maxRecDepth 100000
set_option maxHeartbeats 2000000
/-! defs that are only called where no repr is under way -/
namespace Mw
open PySem PySem.Spec PyProof.Rows L2
/-- such a def's promise -/
structure FnG (Pr : Program) (w : World) (K : PySem.W.Frag) (mg : Str → Option Value) (base : Heap) (CX : CXT) (k : Nat) (f : Addr) (fd : FuncData) (ps : List Str) (sp : Sp) : Prop where
  size : ∀ {vs H Q E}, sp vs H Q E → vs.length = ps.length
  runs : ∀ {A outer st H args us vs Q E}, Room k A → A.guards = some [] → Env0 Pr w K mg base A outer st H → BindsTo st fd args (ps.zip us) → Vals vs us → sp vs H Q E →
    codeAny (model Pr w) A (.call (.ref f) args) (CR CX outer Pr w H st Q E) st
theorem FnG.of {Pr : Program} {w : World} {K : PySem.W.Frag} {mg : Str → Option Value} {base : Heap} {CX : CXT} {k : Nat} {f : Addr} {fd : FuncData} {ps : List Str} {sp : Sp} (F : FnOk Pr w K mg base CX k f fd ps sp) : FnG Pr w K mg base CX k f fd ps sp :=
  ⟨fun h => F.len _ _ _ _ h, fun r _ e b v h => F.run _ _ _ _ _ _ _ _ _ r e b v h⟩
theorem guards_deeper {A : Around} {qual : Str} {sc : Scope} {n f : Addr} {cd : Value} (h : A.guards = some []) : (A.deeper (envOfC qual sc n f cd)).guards = some [] := by
  first
    | exact h
    | simp [Around.deeper, h]
section
variable {Pr : Program} {w : World} {K : PySem.W.Frag} {mg : Str → Option Value} {base : Heap} {x qual : Str} {params : Arguments} {body : List Stmt} {scope : Scope} {dvs : List V} {kws : List (Str × V)} {f : Addr} {fd : FuncData}
theorem fnG_ofC {CX : CXT} {N ps : List Str} {k : Nat} {sp : Sp} {cdv : Value} (F : ∃ (oc : Value) (od : Option Addr) (dV kV doc pm : Value) (an : Option Addr) (ct : Value) (osl : Array (Option Value)),
      fd = PySem.W.fnOf x qual params body scope dV kV doc pm an cdv ct ∧ K.lookup f = some ⟨oc, od, .func fd, osl⟩ ∧ PySem.W.codeIn K cdv qual = true) (S : FnScope N ps scope) (size : ∀ {vs H Q E}, sp vs H Q E → vs.length = ps.length)
    (hb : ∀ (A : Around) (outer : List Env) (st : Shared) (H : Hp) (vs : List V) (Q : VK) (E : XK), Room k (A.deeper (envOfC qual scope st.heap.objs.size f cdv)) → (A.deeper (envOfC qual scope st.heap.objs.size f cdv)).guards = some [] → sp vs H Q E →
      ∃ t, PSs (cxOf CX Pr w K mg base N qual scope f cdv A outer st H E) body t ∧ t { nx := fun _ H' => Q .non H', rt := Q } (start N vs) H) : FnG Pr w K mg base CX (k + 1) f fd ps sp := by
  obtain ⟨oc, od, dV, kV, doc, pm, an, ct, osl, rfl, lk, hcd⟩ := F
  refine ⟨size, fun {A outer st H args us vs Q E} room hg en bd rel spec => ?_⟩
  have len := size spec
  have keep : ∀ (b : Addr) (o : Obj), base.get? b = some o → st.heap.get? b = some o := fun b o e => (en.bs b o e).1
  have hK := en.mod.kin.keeps keep
  have kinds : ∀ y ∈ ps.zip us, scope.names.lookup y.1 = some .local ∨ (scope.names.lookup y.1 = some .cell ∧ ((cellsFrom (st.heap.objs.size + 1) scope.names []).lookup y.1).isSome = true) := by
    rintro ⟨nm, vl⟩ hy
    rcases S.par nm (List.of_mem_zip hy).1 with q | q
    · exact Or.inl q
    · exact Or.inr ⟨q, PySem.W.cellsFrom_some _ _ _ (Or.inl q)⟩
  refine codeAny_call_function room.depth (hK _ _ lk) rfl S.co S.gen rfl (PySem.W.codeRec_of hK hcd) (bd _ _ _ _ ?_)
  refine wpAny_newFunctionEnv_cells S.kind kinds fun en1 e1 s1 z => ?_
  cases e1
  refine ⟨(en.mod.nolimit.keeps keep).keeps z.toInCall.keep, codeAny_func ?_⟩
  obtain ⟨t, ht, hq⟩ := hb A outer st H vs Q E (room.deeper _) (guards_deeper hg) spec
  have J : Inv (cxOf CX Pr w K mg base N qual scope f cdv A outer st H E) [] (start N vs) H s1 := inv_start S room.hd en len rel z
  refine wpAny_mono (ht.run [] s1 (start N vs) H _ J hq) (fun fl s2 hs => ?_) fun _ _ hs => hs
  have fin : ∀ {σ2 : L2.St} {H2 : Hp} {v : V} {u : Value}, Inv (cxOf CX Pr w K mg base N qual scope f cdv A outer st H E) [] σ2 H2 s2 → RelV v u → Q v H2 → CE outer Pr w H st Q u s2 := by
    intro σ2 H2 v u j rv q
    exact ⟨v, H2, j.os, j.bare, j.base, j.hok, rv, q⟩
  match fl, hs with
  | .ret u, ⟨v, σ2, H2, j, rv, q⟩ => exact fin j rv q
  | .next, ⟨σ2, H2, j, q⟩ => exact fin (v := V.non) (u := Value.none) j rfl q
  | .brk, ⟨_, _, _, q⟩ => exact q.elim
  | .cont, ⟨_, _, _, q⟩ => exact q.elim
theorem fnG_of {CX : CXT} {N ps : List Str} {k : Nat} {sp : Sp} (F : FunD K x qual params body scope dvs kws f fd) (S : FnScope N ps scope) (size : ∀ {vs H Q E}, sp vs H Q E → vs.length = ps.length)
    (hb : ∀ (cdv : Value) (A : Around) (outer : List Env) (st : Shared) (H : Hp) (vs : List V) (Q : VK) (E : XK), Room k (A.deeper (envOfC qual scope st.heap.objs.size f cdv)) → (A.deeper (envOfC qual scope st.heap.objs.size f cdv)).guards = some [] → sp vs H Q E →
      ∃ t, PSs (cxOf CX Pr w K mg base N qual scope f cdv A outer st H E) body t ∧ t { nx := fun _ H' => Q .non H', rt := Q } (start N vs) H) : FnG Pr w K mg base CX (k + 1) f fd ps sp := by
  obtain ⟨oc, od, dV, kV, doc, pm, an, cdv, ct, osl, e, lk, hcd, _, _⟩ := F.ex
  exact fnG_ofC ⟨oc, od, dV, kV, doc, pm, an, ct, osl, e, lk, hcd⟩ S size (hb cdv)
end
/-- a call of such a def from a body -/
theorem pe_callG {X : Cx} {CX : CXT} {k : Nat} {f : Addr} {fd : FuncData} {ps : List Str} {sp : Sp} {dvs : List V} {ds : List Value} {E : XK} {x : Str} {p pos : Pos} {e : Expr} {es : List Expr} {t : TA} (F : FnG X.prog X.w X.K X.mg X.base CX k f fd ps sp) (room : Room k X.A) (hgd : X.A.guards = some [])
    (hg : Gl X x) (hm : X.mg x = some (.ref f)) (hk : PySem.W.keepIn X.K (.ref f) = true) (hb : Binds X.K fd ps ds) (hd : Vals dvs ds) (hx : Passes CX X E)
    (ha : PA X (e :: es) t) (hdb : (x == ("__debug__" : Str)) = false := by decide) (he : starEach (e :: es) X.env = (false, eval e X.env) :: starEach es X.env := by rfl) (hpl : (backTo pos (starEach es X.env)).any (·.1) = false := by rfl) :
    PE X (.Call (.Name x p) (e :: es) [] pos) (tCall sp dvs E t) := by
  refine ⟨fun pins s σ H Q I h => wpAny_Call_Name_kw (ld_glob I hg hm ?_ hdb)⟩
  refine PySem.W.callWith_K (h₀ := X.base) I.ok.mod.kin hk (thn (ha.run pos pins s σ H _ I h) fun us s1 ⟨vs, H1, J, r, q⟩ => ⟨J.kIn, ?_⟩) he hpl
  have rr : Vals (vs ++ dvs) (us ++ ds) := r.append hd
  refine wpAny_call (codeAny_mono (F.runs room hgd J.env0 (hb s1 us J.kIn (rr.length.symm.trans (F.size q))) rr q) fun rs s2 hq => ?_)
  match rs, hq with
  | .error er, hq => exact hx pins σ H1 s1 er s2 J hq
  | .ok (.ret u), hq => exact J.after hq
  | .ok .next, hq => exact hq.elim
  | .ok .brk, hq => exact hq.elim
  | .ok .cont, hq => exact hq.elim
end Mw
namespace Mw
open PySem PySem.Spec PyProof.Rows L2
/-- the law's list as data that stands: nothing else is tracked -/
def scr (K : PySem.W.Frag) (a : Addr) (o : Obj) (ns : List Int) : Hp := fun b => if b = a ∧ (K.lookup a).isNone = true then some (.frz o (.lst (ns.map V.int))) else none
theorem scr_out {K : PySem.W.Frag} {a b : Addr} {o : Obj} {ns : List Int} (h : ¬ (b = a ∧ (K.lookup a).isNone = true)) : scr K a o ns b = none := if_neg h
theorem scr_in {K : PySem.W.Frag} {a : Addr} {o : Obj} {ns : List Int} (h : (K.lookup a).isNone = true) : scr K a o ns a = some (.frz o (.lst (ns.map V.int))) := if_pos ⟨rfl, h⟩
theorem scr_some {K : PySem.W.Frag} {a b : Addr} {o : Obj} {ns : List Int} {u : HO} (h : scr K a o ns b = some u) : b = a ∧ (K.lookup a).isNone = true ∧ u = .frz o (.lst (ns.map V.int)) := by
  by_cases c : b = a ∧ (K.lookup a).isNone = true
  · obtain ⟨rfl, c2⟩ := c
    rw [scr_in c2] at h
    exact ⟨rfl, c2, (Option.some.inj h).symm⟩
  · rw [scr_out c] at h
    cases h
/-- the law's def, called with the list, from outside: no repr is under way -/
theorem walk_ofG {l : PySem.W.OpenLaw} {n k : Nat} {q : Program} {loose : List Str} {XP : (Str → Option Value) → Heap → Prop} {YP : World → Heap → Prop} {d : DefRec} {CX : CXT} {x : Str}
    (most : l.most = some n) (small : n ≤ sizeLine) (nodef : d.params.defaults = []) (room : Room k callerA)
    (F : ∀ (w : World) (mg : Str → Option Value) (f : Addr) (h : Heap), YP w h → h.Ns mainGlobals mg → mg d.name = some (.ref f) →
      ∃ (K : PySem.W.Frag) (fd : FuncData) (sp : Sp), K.In h ∧ (∀ (s : Shared) (u : Value), BindsTo s fd ⟨[u], []⟩ [(x, u)]) ∧
        (∀ (H : Hp) (a : Addr) (ns : List Int), ns.length ≤ n → SqL K H a (ns.map V.int) → sp [.ref a] H (fun v _ => v = .bl true) fun _ _ _ => False) ∧
        ∀ base : Heap, K.In base → base.Ns mainGlobals mg → FnG l.prog w K mg base CX k f fd [x] sp)
    (noexc : ∀ (H : Hp) (s : Shared) (e : Value) (s' : Shared), CX [] H s (fun _ _ _ => False) e s' → False) :
    PySem.W.WalkO q loose XP YP l.row.toRowW d [] (fun f vs => PySem.call f vs) := by
  refine Att.attach_call most nodef fun w st0 st mg mb f of pm cd doc a vs ns G Y hf hdf hcode hmgd hobj hints hlen hgens => ?_
  obtain ⟨K, fd, sp, hK, binds, spec, hF⟩ := F w mg f _ Y G.T.g hmgd
  have rel := vals_ints hints
  have lens := hints.length
  have lz : ns.length ≤ sizeLine := Nat.le_trans hlen small
  generalize hH : scr K a { cls := .type "list", data := .seq vs.toArray } ns = H
  have out : ∀ {b : Addr} {u : HO}, H b = some u → b = a ∧ (K.lookup a).isNone = true ∧ u = .frz { cls := .type "list", data := .seq vs.toArray } (.lst (ns.map V.int)) := fun {b u} e => scr_some (by rw [hH]; exact e)
  have seq : SqL K H a (ns.map V.int) := by
    cases hk : K.lookup a with
    | none =>
      exact Or.inl (Or.inr ⟨_, by rw [← hH]; exact scr_in (by rw [hk]; rfl)⟩)
    | some o =>
      have e := hobj.symm.trans (hK a o hk)
      have e2 := Option.some.inj e
      subst e2
      exact Or.inr ⟨_, vs.toArray, _, hk, rfl, rfl, rfl, by rw [List.size_toArray, lens]; exact lz, by simpa using rel⟩
  have hok : HOk l.prog w H st.heap := fun b u e => by
    obtain ⟨rfl, _, rfl⟩ := out e
    exact ⟨hobj, by rw [List.length_map]; exact lz, vs, _, rel, hobj⟩
  have hid : ∀ {b : Addr} {o : Obj}, st.heap.get? b = some o → H b = none → (hidT st.heap H).get? b = some o := fun e z => hidT_get e z
  have plain : ∀ {b : Addr} {o : Obj} {es : Array DictEntry} {ep : Nat}, st.heap.get? b = some o → o.data = .dict es ep → H b = none := by
    intro b o es ep e z
    cases hb : H b with
    | none => rfl
    | some u =>
      obtain ⟨rfl, _, _⟩ := out hb
      cases Option.some.inj (hobj.symm.trans e)
      cases z
  have spaces : ∀ {b : Addr} {m : Str → Option Value}, st.heap.Ns b m → (hidT st.heap H).Ns b m := by
    rintro b m ⟨o, es, ep, e, z, r⟩
    exact ⟨o, es, ep, hid e (plain e z), z, r⟩
  have hKb : K.In (hidT st.heap H) := fun b o e => hid (hK b o e) (by
    cases hb : H b with
    | none => rfl
    | some u =>
      obtain ⟨rfl, z, _⟩ := out hb
      rw [e] at z
      cases z)
  have lim : (hidT st.heap H).NoLimit := by
    obtain ⟨mc, z1, z2⟩ := G.T.nolimit
    exact ⟨mc, spaces z1, z2⟩
  have en : Env0 l.prog w K mg (hidT st.heap H) callerA [] st H := {
    frames := rfl
    mod := ⟨hKb, spaces G.T.g, ⟨mb, spaces G.T.b, G.T.builtins⟩, lim⟩
    bs := fun b o e => of_hidT e
    bsz := Nat.le_of_eq (hidT_size _ _)
    funs := trivial
    frf := fun b hb => (List.not_mem_nil hb).elim
    hok := hok
    bare := .of_eq hgens }
  refine codeAny_mono ((hF _ hKb (spaces G.T.g)).runs (args := ⟨[.ref a], []⟩) (us := [.ref a]) (vs := [.ref a]) room rfl en (binds st (.ref a)) (.cons rfl .nil) (spec H a ns hlen seq)) fun r s' h => ?_
  match r, h with
  | .error e, h => exact (noexc H st e s' h).elim
  | .ok .next, h => exact h.elim
  | .ok .brk, h => exact h.elim
  | .ok .cont, h => exact h.elim
  | .ok (.ret u), ⟨v, H', e1, e2, un, ok2, rv, ev⟩ =>
    obtain rfl : v = .bl true := ev
    obtain rfl : u = Value.bool true := rv
    refine ⟨rfl, OldK.of_keep fun b o e => ?_, e1, e2⟩
    cases hb : H b with
    | none => exact un.keep b o e hb (fun z => (List.not_mem_nil z).elim) (List.not_mem_nil)
    | some u =>
      obtain ⟨rfl, _, rfl⟩ := out hb
      have z := un.frzs _ _ _ hb
      obtain ⟨y, _⟩ := ok2 _ _ z
      rw [← e, hobj]
      exact y
end Mw
set_option Elab.async false
set_option linter.all false
set_option maxRecDepth 100000
set_option maxHeartbeats 2000000
/-! try: .. except C as n: .. where what was caught is kept in another name -/
namespace Mw
open PySem PySem.Spec PyProof.Rows L2
/-- an exception that was caught: its class, its dict -/
def XcO (cls : Value) (d : Option Addr) (a : Addr) : HO := .ext fun h => ∃ (oe : Obj) (vs : Array Value), h.get? a = some oe ∧ Zc cls d oe ∧ oe.data = .fields vs
section
variable {X : Cx} {pins : List (Addr × Obj)} {σ : L2.St} {H : Hp} {s : Shared} {a : Addr} {cls : Value} {d : Option Addr}
/-- an object that came up since the entry is tracked from now on -/
theorem adopt {oe : Obj} {vs : Array Value} (I : Inv X pins σ H s) (e : s.heap.get? a = some oe) (z : Zc cls d oe) (f : oe.data = .fields vs) (n : H a = none) (n0 : X.s_0.heap.get? a = none) (nL : a ≠ X.env.locals) (np : ∀ p ∈ X.pn ++ pins, p.1 ≠ a) :
    Inv X pins σ (upd H a (XcO cls d a)) s := by
  have out : ∀ {b : Addr} {o : Obj}, X.s_0.heap.get? b = some o → b ≠ a := fun {b o} q y => by
    rw [y, n0] at q
    cases q
  have ne : ∀ {b : Addr} {u : HO}, H b = some u → b ≠ a := fun q => ne_of_none q n
  refine ⟨I.ok, I.os, I.bare, ?_, I.loc, I.cell, ?_, ?_, ?_, ?_, I.len⟩
  · exact {
      keep := I.base.keep
      slot := I.base.slot
      free := fun b o q m y => (upd_ne (out q)).trans (I.base.free b o q m y)
      there := I.base.there
      tups := fun b xs q => (upd_ne (ne (I.base.tups b xs q))).trans (I.base.tups b xs q)
      frzs := fun b o u q => (upd_ne (ne (I.base.frzs b o u q))).trans (I.base.frzs b o u q)
      tbls := fun b ps q => by
        obtain ⟨more, y⟩ := I.base.tbls b ps q
        exact ⟨more, (upd_ne (ne y)).trans y⟩ }
  · exact (upd_ne nL.symm).trans I.free
  · intro x c q
    refine (upd_ne fun y => ?_).trans (I.freeC x c q)
    obtain ⟨v, o, ho, hd⟩ := I.cell x c q
    rw [y, e] at ho
    cases Option.some.inj ho
    rw [f] at hd
    cases hd
  · intro p hp
    obtain ⟨h1, h2, h3⟩ := I.pin p hp
    exact ⟨h1, (upd_ne (np p hp)).trans h2, h3⟩
  · intro b u q
    by_cases hb : b = a
    · subst hb
      rw [upd_same] at q
      cases q
      exact ⟨⟨oe, vs, e, z, f⟩, ⟨oe, e⟩, fun h1 h2 ⟨o, w, y, r⟩ k => ⟨o, w, k o y, r⟩⟩
    · rw [upd_ne hb] at q
      exact (I.hok b u q).stay (fun c v _ y => y) (fun c y => (upd_ne (ne y)).trans y) (fun c xs y => (upd_ne (ne y)).trans y)
/-- what the clause wishes: behind its suite the caught one is tracked -/
def wKeep (K : PySem.W.Frag) (c : Value) (i : Nat) (ts : Addr → Value → Option Addr → TS) (Wout : WX) (D : Ends) : WX := fun cls d σ H =>
  ∃ b, PySem.W.exmOne K cls c = some b ∧ (b = true → ∀ a, H a = none → ts a cls d ⟨fun σ' H' => H' a = none → D.nx (σ'.set i none) (upd H' a (XcO cls d a)), D.rt, fun σ' H' => H' a = none → D.bk (σ'.set i none) (upd H' a (XcO cls d a)), fun σ' H' => H' a = none → D.ct (σ'.set i none) (upd H' a (XcO cls d a))⟩ (σ.set i (some (.ref a))) H) ∧
    (b = false → Wout cls d σ H)
end
section
variable {X : Cx} {x n : Str} {c : Value} {i : Nat} {body suite : List Stmt} {st0 : Stmt} {np pos ppos : Pos} {tb : WX → TS} {ts : Addr → Value → Option Addr → TS} {Wout : WX}
theorem ps_try_keep (hs : X.stack = X.env :: X.outer) (hf : X.env.frame = some X.env.locals) (hx : X.ex = []) (hN : X.N.Nodup) (hi : X.N[i]? = some n) (hln : X.env.kindOf n = some .local) (hc : Names X x c) (tk : Takes X Wout)
    (hb : ∀ (W : WX) (pn : List (Addr × Obj)) (xe : Value → Shared → Prop), Takes (X.tr pn xe) W → PassesOwn (model X.prog X.w) X.A X.env xe → PSs (X.tr pn xe) body (tb W))
    (hsu : ∀ (a : Addr) (oe : Obj) (cls : Value) (d : Option Addr) (pn : List (Addr × Obj)), Zc cls d oe → (∃ vs, oe.data = .fields vs) → PSs (X.suite a ((a, oe) :: pn)) (st0 :: suite) (ts a cls d)) :
    PS X (.Try body [.ExceptHandler (some (.Name x np)) (some n) (st0 :: suite) ppos] [] [] pos) (fun D σ H => tb (wKeep X.K c i ts Wout D) D σ H) := by
  refine ⟨fun pins s σ H D I h => wpAny_Try_except ?_⟩
  have frames : X.A.frames = some (X.env :: X.outer) := I.ok.frames.trans (by rw [hs])
  let xh : Value → Shared → Prop := fun e s₁ => wpAny (model X.prog X.w) X.A (noteFrame e X.env) (fun _ s₂ => wpAny (model X.prog X.w) X.A (setFlight e none) (fun _ s₃ =>
    wpAny (model X.prog X.w) X.A (handleBy e X.env [.ExceptHandler (some (.Name x np)) (some n) (st0 :: suite) ppos]) (SP X pins D) X.xe s₃) X.xe s₂) X.xe s₁
  have caught : Takes (X.tr (X.pn ++ pins) xh) (wKeep X.K c i ts Wout D) := by
    rintro u s1 ⟨a, G, sI, pins1, σ1, H1, cls, d, rfl, J0, inG, upto, sky0, na, os1, bare1, b, mt, yes, no⟩
    have J := J0.ofTry I.ok
    have sky : Sky G (X.env :: X.outer) a (Zc cls d) X.env.locals s1.heap := by
      rw [← hs]
      exact sky0
    show wpAny _ X.A (noteFrame (.ref a) X.env) _ _ _
    refine Sky.land Zc.steady frames hf sky fun h3 fl up => ?_
    have J3 : Inv X pins σ1 H1 { s1 with heap := h3 } := J.landed inG fl.1 (upto.trans up) os1 bare1
    obtain ⟨oe3, vs3, he3, hz3, hd3⟩ := fl.there
    have notFrame : a ∉ frs (X.env :: X.outer) := fun hm => by
      obtain ⟨_, o, y, hnf⟩ := fl.2.2.1.mem hm
      rw [he3] at y
      cases Option.some.inj y
      exact hnf _ hd3
    have nL : a ≠ X.env.locals := fun y => notFrame (List.mem_filterMap.mpr ⟨X.env, List.mem_cons_self, by rw [hf, y]⟩)
    have nF : a ∉ X.fs := fun hm => by
      obtain ⟨e, he, y⟩ := List.mem_filterMap.mp hm
      exact notFrame (List.mem_filterMap.mpr ⟨e, List.mem_cons_of_mem _ he, y⟩)
    have gone : sI.heap.get? a = none := by
      cases e : sI.heap.get? a with
      | none => rfl
      | some o =>
        have y := inG a o e (by rw [hs]; exact notFrame)
        rw [fl.2.1] at y
        cases y
    have n0 : X.s_0.heap.get? a = none := by
      cases e : X.s_0.heap.get? a with
      | none => rfl
      | some o =>
        obtain ⟨o', y⟩ := J.base.there a o e (by rw [hx]; exact fun z => nomatch z)
        rw [gone] at y
        cases y
    have np' : ∀ p ∈ X.pn ++ pins, p.1 ≠ a := fun p hp y => by
      have z := (J.pin p hp).1
      rw [y, gone] at z
      cases z
    have S3 := J3.suite he3 hd3 na nL nF
    refine wpAny_handleBy_cons (codeAny_handlers_test ?_) (by intro y; cases y)
    have ty : PySem.W.Looks (model X.prog X.w) h3 (typeOf (.ref a)) cls := fun A Q E s k y => wpAny_typeOf_ref (k _ _ he3) (by rw [hz3.1]; exact y)
    have nm : ∀ {Q : Value → Shared → Prop} {E : Value → Shared → Prop}, Q c { s1 with heap := h3 } → wpAny (model X.prog X.w) (X.A.mark (some (.ref a))) (eval (.Name x np) X.env) Q E { s1 with heap := h3 } := by
      intro Q E y
      rcases hc with ⟨hg, hdb, hm | ⟨hm, hv, hn⟩⟩
      · exact ld_glob (X := X.suite a ((a, oe3) :: (X.pn ++ pins))) S3 hg hm y hdb
      · exact ld_blt (X := X.suite a ((a, oe3) :: (X.pn ++ pins))) S3 hg hm hv y hn hdb
    refine nm ((PySem.W.exm_one J3.kIn ty mt).here ?_)
    match b, yes, no with
    | true, yes, _ =>
      refine codeAny_handlers_suite_as (HandSPX.lands_againZ fl fun h4 fl4 up4 => ?_)
      have J4 : Inv X pins σ1 H1 { s1 with heap := h4 } := J.landed inG fl4.1 ((upto.trans up).trans up4) os1 bare1
      obtain ⟨oe4, vs4, he4, hz4, hd4⟩ := fl4.there
      refine store_ok (X := X.suite a ((a, oe4) :: (X.pn ++ pins))) (v := .ref a) (J4.suite he4 hd4 na nL nF) hN hi (.inl hln) rfl (fun s5 S5 => ?_) (.inr hln)
      refine wpAny_mono ((hsu a oe4 cls d (X.pn ++ pins) hz4 ⟨_, hd4⟩).run [] s5 _ H1 _ S5 (yes rfl a na)) (fun f s6 y => ?_) (fun _ _ y => y.elim)
      have kept : ∀ {σ6 : L2.St} {H6 : Hp} {Q : Shared → Prop}, Inv (X.suite a ((a, oe4) :: (X.pn ++ pins))) [] σ6 H6 s6 → (H6 a = none → ∀ s7, Inv X pins (σ6.set i none) (upd H6 a (XcO cls d a)) s7 → Q s7) →
          wpAny (model X.prog X.w) X.A (do bindName X.env n .none; unbindBehindTheSuite X.env n ppos) (fun _ s7 => Q s7) X.xe s6 := by
        intro σ6 H6 Q S6 hq
        obtain ⟨g, m, _⟩ := S6.pin (a, oe4) (List.mem_append_left _ List.mem_cons_self)
        exact gone_ok (adopt (S6.unsuite I.ok) g hz4 hd4 m n0 nL np') hN hi hln (hq m)
      match f, y with
      | .next, ⟨σ6, H6, S6, q6⟩ => exact kept S6 fun m s7 J7 => ⟨_, _, J7, q6 m⟩
      | .brk, ⟨σ6, H6, S6, q6⟩ => exact kept S6 fun m s7 J7 => ⟨_, _, J7, q6 m⟩
      | .cont, ⟨σ6, H6, S6, q6⟩ => exact kept S6 fun m s7 J7 => ⟨_, _, J7, q6 m⟩
      | .ret u, ⟨v6, σ6, H6, S6, r6, q6⟩ => exact gone_ok (S6.unsuite I.ok) hN hi hln fun s7 J7 => ⟨_, _, _, J7, r6, q6⟩
    | false, _, no =>
      show wpAny _ X.A (handleBy (.ref a) X.env []) _ _ _
      refine wpAny_handleBy_nil ?_
      obtain ⟨k1, k2, k3, oe, vs, T, oT, ts', he, hz, hd, h1, hr⟩ := id fl
      unfold PySem.passOn
      refine wpAny_bind (wpAny_field he hd h1 ?_)
      rw [if_neg (show ¬ ((Value.ref T == Value.none) = true) by simp)]
      have on : wpAny (model X.prog X.w) X.A (setFlight (.ref a) X.env.frame) (fun _ s4 => wpAny (model X.prog X.w) X.A (throw (.ref a) : Sem Flow) (SP X pins D) X.xe s4) X.xe { s1 with heap := h3 } := by
        rw [hf]
        refine HandSPX.setFlight_upZ fl fun h4 hh4 up4 => wpAny_throw (tk _ _ ?_)
        exact ⟨a, G, sI, pins, σ1, H1, cls, d, rfl, J, inG, (upto.trans up).trans up4, .inr (.inr (by rw [hs]; exact hh4)), na, os1, bare1, no rfl⟩
      first
        | exact wpAny_bind (wpAny_pure (wpAny_bind on))
        | exact wpAny_bind on
  refine wpAny_mono ((hb (wKeep X.K c i ts Wout D) (X.pn ++ pins) xh caught PassesOwn.looking).run [] s σ H D (I.toTry _) h) (fun f s1 y => ?_) (fun e s1 y => y)
  match f, y with
  | .next, ⟨σ1, H1, J1, q⟩ => exact wpAny_execs_nil ⟨σ1, H1, J1.ofTry I.ok, q⟩
  | .brk, ⟨σ1, H1, J1, q⟩ => exact ⟨σ1, H1, J1.ofTry I.ok, q⟩
  | .cont, ⟨σ1, H1, J1, q⟩ => exact ⟨σ1, H1, J1.ofTry I.ok, q⟩
  | .ret u, ⟨v, σ1, H1, J1, r, q⟩ => exact ⟨v, σ1, H1, J1.ofTry I.ok, r, q⟩
end
end Mw
set_option Elab.async false
set_option linter.all false
set_option maxRecDepth 100000
set_option maxHeartbeats 2000000
/-! the head and the end of a law some of whose defs make lambdas -/
namespace Mw
open PySem PySem.Spec PyProof.Rows L2 LamX
/-- what the head tells: facts, defs, the tables of the defs in tf (empty, not in K) -/
structure SaysMT (fa : List Fct) (fn : List He.DefD) (tf : List He.Defn) (h : Heap) (K : PySem.W.Frag) : Prop where
  m : SaysM fa fn K
  hd : ∀ p ∈ tf, PySem.W.codeHdIn K (He.cT K p).1 (He.cT K p).2 = true
  out : ∀ p ∈ tf, K.lookup (He.cT K p).2 = none
  empty : ∀ p ∈ tf, h.get? (He.cT K p).2 = some { cls := .none, data := .fields #[] }
def obsMT (n : Nat) (fa : List Fct) (fn : List He.DefD) (tf : List He.Defn) (g : Addr → Option Obj) : He.AlD × Bool := (obsM fa fn (He.frT g (asM n g)), He.tabsB g tf (He.frT g (asM n g)))
theorem saysMT_of {n : Nat} {fa : List Fct} {fn : List He.DefD} {tf : List He.Defn} {h : Heap} (e : obsMT n fa fn tf h.get? = (He.valD fn, true)) : SaysMT fa fn tf h (He.frT h.get? (asM n h.get?)) := by
  generalize hk : He.frT h.get? (asM n h.get?) = K
  unfold obsMT at e
  rw [hk] at e
  have t : He.tabsB h.get? tf K = true := congrArg Prod.snd e
  have each : ∀ p ∈ tf, PySem.W.codeHdIn K (He.cT K p).1 (He.cT K p).2 = true ∧ ∃ o, h.get? (He.cT K p).2 = some o ∧ He.emptyTab o = true := by
    intro p hp
    obtain ⟨t1, t2⟩ := He.ba (List.all_eq_true.mp t p hp)
    refine ⟨t1, ?_⟩
    split at t2
    · rename_i o q
      exact ⟨o, q, t2⟩
    · cases t2
  refine ⟨congrArg Prod.fst e, fun p hp => (each p hp).1, fun p hp => ?_, fun p hp => ?_⟩
  · obtain ⟨_, o, q, z⟩ := each p hp
    rw [← hk] at q ⊢
    exact He.frT_none q z
  · obtain ⟨_, o, q, z⟩ := each p hp
    rw [q, He.emptyTab_eq z]
def hookMT (n : Nat) (fa : List Fct) (fn : List He.DefD) (tf : List He.Defn) : PySem.W.Hook where
  α := He.AlD × Bool
  obs := fun s => obsMT n fa fn tf s.heap.get?
  val := fun _ => (He.valD fn, true)
  says := fun _ h => ∃ K : PySem.W.Frag, K.In h ∧ SaysMT fa fn tf h K
  of := fun _ _ e => ⟨_, He.frT_in, saysMT_of e⟩
  keeps := fun _ _ _ ⟨K, hK, c⟩ k => ⟨K, PySem.W.Frag.In.keeps hK k, c.m, c.hd, c.out, fun p hp => k _ _ (c.empty p hp)⟩
theorem obsMT_eq {n : Nat} {fa : List Fct} {fn : List He.DefD} {tf : List He.Defn} {g : Addr → Option Obj} {s : Shared} (h : ∀ a, g a = s.heap.get? a) : obsMT n fa fn tf g = (hookMT n fa fn tf).obs s := by
  have e : g = s.heap.get? := funext h
  subst e
  rfl
/-- the law's list and the empty tables: nothing else is tracked -/
def scrT (K : PySem.W.Frag) (a : Addr) (o : Obj) (ns : List Int) (ps : List Addr) : Hp := fun b => if b ∈ ps then some (.tbl #[]) else scr K a o ns b
/-- the law's def, called with the list, from outside; its defs' tables of code objects are empty -/
theorem walk_ofGT {l : PySem.W.OpenLaw} {n k : Nat} {q : Program} {loose : List Str} {XP : (Str → Option Value) → Heap → Prop} {YP : World → Heap → Prop} {d : DefRec} {CX : CXT} {x : Str}
    (most : l.most = some n) (small : n ≤ sizeLine) (nodef : d.params.defaults = []) (room : Room k callerA)
    (F : ∀ (w : World) (mg : Str → Option Value) (f : Addr) (h : Heap), YP w h → h.Ns mainGlobals mg → mg d.name = some (.ref f) →
      ∃ (K : PySem.W.Frag) (fd : FuncData) (sp : Sp) (cs : List (Addr × Addr)), K.In h ∧ (∀ p ∈ cs, PySem.W.codeHdIn K p.1 p.2 = true ∧ K.lookup p.2 = none ∧ h.get? p.2 = some { cls := .none, data := .fields #[] }) ∧ (∀ (s : Shared) (u : Value), BindsTo s fd ⟨[u], []⟩ [(x, u)]) ∧
        (∀ (H : Hp) (a : Addr) (ns : List Int), ns.length ≤ n → (∀ z ∈ ns, Builtin.Int.intBits z ≤ 1048576) → (∀ p ∈ cs, H p.2 = some (.tbl #[])) → SqL K H a (ns.map V.int) → sp [.ref a] H (fun v _ => v = .bl true) fun _ _ _ => False) ∧
        ∀ base : Heap, K.In base → base.Ns mainGlobals mg → (∀ p ∈ cs, TabB base mg p.1 p.2) → FnG l.prog w K mg base CX k f fd [x] sp)
    (noexc : ∀ (H : Hp) (s : Shared) (e : Value) (s' : Shared), CX [] H s (fun _ _ _ => False) e s' → False) :
    PySem.W.WalkO q loose XP YP l.row.toRowW d [] (fun f vs => PySem.call f vs) := by
  refine Att.attach_callB most nodef fun w st0 st mg mb f of pm cd doc a vs ns G Y hf hdf hcode hmgd hobj hints hlen hbits hgens => ?_
  obtain ⟨K, fd, sp, cs, hK, hcs, binds, spec, hF⟩ := F w mg f _ Y G.T.g hmgd
  have rel := vals_ints hints
  have lens := hints.length
  have lz : ns.length ≤ sizeLine := Nat.le_trans hlen small
  have tabAt : ∀ b ∈ cs.map (·.2), st.heap.get? b = some { cls := .none, data := .fields #[] } := by
    intro b hb
    obtain ⟨p, hp, rfl⟩ := List.mem_map.mp hb
    exact (hcs p hp).2.2
  have na : a ∉ cs.map (·.2) := fun z => by
    have y := hobj.symm.trans (tabAt a z)
    have y2 : Data.seq vs.toArray 0 = Data.fields #[] := congrArg Obj.data (Option.some.inj y)
    cases y2
  generalize hH : scrT K a { cls := .type "list", data := .seq vs.toArray } ns (cs.map (·.2)) = H
  have Htab : ∀ b ∈ cs.map (·.2), H b = some (.tbl #[]) := fun b hb => by
    rw [← hH]
    exact if_pos hb
  have Hout : ∀ b, b ∉ cs.map (·.2) → H b = scr K a { cls := .type "list", data := .seq vs.toArray } ns b := fun b hb => by
    rw [← hH]
    exact if_neg hb
  have cases3 : ∀ b, H b = none ∨ (b ∈ cs.map (·.2) ∧ H b = some (.tbl #[])) ∨ (b = a ∧ K.lookup a = none ∧ H b = some (.frz { cls := .type "list", data := .seq vs.toArray } (.lst (ns.map V.int)))) := by
    intro b
    by_cases hb : b ∈ cs.map (·.2)
    · exact Or.inr (Or.inl ⟨hb, Htab b hb⟩)
    · cases e : H b with
      | none => exact Or.inl rfl
      | some u =>
        have e2 := e
        rw [Hout b hb] at e2
        obtain ⟨y1, y2, y3⟩ := scr_some e2
        exact Or.inr (Or.inr ⟨y1, Option.isNone_iff_eq_none.mp y2, by rw [y3]⟩)
  have seq : SqL K H a (ns.map V.int) := by
    cases hk : K.lookup a with
    | none => exact Or.inl (Or.inr ⟨_, (Hout a na).trans (scr_in (by rw [hk]; rfl))⟩)
    | some o =>
      have e2 := Option.some.inj (hobj.symm.trans (hK a o hk))
      subst e2
      exact Or.inr ⟨_, vs.toArray, _, hk, rfl, rfl, rfl, by rw [List.size_toArray, lens]; exact lz, by simpa using rel⟩
  have hok : HOk l.prog w H st.heap := by
    intro b u e
    rcases cases3 b with y | ⟨hb, y⟩ | ⟨rfl, _, y⟩
    · rw [y] at e
      cases e
    · cases Option.some.inj (y.symm.trans e)
      exact tabAt b hb
    · cases Option.some.inj (y.symm.trans e)
      exact ⟨hobj, by rw [List.length_map]; exact lz, vs, _, rel, hobj⟩
  have hid : ∀ {b : Addr} {o : Obj}, st.heap.get? b = some o → H b = none → (hidT st.heap H).get? b = some o := fun e z => hidT_get e z
  have plain : ∀ {b : Addr} {o : Obj}, st.heap.get? b = some o → (∀ its m, o.data ≠ .seq its m) → o.data ≠ .fields #[] → H b = none := by
    intro b o e z1 z2
    rcases cases3 b with y | ⟨hb, _⟩ | ⟨rfl, _, _⟩
    · exact y
    · cases Option.some.inj ((tabAt b hb).symm.trans e)
      exact absurd rfl z2
    · cases Option.some.inj (hobj.symm.trans e)
      exact absurd rfl (z1 _ _)
  have spaces : ∀ {b : Addr} {m : Str → Option Value}, st.heap.Ns b m → (hidT st.heap H).Ns b m := by
    rintro b m ⟨o, es, ep, e, z, r⟩
    exact ⟨o, es, ep, hid e (plain e (fun its m y => by rw [z] at y; cases y) fun y => by rw [z] at y; cases y), z, r⟩
  have hKb : K.In (hidT st.heap H) := fun b o e => hid (hK b o e) (by
    rcases cases3 b with y | ⟨hb, _⟩ | ⟨rfl, z, _⟩
    · exact y
    · obtain ⟨p, hp, rfl⟩ := List.mem_map.mp hb
      rw [(hcs p hp).2.1] at e
      cases e
    · rw [e] at z
      cases z)
  have lim : (hidT st.heap H).NoLimit := by
    obtain ⟨mc, z1, z2⟩ := G.T.nolimit
    exact ⟨mc, spaces z1, z2⟩
  have tabs : ∀ p ∈ cs, TabB (hidT st.heap H) mg p.1 p.2 := by
    intro p hp
    have hp2 := (hcs p hp).2.2
    refine ⟨PySem.W.codeHd_of_K hKb (hcs p hp).1, ?_, fun z => ?_⟩
    · obtain ⟨bm, ob, b1, b2, b3, b4, b5, b6⟩ := G.T.bmain
      have n1 : bm ≠ mainGlobals := fun y => by
        obtain ⟨o, es, ep, e, z, _⟩ := G.T.g
        rw [y, e] at b3
        cases b3
        rw [z] at b6
        cases b6
      have n2 : bm ≠ p.2 := fun y => by
        rw [y, hp2] at b3
        cases b3
        cases b6
      exact ⟨bm, ob, b1, b2, n1, n2, hid b3 (plain b3 (fun its m y => by rw [b6] at y; cases y) fun y => by rw [b6] at y; cases y), b4, b5, b6⟩
    · obtain ⟨o, es, ep, e, y, _⟩ := G.T.g
      rw [z, hp2] at e
      cases e
      cases y
  have en : Env0 l.prog w K mg (hidT st.heap H) callerA [] st H := {
    frames := rfl
    mod := ⟨hKb, spaces G.T.g, ⟨mb, spaces G.T.b, G.T.builtins⟩, lim⟩
    bs := fun b o e => of_hidT e
    bsz := Nat.le_of_eq (hidT_size _ _)
    funs := trivial
    frf := fun b hb => (List.not_mem_nil hb).elim
    hok := hok
    bare := .of_eq hgens }
  refine codeAny_mono ((hF _ hKb (spaces G.T.g) tabs).runs (args := ⟨[.ref a], []⟩) (us := [.ref a]) (vs := [.ref a]) room rfl en (binds st (.ref a)) (.cons rfl .nil) (spec H a ns hlen hbits (fun p hp => Htab _ (List.mem_map.mpr ⟨p, hp, rfl⟩)) seq)) fun r s' h => ?_
  match r, h with
  | .error e, h => exact (noexc H st e s' h).elim
  | .ok .next, h => exact h.elim
  | .ok .brk, h => exact h.elim
  | .ok .cont, h => exact h.elim
  | .ok (.ret u), ⟨v, H', e1, e2, un, ok2, rv, ev⟩ =>
    obtain rfl : v = .bl true := ev
    obtain rfl : u = Value.bool true := rv
    have grown : ∀ b ∈ cs.map (·.2), ∃ more : Array Value, s'.heap.get? b = some { cls := .none, data := .fields more } := by
      intro b hb
      obtain ⟨more, z⟩ := un.tbls b #[] (Htab b hb)
      exact ⟨_, ok2 b _ z⟩
    have stays : ∀ b o, b ∉ cs.map (·.2) → st.heap.get? b = some o → s'.heap.get? b = some o := by
      intro b o hb e
      rcases cases3 b with y | ⟨y, _⟩ | ⟨rfl, _, y⟩
      · exact un.keep b o e y (fun z => (List.not_mem_nil z).elim) List.not_mem_nil
      · exact absurd y hb
      · rw [← e, hobj]
        exact (ok2 _ _ (un.frzs _ _ _ y)).1
    refine ⟨rfl, ⟨fun b o e => ?_, fun b o e => ?_⟩, e1, e2⟩
    · by_cases hb : b ∈ cs.map (·.2)
      · obtain ⟨more, hm⟩ := grown b hb
        obtain ⟨p, hp, rfl⟩ := List.mem_map.mp hb
        cases Option.some.inj ((tabAt _ hb).symm.trans e)
        exact Or.inr (Or.inl ⟨((PySem.W.codeHd_of_K hK (hcs p hp).1).tab (tabAt _ hb)).isCodeTable, rfl, #[], more, rfl, by rw [Array.empty_append]; exact hm⟩)
      · exact Or.inl (stays b o hb e)
    · by_cases hb : b ∈ cs.map (·.2)
      · obtain ⟨more, hm⟩ := grown b hb
        exact ⟨_, hm⟩
      · exact ⟨o, stays b o hb e⟩
end Mw
set_option Elab.async false
set_option linter.all false
set_option maxRecDepth 100000
set_option maxHeartbeats 4000000
/-! copies of data, errors made of them -/
namespace Mw
open PySem PySem.Spec PyProof.Rows L2
def flB : PyData → Bool
  | .list _ => false
  | .tuple _ => false
  | .dict _ => false
  | _ => true
/-- data that a copy by steps reaches within n steps -/
def cpB : Nat → PyData → Bool
  | n + 1, .list ds => decide (ds.length ≤ 1000) && ds.all (cpB n)
  | n + 1, .tuple ds => decide (ds.length ≤ 1000) && ds.all (cpB n)
  | n + 1, .dict kvs => decide (kvs.length ≤ 1) && kvs.all fun q => flB q.2
  | 0, .list _ => false
  | 0, .tuple _ => false
  | 0, .dict _ => false
  | _, _ => true
def tyN : PyData → String
  | .none => "NoneType"
  | .bool _ => "bool"
  | .int _ => "int"
  | .str _ => "str"
  | .list _ => "list"
  | .tuple _ => "tuple"
  | .dict _ => "dict"
theorem Dt.ty {K : PySem.W.Frag} {H : Hp} : ∀ {d : PyData} {v : V}, Dt H d v → TyX K H v (.type (tyN d))
  | .none, v, h => by simp only [Dt] at h; subst h; exact .base .non
  | .bool b, v, h => by simp only [Dt] at h; subst h; exact .base (.bl b)
  | .int i, v, h => by simp only [Dt] at h; subst h; exact .base (.int i)
  | .str x, v, h => by simp only [Dt] at h; subst h; exact .base (.str x)
  | .list ds, v, h => by simp only [Dt] at h; obtain ⟨a, xs, rfl, e, _⟩ := h; exact .base (.lst e)
  | .tuple ds, v, h => by simp only [Dt] at h; obtain ⟨a, xs, rfl, e, _⟩ := h; exact .base (.tup e)
  | .dict ds, v, h => by
    simp only [Dt] at h
    obtain ⟨a, rfl, ⟨es, e, _⟩ | ⟨es, e, _⟩⟩ := h
    · exact .base (.dK e)
    · exact .base (.dT e)
theorem DtL.length {H : Hp} : ∀ {ds : List PyData} {xs : List V}, DtL H ds xs → xs.length = ds.length
  | [], xs, h => by simp only [DtL] at h; subst h; rfl
  | d :: ds, xs, h => by
    simp only [DtL] at h
    obtain ⟨x, r, rfl, _, h2⟩ := h
    exact congrArg Nat.succ (DtL.length h2)
theorem DtL.snoc {H : Hp} {d : PyData} {x : V} (hx : Dt H d x) : ∀ {ds : List PyData} {xs : List V}, DtL H ds xs → DtL H (ds ++ [d]) (xs ++ [x])
  | [], xs, h => by
    simp only [DtL] at h
    subst h
    simp only [List.nil_append, DtL]
    exact ⟨x, [], rfl, hx, rfl⟩
  | d0 :: ds, xs, h => by
    simp only [DtL] at h
    obtain ⟨y, r, rfl, h1, h2⟩ := h
    simp only [List.cons_append, DtL]
    exact ⟨y, r ++ [x], rfl, h1, DtL.snoc hx h2⟩
theorem kitq {K : PySem.W.Frag} {a b : String} {r : Bool} (h : kitB a b = some r) : PySem.W.kitOne K (.type a) (.type b) = some r := kit_ty h
/-- what stands in B and not in A -/
def Nw (A B : Hp) : Hp := fun b => match A b with
  | none => B b
  | some _ => none
theorem Nw.at_ {A B : Hp} {b : Addr} (h : A b = none) : Nw A B b = B b := by
  unfold Nw
  rw [h]
theorem Nw.inv {A B : Hp} {b : Addr} {o : HO} (h : Nw A B b = some o) : A b = none ∧ B b = some o := by
  unfold Nw at h
  split at h
  · rename_i e
    exact ⟨e, h⟩
  · cases h
theorem Nw.le {A B : Hp} : Same (Nw A B) B := fun b o h => (Nw.inv h).2
theorem Nw.sub {A B A' B' : Hp} (h : ∀ b o, A b = none → B b = some o → A' b = none ∧ B' b = some o) : Same (Nw A B) (Nw A' B') := fun b o e => by
  obtain ⟨h1, h2⟩ := Nw.inv e
  obtain ⟨h3, h4⟩ := h b o h1 h2
  rw [Nw.at_ h3]
  exact h4
theorem none_of {A B : Hp} {b : Addr} (s : Same A B) (h : B b = none) : A b = none := by
  cases e : A b with
  | none => rfl
  | some o =>
    rw [s b o e] at h
    cases h
def spC : Nat → Sp
  | 0 => fun _ _ _ _ => False
  | n + 1 => fun vs H Q _ => ∃ (v : V) (dd : PyData), vs = [v] ∧ Dt H dd v ∧ cpB n dd = true ∧ ∀ (v' : V) (H' : Hp), Same H H' → Dt (Nw H H') dd v' → Q v' H'
theorem Dt.flat {G H : Hp} {d : PyData} {v : V} (h : Dt H d v) (hc : flB d = true) : Dt G d v := by
  cases d with
  | none => simpa only [Dt] using h
  | bool b => simpa only [Dt] using h
  | int b => simpa only [Dt] using h
  | str b => simpa only [Dt] using h
  | _ => cases hc
theorem cpB_up {n : Nat} {d : PyData} (hc : flB d = true) : cpB n d = true := by
  cases d with
  | list _ => cases hc
  | tuple _ => cases hc
  | dict _ => cases hc
  | _ => cases n <;> rfl
theorem Dt.one {G H : Hp} {d : PyData} {v x : V} (hc : flB d = true) (h : Dt H d v) (h' : Dt G d x) : v = x := by
  cases d with
  | list _ => cases hc
  | tuple _ => cases hc
  | dict _ => cases hc
  | _ =>
    simp only [Dt] at h h'
    rw [h, h']
/-- a dict comprehension over it -/
theorem dc_it {J : It} {n : Nat} {G : Hp → Prop} {Y : Nat → Hp → V → Hp → Prop} (w : Walk J n G Y) {g : TG} {tt : TT} {tk tv : TE} {vs : List Nat} {σ : L2.St} {H1 : Hp} {D : Addr} {o0 : HO} {Qd : Hp → Prop} (Pv : Nat → Hp → Prop) (h0 : Pv 0 (upd H1 D o0)) (hG : ∀ i H, i ≤ n → Pv i H → G H)
    (hs : ∀ i x H H', i < n → Pv i H → Y i H x H' → g x (wipe σ vs) H' fun σ2 H2 => wipe σ2 vs = wipe σ vs ∧ tt σ2 H2 fun b H3 =>
      if b = true then tk σ2 H3 fun y H4 => tv σ2 H4 fun z H5 => ∃ H6, DPut H5 D y z H6 ∧ Pv (i + 1) H6 else Pv (i + 1) H3) (hd : ∀ H, Pv n H → Qd H) :
    ∃ W : Nat → Nat → Hp → Prop, (∃ m, W 0 m (upd H1 D o0)) ∧ ∀ i m H, W i m H →
      (J.stop i H ∧ Qd H) ∨ (J.go i H ∧ ∃ Nx : Hp → Prop, (∀ H', Nx H' → ∃ m', m' < m ∧ W (i + 1) m' H') ∧ ∀ x H', J.yld i H x H' → g x (wipe σ vs) H' fun σ2 H2 => wipe σ2 vs = wipe σ vs ∧ tt σ2 H2 fun b H3 =>
        if b = true then tk σ2 H3 fun y H4 => tv σ2 H4 fun z H5 => ∃ H6, DPut H5 D y z H6 ∧ Nx H6 else Nx H3) := by
  refine ⟨fun i m H => m = n - i ∧ i ≤ n ∧ Pv i H, ⟨n, by simp, Nat.zero_le _, h0⟩, ?_⟩
  rintro i m H ⟨rfl, hi, p⟩
  have q := hG i H hi p
  by_cases hlt : i < n
  · refine .inr ⟨w.goes i H hlt q, Pv (i + 1), fun H' p' => ⟨n - (i + 1), by omega, rfl, hlt, p'⟩, fun x H' y => hs i x H H' hlt p (w.yields i H x H' hlt q y)⟩
  · have e : i = n := by omega
    subst e
    exact .inl ⟨w.stops H q, hd H p⟩
theorem valV_one {y : Key} {x : V} : some x = valV [(y, x)] y := by simp [valV]
theorem dtk_one {H : Hp} {ds : List (PyData × PyData)} {es : List (Key × V)} {i : Nat} {y : Key} {x : V} (hz : ds.length ≤ 1) (h : DtK H ds es) (e : es[i]? = some (y, x)) :
    ∃ kd : PyData × PyData, (kd ∈ ds ∧ es = [(y, x)]) ∧ Dt H kd.1 (kV y) ∧ Dt H kd.2 x ∧ i = 0 := by
  cases ds with
  | nil =>
    simp only [DtK] at h
    subst h
    simp at e
  | cons kd r =>
    cases r with
    | cons _ _ => simp at hz
    | nil =>
      obtain ⟨k, d⟩ := kd
      simp only [DtK] at h
      obtain ⟨y', x', t, rfl, h1, h2, rfl⟩ := h
      cases i with
      | zero =>
        cases Option.some.inj e
        exact ⟨(k, d), ⟨List.mem_cons_self .., rfl⟩, h1, h2, rfl⟩
      | succ i => simp at e
theorem dtt_one {H : Hp} {ds : List (PyData × PyData)} {es : List (List Key × V)} {i : Nat} {y : List Key} {x : V} (hz : ds.length ≤ 1) (h : DtT H ds es) (e : es[i]? = some (y, x)) :
    ∃ kd : PyData × PyData, (kd ∈ ds ∧ es = [(y, x)]) ∧ Dt H kd.2 x ∧ i = 0 := by
  match ds, hz with
  | [], _ =>
    simp only [DtT] at h
    subst h
    simp at e
  | [(k, d)], _ =>
    simp only [DtT] at h
    obtain ⟨y', x', t, rfl, h1, h2, rfl⟩ := h
    match i, e with
    | 0, e =>
      cases Option.some.inj e
      exact ⟨(k, d), ⟨List.mem_cons_self .., rfl⟩, h2, rfl⟩
    | i + 1, e => simp at e
theorem dtt_flat {G H : Hp} : ∀ {ds : List (PyData × PyData)} {es : List (List Key × V)}, (∀ x ∈ ds, flB x.2 = true) → DtT H ds es → DtT G ds es
  | [], es, _, h => by simpa only [DtT] using h
  | (k, d) :: r, es, hc, h => by
    simp only [DtT] at h ⊢
    obtain ⟨y, x, t, e, h1, h2, h3⟩ := h
    exact ⟨y, x, t, e, h1, Dt.flat h2 (hc (k, d) (List.mem_cons_self ..)), dtt_flat (fun x hx => hc x (List.mem_cons_of_mem _ hx)) h3⟩
theorem dt_key {G H : Hp} {d : PyData} {y : Key} (h : Dt H d (kV y)) : Dt G d (kV y) := by
  cases d with
  | list _ => simp only [Dt] at h; obtain ⟨a, xs, e, _⟩ := h; cases y <;> cases e
  | tuple _ => simp only [Dt] at h; obtain ⟨a, xs, e, _⟩ := h; cases y <;> cases e
  | dict _ => simp only [Dt] at h; obtain ⟨a, e, _⟩ := h; cases y <;> cases e
  | _ => simpa only [Dt] using h
theorem dtk_flat {G H : Hp} : ∀ {ds : List (PyData × PyData)} {es : List (Key × V)}, (∀ x ∈ ds, flB x.2 = true) → DtK H ds es → DtK G ds es
  | [], es, _, h => by simpa only [DtK] using h
  | (k, d) :: r, es, hc, h => by
    simp only [DtK] at h ⊢
    obtain ⟨y, x, t, e, h1, h2, h3⟩ := h
    exact ⟨y, x, t, e, dt_key h1, Dt.flat h2 (hc (k, d) (List.mem_cons_self ..)), dtk_flat (fun x hx => hc x (List.mem_cons_of_mem _ hx)) h3⟩
theorem ls_take {α : Type} {l : List α} {i : Nat} {x : α} (h : l[i]? = some x) : l.take (i + 1) = l.take i ++ [x] := by
  rw [List.take_add_one, h]
  rfl
/-- how far the copy of a list has come -/
structure Cpy (H : Hp) (D : Addr) (ds : List PyData) (i : Nat) (H' : Hp) : Prop where
  sm : Same H H'
  ac : ∃ acc, DtL (Nw (upd H D (.lst [])) H') (ds.take i) acc ∧ H' D = some (.lst acc)
theorem Cpy.start {H : Hp} {D : Addr} {ds : List PyData} (hD : H D = none) : Cpy H D ds 0 (upd H D (.lst [])) := by
  refine ⟨same_upd hD, [], ?_, upd_same⟩
  simp only [List.take_zero, DtL]
theorem Cpy.step {H H1 H2 : Hp} {D : Addr} {ds : List PyData} {i : Nat} {dd : PyData} {v : V} (hD : H D = none) (c : Cpy H D ds i H1) (hi : ds[i]? = some dd) (s : Same H1 H2) (d : Dt (Nw H1 H2) dd v) :
    ∃ acc, H2 D = some (.lst acc) ∧ acc.length ≤ i ∧ Cpy H D ds (i + 1) (upd H2 D (.lst (acc ++ [v]))) := by
  obtain ⟨s1, acc, ha, hd⟩ := c
  have la := DtL.length ha
  refine ⟨acc, s _ _ hd, by rw [la, List.length_take]; omega, fun b o e => ?_, acc ++ [v], ?_, upd_same⟩
  · rw [upd_ne (ne_of_none e hD)]
    exact s _ _ (s1 _ _ e)
  · rw [ls_take hi]
    refine DtL.snoc (Dt.same (Nw.sub fun b o h1 h2 => ?_) _ _ d) (DtL.same (Nw.sub fun b o h1 h2 => ?_) _ _ ha)
    · have nb : b ≠ D := fun z => by
        rw [z, hd] at h1
        cases h1
      refine ⟨?_, by rw [upd_ne nb]; exact h2⟩
      rw [upd_ne nb]
      exact none_of s1 h1
    · have nb : b ≠ D := fun z => by
        rw [z, upd_same] at h1
        cases h1
      exact ⟨h1, by rw [upd_ne nb]; exact s _ _ h2⟩
theorem Cpy.done {H H1 : Hp} {D : Addr} {ds : List PyData} (hD : H D = none) (c : Cpy H D ds ds.length H1) : ∃ acc, H1 D = some (.lst acc) ∧ DtL (Nw H H1) ds acc := by
  obtain ⟨s1, acc, ha, hd⟩ := c
  rw [List.take_length] at ha
  refine ⟨acc, hd, DtL.same (Nw.sub fun b o h1 h2 => ?_) _ _ ha⟩
  have nb : b ≠ D := fun z => by
    rw [z, upd_same] at h1
    cases h1
  rw [upd_ne nb] at h1
  exact ⟨h1, h2⟩
end Mw
namespace Mw
open PySem PySem.Spec PyProof.Rows L2
/-- C's __init__ with one field f, copied -/
def spI (n : Nat) (C : Addr) (f : Str) : Sp := fun vs H Q _ => ∃ (a : Addr) (v : V) (dd : PyData), vs = [.ref a, v] ∧ H a = some (exo a C none) ∧ Dt H dd v ∧ cpB n dd = true ∧
  ∀ (dx : Addr) (v' : V) (H' : Hp), H dx = none → Same (del H a) H' → H' a = some (exo a C (some dx)) → H' dx = some (exd dx [(f, v')]) → Dt (del (Nw H H') dx) dd v' → Q .non H'
theorem init_fin {H H1 : Hp} {a C dx : Addr} {f : Str} {v : V} {dd : PyData} (ha : H a = some (exo a C none)) (s : Same H H1) (d : Dt (Nw H H1) dd v) (hd : H1 dx = none) (ne : dx ≠ a) {H' : Hp} (e : H' = upd (upd H1 dx (exd dx [(f, v)])) a (exo a C (some dx))) :
    Same (del H a) H' ∧ H' a = some (exo a C (some dx)) ∧ H' dx = some (exd dx [(f, v)]) ∧ H dx = none ∧ Dt (del (Nw H H') dx) dd v := by
  subst e
  refine ⟨fun b o e => ?_, upd_same, by rw [upd_ne ne, upd_same], none_of s hd, Dt.same (fun b o e => ?_) _ _ d⟩
  · have hb : b ≠ a := fun z => by
      rw [z, del_same] at e
      cases e
    rw [del_ne hb] at e
    have e1 := s _ _ e
    rw [upd_ne hb, upd_ne (ne_of_none e1 hd)]
    exact e1
  · obtain ⟨e1, e2⟩ := Nw.inv e
    have hb : b ≠ a := fun z => by
      rw [z, ha] at e1
      cases e1
    rw [del_ne (ne_of_none e2 hd), Nw.at_ e1, upd_ne hb, upd_ne (ne_of_none e2 hd)]
    exact e2
end Mw
namespace Mw
open PySem PySem.Spec PyProof.Rows L2
/-- how far a def has come that only makes objects -/
structure Rs (H0 H : Hp) (L : List (Addr × HO)) : Prop where
  sm : Same H0 H
  ob : ∀ q ∈ L, H q.1 = some q.2
theorem Rs.start (H : Hp) : Rs H H [] := ⟨Same.refl H, fun _ h => absurd h (by simp)⟩
theorem Rs.made {H0 H : Hp} {L : List (Addr × HO)} {p : Addr} (R : Rs H0 H L) (hp : H p = none) (o : HO) : Rs H0 (upd H p o) ((p, o) :: L) := by
  refine ⟨R.sm.trans (same_upd hp), fun q hq => ?_⟩
  rcases List.mem_cons.mp hq with rfl | hq
  · exact upd_same
  · exact same_upd hp _ _ (R.ob q hq)
@[elab_as_elim] theorem allocS {H0 H : Hp} {L : List (Addr × HO)} {p : Addr} {o : HO} {motive : Hp → Prop} (hp : H p = none) (R : Rs H0 H L)
    (h : ∀ H', Rs H0 H' ((p, o) :: L) → motive H') : motive (upd H p o) := h _ (R.made hp o)
theorem Rs.call {H0 H H' : Hp} {L : List (Addr × HO)} (R : Rs H0 H L) (s : Same H H') : Rs H0 H' L := ⟨R.sm.trans s, fun q hq => s _ _ (R.ob q hq)⟩
theorem Rs.get {H0 H : Hp} {L : List (Addr × HO)} (R : Rs H0 H L) {p : Addr} {o : HO} (h : (p, o) ∈ L) : H p = some o := R.ob (p, o) h
end Mw
namespace Mw
open PySem PySem.Spec PyProof.Rows L2
theorem bindsK1 {K : PySem.W.Frag} {x qual : Str} {params : Arguments} {body : List Stmt} {scope : Scope} {kws : List (Str × V)} {f : Addr} {fd : FuncData} {ps : List Str} {kn : Str} (F : FunD K x qual params body scope [] kws f fd)
    (h : ∀ (kV doc pm : Value) (an : Option Addr) (cdv ct : Value) (a v : Value), bindArgs (PySem.W.fnOf x qual params body scope .none kV doc pm an cdv ct) ⟨[a], [(kn, v)]⟩ = pure (ps.zip [a, v])) (s : Shared) (a v : Value) : BindsTo s fd ⟨[a], [(kn, v)]⟩ (ps.zip [a, v]) := by
  obtain ⟨oc, od, dV, kV, doc, pm, an, cdv, ct, osl, rfl, lk, hcd, hD, hK⟩ := F.ex
  rcases hD with ⟨_, rfl⟩ | ⟨e, _⟩
  · exact BindsTo.of_eq (h kV doc pm an cdv ct a v)
  · exact absurd rfl e
@[elab_as_elim] theorem allocN {H : Hp} {p : Addr} {o : HO} {motive : Hp → Prop} (hp : H p = none) (h : ∀ H', Same H H' → H' p = some o → motive H') : motive (upd H p o) := h _ (same_upd hp) upd_same
/-- an error of the class C that holds a copy of dd in its field f -/
def Er (H : Hp) (a C : Addr) (f : Str) (dd : PyData) : Prop := ∃ (dx : Addr) (v : V), H a = some (exo a C (some dx)) ∧ H dx = some (exd dx [(f, v)]) ∧ Dt H dd v
theorem Er.same {H H' : Hp} {a C : Addr} {f : Str} {dd : PyData} (s : Same H H') (h : Er H a C f dd) : Er H' a C f dd := by
  obtain ⟨dx, v, h1, h2, h3⟩ := h
  exact ⟨dx, v, s _ _ h1, s _ _ h2, Dt.same s _ _ h3⟩
theorem Er.is {H : Hp} {a C : Addr} {f : Str} {dd : PyData} (h : Er H a C f dd) : IsE H a C := by
  obtain ⟨dx, v, h1, h2, h3⟩ := h
  exact .own dx _ h1 h2
theorem DtL.nil {H : Hp} : DtL H [] [] := by simp only [DtL]
theorem DtL.cons {H : Hp} {d : PyData} {ds : List PyData} {x : V} {r : List V} (h1 : Dt H d x) (h2 : DtL H ds r) : DtL H (d :: ds) (x :: r) := by
  simp only [DtL]
  exact ⟨x, r, rfl, h1, h2⟩
theorem Dt.lst {H : Hp} {ds : List PyData} {p : Addr} {xs : List V} (h : H p = some (.lst xs)) (hx : DtL H ds xs) : Dt H (.list ds) (.ref p) := by
  simp only [Dt]
  exact ⟨p, xs, rfl, h, hx⟩
theorem odd_show : ∀ dd ∈ oddD, ((PyData.list (List.replicate 13 dd)).showable = true ∧ (PyData.list (List.replicate 13 dd)).depth ≤ 60 ∧ (PyData.list (List.replicate 13 dd)).shown.length ≤ 1000) ∧
    ((PyData.list (List.replicate 5 dd)).showable = true ∧ (PyData.list (List.replicate 5 dd)).depth ≤ 60 ∧ (PyData.list (List.replicate 5 dd)).shown.length ≤ 1000) := by decide +kernel
theorem dp_bools {K : PySem.W.Frag} {H : Hp} {f : Nat → Bool} : ∀ l : List Nat, DpAll K H (l.map fun j => V.bl (f j)) (l.map fun j => PyData.bool (f j))
  | [] => .nil
  | z :: r => .cons (.bl _) (dp_bools r)
def kindD (k : Nat) : PyData := .list ((List.range 15).map fun j => PyData.bool (decide (k = j)))
theorem kind_ok : ∀ k, k < 15 → SeqAt.shaped (kindD k) = true ∧ PyData.eqv (kindD k) (kindD k) = true := by decide +kernel
theorem kind_dec (k j : Nat) : decide (V.int (0 + (j : Int)) = V.int (k : Int)) = decide (k = j) := by
  apply decide_eq_decide.mpr
  constructor
  · intro h
    have h2 := V.int.inj h
    omega
  · rintro rfl
    rw [Int.zero_add]
theorem odd_cp : ∀ dd ∈ oddD, cpB 2 dd = true := by decide +kernel
theorem mk1 {C a : Addr} {f : Str} {n : Nat} {H : Hp} {v : V} {dd : PyData} {R : VK} {E : XK} (ha : H a = none) (d : Dt H dd v) (hc : cpB n dd = true) (k : ∀ (H' : Hp), Same H H' → Er H' a C f dd → R .non H') : spI n C f [.ref a, v] (upd H a (exo a C none)) R E := by
  refine ⟨a, v, dd, rfl, upd_same, Dt.same (same_upd ha) _ _ d, hc, fun dx v' H' n0 s e1 e2 d' => k H' (fun b o e => ?_) ⟨dx, v', e1, e2, Dt.same (fun b o e => ?_) _ _ d'⟩⟩
  · have hb := ne_of_none e ha
    refine s b o ?_
    rw [del_ne hb, upd_ne hb]
    exact e
  · by_cases hd : b = dx
    · rw [hd, del_same] at e
      cases e
    · rw [del_ne hd] at e
      exact (Nw.inv e).2
/-- .. and raised: its dict stands as an exception's -/
theorem mkx {C a : Addr} {f : Str} {n : Nat} {H : Hp} {v : V} {dd : PyData} {R : XK} {E : XK} (ha : H a = none) (d : Dt H dd v) (hc : cpB n dd = true)
    (k : ∀ (dx : Addr) (w : V) (H' : Hp), Same H H' → H' dx = some (.xd [(f, w)]) → Dt (Nw H H') dd w → H dx = none → R (.ref C) (some dx) H') :
    spI n C f [.ref a, v] (upd H a (exo a C none)) (fun v H2 => v = .non ∧ ∃ (dx : Addr) (fs : List (Str × V)), H2 a = some (exo a C (some dx)) ∧ H2 dx = some (exd dx fs) ∧ H dx = none ∧ R (.ref C) (some dx) (upd (del H2 a) dx (.xd fs))) E := by
  refine ⟨a, v, dd, rfl, upd_same, Dt.same (same_upd ha) _ _ d, hc, fun dx v' H2 n0 s e1 e2 d' => ⟨rfl, dx, _, e1, e2, ?_, ?_⟩⟩
  · by_cases hd : dx = a
    · rw [hd]
      exact ha
    · rw [upd_ne hd] at n0
      exact n0
  · have hd : dx ≠ a := fun z => by
      rw [z, upd_same] at n0
      cases n0
    have n1 : H dx = none := by
      rw [upd_ne hd] at n0
      exact n0
    refine k dx v' _ (fun b o e => ?_) upd_same (Dt.same (fun b o e => ?_) _ _ d') n1
    · have hb := ne_of_none e ha
      rw [upd_ne (ne_of_none e n1), del_ne hb]
      refine s b o ?_
      rw [del_ne hb, upd_ne hb]
      exact e
    · by_cases hb : b = dx
      · rw [hb, del_same] at e
        cases e
      · rw [del_ne hb] at e
        obtain ⟨e1, e2⟩ := Nw.inv e
        have ba : b ≠ a := fun z => by
          rw [z, upd_same] at e1
          cases e1
        rw [upd_ne ba] at e1
        rw [Nw.at_ e1, upd_ne hb, del_ne ba]
        exact e2
/-- what an error tells of itself on its way: its class, a copy of dd in its field f -/
def Xe (C : Addr) (f : Str) (dd : PyData) (k : V → Hp → Prop) : XK := fun cls d H => ∃ (dx : Addr) (w : V), cls = .ref C ∧ d = some dx ∧ H dx = some (.xd [(f, w)]) ∧ Dt H dd w ∧ k w H
end Mw
set_option Elab.async false
set_option linter.all false
set_option maxRecDepth 100000
set_option maxHeartbeats 4000000
/-! caught errors: isinstance, a field; walks over a list or a tuple; calls by names -/
namespace Mw
open PySem PySem.Spec PyProof.Rows L2
theorem pi_or {X : Cx} {tg l : Expr} {w1 w2 : TI} (h1 : PI X tg l w1) (h2 : PI X tg l w2) : PI X tg l (fun σ H R => w1 σ H R ∨ w2 σ H R) :=
  ⟨fun pins s σ H R I h => h.elim (h1.run pins s σ H R I) (h2.run pins s σ H R I)⟩
/-- a caught error of the class C with its dict -/
def IsX (H : Hp) (a C dx : Addr) (fs : List (Str × V)) : Prop := H a = some (XcO (.ref C) (some dx) a) ∧ H dx = some (.xd fs)
section
variable {X : Cx} {pins : List (Addr × Obj)} {σ : L2.St} {H : Hp} {s : Shared}
theorem IsX.inst (I : Inv X pins σ H s) {a C dx : Addr} {fs : List (Str × V)} (h : IsX H a C dx fs) : ∃ (ox od : Obj) (mA : Str → Option Value), PySem.W.InstAt s.heap a ox C (some od) ∧ s.heap.get? dx = some od ∧ s.heap.Ns1 dx mA ∧ ∀ f, RelO (fs.lookup f) (mA f) := by
  obtain ⟨h1, h2⟩ := h
  obtain ⟨⟨oe, vs, ho, hz, hd⟩, _, _⟩ := I.hok a _ h1
  have hx : ObjOk X.prog X.w H s.heap dx (.xd fs) := I.hok dx _ h2
  obtain ⟨mA, hns, hr⟩ := hx
  obtain ⟨od, es, ep, e1, e2⟩ := id hns
  refine ⟨oe, od, mA, ⟨ho, hz.1, by unfold PySem.W.notCls; rw [hd] <;> rfl, by rw [hz.2]; exact e1⟩, e1, hns, hr⟩
def rIsiX (K : PySem.W.Frag) : List V → Hp → VK → Prop := fun xs H Q => ∃ (a C dx : Addr) (fs : List (Str × V)) (c : V) (u : Value) (b : Bool), xs = [.ref a, c] ∧ IsX H a C dx fs ∧ IsC K C ∧ ClsV c u ∧ PySem.W.kitOne K (.ref C) u = some b ∧ Q (.bl b) H
theorem call_isiX : CallR X (.builtin "isinstance") (rIsiX X.K) := by
  intro pins s σ H xs us Q I r h
  obtain ⟨a, C, dx, fs, c, u, b, rfl, hi, T, k, e, q⟩ := h
  obtain ⟨u1, u2, rfl, r1, r2⟩ := vals2 r
  have e2 := k.eq r2
  subst e2
  cases (show u1 = Value.ref a from r1)
  obtain ⟨ox, od, mA, J, _⟩ := hi.inst I
  exact PySem.W.kia_one (PySem.W.kitx_exc T.cl T.ga T.gg T.ex T.ca T.sp T.tk T.mr) I.kIn J e (fun z => nomatch z) fun tk => ⟨.bl b, H, I.tok tk, rfl, q⟩
end
def tFldX (K : PySem.W.Frag) (f : Str) (te : TE) : TE := fun σ H Q => te σ H fun x H1 => ∃ (a C dx : Addr) (fs : List (Str × V)) (v : V), x = .ref a ∧ IsX H1 a C dx fs ∧ fs.lookup f = some v ∧ IsC K C ∧ PySem.W.findIn K (.ref C) f = some none ∧ Q v H1
theorem pe_fldX {X : Cx} {e : Expr} {te : TE} {f : Str} {pos : Pos} (he : PE X e te) (hb : attributeBase e f X.env (eval e X.env) = eval e X.env := by rfl) : PE X (.Attribute e f pos) (tFldX X.K f te) := by
  refine ⟨fun pins s σ H Q I h => ?_⟩
  refine attr_of hb (thn (he.run pins s σ H _ I h) fun u s1 hh => ?_)
  obtain ⟨x, H1, I1, rx, a, C, dx, fs, v, ex, hi, l, T, hno, q⟩ := hh
  subst ex
  obtain rfl : u = Value.ref a := rx
  obtain ⟨ox, od, mA, J, e1, hns, hr⟩ := hi.inst I1
  obtain ⟨od2, ho2, hl⟩ := lookIn_ns hns
  have eo : od2 = od := Option.some.inj (ho2.symm.trans e1)
  subst eo
  obtain ⟨u, hu, ru⟩ := RelO.some_of (v := v) (o := mA f) (by rw [← l]; exact hr f)
  exact HandSPX.exc_get I1.kIn J T.ga T.gg T.ex (PySem.W.findObj_own T.hd hno rfl (by rw [hl, hu])) (handed_of ru) ⟨v, H1, I1.tok _, ru, q⟩
theorem dtl_flat {G H : Hp} : ∀ {ds : List PyData} {xs : List V}, (∀ d ∈ ds, flB d = true) → DtL H ds xs → DtL G ds xs
  | [], xs, _, h => by simpa only [DtL] using h
  | d :: r, xs, hf, h => by
    simp only [DtL] at h ⊢
    obtain ⟨x, t, e, h1, h2⟩ := h
    exact ⟨x, t, e, Dt.flat h1 (hf d List.mem_cons_self), dtl_flat (fun y hy => hf y (List.mem_cons_of_mem _ hy)) h2⟩
/-- one object more, data that stand kept -/
@[elab_as_elim] theorem allocK {d W C : Addr} {n : Nat} {H0 H : Hp} {L : List (Addr × HO)} {p : Addr} {o : HO} {motive : Hp → Prop} {dd : PyData} {v : V} (hp : H p = none) (R : Rn d W C n H0 H L) (u : Dt (Hid d W H) dd v)
    (h : ∀ H', Rn d W C n H0 H' ((p, o) :: L) → Dt (Hid d W H') dd v → motive H') : motive (upd H p o) := h _ (R.made hp o) (Dt.same (Sd.new hp) _ _ u)
end Mw
set_option Elab.async false
set_option linter.all false
set_option maxRecDepth 100000
set_option maxHeartbeats 4000000
/-! data that repr shows within bounds -/
namespace Mw
open PySem PySem.Spec PyProof.Rows L2
structure Shw (n k : Nat) (d : PyData) : Prop where
  sh : d.showable = true
  ln : d.shown.length ≤ n
  dp : d.depth ≤ k
theorem Shw.mono {w k w' k' : Nat} {d : PyData} (h : Shw w k d) (hw : w ≤ w') (hk : k ≤ k') : Shw w' k' d := ⟨h.sh, Nat.le_trans h.ln hw, Nat.le_trans h.dp hk⟩
theorem Shw.rep {w k : Nat} {d : PyData} (h : Shw w k d) (hw : w ≤ 16000000) (hk : k ≤ 60) : d.showable = true ∧ d.depth ≤ 60 ∧ d.shown.length ≤ sizeLine := by
  refine ⟨h.sh, Nat.le_trans h.dp hk, ?_⟩
  rw [sizeLine_eq]
  exact Nat.le_trans h.ln (Nat.le_trans hw (by decide))
theorem Shw.int {k : Nat} {i : Int} (h : i.natAbs.log2 < 1920) : Shw 1921 k (.int i) := by
  refine ⟨by simp only [PyData.showable]; exact decide_eq_true h, ?_, by simp only [PyData.depth]; exact Nat.zero_le _⟩
  rw [PyData.shown_int, PySem.ofString_length]
  exact int_text_length_le (by decide) h
theorem shw_all {w k : Nat} : ∀ ds : List PyData, (∀ d ∈ ds, Shw w k d) → PyData.showableAll ds = true ∧ ((PyData.shownAll ds).map (·.length)).sum ≤ ds.length * w ∧ PyData.depthAll ds ≤ k
  | [], _ => ⟨by simp only [PyData.showableAll], by simp only [PyData.shownAll, List.map_nil, List.sum_nil]; exact Nat.zero_le _, by simp only [PyData.depthAll]; exact Nat.zero_le _⟩
  | d :: r, h => by
    obtain ⟨h1, h3, h4⟩ := shw_all r fun x hx => h x (List.mem_cons_of_mem _ hx)
    have hd := h d List.mem_cons_self
    refine ⟨by simp only [PyData.showableAll, hd.sh, h1, Bool.and_self], ?_, ?_⟩
    · simp only [PyData.shownAll, List.map_cons, List.sum_cons, List.length_cons]
      have := hd.ln
      rw [Nat.add_mul]
      omega
    · simp only [PyData.depthAll]
      exact Nat.max_le.mpr ⟨hd.dp, h4⟩
theorem shw_len {w n : Nat} {ds : List PyData} {m : Nat} (h : m ≤ ds.length * w) (l : ds.length ≤ n) : m + 2 * ds.length + 3 ≤ n * (w + 2) + 3 := by
  have z : ds.length * w ≤ n * w := Nat.mul_le_mul_right _ l
  rw [Nat.mul_add]
  omega
theorem Shw.list {w k n : Nat} {ds : List PyData} (h : ∀ d ∈ ds, Shw w k d) (l : ds.length ≤ n) : Shw (n * (w + 2) + 3) (k + 1) (.list ds) := by
  obtain ⟨h1, h3, h4⟩ := shw_all ds h
  refine ⟨by simp only [PyData.showable]; exact h1, ?_, by simp only [PyData.depth]; omega⟩
  have z := listText_len_le (PyData.shownAll ds)
  rw [PyData.shownAll_length] at z
  simp only [PyData.shown]
  exact Nat.le_trans z (shw_len h3 l)
theorem Shw.tuple {w k n : Nat} {ds : List PyData} (h : ∀ d ∈ ds, Shw w k d) (l : ds.length ≤ n) : Shw (n * (w + 2) + 3) (k + 1) (.tuple ds) := by
  obtain ⟨h1, h3, h4⟩ := shw_all ds h
  refine ⟨by simp only [PyData.showable]; exact h1, ?_, by simp only [PyData.depth]; omega⟩
  have z := tupleText_len_le (PyData.shownAll ds)
  rw [PyData.shownAll_length] at z
  simp only [PyData.shown]
  exact Nat.le_trans z (shw_len h3 l)
theorem odd_shw : ∀ dd ∈ oddD, Shw 60 3 dd := by
  have h : ∀ dd ∈ oddD, dd.showable = true ∧ dd.shown.length ≤ 60 ∧ dd.depth ≤ 3 := by decide +kernel
  exact fun dd hd => ⟨(h dd hd).1, (h dd hd).2.1, (h dd hd).2.2⟩
theorem log_of {i : Int} {m : Nat} (h : i.natAbs < 2 ^ m) (hm : 0 < m) (h2 : m ≤ 1920) : i.natAbs.log2 < 1920 := Nat.lt_of_lt_of_le (PySem.Flt.log2_lt_of hm h) h2
end Mw
set_option Elab.async false
set_option linter.all false
set_option maxRecDepth 100000
set_option maxHeartbeats 4000000
/-! a lambda handed to a def that calls it in a try, whose suite reads the def's names -/
namespace Mw
open PySem PySem.Spec PyProof.Rows L2 LamX
section
variable {X : Cx} {pins : List (Addr × Obj)} {σ : L2.St} {H : Hp} {s : Shared}
theorem PE.weak {e : Expr} {t : TE} (h : PE X e t) : PE X e (fun σ H Q => ∃ Qv : VK, (∀ v H', Qv v H' → Q v H') ∧ t σ H Qv) :=
  ⟨fun pins s σ H Q I ⟨Qv, hq, z⟩ => thn (h.run pins s σ H Qv I z) fun u s1 ⟨v, H1, J, r, q⟩ => ⟨v, H1, J, r, hq v H1 q⟩⟩
/-- the lambda called: an exception goes where the caller's slots send it -/
theorem act_at {CXg : CXT} {Eg : XK} {Ng : List Str} {qg : Str} {sg : Scope} {g f c' : Addr} {cdg pm ctv : Value} {params : Arguments} {body : Expr} {scope : Scope} {k i : Nat} {a : Str} {pn : List (Addr × Obj)} {xe : Value → Shared → Prop} {W : WX} {tb : XK → TE} {p1 p2 : Pos}
    (I : Inv X pins σ H s) (L : LamS X.env.scope scope) (hf : s.heap.get? f = some (PySem.W.kla_obj "<lambda>" (X.env.qual ++ "<lambda>") params body scope (cloFrom X.env.cells scope.names []) pm c' ctv)) (hfn : H f = none) (hfr : f ∉ frs X.stack)
    (hbind : bindArgs (PySem.W.kla_fn "<lambda>" (X.env.qual ++ "<lambda>") params body scope (cloFrom X.env.cells scope.names []) pm (.ref c') ctv) ⟨[], []⟩ = pure [])
    (tk : Takes ((cxOf CXg X.prog X.w X.K X.mg X.base Ng qg sg g cdg X.A X.stack s H Eg).tr pn xe) W) (room : Room (k + 1) (X.A.deeper (envOfC qg sg s.heap.objs.size g cdg)))
    (hbody : ∀ (A : Around) (outer : List Env) (s : Shared) (H : Hp) (E : XK), Room k (A.deeper (lamEnv X scope s.heap.objs.size f c')) → PE (lamCx X A outer s H E scope f c') body (tb E))
    (hN : Ng[i]? = some a) (hv : Vis sg a) (hd : (a == ("__debug__" : Str)) = false := by decide) (hcd : (a == ("__classdict__" : Str)) = false := by decide) :
    PE ((cxOf CXg X.prog X.w X.K X.mg X.base Ng qg sg g cdg X.A X.stack s H Eg).tr pn xe) (.Call (.Name a p1) [] [] p2)
      (fun σZ HZ Q => σZ[i]? = some (some (.ref f)) ∧ HZ c' = some (CodeO c' (X.env.qual ++ "<lambda>")) ∧ ∃ E : XK, (∀ cls d H', E cls d H' → W cls d σZ H') ∧ tb E σ HZ Q) := by
  refine ⟨fun pz sz σz Hz Q Iz ⟨slot, code, E, out, body_⟩ => wpAny_Call_Name_kw ?_⟩
  refine thn ((pe_var (pos := p1) (i := i) hN hv hd hcd).run pz sz σz Hz (fun v H1 => v = .ref f ∧ H1 = Hz) Iz ⟨.ref f, slot, rfl, rfl⟩) ?_
  rintro u s1 ⟨v, H1, J1, rv, rfl, rfl⟩
  obtain rfl : u = Value.ref f := rv
  have lam := J1.base.keep f _ hf hfn hfr (fun z => nomatch (show f ∈ ([] : List Addr) from z))
  refine PySem.W.callWith_F0 ⟨_, _, _, _, lam⟩ ?_
  obtain ⟨⟨oc, vs, t, o1, o2, o3⟩, _, _⟩ := J1.hok c' _ code
  have ran : codeAny (model X.prog X.w) (X.A.deeper (envOfC qg sg s.heap.objs.size g cdg)) (.call (.ref f) ⟨[], []⟩) (CR (L2.CX X.prog X.w) (envOfC qg sg s.heap.objs.size g cdg :: X.stack) X.prog X.w H1 s1 Q E) s1 := by
    refine PySem.W.kla_callFunE room.depth lam rfl L.co L.gen rfl ⟨c', oc, vs, t, rfl, o1, o2, o3⟩ ?_
    rw [hbind]
    refine wpAny_pure (wpAny_newFunctionEnv (fun y hy => (L.own y hy).2) (fun y hy => absurd hy (by simp)) (fun h1 names but => ⟨J1.nolimit.fresh _ but, ?_⟩) L.kind)
    show codeAny _ _ (.expr body (lamEnv X scope s1.heap.objs.size f c')) _ _
    have keep : ∀ b o, s1.heap.get? b = some o → h1.get? b = some o := fun b o e => but.extBut b o (Nat.ne_of_lt (Heap.lt_size e)) (Heap.get?_push_of_some _ e)
    have start := lam_start2 (E := E) (f := f) (c' := c') (tk := s1.toks + ([] : List (Str × Value)).length) I L J1.env0 room.hd J1.base names keep
    refine PySem.W.kla_codeExpr (wpAny_mono ((hbody _ _ s1 H1 E (room.deeper _)).run [] _ _ H1 Q start body_) ?_ fun _ _ z => z)
    rintro v s2 ⟨x, H2, J2, r2, q2⟩
    exact ⟨x, H2, J2.os, J2.bare, J2.base, J2.hok, r2, q2⟩
  refine wpAny_call (codeAny_mono ran fun r s2 z => ?_)
  match r, z with
  | .error e, z => exact tk e s2 (XE.of_call J1 (fun cls d H' y => out cls d H' y) z)
  | .ok (.ret u), z => exact J1.after z
  | .ok .next, z => exact z.elim
  | .ok .brk, z => exact z.elim
  | .ok .cont, z => exact z.elim
end
/-- the def that calls what it got; TT: what it makes of the lambda's reading -/
def GivesAt (X : Cx) (Ng : List Str) (x : Str) (sg : Scope) (g : Addr) (cdg : Value) (bg : List Stmt) (a : Str) (q : Str) (TT : (XK → Hp → VK → Prop) → Hp → VK → Prop) : Prop :=
  ∀ (f c' : Addr) (s : Shared) (H : Hp) (Q : VK) (tl : XK → Hp → VK → Prop),
    (∀ (W : WX) (pn : List (Addr × Obj)) (xe : Value → Shared → Prop) (p1 p2 : Pos), Takes ((cxOf C8.CX0 X.prog X.w X.K X.mg X.base Ng x sg g cdg X.A X.stack s H C8.E0).tr pn xe) W →
      PE ((cxOf C8.CX0 X.prog X.w X.K X.mg X.base Ng x sg g cdg X.A X.stack s H C8.E0).tr pn xe) (.Call (.Name a p1) [] [] p2)
        (fun σZ HZ Q => σZ[0]? = some (some (.ref f)) ∧ HZ c' = some (CodeO c' q) ∧ ∃ E : XK, (∀ cls d H', E cls d H' → W cls d σZ H') ∧ tl E HZ Q)) →
    H c' = some (CodeO c' q) → TT tl H Q →
    ∃ t, PSs (cxOf C8.CX0 X.prog X.w X.K X.mg X.base Ng x sg g cdg X.A X.stack s H C8.E0).nox bg t ∧ t { nx := fun _ H' => Q .non H', rt := Q } (L2.start Ng [.ref f]) H
/-- x(lambda: body) -/
theorem pe_lamgive {X : Cx} {T : List (Addr × Str)} {TT : (XK → Hp → VK → Prop) → Hp → VK → Prop} {x a : Str} {g c P : Addr} {k : Nat} {pg : Arguments} {bg : List Stmt} {sg : Scope} {dV kV doc pm cdv ct oc : Value} {an od : Option Addr} {osl : Array (Option Value)} {Ng : List Str}
    {params : Arguments} {body : Expr} {scope : Scope} {t : XK → TE} {p lpos pos : Pos} (hg : Gl X x) (hm : X.mg x = some (.ref g)) (hk : PySem.W.keepIn X.K (.ref g) = true)
    (lk : X.K.lookup g = some ⟨oc, od, .func (PySem.W.fnOf x x pg bg sg dV kV doc pm an cdv ct), osl⟩) (hcg : PySem.W.codeIn X.K cdv x = true) (hb : L2.Binds X.K (PySem.W.fnOf x x pg bg sg dV kV doc pm an cdv ct) [a] []) (Sg : FnScope Ng [a] sg) (hNg : Ng[0]? = some a) (hva : Vis sg a)
    (give : GivesAt X Ng x sg g cdv bg a (X.env.qual ++ "<lambda>") TT)
    (TB : TabB X.base X.mg c P) (hcode : X.env.code = .ref c) (hmT : (P, X.env.qual ++ "<lambda>") ∈ T) (hu : ∀ p ∈ T, p.1 = P → p.2 = X.env.qual ++ "<lambda>") (room : Room (k + 2) X.A) (L : LamS X.env.scope scope) (hdef : defaultsOf params X.env = ([], []))
    (hbind : ∀ (q : Str) (cl : List (Str × Addr)) (pm cv ctv : Value), bindArgs (PySem.W.kla_fn "<lambda>" q params body scope cl pm cv ctv) ⟨[], []⟩ = pure [])
    (hbody : ∀ (A : Around) (outer : List Env) (s : Shared) (H : Hp) (E : XK) (f c' : Addr), Room k (A.deeper (lamEnv X scope s.heap.objs.size f c')) → PE (lamCx X A outer s H E scope f c') body (t E))
    (hdb : (x == ("__debug__" : Str)) = false := by decide) (hd : (a == ("__debug__" : Str)) = false := by decide) (hcd : (a == ("__classdict__" : Str)) = false := by decide) :
    PE X (.Call (.Name x p) [.Lambda params body scope lpos] [] pos) (tLam T TT t) := by
  refine ⟨fun pins s σ H Q I ⟨tabs, rest⟩ => wpAny_Call_Name_kw (ld_glob I hg hm ?_ hdb)⟩
  refine PySem.W.callWith_K (h₀ := X.base) I.ok.mod.kin hk ?_ (by rfl) (by rfl)
  show wpAny _ _ (spliced ((false, eval (.Lambda params body scope lpos) X.env) :: backTo pos (starEach [] X.env))) _ _ s
  refine Calls.spliced_cons (lam_make2 I TB hcode hmT hu tabs hdef (L.has I.ok) ?_)
  intro f c' pm' ctv H1 s1 J more tabs1 lam noF frF code
  refine Calls.spliced_nil ⟨J.kIn, ?_⟩
  have ran : codeAny (model X.prog X.w) X.A (.call (.ref g) ⟨[.ref f], []⟩) (CR C8.CX0 X.stack X.prog X.w H1 s1 Q C8.E0) s1 := by
    refine run_ofS (N := Ng) (ps := [a]) (us := [.ref f]) (vs := [.ref f]) lk hcg Sg room J.env0 (hb s1 [.ref f] J.kIn rfl) (.cons rfl .nil) rfl fun deep => ?_
    obtain ⟨td, hd1, hd2⟩ := give f c' s1 H1 Q (fun E H' Q' => t E σ H' Q') (fun W pn xe p1 p2 tk => act_at (i := 0) J L lam noF frF (hbind _ _ _ _ _) tk deep (fun A outer s H E r => hbody A outer s H E f c' r) hNg hva hd hcd) code (rest H1 more tabs1)
    exact ⟨td, hd1.nox, hd2⟩
  refine wpAny_call (codeAny_mono ran fun r s2 z => ?_)
  match r, z with
  | .error e, z => exact (show False from z).elim
  | .ok (.ret u), z => exact J.after z
  | .ok .next, z => exact z.elim
  | .ok .brk, z => exact z.elim
  | .ok .cont, z => exact z.elim
end Mw
set_option Elab.async false
set_option linter.all false
set_option maxRecDepth 100000
set_option maxHeartbeats 4000000
/-! a list against the empty one; calls by names alone; the law's state while lambdas are made -/
namespace Mw
open PySem PySem.Spec PyProof.Rows L2 LamX
def rEqNil (K : PySem.W.Frag) : R2 := fun x y H Q => ∃ (a b : Addr) (xs : List V), x = .ref a ∧ y = .ref b ∧ SqL K H a xs ∧ SqL K H b [] ∧ Q (.bl xs.isEmpty) H
def rNeNil (K : PySem.W.Frag) : R2 := fun x y H Q => ∃ (a b : Addr) (xs : List V), x = .ref a ∧ y = .ref b ∧ SqL K H a xs ∧ SqL K H b [] ∧ Q (.bl (!xs.isEmpty)) H
theorem op_eqNil {X : Cx} (hu : X.A.units + 64 < cLine) : OpR X (compareOp .Eq) (rEqNil X.K) := by
  intro pins s σ H x y v u Q I rx ry ⟨a, b, xs, ex, ey, ha, hb, q⟩
  cases xs with
  | nil => exact op_eqD hu pins s σ H x y v u Q I rx ry ⟨.list [], .list [], by rw [ex]; exact .lst ha .nil, by rw [ey]; exact .lst hb .nil, rfl, rfl, q⟩
  | cons x0 r =>
    subst ex ey
    cases rx
    cases ry
    obtain ⟨its, rv, pl, hz⟩ := I.list ha
    obtain ⟨its2, rv2, pl2, hz2⟩ := I.list hb
    cases rv2
    have l := rv.length
    exact SeqAt.RcAt.lists_lengths pl.isList pl2.isList (by simp only [List.size_toArray, ← l]; rfl) (by omega) X.prog X.w _ _ ⟨.bl false, H, I, rfl, q⟩
theorem op_neNil {X : Cx} (hu : X.A.units + 64 < cLine) : OpR X (compareOp .NotEq) (rNeNil X.K) := by
  intro pins s σ H x y v u Q I rx ry ⟨a, b, xs, ex, ey, ha, hb, q⟩
  cases xs with
  | nil => exact op_neD hu pins s σ H x y v u Q I rx ry ⟨.list [], .list [], by rw [ex]; exact .lst ha .nil, by rw [ey]; exact .lst hb .nil, rfl, rfl, q⟩
  | cons x0 r =>
    subst ex ey
    cases rx
    cases ry
    obtain ⟨its, rv, pl, hz⟩ := I.list ha
    obtain ⟨its2, rv2, pl2, hz2⟩ := I.list hb
    cases rv2
    have l := rv.length
    exact SeqAt.RcNeAt.lists_lengths pl.isList pl2.isList (by simp only [List.size_toArray, ← l]; rfl) (by omega) X.prog X.w _ _ ⟨.bl true, H, I, rfl, q⟩
/-- f(k = v, ..), no positional value -/
def tKw0 (n : Nat) (sp : Sp) (gV : List V → List V) (E : XK) (tk : TA) : TE := fun σ H Q => tk σ H fun zs H1 => zs.length = n ∧ sp (gV zs) H1 Q E
theorem pe_kw0 {X : Cx} {CX : CXT} {k : Nat} {f : Addr} {fd : FuncData} {ps ks : List Str} {sp : Sp} {E : XK} {x : Str} {p pos : Pos} {kws : List Keyword} {tk : TA} {g : List Value → List Value} {gV : List V → List V} (F : FnOk X.prog X.w X.K X.mg X.base CX k f fd ps sp) (room : Room k X.A)
    (hg : Gl X x) (hm : X.mg x = some (.ref f)) (hk : PySem.W.keepIn X.K (.ref f) = true) (hb : ∀ (s : Shared) (ws : List Value), X.K.In s.heap → ws.length = ks.length → BindsTo s fd ⟨[], ks.zip ws⟩ (ps.zip (g ws))) (hrel : ∀ {zs : List V} {ws : List Value}, Vals zs ws → Vals (gV zs) (g ws)) (hx : Passes CX X E)
    (hkw : PK X kws tk) (hall : (backToKw pos (keywordEach kws X.env)).all (·.1.isSome) = true := by rfl) (hks : (backToKw pos (keywordEach kws X.env)).filterMap (·.1) = ks := by rfl)
    (hdb : (x == ("__debug__" : Str)) = false := by decide) (hpl : ((backTo pos (starEach [] X.env)).any (·.1) || (backToKw pos (keywordEach kws X.env)).any (·.1.isNone)) = false := by rfl) :
    PE X (.Call (.Name x p) [] kws pos) (tKw0 ks.length sp gV E tk) := by
  refine ⟨fun pins s σ H Q I h => wpAny_Call_Name_kw (ld_glob I hg hm ?_ hdb)⟩
  refine PySem.W.callWith_KW0 (h₀ := X.base) I.ok.mod.kin hk hall (thn (hkw.run pos pins s σ H _ I h) fun ws s1 ⟨zs, H1, J, r, l, q⟩ => ⟨J.kIn, ?_⟩) hpl
  rw [hks]
  have rr := hrel r
  refine wpAny_call (codeAny_mono (F.run X.A X.stack s1 H1 ⟨[], ks.zip ws⟩ (g ws) (gV zs) Q E room J.env0 (hb s1 ws J.kIn (r.length.symm.trans l)) rr q) fun rs s2 z => ?_)
  match rs, z with
  | .error er, z => exact hx pins σ H1 s1 er s2 J z
  | .ok (.ret u), z => exact J.after z
  | .ok .next, z => exact z.elim
  | .ok .brk, z => exact z.elim
  | .ok .cont, z => exact z.elim
/-! ### all but the tables stays -/
mutual
theorem Dt.extn {H H' : Hp} (s : ExtN H H') : ∀ (d : PyData) (v : V), Dt H d v → Dt H' d v
  | .none, v, h => by simpa only [Dt] using h
  | .bool _, v, h => by simpa only [Dt] using h
  | .int _, v, h => by simpa only [Dt] using h
  | .str _, v, h => by simpa only [Dt] using h
  | .list ds, v, h => by
    simp only [Dt] at h ⊢
    obtain ⟨a, xs, e, ha, hd⟩ := h
    exact ⟨a, xs, e, s _ _ ha (fun _ z => nomatch z), DtL.extn s ds xs hd⟩
  | .tuple ds, v, h => by
    simp only [Dt] at h ⊢
    obtain ⟨a, xs, e, ha, hd⟩ := h
    exact ⟨a, xs, e, s _ _ ha (fun _ z => nomatch z), DtL.extn s ds xs hd⟩
  | .dict kvs, v, h => by
    simp only [Dt] at h ⊢
    obtain ⟨a, e, ⟨es, ha, hd⟩ | ⟨es, ha, hd⟩⟩ := h
    · exact ⟨a, e, .inl ⟨es, s _ _ ha nofun, DtK.extn s kvs es hd⟩⟩
    · exact ⟨a, e, .inr ⟨es, s _ _ ha nofun, DtT.extn s kvs es hd⟩⟩
theorem DtL.extn {H H' : Hp} (s : ExtN H H') : ∀ (ds : List PyData) (xs : List V), DtL H ds xs → DtL H' ds xs
  | [], xs, h => by simpa only [DtL] using h
  | d :: ds, xs, h => by
    simp only [DtL] at h ⊢
    obtain ⟨x, r, e, hx, hr⟩ := h
    exact ⟨x, r, e, Dt.extn s d x hx, DtL.extn s ds r hr⟩
theorem DtK.extn {H H' : Hp} (s : ExtN H H') : ∀ (ds : List (PyData × PyData)) (xs : List (Key × V)), DtK H ds xs → DtK H' ds xs
  | [], xs, h => by simpa only [DtK] using h
  | (k, d) :: ds, xs, h => by
    simp only [DtK] at h ⊢
    obtain ⟨y, x, t, e, hy, hx, hr⟩ := h
    exact ⟨y, x, t, e, Dt.extn s k _ hy, Dt.extn s d x hx, DtK.extn s ds t hr⟩
theorem DtT.extn {H H' : Hp} (s : ExtN H H') : ∀ (ds : List (PyData × PyData)) (xs : List (List Key × V)), DtT H ds xs → DtT H' ds xs
  | [], xs, h => by simpa only [DtT] using h
  | (k, d) :: ds, xs, h => by
    simp only [DtT] at h ⊢
    obtain ⟨y, x, t, e, hy, hx, hr⟩ := h
    exact ⟨y, x, t, e, hy, Dt.extn s d x hx, DtT.extn s ds t hr⟩
end
theorem ExtN.same {H H' : Hp} (s : Same H H') : ExtN H H' := fun b o e _ => s b o e
theorem Drw.extn {H H' : Hp} {d W C : Addr} {n : Nat} (h : Drw H d W C n) (s : ExtN H H') : Drw H' d W C n := by
  obtain ⟨⟨r, t, ws, cs, a, b, c, e, f⟩, g⟩ := h
  exact ⟨⟨r, t, ws, cs, s _ _ a (fun _ z => nomatch z), s _ _ b (fun _ z => nomatch z), s _ _ c (fun _ z => nomatch z), e, f⟩, g⟩
theorem ExtN.hid {H H' : Hp} (d W : Addr) (s : ExtN H H') : ExtN (Hid d W H) (Hid d W H') := fun b o e n => by
  by_cases h1 : b = d
  · unfold Hid at e
    rw [if_pos (.inl h1)] at e
    cases e
  · by_cases h2 : b = W
    · unfold Hid at e
      rw [if_pos (.inr h2)] at e
      cases e
    · rw [Hid.at_ h1 h2] at e ⊢
      exact s b o e n
/-- the tables apart from the draws -/
theorem Tabs.hid {T : List (Addr × Str)} {H : Hp} {d W C : Addr} {n : Nat} (D : Drw H d W C n) (h : Tabs T H) : Tabs T (Hid d W H) := by
  obtain ⟨⟨r, t, ws, cs, a, b, c, e, f⟩, g⟩ := D
  intro p hp
  obtain ⟨q, h1, h2, h3⟩ := h p hp
  have out : ∀ {b : Addr} {o : HO}, H b = some o → (∀ kvs, o ≠ .dK kvs) → (∀ xs, o ≠ .lst xs) → Hid d W H b = some o := by
    intro b' o e1 n1 n2
    rw [Hid.at_ (fun z => ?_) (fun z => ?_)]
    · exact e1
    · rw [z, a] at e1
      exact n1 _ (Option.some.inj e1).symm
    · rw [z, b] at e1
      exact n2 _ (Option.some.inj e1).symm
  refine ⟨q, out h1 (fun _ z => nomatch z) (fun _ z => nomatch z), h2, fun pos cv hc => ?_⟩
  obtain ⟨c0, e1, e2⟩ := h3 pos cv hc
  exact ⟨c0, e1, out e2 (fun _ z => nomatch (show HO.ext _ = HO.dK _ from z)) (fun _ z => nomatch (show HO.ext _ = HO.lst _ from z))⟩
theorem Tabs.sd {T : List (Addr × Str)} {H H' : Hp} {d W C : Addr} {n : Nat} (D : Drw H d W C n) (h : Tabs T H) (s : Sd d W H H') : Tabs T H' := ((Tabs.hid D h).ext s).ext (Hid.sub d W H')
/-- the def's code object stands for its name -/
theorem fnG_ofT {Pr : Program} {w : World} {K : PySem.W.Frag} {mg : Str → Option Value} {base : Heap} {x qual : Str} {params : Arguments} {body : List Stmt} {scope : Scope} {dvs : List V} {kws : List (Str × V)} {p : He.Defn} {fd : FuncData}
    {CX : CXT} {N ps : List Str} {k : Nat} {sp : Sp} (F : FunD K x qual params body scope dvs kws (He.fAd K p) fd) (S : FnScope N ps scope) (size : ∀ {vs H Q E}, sp vs H Q E → vs.length = ps.length)
    (hb : ∀ (A : Around) (outer : List Env) (st : Shared) (H : Hp) (vs : List V) (Q : VK) (E : XK), Room k (A.deeper (envOfC qual scope st.heap.objs.size (He.fAd K p) (.ref (He.cT K p).1))) → (A.deeper (envOfC qual scope st.heap.objs.size (He.fAd K p) (.ref (He.cT K p).1))).guards = some [] → sp vs H Q E →
      ∃ t, PSs (cxOf CX Pr w K mg base N qual scope (He.fAd K p) (.ref (He.cT K p).1) A outer st H E) body t ∧ t { nx := fun _ H' => Q .non H', rt := Q } (start N vs) H) : FnG Pr w K mg base CX (k + 1) (He.fAd K p) fd ps sp := by
  obtain ⟨oc, od, dV, kV, doc, pm, an, cdv, ct, osl, e1, lk, hcd, e2, e3⟩ := F.ex
  obtain ⟨c, hc⟩ := He.codeIn_ref hcd
  have ec : He.codeOf K p = c := by
    refine He.codeOf_eq lk ?_
    rw [e1]
    exact hc
  refine fnG_ofC (x := x) (params := params) (cdv := .ref (He.cT K p).1) ⟨oc, od, dV, kV, doc, pm, an, ct, osl, ?_, lk, ?_⟩ S size hb
  · rw [e1, hc, show (He.cT K p).1 = c from ec]
  · rw [show (Value.ref (He.cT K p).1) = cdv by rw [hc, show (He.cT K p).1 = c from ec]]
    exact hcd
end Mw
set_option Elab.async false
set_option linter.all false
set_option maxRecDepth 100000
set_option maxHeartbeats 4000000
/-! dicts whose keys are tuples: displays of one pair, comprehensions -/
namespace Mw
open PySem PySem.Spec PyProof.Rows L2 LamX
/-- a pair comes into a dict that is being made; keys ints, texts or tuples of these -/
theorem dset {X : Cx} {pins : List (Addr × Obj)} {σ : L2.St} {H H' : Hp} {s : Shared} {E : Value → Shared → Prop} {D : Addr} {y z : V} {u r : Value} {Q : Unit → Shared → Prop} (hu : X.A.units < cLine)
    (I : Inv X pins σ H s) (put : DPut H D y z H') (ry : RelV y u) (rz : RelV z r) (h : ∀ s', Inv X pins σ H' s' → Q () s') : wpAny (model X.prog X.w) X.A (dictSet D u r) Q E s := by
  rcases put with ⟨kvs, k, e, rfl, l, rfl⟩ | ⟨kvs, k, b, e, rfl, eb, l, rfl⟩
  · exact d_dictSet I e l ry rz h
  · have eu : u = Value.ref b := ry
    obtain ⟨zl, hd, xs, rel, dd⟩ := dt_of I.hok e
    have lx : xs.length ≤ sizeLine := (Paired.length rel) ▸ zl
    have lp := length_putK kvs k z
    rw [eu]
    refine wpAny_dictSet_heap (hsz := lx) (knd := tupleKind (mixKind X.prog X.w)) hu (key_of I.hok eb) dd (fun h2 ⟨q, es, ep, g1, g2, g3, g4, _, g6⟩ sb => h _ ?_)
    refine d_write I (by rw [e]; trivial) sb ⟨q, g1⟩ ⟨by omega, hd, _, KT.keeps (rel.put k eb rz) (fun c ys ec => (upd_ne (ne_of ec e nofun)).trans ec), q, es, ep, g1, g2, g3, g4, g6⟩
/-- {k: v}, the key a tuple -/
def tDispT (tk tv : TE) : TE := fun σ H Q => ∀ p, H p = none → tk σ (upd H p (.dT [])) fun y H1 => tv σ H1 fun z H2 => ∃ H3, DPut H2 p y z H3 ∧ Q (.ref p) H3
theorem pe_dispT {X : Cx} {pos : Pos} {k v : Expr} {tk tv : TE} (hu : X.A.units < cLine) (hk : PE X k tk) (hv : PE X v tv) : PE X (.Dict [some k] [v] pos) (tDispT tk tv) := by
  constructor
  intro pins s σ H Q I q
  have fr := I.hok.fresh (Nat.le_refl s.heap.objs.size)
  have J := I.laid (t' := s.toks) (o := .dT []) (fun _ _ e => Heap.get?_push_of_some _ e) (Nat.le_refl _) (dt_empty s.heap I.big)
  have two := (pps_cons (pos := pos) hk hv pps_nil).run pins _ σ _ (fun ps H2 => match ps with
    | [(y, z)] => ∃ H3, DPut H2 s.heap.objs.size y z H3 ∧ Q (.ref s.heap.objs.size) H3
    | _ => False) J (q _ fr)
  refine wpAny_Dict_any rfl rfl (by simp) (by simp) (thn two fun ws s2 ⟨ps, H2, J2, rel, w⟩ => ?_)
  match ps, ws, rel, w with
  | [(y, z)], _, .cons ⟨r1, r2⟩ .nil, ⟨H3, put, qq⟩ =>
    unfold storeAll
    rw [List.forIn_cons]
    refine wpAny_bind (wpAny_bind (dset hu J2 put r1 r2 fun s3 J3 => wpAny_pure ?_))
    show wpAny _ _ (forIn [] _ _) _ _ _
    rw [List.forIn_nil]
    exact wpAny_pure ⟨.ref s.heap.objs.size, H3, J3, rfl, qq⟩
/-- {k: v for target in iter if ..}, keys of either kind: D the new dict, o0 what it begins as -/
def tDcP (wi : TI) (g : TG) (tt : TT) (tk tv : TE) (vs : List Nat) : TE := fun σ H Q => wi σ H fun J H1 => ∃ o0 : HO, (o0 = .dK [] ∨ o0 = .dT []) ∧ ∀ D, H1 D = none → ∃ W : Nat → Nat → Hp → Prop, (∃ m, W 0 m (upd H1 D o0)) ∧
  ∀ i m G, W i m G → (J.stop i G ∧ Q (.ref D) G) ∨ (J.go i G ∧ ∃ Nx : Hp → Prop, (∀ G', Nx G' → ∃ m', m' < m ∧ W (i + 1) m' G') ∧
    ∀ x G', J.yld i G x G' → g x (wipe σ vs) G' fun σ2 G2 => wipe σ2 vs = wipe σ vs ∧ tt σ2 G2 fun b G3 => if b = true then tk σ2 G3 fun y G4 => tv σ2 G4 fun z G5 => ∃ G6, DPut G5 D y z G6 ∧ Nx G6 else Nx G3)
/-- its run -/
theorem pe_dcP {X : Cx} {kx vx tg iter : Expr} {ifs : List Expr} {scope : Scope} {own : List (Str × Nat)} {pos : Pos} {wi : TI} {g : TG} {tt : TT} {tk tv : TE} (hu : X.A.units < cLine) (calm : X.calm = true) (nd : X.N.Nodup) (src : PI X tg iter wi)
    (ok : BlkOk X.N X.env.scope scope own) (ptg : ∀ (s : Shared) (H : Hp) (C : Addr) (cl : List (Str × Addr)) (fp : List Addr), PG (X.blk s H scope (compEnvC scope cl C X.env) fp) tg g)
    (pif : ∀ (s : Shared) (H : Hp) (C : Addr) (cl : List (Str × Addr)) (fp : List Addr), PTs (X.blk s H scope (compEnvC scope cl C X.env) fp) ifs tt)
    (pkx : ∀ (s : Shared) (H : Hp) (C : Addr) (cl : List (Str × Addr)) (fp : List Addr), PE (X.blk s H scope (compEnvC scope cl C X.env) fp) kx tk)
    (pvx : ∀ (s : Shared) (H : Hp) (C : Addr) (cl : List (Str × Addr)) (fp : List Addr), PE (X.blk s H scope (compEnvC scope cl C X.env) fp) vx tv) (fold : ∀ x, foldedSetIterable iter X.env x = pure x := by intro _; rfl) :
    PE X (.DictComp kx vx [⟨tg, iter, ifs, 0⟩] scope pos) (tDcP wi g tt tk tv (own.map (·.2))) := by
  constructor
  intro pins s σ H Q I h
  rw [arm_eval_DictComp]
  have frees : ∀ y ∈ scope.names, y.2 = .free → ∃ c, X.env.cells.lookup y.1 = some c := fun y m e => (ok.free y m e).elim (fun z => I.ok.has _ (.inl z)) (fun z => I.ok.has _ (.inr z))
  refine wpAny_comprehension_free (use := none) rfl fold (closure_ok frees) ok.kind (fun y m e => (ok.uniq y m).trans (by rw [e])) ?_
  refine thn (src.run pins s σ H _ I h) fun xv s1 w1 => thn w1 fun itv s2 w2 => ?_
  obtain ⟨it, fp, tn, J, H2, rfl, I2, T, st2, f2, o0, ho, q⟩ := w2
  refine wpAny_newObj_type (newEnv_comp ?_)
  have nD : H2 s2.heap.objs.size = none := I2.hok.fresh (Nat.le_refl _)
  obtain ⟨W, ⟨m0, w0⟩, turn⟩ := q _ nD
  generalize hD : s2.heap.objs.size = D at nD w0 turn
  generalize hs3 : ({ s2 with heap := s2.heap.push { cls := .type "dict", data := .dict #[] } } : Shared) = s3
  have top : s3.heap = s2.heap.push { cls := .type "dict", data := .dict #[] } := (congrArg Shared.heap hs3).symm
  have I3 : Inv X pins σ (upd H2 D o0) s3 := by
    subst hs3
    refine I2.laid (t' := s2.toks) (fun _ _ e => Heap.get?_push_of_some _ e) (Nat.le_of_eq hD) ?_
    subst hD
    rcases ho with rfl | rfl
    · exact dk_empty _ I2.big
    · exact dt_empty _ I2.big
  have push : ∀ b o, s2.heap.get? b = some o → s3.heap.get? b = some o := fun _ _ e => by
    rw [top]
    exact Heap.get?_push_of_some _ e
  have fps : ∀ b ∈ fp, FpOk X pins (upd H2 D o0) b ∧ b < s3.heap.objs.size := by
    intro b hb
    obtain ⟨o, e, _⟩ := T.obj _ _ st2 b hb
    have lt : b < D := hD ▸ Heap.lt_size e
    refine ⟨⟨(upd_ne (Nat.ne_of_lt lt)).trans (f2 b hb).1, (f2 b hb).2⟩, ?_⟩
    rw [top, Heap.size_push, hD]
    exact Nat.lt_succ_of_lt lt
  have st3 := T.keep _ _ _ st2 fun b _ o e => push b o e
  have B0 := block_start I3 ok nd fps
  have C1 := ptg s3 (upd H2 D o0) s3.heap.objs.size (cellsFrom (s3.heap.objs.size + 1) scope.names (cloFrom X.env.cells scope.names [])) fp
  have C2 := pif s3 (upd H2 D o0) s3.heap.objs.size (cellsFrom (s3.heap.objs.size + 1) scope.names (cloFrom X.env.cells scope.names [])) fp
  have C3 := pkx s3 (upd H2 D o0) s3.heap.objs.size (cellsFrom (s3.heap.objs.size + 1) scope.names (cloFrom X.env.cells scope.names [])) fp
  have C4 := pvx s3 (upd H2 D o0) s3.heap.objs.size (cellsFrom (s3.heap.objs.size + 1) scope.names (cloFrom X.env.cells scope.names [])) fp
  have s4k : ∀ b o, s3.heap.get? b = some o → (pushCells (s3.heap.push { cls := .type "dict", data := .dict #[] }) scope.names).get? b = some o := fun b o e => pushCells_keeps _ _ _ _ (Heap.get?_push_of_some _ e)
  generalize hen : compEnvC scope (cellsFrom (s3.heap.objs.size + 1) scope.names (cloFrom X.env.cells scope.names [])) s3.heap.objs.size X.env = en at B0 C1 C2 C3 C4
  have loc : en.locals = s3.heap.objs.size := by rw [← hen]; rfl
  generalize hs4 : ({ s3 with heap := pushCells (s3.heap.push { cls := .type "dict", data := .dict #[] }) scope.names } : Shared) = s4 at B0
  have st4 : tn 0 s4.heap := by
    rw [← hs4]
    exact T.keep _ _ _ st3 fun b _ o e => s4k b o e
  have goal : codeAny (model X.prog X.w) X.A (.compStart (.DictComp kx vx [⟨tg, iter, ifs, 0⟩] scope pos) 0 (.ref it) (.ref D) en) (compPost (model X.prog X.w) X.A X.xe none (EP X pins σ Q) (.ref D) en.locals) s4 := by
    have out : ∀ b ∈ fp, upd H2 D o0 b = none := fun b hb => (fps b hb).1.1
    generalize upd H2 D o0 = G0 at *
    have stay : ∀ {σ' : L2.St} {G : Hp} {s' : Shared}, Inv (X.blk s3 G0 scope en fp) [] σ' G s' → (∀ b ∈ fp, G b = none) → ∀ b ∈ fp, FpOk (X.blk s3 G0 scope en fp) [] G b := by
      intro σ' G s' J5 n b hb
      have z := J5.ok.exf b hb
      exact ⟨n b hb, z.1, J5.ok.exfs b hb, .inl hb, fun x c e => z.2 x c e, fun _ hp => nomatch hp⟩
    have run : codeAny (model X.prog X.w) X.A (.compLoop (.DictComp kx vx [⟨tg, iter, ifs, 0⟩] scope pos) 0 (.ref it) (.ref D) en) (compPost (model X.prog X.w) X.A X.xe none (EP X pins σ Q) (.ref D) en.locals) s4 := by
      refine compLoop_anyD (fun n s' => ∃ i G, W i n G ∧ Inv (X.blk s3 G0 scope en fp) [] (wipe σ (own.map (·.2))) G s' ∧ tn i s'.heap ∧ ∀ b ∈ fp, G b = none) ?_ m0 ⟨0, G0, w0, B0, st4, out⟩
      rintro n s5 ⟨i, G, w5, J5, st5, n5⟩
      obtain ⟨stop, fin⟩ | ⟨go, Nx, down, step⟩ := turn i n G w5
      · refine thnF (T.done (X.blk s3 G0 scope en fp) rfl rfl rfl calm i [] s5 _ G (fun _ _ => False) J5 (stay J5 n5) st5 stop) ?_
        rintro _ s6 ⟨rfl, J6⟩
        obtain ⟨m, hn, _⟩ := J6.loc
        have back : Inv X pins σ G s6 := I3.call' (ch := fp) J6.os J6.base J6.hok J6.bare fun b hb =>
          let z := (fps b hb).1.2
          ⟨z.2.2.1, z.1, z.2.2.2.1, z.2.2.2.2⟩
        obtain ⟨e0, e1, _, e3, e4, e5⟩ := I3.fpOk (b := en.locals) (Nat.le_of_eq loc.symm) (show G en.locals = none from J6.free)
        exact ⟨m, hn, fun h2 sb => ⟨.ref D, G, back.turned (t' := s6.toks) (fun b o hb e => (sb.2 b hb).trans e) e0 e1 e3 e4 e5, rfl, fin⟩⟩
      · refine thnF (T.item (X.blk s3 G0 scope en fp) rfl rfl rfl calm i [] s5 _ G (fun _ _ => False) J5 (stay J5 n5) st5 go) ?_
        rintro _ s6 ⟨u, rfl, w6⟩
        refine thnF w6 fun _ s7 ⟨x, G7, J7, r7, y7, st7, n7⟩ => ?_
        refine thnF (C1.run _ s7 _ G7 x u _ (J7.pinned (stay J7 n7) (T.obj _ _ st7)) r7 (step x G7 y7)) fun _ s8 ⟨σ8, G8, J8, wp8, q8⟩ => ?_
        have last : ∀ {s' : Shared} {G' : Hp}, Inv (X.blk s3 G0 scope en fp) ([] ++ pinsAt fp s7.heap) σ8 G' s' → Nx G' → ∃ m, m < n ∧ ∃ i G, W i m G ∧ Inv (X.blk s3 G0 scope en fp) [] (wipe σ (own.map (·.2))) G s' ∧ tn i s'.heap ∧ ∀ b ∈ fp, G b = none := by
          intro s' G' J' nx
          obtain ⟨m', lt, w'⟩ := down G' nx
          have pin : ∀ b ∈ fp, ∀ o, s7.heap.get? b = some o → s'.heap.get? b = some o ∧ G' b = none := by
            intro b hb o e
            obtain ⟨p1, p2, _⟩ := J'.pin (b, o) (List.mem_append_right _ (List.mem_append_right _ (mem_pinsAt hb e)))
            exact ⟨p1, p2⟩
          refine ⟨m', lt, i + 1, G', w', (J'.unpinned (pins := [])).weak (by rw [← wp8, wipe_length]) (fun j v e => ?_), T.keep _ _ _ st7 fun b hb o e => (pin b hb o e).1, fun b hb => ?_⟩
          · exact (wipe_some (wp8 ▸ e)).1
          · obtain ⟨o, e, _⟩ := T.obj _ _ st7 b hb
            exact (pin b hb o e).2
        refine thnF (C2.run _ s8 σ8 G8 _ J8 q8) fun b s9 ⟨G9, J9, q9⟩ => ?_
        match b, q9 with
        | false, q9 => exact last J9 q9
        | true, q9 =>
          replace q9 : tk σ8 G9 (fun y G4 => tv σ8 G4 fun z G5 => ∃ G6, DPut G5 D y z G6 ∧ Nx G6) := q9
          refine thnF (C3.run _ s9 σ8 G9 _ J9 q9) fun ku s10 ⟨ky, G10, J10, r10, q10⟩ => ?_
          refine thnF (C4.run _ s10 σ8 G10 _ J10 q10) fun vu s11 ⟨vy, G11, J11, r11, G12, put, nx⟩ => ?_
          exact dset (X := X.blk s3 G0 scope en fp) hu J11 put r10 r11 fun s12 J12 => last J12 nx
    exact codeAny_compStart_dict run (T.self X.A 0 _ _ _ st4 run)
  subst hen hs4 hs3 hD
  exact goal
theorem ex_dk {G : Hp} {a : Addr} {es : List (Key × V)} {Pr : List (Key × V) → Prop} {Z : Addr → Prop} (h : G a = some (.dK es)) (hp : Pr es) : ∃ b, V.ref a = V.ref b ∧ ((∃ y, G b = some (.dK y) ∧ Pr y) ∨ Z b) := ⟨a, rfl, .inl ⟨es, h, hp⟩⟩
theorem ex_dt {G : Hp} {a : Addr} {es : List (List Key × V)} {Pr : List (List Key × V) → Prop} {Z : Addr → Prop} (h : G a = some (.dT es)) (hp : Pr es) : ∃ b, V.ref a = V.ref b ∧ (Z b ∨ ∃ y, G b = some (.dT y) ∧ Pr y) := ⟨a, rfl, .inr ⟨es, h, hp⟩⟩
end Mw
set_option Elab.async false
set_option linter.all false
set_option maxRecDepth 100000
set_option maxHeartbeats 4000000
/-! sorted(set(text)) -/
namespace Mw
open PySem PySem.Spec PyProof.Rows L2
/-- a sign as a text -/
def sg (c : Nat) : Str := ⟨#[c]⟩
/-- the text of an entry -/
def enT (e : Int × Value) : Str := match e.2 with
  | .str k _ => k
  | _ => ⟨#[]⟩
def EnOk (w : World) (e : Int × Value) : Prop := ∃ k tk, e = (hashStr w k, Value.str k tk)
/-- the set at a holds just the texts ks -/
structure TSet (w : World) (h : Heap) (a : Addr) (ks : List Str) : Prop where
  ex : ∃ (o : Obj) (es : Array (Int × Value)) (ep : Nat) (t : SetTable), h.get? a = some o ∧ o.ExactSet ∧ o.data = .set es ep t ∧ (∀ e ∈ es.toList, EnOk w e) ∧ (es.toList.map enT).Perm ks ∧
    t.fits es.size = true ∧ Ris t.place.toList ∧ (w.params.followText "set-order" = true ∨ t.led = true)
  nd : ks.Nodup
  bd : ks.length < scanBound
section
variable {P : Program} {w : World} {A : Around} {E : Value → Shared → Prop} {s : Shared} {a : Addr} {ks : List Str}
theorem TSet.keep {h h' : Heap} (T : TSet w h a ks) (k : ∀ o, h.get? a = some o → h'.get? a = some o) : TSet w h' a ks := by
  obtain ⟨⟨o, es, ep, t, ho, r⟩, nd, bd⟩ := T
  exact ⟨⟨o, es, ep, t, k o ho, r⟩, nd, bd⟩
theorem en_is {e : Int × Value} (h : EnOk w e) (k : Str) : (strKind P w).is k e.2 = true ↔ enT e = k := by
  obtain ⟨k0, tk, rfl⟩ := h
  show Value.isStrOf k (.str k0 tk) = true ↔ k0 = k
  simp [Value.isStrOf]
theorem en_elems {l : List (Int × Value)} (h : ∀ e ∈ l, EnOk w e) : ElemsOf (strKind P w) l := fun e he => by
  obtain ⟨k, tk, rfl⟩ := h e he
  exact ⟨⟨k, strKind_is P w k tk, rfl⟩, rfl⟩
theorem tset_tail {g : Bool → Sem Unit} (hg : ∀ (b : Bool) (s1 : Shared) (Q1 : Unit → Shared → Prop), Q1 () s1 → wpAny (model P w) A (g b) Q1 E s1) {o : Obj} {es es1 : Array (Int × Value)} {ep : Nat} {t t2 : SetTable} {js : List Str}
    (ho : s.heap.get? a = some o) (hex : o.ExactSet) (hd : o.data = .set es ep t) (ok : ∀ e ∈ es1.toList, EnOk w e) (pm : (es1.toList.map enT).Perm js) (nd : js.Nodup) (bd : js.length < scanBound) (fit : t2.fits es1.size = true) (hr : Ris t2.place.toList)
    (hl : w.params.followText "set-order" = true ∨ t2.led = true) {dm : Bool} {R : Option Bool → Shared → Prop} (k : ∀ h', Heap.SameBut a s.heap h' → TSet w h' a js → R (some true) { s with heap := h' }) :
    wpAny (model P w) A (storeSet a es1 t2 >>= fun _ => if (!dm && t2.tooFull) = true then (g (relayAll t2 es1 (SetTable.grown es1.size)).2.2 >>= fun _ => storeSet a (relayAll t2 es1 (SetTable.grown es1.size)).1 (relayAll t2 es1 (SetTable.grown es1.size)).2.1 >>= fun _ => pure (some true)) else pure (some true)) R E s := by
  have sz : ∀ {xs : Array (Int × Value)}, (xs.toList.map enT).Perm js → xs.size < scanBound := fun {xs} p => by
    have l := p.length_eq
    rw [List.length_map, Array.length_toList] at l
    rw [l]
    exact bd
  refine wpAny_bind (wpAny_storeSet_of ho hd ?_ (fits_of_scanBound (sz pm)))
  have at1 := store_at (es' := es1) (t' := t2) ho hd
  have but1 := Heap.SameBut.update s.heap a (Obj.putSet es1 t2)
  by_cases c : (!dm && t2.tooFull) = true
  · rw [if_pos c]
    have p2 := relayAll_perm t2 es1 (SetTable.grown es1.size)
    have f2 := relayAll_fits t2 es1 (SetTable.grown es1.size)
    have r2 := relayAll_ris t2 es1 (SetTable.grown es1.size)
    have l2 := relayAll_led t2 es1 (SetTable.grown es1.size)
    revert p2 f2 r2 l2
    generalize relayAll t2 es1 (SetTable.grown es1.size) = Y
    obtain ⟨es2, t3, gv⟩ := Y
    intro p2 f2 r2 l2
    have pm2 : (es2.toList.map enT).Perm js := (p2.map enT).trans pm
    refine wpAny_bind (hg _ _ _ (wpAny_bind (wpAny_storeSet_of at1 rfl ?_ (fits_of_scanBound (sz pm2)))))
    refine wpAny_pure (k _ (but1.trans (Heap.SameBut.update _ a _)) ⟨⟨_, es2, _, t3, store_at (es' := es2) (t' := t3) at1 rfl, hex, rfl, fun e he => ok e (p2.mem_iff.mp he), pm2, f2, r2, hl.imp id fun z => ?_⟩, nd, bd⟩)
    exact l2.trans z
  · rw [if_neg c]
    exact wpAny_pure (k _ but1 ⟨⟨_, es1, _, t2, at1, hex, rfl, ok, pm, fit, hr, hl⟩, nd, bd⟩)
/-- one more text into the set -/
theorem TSet.add {k : Str} {tk : Tok} {Q : Bool → Shared → Prop} (T : TSet w s.heap a ks) (room : ks.length + 1 < scanBound)
    (q : ∀ b h', Heap.SameBut a s.heap h' → TSet w h' a (if k ∈ ks then ks else k :: ks) → Q b { s with heap := h' }) : wpAny (model P w) A (setAddHashed a (.str k tk) ((strKind P w).hash k)) Q E s := by
  have T0 := T
  obtain ⟨⟨o, es, ep, t, ho, hex, hd, ok, pm, hf, hr, hl⟩, nd, bd⟩ := T
  have hsz : es.size = ks.length := by
    have l := pm.length_eq
    rw [List.length_map, Array.length_toList] at l
    exact l
  have hb : es.size < scanBound := by rw [hsz]; exact bd
  have hkey : (strKind P w).is k (.str k tk) = true := strKind_is P w k tk
  have sc : (Value.str k tk).scannable = true := rfl
  have hel : ElemsOf (strKind P w) es.toList := en_elems ok
  unfold setAddHashed setAddHashedIn
  refine wpAny_holding (wpAny_bind (wpAny_setState_of ho hd hf ?_))
  dsimp only
  rw [byScan_of sc hb hel, if_pos rfl]
  unfold setAddByScan
  refine wpAny_bind (wpAny_bind (wpAny_rule (wpAny_bind (wpAny_setScan_of hkey ho hd hf hel ?_))))
  cases fi : List.findIdx? (fun e => (strKind P w).is k e.2) es.toList with
  | some j =>
    obtain ⟨hj, pj, _⟩ := List.findIdx?_eq_some_iff_getElem.mp fi
    have hm : k ∈ ks := pm.mem_iff.mp (List.mem_map.mpr ⟨_, List.getElem_mem hj, (en_is (P := P) (ok _ (List.getElem_mem hj)) k).mp pj⟩)
    refine wpAny_pure (wpAny_pure (q _ s.heap (Heap.SameBut.refl a s.heap) ?_))
    rw [if_pos hm]
    exact T0
  | none =>
    have hm : k ∉ ks := fun z => by
      obtain ⟨e, he, x⟩ := List.mem_map.mp (pm.mem_iff.mpr z)
      have y := List.findIdx?_eq_none_iff.mp fi e he
      rw [(en_is (P := P) (ok e he) k).mpr x] at y
      cases y
    have gw : ∀ (b : Bool) {s1 : Shared} {Q1 : Unit → Shared → Prop}, Q1 () s1 → wpAny (model P w) A (match b with | true => rule "set.scan.the-table-gave-way" | false => pure ()) Q1 E s1 := fun b s1 Q1 z => by
      cases b
      · exact wpAny_pure z
      · exact wpAny_rule z
    have p1 := layNew_perm t es ((strKind P w).hash k) (.str k tk)
    have f1 := layNew_fits t es ((strKind P w).hash k) (.str k tk)
    have r1 := layNew_ris t es ((strKind P w).hash k) (.str k tk) hr
    have l1 := layNew_led t es ((strKind P w).hash k) (.str k tk)
    dsimp only
    revert p1 f1 r1 l1
    generalize layNew t es ((strKind P w).hash k) (.str k tk) = Y
    obtain ⟨es1, t1, dm, gv⟩ := Y
    intro p1 f1 r1 l1
    rw [Array.toList_push] at p1
    have pc : es1.toList.Perm ((hashStr w k, Value.str k tk) :: es.toList) := p1.trans (List.perm_append_singleton _ _)
    have ok1 : ∀ e ∈ es1.toList, EnOk w e := fun e he => by
      rcases List.mem_cons.mp (pc.mem_iff.mp he) with z | z
      · exact ⟨k, tk, z⟩
      · exact ok e z
    have pm1 : (es1.toList.map enT).Perm (k :: ks) := (pc.map enT).trans (List.Perm.cons k pm)
    have nd1 : (k :: ks).Nodup := List.nodup_cons.mpr ⟨hm, nd⟩
    have led1 : w.params.followText "set-order" = true ∨ t1.led = true := hl.imp id fun z => Eq.trans l1 z
    have fin : ∀ h', Heap.SameBut a s.heap h' → TSet w h' a (k :: ks) → Q true { s with heap := h' } := fun h' sb z => by
      refine q true h' sb ?_
      rw [if_neg hm]
      exact z
    refine wpAny_bind (gw _ ?_)
    split
    · refine wpAny_bind ?_
      rw [hashByValue_scannable 8 sc]
      refine wpAny_pure ?_
      refine tset_tail (fun b s1 Q1 z => gw b z) ho hex hd ok1 pm1 nd1 room ?_ ?_ ?_ fun h' sb z => wpAny_pure (fin h' sb z)
      · split
        · exact SetTable.fits_plain_off f1
        · exact f1
      · split <;> exact r1
      · split <;> exact led1
    · refine wpAny_bind (wpAny_pure ?_)
      rw [if_pos rfl]
      exact tset_tail (fun b s1 Q1 z => gw b z) ho hex hd ok1 pm1 nd1 room f1 r1 led1 fun h' sb z => wpAny_pure (fin h' sb z)
end
end Mw
set_option Elab.async false
set_option linter.all false
set_option maxRecDepth 100000
set_option maxHeartbeats 4000000
namespace Mw
open PySem PySem.Spec PyProof.Rows L2
/-- a text's signs as texts, each once -/
def Met (l : List Nat) (ks : List Str) : Prop := ∀ y, y ∈ ks ↔ ∃ c ∈ l, y = sg c
theorem met_step {l : List Nat} {i c : Nat} {ks : List Str} (h : Met (l.take i) ks) (e : l[i]? = some c) : Met (l.take (i + 1)) (if sg c ∈ ks then ks else sg c :: ks) := by
  intro y
  rw [ls_take e]
  split
  · rename_i hm
    constructor
    · intro hy
      obtain ⟨d, hd, z⟩ := (h y).mp hy
      exact ⟨d, List.mem_append_left _ hd, z⟩
    · rintro ⟨d, hd, rfl⟩
      rcases List.mem_append.mp hd with hd | hd
      · exact (h _).mpr ⟨d, hd, rfl⟩
      · rw [List.mem_singleton.mp hd]
        exact hm
  · constructor
    · intro hy
      rcases List.mem_cons.mp hy with rfl | hy
      · exact ⟨c, List.mem_append_right _ (List.mem_singleton.mpr rfl), rfl⟩
      · obtain ⟨d, hd, z⟩ := (h y).mp hy
        exact ⟨d, List.mem_append_left _ hd, z⟩
    · rintro ⟨d, hd, rfl⟩
      rcases List.mem_append.mp hd with hd | hd
      · exact List.mem_cons_of_mem _ ((h _).mpr ⟨d, hd, rfl⟩)
      · rw [List.mem_singleton.mp hd]
        exact List.mem_cons_self
section
variable {P : Program} {w : World} {A : Around}
theorem tset_loop {I S : Addr} {x : Str} {St : Nat → Heap → Prop} {R : Result → Shared → Prop} (W : Walks P w A.in1 I [I] [I] x.cps.size (SignAt x) St) (ne : S ≠ I) (bd : x.cps.size + 1 < scanBound) : ∀ (k i : Nat) (s : Shared) (ks : List Str), x.cps.size - i = k → i ≤ x.cps.size → St i s.heap →
    TSet w s.heap S ks → ks.length ≤ i → Met (x.cps.toList.take i) ks →
    (∀ h' tk js, (∀ b o, b ≠ S → b ≠ I → s.heap.get? b = some o → h'.get? b = some o) → TSet w h' S js → Met x.cps.toList js → js.length ≤ x.cps.size → R (.ok (.ret .none)) { s with heap := h', toks := tk }) →
    codeAny (model P w) A (.builtin "set.update.loop" ⟨[.ref S, .ref I], []⟩) R s := by
  intro k
  induction k with
  | zero =>
    intro i s ks hk hi st T lk met fin
    have e : i = x.cps.size := by omega
    subst e
    refine codeAny_builtin PyProof.Rows.F.entry_set_update_loop ?_
    rw [Around.under_plainId PyProof.Rows.F.plain_set_update_loop _]
    show wpAny _ A.in1 (pyNext (.ref I) >>= _) _ _ s
    refine wpAny_bind (W.done s _ _ st fun h' tk keep => ?_)
    show wpAny _ A.in1 (ret Value.none) _ _ _
    refine wpAny_pure (fin h' tk ks (fun b o _ hb e => keep b o (by simpa using hb) e) (T.keep fun o e => keep S o (by simpa using ne) e) ?_ lk)
    rw [List.take_of_length_le (by rw [Array.length_toList]; exact Nat.le_refl _)] at met
    exact met
  | succ k ih =>
    intro i s ks hk hi st T lk met fin
    have lt : i < x.cps.size := by omega
    refine codeAny_builtin PyProof.Rows.F.entry_set_update_loop ?_
    rw [Around.under_plainId PyProof.Rows.F.plain_set_update_loop _]
    show wpAny _ A.in1 (pyNext (.ref I) >>= _) _ _ s
    refine wpAny_bind (W.item i s _ _ lt st fun v h1 tk1 hv st1 keep => ?_)
    obtain ⟨c, u, hc, rfl⟩ := hv
    have T1 : TSet w h1 S ks := T.keep fun o e => keep S o (by simpa using ne) e
    show wpAny _ A.in1 (holding [Value.str (sg c) u] (setAdd S (.str (sg c) u)) >>= _) _ _ _
    refine wpAny_bind (wpAny_holding ?_)
    unfold setAdd
    refine wpAny_holding (wpAny_bind ((strKind P w).pyHash (k := sg c) (strKind_is P w _ _) ?_))
    refine TSet.add (s := { s with heap := h1, toks := tk1 + 1 }) (k := sg c) (tk := u) (ks := ks) T1 (by omega) fun b h2 sb T2 => ?_
    have hcl : x.cps.toList[i]? = some c := by rw [Array.getElem?_toList]; exact hc
    refine wpAny_pure ⟨plainId_quiet PyProof.Rows.F.plain_set_update_loop _, ih (i + 1) _ _ (by omega) lt (W.frame _ h1 _ st1 fun b hb o e => ?_) T2 ?_ (met_step met hcl) fun h3 tk3 js keep3 T3 m3 l3 => ?_⟩
    · rw [List.mem_singleton] at hb
      show h2.get? b = some o
      rw [sb.2 b (fun z => ne (z.symm.trans hb))]
      exact e
    · split
      · omega
      · rw [List.length_cons]
        omega
    · refine fin h3 tk3 js (fun b o n1 n2 e => keep3 b o n1 n2 ?_) T3 m3 l3
      show h2.get? b = some o
      rw [sb.2 b n1]
      exact keep b o (by simpa using n2) e
end
section
variable {P : Program} {w : World} {A : Around} {E : Value → Shared → Prop} {s : Shared}
/-- a new set, empty -/
def newSet (w : World) : Obj := { cls := .type "set", dict := none, data := .set #[] 0 (.fresh 0 0 (!w.params.followText "set-order")) }
theorem set_new1 (a : Value) {Q1 : Value → Shared → Prop} (h : Q1 (.ref s.heap.objs.size) { s with heap := s.heap.push (newSet w) }) :
    codeAny (model P w) A (.call (.builtin "set.__new__") ⟨[.type "set", a], []⟩) (wants Q1 E) s := by
  refine codeAny_of_tree ?_
  show wpAny _ A.in1 (checkBuiltinCall "set.__new__" ⟨[.type "set", a], []⟩ >>= fun _ => again (.builtin "set.__new__" ⟨[.type "set", a], []⟩)) _ _ s
  refine wpAny_bind (wpAny_of_eq (PySem.F.newCall_set_1 a) (wpAny_pure ⟨plainId_quiet PySem.F.plain_set_new _, codeAny_builtin PySem.F.entry_set_new ?_⟩))
  rw [Around.under_plainId PySem.F.plain_set_new _]
  unfold Builtin.«set.__new__» Builtin.Frozenset.newClass
  have sub := sub_set_self
  obtain ⟨hp, g, d, tk, os⟩ := s
  dsimp only
  wp_walk
  refine wpAny_askSetting (wpAny_pure ?_)
  dsimp only
  simp only [newObj]
  exact wpAny_bind (wpAny_alloc (wpAny_pure (wpAny_pure h)))
theorem newSet_at {h' : Heap} {a : Addr} (w : World) (e : h'.get? a = some (newSet w)) : TSet w h' a [] := by
  refine ⟨⟨newSet w, #[], 0, _, e, ⟨rfl, rfl, rfl⟩, rfl, fun e he => by simp at he, .nil, rfl, List.Pairwise.nil, ?_⟩, List.nodup_nil, by decide⟩
  show _ ∨ (!w.params.followText "set-order") = true
  cases w.params.followText "set-order"
  · exact .inr rfl
  · exact .inl rfl
/-- set(text) -/
theorem call_set_text {x : Str} {u : Tok} {Q : Value → Shared → Prop} (hh : A.handled = none) (bd : x.cps.size + 1 < scanBound)
    (q : ∀ (h' : Heap) (tk : Nat) (ks : List Str), TSet w h' s.heap.objs.size ks → Met x.cps.toList ks → ks.length ≤ x.cps.size → (∀ b o, s.heap.get? b = some o → h'.get? b = some o) → Q (.ref s.heap.objs.size) { s with heap := h', toks := tk }) :
    wpAny (model P w) A (call (.type "set") [.str x u]) Q E s := by
  obtain ⟨c, tl, hmro⟩ := PySem.F.called_set.mro
  have hmade := PySem.F.called_set.made
  have hsub := PySem.F.called_set.sub
  refine wpAny_call (codeAny_of_tree ?_)
  show wpAny _ _ (callAny (.type "set") _) _ _ _
  refine wpAny_pure ⟨Code.quiet_builtin _ (by decide +kernel), codeAny_builtin PySem.F.entry_type_call ?_⟩
  rw [Around.under_plain (weight_type_call_type "set" [.str x u] []) rfl]
  have h1 := PySem.F.called_set.notType
  have h2 := PySem.F.called_set.canCreate
  have hct := PySem.F.typeCall_set_1 (.str x u)
  repeat (any_goals (first | assumption | wp_step))
  refine codeAny_mono (set_new1 (.str x u) (E := E) (Q1 := fun v s1 => v = .ref s.heap.objs.size ∧ s1 = { s with heap := s.heap.push (newSet w) }) ⟨rfl, rfl⟩) fun r s1 hr => ?_
  match r, hr with
  | .error e, hr => exact hr
  | .ok .next, hr => exact hr.elim
  | .ok .brk, hr => exact hr.elim
  | .ok .cont, hr => exact hr.elim
  | .ok (.ret v), ⟨e1, e2⟩ =>
    subst e1 e2
    have hS : (s.heap.push (newSet w)).get? s.heap.objs.size = some (newSet w) := Heap.get?_push_size _ rfl
    have hT : Shared.TypeIs { s with heap := s.heap.push (newSet w) } (.ref s.heap.objs.size) "set" := ⟨_, hS, rfl⟩
    have hli := PySem.F.called_set.init.lookup
    have hbi := PySem.F.called_set.init.bind (.ref s.heap.objs.size)
    repeat (any_goals (first | assumption | wp_step))
    refine codeAny_mono (codeAny_call_builtin (R := wants (fun v s2 => v = .none ∧ ∃ h' tk ks, s2 = { s with heap := h', toks := tk } ∧ TSet w h' s.heap.objs.size ks ∧ Met x.cps.toList ks ∧ ks.length ≤ x.cps.size ∧ ∀ b o, s.heap.get? b = some o → h'.get? b = some o) E) PySem.F.called_set.init.plain PySem.F.entry_set_init (check_set_init_1 hT ?_)) fun r2 s2 hr2 => ?_
    · have k1 := PySem.F.sub_str_set
      have k2 := PySem.F.sub_str_frozenset
      have k3 : (Value.type "str" == Value.type "dict") = false := by decide
      unfold Builtin.«set.__init__» noKeywords Builtin.Frozenset.updateFrom
      generalize hPI : pyIter = PI
      wp_walk
      subst hPI
      refine wpAny_pyIter_str fun o St W st => ?_
      refine wpAny_bind (wpAny_runValue ?_)
      have ne : s.heap.objs.size ≠ (s.heap.push (newSet w)).objs.size := by
        rw [Heap.size_push]
        exact Nat.ne_of_lt (Nat.lt_succ_self _)
      have h3 : A.in1.in1.in1.handled = none := by simp [hh]
      refine tset_loop (W _ h3) ne bd x.cps.size 0 _ [] rfl (Nat.zero_le _) st (newSet_at w (Heap.get?_push_of_some _ hS)) (Nat.le_refl _) (fun y => ⟨fun z => (nomatch z), fun ⟨d, hd, _⟩ => (nomatch hd)⟩) fun h' tk js keep T m l => ?_
      show wpAny _ _ _ _ _ _
      refine wpAny_pure ?_
      show wpAny _ _ (ret Value.none) _ _ _
      refine wpAny_pure ⟨rfl, h', tk, js, rfl, T, m, l, fun b o2 e => keep b o2 (Nat.ne_of_lt (Heap.lt_size e)) ?_ (Heap.get?_push_of_some _ (Heap.get?_push_of_some _ e))⟩
      rw [Heap.size_push]
      exact Nat.ne_of_lt (Nat.lt_succ_of_lt (Heap.lt_size e))
    · match r2, hr2 with
      | .error e, hr2 => exact hr2
      | .ok .next, hr2 => exact hr2.elim
      | .ok .brk, hr2 => exact hr2.elim
      | .ok .cont, hr2 => exact hr2.elim
      | .ok (.ret v), ⟨e1, h', tk, ks, e2, T, m, l, k⟩ =>
        subst e1 e2
        repeat (any_goals (first | assumption | wp_step))
        exact q _ _ _ T m l k
/-- sorted(the set) -/
theorem sorted_tset {a : Addr} {ks : List Str} {Q : Value → Shared → Prop} (hh : A.handled = none) (T : TSet w s.heap a ks) 
    (q : ∀ s' p (out : Array Value) (c : Nat) (ss : List Str), (∀ b o, s.heap.get? b = some o → s'.heap.get? b = some o) → s'.gens = s.gens → s'.os = s.os → s.heap.objs.size ≤ p → s'.heap.get? p = some (seqObj "list" out c) →
      StrsAre out.toList ss → ss.Perm ks → sortedS ss = true → Q (.ref p) s') : wpAny (model P w) A (call (.builtin "sorted") [.ref a]) Q E s := by
  obtain ⟨⟨o, es, ep, t, ho, hex, hd, ok, pm, hf, hr, hl⟩, nd, bd⟩ := T
  have hsz : es.size = ks.length := by
    have l := pm.length_eq
    rw [List.length_map, Array.length_toList] at l
    exact l
  have hb : es.size < scanBound := by rw [hsz]; exact bd
  refine Calls.call_function_entry kind_sorted plain_sorted entry_sorted (args_sorted1 _) ?_
  unfold Builtin.«sorted»
  refine wpAny_bind (m := checkCount "sorted" 1 1 _) (wpAny_pure (wpAny_bind (collect_set (A := A.in1) hh ⟨o, ho, hex.1, hd⟩ hf hb hr hl fun s1 vs k1 hz g1 o1 p1 => ?_)))
  have allS : ∀ l : List Value, (∀ v ∈ l, ∃ k tk, v = Value.str k tk) → StrsAre l (l.map fun v => match v with | .str k _ => k | _ => ⟨#[]⟩) := by
    intro l
    induction l with
    | nil => exact fun _ => .nil
    | cons v l ih =>
      intro z
      obtain ⟨k, tk, rfl⟩ := z v List.mem_cons_self
      exact .cons k tk (ih fun u hu => z u (List.mem_cons_of_mem _ hu))
  have hS := allS vs fun v hv => by
    obtain ⟨e, he, y⟩ := List.mem_map.mp (p1.mem_iff.mp hv)
    obtain ⟨k, tk, rfl⟩ := ok e he
    exact ⟨k, tk, y.symm⟩
  have pk : (vs.map fun v => match v with | .str k _ => k | _ => (⟨#[]⟩ : Str)).Perm ks := by
    have y := p1.map (fun v => match v with | .str k _ => k | _ => (⟨#[]⟩ : Str))
    rw [List.map_map] at y
    exact y.trans pm
  have hvl : vs.length ≤ sizeLine := by
    rw [p1.length_eq, List.length_map, Array.length_toList]
    exact fits_of_scanBound hb
  refine wpAny_bind (wpAny_newList ?_ hvl)
  have at1 : (s1.heap.push (seqObj "list" vs.toArray 0)).get? s1.heap.objs.size = some (seqObj "list" vs.toArray 0) := Heap.get?_push_size _ rfl
  refine wpAny_bind (wpAny_holding (wpAny_call_entry slot_list_sort ⟨_, at1, rfl⟩ entry_list_sort (list_sort_treeKAny strKind_oneLt at1 hS.keysOf (fun v1 v2 rest e => keyKind_strs (by rw [← e]; exact hS)) hvl fun st' hp hs => ?_) (args_list_sort _)))
  obtain ⟨ss, y1, y2, y3⟩ := sorted_out_str hS hp hs
  refine ⟨_, rfl, ?_⟩
  obtain ⟨c, hc⟩ := sortedHeap_at (vs := vs) (out := (arrOf st').map (·.2)) at1
  refine wpAny_pure ⟨_, rfl, q _ s1.heap.objs.size _ c ss (fun b u e => ?_) g1 o1 hz hc y1 (y2.trans pk) y3⟩
  have z := k1 b u e
  have lt := Heap.lt_size z
  refine (sortedHeap_old (Nat.ne_of_lt lt) ?_).trans (Heap.get?_push_of_some _ z)
  rw [size_push']
  exact Nat.lt_succ_of_lt lt
end
end Mw
set_option Elab.async false
set_option linter.all false
set_option maxRecDepth 100000
set_option maxHeartbeats 4000000
namespace Mw
open PySem PySem.Spec PyProof.Rows L2 LamX
/-- the set of texts at a -/
def TSO (w : World) (a : Addr) (ks : List Str) : HO := .ext fun h => TSet w h a ks
section
variable {X : Cx}
theorem tso_new {w : World} {P : Program} {H : Hp} {h : Heap} {a : Addr} {ks : List Str} (T : TSet w h a ks) : ObjOk P w H h a (TSO w a ks) := by
  have ⟨⟨o, _, _, _, ho, _⟩, _, _⟩ := T
  exact ⟨T, ⟨o, ho⟩, fun h1 h2 p k => TSet.keep p k⟩
def rSetText (w : World) : List V → Hp → VK → Prop := fun xs H Q => ∃ x : Str, xs = [.str x] ∧ x.cps.size + 1 < scanBound ∧ ∀ (p : Addr) (ks : List Str), H p = none → Met x.cps.toList ks → ks.Nodup → ks.length ≤ x.cps.size → Q (.ref p) (upd H p (TSO w p ks))
theorem cr_setText (calm : X.calm = true) : CallR X (.type "set") (rSetText X.w) := by
  rintro pins s σ H xs us Q I r ⟨x, rfl, bd, q⟩
  obtain ⟨u, rfl, t, rfl⟩ := vals1 r
  refine call_set_text (I.ok.hd calm) bd fun h' tk ks T m l keep => ?_
  exact ⟨.ref _, upd H s.heap.objs.size (TSO X.w s.heap.objs.size ks), I.laid keep (Nat.le_refl _) (tso_new T), rfl, q _ ks (I.hok.fresh (Nat.le_refl _)) m T.nd l⟩
def rSortText (w : World) : List V → Hp → VK → Prop := fun xs H Q => ∃ (a : Addr) (ks : List Str), xs = [.ref a] ∧ H a = some (TSO w a ks) ∧ ks.length ≤ 1000 ∧ ∀ (p : Addr) (ss : List Str), H p = none → ss.Perm ks → sortedS ss = true → Q (.ref p) (upd H p (.lst (ss.map V.str)))
theorem cr_sortText (calm : X.calm = true) : CallR X (.builtin "sorted") (rSortText X.w) := by
  rintro pins s σ H xs us Q I r ⟨a, ks, rfl, ha, small, q⟩
  have T : TSet X.w s.heap a ks := (I.hok a _ ha).1
  rw [Vals.ref1 r]
  refine sorted_tset (I.ok.hd calm) T fun s1 p out c ss keep g o hp hob sT pm srt => ?_
  have lenS : (ss.map V.str).length ≤ sizeLine := by
    rw [List.length_map, pm.length_eq]
    exact Nat.le_of_lt (small1000 small)
  have free : H p = none := I.hok.fresh hp
  have J : Inv X pins σ (upd H p (.lst (ss.map V.str))) { s with heap := s1.heap, gens := s1.gens, drawn := s1.drawn, toks := s1.toks } :=
    I.call (ch := []) (Un.laid keep hp free) (I.hok.laid keep hp ⟨lenS, out.toList, c, vals_of_strs sT, hob⟩) (g ▸ I.bare) (fun _ z => nomatch z)
  have e : s1 = { s with heap := s1.heap, gens := s1.gens, drawn := s1.drawn, toks := s1.toks } := by
    cases s1
    cases s
    cases o
    rfl
  rw [e]
  exact ⟨.ref p, _, J, rfl, q p ss free pm srt⟩
end
theorem each_strs {out : List Value} : ∀ {ys : List Str}, PySem.W.EachIs (fun v (y : Str) => ∃ t, v = Value.str y t) out ys → Vals (ys.map V.str) out := by
  intro ys h
  induction h with
  | nil => exact .nil
  | cons h1 _ ih => exact .cons h1 ih
theorem strs_each : ∀ {ys : List Str} {out : List Value}, Vals (ys.map V.str) out → PySem.W.EachIs (fun v (y : Str) => ∃ t, v = Value.str y t) out ys
  | [], out, h => by
    cases h
    exact .nil
  | y :: ys, out, h => by
    rw [List.map_cons] at h
    cases h with
    | cons h1 h2 => exact .cons h1 (strs_each h2)
end Mw
set_option Elab.async false
set_option linter.all false
set_option maxRecDepth 100000
set_option maxHeartbeats 4000000
namespace Mw
open PySem PySem.Spec PyProof.Rows L2 LamX
def kLen (y : Str) : PyData := .int y.length
def kLenText (y : Str) : PyData := .tuple [.int y.length, .str y]
section
variable {X : Cx} {pins : List (Addr × Obj)} {σ : L2.St} {H : Hp} {s : Shared}
theorem sort_key {a : Addr} {ys : List Str} {f : Value} {Q : VK} (k : Str → PyData) (I : Inv X pins σ H s) (hs : SqL X.K H a (ys.map V.str)) (small : ys.length ≤ 1000) (al : PySem.W.AllAlike (ys.map k)) (so : PySem.W.Sortable (ys.map k)) (dp : ∀ y ∈ ys, (k y).depth ≤ 60) (hu : X.A.units + 64 < cLine)
    (ht : ∀ x : Addr, Builtin.«list.sort» ⟨[.ref x], [(Str.ofString "key", f)]⟩ = ksk_tree x f false)
    (turn : ∀ y ∈ ys, ∀ (t : Tok) (h : Heap) (tk : Nat), (∀ b o, s.heap.get? b = some o → h.get? b = some o) → wpAny (model X.prog X.w) X.A.in1.in1 (call f [.str y t]) (PySem.W.KeyPure (k y) { s with heap := h, toks := tk }) (fun _ _ => False) { s with heap := h, toks := tk })
    (q : ∀ p, H p = none → Q (.ref p) (upd H p (.lst ((ys.mergeSort (PySem.W.dataLe false k)).map V.str)))) :
    wpAny (model X.prog X.w) X.A (call (.builtin "sorted") [.ref a] [(Str.ofString "key", f)]) (EP X pins σ Q) X.xe s := by
  obtain ⟨its, rv, hl, _⟩ := I.list hs
  have line : ys.length ≤ sizeLine := Nat.le_of_lt (small1000 small)
  refine PySem.W.sorted_key_data (b := false) (vs := its) k hl.isList (strs_each rv) al so line (fun y hy => ?_) (ksk_s1 _ _) (fun _ => ksk_l1 _ _) ht (fun v y hv hy h tk keep => ?_) fun out c h' tk keep _ hD len each => ?_
  · have d := dp y hy
    omega
  · obtain ⟨t, rfl⟩ := hv
    exact turn y hy t h tk keep
  · have lz : ((ys.mergeSort (PySem.W.dataLe false k)).map V.str).length ≤ sizeLine := by
      rw [List.length_map, List.length_mergeSort]
      exact line
    exact ⟨.ref _, upd H (s.heap.objs.size + 1) (.lst ((ys.mergeSort (PySem.W.dataLe false k)).map V.str)), I.laid keep (Nat.le_succ _) ⟨lz, out, c, each_strs each, hD⟩, rfl, q _ (I.hok.fresh (Nat.le_succ _))⟩
theorem len_turn {A : Around} {h : Heap} {tk : Nat} {y : Str} {t : Tok} {w : World} {P : Program} (ly : y.length ≤ 1000) : wpAny (model P w) A (call (.builtin "len") [.str y t]) (PySem.W.KeyPure (kLen y) { s with heap := h, toks := tk }) (fun _ _ => False) { s with heap := h, toks := tk } :=
  len_str (by omega) ⟨h, _, rfl, fun _ _ e => e, .int _ _⟩
end
section
variable {X : Cx}
def tSortLen (K : PySem.W.Frag) (te : TE) : TE := fun σ H Q => te σ H fun x H1 => ∃ (a : Addr) (ys : List Str), x = .ref a ∧ SqL K H1 a (ys.map V.str) ∧ ys.length ≤ 1000 ∧ (∀ y ∈ ys, y.length ≤ 1000) ∧
  ∀ p, H1 p = none → Q (.ref p) (upd H1 p (.lst ((ys.mergeSort (PySem.W.dataLe false kLen)).map V.str)))
/-- sorted(e, key=len), the items texts -/
theorem pe_sortLen {e : Expr} {te : TE} {p p2 kp pos : Pos} (hu : X.A.units + 64 < cLine) (g1 : Gl X "sorted") (m1 : X.mg "sorted" = none) (g2 : Gl X "len") (m2 : X.mg "len" = none) (he : PE X e te)
    (st : backTo pos (starEach [e] X.env) = (false, eval e X.env) :: backTo pos (starEach [] X.env) := by rfl) (hpl : (backTo pos (starEach [e] X.env)).any (·.1) = false := by rfl) :
    PE X (.Call (.Name "sorted" p) [e] [⟨some "key", .Name "len" p2, kp⟩] pos) (tSortLen X.K te) := by
  refine ⟨fun pins s σ H Q I h => wpAny_Call_Name_kw (ld_blt (u := .builtin "sorted") I g1 m1 (by decide +kernel) ?_)⟩
  refine PyProof.Rows.callWith_kw ?_ st hpl rfl rfl
  rw [st]
  refine Calls.spliced_cons (thn (he.run pins s σ H _ I h) fun u s1 ⟨x, H1, J, r, a, ys, ex, hs, small, ly, q⟩ => Calls.spliced_nil ?_)
  show wpAny _ _ (evalAll ((eval (.Name "len" p2) X.env >>= fun v => standAt pos >>= fun _ => pure v) :: [])) _ _ _
  refine wpAny_evalAll_cons (wpAny_bind (ld_blt (u := .builtin "len") J g2 m2 (by decide +kernel) (wpAny_bind (wpAny_standAt (wpAny_pure (wpAny_evalAll_nil ?_))))))
  subst ex
  obtain rfl : u = Value.ref a := r
  refine sort_key kLen J hs small ?_ ?_ ?_ hu (fun x => ksk_t4 _ _) (fun y hy t h' tk keep => len_turn (ly y hy)) q
  · exact PySem.W.AllAlike.of fun _ _ => by simp [PySem.W.alike, kLen]
  · refine .inr fun d hd => ?_
    obtain ⟨y, _, rfl⟩ := List.mem_map.mp hd
    exact ⟨nofun, nofun⟩
  · intro y _
    show PyData.depth (.int _) ≤ 60
    simp [PyData.depth]
/-- the lambda y: (len(y), y) -/
structure KeyLam (sc scope : Scope) (params : Arguments) (y : Str) : Prop where
  kind : scope.kind = .function
  co : scope.isCoroutine = false
  gen : scope.isGenerator = false
  cell : ∀ x ∈ scope.names, x.2 ≠ .cell
  free : ∀ x ∈ scope.names, x.2 ≠ .free
  loc : scope.names.lookup y = some .local
  glo : scope.names.lookup ("len" : Str) = some .globalImplicit
  bind : ∀ (q : Str) (cl : List (Str × Addr)) (pm cv ctv v : Value) (body : Expr), bindArgs (PySem.W.kla_fn "<lambda>" q params body scope cl pm cv ctv) ⟨[v], []⟩ = pure [(y, v)]
  dbg : (y == ("__debug__" : Str)) = false
  ncl : (y == ("__classdict__" : Str)) = false
theorem body_turn {P : Program} {w : World} {A : Around} {E : Value → Shared → Prop} {env : Env} {s1 : Shared} {h0 : Heap} {y z : Str} {t : Tok} {mg : Str → Option Value} {mb : Str → Option Value} {tk : Nat} {p1 p2 p3 p4 p5 : Pos} (ek : env.scope.kind = .function) (loc : env.kindOf y = some .local) (glo : env.kindOf "len" = some .globalImplicit)
    (n1 : s1.heap.Ns env.locals fun x => [(y, Value.str z t)].reverse.lookup x) (n2 : s1.heap.Ns env.globals mg) (n3 : s1.heap.Ns env.builtins mb) (m2 : mg "len" = none) (b2 : mb "len" = bootBuiltins "len") (dbg : (y == ("__debug__" : Str)) = false) (lz : z.length ≤ 1000)
    (keep : ∀ b o, h0.get? b = some o → s1.heap.get? b = some o) :
    wpAny (model P w) A (spliced (backTo p5 (starEach [.Call (.Name ("len" : Str) p1) [.Name y p2] [] p3, .Name y p4] env))) (fun vs s2 => vs.length ≤ sizeLine ∧ PySem.W.KeyPure (kLenText z) { s1 with heap := h0, toks := tk } (.ref s2.heap.objs.size) { s2 with heap := s2.heap.push { cls := .type "tuple", data := .seq vs.toArray } }) E s1 := by
  have at_ : (fun x => [(y, Value.str z t)].reverse.lookup x) y = some (Value.str z t) := by simp
  show wpAny _ _ (spliced ((false, eval (.Call (.Name ("len" : Str) p1) [.Name y p2] [] p3) env) :: (false, eval (.Name y p4) env) :: [])) _ _ _
  refine Calls.spliced_cons (wpAny_Call_Name_kw (Calls.Name_function_global ek glo (Calls.loadGlobal_builtin n2 m2 n3 b2 ?_)))
  refine PyProof.Rows.callWith_builtin1 (env := env) (rest := []) ?_
  show wpAny _ _ (spliced ((false, eval (.Name y p2) env) :: [])) _ _ _
  refine Calls.spliced_cons (wpAny_Name (wpAny_loadName_local ek loc n1 at_ (Calls.spliced_nil ?_)) dbg)
  refine len_str (by omega) ?_
  refine Calls.spliced_cons (wpAny_Name (wpAny_loadName_local ek loc n1 at_ (Calls.spliced_nil ⟨le_line (by simp), ?_⟩)) dbg)
  exact ⟨_, _, rfl, fun b o e => Heap.get?_push_of_some _ (keep b o e), .tuple (Heap.get?_push_size _ rfl) rfl rfl (.cons (.int _ _) (.cons (.str _ _) .nil))⟩
theorem lam_turn {A : Around} {pins : List (Addr × Obj)} {σ : L2.St} {H : Hp} {s : Shared} {h : Heap} {tk : Nat} {f c' : Addr} {pm ctv : Value} {cl : List (Str × Addr)} {q y z : Str} {t : Tok} {params : Arguments} {scope sc : Scope} {k1 : Nat} {p1 p2 p3 p4 p5 : Pos} (I : Inv X pins σ H s) (K : KeyLam sc scope params y) (dp : A.depth < recursionLimit) (m2 : X.mg "len" = none) (lz : z.length ≤ 1000)
    (lam : s.heap.get? f = some (PySem.W.kla_obj "<lambda>" q params (.Tuple [.Call (.Name "len" p1) [.Name y p2] [] p3, .Name y p4] k1 p5) scope cl pm c' ctv)) (code : H c' = some (CodeO c' q)) (keep : ∀ b o, s.heap.get? b = some o → h.get? b = some o) :
    wpAny (model X.prog X.w) A (call (.ref f) [.str z t]) (PySem.W.KeyPure (kLenText z) { s with heap := h, toks := tk }) (fun _ _ => False) { s with heap := h, toks := tk } := by
  obtain ⟨⟨oc, vs, tq, o1, o2, o3⟩, _, _⟩ := I.hok c' _ code
  have run : codeAny (model X.prog X.w) A (.call (.ref f) ⟨[.str z t], []⟩) (fun r s2 => match r with | .ok (.ret u) => PySem.W.KeyPure (kLenText z) { s with heap := h, toks := tk } u s2 | _ => False) { s with heap := h, toks := tk } := by
    refine PySem.W.kla_callFunE dp (keep _ _ lam) rfl K.co K.gen rfl ⟨c', oc, vs, tq, rfl, keep _ _ o1, o2, o3⟩ ?_
    rw [K.bind]
    refine wpAny_pure (wpAny_newFunctionEnv K.cell (fun x hx => ?_) (fun h1 names but => ?_) K.kind)
    · rw [List.mem_singleton.mp hx]
      exact K.loc
    have k2 : ∀ b o, h.get? b = some o → h1.get? b = some o := fun b o e => but.extBut b o (Nat.ne_of_lt (Heap.lt_size e)) (Heap.get?_push_of_some _ e)
    have k3 : ∀ b o, X.base.get? b = some o → h1.get? b = some o := fun b o e => k2 _ _ (keep _ _ (I.bk b o e))
    obtain ⟨mb, b1, b2⟩ := I.mod.blt
    refine ⟨(I.mod.nolimit.keeps k3), ?_⟩
    refine PySem.W.kla_codeExpr (wpAny_Tuple_spliced ?_)
    exact body_turn (P := X.prog) (w := X.w) (mg := X.mg) (mb := mb) (h0 := h) (tk := tk) (s1 := { s with heap := h1, toks := _ }) K.kind K.loc K.glo names (I.mod.glob.keeps k3) (b1.keeps k3) m2 (b2 _ (by decide)) K.dbg lz k2
  refine wpAny_call (codeAny_mono run fun r s2 z => ?_)
  match r, z with
  | .ok (.ret u), z => exact z
def tSortLam (K : PySem.W.Frag) (T : List (Addr × Str)) (te : TE) : TE := fun σ H Q => te σ H fun x H1 => ∃ (a : Addr) (ys : List Str), x = .ref a ∧ Tabs T H1 ∧ ys.length ≤ 1000 ∧ (∀ y ∈ ys, y.length ≤ 1000) ∧ ∀ H2, ExtN H1 H2 → Tabs T H2 → SqL K H2 a (ys.map V.str) ∧
  ∀ p, H2 p = none → Q (.ref p) (upd H2 p (.lst ((ys.mergeSort (PySem.W.dataLe false kLenText)).map V.str)))
/-- sorted(e, key=lambda y: (len(y), y)), the items texts -/
theorem pe_sortLam {T : List (Addr × Str)} {e : Expr} {te : TE} {params : Arguments} {scope : Scope} {y : Str} {c P : Addr} {k1 : Nat} {p p1 p2 p3 p4 p5 lpos kp pos : Pos} (room : Room 2 X.A) (g1 : Gl X "sorted") (m1 : X.mg "sorted" = none) (m2 : X.mg "len" = none)
    (TB : TabB X.base X.mg c P) (hcode : X.env.code = .ref c) (hmT : (P, X.env.qual ++ "<lambda>") ∈ T) (hup : ∀ p ∈ T, p.1 = P → p.2 = X.env.qual ++ "<lambda>") (hdef : defaultsOf params X.env = ([], [])) (L : KeyLam X.env.scope scope params y) (he : PE X e te)
    (st : backTo pos (starEach [e] X.env) = (false, eval e X.env) :: backTo pos (starEach [] X.env) := by rfl) (hpl : (backTo pos (starEach [e] X.env)).any (·.1) = false := by rfl) :
    PE X (.Call (.Name "sorted" p) [e] [⟨some "key", .Lambda params (.Tuple [.Call (.Name ("len" : Str) p1) [.Name y p2] [] p3, .Name y p4] k1 p5) scope lpos, kp⟩] pos) (tSortLam X.K T te) := by
  refine ⟨fun pins s σ H Q I h => wpAny_Call_Name_kw (ld_blt (u := .builtin "sorted") I g1 m1 (by decide +kernel) ?_)⟩
  refine PyProof.Rows.callWith_kw ?_ st hpl rfl rfl
  rw [st]
  refine Calls.spliced_cons (thn (he.run pins s σ H _ I h) fun u s1 ⟨x, H1, J, r, a, ys, ex, tabs, small, ly, q⟩ => Calls.spliced_nil ?_)
  show wpAny _ _ (evalAll ((eval (.Lambda params _ scope lpos) X.env >>= fun v => standAt pos >>= fun _ => pure v) :: [])) _ _ _
  refine wpAny_evalAll_cons (wpAny_bind (lam_make2 J TB hcode hmT hup tabs hdef (fun x hx e => absurd e (L.free x hx)) fun f c' pm ctv H2 s2 J2 ext tabs2 lam noF frF code => wpAny_bind (wpAny_standAt (wpAny_pure (wpAny_evalAll_nil ?_)))))
  subst ex
  obtain rfl : u = Value.ref a := r
  obtain ⟨hs, q2⟩ := q H2 ext tabs2
  refine sort_key kLenText J2 hs small ?_ ?_ ?_ room.units (fun x => ksk_t1 _ _) (fun z hz t h' tk keep => lam_turn J2 L ?_ m2 (ly z hz) lam code keep) q2
  · exact PySem.W.AllAlike.of fun _ _ => by simp [PySem.W.alike, PySem.W.alikeAll, kLenText]
  · exact PySem.W.Sortable.tuples fun _ => ⟨_, _, rfl⟩
  · intro z _
    show PyData.depth (.tuple [.int _, .str _]) ≤ 60
    simp [PyData.depth, PyData.depthAll]
  · have d := room.dp
    show X.A.in1.in1.depth < recursionLimit
    exact Nat.lt_of_le_of_lt (Nat.le_of_eq rfl) (Nat.lt_of_le_of_lt (by show X.A.depth ≤ X.A.depth + 3 * 2 + 5; omega) d)
end
end Mw
set_option Elab.async false
set_option linter.all false
set_option maxRecDepth 100000
set_option maxHeartbeats 4000000
namespace Mw
open PySem PySem.Spec PyProof.Rows L2 LamX
section
variable {prog : Program} {w : World} {A : Around} {E : Value → Shared → Prop} {s : Shared} {K : PySem.W.Frag} {x C L f : Addr} {h₀ : Heap} {m : Str → Option Value} {ox : Obj} {od : Option Obj} {b tb : Value}
open PySem.W in
theorem ne_K {Q : Value → Shared → Prop} (hu : A.units + 1 < cLine) (F : Fr h₀ L s.heap m) (X0 : K.In h₀) (I : InstAt s.heap x ox C od) (hb : Looks (model prog w) s.heap (typeOf b) tb) (hn : notFirst K C tb = true) (hs : findIn K (.ref C) "__eq__" = some (some (.ref f))) (hf : isFn K (.ref f) = true)
    (hne : findIn K (.ref C) "__ne__" = some (some (.builtin "object.__ne__"))) (hsub : subIn K (.ref C) (.type "object") = some true)
    (h : wpAny (model prog w) A.in1 (call (.ref f) [.ref x, b]) (fun v s' => ∃ c, v = .bool c ∧ Q (.bool (!c)) s') E s) : wpAny (model prog w) A (richCompare .NotEq (.ref x) b) Q E s := by
  have X := X0.keeps F.keep
  have one : wpAny (model prog w) A (tryCompare (.ref x) (cmpInfo .NotEq).2.1 b) (fun r s' => ∃ v, r = some v ∧ Q v s') E s := by
    unfold tryCompare
    refine wpAny_bind ?_
    simp only [callSpecialIfBound?, bindSpecialIfBound?]
    have S : Slot "object" "__ne__" "object.__ne__" := PySem.F.cmp_object.ne
    refine wpAny_holding (wpAny_bind (wpAny_bind (wpAny_bind (I.type.here ((looks_findIn X hne).here ?_)))))
    dsimp only
    simp only [S.bind]
    have body : wpAny (model prog w) A.in1 (Builtin.«object.__ne__» ⟨[.ref x, b], []⟩) (fun fin s' => ∃ v, fin = .done (.ret v) ∧ v ≠ .notImplemented ∧ Q v s') E s := by
      unfold Builtin.«object.__ne__»
      have back : ∀ {c : Bool} {s' : Shared}, Q (.bool (!c)) s' → wpAny (model prog w) A.in1 (match (some (Value.bool c) : Option Value) with | some .notImplemented => ret .notImplemented | none => ret .notImplemented | some r => (do ret (.bool (!(← truthy r))))) (fun fin s' => ∃ v, fin = .done (.ret v) ∧ v ≠ .notImplemented ∧ Q v s') E s' := by
        intro c s' q
        exact wpAny_bind (wpAny_truthy_bool (wpAny_pure ⟨_, rfl, nofun, q⟩))
      repeat (first
        | with_reducible refine wpAny_cRoomFor (show A.in1.units < cLine from hu) ?_
        | (refine wpAny_bind (m := callSpecialIfBound? (.ref x) (Str.ofString "__eq__") [b]) (ifBound_K X I hs hf (wpAny_mono h (fun v s' ⟨c, e, q⟩ => ?_) fun _ _ e => e)); subst e; exact back q)
        | wp_step)
    have fin : wpAny (model prog w) A (call (.builtin "object.__ne__") ([.ref x] ++ [b])) (fun v s' => v ≠ Value.notImplemented ∧ Q v s') E s := by
      refine wpAny_call (codeAny_call_builtin (R := wants (fun v s' => v ≠ Value.notImplemented ∧ Q v s') E) S.plain PySem.F.cmpEntry_ne ?_)
      simp only [checkBuiltinCall, PySem.F.cmpKind_ne, PySem.F.cmpSplit_ne]
      refine wpAny_bind ?_
      unfold isInstance
      refine wpAny_bind (I.type.here ((looks_subIn X hsub).here ?_))
      simp only [Bool.not_true, Bool.false_eq_true, if_false]
      have args : argsOk "object.__ne__" ⟨.ref x :: [b], []⟩ := PySem.F.cmpArgs_ne _ _
      have go : wpAny (model prog w) A.in1 (Builtin.«object.__ne__» ⟨[.ref x, b], []⟩) (GQ.FinOf prog w A (wants (fun v s' => v ≠ Value.notImplemented ∧ Q v s') E)) (fun e s' => wants (fun v s' => v ≠ Value.notImplemented ∧ Q v s') E (.error e) s') s :=
        wpAny_mono body (by rintro fin s' ⟨v, rfl, h1, h2⟩; exact ⟨h1, h2⟩) fun _ _ e => e
      cases sig : Manifest.signature? "object.__ne__" with
      | none => exact wpAny_pure go
      | some sg =>
        simp only [argsOk, sig] at args
        have a2 : Bind.checkArgs "object.__ne__" sg ⟨.ref x :: [b], []⟩ = pure () := args
        show wpAny _ _ (Bind.checkArgs "object.__ne__" sg ⟨.ref x :: [b], []⟩) _ _ _
        rw [a2]
        exact wpAny_pure go
    have fin2 : ∀ {R : Option Value → Shared → Prop}, (∀ v s', v ≠ Value.notImplemented → Q v s' → R (some v) s') → wpAny (model prog w) A (call (.builtin "object.__ne__") ([.ref x] ++ [b]) >>= fun v => pure (some v)) R E s := fun {R} k =>
      wpAny_bind (wpAny_mono fin (fun v s' ⟨h1, h2⟩ => wpAny_pure (k v s' h1 h2)) fun _ _ e => e)
    refine wpAny_bind (wpAny_askSetting (wpAny_ite ?_))
    have last : ∀ (v : Value) (s' : Shared), v ≠ Value.notImplemented → Q v s' → wpAny (model prog w) A (match some v with | some .notImplemented => pure none | none => pure none | some r => pure (some r)) (fun r s' => ∃ v, r = some v ∧ Q v s') E s' := by
      intro v s' n q
      cases v <;> first | exact absurd rfl n | exact wpAny_pure ⟨_, rfl, q⟩
    split
    · exact wpAny_bind (wpAny_pure (wpAny_pure (by exact fin2 last)))
    · exact wpAny_tryCatch (wpAny_bind (wpAny_pure (wpAny_pure (by exact fin2 last))))
  unfold richCompare
  simp only [oneThing_ref]
  refine wpAny_holding (wpAny_bind (wpAny_cRoomFor (Nat.lt_of_succ_lt hu) ?_))
  refine wpAny_bind (I.type.here (wpAny_bind (hb.here ?_)))
  split
  · rename_i q
    have e : subIn K tb (.ref C) = some false := by
      rcases Bool.or_eq_true_iff.mp hn with z | z
      · rw [beq_iff_eq.mp z] at q
        simp at q
      · exact beq_iff_eq.mp z
    refine wpAny_bind ((looks_subIn X e).here ?_)
    simp only [Bool.false_eq_true, if_false]
    refine wpAny_bind (wpAny_mono one (fun r s' ⟨v, e, hq⟩ => ?_) fun _ _ e => e)
    subst e
    exact wpAny_pure hq
  · refine wpAny_bind (wpAny_pure ?_)
    simp only [Bool.false_eq_true, if_false]
    refine wpAny_bind (wpAny_mono one (fun r s' ⟨v, e, hq⟩ => ?_) fun _ _ e => e)
    subst e
    exact wpAny_pure hq
end
end Mw
set_option Elab.async false
set_option linter.all false
set_option maxRecDepth 100000
set_option maxHeartbeats 4000000
/-! == and != by an own __eq__ that tells a truth value -/
namespace Mw
open PySem PySem.Spec PyProof.Rows L2 LamX
/-- what may stand beside an instance of the class at C: one of the same class, or a value of a type that is no subclass of it -/
def Beside (K : PySem.W.Frag) (C : Addr) (H : Hp) (y : V) : Prop := (∃ (b dy : Addr) (gs : List (Str × V)), y = .ref b ∧ H b = some (.ins C dy gs)) ∨ ∃ t, TyX K H y t ∧ PySem.W.notFirst K C t = true
/-- the class at C has the def at f as its __eq__ -/
structure OwnEq (K : PySem.W.Frag) (C f : Addr) : Prop where
  eq : PySem.W.findIn K (.ref C) "__eq__" = some (some (.ref f))
  fn : PySem.W.isFn K (.ref f) = true
  ne : PySem.W.findIn K (.ref C) "__ne__" = some (some (.builtin "object.__ne__"))
  ob : PySem.W.subIn K (.ref C) (.type "object") = some true
def rOwnEq (K : PySem.W.Frag) (C : Addr) (sp : Sp) (E : XK) (neg : Bool) : R2 := fun x y H Q => ∃ (a dx : Addr) (fs : List (Str × V)), x = .ref a ∧ H a = some (.ins C dx fs) ∧ Beside K C H y ∧ sp [.ref a, y] H (fun v H' => ∃ c, v = .bl c ∧ Q (.bl (if neg then !c else c)) H') E
section
variable {X : Cx} {pins : List (Addr × Obj)} {σ : L2.St} {H : Hp} {s : Shared}
theorem beside_ty {C : Addr} {y : V} {u : Value} {M : Model} (I : Inv X pins σ H s) (ry : RelV y u) (b : Beside X.K C H y) : ∃ t, PySem.W.Looks M s.heap (typeOf u) t ∧ PySem.W.notFirst X.K C t = true := by
  rcases b with ⟨b, dy, gs, rfl, hb⟩ | ⟨t, ty, n⟩
  · obtain rfl : u = Value.ref b := ry
    obtain ⟨mB, J, _⟩ := ins_get I.hok hb
    obtain ⟨od, J, _⟩ := J.look
    exact ⟨_, J.type, by simp [PySem.W.notFirst]⟩
  · obtain ⟨P, k, p, _⟩ := kit_of I ry ty
    exact ⟨t, k.ty M s.heap I.kIn p, n⟩
theorem own_call {CX : CXT} {n : Nat} {f : Addr} {fd : FuncData} {ps : List Str} {sp : Sp} {E : XK} {A : Around} {a : Addr} {y : V} {u : Value} {Q : VK} (F : FnOk X.prog X.w X.K X.mg X.base CX n f fd ps sp) (room : Room n A) (fr : A.frames = X.A.frames) (hb : Binds X.K fd ps []) (hx : Passes CX X E)
    (I : Inv X pins σ H s) (ry : RelV y u) (h : sp [.ref a, y] H Q E) : wpAny (model X.prog X.w) A (call (.ref f) [.ref a, u]) (EP X pins σ Q) X.xe s := by
  have e0 : Env0 X.prog X.w X.K X.mg X.base A X.stack s H := by
    have e := I.env0
    exact ⟨by rw [fr]; exact e.frames, e.mod, e.bs, e.bsz, e.funs, e.frf, e.hok, e.bare⟩
  have hl := F.len _ _ _ _ h
  have r2 : Vals [V.ref a, y] [Value.ref a, u] := .cons rfl (.cons ry .nil)
  refine wpAny_call (codeAny_mono (F.run A X.stack s H ⟨[.ref a, u], []⟩ [.ref a, u] [.ref a, y] Q E room e0 (by
    have z := hb s [.ref a, u] I.kIn (by simpa using hl)
    simpa using z) r2 h) fun r s' hq => ?_)
  match r, hq with
  | .error e, hq => exact hx pins σ H s e s' I hq
  | .ok (.ret w), hq => exact I.after hq
  | .ok .next, hq => exact hq.elim
  | .ok .brk, hq => exact hq.elim
  | .ok .cont, hq => exact hq.elim
theorem op_eqOwn {CX : CXT} {n : Nat} {C f : Addr} {fd : FuncData} {ps : List Str} {sp : Sp} {E : XK} (F : FnOk X.prog X.w X.K X.mg X.base CX n f fd ps sp) (room : Room n X.A) (o : OwnEq X.K C f) (hb : Binds X.K fd ps []) (hx : Passes CX X E) : OpR X (compareOp .Eq) (rOwnEq X.K C sp E false) := by
  intro pins s σ H x y v u Q I rx ry ⟨a, dx, fs, ex, ha, be, h⟩
  subst ex
  obtain rfl : v = Value.ref a := rx
  obtain ⟨mA, J, _⟩ := ins_get I.hok ha
  obtain ⟨od, J, _⟩ := J.look
  obtain ⟨t, lk, nf⟩ := beside_ty (M := model X.prog X.w) I ry be
  obtain ⟨m, hF⟩ := I.fr
  unfold compareOp
  refine PySem.W.cmp_K (op := .Eq) (tb := t) room.units0 hF I.ok.mod.kin J lk nf o.eq o.fn (wpAny_mono (own_call F room rfl hb hx I ry h) (fun r s' z => ?_) fun _ _ e => e)
  obtain ⟨w, H', I', rw0, c, rfl, q⟩ := z
  obtain rfl : r = Value.bool c := rw0
  exact ⟨.bl c, H', I', rfl, q⟩
theorem op_neOwn {CX : CXT} {n : Nat} {C f : Addr} {fd : FuncData} {ps : List Str} {sp : Sp} {E : XK} (F : FnOk X.prog X.w X.K X.mg X.base CX n f fd ps sp) (room : Room (n + 1) X.A) (o : OwnEq X.K C f) (hb : Binds X.K fd ps []) (hx : Passes CX X E) : OpR X (compareOp .NotEq) (rOwnEq X.K C sp E true) := by
  intro pins s σ H x y v u Q I rx ry ⟨a, dx, fs, ex, ha, be, h⟩
  subst ex
  obtain rfl : v = Value.ref a := rx
  obtain ⟨mA, J, _⟩ := ins_get I.hok ha
  obtain ⟨od, J, _⟩ := J.look
  obtain ⟨t, lk, nf⟩ := beside_ty (M := model X.prog X.w) I ry be
  obtain ⟨m, hF⟩ := I.fr
  unfold compareOp
  have un : X.A.units + 1 < cLine := by
    have z := room.un
    omega
  refine ne_K (tb := t) un hF I.ok.mod.kin J lk nf o.eq o.fn o.ne o.ob (wpAny_mono (own_call F room.in1 rfl hb hx I ry h) (fun r s' z => ?_) fun _ _ e => e)
  obtain ⟨w, H', I', rw0, c, rfl, q⟩ := z
  exact ⟨c, rw0, .bl (!c), H', I', rfl, q⟩
end
end Mw
set_option Elab.async false
set_option linter.all false
set_option maxRecDepth 100000
set_option maxHeartbeats 4000000
/-! facts of an own class, as the head tells them -/
namespace Mw
open PySem PySem.Spec PyProof.Rows L2 LamX
def dataTys : List String := ["NoneType", "bool", "int", "str", "list", "tuple", "dict"]
structure OwnC (K : PySem.W.Frag) (C : Addr) : Prop where
  is : C8.InsC K C
  no : ∀ T ∈ dataTys, PySem.W.kitOne K (.type T) (.ref C) = some false ∧ PySem.W.notFirst K C (.type T) = true
def ownCB (K : PySem.W.Frag) (C : Addr) : Bool :=
  PySem.W.plainGet K C Str.empty && (PySem.W.hasDictIn K C && (PySem.W.plainOver K C && (He.eqO (PySem.W.findIn K (.ref C) "__setattr__") (some (some (.builtin "object.__setattr__"))) && (He.eqO (PySem.W.findIn K (.ref C) "__class__") (some (some (.builtin "object.__class__"))) &&
  (He.eqO (PySem.W.specialIn K (.builtin "object.__class__") "__get__") (some (some (.builtin "getset_descriptor.__get__"))) && (decide (PySem.W.takesIn K (.builtin "object.__class__") = some true) && (decide (PySem.W.mroIn K C (.type "object") = some true) && (decide (PySem.W.kitOne K (.ref C) (.ref C) = some true) &&
  dataTys.all fun T => decide (PySem.W.kitOne K (.type T) (.ref C) = some false) && PySem.W.notFirst K C (.type T)))))))))
theorem ownCB_ok {K : PySem.W.Frag} {C : Addr} (h : ownCB K C = true) : OwnC K C := by
  obtain ⟨h1, h⟩ := He.ba h
  obtain ⟨h2, h⟩ := He.ba h
  obtain ⟨h3, h⟩ := He.ba h
  obtain ⟨h4, h⟩ := He.ba h
  obtain ⟨h5, h⟩ := He.ba h
  obtain ⟨h6, h⟩ := He.ba h
  obtain ⟨h7, h⟩ := He.ba h
  obtain ⟨h8, h⟩ := He.ba h
  obtain ⟨h9, h⟩ := He.ba h
  refine ⟨⟨⟨h1, h2, h3, He.eqO_ok h4⟩, He.eqO_ok h5, He.eqO_ok h6, of_decide_eq_true h7, of_decide_eq_true h8, of_decide_eq_true h9⟩, fun T hT => ?_⟩
  obtain ⟨y1, y2⟩ := He.ba (List.all_eq_true.mp h T hT)
  exact ⟨of_decide_eq_true y1, y2⟩
def ownEqB (K : PySem.W.Frag) (C : Addr) : Bool :=
  He.eqO (PySem.W.findIn K (.ref C) "__eq__") (some (some (.ref (He.ma K C "__eq__")))) && (PySem.W.isFn K (.ref (He.ma K C "__eq__")) && (He.eqO (PySem.W.findIn K (.ref C) "__ne__") (some (some (.builtin "object.__ne__"))) && decide (PySem.W.subIn K (.ref C) (.type "object") = some true)))
theorem ownEqB_ok {K : PySem.W.Frag} {C : Addr} (h : ownEqB K C = true) : OwnEq K C (He.ma K C "__eq__") := by
  obtain ⟨h1, h⟩ := He.ba h
  obtain ⟨h2, h⟩ := He.ba h
  obtain ⟨h3, h⟩ := He.ba h
  exact ⟨He.eqO_ok h1, h2, He.eqO_ok h3, of_decide_eq_true h⟩
theorem tyN_mem (d : PyData) : tyN d ∈ dataTys := by
  cases d <;> simp [tyN, dataTys]
section
variable {K : PySem.W.Frag} {C : Addr} {H : Hp}
theorem Dt.beside (o : OwnC K C) {d : PyData} {v : V} (h : Dt H d v) : Beside K C H v := .inr ⟨_, Dt.ty h, (o.no _ (tyN_mem d)).2⟩
theorem isi_no (o : OwnC K C) {d : PyData} {v : V} {Q : VK} (h : Dt H d v) (q : Q (.bl false) H) : rIsi K [v, .ref C] H Q := ⟨v, .ref C, _, .ref C, false, rfl, .own C, Dt.ty h, (o.no _ (tyN_mem d)).1, q⟩
theorem isi_yes (o : OwnC K C) {a dx : Addr} {fs : List (Str × V)} {Q : VK} (h : H a = some (.ins C dx fs)) (q : Q (.bl true) H) : rIsi K [.ref a, .ref C] H Q :=
  ⟨.ref a, .ref C, _, .ref C, true, rfl, .own C, .base (.ins h o.is.cl o.is.ha o.is.hn o.is.htk o.is.hm), o.is.me, q⟩
end
/-- the only default of a def -/
def dfA (K : PySem.W.Frag) (p : He.Defn) : Addr := match K.lookup (He.fAd K p) with
  | some ⟨_, _, .func fd, _⟩ => (match fd.defaults with
    | Value.ref t => (match K.lookup t with
      | some ⟨_, _, .seq vs _, _⟩ => (match (vs[0]? : Option Value) with
        | some (Value.ref a) => a
        | _ => 0)
      | _ => 0)
    | _ => 0)
  | _ => 0
def tup0B (K : PySem.W.Frag) (a : Addr) : Bool := match K.lookup a with
  | some ⟨.type "tuple", _, .seq vs _, _⟩ => decide (vs.size = 0)
  | _ => false
theorem tup0B_ok {K : PySem.W.Frag} {a : Addr} (h : tup0B K a = true) (H : Hp) : SqT K H a [] := by
  unfold tup0B at h
  split at h
  · rename_i dd vs n sl e
    have z : vs.size = 0 := of_decide_eq_true h
    have e0 : vs = #[] := Array.eq_empty_of_size_eq_zero z
    subst e0
    exact .inr ⟨_, #[], n, e, rfl, rfl, Nat.zero_le _, .nil⟩
  · cases h
end Mw
set_option Elab.async false
set_option linter.all false
set_option maxRecDepth 100000
set_option maxHeartbeats 4000000
/-! texts as lists of signs -/
namespace Mw
open PySem PySem.Spec PyProof.Rows L2 LamX
/-- the text of the signs l -/
def tx (l : List Nat) : Str := ⟨l.toArray⟩
theorem tx_list (l : List Nat) : (tx l).cps.toList = l := rfl
theorem tx_len (l : List Nat) : (tx l).length = l.length := by simp [tx, Str.length]
theorem tx_size (l : List Nat) : (tx l).cps.size = l.length := by simp [tx]
theorem tx_inj {a b : List Nat} (h : tx a = tx b) : a = b := by
  have z : (tx a).cps.toList = (tx b).cps.toList := by rw [h]
  exact z
theorem tx_app (a b : List Nat) : tx a ++ tx b = tx (a ++ b) := by
  have z : (tx a ++ tx b).cps = (tx (a ++ b)).cps := by
    rw [Str.cps_append]
    simp [tx]
  generalize h1 : tx a ++ tx b = x at z
  generalize h2 : tx (a ++ b) = y at z
  obtain ⟨u⟩ := x
  obtain ⟨v⟩ := y
  exact congrArg Str.mk z
theorem tx_dec (a b : List Nat) : decide (tx a = tx b) = decide (a = b) := by
  by_cases h : a = b
  · rw [h, decide_eq_true rfl, decide_eq_true rfl]
  · rw [decide_eq_false h, decide_eq_false fun z => h (tx_inj z)]
theorem sg_tx (c : Nat) : sg c = tx [c] := rfl
theorem joinL_flat : ∀ ls : List (List Nat), TL.joinL [] ls = ls.flatten
  | [] => rfl
  | [a] => by simp [TL.joinL]
  | a :: b :: r => by
    show a ++ ([] ++ TL.joinL [] (b :: r)) = a ++ (b :: r).flatten
    rw [List.nil_append, joinL_flat (b :: r)]
theorem join_tx (ls : List (List Nat)) : Txt.join (tx []) (ls.map tx) = tx ls.flatten := by
  have z := SX.join_S [] ls
  rw [joinL_flat] at z
  exact z
theorem flat_one (l : List Nat) : (l.map fun c => [c]).flatten = l := by
  induction l with
  | nil => rfl
  | cons a r ih => simp [ih]
section
variable {X : Cx}
def rMulText : R2 := fun x y H Q => ∃ (l : List Nat) (k : Bool), x = .str (tx l) ∧ y = .int (if k then 1 else 0) ∧ Q (.str (tx (if k then l else []))) H
/-- text * 0 or 1 -/
theorem op_mulText : OpR X (binaryOp .Mult) rMulText := by
  intro pins s σ H x y v u Q I rx ry ⟨l, k, ex, ey, q⟩
  subst ex ey
  obtain ⟨t, rfl⟩ := rx
  obtain ⟨t2, rfl⟩ := ry
  cases k with
  | false =>
    refine PySem.SB.mul ⟨by decide, fun z => absurd (by decide) z, fun z => absurd (by decide) z⟩ fun t3 k => ?_
    exact ⟨.str (tx []), H, I.tok _, ⟨_, rfl⟩, q⟩
  | true =>
    refine PySem.SB.mul ⟨by decide, fun _ z => by simp at z, fun _ z => by simp at z⟩ fun t3 k => ?_
    exact ⟨.str (tx l), H, I.tok _, ⟨_, rfl⟩, q⟩
end
end Mw
set_option Elab.async false
set_option linter.all false
set_option maxRecDepth 100000
set_option maxHeartbeats 4000000
/-! columns, sets, dependences, closures: the mathematics -/
namespace Mw
open PySem PySem.Spec PyProof.Rows L2 LamX
def abcd : List Nat := [97, 98, 99, 100]
def allL : List Nat := [97, 98, 99, 100, 114]
abbrev Tie := List Nat × Nat
/-- those of l that stand in g -/
def pickL (l g : List Nat) : List Nat := l.filter (· ∈ g)
def within (a b : List Nat) : Bool := a.all (· ∈ b)
def pow (l : List Nat) : List (List Nat) := l.foldl (fun f c => f ++ f.map (· ++ [c])) [[]]
def ColOk (c : List Nat) : Prop := c ≠ [] ∧ pickL abcd c = c
def SetOk (cols s : List Nat) : Prop := pickL (cols ++ [114]) s = s
structure TieOk (cols : List Nat) (t : Tie) : Prop where
  lo : SetOk cols t.1
  le : t.2 ∈ cols ++ [114]
def isCl (cols : List Nat) (ts : List Tie) (s : List Nat) : Bool := !(decide (114 ∈ s) && !within cols s) && (ts.filter fun t => within t.1 s).all fun t => decide (t.2 ∈ s)
theorem within_iff {a b : List Nat} : within a b = true ↔ ∀ c ∈ a, c ∈ b := by simp [within]
theorem isCl_iff {cols : List Nat} {ts : List Tie} {s : List Nat} : isCl cols ts s = true ↔ (114 ∈ s → ∀ c ∈ cols, c ∈ s) ∧ ∀ t ∈ ts, (∀ c ∈ t.1, c ∈ s) → t.2 ∈ s := by
  unfold isCl
  rw [Bool.and_eq_true, Bool.not_eq_true', List.all_eq_true]
  constructor
  · rintro ⟨h1, h2⟩
    refine ⟨fun h => ?_, fun t ht h => ?_⟩
    · rw [decide_eq_true h, Bool.true_and, Bool.not_eq_false'] at h1
      exact within_iff.mp h1
    · exact of_decide_eq_true (h2 t (List.mem_filter.mpr ⟨ht, within_iff.mpr h⟩))
  · rintro ⟨h1, h2⟩
    refine ⟨?_, fun t ht => ?_⟩
    · by_cases h : 114 ∈ s
      · rw [decide_eq_true h, within_iff.mpr (h1 h)]
        rfl
      · rw [decide_eq_false h]
        rfl
    · obtain ⟨y1, y2⟩ := List.mem_filter.mp ht
      exact decide_eq_true (h2 t y1 (within_iff.mp y2))
/-! ### one round of the law's going on -/
def tieStep (f : List Nat) (t : Tie) : List Nat := f ++ (if within t.1 f then [t.2] else [])
def srtL (f : List Nat) : List Nat := pickL allL f
def rnd (cols : List Nat) (ts : List Tie) (f : List Nat) : List Nat := srtL (ts.foldl tieStep (f ++ if decide (114 ∈ f) then cols else []))
def clo (cols : List Nat) (ts : List Tie) (s : List Nat) : Nat → List Nat
  | 0 => s
  | n + 1 => rnd cols ts (clo cols ts s n)
abbrev InL (f : List Nat) : Prop := ∀ c ∈ f, c ∈ allL
theorem mem_srt {f : List Nat} {c : Nat} : c ∈ srtL f ↔ c ∈ allL ∧ c ∈ f := by simp [srtL, pickL]
theorem steps_sub {f : List Nat} : ∀ (ts : List Tie) (f : List Nat), ∀ c ∈ f, c ∈ ts.foldl tieStep f
  | [], f, c, h => h
  | t :: ts, f, c, h => steps_sub (f := f) ts _ c (List.mem_append_left _ h)
theorem steps_in {g : List Nat → Prop} {U : List Nat} : ∀ (ts : List Tie) (f : List Nat), (∀ c ∈ f, c ∈ U) → (∀ t ∈ ts, (∀ c ∈ t.1, c ∈ U) → t.2 ∈ U) → ∀ c ∈ ts.foldl tieStep f, c ∈ U
  | [], f, hf, ht, c, h => hf c h
  | t :: ts, f, hf, ht, c, h => by
    refine steps_in (g := g) ts (tieStep f t) (fun d hd => ?_) (fun u hu => ht u (List.mem_cons_of_mem _ hu)) c h
    rcases List.mem_append.mp hd with hd | hd
    · exact hf d hd
    · split at hd
      · rename_i w
        rw [List.mem_singleton.mp hd]
        exact ht t List.mem_cons_self fun e he => hf e (within_iff.mp w e he)
      · cases hd
theorem steps_get : ∀ (ts : List Tie) (f : List Nat) (t : Tie), t ∈ ts → (∀ c ∈ t.1, c ∈ f) → t.2 ∈ ts.foldl tieStep f
  | [], f, t, h, _ => nomatch h
  | u :: ts, f, t, h, hc => by
    rcases List.mem_cons.mp h with rfl | h
    · refine steps_sub (f := f) ts _ _ (List.mem_append_right _ ?_)
      rw [if_pos (within_iff.mpr hc)]
      exact List.mem_singleton.mpr rfl
    · exact steps_get ts _ t h fun c hc2 => List.mem_append_left _ (hc c hc2)
section
variable {cols : List Nat} {ts : List Tie}
theorem rnd_sub {f : List Nat} (h : InL f) : ∀ c ∈ f, c ∈ rnd cols ts f := fun c hc => mem_srt.mpr ⟨h c hc, steps_sub (f := f) ts _ c (List.mem_append_left _ hc)⟩
theorem rnd_in {f : List Nat} : InL (rnd cols ts f) := fun c hc => (mem_srt.mp hc).1
theorem rnd_le {f U : List Nat} (hf : ∀ c ∈ f, c ∈ U) (hU : isCl cols ts U = true) : ∀ c ∈ rnd cols ts f, c ∈ U := fun c hc => by
  obtain ⟨u1, u2⟩ := isCl_iff.mp hU
  refine steps_in (g := fun _ => True) ts _ (fun d hd => ?_) u2 c (mem_srt.mp hc).2
  rcases List.mem_append.mp hd with hd | hd
  · exact hf d hd
  · split at hd
    · rename_i w
      exact u1 (hf _ (of_decide_eq_true w)) d hd
    · cases hd
theorem clo_le {s U : List Nat} (hs : ∀ c ∈ s, c ∈ U) (hU : isCl cols ts U = true) : ∀ (n : Nat), ∀ c ∈ clo cols ts s n, c ∈ U
  | 0 => hs
  | n + 1 => rnd_le (clo_le hs hU n) hU
theorem clo_in {s : List Nat} (hs : InL s) : ∀ n, InL (clo cols ts s n)
  | 0 => hs
  | n + 1 => rnd_in
theorem clo_sub {s : List Nat} (hs : InL s) : ∀ (n : Nat), ∀ c ∈ s, c ∈ clo cols ts s n
  | 0, c, h => h
  | n + 1, c, h => rnd_sub (clo_in hs n) c (clo_sub hs n c h)
theorem clo_one {s : List Nat} (hs : InL s) : ∀ (n : Nat), ∀ c ∈ rnd cols ts s, c ∈ clo cols ts s (n + 1)
  | 0, c, h => h
  | n + 1, c, h => rnd_sub (clo_in hs (n + 1)) c (clo_one hs n c h)
/-- a set as it is written -/
def Wr (s : List Nat) : Prop := srtL s = s
theorem Wr.inL {s : List Nat} (h : Wr s) : InL s := fun c hc => by
  have h2 : srtL s = s := h
  rw [← h2] at hc
  exact (mem_srt.mp hc).1
theorem wr_ext {s t : List Nat} (hs : Wr s) (ht : Wr t) (h : ∀ c, c ∈ s ↔ c ∈ t) : s = t := by
  have h1 : srtL s = s := hs
  have h2 : srtL t = t := ht
  rw [← h1, ← h2]
  unfold srtL pickL
  exact List.filter_congr fun c _ => by rw [decide_eq_decide]; exact h c
theorem srt_wr (f : List Nat) : Wr (srtL f) := by
  show srtL (srtL f) = srtL f
  unfold srtL pickL
  refine List.filter_congr fun c hc => ?_
  rw [decide_eq_decide]
  constructor
  · exact fun z => of_decide_eq_true (List.mem_filter.mp z).2
  · exact fun z => List.mem_filter.mpr ⟨hc, decide_eq_true z⟩
theorem clo_wr {s : List Nat} (hs : Wr s) : ∀ n, Wr (clo cols ts s n)
  | 0 => hs
  | n + 1 => srt_wr _
/-- a set is its own closure just if it is closed -/
theorem clo_fix {s : List Nat} (hs : Wr s) (hcol : ∀ c ∈ cols, c ∈ allL) (hts : ∀ t ∈ ts, t.2 ∈ allL) (n : Nat) : clo cols ts s (n + 1) = s ↔ isCl cols ts s = true := by
  constructor
  · intro e
    refine isCl_iff.mpr ⟨fun h c hc => ?_, fun t ht h => ?_⟩
    · have z : c ∈ rnd cols ts s := mem_srt.mpr ⟨hcol c hc, steps_sub (f := s) ts _ c (List.mem_append_right _ (by rw [if_pos (decide_eq_true h)]; exact hc))⟩
      have y := clo_one hs.inL n c z
      rw [e] at y
      exact y
    · have z : t.2 ∈ rnd cols ts s := mem_srt.mpr ⟨hts t ht, steps_get ts _ t ht fun c hc => List.mem_append_left _ (h c hc)⟩
      have y := clo_one hs.inL n _ z
      rw [e] at y
      exact y
  · intro h
    exact wr_ext (clo_wr hs _) hs fun c => ⟨fun hc => clo_le (fun _ z => z) h _ c hc, fun hc => clo_sub hs.inL _ c hc⟩
end
/-! ### all sets -/
theorem mem_pow_snoc {l s : List Nat} {c : Nat} (h : s ∈ pow (l ++ [c])) : s ∈ pow l ∨ ∃ t ∈ pow l, s = t ++ [c] := by
  unfold pow at h
  rw [List.foldl_append] at h
  rcases List.mem_append.mp h with h | h
  · exact .inl h
  · obtain ⟨t, ht, e⟩ := List.mem_map.mp h
    exact .inr ⟨t, ht, e.symm⟩
theorem pow_sub : ∀ (n : Nat) (l s : List Nat), l.length = n → s ∈ pow l → s.Sublist l
  | 0, l, s, hl, h => by
    rw [List.length_eq_zero_iff.mp hl] at h ⊢
    rw [List.mem_singleton.mp (show s ∈ [[]] from h)]
    exact List.Sublist.refl _
  | n + 1, l, s, hl, h => by
    have hne : l ≠ [] := fun z => by rw [z] at hl; cases hl
    have e := List.dropLast_concat_getLast hne
    rw [← e] at h ⊢
    have l2 : l.dropLast.length = n := by rw [List.length_dropLast, hl]; rfl
    rcases mem_pow_snoc h with h | ⟨t, ht, rfl⟩
    · exact (pow_sub n _ s l2 h).trans (List.sublist_append_left _ _)
    · exact (pow_sub n _ t l2 ht).append (List.Sublist.refl _)
theorem filter_sub {l : List Nat} (hn : l.Nodup) : ∀ {s : List Nat}, s.Sublist l → pickL l s = s := by
  intro s h
  induction h with
  | slnil => rfl
  | @cons s l a h ih =>
    obtain ⟨n1, n2⟩ := List.nodup_cons.mp hn
    show List.filter _ (a :: l) = s
    rw [List.filter_cons_of_neg (by simpa using fun z => n1 (h.subset z))]
    exact ih n2
  | @cons_cons s l a h ih =>
    obtain ⟨n1, n2⟩ := List.nodup_cons.mp hn
    show List.filter _ (a :: l) = a :: s
    rw [List.filter_cons_of_pos (by simp)]
    have e : List.filter (fun x => decide (x ∈ a :: s)) l = List.filter (fun x => decide (x ∈ s)) l := List.filter_congr fun x hx => by
      rw [decide_eq_decide, List.mem_cons]
      exact ⟨fun z => z.elim (fun z => absurd (z ▸ hx) n1) id, .inr⟩
    rw [e]
    exact congrArg (a :: ·) (ih n2)
theorem pick_sub (l g : List Nat) : (pickL l g).Sublist l := List.filter_sublist
theorem col_sub {c : List Nat} (h : ColOk c) : c.Sublist abcd := h.2 ▸ pick_sub _ _
theorem all_nd : allL.Nodup := by decide
theorem colr_sub {c : List Nat} (h : ColOk c) : (c ++ [114]).Sublist allL := (col_sub h).append (List.Sublist.refl [114])
theorem colr_nd {c : List Nat} (h : ColOk c) : (c ++ [114]).Nodup := (colr_sub h).nodup all_nd
theorem set_wr {c s : List Nat} (h : ColOk c) (hs : SetOk c s) : Wr s := filter_sub all_nd (by
  have e : pickL (c ++ [114]) s = s := hs
  rw [← e]
  exact (pick_sub _ _).trans (colr_sub h))
theorem pow_set {c s : List Nat} (h : ColOk c) (hs : s ∈ pow (c ++ [114])) : SetOk c s := filter_sub (colr_nd h) (pow_sub _ _ _ rfl hs)
theorem wr_set {c s : List Nat} (h : ColOk c) (hs : Wr s) (hin : ∀ x ∈ s, x ∈ c ++ [114]) : SetOk c s := by
  refine wr_ext ?_ hs fun x => ?_
  · exact filter_sub all_nd ((pick_sub _ _).trans (colr_sub h))
  · show x ∈ List.filter _ _ ↔ _
    rw [List.mem_filter]
    exact ⟨fun z => of_decide_eq_true z.2, fun z => ⟨hin x z, decide_eq_true z⟩⟩
theorem col_len {c : List Nat} (h : ColOk c) : c.length ≤ 4 := (col_sub h).length_le
theorem set_len {c s : List Nat} (h : ColOk c) (hs : SetOk c s) : s.length ≤ 5 := by
  have e : pickL (c ++ [114]) s = s := hs
  rw [← e]
  have z := (pick_sub (c ++ [114]) s).length_le
  have y := col_len h
  rw [List.length_append] at z
  exact Nat.le_trans z (Nat.succ_le_succ y)
theorem pow_len : ∀ (n : Nat) (l : List Nat), l.length = n → (pow l).length = 2 ^ n
  | 0, l, h => by
    rw [List.length_eq_zero_iff.mp h]
    rfl
  | n + 1, l, h => by
    have hne : l ≠ [] := fun z => by rw [z] at h; cases h
    have e := List.dropLast_concat_getLast hne
    have l2 : l.dropLast.length = n := by rw [List.length_dropLast, h]; rfl
    rw [← e]
    unfold pow
    rw [List.foldl_append]
    show (pow l.dropLast ++ (pow l.dropLast).map _).length = _
    rw [List.length_append, List.length_map, pow_len n _ l2, Nat.pow_succ]
    omega
end Mw
set_option Elab.async false
set_option linter.all false
set_option maxRecDepth 100000
set_option maxHeartbeats 4000000
/-! what sorted tells of texts; closed sets in order -/
namespace Mw
open PySem PySem.Spec PyProof.Rows L2 LamX
theorem lt_ext : ∀ {a b : List Nat}, a.Pairwise (· < ·) → b.Pairwise (· < ·) → (∀ c, c ∈ a ↔ c ∈ b) → a = b
  | [], [], _, _, _ => rfl
  | [], y :: b, _, _, h => nomatch (h y).mpr List.mem_cons_self
  | x :: a, [], _, _, h => nomatch (h x).mp List.mem_cons_self
  | x :: a, y :: b, ha, hb, h => by
    obtain ⟨a1, a2⟩ := List.pairwise_cons.mp ha
    obtain ⟨b1, b2⟩ := List.pairwise_cons.mp hb
    have xy : x = y := by
      rcases List.mem_cons.mp ((h x).mp List.mem_cons_self) with z | z
      · exact z
      · rcases List.mem_cons.mp ((h y).mpr List.mem_cons_self) with u | u
        · exact u.symm
        · have v1 := b1 x z
          have v2 := a1 y u
          omega
    subst xy
    refine congrArg (x :: ·) (lt_ext a2 b2 fun c => ⟨fun hc => ?_, fun hc => ?_⟩)
    · rcases List.mem_cons.mp ((h c).mp (List.mem_cons_of_mem _ hc)) with z | z
      · have v := a1 c hc
        omega
      · exact z
    · rcases List.mem_cons.mp ((h c).mpr (List.mem_cons_of_mem _ hc)) with z | z
      · have v := b1 c hc
        omega
      · exact z
theorem rise_le : ∀ {r : List Nat} {p : Nat}, risingS (sg p) (r.map sg) = true → (∀ x ∈ r, p ≤ x) ∧ r.Pairwise (· ≤ ·)
  | [], p, _ => ⟨fun _ z => (nomatch z), List.Pairwise.nil⟩
  | y :: r, p, h => by
    have h2 : (!ltCps [y] [p] && risingS (sg y) (r.map sg)) = true := h
    obtain ⟨h3, h4⟩ := He.ba h2
    obtain ⟨i1, i2⟩ := rise_le h4
    have py : p ≤ y := by
      have z : ltCps [y] [p] = false := by simpa using h3
      have z2 : (decide (y < p) || (y == p && ltCps [] [])) = false := z
      rw [Bool.or_eq_false_iff] at z2
      exact Nat.le_of_not_lt (of_decide_eq_false z2.1)
    refine ⟨fun x hx => ?_, List.pairwise_cons.mpr ⟨i1, i2⟩⟩
    rcases List.mem_cons.mp hx with rfl | hx
    · exact py
    · exact Nat.le_trans py (i1 x hx)
theorem sorted_le {cs : List Nat} (h : sortedS (cs.map sg) = true) : cs.Pairwise (· ≤ ·) := by
  cases cs with
  | nil => exact List.Pairwise.nil
  | cons p r =>
    obtain ⟨i1, i2⟩ := rise_le (show risingS (sg p) (r.map sg) = true from h)
    exact List.pairwise_cons.mpr ⟨i1, i2⟩
theorem sg_inj {a b : Nat} (h : sg a = sg b) : a = b := by
  have z : (sg a).cps.toList = (sg b).cps.toList := by rw [h]
  exact (List.cons.inj z).1
theorem map_sg : ∀ {ss : List Str}, (∀ y ∈ ss, ∃ c, y = sg c) → ∃ cs : List Nat, ss = cs.map sg
  | [], _ => ⟨[], rfl⟩
  | y :: ss, h => by
    obtain ⟨c, rfl⟩ := h y List.mem_cons_self
    obtain ⟨cs, rfl⟩ := map_sg fun z hz => h z (List.mem_cons_of_mem _ hz)
    exact ⟨c :: cs, rfl⟩
theorem nodup_of_map {cs : List Nat} (h : (cs.map sg).Nodup) : cs.Nodup := by
  induction cs with
  | nil => exact List.nodup_nil
  | cons a r ih =>
    obtain ⟨h1, h2⟩ := List.nodup_cons.mp h
    exact List.nodup_cons.mpr ⟨fun z => h1 (List.mem_map.mpr ⟨a, z, rfl⟩), ih h2⟩
theorem lt_of_le_nd : ∀ {l : List Nat}, l.Pairwise (· ≤ ·) → l.Nodup → l.Pairwise (· < ·)
  | [], _, _ => List.Pairwise.nil
  | x :: l, h, d => by
    obtain ⟨h1, h2⟩ := List.pairwise_cons.mp h
    obtain ⟨d1, d2⟩ := List.nodup_cons.mp d
    refine List.pairwise_cons.mpr ⟨fun y hy => Nat.lt_of_le_of_ne (h1 y hy) fun z => d1 (z ▸ hy), lt_of_le_nd h2 d2⟩
theorem all_lt : allL.Pairwise (· < ·) := by decide
/-- the signs of a text, sorted, each once -/
theorem sorted_met {l : List Nat} {ss ks : List Str} (hin : InL l) (met : Met l ks) (nd : ks.Nodup) (pm : ss.Perm ks) (st : sortedS ss = true) : ss = (srtL l).map sg := by
  obtain ⟨cs, rfl⟩ := map_sg fun y hy => by
    obtain ⟨c, _, e⟩ := (met y).mp (pm.mem_iff.mp hy)
    exact ⟨c, e⟩
  have nd2 := nodup_of_map (pm.nodup_iff.mpr nd)
  have e : cs = srtL l := lt_ext (lt_of_le_nd (sorted_le st) nd2) (all_lt.sublist List.filter_sublist) fun c => by
    rw [mem_srt]
    constructor
    · intro hc
      obtain ⟨d, hd, z⟩ := (met (sg c)).mp (pm.mem_iff.mp (List.mem_map.mpr ⟨c, hc, rfl⟩))
      have cd := sg_inj z
      rw [cd]
      exact ⟨hin d hd, hd⟩
    · rintro ⟨_, hc⟩
      obtain ⟨d, hd, z⟩ := List.mem_map.mp (pm.mem_iff.mpr ((met (sg c)).mpr ⟨c, hc, rfl⟩))
      rw [← sg_inj z]
      exact hd
  rw [e]
theorem srt_len (l : List Nat) : (srtL l).length ≤ 5 := (List.filter_sublist (p := fun c => decide (c ∈ l)) (l := allL)).length_le
/-! ### closed sets, as the program and as the law put them in order -/
def kText (y : Str) : PyData := .str y
def closedOf (cols : List Nat) (ts : List Tie) : List Str := (((pow (cols ++ [114])).filter (isCl cols ts)).map tx).mergeSort (PySem.W.dataLe false kLenText)
def lawSets (cols : List Nat) : List Str := (((pow (cols ++ [114])).map tx).mergeSort (PySem.W.dataLe false kText)).mergeSort (PySem.W.dataLe false kLen)
def lawClosed (cols : List Nat) (ts : List Tie) : List Str := (lawSets cols).filter fun y => isCl cols ts y.cps.toList
theorem mem_sets {cols : List Nat} {y : Str} : y ∈ lawSets cols ↔ ∃ s ∈ pow (cols ++ [114]), y = tx s := by
  unfold lawSets
  rw [List.mem_mergeSort, List.mem_mergeSort, List.mem_map]
  exact ⟨fun ⟨s, h, e⟩ => ⟨s, h, e.symm⟩, fun ⟨s, h, e⟩ => ⟨s, h, e.symm⟩⟩
theorem mem_closed {cols : List Nat} {ts : List Tie} {s : List Nat} : tx s ∈ closedOf cols ts ↔ s ∈ pow (cols ++ [114]) ∧ isCl cols ts s = true := by
  unfold closedOf
  rw [List.mem_mergeSort, List.mem_map]
  constructor
  · rintro ⟨u, h, e⟩
    rw [← tx_inj e]
    exact List.mem_filter.mp h
  · exact fun h => ⟨s, List.mem_filter.mpr h, rfl⟩
theorem closed_iff {cols : List Nat} {ts us : List Tie} : closedOf cols ts = closedOf cols us ↔ ∀ s ∈ pow (cols ++ [114]), isCl cols ts s = isCl cols us s := by
  constructor
  · intro e s hs
    have z : tx s ∈ closedOf cols ts ↔ tx s ∈ closedOf cols us := by rw [e]
    rw [mem_closed, mem_closed] at z
    cases h1 : isCl cols ts s with
    | true => exact (z.mp ⟨hs, h1⟩).2.symm
    | false =>
      cases h2 : isCl cols us s with
      | false => rfl
      | true =>
        have y := (z.mpr ⟨hs, h2⟩).2
        rw [h1] at y
        cases y
  · intro h
    unfold closedOf
    rw [List.filter_congr h]
theorem filter_iff {α : Type} {p q : α → Bool} {l : List α} : l.filter p = l.filter q ↔ ∀ x ∈ l, p x = q x := by
  constructor
  · intro e x hx
    have z : x ∈ l.filter p ↔ x ∈ l.filter q := by rw [e]
    rw [List.mem_filter, List.mem_filter] at z
    cases h1 : p x with
    | true => exact (z.mp ⟨hx, h1⟩).2.symm
    | false =>
      cases h2 : q x with
      | false => rfl
      | true =>
        have y := (z.mpr ⟨hx, h2⟩).2
        rw [h1] at y
        cases y
  · exact List.filter_congr
theorem lawClosed_iff {cols : List Nat} {ts us : List Tie} : lawClosed cols ts = lawClosed cols us ↔ ∀ s ∈ pow (cols ++ [114]), isCl cols ts s = isCl cols us s := by
  unfold lawClosed
  rw [filter_iff]
  constructor
  · exact fun h s hs => h (tx s) (mem_sets.mpr ⟨s, hs, rfl⟩)
  · rintro h y hy
    obtain ⟨s, hs, rfl⟩ := mem_sets.mp hy
    exact h s hs
theorem same_closed {cols : List Nat} {ts us : List Tie} : closedOf cols ts = closedOf cols us ↔ lawClosed cols ts = lawClosed cols us := closed_iff.trans lawClosed_iff.symm
/-- dependences that follow change nothing -/
theorem closed_more {cols : List Nat} {us : List Tie} {n : Nat} (h : ∀ t ∈ us, t.2 ∈ clo cols [] t.1 n) : closedOf cols us = closedOf cols [] := by
  refine closed_iff.mpr fun s _ => ?_
  have e : isCl cols us s = true ↔ isCl cols [] s = true := by
    rw [isCl_iff, isCl_iff]
    constructor
    · exact fun z => ⟨z.1, fun _ y => (nomatch y)⟩
    · exact fun z => ⟨z.1, fun t ht y => clo_le y (isCl_iff.mpr z) n _ (h t ht)⟩
  cases h1 : isCl cols us s <;> cases h2 : isCl cols [] s <;> simp_all
section
variable {X : Cx}
def rSortTexts (K : PySem.W.Frag) : List V → Hp → VK → Prop := fun xs H Q => ∃ (a : Addr) (ys : List Str), xs = [.ref a] ∧ SqL K H a (ys.map V.str) ∧ ys.length ≤ 1000 ∧ ∀ p, H p = none → Q (.ref p) (upd H p (.lst ((ys.mergeSort (PySem.W.dataLe false kText)).map V.str)))
theorem cr_sortTexts (hu : X.A.units + 64 < cLine) : CallR X (.builtin "sorted") (rSortTexts X.K) := by
  rintro pins s σ H xs us Q I r ⟨a, ys, rfl, hs, small, q⟩
  rw [Vals.ref1 r]
  obtain ⟨its, rv, hl, _⟩ := I.list hs
  have line : ys.length ≤ sizeLine := Nat.le_of_lt (small1000 small)
  refine PySem.W.sorted_data (enc := kText) (vs := its) hl.isList (strs_each rv) ((strs_each rv).mono fun v y ⟨t, e⟩ => ⟨[], e ▸ .str y t⟩) (PySem.W.AllAlike.of fun _ _ => by simp [PySem.W.alike, kText]) ?_ line (fun y hy => ?_) fun out len each => ?_
  · refine .inr fun d hd => ?_
    obtain ⟨y, _, rfl⟩ := List.mem_map.mp hd
    exact ⟨nofun, nofun⟩
  · show X.A.units + 2 + PyData.depth (.str y) < cLine
    simp only [PyData.depth]
    omega
  · obtain ⟨c, hc⟩ := PyProof.Rows.sortedAll_at s.heap its (List.toArray out)
    have lz : ((ys.mergeSort (PySem.W.dataLe false kText)).map V.str).length ≤ sizeLine := by
      rw [List.length_map, List.length_mergeSort]
      exact line
    exact ⟨.ref _, upd H (s.heap.objs.size + 1) (.lst ((ys.mergeSort (PySem.W.dataLe false kText)).map V.str)), I.laid (t' := s.toks) (fun _ _ => PyProof.Rows.sortedAll_old) (Nat.le_succ _) ⟨lz, out, c, each_strs each, hc⟩, rfl, q _ (I.hok.fresh (Nat.le_succ _))⟩
end
end Mw
set_option Elab.async false
set_option linter.all false
set_option maxRecDepth 100000
set_option maxHeartbeats 4000000
/-! what the defs of schemes promise -/
namespace Mw
open PySem PySem.Spec PyProof.Rows L2 LamX
theorem same_into {H H' : Hp} {D : Addr} {o : HO} (hD : H D = none) (s : Same H H') : Same H (upd H' D o) := fun b u e => by
  rw [upd_ne (ne_of_none e hD)]
  exact s _ _ e
theorem cps_get {l : List Nat} {i c : Nat} (h : (tx l).cps[i]? = some c) : l[i]? = some c := by
  rw [← Array.getElem?_toList] at h
  exact h
theorem take_one {α : Type} {p : α → Bool} {l : List α} {i : Nat} {c : α} (h : l[i]? = some c) : (l.take (i + 1)).filter p = (l.take i).filter p ++ (if p c = true then [c] else []) := by
  rw [ls_take h, List.filter_append]
  congr 1
  by_cases m : p c = true
  · rw [if_pos m]
    exact List.filter_cons_of_pos m
  · rw [if_neg m]
    exact List.filter_cons_of_neg m
theorem take_all {α : Type} {l : List α} {n : Nat} (h : l.length ≤ n) : l.take n = l := List.take_of_length_le h
theorem some_inj2 {α : Type} {a b : α} (h : some a = some b) : a = b := Option.some.inj h
/-- signs of a text as values -/
def oneV (c : Nat) : V := .str (tx [c])
theorem ones_join (l : List Nat) : Txt.join (tx []) (l.map fun c => tx [c]) = tx l := by
  have z := join_tx (l.map fun c => [c])
  rw [List.map_map, flat_one] at z
  exact z
theorem ones_len (l : List Nat) : ((l.map fun c => tx [c]).map (·.length)).sum + (l.map fun c => tx [c]).length * (tx []).length = l.length := by
  have e : (l.map fun c => tx [c]).map (·.length) = l.map fun _ => 1 := by
    rw [List.map_map]
    rfl
  rw [e]
  have z : ∀ l : List Nat, (l.map fun _ => 1).sum = l.length := by
    intro l
    induction l with
    | nil => rfl
    | cons a r ih =>
      rw [List.map_cons, List.sum_cons, ih, List.length_cons]
      omega
  rw [z]
  show l.length + _ * 0 = _
  omega
def spPicked : Sp := fun vs H Q _ => ∃ (l g : List Nat), vs = [.str (tx l), .str (tx g)] ∧ l.length ≤ 1000 ∧ ∀ H', Same H H' → Q (.str (tx (pickL l g))) H'
def setV (s : List Nat) : V := .str (tx s)
def spAllSets : Sp := fun vs H Q _ => ∃ (l : List Nat), vs = [.str (tx l)] ∧ l.length ≤ 5 ∧ ∀ p H', H p = none → Same H H' → H' p = some (.lst ((pow l).map setV)) → Q (.ref p) H'
/-- a value that is columns -/
def colB : PyData → Bool
  | .str x => decide (x.cps.toList ≠ []) && decide (pickL abcd x.cps.toList = x.cps.toList)
  | _ => false
def setB (cols : List Nat) : PyData → Bool
  | .str x => decide (pickL (cols ++ [114]) x.cps.toList = x.cps.toList)
  | _ => false
def lenOne : PyData → Bool
  | .str x => decide (x.cps.toList.length = 1)
  | _ => false
def depB (cols : List Nat) : PyData → Bool
  | .tuple [a, b] => setB cols a && setB cols b && lenOne b
  | _ => false
def spIsCols : Sp := fun vs H Q _ => ∃ (v : V) (dd : PyData), vs = [v] ∧ Dt H dd v ∧ ∀ H', Same H H' → Q (.bl (colB dd)) H'
def spIsSet : Sp := fun vs H Q _ => ∃ (cols : List Nat) (v : V) (dd : PyData), vs = [.str (tx cols), v] ∧ cols.length ≤ 900 ∧ Dt H dd v ∧ ∀ H', Same H H' → Q (.bl (setB cols dd)) H'
def spWithin : Sp := fun vs H Q _ => ∃ (a b : List Nat), vs = [.str (tx a), .str (tx b)] ∧ a.length ≤ 900 ∧ ∀ H', Same H H' → Q (.bl (within a b)) H'
def spIsDep : Sp := fun vs H Q _ => ∃ (cols : List Nat) (v : V) (dd : PyData), vs = [.str (tx cols), v] ∧ cols.length ≤ 900 ∧ Dt H dd v ∧ ∀ H', Same H H' → Q (.bl (depB cols dd)) H'
def tieD (t : Tie) : PyData := .tuple [.str (tx t.1), .str (tx [t.2])]
theorem ofStr (x : Str) : tx x.cps.toList = x := SX.S_tl x
theorem pow_mono {l : List Nat} {i c : Nat} (h : l[i]? = some c) : pow (l.take (i + 1)) = pow (l.take i) ++ (pow (l.take i)).map (· ++ [c]) := by
  rw [ls_take h]
  unfold pow
  rw [List.foldl_append]
  rfl
theorem pow_item {l s : List Nat} {n : Nat} (hl : l.length ≤ n) (h : s ∈ pow l) : s.length ≤ n := Nat.le_trans (pow_sub _ _ _ rfl h).length_le hl
theorem pow_le {l : List Nat} (hl : l.length ≤ 5) : (pow l).length ≤ 32 := by
  rw [pow_len _ _ rfl]
  exact Nat.pow_le_pow_right (by decide) hl
theorem map_get {α β : Type} {f : α → β} {l : List α} {i : Nat} {y : β} (h : (l.map f)[i]? = some y) : ∃ x, l[i]? = some x ∧ y = f x := by
  rw [List.getElem?_map] at h
  cases e : l[i]? with
  | none => rw [e] at h; cases h
  | some x => rw [e] at h; exact ⟨x, rfl, (Option.some.inj h).symm⟩
theorem take_map {α β : Type} {f : α → β} {l : List α} {i : Nat} {x : α} (h : l[i]? = some x) : (l.take (i + 1)).map f = (l.take i).map f ++ [f x] := by
  rw [ls_take h, List.map_append]
  rfl
theorem strv_dec (x : Str) (l : List Nat) : decide (V.str x = V.str (tx l)) = decide (l = x.cps.toList) := by
  by_cases h : l = x.cps.toList
  · rw [decide_eq_true h, h, ofStr, decide_eq_true rfl]
  · rw [decide_eq_false h, decide_eq_false fun z => h ?_]
    have y : x = tx l := V.str.inj z
    rw [y]
    rfl
def spIsClosed (K : PySem.W.Frag) : Sp := fun vs H Q _ => ∃ (cols : List Nat) (p : Addr) (xs : List V) (ts : List Tie) (s : List Nat), vs = [.str (tx cols), .ref p, .str (tx s)] ∧ cols.length ≤ 900 ∧ SqT K H p xs ∧ DtL H (ts.map tieD) xs ∧ ts.length ≤ 900 ∧ (∀ t ∈ ts, t.1.length ≤ 900) ∧
  ∀ H', Same H H' → Q (.bl (isCl cols ts s)) H'
theorem sqt_same {K : PySem.W.Frag} {H H' : Hp} {p : Addr} {xs : List V} (h : SqT K H p xs) (s : Same H H') : SqT K H' p xs := h.ext s
theorem dtl_get {H : Hp} {ts : List Tie} {xs : List V} {i : Nat} {x : V} (h : DtL H (ts.map tieD) xs) (e : xs[i]? = some x) : ∃ (t : Tie) (a : Addr), ts[i]? = some t ∧ x = .ref a ∧ H a = some (.tup [.str (tx t.1), .str (tx [t.2])]) := by
  obtain ⟨dd, h1, h2⟩ := DtL.at_ h e
  obtain ⟨t, ht, rfl⟩ := map_get h1
  simp only [tieD, Dt, DtL] at h2
  obtain ⟨a, ys, rfl, ha, y1, r1, rfl, rfl, y2, r2, rfl, rfl, rfl⟩ := h2
  exact ⟨t, a, ht, rfl, ha⟩
end Mw
set_option Elab.async false
set_option linter.all false
set_option maxRecDepth 100000
set_option maxHeartbeats 4000000
/-! a walk over a tuple with its places -/
namespace Mw
open PySem PySem.Spec PyProof.Rows L2
open Sem (wp)
open AutoSeq1 (wpAny_loadPart')
/-- the tuple at a, each item in a new pair with its place -/
def Iet (K : PySem.W.Frag) (a : Addr) : It :=
  ⟨fun i H => ∃ (xs : List V) (x : V), SqT K H a xs ∧ xs[i]? = some x, fun i H v H' => ∃ T x, v = .ref T ∧ H T = none ∧ H' = upd H T (.tup [.int (i : Nat), x]) ∧ ∀ xs, SqT K H a xs → xs[i]? = some x, fun i H => ∃ xs : List V, SqT K H a xs ∧ xs.length ≤ i⟩
theorem turn_enumT {P : Program} {w : World} {K : PySem.W.Frag} {elts : List Expr} {kk : Nat} {tpos : Pos} (a e it : Addr) (hna : a ≠ it) :
    Turn P w K (.Tuple elts kk tpos) (Iet K a) [e, it] e (fun i h => (∃ old, IsEnum h e it ((i : Nat) : Int) old) ∧ h.IsTupleIter it a i ∧ e ≠ it) where
  mem := List.mem_cons_self
  obj := fun i h st b hb => by
    obtain ⟨⟨old, he⟩, ⟨o, ho, hc, hd⟩, _⟩ := st
    rcases List.mem_cons.mp hb with z | z
    · subst z
      exact ⟨_, he, fun v q => nomatch q⟩
    · cases List.mem_singleton.mp z
      exact ⟨o, ho, fun v q => by rw [hd] at q; cases q⟩
  keep := fun i h h' st k => by
    obtain ⟨⟨old, he⟩, hi, hne⟩ := st
    exact ⟨⟨old, k e (by simp) _ he⟩, hi.at fun o q => k it (by simp) o q, hne⟩
  item := by
    intro X hP hw hK hc i pins s σ H E I hf st hg
    subst hP hw hK
    obtain ⟨⟨old, he⟩, hit, hne⟩ := st
    obtain ⟨xs, x, hq, hx⟩ := hg
    obtain ⟨its, rv, p, hz⟩ := I.tuple hq
    obtain ⟨u, hu, ru⟩ := rv.get hx
    have p2 : s.heap.IsTuple a its.toArray := p
    have hel : e < s.heap.objs.size := Heap.lt_size he
    have hil : it < s.heap.objs.size := by
      obtain ⟨_, q, _⟩ := hit
      exact Heap.lt_size q
    have hal : a ≠ e := fun z => by
      obtain ⟨_, q, c, _⟩ := p2
      subst z
      have eo := Option.some.inj (he.symm.trans q)
      rw [← eo] at c
      exact absurd (show Value.type "enumerate" = Value.type "tuple" from c) (by decide)
    have hn : (X.A.in1).handled = none := I.ok.hd hc
    have lt : i < its.toArray.size := by
      rw [List.size_toArray]
      exact (List.getElem?_eq_some_iff.mp hu).1
    refine wpAny_pyNext_enum_itemD (Draws.tuple hn it a hna its.toArray) he ⟨hit, p2⟩ lt hne (fun z => ?_) fun y h' tk hy ho st2 hT hsz hk => ?_
    · rcases List.mem_cons.mp z with z | z
      · exact hne z
      · exact hal (List.mem_singleton.mp z).symm
    have ey : y = u := by
      have z : its.toArray[i]? = some y := hy
      rw [List.getElem?_toArray, hu] at z
      exact (Option.some.inj z).symm
    subst ey
    refine ⟨_, rfl, wpAny_letOwnedTupleGo_enum (s := { s with heap := h', toks := tk + 1 }) ho fun h'' he' sb => ?_⟩
    have hT2 : h''.get? s.heap.objs.size = some { cls := .type "tuple", data := .seq #[.int i tk, y] } := (sb.2 _ (Nat.ne_of_gt hel)).trans hT
    have new : ObjOk X.prog X.w (upd H s.heap.objs.size (.tup [.int (i : Nat), x])) h'' s.heap.objs.size (.tup [.int (i : Nat), x]) :=
      ⟨by show 2 ≤ sizeLine; decide, [.int i tk, y], .cons ⟨_, rfl⟩ (.cons ru .nil), ⟨_, hT2, rfl, _, rfl⟩⟩
    have I1 : Inv X pins σ (upd H s.heap.objs.size (.tup [.int (i : Nat), x])) { s with heap := h'', toks := tk + 1 } :=
      I.turnedNew (ch := [e, it]) (fun b ob hb q => (sb.2 b (fun z => hb (by simp [z]))).trans (hk b ob (fun z => hb (by simp [z])) (fun z => hb (by simp [z])) q)) hf (Nat.le_refl _) new
    refine ⟨.ref s.heap.objs.size, _, I1, rfl, ⟨_, x, rfl, I.hok.fresh (Nat.le_refl _), rfl, fun ys hy => by rw [I.tuple_inj hy hq]; exact hx⟩, ⟨⟨y, ?_⟩, st2.1.at fun o q => (sb.2 it (Ne.symm hne)).trans q, hne⟩, fun b hb => ?_⟩
    · have e1 : ((i + 1 : Nat) : Int) = (i : Int) + 1 := by omega
      rw [e1]
      exact he'
    · have hb' : b < s.heap.objs.size := by
        rcases List.mem_cons.mp hb with z | z
        · rw [z]
          exact hel
        · rw [List.mem_singleton.mp z]
          exact hil
      rw [upd_ne (Nat.ne_of_lt hb')]
      exact (hf b hb).1
  done := by
    intro X hP hw hK hc i pins s σ H E I hf st hg
    subst hP hw hK
    obtain ⟨⟨old, he⟩, hit, hne⟩ := st
    obtain ⟨xs, hq, hx⟩ := hg
    obtain ⟨its, rv, p, hz⟩ := I.tuple hq
    have p2 : s.heap.IsTuple a its.toArray := p
    obtain ⟨f0, f1, f2, f3, f4, f5⟩ := hf it (by simp)
    have hn : (X.A.in1).handled = none := I.ok.hd hc
    have hl := rv.length
    have hT : s.TypeIs (.ref e) "enumerate" := ⟨_, he, rfl⟩
    unfold pyNext
    refine wpAny_bind (wpAny_attempt (wpAny_callSpecial?_slot (name := Str.ofString "__next__") hT F.slot_enumerate_next
      (wpAny_call_entry F.slot_enumerate_next hT F.entry_enumerate_next ?_ (F.args_enumerate_next_1 _))))
    show wpAny _ _ (field (.ref e) 2 >>= _) _ _ _
    refine wpAny_bind (wpAny_field he rfl (x := .ref it) rfl ?_)
    refine wpAny_bind (wpAny_nextOf_tuple_end hn hit p2 (by rw [List.getElem?_toArray]; exact List.getElem?_eq_none (by omega)) fun h' x he' hx' => ?_)
    obtain ⟨o, ho, hcx⟩ := hx'
    refine wpAny_bind (wpAny_isInstance (T := "StopIteration") (b := true) ⟨o, ho, hcx⟩ isSubtype_stop ?_)
    exact wpAny_pure ⟨rfl, I.turned (t' := s.toks) (fun b o hb q => he' b o hb q) f0 f1 f3 f4 f5⟩
  self := fun A i s Q E st h => by
    obtain ⟨⟨_, he⟩, _⟩ := st
    exact wpAny_pyIter_enum he h

theorem meets_enum_newT (l : Addr) (items : Array Value) :
    Meets (Builtin.«enumerate.__new__» ⟨[.type "enumerate", .ref l], []⟩) (fun _ R s => s.heap.IsTuple l items ∧
      R (.ok (.ret (.ref (s.heap.push { cls := .type "tuple_iterator", data := .fields #[.ref l, .int 0 0] }).objs.size)))
        { s with heap := (s.heap.push { cls := .type "tuple_iterator", data := .fields #[.ref l, .int 0 0] }).push { cls := .type "enumerate", data := .fields #[.none, .bool false, .ref s.heap.objs.size, rawInt 0, .none, .none] } }) :=
  .of_wp fun prog w A R s h => by
    obtain ⟨hp, g, d, tk, os⟩ := s
    obtain ⟨hL, h⟩ := h
    have hsub := sub_enumerate
    wp_walk
    refine wpAny_stack_any fun st => wpAny_pure ?_
    split
    · rename_i c _ _ _ _ _
      cases (c == Value.type "enumerate") <;>
      · wp_walk using wpAny_pyIter_tuple hL
        exact ⟨_, rfl, h⟩
    · wp_walk using wpAny_pyIter_tuple hL
      exact ⟨_, rfl, h⟩

def iEnumT (K : PySem.W.Frag) (ta : TA) : TI := fun σ H R => ta σ H fun vs H1 => ∃ a xs, vs = [.ref a] ∧ SqT K H1 a xs ∧ R (Iet K a) H1
theorem pi_enumT {X : Cx} {e : Expr} {ta : TA} {p pos tpos : Pos} {elts : List Expr} {kk : Nat} (hg : Gl X "enumerate") (hm : X.mg "enumerate" = none) (ha : PA X [e] ta) (hs : starEach [e] X.env = [(false, eval e X.env)] := by rfl) :
    PI X (.Tuple elts kk tpos) (.Call (.Name "enumerate" p) [e] [] pos) (iEnumT X.K ta) := by
  refine ⟨fun pins s σ H R I h => ?_⟩
  refine Call_ (ld_blt I hg hm boot_enumerate (PyProof.Rows.callWith_type1 (thn (ha.run pos pins s σ H _ I h) fun us s1 ⟨vs, H1, I1, r1, q1⟩ => ?_) hs rfl))
  obtain ⟨a, xs, ex, hq, q⟩ := q1
  subst ex
  obtain ⟨u, rfl, hu⟩ := vals1 r1
  obtain rfl : u = Value.ref a := hu
  obtain ⟨its, rv, p', hz⟩ := I1.tuple hq
  have p2 : s1.heap.IsTuple a its.toArray := p'
  have hal : a ≠ s1.heap.objs.size := by
    obtain ⟨_, z, _⟩ := p2
    exact Nat.ne_of_lt (Heap.lt_size z)
  refine callType_new F.called_enumerate (by decide) (F.typeCall_enumerate_1 _) (F.newCall_enumerate_1 _) (fun obj => F.args_object_init_2 obj _) F.entry_enumerate_new (meets_enum_newT a its.toArray) ⟨p2, ?_⟩
  have hw : (s1.heap.push { cls := .type "tuple_iterator", data := .fields #[.ref a, .int 0 0] }).objs.size = s1.heap.objs.size + 1 := Heap.size_push ..
  show _ ∧ _
  rw [hw]
  have he : IsEnum ((s1.heap.push { cls := .type "tuple_iterator", data := .fields #[.ref a, .int 0 0] }).push { cls := .type "enumerate", data := .fields #[.none, .bool false, .ref s1.heap.objs.size, rawInt 0, .none, .none] }) (s1.heap.objs.size + 1) s1.heap.objs.size 0 .none := by
    have z := Heap.get?_push_size (s1.heap.push { cls := .type "tuple_iterator", data := .fields #[.ref a, .int 0 0] }) (o := { cls := .type "enumerate", data := .fields #[.none, .bool false, .ref s1.heap.objs.size, rawInt 0, .none, .none] }) rfl
    rw [hw] at z
    exact z
  refine ⟨⟨_, he, rfl⟩, wpAny_pyIter_enum he ?_⟩
  refine ⟨s1.heap.objs.size + 1, [s1.heap.objs.size + 1, s1.heap.objs.size], _, _, H1, rfl, I1.kept (t' := s1.toks) fun b o x => Heap.get?_push_of_some _ (Heap.get?_push_of_some _ x), turn_enumT a (s1.heap.objs.size + 1) s1.heap.objs.size hal, ⟨⟨.none, he⟩, ⟨_, Heap.get?_push_of_some _ (Heap.get?_push_size _ rfl), rfl, rfl⟩, Nat.succ_ne_self _⟩, fun b hb => ?_, q⟩
  have hle : s1.heap.objs.size ≤ b := by
    rcases List.mem_cons.mp hb with z | z
    · rw [z]
      exact Nat.le_add_right _ _
    · exact Nat.le_of_eq (List.mem_singleton.mp z).symm
  exact I1.fpOk hle (I1.hok.fresh hle)
theorem walk_enumT {K : PySem.W.Frag} {a : Addr} {xs : List V} : Walk (Iet K a) xs.length (fun H => SqT K H a xs) (YPair (fun i => some (.int (i : Nat))) (fun i => xs[i]?)) := by
  refine ⟨fun i _ hi q => ⟨xs, xs[i], q, List.getElem?_eq_getElem hi⟩, fun _ q => ⟨xs, q, Nat.le_refl _⟩, fun i H v H' _ q y => ?_⟩
  obtain ⟨T, x, h1, h2, h3, h4⟩ := y
  exact ⟨T, .int (i : Nat), x, h1, h2, h3, rfl, h4 xs q⟩
/-- a place that is never reached -/
theorem ps_dead {X : Cx} {st : Stmt} : PS X st (fun _ _ _ => False) := ⟨fun _ _ _ _ _ _ h => h.elim⟩
theorem cutV_whole {xs : List V} {n : Nat} (h : xs.length ≤ n) : cutV xs none (some (n : Int)) = xs := by
  unfold cutV
  rw [HT.sIx_nat, HT.sIx_none]
  show (xs.drop 0).take (min n xs.length - 0) = xs
  rw [List.drop_zero, Nat.sub_zero, Nat.min_eq_right h, List.take_length]
theorem sIx_whole {n k : Nat} (h : n ≤ k) : HT.sIx n 0 none = 0 ∧ HT.sIx n n (some (k : Int)) = n := ⟨rfl, by rw [HT.sIx_nat]; exact Nat.min_eq_right h⟩
/-- a list or a tuple -/
def SqA (K : PySem.W.Frag) (H : Hp) (a : Addr) (xs : List V) : Prop := H a = some (.lst xs) ∨ SqT K H a xs
theorem SqA.ext {K : PySem.W.Frag} {H H' : Hp} {a : Addr} {xs : List V} (h : SqA K H a xs) (s : Same H H') : SqA K H' a xs := h.elim (fun z => .inl (s _ _ z)) fun z => .inr (z.ext s)
theorem SqT.ty {K : PySem.W.Frag} {H : Hp} {a : Addr} {xs : List V} (h : SqT K H a xs) : TyX K H (.ref a) (.type "tuple") := by
  rcases h with (z | ⟨o, z⟩) | ⟨o, its, n, z, c, _⟩
  · exact .base (.tup z)
  · exact .fTuple z
  · exact .kTuple z c
theorem SqA.ty {K : PySem.W.Frag} {H : Hp} {a : Addr} {xs : List V} (h : SqA K H a xs) : ∃ t, TyX K H (.ref a) (.type t) ∧ (t = "list" ∨ t = "tuple") := h.elim (fun z => ⟨"list", .base (.lst z), .inl rfl⟩) fun z => ⟨"tuple", SqT.ty z, .inr rfl⟩
def spChk (K : PySem.W.Frag) : Sp := fun vs H Q _ => ∃ (cols : List Nat) (p : Addr) (xs : List V) (ts : List Tie), vs = [.str (tx cols), .ref p] ∧ cols.length ≤ 900 ∧ SqA K H p xs ∧ DtL H (ts.map tieD) xs ∧ ts.length ≤ 20 ∧ (∀ t ∈ ts, depB cols (tieD t) = true) ∧
  ∀ H' q, Same H H' → SqT K H' q xs → Q (.ref q) H'
end Mw
set_option Elab.async false
set_option linter.all false
set_option maxRecDepth 100000
set_option maxHeartbeats 4000000
/-! a def that makes a lambda, with no guards; schemes in the heap -/
namespace Mw
open PySem PySem.Spec PyProof.Rows L2 LamX
theorem fnOk_ofT {Pr : Program} {w : World} {K : PySem.W.Frag} {mg : Str → Option Value} {base : Heap} {x qual : Str} {params : Arguments} {body : List Stmt} {scope : Scope} {dvs : List V} {kws : List (Str × V)} {p : He.Defn} {fd : FuncData}
    {CX : CXT} {N ps : List Str} {k : Nat} {sp : Sp} (F : FunD K x qual params body scope dvs kws (He.fAd K p) fd) (S : FnScope N ps scope) (size : ∀ vs H Q E, sp vs H Q E → vs.length = ps.length)
    (hb : ∀ (A : Around) (outer : List Env) (st : Shared) (H : Hp) (vs : List V) (Q : VK) (E : XK), Room k (A.deeper (envOfC qual scope st.heap.objs.size (He.fAd K p) (.ref (He.cT K p).1))) → sp vs H Q E →
      ∃ t, PSs (cxOf CX Pr w K mg base N qual scope (He.fAd K p) (.ref (He.cT K p).1) A outer st H E) body t ∧ t { nx := fun _ H' => Q .non H', rt := Q } (start N vs) H) : FnOk Pr w K mg base CX (k + 1) (He.fAd K p) fd ps sp := by
  obtain ⟨oc, od, dV, kV, doc, pm, an, cdv, ct, osl, e1, lk, hcd, e2, e3⟩ := F.ex
  obtain ⟨c, hc⟩ := He.codeIn_ref hcd
  have ec : He.codeOf K p = c := by
    refine He.codeOf_eq lk ?_
    rw [e1]
    exact hc
  have e5 : cdv = Value.ref (He.cT K p).1 := by rw [hc, show (He.cT K p).1 = c from ec]
  subst e5
  subst e1
  exact fn_of lk hcd S size fun A outer s H vs Q E hr hsp => hb A outer s H vs Q E hr hsp
def qLam (n : Str) : Str := (n ++ ".<locals>.") ++ "<lambda>"
theorem SqT.extn {K : PySem.W.Frag} {H H' : Hp} {a : Addr} {xs : List V} (h : SqT K H a xs) (s : ExtN H H') : SqT K H' a xs := by
  rcases h with (z | ⟨o, z⟩) | z
  · exact .inl (.inl (s _ _ z fun _ y => nomatch y))
  · exact .inl (.inr ⟨o, s _ _ z fun _ y => nomatch y⟩)
  · exact .inr z
def spAllClosed (K : PySem.W.Frag) (T : List (Addr × Str)) : Sp := fun vs H Q _ => ∃ (cols : List Nat) (p : Addr) (xs : List V) (ts : List Tie), vs = [.str (tx cols), .ref p] ∧ cols.length ≤ 4 ∧ SqT K H p xs ∧ DtL H (ts.map tieD) xs ∧ ts.length ≤ 20 ∧ (∀ t ∈ ts, t.1.length ≤ 900) ∧ Tabs T H ∧
  ∀ H' q, ExtN H H' → Tabs T H' → SqT K H' q ((closedOf cols ts).map V.str) → Q (.ref q) H'
end Mw
set_option Elab.async false
set_option linter.all false
set_option maxRecDepth 100000
set_option maxHeartbeats 4000000
namespace Mw
open PySem PySem.Spec PyProof.Rows L2 LamX
theorem eqv_texts : ∀ (l m : List Str), PyData.eqvAll (l.map .str) (m.map .str) = decide (l = m)
  | [], [] => rfl
  | [], y :: m => rfl
  | x :: l, [] => rfl
  | x :: l, y :: m => by
    show (x == y && PyData.eqvAll (l.map .str) (m.map .str)) = _
    rw [eqv_texts l m]
    by_cases h : x = y
    · subst h
      rw [beq_self_eq_true, Bool.true_and]
      exact decide_eq_decide.mpr ⟨fun z => by rw [z], fun z => (List.cons.inj z).2⟩
    · rw [beq_eq_false_iff_ne.mpr h, Bool.false_and]
      exact (decide_eq_false fun z => h (List.cons.inj z).1).symm
theorem dp_texts {K : PySem.W.Frag} {H : Hp} : ∀ (l : List Str), DpAll K H (l.map V.str) (l.map .str)
  | [] => .nil
  | x :: l => .cons (.str x) (dp_texts l)
theorem shaped_texts (l : List Str) (h : ∀ y ∈ l, PyData.canLay0 (.str y) = true) : SeqAt.shaped (.tuple (l.map .str)) = true := by
  have z1 : ∀ l : List Str, (∀ y ∈ l, PyData.canLay0 (.str y) = true) → PyData.canLayAll0 (l.map .str) = true := by
    intro l
    induction l with
    | nil => intro _; rfl
    | cons a r ih =>
      intro h
      show (PyData.canLay0 (.str a) && PyData.canLayAll0 (r.map .str)) = true
      rw [h a List.mem_cons_self, ih fun y hy => h y (List.mem_cons_of_mem _ hy)]
      rfl
  have z2 : ∀ l : List Str, PyData.depthAll (l.map .str) ≤ 1 := by
    intro l
    induction l with
    | nil => decide
    | cons a r ih =>
      show max (PyData.depth (.str a)) (PyData.depthAll (r.map .str)) ≤ 1
      have : PyData.depth (.str a) ≤ 1 := by simp [PyData.depth]
      omega
  have z3 := z2 l
  refine Bool.and_eq_true_iff.mpr ⟨z1 l h, decide_eq_true ?_⟩
  show _ ≤ 64
  have : PyData.depth (.tuple (l.map .str)) ≤ 2 := by
    simp only [PyData.depth]
    omega
  omega
theorem same_del {H : Hp} {x : Addr} : Same (del H x) H := fun b u e => by
  by_cases h : b = x
  · rw [h, del_same] at e
    cases e
  · rw [del_ne h] at e
    exact e
theorem sqt_over {K : PySem.W.Frag} {H : Hp} {x C dx q : Addr} {fs : List (Str × V)} {o : HO} {xs : List V} (hx : H x = some (.ins C dx fs)) (h : SqT K H q xs) : SqT K (upd H x o) q xs := by
  rcases h with (z | ⟨o, z⟩) | z
  · exact .inl (.inl (by rw [upd_ne (fun e => by rw [e, hx] at z; cases z)]; exact z))
  · exact .inl (.inr ⟨o, by rw [upd_ne (fun e => by rw [e, hx] at z; cases z)]; exact z⟩)
  · exact .inr z
theorem tabs_over {T : List (Addr × Str)} {H : Hp} {x C dx : Addr} {fs : List (Str × V)} {o : HO} (hx : H x = some (.ins C dx fs)) (h : Tabs T H) : Tabs T (upd H x o) := by
  intro p hp
  obtain ⟨ps, h1, h2, h3⟩ := h p hp
  refine ⟨ps, by rw [upd_ne (fun e => by rw [e, hx] at h1; cases h1)]; exact h1, h2, fun pos cv hc => ?_⟩
  obtain ⟨c, e1, e2⟩ := h3 pos cv hc
  exact ⟨c, e1, by rw [upd_ne (fun e => by rw [e, hx] at e2; cases (Option.some.inj e2 : HO.ins C dx fs = HO.ext _))]; exact e2⟩
theorem closed_lay {cols : List Nat} {ts : List Tie} (h : ∀ c ∈ cols, c < 200) : ∀ y ∈ closedOf cols ts, PyData.canLay0 (.str y) = true := by
  intro y hy
  have z : ∃ s ∈ pow (cols ++ [114]), y = tx s := by
    unfold closedOf at hy
    rw [List.mem_mergeSort] at hy
    obtain ⟨s, hs, e⟩ := List.mem_map.mp hy
    exact ⟨s, (List.mem_filter.mp hs).1, e.symm⟩
  obtain ⟨s, hs, rfl⟩ := z
  have sub := pow_sub _ _ _ rfl hs
  show (tx s).cps.all (fun c => decide (c < 1114112)) = true
  rw [Array.all_eq_true_iff_forall_mem]
  intro c hc
  have m : c ∈ cols ++ [114] := sub.subset (Array.mem_toList_iff.mpr hc)
  rcases List.mem_append.mp m with m | m
  · exact decide_eq_true (Nat.lt_trans (h c m) (by decide))
  · rw [List.mem_singleton.mp m]
    rfl
/-- a scheme in the heap -/
def SchFs (cols : List Nat) (q1 q2 : Addr) : List (Str × V) := [("_columns", .str (tx cols)), ("_dependences", .ref q1), ("_closed", .ref q2)]
def SchA (K : PySem.W.Frag) (C : Addr) (H : Hp) (a : Addr) (cols : List Nat) (ts : List Tie) : Prop := ∃ dx q1 q2, H a = some (.ins C dx (SchFs cols q1 q2)) ∧ SqT K H q2 ((closedOf cols ts).map V.str) ∧ cols.length ≤ 4 ∧ ∀ c ∈ cols, c < 200
theorem SchA.extn {K : PySem.W.Frag} {C : Addr} {H H' : Hp} {a : Addr} {cols : List Nat} {ts : List Tie} (h : SchA K C H a cols ts) (s : ExtN H H') : SchA K C H' a cols ts := by
  obtain ⟨dx, q1, q2, h1, h2, h3⟩ := h
  exact ⟨dx, q1, q2, s _ _ h1 (fun _ y => nomatch y), SqT.extn h2 s, h3⟩
def spInit (K : PySem.W.Frag) (T : List (Addr × Str)) (C : Addr) : Sp := fun vs H Q _ => ∃ (x dx p : Addr) (cols : List Nat) (xs : List V) (ts : List Tie), vs = [.ref x, .str (tx cols), .ref p] ∧ H x = some (.ins C dx []) ∧ colB (.str (tx cols)) = true ∧ cols.length ≤ 4 ∧ (∀ c ∈ cols, c < 200) ∧
  SqA K (del H x) p xs ∧ DtL (del H x) (ts.map tieD) xs ∧ ts.length ≤ 20 ∧ (∀ t ∈ ts, depB cols (tieD t) = true ∧ t.1.length ≤ 900) ∧ Tabs T (del H x) ∧ ∀ H', ExtN (del H x) H' → Tabs T H' → SchA K C H' x cols ts → Q .non H'
def spClosedSets (K : PySem.W.Frag) (C : Addr) : Sp := fun vs H Q _ => ∃ (a : Addr) (cols : List Nat) (ts : List Tie), vs = [.ref a] ∧ SchA K C H a cols ts ∧ ∀ l H', H l = none → Same H H' → H' l = some (.lst ((closedOf cols ts).map V.str)) → Q (.ref l) H'
def spEq (K : PySem.W.Frag) (C : Addr) : Sp := fun vs H Q _ => ∃ (a : Addr) (y : V) (cols : List Nat) (ts : List Tie), vs = [.ref a, y] ∧ SchA K C H a cols ts ∧
  ((∃ (b : Addr) (dols : List Nat) (us : List Tie), y = .ref b ∧ SchA K C H b dols us ∧ Q (.bl (decide (cols = dols) && decide (closedOf cols ts = closedOf dols us))) H) ∨ ∃ dd, Dt H dd y ∧ Q (.bl false) H)
/-- a field of an instance is set -/
@[elab_as_elim] theorem fld_put {K : PySem.W.Frag} {H : Hp} {x C dx : Addr} {fs : List (Str × V)} {o : HO} {motive : Hp → Prop} (hx : H x = some (.ins C dx fs))
    (h : ∀ H', H' x = some o → (∀ G : Hp, G x = none → Same G H → Same G H') → (∀ G : Hp, G x = none → ExtN G H → ExtN G H') → (∀ q xs, SqT K H q xs → SqT K H' q xs) → (∀ T, Tabs T H → Tabs T H') → motive H') : motive (upd H x o) := by
  refine h _ upd_same (fun G hG s => same_into hG s) (fun G hG s b u e n => ?_) (fun q xs z => sqt_over hx z) fun T z => tabs_over hx z
  rw [upd_ne (ne_of_none e hG)]
  exact s _ _ e n
end Mw
set_option Elab.async false
set_option linter.all false
set_option maxRecDepth 100000
set_option maxHeartbeats 4000000
/-! the list of a text's signs; a law's plans -/
namespace Mw
open PySem PySem.Spec PyProof.Rows L2 LamX
section
variable {X : Cx} {pins : List (Addr × Obj)} {σ : L2.St} {H : Hp} {s : Shared}
theorem sign_vals (l : List Nat) {acc : Array Value} (h : ItemsOf (SignAt (tx l)) acc (tx l).cps.size) : Vals (l.map oneV) acc.toList := by
  have z : ∀ (r : List Nat) (us : List Value), us.length = r.length → (∀ (j : Nat) (v : Value), us[j]? = some v → ∃ (c : Nat) (u : Tok), r[j]? = some c ∧ v = Value.str ⟨#[c]⟩ u) → Vals (r.map oneV) us := by
    intro r
    induction r with
    | nil =>
      intro us hl _
      rw [List.length_eq_zero_iff.mp hl]
      exact .nil
    | cons c r ih =>
      intro us hl hs
      cases us with
      | nil => cases hl
      | cons v us =>
        obtain ⟨c', u, e1, e2⟩ := hs 0 v rfl
        cases e1
        refine .cons ⟨u, e2⟩ (ih us (by simpa using hl) fun j y hj => ?_)
        obtain ⟨c1, u1, y1, y2⟩ := hs (j + 1) y hj
        exact ⟨c1, u1, y1, y2⟩
  refine z l acc.toList ?_ fun j v hj => ?_
  · rw [Array.length_toList, h.1]
    exact tx_size l
  · rw [Array.getElem?_toList] at hj
    obtain ⟨c, u, e1, e2⟩ := h.2 j v hj
    exact ⟨c, u, cps_get e1, e2⟩
def rListText : List V → Hp → VK → Prop := fun xs H Q => ∃ l : List Nat, xs = [.str (tx l)] ∧ l.length ≤ 1000 ∧ ∀ p, H p = none → Q (.ref p) (upd H p (.lst (l.map oneV)))
theorem cr_listText (calm : X.calm = true) : CallR X (.type "list") rListText := by
  rintro pins s σ H xs us Q I r ⟨l, rfl, small, q⟩
  obtain ⟨u, rfl, t, rfl⟩ := vals1 r
  have ln : (tx l).cps.size ≤ sizeLine := by
    rw [tx_size]
    exact le_line small
  refine call_list_str (I.ok.hd calm) (tx l) t (fun h' tk acc c keep new items => ?_) ln
  have free : H s.heap.objs.size = none := I.hok.fresh (Nat.le_refl _)
  have lz : (l.map oneV).length ≤ sizeLine := by
    rw [List.length_map]
    exact le_line small
  exact ⟨.ref _, upd H s.heap.objs.size (.lst (l.map oneV)), I.laid keep (Nat.le_refl _) ⟨lz, acc.toList, c, sign_vals l items, new⟩, rfl, q _ free⟩
end
end Mw
namespace Mw
open PySem PySem.Spec PyProof.Rows L2 LamX
/-! ### lists of a law's own -/
/-- an object apart from the draws -/
structure Own3 (d W C L : Addr) : Prop where
  nd : L ≠ d
  nw : L ≠ W
  nc : L ≠ C
theorem Drw.own {H : Hp} {d W C : Addr} {n : Nat} (D : Drw H d W C n) {L : Addr} (h : H L = none) : Own3 d W C L := by
  obtain ⟨a, b, c⟩ := D.new_d h
  exact ⟨a, b, c⟩
theorem Drw.put {H : Hp} {d W C : Addr} {n : Nat} (D : Drw H d W C n) {L : Addr} (o : Own3 d W C L) (x : HO) : Drw (upd H L x) d W C n := by
  obtain ⟨⟨r, t, ws, cs, a, b, c, e, f⟩, g⟩ := D
  exact ⟨⟨r, t, ws, cs, by rw [upd_ne o.nd.symm]; exact a, by rw [upd_ne o.nw.symm]; exact b, by rw [upd_ne o.nc.symm]; exact c, e, f⟩, g⟩
theorem Sd.put {d W L : Addr} {H H' : Hp} {o : HO} (s : Sd d W H H') (h : H L = none) : Sd d W H (upd H' L o) := fun b x e => by
  have hb : b ≠ L := fun z => by
    rw [z, Hid.none_ h] at e
    cases e
  have e2 := s b x e
  unfold Hid at e2 ⊢
  by_cases m : b = d ∨ b = W
  · rw [if_pos m] at e2
    cases e2
  · rw [if_neg m] at e2 ⊢
    rw [upd_ne hb]
    exact e2
theorem Sd.own {d W C L : Addr} {H H' : Hp} {x : HO} (s : Sd d W H H') (o : Own3 d W C L) (h : H L = some x) : H' L = some x := Sd.at_ s o.nd o.nw h
theorem own_hid {d W C L : Addr} {H : Hp} {x : HO} (o : Own3 d W C L) (h : H L = some x) : Hid d W H L = some x := by
  rw [Hid.at_ o.nd o.nw]
  exact h
theorem erase_map {α β : Type} (f : α → β) : ∀ (l : List α) (k : Nat), (l.map f).eraseIdx k = (l.eraseIdx k).map f
  | [], k => by simp
  | a :: l, 0 => rfl
  | a :: l, k + 1 => by
    show f a :: (l.map f).eraseIdx k = f a :: (l.eraseIdx k).map f
    rw [erase_map f l k]
theorem seq_ix {n : Nat} {i : Int} (h0 : 0 ≤ i) (h1 : i < n) : seqIndex? i n = some i.toNat := by
  have e : seqIndex? i n = if (decide (0 ≤ i) && decide (i < (n : Int))) = true then some i.toNat else none := by
    unfold seqIndex?
    simp only [if_neg (show ¬ i < 0 by omega)]
  rw [e, decide_eq_true h0, decide_eq_true h1]
  rfl
end Mw
set_option Elab.async false
set_option linter.all false
set_option maxRecDepth 100000
set_option maxHeartbeats 4000000
/-! plans of a law -/
namespace Mw
open PySem PySem.Spec PyProof.Rows L2 LamX
/-- what stands apart from the draws and from the object F -/
def Gd (d W F : Addr) (H : Hp) : Hp := del (Hid d W H) F
theorem Gd.sub {d W F : Addr} {H : Hp} : Same (Gd d W F H) (Hid d W H) := same_del
theorem Gd.subH {d W F : Addr} {H : Hp} : Same (Gd d W F H) H := same_del.trans (Hid.sub d W H)
theorem Gd.sd {d W F : Addr} {H H' : Hp} (s : Sd d W H H') : Same (Gd d W F H) (Gd d W F H') := fun b u e => by
  unfold Gd at e ⊢
  by_cases h : b = F
  · rw [h, del_same] at e
    cases e
  · rw [del_ne h] at e ⊢
    exact s b u e
theorem Gd.put {d W C F : Addr} {H : Hp} {o : HO} (w : Own3 d W C F) : Gd d W F (upd H F o) = Gd d W F H := by
  funext b
  unfold Gd
  by_cases h : b = F
  · rw [h, del_same, del_same]
  · rw [del_ne h, del_ne h]
    unfold Hid
    rw [upd_ne h]
theorem Gd.at_ {d W C F p : Addr} {H : Hp} {o : HO} (w : Own3 d W C p) (n : p ≠ F) (h : H p = some o) : Gd d W F H p = some o := by
  unfold Gd
  rw [del_ne n]
  exact own_hid w h
theorem r_app (l : List Nat) : tx l ++ (Str.ofString "r") = tx (l ++ [114]) := by
  rw [← tx_app]
  rfl
theorem r_one : (Str.ofString "r") = tx [114] := by rfl
def planD (cols : List Nat) (ts : List Tie) : PyData := .tuple [.str (tx cols), .tuple (ts.map tieD)]
structure PlanOk (cols : List Nat) (ts : List Tie) : Prop where
  col : ColOk cols
  tie : ∀ t ∈ ts, TieOk cols t
theorem plan_at {H : Hp} {cols : List Nat} {ts : List Tie} {v : V} (h : Dt H (planD cols ts) v) : ∃ (p q : Addr) (xs : List V), v = .ref p ∧ H p = some (.tup [.str (tx cols), .ref q]) ∧ H q = some (.tup xs) ∧ DtL H (ts.map tieD) xs := by
  simp only [planD, Dt, DtL] at h
  obtain ⟨p, ys, rfl, hp, y1, r1, rfl, rfl, y2, r2, rfl, ⟨q, xs, rfl, hq, hx⟩, rfl⟩ := h
  exact ⟨p, q, xs, rfl, hp, hq, hx⟩
theorem plan_of {H : Hp} {cols : List Nat} {ts : List Tie} {p q : Addr} {xs : List V} (hp : H p = some (.tup [.str (tx cols), .ref q])) (hq : H q = some (.tup xs)) (hx : DtL H (ts.map tieD) xs) : Dt H (planD cols ts) (.ref p) := by
  simp only [planD, Dt, DtL]
  exact ⟨p, _, rfl, hp, _, _, rfl, rfl, _, _, rfl, ⟨q, xs, rfl, hq, hx⟩, rfl⟩
theorem tie_of {H : Hp} {t : Tie} {p : Addr} (h : H p = some (.tup [.str (tx t.1), .str (tx [t.2])])) : Dt H (tieD t) (.ref p) := by
  simp only [tieD, Dt, DtL]
  exact ⟨p, _, rfl, h, _, _, rfl, rfl, _, _, rfl, rfl, rfl⟩
theorem DtL.take {H : Hp} : ∀ {ds : List PyData} {xs : List V} (k : Nat), DtL H ds xs → DtL H (ds.take k) (xs.take k)
  | [], xs, k, h => by
    simp only [DtL] at h
    subst h
    cases k <;> simp only [List.take, DtL]
  | d :: ds, xs, 0, h => by simp only [List.take, DtL]
  | d :: ds, xs, k + 1, h => by
    simp only [DtL] at h
    obtain ⟨x, r, rfl, h1, h2⟩ := h
    simp only [List.take, DtL]
    exact ⟨x, _, rfl, h1, DtL.take k h2⟩
theorem cutV_take (xs : List V) (k : Nat) : cutV xs none (some (k : Int)) = xs.take k := by
  unfold cutV
  rw [HT.sIx_nat, HT.sIx_none]
  show (xs.drop 0).take (min k xs.length - 0) = _
  rw [List.drop_zero, Nat.sub_zero]
  by_cases h : k ≤ xs.length
  · rw [Nat.min_eq_left h]
  · rw [Nat.min_eq_right (by omega), List.take_length, List.take_of_length_le (by omega)]
theorem set_of_sub {cols s : List Nat} (h : ColOk cols) (hs : s.Sublist (cols ++ [114])) : SetOk cols s := filter_sub (colr_nd h) hs
def spDrawn : Sp := fun vs H Q _ => ∃ (d W C : Addr) (n k : Nat), vs = [.ref d, .int 4, .int (k : Int)] ∧ k ≤ 5 ∧ Drw H d W C (n + 60) ∧
  ∀ (cols : List Nat) (ts : List Tie) (v : V) (H' : Hp), PlanOk cols ts → ts.length ≤ k → Drw H' d W C n → Sd d W H H' → Dt (Hid d W H') (planD cols ts) v → Q v H'
end Mw
namespace Mw
open PySem PySem.Spec PyProof.Rows L2 LamX
theorem Sd.back {d W C L : Addr} {H H' : Hp} (s : Sd d W H H') (o : Own3 d W C L) (h : H' L = none) : H L = none := by
  cases e : H L with
  | none => rfl
  | some x =>
    have z := s.own o e
    rw [h] at z
    cases z
end Mw
namespace Mw
open PySem PySem.Spec PyProof.Rows L2 LamX
theorem steps_len : ∀ (ts : List Tie) (f : List Nat), (ts.foldl tieStep f).length ≤ f.length + ts.length
  | [], f => Nat.le_refl _
  | t :: ts, f => by
    have z := steps_len ts (tieStep f t)
    have y : (tieStep f t).length ≤ f.length + 1 := by
      unfold tieStep
      rw [List.length_append]
      split <;> simp
    show ((ts.foldl tieStep (tieStep f t))).length ≤ f.length + (ts.length + 1)
    omega
theorem clo_len {cols : List Nat} {ts : List Tie} {s : List Nat} (hs : s.length ≤ 5) : ∀ n, (clo cols ts s n).length ≤ 5
  | 0 => hs
  | n + 1 => srt_len _
theorem sg_ones (l : List Nat) : l.map sg = l.map fun c => tx [c] := rfl
def spClosure : Sp := fun vs H Q _ => ∃ (v : V) (cols : List Nat) (ts : List Tie) (s : List Nat), vs = [v, .str (tx s)] ∧ Dt H (planD cols ts) v ∧ PlanOk cols ts ∧ InL s ∧ s.length ≤ 5 ∧ ts.length ≤ 20 ∧
  ∀ H', Same H H' → Q (.str (tx (clo cols ts s (cols.length + 2)))) H'
def spLawSets : Sp := fun vs H Q _ => ∃ (cols : List Nat), vs = [.str (tx cols)] ∧ cols.length ≤ 4 ∧ ∀ l H', H l = none → Same H H' → H' l = some (.lst ((lawSets cols).map V.str)) → Q (.ref l) H'
def spLawClosed : Sp := fun vs H Q _ => ∃ (v : V) (cols : List Nat) (ts : List Tie), vs = [v] ∧ Dt H (planD cols ts) v ∧ PlanOk cols ts ∧ ts.length ≤ 20 ∧ ∀ l H', H l = none → Same H H' → H' l = some (.lst ((lawClosed cols ts).map V.str)) → Q (.ref l) H'
end Mw
set_option Elab.async false
set_option linter.all false
set_option maxRecDepth 100000
set_option maxHeartbeats 4000000
namespace Mw
open PySem PySem.Spec PyProof.Rows L2 LamX
/-- each item is a tie with the property -/
def AllT (G : Hp) (Pr : Tie → Prop) (ys : List V) : Prop := ∀ y ∈ ys, ∃ t, Pr t ∧ Dt G (tieD t) y
theorem AllT.same {G G' : Hp} {Pr : Tie → Prop} {ys : List V} (h : AllT G Pr ys) (s : Same G G') : AllT G' Pr ys := fun y hy => by
  obtain ⟨t, h1, h2⟩ := h y hy
  exact ⟨t, h1, Dt.same s _ _ h2⟩
theorem AllT.sub {G : Hp} {Pr : Tie → Prop} {ys zs : List V} (h : AllT G Pr ys) (s : ∀ z ∈ zs, z ∈ ys) : AllT G Pr zs := fun z hz => h z (s z hz)
theorem AllT.ties {G : Hp} {Pr : Tie → Prop} : ∀ {ys : List V}, AllT G Pr ys → ∃ us : List Tie, us.length = ys.length ∧ (∀ t ∈ us, Pr t) ∧ DtL G (us.map tieD) ys
  | [], _ => ⟨[], rfl, fun _ z => (nomatch z), .nil⟩
  | y :: ys, h => by
    obtain ⟨t, h1, h2⟩ := h y List.mem_cons_self
    obtain ⟨us, e, p, dl⟩ := AllT.ties (ys := ys) fun z hz => h z (List.mem_cons_of_mem _ hz)
    refine ⟨t :: us, by rw [List.length_cons, List.length_cons, e], fun u hu => ?_, DtL.cons h2 dl⟩
    rcases List.mem_cons.mp hu with z | z
    · rw [z]
      exact h1
    · exact p u z
theorem allT_of {G : Hp} {Pr : Tie → Prop} : ∀ {ts : List Tie} {ys : List V}, DtL G (ts.map tieD) ys → (∀ t ∈ ts, Pr t) → AllT G Pr ys
  | [], ys, h, _ => by
    simp only [List.map, DtL] at h
    subst h
    exact fun _ z => nomatch z
  | t :: ts, ys, h, p => by
    simp only [List.map, DtL] at h
    obtain ⟨y, r, rfl, h1, h2⟩ := h
    intro z hz
    rcases List.mem_cons.mp hz with e | e
    · rw [e]
      exact ⟨t, p t List.mem_cons_self, h1⟩
    · exact allT_of h2 (fun u hu => p u (List.mem_cons_of_mem _ hu)) z e
theorem slA_of {K : PySem.W.Frag} {H : Hp} {a : Addr} {xs : List V} {lo hi : Option Int} {Q : VK} (h : H a = some (.tup xs)) (q : ∀ p H', Same H H' → H' p = some (.tup (cutV xs lo hi)) → Q (.ref p) H') : rSlA K (.ref a) lo hi H Q := by
  refine ⟨a, xs, rfl, SqT.of h, fun w => q a H (Same.refl H) ?_, fun _ p hp => q p _ (same_upd hp) upd_same⟩
  have e : cutV xs lo hi = xs := by
    unfold cutV
    rw [w.1, w.2, List.drop_zero, Nat.sub_zero, List.take_length]
  rw [e]
  exact h
theorem clo_cols {cols : List Nat} {ts : List Tie} {s : List Nat} (pk : PlanOk cols ts) (hs : ∀ c ∈ s, c ∈ cols ++ [114]) (n : Nat) : ∀ c ∈ clo cols ts s n, c ∈ cols ++ [114] :=
  clo_le hs (isCl_iff.mpr ⟨fun _ c hc => List.mem_append_left _ hc, fun t ht _ => (pk.tie t ht).le⟩) n
theorem same_none {H H' : Hp} {b : Addr} (s : Same H H') (h : H' b = none) : H b = none := none_of s h
def spShuf (K : PySem.W.Frag) : Sp := fun vs H Q _ => ∃ (d W C : Addr) (n : Nat) (p : Addr) (xs : List V), vs = [.ref d, .ref p] ∧ H p = some (.lst xs) ∧ xs.length ≤ 900 ∧ Drw H d W C (n + xs.length) ∧
  ∀ (q : Addr) (ys : List V) (H' : Hp), (∀ y ∈ ys, y ∈ xs) → ys.length = xs.length → Drw H' d W C n → Sd d W H H' → Own3 d W C q → H' q = some (.lst ys) → Q (.ref q) H'
def PWr (cols : List Nat) (ts : List Tie) (t : Tie) : Prop := TieOk cols t ∧ (t ∈ ts ∨ t.2 ∈ clo cols ts t.1 (cols.length + 2))
def spWritten : Sp := fun vs H Q _ => ∃ (d W C : Addr) (n : Nat) (v : V) (cols : List Nat) (ts : List Tie), vs = [.ref d, v] ∧ Dt (Hid d W H) (planD cols ts) v ∧ PlanOk cols ts ∧ ts.length ≤ 5 ∧ Drw H d W C (n + 60) ∧
  ∀ (us : List Tie) (q : Addr) (xs : List V) (H' : Hp), (∀ t ∈ us, PWr cols ts t) → us.length ≤ 20 → Drw H' d W C n → Sd d W H H' → Hid d W H' q = some (.tup xs) → DtL (Hid d W H') (us.map tieD) xs → Q (.ref q) H'
end Mw
set_option Elab.async false
set_option linter.all false
set_option maxRecDepth 100000
set_option maxHeartbeats 4000000
namespace Mw
open PySem PySem.Spec PyProof.Rows L2 LamX
theorem dp_ties {K : PySem.W.Frag} {H : Hp} : ∀ {ts : List Tie} {xs : List V}, DtL H (ts.map tieD) xs → DpAll K H xs (ts.map tieD)
  | [], xs, h => by
    simp only [List.map, DtL] at h
    subst h
    exact .nil
  | t :: ts, xs, h => by
    simp only [List.map, DtL] at h
    obtain ⟨x, r, rfl, h1, h2⟩ := h
    simp only [tieD, Dt, DtL] at h1
    obtain ⟨a, ys, rfl, ha, y1, r1, rfl, rfl, y2, r2, rfl, rfl, rfl⟩ := h1
    exact .cons (.tup (SqT.of ha) (.cons (.str _) (.cons (.str _) .nil))) (dp_ties h2)
theorem lay_text {l : List Nat} (h : ∀ c ∈ l, c < 200) : PyData.canLay0 (.str (tx l)) = true := by
  show (tx l).cps.all (fun c => decide (c < 1114112)) = true
  rw [Array.all_eq_true_iff_forall_mem]
  intro c hc
  exact decide_eq_true (Nat.lt_trans (h c (Array.mem_toList_iff.mpr hc)) (by decide))
theorem shaped_ties {ts : List Tie} (h : ∀ t ∈ ts, (∀ c ∈ t.1, c < 200) ∧ t.2 < 200) : SeqAt.shaped (.tuple (ts.map tieD)) = true := by
  have z1 : ∀ ts : List Tie, (∀ t ∈ ts, (∀ c ∈ t.1, c < 200) ∧ t.2 < 200) → PyData.canLayAll0 (ts.map tieD) = true := by
    intro ts
    induction ts with
    | nil => intro _; rfl
    | cons t r ih =>
      intro h
      have h1 := h t List.mem_cons_self
      show (PyData.canLay0 (tieD t) && PyData.canLayAll0 (r.map tieD)) = true
      rw [ih fun y hy => h y (List.mem_cons_of_mem _ hy), Bool.and_true]
      show (PyData.canLay0 (.str (tx t.1)) && (PyData.canLay0 (.str (tx [t.2])) && true)) = true
      rw [lay_text h1.1, lay_text (l := [t.2]) fun c hc => by rw [List.mem_singleton.mp hc]; exact h1.2]
      rfl
  have z2 : ∀ ts : List Tie, PyData.depthAll (ts.map tieD) ≤ 3 := by
    intro ts
    induction ts with
    | nil => decide
    | cons t r ih =>
      show max (PyData.depth (tieD t)) (PyData.depthAll (r.map tieD)) ≤ 3
      have : PyData.depth (tieD t) ≤ 3 := by simp [tieD, PyData.depth, PyData.depthAll]
      omega
  have z3 := z2 ts
  refine Bool.and_eq_true_iff.mpr ⟨z1 ts h, decide_eq_true ?_⟩
  have : PyData.depth (.tuple (ts.map tieD)) ≤ 5 := by
    simp only [PyData.depth]
    omega
  omega
theorem eqv_tie_nil (ts : List Tie) : PyData.eqv (.tuple (ts.map tieD)) (.tuple []) = ts.isEmpty := by
  cases ts <;> rfl
theorem catA_of {K : PySem.W.Frag} {H : Hp} {a b : Addr} {xs ys : List V} {Q : VK} (ha : H a = some (.tup xs)) (hb : H b = some (.tup ys)) (lz : xs.length + ys.length ≤ 1000) (q : ∀ p H', Same H H' → H' p = some (.tup (xs ++ ys)) → Q (.ref p) H') : rCatA K (.ref a) (.ref b) H Q := by
  refine ⟨a, b, xs, ys, rfl, rfl, SqT.of ha, SqT.of hb, le_line lz, fun e => q b H (Same.refl H) ?_, fun _ e => q a H (Same.refl H) ?_, fun _ _ p hp => q p _ (same_upd hp) upd_same⟩
  · rw [e]
    exact hb
  · rw [e, List.append_nil]
    exact ha
theorem col_lt {c : List Nat} (h : ColOk c) : ∀ x ∈ c, x < 200 := fun x hx => by
  have z : ∀ x ∈ abcd, x < 200 := by decide
  exact z x ((col_sub h).subset hx)
theorem colr_lt {c : List Nat} (h : ColOk c) : ∀ x ∈ c ++ [114], x < 200 := fun x hx => by
  have z : ∀ x ∈ allL, x < 200 := by decide
  exact z x ((colr_sub h).subset hx)
theorem set_mem {c s : List Nat} (h : SetOk c s) : ∀ x ∈ s, x ∈ c ++ [114] := fun x hx => by
  have z := pick_sub (c ++ [114]) s
  rw [show pickL (c ++ [114]) s = s from h] at z
  exact z.subset hx
theorem tie_lt {c : List Nat} {ts : List Tie} (pk : PlanOk c ts) : ∀ t ∈ ts, (∀ x ∈ t.1, x < 200) ∧ t.2 < 200 := fun t ht =>
  ⟨fun x hx => colr_lt pk.col x (set_mem (pk.tie t ht).lo x hx), colr_lt pk.col _ (pk.tie t ht).le⟩
/-- one column more -/
theorem col_more {cols : List Nat} {c : Nat} (h : ColOk cols) (hc : c ∈ abcd) : ColOk (srtL (cols ++ [c])) := by
  have sub : (srtL (cols ++ [c])).Sublist abcd := by
    have e : srtL (cols ++ [c]) = pickL abcd (cols ++ [c]) := by
      have e2 : pickL allL (cols ++ [c]) = pickL abcd (cols ++ [c]) ++ pickL [114] (cols ++ [c]) := by
        unfold pickL
        exact List.filter_append (p := fun x => decide (x ∈ cols ++ [c])) abcd [114]
      have e3 : pickL [114] (cols ++ [c]) = [] := by
        unfold pickL
        rw [List.filter_eq_nil_iff]
        intro x hx hm
        rw [List.mem_singleton.mp hx] at hm
        have m := of_decide_eq_true hm
        have z : ∀ x ∈ abcd, x ≠ 114 := by decide
        rcases List.mem_append.mp m with m | m
        · exact z 114 ((col_sub h).subset m) rfl
        · rw [← List.mem_singleton.mp m] at hc
          exact z 114 hc rfl
      unfold srtL
      rw [e2, e3, List.append_nil]
    rw [e]
    exact pick_sub _ _
  refine ⟨fun e => ?_, filter_sub (by decide) sub⟩
  have m : c ∈ srtL (cols ++ [c]) := mem_srt.mpr ⟨by
    have z : ∀ x ∈ abcd, x ∈ allL := by decide
    exact z c hc, List.mem_append_right _ List.mem_cons_self⟩
  rw [e] at m
  cases m
theorem plan_more {cols : List Nat} {c : Nat} {ts : List Tie} (pk : PlanOk cols ts) (hc : c ∈ abcd) : PlanOk (srtL (cols ++ [c])) ts := by
  have cm := col_more pk.col hc
  have up : ∀ x ∈ cols ++ [114], x ∈ srtL (cols ++ [c]) ++ [114] := fun x hx => by
    rcases List.mem_append.mp hx with h | h
    · exact List.mem_append_left _ (mem_srt.mpr ⟨(colr_sub pk.col).subset (List.mem_append_left _ h), List.mem_append_left _ h⟩)
    · exact List.mem_append_right _ h
  exact ⟨cm, fun t ht => ⟨wr_set cm (set_wr pk.col (pk.tie t ht).lo) fun x hx => up x (set_mem (pk.tie t ht).lo x hx), up _ (pk.tie t ht).le⟩⟩
def spPickS : Sp := fun vs H Q _ => ∃ (d W C : Addr) (n : Nat) (l : List Nat), vs = [.ref d, .str (tx l)] ∧ Drw H d W C (n + 1) ∧ 0 < l.length ∧ l.length ≤ 1000 ∧ ∀ (c : Nat) (H' : Hp), c ∈ l → Drw H' d W C n → Sd d W H H' → Q (.str (tx [c])) H'
def spNear : Sp := fun vs H Q _ => ∃ (d W C : Addr) (n : Nat) (v : V) (cols : List Nat) (ts : List Tie), vs = [.ref d, v] ∧ Dt (Hid d W H) (planD cols ts) v ∧ PlanOk cols ts ∧ ts.length ≤ 5 ∧ Drw H d W C (n + 130) ∧
  ∀ (dols : List Nat) (us : List Tie) (y : V) (H' : Hp), PlanOk dols us → us.length ≤ 20 → Drw H' d W C n → Sd d W H H' → Dt (Hid d W H') (planD dols us) y → Q y H'
theorem Drw.own_tup {H : Hp} {d W C : Addr} {n : Nat} (D : Drw H d W C n) {p : Addr} {xs : List V} (h : H p = some (.tup xs)) : Own3 d W C p := by
  obtain ⟨⟨r, t, ws, cs, a, b, c, e, f⟩, g⟩ := D
  refine ⟨fun z => ?_, fun z => ?_, fun z => ?_⟩
  · rw [z, a] at h
    cases h
  · rw [z, b] at h
    cases h
  · rw [z, c] at h
    cases h
theorem mem_cutV {xs : List V} {lo hi : Option Int} : ∀ y ∈ cutV xs lo hi, y ∈ xs := fun y hy => List.mem_of_mem_drop (List.mem_of_mem_take hy)
end Mw
set_option Elab.async false
set_option linter.all false
set_option maxRecDepth 100000
set_option maxHeartbeats 4000000
namespace Mw
open PySem PySem.Spec PyProof.Rows L2 LamX
theorem dep_ok {cols : List Nat} {t : Tie} (hc : ColOk cols) (h : TieOk cols t) : depB cols (tieD t) = true := by
  show (decide (pickL (cols ++ [114]) t.1 = t.1) && decide (pickL (cols ++ [114]) [t.2] = [t.2]) && decide ([t.2].length = 1)) = true
  rw [decide_eq_true (show pickL (cols ++ [114]) t.1 = t.1 from h.lo), decide_eq_true (show pickL (cols ++ [114]) [t.2] = [t.2] from set_of_sub hc (List.singleton_sublist.mpr h.le))]
  rfl
theorem col_ok {cols : List Nat} (h : ColOk cols) : colB (.str (tx cols)) = true := by
  show (decide (cols ≠ []) && decide (pickL abcd cols = cols)) = true
  rw [decide_eq_true h.1, decide_eq_true h.2]
  rfl
theorem mk_of {K : PySem.W.Frag} {T : List (Addr × Str)} {C : Addr} {H1 : Hp} {cols : List Nat} {ts : List Tie} {p : Addr} {xs : List V} {Q : VK} {E : XK} {x dx : Addr} (h1 : H1 x = none) (h2 : H1 dx = none) (pk : PlanOk cols ts) (lt : ts.length ≤ 20) (hp : SqA K H1 p xs) (hx : DtL H1 (ts.map tieD) xs) (tb : Tabs T H1)
    (q : ∀ H2, ExtN H1 H2 → Tabs T H2 → SchA K C H2 x cols ts → Q .non H2) :
    spInit K T C [.ref x, .str (tx cols), .ref p] (upd (upd H1 dx (.own x)) x (.ins C dx [])) Q E := by
  have s : Same H1 (del (upd (upd H1 dx (.own x)) x (.ins C dx [])) x) := fun b u e => by
    rw [del_ne (ne_of_none e h1), upd_ne (ne_of_none e h1), upd_ne (ne_of_none e h2)]
    exact e
  exact ⟨x, dx, p, cols, xs, ts, rfl, upd_same, col_ok pk.col, col_len pk.col, col_lt pk.col, hp.ext s, DtL.same s _ _ hx, lt, fun t ht => ⟨dep_ok pk.col (pk.tie t ht), Nat.le_trans (set_len pk.col (pk.tie t ht).lo) (by decide)⟩, tb.ext s, fun H' e t a => q H' ((ExtN.of s).trans e) t a⟩
/-- all apart from the draws stays, but the tables -/
def Ed (d W : Addr) (H H' : Hp) : Prop := ExtN (Hid d W H) (Hid d W H')
theorem Ed.refl {d W : Addr} (H : Hp) : Ed d W H H := ExtN.refl _
theorem Ed.trans {d W : Addr} {H H1 H2 : Hp} (a : Ed d W H H1) (b : Ed d W H1 H2) : Ed d W H H2 := ExtN.trans a b
theorem Ed.sd {d W : Addr} {H H' : Hp} (s : Sd d W H H') : Ed d W H H' := ExtN.of s
theorem Ed.same {d W : Addr} {H H' : Hp} (s : Same H H') : Ed d W H H' := Ed.sd (Sd.of s)
theorem Ed.ext {d W : Addr} {H H' : Hp} (s : ExtN H H') : Ed d W H H' := ExtN.hid d W s
theorem Ed.up {d W : Addr} {H : Hp} : ExtN (Hid d W H) H := ExtN.of (Hid.sub d W H)
theorem rep2 (a b : Bool) : (PyData.list [.bool a, .bool b]).showable = true ∧ (PyData.list [.bool a, .bool b]).depth ≤ 60 ∧ (PyData.list [.bool a, .bool b]).shown.length ≤ sizeLine := by
  cases a <;> cases b <;> exact ⟨rfl, by decide, le_line (by decide)⟩
theorem rep3 (a b c : Bool) : (PyData.list [.bool a, .bool b, .bool c]).showable = true ∧ (PyData.list [.bool a, .bool b, .bool c]).depth ≤ 60 ∧ (PyData.list [.bool a, .bool b, .bool c]).shown.length ≤ sizeLine := by
  cases a <;> cases b <;> cases c <;> exact ⟨rfl, by decide, le_line (by decide)⟩
theorem scha_hid {K : PySem.W.Frag} {C0 : Addr} {H : Hp} {d W C : Addr} {n : Nat} {a : Addr} {cols : List Nat} {ts : List Tie} (D : Drw H d W C n) (h : SchA K C0 H a cols ts) : SchA K C0 (Hid d W H) a cols ts := by
  obtain ⟨⟨r, t, ws, cs, hd, hw, hc, e, f⟩, g⟩ := D
  have at1 : ∀ {b : Addr} {o : HO}, H b = some o → (∀ k, o ≠ .dK k) → (∀ k, o ≠ .lst k) → Hid d W H b = some o := by
    intro b o hb n1 n2
    rw [Hid.at_ (fun z => ?_) (fun z => ?_)]
    · exact hb
    · rw [z, hd] at hb
      exact n1 _ (Option.some.inj hb).symm
    · rw [z, hw] at hb
      exact n2 _ (Option.some.inj hb).symm
  obtain ⟨dx, q1, q2, h1, h2, h3⟩ := h
  refine ⟨dx, q1, q2, at1 h1 (fun _ z => nomatch z) (fun _ z => nomatch z), ?_, h3⟩
  rcases h2 with (z | ⟨o, z⟩) | z
  · exact .inl (.inl (at1 z (fun _ z => nomatch z) fun _ z => nomatch z))
  · exact .inl (.inr ⟨o, at1 z (fun _ z => nomatch z) fun _ z => nomatch z⟩)
  · exact .inr z
theorem own_eq {K : PySem.W.Frag} {C : Addr} {H : Hp} {m b : Addr} {cols dols : List Nat} {ts us : List Tie} {neg c : Bool} {E : XK} {Q : VK} (h1 : SchA K C H m cols ts) (h2 : SchA K C H b dols us) (hc : (decide (cols = dols) && decide (closedOf cols ts = closedOf dols us)) = c)
    (q : Q (.bl (if neg then !c else c)) H) : rOwnEq K C (spEq K C) E neg (.ref m) (.ref b) H Q := by
  obtain ⟨dx, q1, q2, h, r⟩ := h1
  obtain ⟨dy, r1, r2, g, r'⟩ := h2
  refine ⟨m, dx, _, rfl, h, .inl ⟨b, dy, _, rfl, g⟩, m, .ref b, cols, ts, rfl, ⟨dx, q1, q2, h, r⟩, .inl ⟨b, dols, us, rfl, ⟨dy, r1, r2, g, r'⟩, _, rfl, ?_⟩⟩
  rw [hc]
  exact q
theorem own_data {K : PySem.W.Frag} {C : Addr} {H : Hp} {m : Addr} {y : V} {dd : PyData} {cols : List Nat} {ts : List Tie} {neg : Bool} {E : XK} {Q : VK} (o : OwnC K C) (h1 : SchA K C H m cols ts) (h2 : Dt H dd y) (q : Q (.bl (if neg then !false else false)) H) : rOwnEq K C (spEq K C) E neg (.ref m) y H Q := by
  obtain ⟨dx, q1, q2, h, r⟩ := h1
  exact ⟨m, dx, _, rfl, h, h2.beside o, m, y, cols, ts, rfl, ⟨dx, q1, q2, h, r⟩, .inr ⟨dd, h2, _, rfl, q⟩⟩
theorem dtl_texts {H : Hp} : ∀ (l : List Str), DtL H (l.map .str) (l.map V.str)
  | [] => .nil
  | x :: l => DtL.cons (by simp only [Dt]) (dtl_texts l)
theorem shaped_list (l : List Str) (h : ∀ y ∈ l, PyData.canLay0 (.str y) = true) : SeqAt.shaped (.list (l.map .str)) = true := shaped_texts l h
theorem law_lay {cols : List Nat} {ts : List Tie} (h : ColOk cols) : ∀ y ∈ lawClosed cols ts, PyData.canLay0 (.str y) = true := by
  intro y hy
  obtain ⟨s, hs, rfl⟩ := mem_sets.mp (List.mem_filter.mp hy).1
  exact lay_text fun c hc => colr_lt h c ((pow_sub _ _ _ rfl hs).subset hc)
theorem tupN {H H' : Hp} {p : Addr} {xs : List V} (e : ExtN H H') (h : H p = some (.tup xs)) : H' p = some (.tup xs) := e _ _ h fun _ z => nomatch z
theorem dec_and (cols dols : List Nat) (ts us : List Tie) : (decide (dols = cols) && decide (closedOf dols us = closedOf cols ts)) = (decide (cols = dols) && decide (closedOf cols ts = closedOf dols us)) := by
  rw [show decide (dols = cols) = decide (cols = dols) from decide_eq_decide.mpr ⟨Eq.symm, Eq.symm⟩, show decide (closedOf dols us = closedOf cols ts) = decide (closedOf cols ts = closedOf dols us) from decide_eq_decide.mpr ⟨Eq.symm, Eq.symm⟩]
theorem dt_bl {H : Hp} (b : Bool) : Dt H (.bool b) (.bl b) := by simp only [Dt]
end Mw
set_option Elab.async false
set_option linter.all false
set_option maxRecDepth 100000
set_option maxHeartbeats 2000000
/-! the getters of properties, as the head tells them -/
namespace Mw
open PySem PySem.Spec PyProof.Rows L2 LamX
/-- the property object, its getter -/
def prA (K : PySem.W.Frag) (q : Str × Str) : Addr := He.ma K (He.ga K q.1) q.2
def pgA (K : PySem.W.Frag) (q : Str × Str) : Addr := match PySem.W.recIn K (prA K q) "property" with
  | some (.ref g :: _) => g
  | _ => 0
def fnAt (K : PySem.W.Frag) (a : Addr) : He.FnW :=
  match K.lookup a with
  | some ⟨_, _, .func fd, _⟩ =>
    some (fd.name, fd.qualname, fd.params, fd.body, fd.scope, fd.globals, fd.closure, fd.builtins)
  | _ => none
structure GetD where
  at_ : Str × Str
  name : Str
  qual : Str
  params : Arguments
  body : List Stmt
  scope : Scope
def GetD.val (d : GetD) : He.FnW := some (d.name, d.qual, d.params, .stmts d.body, d.scope, mainGlobals, [], builtinsNs)
def getOk (K : PySem.W.Frag) (q : Str × Str) (qual : Str) : Bool :=
  PySem.W.keepIn K (.ref (pgA K q)) &&
    match K.lookup (pgA K q) with
    | some ⟨_, _, .func fd, _⟩ => PySem.W.codeIn K fd.code qual && (He.dflB K fd.defaults [] && He.kwdB K fd.kwdefaults [])
    | _ => false
def GetD.ok (K : PySem.W.Frag) (d : GetD) : Bool := getOk K d.at_ d.qual
theorem GetD.fun_ {K : PySem.W.Frag} {d : GetD} (e : fnAt K (pgA K d.at_) = d.val) (c : d.ok K = true) : FunD K d.name d.qual d.params d.body d.scope [] [] (pgA K d.at_) (fdOf K (pgA K d.at_)) := by
  refine funD_of ?_
  unfold GetD.ok getOk at c
  obtain ⟨kp, c2⟩ := He.ba c
  unfold fnAt at e
  generalize pgA K d.at_ = a at e c2 kp ⊢
  cases q : K.lookup a with
  | none =>
    rw [q] at e
    cases e
  | some o =>
    rcases o with ⟨oc, od, dt, sl⟩
    rw [q] at c2 e
    cases dt with
    | func fd =>
      rcases fd with ⟨n1, n2, n3, n4, n5, n6, n7, n8, n9, n10, n11, n12, n13, n14, n15⟩
      have z : (some (n1, n2, n3, n4, n5, n6, n7, n15) : He.FnW) = some (d.name, d.qual, d.params, .stmts d.body, d.scope, mainGlobals, [], builtinsNs) := e
      injection z with z
      injection z with z1 z
      injection z with z2 z
      injection z with z3 z
      injection z with z4 z
      injection z with z5 z
      injection z with z6 z
      injection z with z7 z8
      subst z1 z2 z3 z4 z5 z6 z7 z8
      have c3 : (PySem.W.codeIn K n13 d.qual && (He.dflB K n8 [] && He.kwdB K n9 [])) = true := c2
      obtain ⟨k1, k2⟩ := He.ba c3
      obtain ⟨k3, k4⟩ := He.ba k2
      exact ⟨_, ⟨oc, od, n8, n9, n10, n11, n12, n13, n14, sl, rfl, q, k1, He.dflB_ok k3, He.kwdB_ok k4⟩, kp⟩
    | _ => cases e
/-- the class has the property -/
def propB (K : PySem.W.Frag) (q : Str × Str) : Bool :=
  He.eqO (PySem.W.findIn K (.ref (He.ga K q.1)) q.2) (some (some (.ref (prA K q)))) && (He.eqO (PySem.W.specialIn K (.ref (prA K q)) "__get__") (some (some (.builtin "property.__get__"))) && (decide (PySem.W.takesIn K (.ref (prA K q)) = some true) &&
    match PySem.W.recIn K (prA K q) "property" with
    | some (.ref g :: _) => decide (g = pgA K q)
    | _ => false))
theorem propB_ok {K : PySem.W.Frag} {q : Str × Str} (h : propB K q = true) : PropOf K (He.ga K q.1) q.2 (prA K q) (pgA K q) := by
  obtain ⟨h1, h⟩ := He.ba h
  obtain ⟨h2, h⟩ := He.ba h
  obtain ⟨h3, h4⟩ := He.ba h
  refine ⟨He.eqO_ok h1, He.eqO_ok h2, of_decide_eq_true h3, ?_⟩
  split at h4
  · rename_i g rest e
    rw [e, ← of_decide_eq_true h4]
    exact ⟨rest, rfl⟩
  · cases h4
structure SaysGet (fa : List Fct) (fn : List He.DefD) (tf : List He.Defn) (gs : List GetD) (h : Heap) (K : PySem.W.Frag) : Prop where
  mt : SaysMT fa fn tf h K
  get : gs.map (fun d => fnAt K (pgA K d.at_)) = gs.map GetD.val
def obsGet (n : Nat) (fa : List Fct) (fn : List He.DefD) (tf : List He.Defn) (gs : List GetD) (g : Addr → Option Obj) : (He.AlD × Bool) × List He.FnW :=
  (obsMT n fa fn tf g, gs.map fun d => fnAt (He.frT g (asM n g)) (pgA (He.frT g (asM n g)) d.at_))
def hookGet (n : Nat) (fa : List Fct) (fn : List He.DefD) (tf : List He.Defn) (gs : List GetD) : PySem.W.Hook where
  α := (He.AlD × Bool) × List He.FnW
  obs := fun s => obsGet n fa fn tf gs s.heap.get?
  val := fun _ => ((He.valD fn, true), gs.map GetD.val)
  says := fun _ h => ∃ K : PySem.W.Frag, K.In h ∧ SaysGet fa fn tf gs h K
  of := fun _ _ e => ⟨_, He.frT_in, saysMT_of (congrArg Prod.fst e), congrArg Prod.snd e⟩
  keeps := fun _ _ _ ⟨K, hK, c⟩ k => ⟨K, PySem.W.Frag.In.keeps hK k, ⟨c.mt.m, c.mt.hd, c.mt.out, fun p hp => k _ _ (c.mt.empty p hp)⟩, c.get⟩
theorem obsGet_eq {n : Nat} {fa : List Fct} {fn : List He.DefD} {tf : List He.Defn} {gs : List GetD} {g : Addr → Option Obj} {s : Shared} (h : ∀ a, g a = s.heap.get? a) : obsGet n fa fn tf gs g = (hookGet n fa fn tf gs).obs s := by
  cases (funext h : g = s.heap.get?)
  rfl
theorem SaysGet.at_ {fa : List Fct} {fn : List He.DefD} {tf : List He.Defn} {gs : List GetD} {h : Heap} {K : PySem.W.Frag} (s : SaysGet fa fn tf gs h K) {d : GetD} (hd : d ∈ gs) : fnAt K (pgA K d.at_) = d.val := by
  have z := s.get
  clear s
  induction gs with
  | nil => cases hd
  | cons x r ih =>
    have y := List.cons.inj z
    rcases List.mem_cons.mp hd with e | e
    · rw [e]
      exact y.1
    · exact ih e y.2
end Mw
set_option Elab.async false
set_option linter.all false
set_option maxRecDepth 100000
set_option maxHeartbeats 4000000
namespace Mw
open PySem PySem.Spec PyProof.Rows L2 LamX
def spDrawn8 : Sp := fun vs H Q _ => ∃ (d W C : Addr) (n k : Nat), vs = [.ref d, .int 4, .int (k : Int)] ∧ k ≤ 8 ∧ Drw H d W C (n + 100) ∧
  ∀ (cols : List Nat) (ts : List Tie) (v : V) (H' : Hp), PlanOk cols ts → ts.length ≤ k → Drw H' d W C n → Sd d W H H' → Dt (Hid d W H') (planD cols ts) v → Q v H'
end Mw
set_option Elab.async false
set_option linter.all false
set_option maxRecDepth 100000
set_option maxHeartbeats 4000000
/-! the least text by its length -/
namespace Mw
open PySem PySem.Spec PyProof.Rows L2 LamX
section
variable {X : Cx}
def tMinLen (K : PySem.W.Frag) (te : TE) : TE := fun σ H Q => te σ H fun x H1 => ∃ (a : Addr) (ys : List Str), x = .ref a ∧ SqL K H1 a (ys.map V.str) ∧ ys ≠ [] ∧ (∀ y ∈ ys, y.length ≤ 1000) ∧
  ∀ r ∈ ys, (∀ y ∈ ys, r.length ≤ y.length) → Q (.str r) H1
theorem pe_minLen {e : Expr} {te : TE} {p p2 kp pos : Pos} (calm : X.calm = true) (g1 : Gl X "min") (m1 : X.mg "min" = none) (g2 : Gl X "len") (m2 : X.mg "len" = none) (he : PE X e te)
    (st : backTo pos (starEach [e] X.env) = (false, eval e X.env) :: backTo pos (starEach [] X.env) := by rfl) (hpl : (backTo pos (starEach [e] X.env)).any (·.1) = false := by rfl) :
    PE X (.Call (.Name "min" p) [e] [⟨some "key", .Name "len" p2, kp⟩] pos) (tMinLen X.K te) := by
  refine ⟨fun pins s σ H Q I h => wpAny_Call_Name_kw (ld_blt (u := .builtin "min") I g1 m1 (by decide +kernel) ?_)⟩
  refine PyProof.Rows.callWith_kw ?_ st hpl rfl rfl
  rw [st]
  refine Calls.spliced_cons (thn (he.run pins s σ H _ I h) fun u s1 ⟨x, H1, J, r, a, ys, ex, hs, ne, ly, q⟩ => Calls.spliced_nil ?_)
  show wpAny _ _ (evalAll ((eval (.Name "len" p2) X.env >>= fun v => standAt pos >>= fun _ => pure v) :: [])) _ _ _
  refine wpAny_evalAll_cons (wpAny_bind (ld_blt (u := .builtin "len") J g2 m2 (by decide +kernel) (wpAny_bind (wpAny_standAt (wpAny_pure (wpAny_evalAll_nil ?_))))))
  subst ex
  obtain rfl : u = Value.ref a := r
  obtain ⟨its, rv, hl, _⟩ := J.list hs
  have hl2 := hl.isList
  have ll := rv.length
  rw [List.length_map] at ll
  have hpos : 0 < ys.length := List.length_pos_iff.mpr ne
  have ha : a < s1.heap.objs.size := by
    obtain ⟨_, z, _⟩ := hl2
    exact Heap.lt_size z
  have item : ∀ (i : Nat) (v : Value), its.toArray[i]? = some v → ∃ (y : Str) (t : Tok), ys[i]? = some y ∧ v = .str y t := by
    intro i v hv
    rw [List.getElem?_toArray] at hv
    have hi : i < ys.length := by
      have z := (List.getElem?_eq_some_iff.mp hv).1
      omega
    have hx : (ys.map V.str)[i]? = some (.str ys[i]) := by
      rw [List.getElem?_map, List.getElem?_eq_getElem hi]
      rfl
    obtain ⟨u, hu, t, e⟩ := rv.get hx
    rw [hu] at hv
    exact ⟨ys[i], t, List.getElem?_eq_getElem hi, (Option.some.inj hv).symm.trans e⟩
  have getD_ : ∀ {i : Nat} {y : Str}, ys[i]? = some y → ys.getD i Str.empty = y := fun h => by
    rw [List.getD_eq_getElem?_getD, h]
    rfl
  show wpAny _ _ (call (.builtin "min") [.ref a] [(Str.ofString "key", .builtin "len")]) _ _ _
  refine call_min_walkKB (wpAny_pyIter_list hl2 ?_)
  have hsz : (s1.heap.push { cls := .type "list_iterator", data := .fields #[.ref a, .int 0 0] }).objs.size = s1.heap.objs.size + 1 := Heap.size_push ..
  refine ⟨s1.heap.objs.size, _, _, _, its.toArray.size, _, _, fun s' => ∃ (h' : Heap) (tk : Nat), s' = { s1 with heap := h', toks := tk } ∧ ∀ b o, s1.heap.get? b = some o → h'.get? b = some o, fun i k _ => ∃ (y : Str) (t : Tok), ys[i]? = some y ∧ k = .int (y.length : Int) t,
    fun i j => decide (((ys.getD i Str.empty).length : Int) < ((ys.getD j Str.empty).length : Int)), rfl, (Walks.list (A := X.A.in1) (J.ok.hd calm) s1.heap.objs.size a (Nat.ne_of_lt ha) its.toArray).toS, ?_, ?_, ?_, ?_, ?_, ?_⟩
  · exact ⟨⟨_, Heap.get?_push_size _ rfl, rfl, rfl⟩, hl2.at fun o e => Heap.get?_push_of_some _ e⟩
  · intro b hb
    show b < (s1.heap.push _).objs.size
    rw [hsz]
    rcases List.mem_cons.mp hb with z | z
    · rw [z]
      exact Nat.lt_succ_self _
    · rw [List.mem_singleton.mp z]
      exact Nat.lt_succ_of_lt ha
  · rw [List.size_toArray]
    omega
  · refine ⟨fun s2 s3 h mv => ?_, fun _ _ _ _ h _ => h, fun i v s2 o Q E hi hP h st hS k => ?_, fun i j ki kj s2 Q E _ hi hj q => ?_⟩
    · obtain ⟨h', tk, rfl, kp⟩ := h
      refine ⟨s3.heap, s3.toks, ?_, fun b o e => mv.heap b o (fun hb => ?_) (kp b o e)⟩
      · have m1 : s3.gens = s1.gens := mv.gens
        have m2 : s3.drawn = s1.drawn := mv.drawn
        have m3 : s3.os = s1.os := mv.os
        cases s3
        cases m1
        cases m2
        cases m3
        rfl
      · have hb2 := Heap.lt_size e
        rcases List.mem_cons.mp hb with z | z
        · have z2 : b = (s1.heap.push { cls := .type "list_iterator", data := .fields #[.ref a, .int 0 0] }).objs.size := z
          rw [hsz] at z2
          rw [z2] at hb2
          exact absurd (Nat.lt_trans (Nat.lt_succ_self _) hb2) (Nat.lt_irrefl _)
        · rw [List.mem_singleton.mp z] at hb2
          exact absurd hb2 (Nat.lt_irrefl _)
    · obtain ⟨y, t, hy, rfl⟩ := item i v hP
      have l1 := ly y (List.mem_of_getElem? hy)
      obtain ⟨h', tk, rfl, kp⟩ := h
      refine len_str (by omega) (k _ _ ⟨h', _, rfl, kp⟩ st hS ⟨y, _, hy, rfl⟩ fun _ _ z => z)
    · obtain ⟨y, t, hy, rfl⟩ := hi
      obtain ⟨y2, t2, hy2, rfl⟩ := hj
      refine wpAny_lt_int ?_
      rw [getD_ hy, getD_ hy2] at q
      exact q
  · exact ⟨_, _, rfl, fun b o e => Heap.get?_push_of_some _ e⟩
  · intro v s3 hP h
    obtain ⟨y, t, hy, rfl⟩ := item _ v hP
    obtain ⟨h', tk, rfl, kp⟩ := h
    refine ⟨.str y, H1, J.kept (t' := tk) kp, ⟨t, rfl⟩, q y (List.mem_of_getElem? hy) fun z hz => ?_⟩
    obtain ⟨j, hj⟩ := List.getElem?_of_mem hz
    have b := (argBest_lt (fun i => ((ys.getD i Str.empty).length : Int)) (its.toArray.size - 1)).2 j (by
      have := (List.getElem?_eq_some_iff.mp hj).1
      rw [List.size_toArray]
      omega)
    have e1 := getD_ hy
    have b2 : ((ys.getD (argBest (fun i j => decide (((ys.getD i Str.empty).length : Int) < ((ys.getD j Str.empty).length : Int))) (its.toArray.size - 1)) Str.empty).length : Int) ≤ ((ys.getD j Str.empty).length : Int) := b
    rw [e1, getD_ hj] at b2
    omega
end
end Mw
set_option Elab.async false
set_option linter.all false
set_option maxRecDepth 100000
set_option maxHeartbeats 4000000
/-! the closure is the least closed set -/
namespace Mw
open PySem PySem.Spec PyProof.Rows L2 LamX
theorem wr_sublist {f g : List Nat} (hf : Wr f) (hg : Wr g) (h : ∀ c ∈ f, c ∈ g) : f.Sublist g := by
  have e : pickL (srtL g) f = srtL f := by
    unfold srtL pickL
    rw [List.filter_filter]
    refine List.filter_congr fun x _ => ?_
    by_cases m : x ∈ f
    · rw [decide_eq_true m, decide_eq_true (h x m)]
      rfl
    · rw [decide_eq_false m, Bool.false_and]
  have s := pick_sub (srtL g) f
  rw [e, hf, hg] at s
  exact s
theorem wr_same {f g : List Nat} (hf : Wr f) (hg : Wr g) (h : ∀ c ∈ f, c ∈ g) (l : g.length ≤ f.length) : f = g := (wr_sublist hf hg h).eq_of_length_le l
theorem rnd_wr {cols : List Nat} {ts : List Tie} (f : List Nat) : Wr (rnd cols ts f) := srt_wr _
theorem clo_grow {cols : List Nat} {ts : List Tie} {s : List Nat} (hs : Wr s) : ∀ m, clo cols ts s (m + 1) = clo cols ts s m ∨ m + 1 ≤ (clo cols ts s (m + 1)).length
  | 0 => by
    by_cases e : clo cols ts s 1 = clo cols ts s 0
    · exact .inl e
    · refine .inr ?_
      have sub := wr_sublist (clo_wr hs 0) (clo_wr hs 1) (rnd_sub (cols := cols) (ts := ts) (clo_wr hs 0).inL)
      by_cases l : (clo cols ts s 1).length ≤ (clo cols ts s 0).length
      · exact absurd (sub.eq_of_length_le l).symm e
      · show 1 ≤ (clo cols ts s 1).length
        omega
  | m + 1 => by
    rcases clo_grow (cols := cols) (ts := ts) hs m with e | e
    · refine .inl ?_
      show rnd cols ts (clo cols ts s (m + 1)) = rnd cols ts (clo cols ts s m)
      rw [e]
    · by_cases e2 : clo cols ts s (m + 2) = clo cols ts s (m + 1)
      · exact .inl e2
      · refine .inr ?_
        have sub := wr_sublist (clo_wr hs (m + 1)) (clo_wr hs (m + 2)) (rnd_sub (cols := cols) (ts := ts) (clo_wr hs (m + 1)).inL)
        by_cases l : (clo cols ts s (m + 2)).length ≤ (clo cols ts s (m + 1)).length
        · exact absurd (sub.eq_of_length_le l).symm e2
        · show m + 2 ≤ (clo cols ts s (m + 2)).length
          omega
theorem sub_pow : ∀ (n : Nat) (l s : List Nat), l.length = n → s.Sublist l → s ∈ pow l
  | 0, l, s, hl, h => by
    have e := List.length_eq_zero_iff.mp hl
    subst e
    rw [List.sublist_nil.mp h]
    exact List.mem_cons_self
  | n + 1, l, s, hl, h => by
    have ne : l ≠ [] := fun e => by
      rw [e] at hl
      cases hl
    have el := List.dropLast_concat_getLast ne
    generalize l.dropLast = l1 at el
    generalize l.getLast ne = c at el
    subst el
    rw [List.length_append] at hl
    have hl1 : l1.length = n := by
      have : l1.length + 1 = n + 1 := hl
      omega
    have e1 : pow (l1 ++ [c]) = pow l1 ++ (pow l1).map (· ++ [c]) := by
      unfold pow
      rw [List.foldl_append]
      rfl
    rw [e1]
    obtain ⟨s1, s2, rfl, h1, h2⟩ := List.sublist_append_iff.mp h
    have m := sub_pow n l1 s1 hl1 h1
    cases s2 with
    | nil =>
      rw [List.append_nil]
      exact List.mem_append_left _ m
    | cons d r =>
      have lr := h2.length_le
      have er : r = [] := by
        cases r with
        | nil => rfl
        | cons _ _ => exact absurd lr (by simp)
      subst er
      have ed : d = c := List.mem_singleton.mp (h2.subset List.mem_cons_self)
      rw [ed]
      exact List.mem_append_right _ (List.mem_map.mpr ⟨s1, m, rfl⟩)
variable {cols : List Nat} {ts : List Tie} {s : List Nat}
theorem clo_closed (pk : PlanOk cols ts) (hs : SetOk cols s) : isCl cols ts (clo cols ts s (cols.length + 2)) = true ∧ clo cols ts s (cols.length + 2) ∈ pow (cols ++ [114]) := by
  have ws := set_wr pk.col hs
  have inC := clo_cols pk (s := s) (fun c hc => set_mem hs c hc) (cols.length + 2)
  have wc := clo_wr (cols := cols) (ts := ts) ws (cols.length + 2)
  have so := wr_set pk.col wc inC
  have sub : (clo cols ts s (cols.length + 2)).Sublist (cols ++ [114]) := by
    have z := pick_sub (cols ++ [114]) (clo cols ts s (cols.length + 2))
    rw [show pickL (cols ++ [114]) _ = _ from so] at z
    exact z
  have st : clo cols ts s (cols.length + 2) = clo cols ts s (cols.length + 1) := by
    rcases clo_grow (cols := cols) (ts := ts) ws (cols.length + 1) with e | e
    · exact e
    · have l := sub.length_le
      rw [List.length_append] at l
      have l2 : (clo cols ts s (cols.length + 2)).length ≤ cols.length + 1 := l
      have e2 : cols.length + 1 + 1 ≤ (clo cols ts s (cols.length + 2)).length := e
      omega
  refine ⟨?_, sub_pow _ _ _ rfl sub⟩
  refine (clo_fix (cols := cols) (ts := ts) wc (fun c hc => (colr_sub pk.col).subset (List.mem_append_left _ hc)) (fun t ht => (colr_sub pk.col).subset (pk.tie t ht).le) 0).mp ?_
  show rnd cols ts (clo cols ts s (cols.length + 2)) = clo cols ts s (cols.length + 2)
  have e3 : clo cols ts s (cols.length + 2) = rnd cols ts (clo cols ts s (cols.length + 1)) := rfl
  rw [st] at e3 ⊢
  exact e3.symm
theorem clo_least (pk : PlanOk cols ts) (hs : SetOk cols s) {t : List Nat} (ht : t ∈ pow (cols ++ [114])) (hc : isCl cols ts t = true) (hw : within s t = true) (l : t.length ≤ (clo cols ts s (cols.length + 2)).length) : t = clo cols ts s (cols.length + 2) := by
  have ws := set_wr pk.col hs
  exact (wr_same (clo_wr ws _) (set_wr pk.col (pow_set pk.col ht)) (clo_le (within_iff.mp hw) hc _) l).symm
theorem clo_over (pk : PlanOk cols ts) (hs : SetOk cols s) : within s (clo cols ts s (cols.length + 2)) = true := within_iff.mpr (clo_sub (set_wr pk.col hs).inL _)
end Mw
set_option Elab.async false
set_option linter.all false
set_option maxRecDepth 100000
set_option maxHeartbeats 4000000
/-! getters; the dependences that a scheme keeps -/
namespace Mw
open PySem PySem.Spec PyProof.Rows L2 LamX
theorem get_ok {CX : CXT} {P : Program} {w : World} {K : PySem.W.Frag} {mg : Str → Option Value} {base : Heap} {k : Nat} {a C : Addr} {fd : FuncData} {name qual f : Str} {params : Arguments} {body : List Stmt} {scope : Scope} {N : List Str} {p1 p2 p3 : Pos}
    (F : FunD K name qual params body scope [] [] a fd) (S : FnScope N ["self"] scope) (hN : N[0]? = some ("self" : Str)) (hb : body = [.Return (some (.Attribute (.Name "self" p1) f p2)) p3]) (c : Cls K C) (n : NoAttr K C f) : FnOk P w K mg base CX (k + 1) a fd ["self"] (getSp C f) := by
  obtain ⟨oc, od, dV, kV, doc, pm, an, cdv, ct, osl, rfl, lk, hcd, _, _⟩ := F.ex
  exact fn_getter lk hcd S hN hb c n
/-- the dependences of a scheme, as the tuple that it keeps -/
def SchD (K : PySem.W.Frag) (C : Addr) (H : Hp) (a : Addr) (cols : List Nat) (ts : List Tie) : Prop := ∃ (dx q1 q2 : Addr) (xs : List V), H a = some (.ins C dx (SchFs cols q1 q2)) ∧ SqT K H q1 xs ∧ DtL H (ts.map tieD) xs
theorem SchD.extn {K : PySem.W.Frag} {C : Addr} {H H' : Hp} {a : Addr} {cols : List Nat} {ts : List Tie} (h : SchD K C H a cols ts) (s : ExtN H H') : SchD K C H' a cols ts := by
  obtain ⟨dx, q1, q2, xs, h1, h2, h3⟩ := h
  exact ⟨dx, q1, q2, xs, s _ _ h1 (fun _ y => nomatch y), SqT.extn h2 s, DtL.extn s _ _ h3⟩
def spInit2 (K : PySem.W.Frag) (T : List (Addr × Str)) (C : Addr) : Sp := fun vs H Q _ => ∃ (x dx p : Addr) (cols : List Nat) (xs : List V) (ts : List Tie), vs = [.ref x, .str (tx cols), .ref p] ∧ H x = some (.ins C dx []) ∧ colB (.str (tx cols)) = true ∧ cols.length ≤ 4 ∧ (∀ c ∈ cols, c < 200) ∧
  SqA K (del H x) p xs ∧ DtL (del H x) (ts.map tieD) xs ∧ ts.length ≤ 20 ∧ (∀ t ∈ ts, depB cols (tieD t) = true ∧ t.1.length ≤ 900) ∧ Tabs T (del H x) ∧ ∀ H', ExtN (del H x) H' → Tabs T H' → SchA K C H' x cols ts → SchD K C H' x cols ts → Q .non H'
theorem mk_of2 {K : PySem.W.Frag} {T : List (Addr × Str)} {C : Addr} {H1 : Hp} {cols : List Nat} {ts : List Tie} {p : Addr} {xs : List V} {Q : VK} {E : XK} {x dx : Addr} (h1 : H1 x = none) (h2 : H1 dx = none) (pk : PlanOk cols ts) (lt : ts.length ≤ 20) (hp : SqA K H1 p xs) (hx : DtL H1 (ts.map tieD) xs) (tb : Tabs T H1)
    (q : ∀ H2, ExtN H1 H2 → Tabs T H2 → SchA K C H2 x cols ts → SchD K C H2 x cols ts → Q .non H2) :
    spInit2 K T C [.ref x, .str (tx cols), .ref p] (upd (upd H1 dx (.own x)) x (.ins C dx [])) Q E := by
  have s : Same H1 (del (upd (upd H1 dx (.own x)) x (.ins C dx [])) x) := fun b u e => by
    rw [del_ne (ne_of_none e h1), upd_ne (ne_of_none e h1), upd_ne (ne_of_none e h2)]
    exact e
  exact ⟨x, dx, p, cols, xs, ts, rfl, upd_same, col_ok pk.col, col_len pk.col, col_lt pk.col, hp.ext s, DtL.same s _ _ hx, lt, fun t ht => ⟨dep_ok pk.col (pk.tie t ht), Nat.le_trans (set_len pk.col (pk.tie t ht).lo) (by decide)⟩, tb.ext s, fun H' e t a b => q H' ((ExtN.of s).trans e) t a b⟩
end Mw
set_option Elab.async false
set_option linter.all false
set_option maxRecDepth 100000
set_option maxHeartbeats 4000000
/-! the closed sets in their order, made in two ways -/
namespace Mw
open PySem PySem.Spec PyProof.Rows L2 LamX
def cs (y : Str) : List Nat := y.cps.toList
def leLT (a b : Str) : Bool := decide (a.length < b.length ∨ (a.length = b.length ∧ cs a ≤ cs b))
def leT (a b : Str) : Bool := decide (cs a ≤ cs b)
def leL (a b : Str) : Bool := decide (a.length ≤ b.length)
theorem le_text : PySem.W.dataLe false kText = leT := PySem.W.dataLe_str fun y : Str => y
theorem le_len : PySem.W.dataLe false kLen = leL := by
  refine (PySem.W.dataLe_int fun y : Str => (y.length : Int)).trans ?_
  funext a b
  unfold leL
  exact decide_eq_decide.mpr ⟨fun h => by omega, fun h => by omega⟩
theorem le_pair : PySem.W.dataLe false kLenText = leLT := by
  funext a b
  show (!PySem.W.dataLt (.tuple [.int b.length, .str b]) (.tuple [.int a.length, .str a])) = _
  rw [PySem.W.dataLt_pair (by simp [PySem.W.alike]) (by simp [PySem.W.alike]), PySem.W.dataLt_int, PySem.W.dataLt_str]
  unfold leLT
  simp only [PyData.eqv, beq_iff_eq]
  by_cases h1 : b.length = a.length
  · rw [if_pos (by rw [h1])]
    by_cases h2 : b = a
    · rw [if_pos h2, h2]
      simp
    · rw [if_neg h2]
      by_cases h3 : cs a ≤ cs b
      · have h4 : ¬ cs b < cs a := List.not_lt.mpr h3
        have e1 : decide (b.cps.toList < a.cps.toList) = false := decide_eq_false h4
        rw [e1, decide_eq_true (.inr ⟨h1.symm, h3⟩)]
        rfl
      · have h4 : cs b < cs a := List.not_le.mp h3
        have e1 : decide (b.cps.toList < a.cps.toList) = true := decide_eq_true h4
        rw [e1, decide_eq_false]
        · rfl
        · rintro (z | z)
          · omega
          · exact h3 z.2
  · rw [if_neg (fun z => h1 (by omega))]
    by_cases h2 : a.length < b.length
    · rw [decide_eq_false (show ¬ (b.length : Int) < a.length by omega), decide_eq_true (.inl h2)]
      rfl
    · rw [decide_eq_true (show (b.length : Int) < a.length by omega), decide_eq_false]
      · rfl
      · rintro (z | z)
        · exact h2 z
        · exact h1 z.1.symm
theorem leLT_trans (a b c : Str) (h1 : leLT a b = true) (h2 : leLT b c = true) : leLT a c = true := by
  have h1 := of_decide_eq_true h1
  have h2 := of_decide_eq_true h2
  refine decide_eq_true ?_
  rcases h1 with h1 | ⟨h1, g1⟩
  · rcases h2 with h2 | ⟨h2, g2⟩
    · exact .inl (by omega)
    · exact .inl (by omega)
  · rcases h2 with h2 | ⟨h2, g2⟩
    · exact .inl (by omega)
    · exact .inr ⟨by omega, List.le_trans g1 g2⟩
theorem leLT_total (a b : Str) : (leLT a b || leLT b a) = true := by
  by_cases h : leLT a b = true
  · rw [h]
    rfl
  · have h := of_decide_eq_false (Bool.eq_false_iff.mpr h)
    rw [Bool.or_eq_true]
    refine .inr (decide_eq_true ?_)
    rcases Nat.lt_trichotomy a.length b.length with z | z | z
    · exact absurd (.inl z) h
    · refine .inr ⟨z.symm, ?_⟩
      rcases List.le_total (cs a) (cs b) with y | y
      · exact absurd (.inr ⟨z, y⟩) h
      · exact y
    · exact .inl z
theorem leLT_anti (a b : Str) (h1 : leLT a b = true) (h2 : leLT b a = true) : a = b := by
  have h1 := of_decide_eq_true h1
  have h2 := of_decide_eq_true h2
  rcases h1 with h1 | ⟨h1, g1⟩
  · rcases h2 with h2 | ⟨h2, _⟩ <;> omega
  · rcases h2 with h2 | ⟨_, g2⟩
    · omega
    · have e : cs a = cs b := List.le_antisymm g1 g2
      rw [← ofStr a, ← ofStr b]
      exact congrArg tx e
theorem leT_trans (a b c : Str) (h1 : leT a b = true) (h2 : leT b c = true) : leT a c = true := decide_eq_true (List.le_trans (of_decide_eq_true h1) (of_decide_eq_true h2))
theorem leT_total (a b : Str) : (leT a b || leT b a) = true := by
  rw [Bool.or_eq_true]
  rcases List.le_total (cs a) (cs b) with y | y
  · exact .inl (decide_eq_true y)
  · exact .inr (decide_eq_true y)
theorem leL_trans (a b c : Str) (h1 : leL a b = true) (h2 : leL b c = true) : leL a c = true := decide_eq_true (Nat.le_trans (of_decide_eq_true h1) (of_decide_eq_true h2))
theorem leL_total (a b : Str) : (leL a b || leL b a) = true := by
  rw [Bool.or_eq_true]
  rcases Nat.le_total a.length b.length with y | y
  · exact .inl (decide_eq_true y)
  · exact .inr (decide_eq_true y)
/-- sorted by text, then by length: sorted by both -/
theorem two_sorts (l : List Str) : ((l.mergeSort leT).mergeSort leL).Pairwise fun a b => leLT a b = true := by
  rw [List.pairwise_iff_forall_sublist]
  intro a b h
  have hl : leL a b = true := List.pairwise_iff_forall_sublist.mp (List.pairwise_mergeSort leL_trans leL_total _) h
  have hl2 : a.length ≤ b.length := of_decide_eq_true hl
  by_cases e : a.length = b.length
  · have p1 : ((l.mergeSort leT).filter fun y => decide (y.length = b.length)).Pairwise fun a b => leL a b = true := by
      refine List.pairwise_iff_forall_sublist.mpr fun {x y} hs => ?_
      have m1 := List.mem_filter.mp (hs.subset List.mem_cons_self)
      have m2 := List.mem_filter.mp (hs.subset (List.mem_cons_of_mem _ List.mem_cons_self))
      have e1 := of_decide_eq_true m1.2
      have e2 := of_decide_eq_true m2.2
      exact decide_eq_true (by omega)
    have s1 := List.sublist_mergeSort leL_trans leL_total p1 List.filter_sublist
    have s2 := s1.filter fun y => decide (y.length = b.length)
    rw [List.filter_filter] at s2
    simp only [Bool.and_self] at s2
    have pm : ((l.mergeSort leT).mergeSort leL).filter (fun y => decide (y.length = b.length)) |>.Perm ((l.mergeSort leT).filter fun y => decide (y.length = b.length)) := (List.mergeSort_perm _ _).filter _
    have eq := s2.eq_of_length_le (Nat.le_of_eq pm.length_eq)
    have h3 := h.filter fun y => decide (y.length = b.length)
    rw [← eq] at h3
    have h4 : [a, b].filter (fun y => decide (y.length = b.length)) = [a, b] := by simp [e]
    rw [h4] at h3
    have t := List.pairwise_iff_forall_sublist.mp (List.pairwise_mergeSort leT_trans leT_total l) (h3.trans List.filter_sublist)
    exact decide_eq_true (.inr ⟨e, of_decide_eq_true t⟩)
  · exact decide_eq_true (.inl (by omega))
theorem closed_same (cols : List Nat) (ts : List Tie) : lawClosed cols ts = closedOf cols ts := by
  unfold lawClosed lawSets closedOf
  rw [le_text, le_len, le_pair]
  refine List.Perm.eq_of_pairwise (le := fun a b => leLT a b = true) (fun a b _ _ => leLT_anti a b) ((two_sorts _).filter _) (List.pairwise_mergeSort leLT_trans leLT_total _) ?_
  refine ((((List.mergeSort_perm _ _).trans (List.mergeSort_perm _ _)).filter _).trans ?_).trans (List.mergeSort_perm _ _).symm
  rw [List.filter_map]
  exact List.Perm.of_eq rfl
end Mw
set_option Elab.async false
set_option linter.all false
set_option maxRecDepth 100000
set_option maxHeartbeats 4000000
namespace Mw
open PySem PySem.Spec PyProof.Rows L2 LamX
/-- o.m(k = v, ..), no positional value -/
def tMethKw (C : Addr) (m : Str) (n : Nat) (sp : Sp) (gV : List V → List V) (E : XK) (ta : TE) (tk : TA) : TE := fun σ H Q => ta σ H fun x H1 => ∃ a dx fs, x = .ref a ∧ H1 a = some (.ins C dx fs) ∧ fs.lookup m = none ∧ tk σ H1 fun zs H2 => zs.length = n ∧ sp (x :: gV zs) H2 Q E
theorem pe_methKw {X : Cx} {CX : CXT} {k : Nat} {C f : Addr} {m : Str} {fd : FuncData} {ps ks : List Str} {sp : Sp} {E : XK} {o : Expr} {ta : TE} {apos pos : Pos} {kws : List Keyword} {tk : TA} {g : List Value → List Value} {gV : List V → List V} {pl : Sem Bool}
    (he : PE X o ta) (c : Cls X.K C) (hm : Meth X.K C m f) (F : FnOk X.prog X.w X.K X.mg X.base CX k f fd ps sp) (room : Room k X.A)
    (hb : ∀ (s : Shared) (a : Value) (ws : List Value), X.K.In s.heap → ws.length = ks.length → BindsTo s fd ⟨[a], ks.zip ws⟩ (ps.zip (a :: g ws))) (hrel : ∀ {zs : List V} {ws : List Value}, Vals zs ws → Vals (gV zs) (g ws)) (hx : Passes CX X E)
    (hkw : PK X kws tk) (hall : (backToKw pos (keywordEach kws X.env)).all (·.1.isSome) = true := by rfl) (hks : (backToKw pos (keywordEach kws X.env)).filterMap (·.1) = ks := by rfl)
    (hpl : ((backTo pos (starEach [] X.env)).any (·.1) || (backToKw pos (keywordEach kws X.env)).any (·.1.isNone)) = false := by rfl)
    (ht : eval (.Call (.Attribute o m apos) [] kws pos) X.env = (do
      let ov ← eval o X.env
      standAt apos.atName
      let (fn, first) ← holding [ov] (getMethod ov m pl)
      callWith pos fn first (backTo pos (starEach [] X.env)) (backToKw pos (keywordEach kws X.env))) := by rfl) :
    PE X (.Call (.Attribute o m apos) [] kws pos) (tMethKw C m ks.length sp gV E ta tk) := by
  refine ⟨fun pins s σ H Q I h => ?_⟩
  refine PySem.W.methodCall_KW (pl := pl) (thn (he.run pins s σ H _ I h) fun u s1 ⟨x, H1, I1, rx, a, dx, fs, ex, ea, l, q⟩ => ?_) ht
  subst ex
  obtain rfl : u = Value.ref a := rx
  refine getmeth_ok I1 ea c hm l ?_
  refine PySem.W.callWith_KW0 (h₀ := X.base) I.ok.mod.kin hm.kp hall (thn (hkw.run pos pins s1 σ H1 _ I1 q) fun ws s2 ⟨zs, H2, J, r, ln, q2⟩ => ⟨J.kIn, ?_⟩) hpl
  rw [hks]
  have rr := hrel r
  refine wpAny_call (codeAny_mono (F.run X.A X.stack s2 H2 ⟨[.ref a], ks.zip ws⟩ (.ref a :: g ws) (.ref a :: gV zs) Q E room J.env0 (hb s2 (.ref a) ws J.kIn (r.length.symm.trans ln)) (.cons rfl rr) q2) fun rs s3 z => ?_)
  match rs, z with
  | .error er, z => exact hx pins σ H2 s2 er s3 J z
  | .ok (.ret u), z => exact J.after z
  | .ok .next, z => exact z.elim
  | .ok .brk, z => exact z.elim
  | .ok .cont, z => exact z.elim
theorem DtL.perm {H : Hp} {ds : List PyData} {xs ys : List V} (h : DtL H ds xs) (p : ys.Perm xs) : ∃ es : List PyData, es.Perm ds ∧ DtL H es ys := by
  induction p generalizing ds with
  | nil => exact ⟨ds, List.Perm.refl _, h⟩
  | cons x _ ih =>
    cases ds with
    | nil =>
      simp only [DtL] at h
      cases h
    | cons d r =>
      simp only [DtL] at h
      obtain ⟨y, t, e, h1, h2⟩ := h
      cases e
      obtain ⟨es, pe, he⟩ := ih h2
      exact ⟨d :: es, pe.cons d, DtL.cons h1 he⟩
  | swap x y l =>
    match ds, h with
    | [], h =>
      simp only [DtL] at h
      cases h
    | [d], h =>
      simp only [DtL] at h
      obtain ⟨z, t, e, h1, rfl⟩ := h
      cases e
    | d1 :: d2 :: r, h =>
      simp only [DtL] at h
      obtain ⟨z, t, e, h1, z2, t2, rfl, h2, h3⟩ := h
      cases e
      exact ⟨d2 :: d1 :: r, List.Perm.swap d1 d2 r, DtL.cons h2 (DtL.cons h1 h3)⟩
  | trans _ _ ih1 ih2 =>
    obtain ⟨es, pe, he⟩ := ih2 h
    obtain ⟨fs, pf, hf⟩ := ih1 he
    exact ⟨fs, pf.trans pe, hf⟩
def spShufP (K : PySem.W.Frag) : Sp := fun vs H Q _ => ∃ (d W C : Addr) (n : Nat) (p : Addr) (xs : List V), vs = [.ref d, .ref p] ∧ H p = some (.lst xs) ∧ xs.length ≤ 900 ∧ Drw H d W C (n + xs.length) ∧
  ∀ (q : Addr) (ys : List V) (H' : Hp), ys.Perm xs → Drw H' d W C n → Sd d W H H' → Own3 d W C q → H' q = some (.lst ys) → Q (.ref q) H'
theorem erase_perm {α : Type} : ∀ (l : List α) (k : Nat) (h : k < l.length), (l[k] :: l.eraseIdx k).Perm l
  | [], k, h => absurd h (Nat.not_lt_zero _)
  | a :: l, 0, _ => List.Perm.refl _
  | a :: l, k + 1, h => by
    have hk : k < l.length := Nat.lt_of_succ_lt_succ h
    have z := erase_perm l k hk
    show (l[k] :: a :: l.eraseIdx k).Perm (a :: l)
    exact (List.Perm.swap a l[k] (l.eraseIdx k)).trans (z.cons a)
theorem move_perm {α : Type} (l f : List α) (k : Nat) (h : k < l.length) : (l.eraseIdx k ++ (f ++ [l[k]])).Perm (l ++ f) := by
  rw [← List.append_assoc]
  refine (List.perm_append_singleton l[k] (l.eraseIdx k ++ f)).trans ?_
  show ((l[k] :: l.eraseIdx k) ++ f).Perm (l ++ f)
  exact (erase_perm l k h).append_right f
end Mw
set_option Elab.async false
set_option linter.all false
set_option maxRecDepth 100000
set_option maxHeartbeats 4000000
namespace Mw
open PySem PySem.Spec PyProof.Rows L2 LamX
/-- a line of letters, perhaps '' ahead of them -/
def LineOk (cols : List Nat) (zs : List V) : Prop := ∀ (i : Nat) (y : V), zs[i]? = some y → (∃ c ∈ cols ++ [114], y = oneV c) ∨ (i = 0 ∧ y = .str (tx []))
def spChained : Sp := fun vs H Q _ => ∃ (d W C : Addr) (n : Nat) (cols : List Nat), vs = [.ref d, .str (tx cols)] ∧ ColOk cols ∧ Drw H d W C (n + 30) ∧
  ∀ (us : List Tie) (q : Addr) (xs : List V) (H' : Hp), (∀ t ∈ us, TieOk cols t) → us.length ≤ 5 → Drw H' d W C n → Sd d W H H' → Hid d W H' q = some (.tup xs) → DtL (Hid d W H') (us.map tieD) xs → Q (.ref q) H'
end Mw
set_option Elab.async false
set_option linter.all false
set_option maxRecDepth 100000
set_option maxHeartbeats 4000000
/-! a method that may let an error out, in a try; isinstance of a caught error with several classes -/
namespace Mw
open PySem PySem.Spec PyProof.Rows L2 LamX
section
variable {X : Cx}
def rIsiXT (K : PySem.W.Frag) : List V → Hp → VK → Prop := fun xs H Q => ∃ (a C dx tp : Addr) (fs : List (Str × V)) (cs : List V) (us : List Value) (b : Bool), xs = [.ref a, .ref tp] ∧ IsX H a C dx fs ∧ IsC K C ∧ H tp = some (.tup cs) ∧ Paired ClsV cs us ∧ PySem.W.kitAny K (.ref C) us = some b ∧ Q (.bl b) H
theorem call_isiXT : CallR X (.builtin "isinstance") (rIsiXT X.K) := by
  rintro pins s σ H xs us Q I r ⟨a, C, dx, tp, fs, cs, ws, b, rfl, hi, T, hT, k, e, q⟩
  obtain ⟨u1, u2, rfl, r1, r2⟩ := vals2 r
  cases (show u1 = Value.ref a from r1)
  cases (show u2 = Value.ref tp from r2)
  obtain ⟨ox, od, mA, J, _⟩ := hi.inst I
  obtain ⟨_, its, rv, o, h1, h2, n, h3⟩ := (show ObjOk X.prog X.w H s.heap tp (.tup cs) from I.hok tp _ hT)
  have e3 := ClsV.all k rv
  subst e3
  cases o
  cases h2
  cases h3
  exact PySem.W.kia_tup (PySem.W.kitx_exc T.cl T.ga T.gg T.ex T.ca T.sp T.tk T.mr) I.kIn J h1 e (fun z => nomatch z) fun tk => ⟨.bl b, H, I.tok tk, rfl, q⟩
variable {CX : CXT} {k : Nat} {f C : Addr} {fd : FuncData} {ps : List Str} {sp : Sp} {E : L2.St → XK} {m : Str} {pos apos : Pos} {e o : Expr} {es : List Expr} {ta : TE} {t : TA}
/-- o.m(e, ..); what it lets out may speak of the variables -/
def tMethAt (C : Addr) (m : Str) (sp : Sp) (E : L2.St → XK) (ta : TE) (t : TA) : TE := fun σ H Q => ta σ H fun x H1 => ∃ a dx fs, x = .ref a ∧ H1 a = some (.ins C dx fs) ∧ fs.lookup m = none ∧ t σ H1 fun vs H2 => sp (x :: vs) H2 Q (E σ)
theorem pe_methAt {pl : Sem Bool} (he : PE X o ta) (c : Cls X.K C) (hm : Meth X.K C m f) (F : FnOk X.prog X.w X.K X.mg X.base CX k f fd ps sp) (hr : Room k X.A) (hb : Binds X.K fd ps []) (hx : ∀ σ, PassesAt CX X σ (E σ)) (ha : PA X (e :: es) t)
    (hst : starEach (e :: es) X.env = (false, eval e X.env) :: starEach es X.env := by rfl) (hpl : (backTo pos (starEach es X.env)).any (·.1) = false := by rfl)
    (ht : eval (.Call (.Attribute o m apos) (e :: es) [] pos) X.env = (do
      let ov ← eval o X.env
      standAt apos.atName
      let (fn, first) ← holding [ov] (getMethod ov m pl)
      callWith pos fn first (backTo pos (starEach (e :: es) X.env)) (backToKw pos (keywordEach [] X.env))) := by rfl) :
    PE X (.Call (.Attribute o m apos) (e :: es) [] pos) (tMethAt C m sp E ta t) := by
  refine ⟨fun pins s σ H Q I h => PySem.W.methodCall_KW (pl := pl) (thn (he.run pins s σ H _ I h) fun u s1 ⟨x, H1, I1, rx, a, dx, fs, ex, ea, l, q⟩ => ?_) ht⟩
  subst ex
  obtain rfl : u = Value.ref a := rx
  refine getmeth_ok I1 ea c hm l (PySem.W.callWith_K (first := [.ref a]) (h₀ := X.base) I.ok.mod.kin hm.kp (thn (ha.run pos pins s1 σ H1 _ I1 q) fun us s2 ⟨vs, H2, I2, r, q2⟩ => ⟨I2.kIn, ?_⟩) hst hpl)
  exact run_fnS (us := .ref a :: us) (vs := .ref a :: vs) F hr hb (hx σ) I2 (.cons rfl r) q2
end
end Mw
set_option Elab.async false
set_option linter.all false
set_option maxRecDepth 100000
set_option maxHeartbeats 4000000
namespace Mw
open PySem PySem.Spec PyProof.Rows L2 LamX
theorem Shw.text {l : List Nat} {n k : Nat} (h : ∀ c ∈ l, c < 200) (hl : l.length ≤ n) : Shw (10 * n + 2) k (.str (tx l)) := by
  refine ⟨rfl, ?_, by simp [PyData.depth]⟩
  have z := StrLaws.reprText_len (tx l) fun c hc => Nat.lt_trans (h c hc) (by decide)
  rw [tx_len] at z
  show (reprText (tx l)).length ≤ _
  omega
theorem passF {X : Cx} : Passes (L2.CX X.prog X.w) X E0 := by
  rintro pins σ H s e s' I ⟨a, B, H', cls, d, _, _, _, _, _, _, _, z⟩
  exact z.elim
theorem clo_perm {cols : List Nat} {ts us : List Tie} {s : List Nat} (pk : PlanOk cols ts) (pu : PlanOk cols us) (hs : SetOk cols s) (e : ∀ t, t ∈ ts ↔ t ∈ us) : clo cols us s (cols.length + 2) = clo cols ts s (cols.length + 2) := by
  have cl : ∀ f, isCl cols ts f = isCl cols us f := fun f => by
    rw [Bool.eq_iff_iff, isCl_iff, isCl_iff]
    exact ⟨fun h => ⟨h.1, fun t ht => h.2 t ((e t).mpr ht)⟩, fun h => ⟨h.1, fun t ht => h.2 t ((e t).mp ht)⟩⟩
  obtain ⟨a1, a2⟩ := clo_closed pk hs
  obtain ⟨b1, b2⟩ := clo_closed pu hs
  have ws := set_wr pk.col hs
  refine clo_least pk hs b2 (by rw [cl]; exact b1) (clo_over pu hs) ?_
  have sub := clo_le (cols := cols) (ts := us) (within_iff.mp (clo_over pk hs)) (by rw [← cl]; exact a1) (cols.length + 2)
  exact (wr_sublist (clo_wr ws _) (clo_wr ws _) sub).length_le
theorem closed_perm {cols : List Nat} {ts us : List Tie} (e : ∀ t, t ∈ ts ↔ t ∈ us) : closedOf cols us = closedOf cols ts := closed_iff.mpr fun s _ => by
  rw [Bool.eq_iff_iff, isCl_iff, isCl_iff]
  exact ⟨fun h => ⟨h.1, fun t ht => h.2 t ((e t).mp ht)⟩, fun h => ⟨h.1, fun t ht => h.2 t ((e t).mpr ht)⟩⟩
/-- texts of signs, told by repr -/
theorem shw_texts {l : List Str} {n k m : Nat} (h : ∀ y ∈ l, ∃ s : List Nat, y = tx s ∧ s.length ≤ n ∧ ∀ c ∈ s, c < 200) (hm : l.length ≤ m) : Shw (m * (10 * n + 4) + 3) (k + 1) (.list (l.map .str)) := by
  have z : ∀ d ∈ l.map PyData.str, Shw (10 * n + 2) k d := fun d hd => by
    obtain ⟨y, hy, rfl⟩ := List.mem_map.mp hd
    obtain ⟨s, rfl, hs, hc⟩ := h y hy
    exact Shw.text hc hs
  exact Shw.list z (by rw [List.length_map]; exact hm)
theorem perm_map {α β : Type} (f : α → β) {l m : List β} (p : l.Perm m) : ∀ k : List α, m = k.map f → ∃ j : List α, l = j.map f ∧ j.Perm k := by
  induction p with
  | nil =>
    intro k e
    exact ⟨k, e, List.Perm.refl _⟩
  | cons x _ ih =>
    intro k e
    cases k with
    | nil => cases e
    | cons a k =>
      obtain ⟨e1, e2⟩ := List.cons.inj e
      obtain ⟨j, h1, h2⟩ := ih k e2
      exact ⟨a :: j, by rw [h1, e1]; rfl, h2.cons a⟩
  | swap x y l =>
    intro k e
    match k, e with
    | a :: b :: k, e =>
      obtain ⟨e1, e2⟩ := List.cons.inj e
      obtain ⟨e3, e4⟩ := List.cons.inj e2
      exact ⟨b :: a :: k, by rw [e1, e3, e4]; rfl, List.Perm.swap a b k⟩
  | trans _ _ ih1 ih2 =>
    intro k e
    obtain ⟨j, h1, h2⟩ := ih2 k e
    obtain ⟨i, h3, h4⟩ := ih1 j h1
    exact ⟨i, h3, h4.trans h2⟩
theorem ties_hid {H : Hp} {d W C : Addr} {n : Nat} (D : Drw H d W C n) : ∀ {ts : List Tie} {xs : List V}, DtL H (ts.map tieD) xs → DtL (Hid d W H) (ts.map tieD) xs
  | [], xs, h => by
    simp only [List.map, DtL] at h ⊢
    exact h
  | t :: ts, xs, h => by
    simp only [List.map, DtL] at h
    obtain ⟨x, r, rfl, h1, h2⟩ := h
    simp only [tieD, Dt, DtL] at h1
    obtain ⟨a, ys, rfl, ha, y1, r1, rfl, rfl, y2, r2, rfl, rfl, rfl⟩ := h1
    exact DtL.cons (tie_of (own_hid (D.own_tup ha) ha)) (ties_hid D h2)
theorem schd_hid {K : PySem.W.Frag} {C0 : Addr} {H : Hp} {d W C : Addr} {n : Nat} {a : Addr} {cols : List Nat} {ts : List Tie} (D : Drw H d W C n) (hA : SchA K C0 H a cols ts) (h : SchD K C0 H a cols ts) : SchD K C0 (Hid d W H) a cols ts := by
  obtain ⟨⟨r, t, ws, cs, hd, hw, hc, e, f⟩, g⟩ := id D
  obtain ⟨dx, q1, q2, xs, h1, h2, h3⟩ := h
  have at1 : ∀ {b : Addr} {o : HO}, H b = some o → (∀ k, o ≠ .dK k) → (∀ k, o ≠ .lst k) → Hid d W H b = some o := by
    intro b o hb n1 n2
    rw [Hid.at_ (fun z => ?_) (fun z => ?_)]
    · exact hb
    · rw [z, hd] at hb
      exact n1 _ (Option.some.inj hb).symm
    · rw [z, hw] at hb
      exact n2 _ (Option.some.inj hb).symm
  refine ⟨dx, q1, q2, xs, at1 h1 (fun _ z => nomatch z) (fun _ z => nomatch z), ?_, ties_hid D h3⟩
  rcases h2 with (z | ⟨o, z⟩) | z
  · exact .inl (.inl (at1 z (fun _ z => nomatch z) fun _ z => nomatch z))
  · exact .inl (.inr ⟨o, at1 z (fun _ z => nomatch z) fun _ z => nomatch z⟩)
  · exact .inr z
theorem eqv_ties : ∀ ts : List Tie, PyData.eqvAll (ts.map tieD) (ts.map tieD) = true
  | [] => rfl
  | t :: ts => by
    show (PyData.eqv (tieD t) (tieD t) && PyData.eqvAll (ts.map tieD) (ts.map tieD)) = true
    rw [eqv_ties ts]
    show ((tx t.1 == tx t.1 && (tx [t.2] == tx [t.2] && true)) && true) = true
    rw [beq_self_eq_true, beq_self_eq_true]
    rfl
theorem closed_texts {cols : List Nat} {ts : List Tie} (h : ColOk cols) : ∀ y ∈ closedOf cols ts, ∃ s : List Nat, y = tx s ∧ s.length ≤ 5 ∧ ∀ c ∈ s, c < 200 := fun y hy => by
  have l5 : (cols ++ [114]).length ≤ 5 := by
    rw [List.length_append]
    have := col_len h
    show cols.length + 1 ≤ 5
    omega
  refine ⟨y.cps.toList, (ofStr y).symm, ?_, ?_⟩
  · rw [← ofStr y] at hy
    exact pow_item l5 (mem_closed.mp hy).1
  · rw [← ofStr y] at hy
    intro c hc
    exact colr_lt h c ((pow_sub _ _ _ rfl (mem_closed.mp hy).1).subset hc)
theorem closed_len {cols : List Nat} {ts : List Tie} (h : ColOk cols) : (closedOf cols ts).length ≤ 32 := by
  have l5 : (cols ++ [114]).length ≤ 5 := by
    rw [List.length_append]
    have := col_len h
    show cols.length + 1 ≤ 5
    omega
  have z := pow_le l5
  unfold closedOf
  rw [List.length_mergeSort, List.length_map]
  exact Nat.le_trans (List.length_filter_le _ _) z
/-- a text of few signs -/
def FewT (y : V) : Prop := ∃ s : List Nat, y = .str (tx s) ∧ s.length ≤ 20 ∧ ∀ c ∈ s, c < 200
/-- data that a law may hand in -/
structure Good (dd : PyData) : Prop where
  cp : cpB 4 dd = true
  sh : dd.showable = true
  dp : dd.depth ≤ 60
  sz : dd.shown.length ≤ sizeLine
  sm : ∀ x, dd = .str x → x.length ≤ 900
theorem good_text {s : List Nat} (h : s.length ≤ 20) (hc : ∀ c ∈ s, c < 200) : Good (.str (tx s)) := by
  obtain ⟨v1, v2, v3⟩ := (Shw.text (k := 1) hc h).rep (by decide) (by decide)
  exact ⟨rfl, v1, v2, v3, fun x e => by cases e; rw [tx_len]; omega⟩
theorem good_odd : ∀ dd ∈ oddD, Good dd := fun dd h => by
  obtain ⟨v1, v2, v3⟩ := (odd_shw dd h).rep (by decide) (by decide)
  have cp : ∀ dd ∈ oddD, cpB 4 dd = true := by decide +kernel
  have sm : ∀ dd ∈ oddD, (match dd with | .str x => decide (x.length ≤ 900) | _ => true) = true := by decide +kernel
  exact ⟨cp dd h, v1, v2, v3, fun x e => by
    have z := sm dd h
    subst e
    exact of_decide_eq_true z⟩
theorem good_ones {cols : List Nat} (h : ColOk cols) : Good (.list (cols.map fun c => .str (tx [c]))) := by
  have lc := col_len h
  have e : cols.map (fun c => PyData.str (tx [c])) = (cols.map fun c => tx [c]).map PyData.str := by
    rw [List.map_map]
    rfl
  have sw : Shw (4 * (10 * 1 + 4) + 3) 2 (.list ((cols.map fun c => tx [c]).map PyData.str)) := shw_texts (k := 1) (fun y hy => by
    obtain ⟨c, hc, rfl⟩ := List.mem_map.mp hy
    exact ⟨[c], rfl, Nat.le_refl _, fun x hx => by rw [List.mem_singleton.mp hx]; exact col_lt h c hc⟩) (by rw [List.length_map]; exact lc)
  obtain ⟨v1, v2, v3⟩ := sw.rep (by decide) (by decide)
  rw [e]
  refine ⟨?_, v1, v2, v3, fun x e => nomatch e⟩
  show (decide (((cols.map fun c => tx [c]).map PyData.str).length ≤ 1000) && ((cols.map fun c => tx [c]).map PyData.str).all (cpB 3)) = true
  rw [decide_eq_true (by rw [List.length_map, List.length_map]; omega), Bool.true_and, List.all_eq_true]
  intro d hd
  obtain ⟨y, _, rfl⟩ := List.mem_map.mp hd
  rfl
end Mw
set_option Elab.async false
set_option linter.all false
set_option maxRecDepth 100000
set_option maxHeartbeats 1000000
namespace G04
open PySem PySem.Spec PyProof.Rows L2 Mw LamX
abbrev pA : He.Defn := ("_all_closed", none)
/-- the classes with an __init__, and its field -/
def clI : List (Str × Str) := [("BadSet", "letters")]
def faInit (K : PySem.W.Frag) : Bool := clI.all fun q => oexB K (He.ga K q.1) && (isB K (He.ga K q.1) && inB K (He.ga K q.1) q.2)
def faBase (K : PySem.W.Frag) : Bool := baB K (He.ga K "MeanError")
def kindT (K : PySem.W.Frag) : List (Value × Bool) := [(.ref (He.ga K "BadColumns"), false), (.ref (He.ga K "BadDependence"), false), (.ref (He.ga K "BadLevel"), false), (.ref (He.ga K "BadSet"), true), (.type "ValueError", true)]
def faKind (K : PySem.W.Frag) : Bool := (kindT K).all fun q => decide (PySem.W.kitOne K (.ref (He.ga K "BadSet")) q.1 = some q.2)
def faCatch (K : PySem.W.Frag) : Bool := decide (PySem.W.exmOne K (.ref (He.ga K "BadSet")) (.ref (He.ga K "MeanError")) = some true)
def faCls (K : PySem.W.Frag) : Bool := ownCB K (He.ga K "Scheme") && ownEqB K (He.ga K "Scheme")
def faDfl (K : PySem.W.Frag) : Bool := tup0B K (dfA K ("Scheme", some "__init__"))
def faMk (K : PySem.W.Frag) : Bool := He.Fa.ok K (.mkr "Scheme") && (He.Fa.ok K (.noat "Scheme" "_columns") && (He.Fa.ok K (.noat "Scheme" "_dependences") && (He.Fa.ok K (.noat "Scheme" "_closed") && He.Fa.ok K (.meth "Scheme" "closed_sets"))))
def faProp (K : PySem.W.Frag) : Bool := He.Fa.ok K (.meth "Scheme" "closure") && (propB K ("Scheme", "columns") && (propB K ("Scheme", "dependences") && (getOk K ("Scheme", "columns") "Scheme.columns" && getOk K ("Scheme", "dependences") "Scheme.dependences")))
def faX : List Fct := [faInit, faBase, faKind, faCatch, faCls, faDfl, faMk, faProp]
/-! ### the text by places -/
def top (i : Nat) : Stmt := PySem.Challenge.pw_meanways_k04_closures.main.body.getD i (.Pass ⟨0, 0, 0, 0⟩)
abbrev s_wall : Stmt := top 0
abbrev s_copied : Stmt := top 2
abbrev s_BadColumns_init : Stmt := inClass (top 4) 0
abbrev s_BadSet_init : Stmt := inClass (top 5) 0
abbrev s_BadDependence_init : Stmt := inClass (top 6) 0
abbrev s_BadLevel_init : Stmt := inClass (top 7) 0
abbrev s_picked : Stmt := top 12
abbrev s_all_sets : Stmt := top 13
abbrev s_is_columns : Stmt := top 14
abbrev s_is_set : Stmt := top 15
abbrev s_is_within : Stmt := top 16
abbrev s_is_dependence : Stmt := top 17
abbrev s_checked_dependences : Stmt := top 18
abbrev s_is_closed : Stmt := top 19
abbrev s_all_closed : Stmt := top 20
abbrev s_Scheme_init : Stmt := inClass (top 21) 0
abbrev s_Scheme_closure : Stmt := inClass (top 21) 3
abbrev s_Scheme_closed_sets : Stmt := inClass (top 21) 4
abbrev s_Scheme_with_more : Stmt := inClass (top 21) 5
abbrev s_Scheme_eq : Stmt := inClass (top 21) 6
abbrev s_law_begun : Stmt := top 23
abbrev s_law_mixed : Stmt := top 24
abbrev s_law_take : Stmt := top 25
abbrev s_law_pick : Stmt := top 26
abbrev s_law_shuffled : Stmt := top 27
abbrev s_law_odd : Stmt := top 28
abbrev s_law_columns : Stmt := top 29
abbrev s_law_letters : Stmt := top 30
abbrev s_law_drawn : Stmt := top 31
abbrev s_law_is_within : Stmt := top 32
abbrev s_law_closure : Stmt := top 33
abbrev s_law_sets : Stmt := top 34
abbrev s_law_closed : Stmt := top 35
abbrev s_law_chained : Stmt := top 36
abbrev s_law_is_set : Stmt := top 37
abbrev s_law_refused : Stmt := top 38
abbrev s_law : Stmt := top 39
/-! ### slots -/
abbrev N_wall : List Str := ["k"]
theorem sc_wall : FnScope N_wall ["k"] (defScope s_wall) := ⟨rfl, rfl, rfl, by decide +kernel, rfl, by decide +kernel, by decide +kernel⟩
abbrev N_copied : List Str := ["value", "item", "key"]
theorem sc_copied : FnScope N_copied ["value"] (defScope s_copied) := ⟨rfl, rfl, rfl, by decide +kernel, rfl, by decide +kernel, by decide +kernel⟩
abbrev N_BadColumns_init : List Str := ["self", "given"]
theorem sc_BadColumns_init : FnScope N_BadColumns_init ["self", "given"] (defScope s_BadColumns_init) := ⟨rfl, rfl, rfl, by decide +kernel, rfl, by decide +kernel, by decide +kernel⟩
abbrev N_BadSet_init : List Str := ["self", "letters"]
theorem sc_BadSet_init : FnScope N_BadSet_init ["self", "letters"] (defScope s_BadSet_init) := ⟨rfl, rfl, rfl, by decide +kernel, rfl, by decide +kernel, by decide +kernel⟩
abbrev N_BadDependence_init : List Str := ["self", "at"]
theorem sc_BadDependence_init : FnScope N_BadDependence_init ["self", "at"] (defScope s_BadDependence_init) := ⟨rfl, rfl, rfl, by decide +kernel, rfl, by decide +kernel, by decide +kernel⟩
abbrev N_BadLevel_init : List Str := ["self", "letters"]
theorem sc_BadLevel_init : FnScope N_BadLevel_init ["self", "letters"] (defScope s_BadLevel_init) := ⟨rfl, rfl, rfl, by decide +kernel, rfl, by decide +kernel, by decide +kernel⟩
abbrev N_picked : List Str := ["letters", "given", "letter"]
theorem sc_picked : FnScope N_picked ["letters", "given"] (defScope s_picked) := ⟨rfl, rfl, rfl, by decide +kernel, rfl, by decide +kernel, by decide +kernel⟩
abbrev N_all_sets : List Str := ["letters", "found", "letter", "one"]
theorem sc_all_sets : FnScope N_all_sets ["letters"] (defScope s_all_sets) := ⟨rfl, rfl, rfl, by decide +kernel, rfl, by decide +kernel, by decide +kernel⟩
abbrev N_is_columns : List Str := ["given"]
theorem sc_is_columns : FnScope N_is_columns ["given"] (defScope s_is_columns) := ⟨rfl, rfl, rfl, by decide +kernel, rfl, by decide +kernel, by decide +kernel⟩
abbrev N_is_set : List Str := ["columns", "letters"]
theorem sc_is_set : FnScope N_is_set ["columns", "letters"] (defScope s_is_set) := ⟨rfl, rfl, rfl, by decide +kernel, rfl, by decide +kernel, by decide +kernel⟩
abbrev N_is_within : List Str := ["small", "large", "letter"]
theorem sc_is_within : FnScope N_is_within ["small", "large"] (defScope s_is_within) := ⟨rfl, rfl, rfl, by decide +kernel, rfl, by decide +kernel, by decide +kernel⟩
abbrev N_is_dependence : List Str := ["columns", "thing", "letters", "letter"]
theorem sc_is_dependence : FnScope N_is_dependence ["columns", "thing"] (defScope s_is_dependence) := ⟨rfl, rfl, rfl, by decide +kernel, rfl, by decide +kernel, by decide +kernel⟩
abbrev N_checked_dependences : List Str := ["columns", "dependences", "at", "thing"]
theorem sc_checked_dependences : FnScope N_checked_dependences ["columns", "dependences"] (defScope s_checked_dependences) := ⟨rfl, rfl, rfl, by decide +kernel, rfl, by decide +kernel, by decide +kernel⟩
abbrev N_is_closed : List Str := ["columns", "dependences", "letters", "given", "letter"]
theorem sc_is_closed : FnScope N_is_closed ["columns", "dependences", "letters"] (defScope s_is_closed) := ⟨rfl, rfl, rfl, by decide +kernel, rfl, by decide +kernel, by decide +kernel⟩
abbrev N_all_closed : List Str := ["columns", "dependences", "found", "one"]
theorem sc_all_closed : FnScope N_all_closed ["columns", "dependences"] (defScope s_all_closed) := ⟨rfl, rfl, rfl, by decide +kernel, rfl, by decide +kernel, by decide +kernel⟩
abbrev N_Scheme_init : List Str := ["self", "columns", "dependences"]
theorem sc_Scheme_init : FnScope N_Scheme_init ["self", "columns", "dependences"] (defScope s_Scheme_init) := ⟨rfl, rfl, rfl, by decide +kernel, rfl, by decide +kernel, by decide +kernel⟩
abbrev N_Scheme_closure : List Str := ["self", "letters", "one"]
theorem sc_Scheme_closure : FnScope N_Scheme_closure ["self", "letters"] (defScope s_Scheme_closure) := ⟨rfl, rfl, rfl, by decide +kernel, rfl, by decide +kernel, by decide +kernel⟩
abbrev N_Scheme_closed_sets : List Str := ["self"]
theorem sc_Scheme_closed_sets : FnScope N_Scheme_closed_sets ["self"] (defScope s_Scheme_closed_sets) := ⟨rfl, rfl, rfl, by decide +kernel, rfl, by decide +kernel, by decide +kernel⟩
abbrev N_Scheme_with_more : List Str := ["self", "dependences"]
theorem sc_Scheme_with_more : FnScope N_Scheme_with_more ["self", "dependences"] (defScope s_Scheme_with_more) := ⟨rfl, rfl, rfl, by decide +kernel, rfl, by decide +kernel, by decide +kernel⟩
abbrev N_Scheme_eq : List Str := ["self", "other"]
theorem sc_Scheme_eq : FnScope N_Scheme_eq ["self", "other"] (defScope s_Scheme_eq) := ⟨rfl, rfl, rfl, by decide +kernel, rfl, by decide +kernel, by decide +kernel⟩
abbrev N_law_begun : List Str := ["script", "wide", "cell"]
theorem sc_law_begun : FnScope N_law_begun ["script"] (defScope s_law_begun) := ⟨rfl, rfl, rfl, by decide +kernel, rfl, by decide +kernel, by decide +kernel⟩
abbrev N_law_mixed : List Str := ["draw", "turn", "found", "prime", "blend", "cell"]
theorem sc_law_mixed : FnScope N_law_mixed ["draw"] (defScope s_law_mixed) := ⟨rfl, rfl, rfl, by decide +kernel, rfl, by decide +kernel, by decide +kernel⟩
abbrev N_law_take : List Str := ["draw", "size", "found"]
theorem sc_law_take : FnScope N_law_take ["draw", "size"] (defScope s_law_take) := ⟨rfl, rfl, rfl, by decide +kernel, rfl, by decide +kernel, by decide +kernel⟩
abbrev N_law_pick : List Str := ["draw", "some"]
theorem sc_law_pick : FnScope N_law_pick ["draw", "some"] (defScope s_law_pick) := ⟨rfl, rfl, rfl, by decide +kernel, rfl, by decide +kernel, by decide +kernel⟩
abbrev N_law_shuffled : List Str := ["draw", "some", "left", "found"]
theorem sc_law_shuffled : FnScope N_law_shuffled ["draw", "some"] (defScope s_law_shuffled) := ⟨rfl, rfl, rfl, by decide +kernel, rfl, by decide +kernel, by decide +kernel⟩
abbrev N_law_odd : List Str := ["draw", "some"]
theorem sc_law_odd : FnScope N_law_odd ["draw"] (defScope s_law_odd) := ⟨rfl, rfl, rfl, by decide +kernel, rfl, by decide +kernel, by decide +kernel⟩
abbrev N_law_columns : List Str := ["draw", "most", "left", "many"]
theorem sc_law_columns : FnScope N_law_columns ["draw", "most"] (defScope s_law_columns) := ⟨rfl, rfl, rfl, by decide +kernel, rfl, by decide +kernel, by decide +kernel⟩
abbrev N_law_letters : List Str := ["draw", "some", "one"]
theorem sc_law_letters : FnScope N_law_letters ["draw", "some"] (defScope s_law_letters) := ⟨rfl, rfl, rfl, by decide +kernel, rfl, by decide +kernel, by decide +kernel⟩
abbrev N_law_drawn : List Str := ["draw", "most", "ties", "columns", "found", "turn", "lower"]
theorem sc_law_drawn : FnScope N_law_drawn ["draw", "most", "ties"] (defScope s_law_drawn) := ⟨rfl, rfl, rfl, by decide +kernel, rfl, by decide +kernel, by decide +kernel⟩
abbrev N_law_is_within : List Str := ["one", "other", "letter"]
theorem sc_law_is_within : FnScope N_law_is_within ["one", "other"] (defScope s_law_is_within) := ⟨rfl, rfl, rfl, by decide +kernel, rfl, by decide +kernel, by decide +kernel⟩
abbrev N_law_closure : List Str := ["plan", "some", "columns", "ties", "found", "turn", "lower", "letter"]
theorem sc_law_closure : FnScope N_law_closure ["plan", "some"] (defScope s_law_closure) := ⟨rfl, rfl, rfl, by decide +kernel, rfl, by decide +kernel, by decide +kernel⟩
abbrev N_law_sets : List Str := ["columns", "found", "letter", "one"]
theorem sc_law_sets : FnScope N_law_sets ["columns"] (defScope s_law_sets) := ⟨rfl, rfl, rfl, by decide +kernel, rfl, by decide +kernel, by decide +kernel⟩
abbrev N_law_closed : List Str := ["plan", "one"]
theorem sc_law_closed : FnScope N_law_closed ["plan"] (defScope s_law_closed) := ⟨rfl, rfl, rfl, by decide +kernel, rfl, by decide +kernel, by decide +kernel⟩
abbrev N_law_chained : List Str := ["draw", "columns", "line", "found", "at", "some"]
theorem sc_law_chained : FnScope N_law_chained ["draw", "columns"] (defScope s_law_chained) := ⟨rfl, rfl, rfl, by decide +kernel, rfl, by decide +kernel, by decide +kernel⟩
abbrev N_law_is_set : List Str := ["columns", "thing", "one"]
theorem sc_law_is_set : FnScope N_law_is_set ["columns", "thing"] (defScope s_law_is_set) := ⟨rfl, rfl, rfl, by decide +kernel, rfl, by decide +kernel, by decide +kernel⟩
abbrev N_law_refused : List Str := ["mine", "thing", "error", "caught"]
theorem sc_law_refused : FnScope N_law_refused ["mine", "thing"] (defScope s_law_refused) := ⟨rfl, rfl, rfl, by decide +kernel, rfl, by decide +kernel, by decide +kernel⟩
abbrev N_law : List Str := ["script", "draw", "turn", "plan", "mine", "other", "one", "due", "told", "strange", "thing"]
theorem sc_law : FnScope N_law ["script"] (defScope s_law) := ⟨rfl, rfl, rfl, by decide +kernel, rfl, by decide +kernel, by decide +kernel⟩
/-! ### what the head tells -/
def fn : List He.DefD := [
  ⟨("_wall", none), "_wall", "_wall", defArgs s_wall, defBody s_wall, defScope s_wall, [], []⟩,
  ⟨("_copied", none), "_copied", "_copied", defArgs s_copied, defBody s_copied, defScope s_copied, [], []⟩,
  ⟨("BadColumns", some "__init__"), "__init__", "BadColumns.__init__", defArgs s_BadColumns_init, defBody s_BadColumns_init, defScope s_BadColumns_init, [], []⟩,
  ⟨("BadSet", some "__init__"), "__init__", "BadSet.__init__", defArgs s_BadSet_init, defBody s_BadSet_init, defScope s_BadSet_init, [], []⟩,
  ⟨("BadDependence", some "__init__"), "__init__", "BadDependence.__init__", defArgs s_BadDependence_init, defBody s_BadDependence_init, defScope s_BadDependence_init, [], []⟩,
  ⟨("BadLevel", some "__init__"), "__init__", "BadLevel.__init__", defArgs s_BadLevel_init, defBody s_BadLevel_init, defScope s_BadLevel_init, [], []⟩,
  ⟨("_picked", none), "_picked", "_picked", defArgs s_picked, defBody s_picked, defScope s_picked, [], []⟩,
  ⟨("_all_sets", none), "_all_sets", "_all_sets", defArgs s_all_sets, defBody s_all_sets, defScope s_all_sets, [], []⟩,
  ⟨("is_columns", none), "is_columns", "is_columns", defArgs s_is_columns, defBody s_is_columns, defScope s_is_columns, [], []⟩,
  ⟨("is_set", none), "is_set", "is_set", defArgs s_is_set, defBody s_is_set, defScope s_is_set, [], []⟩,
  ⟨("is_within", none), "is_within", "is_within", defArgs s_is_within, defBody s_is_within, defScope s_is_within, [], []⟩,
  ⟨("is_dependence", none), "is_dependence", "is_dependence", defArgs s_is_dependence, defBody s_is_dependence, defScope s_is_dependence, [], []⟩,
  ⟨("_checked_dependences", none), "_checked_dependences", "_checked_dependences", defArgs s_checked_dependences, defBody s_checked_dependences, defScope s_checked_dependences, [], []⟩,
  ⟨("_is_closed", none), "_is_closed", "_is_closed", defArgs s_is_closed, defBody s_is_closed, defScope s_is_closed, [], []⟩,
  ⟨("_all_closed", none), "_all_closed", "_all_closed", defArgs s_all_closed, defBody s_all_closed, defScope s_all_closed, [], []⟩,
  ⟨("Scheme", some "__init__"), "__init__", "Scheme.__init__", defArgs s_Scheme_init, defBody s_Scheme_init, defScope s_Scheme_init, [.adr (fun K => dfA K ("Scheme", some "__init__"))], []⟩,
  ⟨("Scheme", some "closure"), "closure", "Scheme.closure", defArgs s_Scheme_closure, defBody s_Scheme_closure, defScope s_Scheme_closure, [], []⟩,
  ⟨("Scheme", some "closed_sets"), "closed_sets", "Scheme.closed_sets", defArgs s_Scheme_closed_sets, defBody s_Scheme_closed_sets, defScope s_Scheme_closed_sets, [], []⟩,
  ⟨("Scheme", some "with_more"), "with_more", "Scheme.with_more", defArgs s_Scheme_with_more, defBody s_Scheme_with_more, defScope s_Scheme_with_more, [], []⟩,
  ⟨("Scheme", some "__eq__"), "__eq__", "Scheme.__eq__", defArgs s_Scheme_eq, defBody s_Scheme_eq, defScope s_Scheme_eq, [], []⟩,
  ⟨("_law_begun", none), "_law_begun", "_law_begun", defArgs s_law_begun, defBody s_law_begun, defScope s_law_begun, [], []⟩,
  ⟨("_law_mixed", none), "_law_mixed", "_law_mixed", defArgs s_law_mixed, defBody s_law_mixed, defScope s_law_mixed, [], []⟩,
  ⟨("_law_take", none), "_law_take", "_law_take", defArgs s_law_take, defBody s_law_take, defScope s_law_take, [], []⟩,
  ⟨("_law_pick", none), "_law_pick", "_law_pick", defArgs s_law_pick, defBody s_law_pick, defScope s_law_pick, [], []⟩,
  ⟨("_law_shuffled", none), "_law_shuffled", "_law_shuffled", defArgs s_law_shuffled, defBody s_law_shuffled, defScope s_law_shuffled, [], []⟩,
  ⟨("_law_odd", none), "_law_odd", "_law_odd", defArgs s_law_odd, defBody s_law_odd, defScope s_law_odd, [], []⟩,
  ⟨("_law_columns", none), "_law_columns", "_law_columns", defArgs s_law_columns, defBody s_law_columns, defScope s_law_columns, [], []⟩,
  ⟨("_law_letters", none), "_law_letters", "_law_letters", defArgs s_law_letters, defBody s_law_letters, defScope s_law_letters, [], []⟩,
  ⟨("_law_drawn", none), "_law_drawn", "_law_drawn", defArgs s_law_drawn, defBody s_law_drawn, defScope s_law_drawn, [], []⟩,
  ⟨("_law_is_within", none), "_law_is_within", "_law_is_within", defArgs s_law_is_within, defBody s_law_is_within, defScope s_law_is_within, [], []⟩,
  ⟨("_law_closure", none), "_law_closure", "_law_closure", defArgs s_law_closure, defBody s_law_closure, defScope s_law_closure, [], []⟩,
  ⟨("_law_sets", none), "_law_sets", "_law_sets", defArgs s_law_sets, defBody s_law_sets, defScope s_law_sets, [], []⟩,
  ⟨("_law_closed", none), "_law_closed", "_law_closed", defArgs s_law_closed, defBody s_law_closed, defScope s_law_closed, [], []⟩,
  ⟨("_law_chained", none), "_law_chained", "_law_chained", defArgs s_law_chained, defBody s_law_chained, defScope s_law_chained, [], []⟩,
  ⟨("_law_is_set", none), "_law_is_set", "_law_is_set", defArgs s_law_is_set, defBody s_law_is_set, defScope s_law_is_set, [], []⟩,
  ⟨("_law_refused", none), "_law_refused", "_law_refused", defArgs s_law_refused, defBody s_law_refused, defScope s_law_refused, [], []⟩,
  ⟨("law", none), "law", "law", defArgs s_law, defBody s_law, defScope s_law, [], []⟩]
def fa : List Fct := [(fun K => (K.lookup sysModules).isSome),
  (fun K => He.Fa.ok K (.glo "_wall")), (fun K => He.Fa.ok K (.glo "_copied")), (fun K => He.Fa.ok K (.glo "MeanError")), (fun K => He.Fa.ok K (.glo "BadColumns")), (fun K => He.Fa.ok K (.glo "BadSet")), (fun K => He.Fa.ok K (.glo "BadDependence")), (fun K => He.Fa.ok K (.glo "BadLevel")), (fun K => He.Fa.ok K (.glo "_picked")), (fun K => He.Fa.ok K (.glo "_all_sets")), (fun K => He.Fa.ok K (.glo "is_columns")), (fun K => He.Fa.ok K (.glo "is_set")), (fun K => He.Fa.ok K (.glo "is_within")), (fun K => He.Fa.ok K (.glo "is_dependence")), (fun K => He.Fa.ok K (.glo "_checked_dependences")), (fun K => He.Fa.ok K (.glo "_is_closed")), (fun K => He.Fa.ok K (.glo "_all_closed")), (fun K => He.Fa.ok K (.glo "Scheme")), (fun K => He.Fa.ok K (.glo "_law_begun")), (fun K => He.Fa.ok K (.glo "_law_mixed")), (fun K => He.Fa.ok K (.glo "_law_take")), (fun K => He.Fa.ok K (.glo "_law_pick")), (fun K => He.Fa.ok K (.glo "_law_shuffled")), (fun K => He.Fa.ok K (.glo "_law_odd")), (fun K => He.Fa.ok K (.glo "_law_columns")), (fun K => He.Fa.ok K (.glo "_law_letters")), (fun K => He.Fa.ok K (.glo "_law_drawn")), (fun K => He.Fa.ok K (.glo "_law_is_within")), (fun K => He.Fa.ok K (.glo "_law_closure")), (fun K => He.Fa.ok K (.glo "_law_sets")), (fun K => He.Fa.ok K (.glo "_law_closed")), (fun K => He.Fa.ok K (.glo "_law_chained")), (fun K => He.Fa.ok K (.glo "_law_is_set")), (fun K => He.Fa.ok K (.glo "_law_refused")), (fun K => He.Fa.ok K (.glo "law")),
  (fun K => He.Fa.ok K (.free "ValueError")), (fun K => He.Fa.ok K (.free "abs")), (fun K => He.Fa.ok K (.free "all")), (fun K => He.Fa.ok K (.free "dict")), (fun K => He.Fa.ok K (.free "enumerate")), (fun K => He.Fa.ok K (.free "int")), (fun K => He.Fa.ok K (.free "isinstance")), (fun K => He.Fa.ok K (.free "len")), (fun K => He.Fa.ok K (.free "list")), (fun K => He.Fa.ok K (.free "min")), (fun K => He.Fa.ok K (.free "property")), (fun K => He.Fa.ok K (.free "range")), (fun K => He.Fa.ok K (.free "repr")), (fun K => He.Fa.ok K (.free "set")), (fun K => He.Fa.ok K (.free "sorted")), (fun K => He.Fa.ok K (.free "str")), (fun K => He.Fa.ok K (.free "tuple")), (fun K => He.Fa.ok K (.str "COLUMNS" "abcd")), (fun K => He.Fa.ok K (.str "ROW" "r")), (fun K => He.Fa.ok K (.int "MOST_DEPENDENCES" 20))] ++ faX
structure Txt (K : PySem.W.Frag) (mg : Str → Option Value) : Prop where
  sys : SysIn K
  g_wall : mg "_wall" = some (.ref (He.ga K "_wall"))
  g_copied : mg "_copied" = some (.ref (He.ga K "_copied"))
  g_MeanError : mg "MeanError" = some (.ref (He.ga K "MeanError"))
  g_BadColumns : mg "BadColumns" = some (.ref (He.ga K "BadColumns"))
  g_BadSet : mg "BadSet" = some (.ref (He.ga K "BadSet"))
  g_BadDependence : mg "BadDependence" = some (.ref (He.ga K "BadDependence"))
  g_BadLevel : mg "BadLevel" = some (.ref (He.ga K "BadLevel"))
  g_picked : mg "_picked" = some (.ref (He.ga K "_picked"))
  g_all_sets : mg "_all_sets" = some (.ref (He.ga K "_all_sets"))
  g_is_columns : mg "is_columns" = some (.ref (He.ga K "is_columns"))
  g_is_set : mg "is_set" = some (.ref (He.ga K "is_set"))
  g_is_within : mg "is_within" = some (.ref (He.ga K "is_within"))
  g_is_dependence : mg "is_dependence" = some (.ref (He.ga K "is_dependence"))
  g_checked_dependences : mg "_checked_dependences" = some (.ref (He.ga K "_checked_dependences"))
  g_is_closed : mg "_is_closed" = some (.ref (He.ga K "_is_closed"))
  g_all_closed : mg "_all_closed" = some (.ref (He.ga K "_all_closed"))
  g_Scheme : mg "Scheme" = some (.ref (He.ga K "Scheme"))
  g_law_begun : mg "_law_begun" = some (.ref (He.ga K "_law_begun"))
  g_law_mixed : mg "_law_mixed" = some (.ref (He.ga K "_law_mixed"))
  g_law_take : mg "_law_take" = some (.ref (He.ga K "_law_take"))
  g_law_pick : mg "_law_pick" = some (.ref (He.ga K "_law_pick"))
  g_law_shuffled : mg "_law_shuffled" = some (.ref (He.ga K "_law_shuffled"))
  g_law_odd : mg "_law_odd" = some (.ref (He.ga K "_law_odd"))
  g_law_columns : mg "_law_columns" = some (.ref (He.ga K "_law_columns"))
  g_law_letters : mg "_law_letters" = some (.ref (He.ga K "_law_letters"))
  g_law_drawn : mg "_law_drawn" = some (.ref (He.ga K "_law_drawn"))
  g_law_is_within : mg "_law_is_within" = some (.ref (He.ga K "_law_is_within"))
  g_law_closure : mg "_law_closure" = some (.ref (He.ga K "_law_closure"))
  g_law_sets : mg "_law_sets" = some (.ref (He.ga K "_law_sets"))
  g_law_closed : mg "_law_closed" = some (.ref (He.ga K "_law_closed"))
  g_law_chained : mg "_law_chained" = some (.ref (He.ga K "_law_chained"))
  g_law_is_set : mg "_law_is_set" = some (.ref (He.ga K "_law_is_set"))
  g_law_refused : mg "_law_refused" = some (.ref (He.ga K "_law_refused"))
  g_law : mg "law" = some (.ref (He.ga K "law"))
  n_ValueError : mg "ValueError" = none
  n_abs : mg "abs" = none
  n_all : mg "all" = none
  n_dict : mg "dict" = none
  n_enumerate : mg "enumerate" = none
  n_int : mg "int" = none
  n_isinstance : mg "isinstance" = none
  n_len : mg "len" = none
  n_list : mg "list" = none
  n_min : mg "min" = none
  n_property : mg "property" = none
  n_range : mg "range" = none
  n_repr : mg "repr" = none
  n_set : mg "set" = none
  n_sorted : mg "sorted" = none
  n_str : mg "str" = none
  n_tuple : mg "tuple" = none
  c_COLUMNS : ∃ t, mg "COLUMNS" = some (.str "abcd" t)
  c_ROW : ∃ t, mg "ROW" = some (.str "r" t)
  c_MOST_DEPENDENCES : ∃ t, mg "MOST_DEPENDENCES" = some (.int 20 t)
  f_wall : FunD K "_wall" "_wall" (defArgs s_wall) (defBody s_wall) (defScope s_wall) [] [] (He.fAd K ("_wall", none)) (fdOf K (He.fAd K ("_wall", none)))
  f_copied : FunD K "_copied" "_copied" (defArgs s_copied) (defBody s_copied) (defScope s_copied) [] [] (He.fAd K ("_copied", none)) (fdOf K (He.fAd K ("_copied", none)))
  f_BadColumns_init : FunD K "__init__" "BadColumns.__init__" (defArgs s_BadColumns_init) (defBody s_BadColumns_init) (defScope s_BadColumns_init) [] [] (He.fAd K ("BadColumns", some "__init__")) (fdOf K (He.fAd K ("BadColumns", some "__init__")))
  f_BadSet_init : FunD K "__init__" "BadSet.__init__" (defArgs s_BadSet_init) (defBody s_BadSet_init) (defScope s_BadSet_init) [] [] (He.fAd K ("BadSet", some "__init__")) (fdOf K (He.fAd K ("BadSet", some "__init__")))
  f_BadDependence_init : FunD K "__init__" "BadDependence.__init__" (defArgs s_BadDependence_init) (defBody s_BadDependence_init) (defScope s_BadDependence_init) [] [] (He.fAd K ("BadDependence", some "__init__")) (fdOf K (He.fAd K ("BadDependence", some "__init__")))
  f_BadLevel_init : FunD K "__init__" "BadLevel.__init__" (defArgs s_BadLevel_init) (defBody s_BadLevel_init) (defScope s_BadLevel_init) [] [] (He.fAd K ("BadLevel", some "__init__")) (fdOf K (He.fAd K ("BadLevel", some "__init__")))
  f_picked : FunD K "_picked" "_picked" (defArgs s_picked) (defBody s_picked) (defScope s_picked) [] [] (He.fAd K ("_picked", none)) (fdOf K (He.fAd K ("_picked", none)))
  f_all_sets : FunD K "_all_sets" "_all_sets" (defArgs s_all_sets) (defBody s_all_sets) (defScope s_all_sets) [] [] (He.fAd K ("_all_sets", none)) (fdOf K (He.fAd K ("_all_sets", none)))
  f_is_columns : FunD K "is_columns" "is_columns" (defArgs s_is_columns) (defBody s_is_columns) (defScope s_is_columns) [] [] (He.fAd K ("is_columns", none)) (fdOf K (He.fAd K ("is_columns", none)))
  f_is_set : FunD K "is_set" "is_set" (defArgs s_is_set) (defBody s_is_set) (defScope s_is_set) [] [] (He.fAd K ("is_set", none)) (fdOf K (He.fAd K ("is_set", none)))
  f_is_within : FunD K "is_within" "is_within" (defArgs s_is_within) (defBody s_is_within) (defScope s_is_within) [] [] (He.fAd K ("is_within", none)) (fdOf K (He.fAd K ("is_within", none)))
  f_is_dependence : FunD K "is_dependence" "is_dependence" (defArgs s_is_dependence) (defBody s_is_dependence) (defScope s_is_dependence) [] [] (He.fAd K ("is_dependence", none)) (fdOf K (He.fAd K ("is_dependence", none)))
  f_checked_dependences : FunD K "_checked_dependences" "_checked_dependences" (defArgs s_checked_dependences) (defBody s_checked_dependences) (defScope s_checked_dependences) [] [] (He.fAd K ("_checked_dependences", none)) (fdOf K (He.fAd K ("_checked_dependences", none)))
  f_is_closed : FunD K "_is_closed" "_is_closed" (defArgs s_is_closed) (defBody s_is_closed) (defScope s_is_closed) [] [] (He.fAd K ("_is_closed", none)) (fdOf K (He.fAd K ("_is_closed", none)))
  f_all_closed : FunD K "_all_closed" "_all_closed" (defArgs s_all_closed) (defBody s_all_closed) (defScope s_all_closed) [] [] (He.fAd K ("_all_closed", none)) (fdOf K (He.fAd K ("_all_closed", none)))
  f_Scheme_init : FunD K "__init__" "Scheme.__init__" (defArgs s_Scheme_init) (defBody s_Scheme_init) (defScope s_Scheme_init) [V.ref (dfA K ("Scheme", some "__init__"))] [] (He.fAd K ("Scheme", some "__init__")) (fdOf K (He.fAd K ("Scheme", some "__init__")))
  f_Scheme_closure : FunD K "closure" "Scheme.closure" (defArgs s_Scheme_closure) (defBody s_Scheme_closure) (defScope s_Scheme_closure) [] [] (He.fAd K ("Scheme", some "closure")) (fdOf K (He.fAd K ("Scheme", some "closure")))
  f_Scheme_closed_sets : FunD K "closed_sets" "Scheme.closed_sets" (defArgs s_Scheme_closed_sets) (defBody s_Scheme_closed_sets) (defScope s_Scheme_closed_sets) [] [] (He.fAd K ("Scheme", some "closed_sets")) (fdOf K (He.fAd K ("Scheme", some "closed_sets")))
  f_Scheme_with_more : FunD K "with_more" "Scheme.with_more" (defArgs s_Scheme_with_more) (defBody s_Scheme_with_more) (defScope s_Scheme_with_more) [] [] (He.fAd K ("Scheme", some "with_more")) (fdOf K (He.fAd K ("Scheme", some "with_more")))
  f_Scheme_eq : FunD K "__eq__" "Scheme.__eq__" (defArgs s_Scheme_eq) (defBody s_Scheme_eq) (defScope s_Scheme_eq) [] [] (He.fAd K ("Scheme", some "__eq__")) (fdOf K (He.fAd K ("Scheme", some "__eq__")))
  f_law_begun : FunD K "_law_begun" "_law_begun" (defArgs s_law_begun) (defBody s_law_begun) (defScope s_law_begun) [] [] (He.fAd K ("_law_begun", none)) (fdOf K (He.fAd K ("_law_begun", none)))
  f_law_mixed : FunD K "_law_mixed" "_law_mixed" (defArgs s_law_mixed) (defBody s_law_mixed) (defScope s_law_mixed) [] [] (He.fAd K ("_law_mixed", none)) (fdOf K (He.fAd K ("_law_mixed", none)))
  f_law_take : FunD K "_law_take" "_law_take" (defArgs s_law_take) (defBody s_law_take) (defScope s_law_take) [] [] (He.fAd K ("_law_take", none)) (fdOf K (He.fAd K ("_law_take", none)))
  f_law_pick : FunD K "_law_pick" "_law_pick" (defArgs s_law_pick) (defBody s_law_pick) (defScope s_law_pick) [] [] (He.fAd K ("_law_pick", none)) (fdOf K (He.fAd K ("_law_pick", none)))
  f_law_shuffled : FunD K "_law_shuffled" "_law_shuffled" (defArgs s_law_shuffled) (defBody s_law_shuffled) (defScope s_law_shuffled) [] [] (He.fAd K ("_law_shuffled", none)) (fdOf K (He.fAd K ("_law_shuffled", none)))
  f_law_odd : FunD K "_law_odd" "_law_odd" (defArgs s_law_odd) (defBody s_law_odd) (defScope s_law_odd) [] [] (He.fAd K ("_law_odd", none)) (fdOf K (He.fAd K ("_law_odd", none)))
  f_law_columns : FunD K "_law_columns" "_law_columns" (defArgs s_law_columns) (defBody s_law_columns) (defScope s_law_columns) [] [] (He.fAd K ("_law_columns", none)) (fdOf K (He.fAd K ("_law_columns", none)))
  f_law_letters : FunD K "_law_letters" "_law_letters" (defArgs s_law_letters) (defBody s_law_letters) (defScope s_law_letters) [] [] (He.fAd K ("_law_letters", none)) (fdOf K (He.fAd K ("_law_letters", none)))
  f_law_drawn : FunD K "_law_drawn" "_law_drawn" (defArgs s_law_drawn) (defBody s_law_drawn) (defScope s_law_drawn) [] [] (He.fAd K ("_law_drawn", none)) (fdOf K (He.fAd K ("_law_drawn", none)))
  f_law_is_within : FunD K "_law_is_within" "_law_is_within" (defArgs s_law_is_within) (defBody s_law_is_within) (defScope s_law_is_within) [] [] (He.fAd K ("_law_is_within", none)) (fdOf K (He.fAd K ("_law_is_within", none)))
  f_law_closure : FunD K "_law_closure" "_law_closure" (defArgs s_law_closure) (defBody s_law_closure) (defScope s_law_closure) [] [] (He.fAd K ("_law_closure", none)) (fdOf K (He.fAd K ("_law_closure", none)))
  f_law_sets : FunD K "_law_sets" "_law_sets" (defArgs s_law_sets) (defBody s_law_sets) (defScope s_law_sets) [] [] (He.fAd K ("_law_sets", none)) (fdOf K (He.fAd K ("_law_sets", none)))
  f_law_closed : FunD K "_law_closed" "_law_closed" (defArgs s_law_closed) (defBody s_law_closed) (defScope s_law_closed) [] [] (He.fAd K ("_law_closed", none)) (fdOf K (He.fAd K ("_law_closed", none)))
  f_law_chained : FunD K "_law_chained" "_law_chained" (defArgs s_law_chained) (defBody s_law_chained) (defScope s_law_chained) [] [] (He.fAd K ("_law_chained", none)) (fdOf K (He.fAd K ("_law_chained", none)))
  f_law_is_set : FunD K "_law_is_set" "_law_is_set" (defArgs s_law_is_set) (defBody s_law_is_set) (defScope s_law_is_set) [] [] (He.fAd K ("_law_is_set", none)) (fdOf K (He.fAd K ("_law_is_set", none)))
  f_law_refused : FunD K "_law_refused" "_law_refused" (defArgs s_law_refused) (defBody s_law_refused) (defScope s_law_refused) [] [] (He.fAd K ("_law_refused", none)) (fdOf K (He.fAd K ("_law_refused", none)))
  f_law : FunD K "law" "law" (defArgs s_law) (defBody s_law) (defScope s_law) [] [] (He.fAd K ("law", none)) (fdOf K (He.fAd K ("law", none)))
  more : ∀ f ∈ faX, f K = true
theorem txt_of {K : PySem.W.Frag} {h : Heap} {mg : Str → Option Value} (X : K.In h) (G : h.Ns mainGlobals mg) (c : SaysM fa fn K) : Txt K mg where
  sys := c.fact 0 (f := fun K => (K.lookup sysModules).isSome)
  g_wall := He.glo_ok X G (c.fact 1)
  g_copied := He.glo_ok X G (c.fact 2)
  g_MeanError := He.glo_ok X G (c.fact 3)
  g_BadColumns := He.glo_ok X G (c.fact 4)
  g_BadSet := He.glo_ok X G (c.fact 5)
  g_BadDependence := He.glo_ok X G (c.fact 6)
  g_BadLevel := He.glo_ok X G (c.fact 7)
  g_picked := He.glo_ok X G (c.fact 8)
  g_all_sets := He.glo_ok X G (c.fact 9)
  g_is_columns := He.glo_ok X G (c.fact 10)
  g_is_set := He.glo_ok X G (c.fact 11)
  g_is_within := He.glo_ok X G (c.fact 12)
  g_is_dependence := He.glo_ok X G (c.fact 13)
  g_checked_dependences := He.glo_ok X G (c.fact 14)
  g_is_closed := He.glo_ok X G (c.fact 15)
  g_all_closed := He.glo_ok X G (c.fact 16)
  g_Scheme := He.glo_ok X G (c.fact 17)
  g_law_begun := He.glo_ok X G (c.fact 18)
  g_law_mixed := He.glo_ok X G (c.fact 19)
  g_law_take := He.glo_ok X G (c.fact 20)
  g_law_pick := He.glo_ok X G (c.fact 21)
  g_law_shuffled := He.glo_ok X G (c.fact 22)
  g_law_odd := He.glo_ok X G (c.fact 23)
  g_law_columns := He.glo_ok X G (c.fact 24)
  g_law_letters := He.glo_ok X G (c.fact 25)
  g_law_drawn := He.glo_ok X G (c.fact 26)
  g_law_is_within := He.glo_ok X G (c.fact 27)
  g_law_closure := He.glo_ok X G (c.fact 28)
  g_law_sets := He.glo_ok X G (c.fact 29)
  g_law_closed := He.glo_ok X G (c.fact 30)
  g_law_chained := He.glo_ok X G (c.fact 31)
  g_law_is_set := He.glo_ok X G (c.fact 32)
  g_law_refused := He.glo_ok X G (c.fact 33)
  g_law := He.glo_ok X G (c.fact 34)
  n_ValueError := He.free_ok X G (c.fact 35)
  n_abs := He.free_ok X G (c.fact 36)
  n_all := He.free_ok X G (c.fact 37)
  n_dict := He.free_ok X G (c.fact 38)
  n_enumerate := He.free_ok X G (c.fact 39)
  n_int := He.free_ok X G (c.fact 40)
  n_isinstance := He.free_ok X G (c.fact 41)
  n_len := He.free_ok X G (c.fact 42)
  n_list := He.free_ok X G (c.fact 43)
  n_min := He.free_ok X G (c.fact 44)
  n_property := He.free_ok X G (c.fact 45)
  n_range := He.free_ok X G (c.fact 46)
  n_repr := He.free_ok X G (c.fact 47)
  n_set := He.free_ok X G (c.fact 48)
  n_sorted := He.free_ok X G (c.fact 49)
  n_str := He.free_ok X G (c.fact 50)
  n_tuple := He.free_ok X G (c.fact 51)
  c_COLUMNS := He.str_ok X G (c.fact 52)
  c_ROW := He.str_ok X G (c.fact 53)
  c_MOST_DEPENDENCES := He.int_ok X G (c.fact 54)
  f_wall := funD_of (c.defn 0)
  f_copied := funD_of (c.defn 1)
  f_BadColumns_init := funD_of (c.defn 2)
  f_BadSet_init := funD_of (c.defn 3)
  f_BadDependence_init := funD_of (c.defn 4)
  f_BadLevel_init := funD_of (c.defn 5)
  f_picked := funD_of (c.defn 6)
  f_all_sets := funD_of (c.defn 7)
  f_is_columns := funD_of (c.defn 8)
  f_is_set := funD_of (c.defn 9)
  f_is_within := funD_of (c.defn 10)
  f_is_dependence := funD_of (c.defn 11)
  f_checked_dependences := funD_of (c.defn 12)
  f_is_closed := funD_of (c.defn 13)
  f_all_closed := funD_of (c.defn 14)
  f_Scheme_init := funD_of (c.defn 15)
  f_Scheme_closure := funD_of (c.defn 16)
  f_Scheme_closed_sets := funD_of (c.defn 17)
  f_Scheme_with_more := funD_of (c.defn 18)
  f_Scheme_eq := funD_of (c.defn 19)
  f_law_begun := funD_of (c.defn 20)
  f_law_mixed := funD_of (c.defn 21)
  f_law_take := funD_of (c.defn 22)
  f_law_pick := funD_of (c.defn 23)
  f_law_shuffled := funD_of (c.defn 24)
  f_law_odd := funD_of (c.defn 25)
  f_law_columns := funD_of (c.defn 26)
  f_law_letters := funD_of (c.defn 27)
  f_law_drawn := funD_of (c.defn 28)
  f_law_is_within := funD_of (c.defn 29)
  f_law_closure := funD_of (c.defn 30)
  f_law_sets := funD_of (c.defn 31)
  f_law_closed := funD_of (c.defn 32)
  f_law_chained := funD_of (c.defn 33)
  f_law_is_set := funD_of (c.defn 34)
  f_law_refused := funD_of (c.defn 35)
  f_law := funD_of (c.defn 36)
  more := fun f hf => by
    have c0 : ((fa.all fun f => f K) && fn.all fun d => d.ok K) = true := congrArg Prod.fst c
    exact List.all_eq_true.mp (He.ba c0).1 f (List.mem_append_right _ hf)
theorem b_wall {K : PySem.W.Frag} {mg : Str → Option Value} (T : Txt K mg) : Binds K (fdOf K (He.fAd K ("_wall", none))) ["k"] [] := T.f_wall.bindsN fun _ _ _ _ _ _ us hl => match us, hl with | [_], _ => rfl
theorem b_copied {K : PySem.W.Frag} {mg : Str → Option Value} (T : Txt K mg) : Binds K (fdOf K (He.fAd K ("_copied", none))) ["value"] [] := T.f_copied.bindsN fun _ _ _ _ _ _ us hl => match us, hl with | [_], _ => rfl
theorem b_BadColumns_init {K : PySem.W.Frag} {mg : Str → Option Value} (T : Txt K mg) : Binds K (fdOf K (He.fAd K ("BadColumns", some "__init__"))) ["self", "given"] [] := T.f_BadColumns_init.bindsN fun _ _ _ _ _ _ us hl => match us, hl with | [_, _], _ => rfl
theorem b_BadSet_init {K : PySem.W.Frag} {mg : Str → Option Value} (T : Txt K mg) : Binds K (fdOf K (He.fAd K ("BadSet", some "__init__"))) ["self", "letters"] [] := T.f_BadSet_init.bindsN fun _ _ _ _ _ _ us hl => match us, hl with | [_, _], _ => rfl
theorem b_BadDependence_init {K : PySem.W.Frag} {mg : Str → Option Value} (T : Txt K mg) : Binds K (fdOf K (He.fAd K ("BadDependence", some "__init__"))) ["self", "at"] [] := T.f_BadDependence_init.bindsN fun _ _ _ _ _ _ us hl => match us, hl with | [_, _], _ => rfl
theorem b_BadLevel_init {K : PySem.W.Frag} {mg : Str → Option Value} (T : Txt K mg) : Binds K (fdOf K (He.fAd K ("BadLevel", some "__init__"))) ["self", "letters"] [] := T.f_BadLevel_init.bindsN fun _ _ _ _ _ _ us hl => match us, hl with | [_, _], _ => rfl
theorem b_picked {K : PySem.W.Frag} {mg : Str → Option Value} (T : Txt K mg) : Binds K (fdOf K (He.fAd K ("_picked", none))) ["letters", "given"] [] := T.f_picked.bindsN fun _ _ _ _ _ _ us hl => match us, hl with | [_, _], _ => rfl
theorem b_all_sets {K : PySem.W.Frag} {mg : Str → Option Value} (T : Txt K mg) : Binds K (fdOf K (He.fAd K ("_all_sets", none))) ["letters"] [] := T.f_all_sets.bindsN fun _ _ _ _ _ _ us hl => match us, hl with | [_], _ => rfl
theorem b_is_columns {K : PySem.W.Frag} {mg : Str → Option Value} (T : Txt K mg) : Binds K (fdOf K (He.fAd K ("is_columns", none))) ["given"] [] := T.f_is_columns.bindsN fun _ _ _ _ _ _ us hl => match us, hl with | [_], _ => rfl
theorem b_is_set {K : PySem.W.Frag} {mg : Str → Option Value} (T : Txt K mg) : Binds K (fdOf K (He.fAd K ("is_set", none))) ["columns", "letters"] [] := T.f_is_set.bindsN fun _ _ _ _ _ _ us hl => match us, hl with | [_, _], _ => rfl
theorem b_is_within {K : PySem.W.Frag} {mg : Str → Option Value} (T : Txt K mg) : Binds K (fdOf K (He.fAd K ("is_within", none))) ["small", "large"] [] := T.f_is_within.bindsN fun _ _ _ _ _ _ us hl => match us, hl with | [_, _], _ => rfl
theorem b_is_dependence {K : PySem.W.Frag} {mg : Str → Option Value} (T : Txt K mg) : Binds K (fdOf K (He.fAd K ("is_dependence", none))) ["columns", "thing"] [] := T.f_is_dependence.bindsN fun _ _ _ _ _ _ us hl => match us, hl with | [_, _], _ => rfl
theorem b_checked_dependences {K : PySem.W.Frag} {mg : Str → Option Value} (T : Txt K mg) : Binds K (fdOf K (He.fAd K ("_checked_dependences", none))) ["columns", "dependences"] [] := T.f_checked_dependences.bindsN fun _ _ _ _ _ _ us hl => match us, hl with | [_, _], _ => rfl
theorem b_is_closed {K : PySem.W.Frag} {mg : Str → Option Value} (T : Txt K mg) : Binds K (fdOf K (He.fAd K ("_is_closed", none))) ["columns", "dependences", "letters"] [] := T.f_is_closed.bindsN fun _ _ _ _ _ _ us hl => match us, hl with | [_, _, _], _ => rfl
theorem b_all_closed {K : PySem.W.Frag} {mg : Str → Option Value} (T : Txt K mg) : Binds K (fdOf K (He.fAd K ("_all_closed", none))) ["columns", "dependences"] [] := T.f_all_closed.bindsN fun _ _ _ _ _ _ us hl => match us, hl with | [_, _], _ => rfl
theorem b_Scheme_closure {K : PySem.W.Frag} {mg : Str → Option Value} (T : Txt K mg) : Binds K (fdOf K (He.fAd K ("Scheme", some "closure"))) ["self", "letters"] [] := T.f_Scheme_closure.bindsN fun _ _ _ _ _ _ us hl => match us, hl with | [_, _], _ => rfl
theorem b_Scheme_closed_sets {K : PySem.W.Frag} {mg : Str → Option Value} (T : Txt K mg) : Binds K (fdOf K (He.fAd K ("Scheme", some "closed_sets"))) ["self"] [] := T.f_Scheme_closed_sets.bindsN fun _ _ _ _ _ _ us hl => match us, hl with | [_], _ => rfl
theorem b_Scheme_with_more {K : PySem.W.Frag} {mg : Str → Option Value} (T : Txt K mg) : Binds K (fdOf K (He.fAd K ("Scheme", some "with_more"))) ["self", "dependences"] [] := T.f_Scheme_with_more.bindsN fun _ _ _ _ _ _ us hl => match us, hl with | [_, _], _ => rfl
theorem b_Scheme_eq {K : PySem.W.Frag} {mg : Str → Option Value} (T : Txt K mg) : Binds K (fdOf K (He.fAd K ("Scheme", some "__eq__"))) ["self", "other"] [] := T.f_Scheme_eq.bindsN fun _ _ _ _ _ _ us hl => match us, hl with | [_, _], _ => rfl
theorem b_law_begun {K : PySem.W.Frag} {mg : Str → Option Value} (T : Txt K mg) : Binds K (fdOf K (He.fAd K ("_law_begun", none))) ["script"] [] := T.f_law_begun.bindsN fun _ _ _ _ _ _ us hl => match us, hl with | [_], _ => rfl
theorem b_law_mixed {K : PySem.W.Frag} {mg : Str → Option Value} (T : Txt K mg) : Binds K (fdOf K (He.fAd K ("_law_mixed", none))) ["draw"] [] := T.f_law_mixed.bindsN fun _ _ _ _ _ _ us hl => match us, hl with | [_], _ => rfl
theorem b_law_take {K : PySem.W.Frag} {mg : Str → Option Value} (T : Txt K mg) : Binds K (fdOf K (He.fAd K ("_law_take", none))) ["draw", "size"] [] := T.f_law_take.bindsN fun _ _ _ _ _ _ us hl => match us, hl with | [_, _], _ => rfl
theorem b_law_pick {K : PySem.W.Frag} {mg : Str → Option Value} (T : Txt K mg) : Binds K (fdOf K (He.fAd K ("_law_pick", none))) ["draw", "some"] [] := T.f_law_pick.bindsN fun _ _ _ _ _ _ us hl => match us, hl with | [_, _], _ => rfl
theorem b_law_shuffled {K : PySem.W.Frag} {mg : Str → Option Value} (T : Txt K mg) : Binds K (fdOf K (He.fAd K ("_law_shuffled", none))) ["draw", "some"] [] := T.f_law_shuffled.bindsN fun _ _ _ _ _ _ us hl => match us, hl with | [_, _], _ => rfl
theorem b_law_odd {K : PySem.W.Frag} {mg : Str → Option Value} (T : Txt K mg) : Binds K (fdOf K (He.fAd K ("_law_odd", none))) ["draw"] [] := T.f_law_odd.bindsN fun _ _ _ _ _ _ us hl => match us, hl with | [_], _ => rfl
theorem b_law_columns {K : PySem.W.Frag} {mg : Str → Option Value} (T : Txt K mg) : Binds K (fdOf K (He.fAd K ("_law_columns", none))) ["draw", "most"] [] := T.f_law_columns.bindsN fun _ _ _ _ _ _ us hl => match us, hl with | [_, _], _ => rfl
theorem b_law_letters {K : PySem.W.Frag} {mg : Str → Option Value} (T : Txt K mg) : Binds K (fdOf K (He.fAd K ("_law_letters", none))) ["draw", "some"] [] := T.f_law_letters.bindsN fun _ _ _ _ _ _ us hl => match us, hl with | [_, _], _ => rfl
theorem b_law_drawn {K : PySem.W.Frag} {mg : Str → Option Value} (T : Txt K mg) : Binds K (fdOf K (He.fAd K ("_law_drawn", none))) ["draw", "most", "ties"] [] := T.f_law_drawn.bindsN fun _ _ _ _ _ _ us hl => match us, hl with | [_, _, _], _ => rfl
theorem b_law_is_within {K : PySem.W.Frag} {mg : Str → Option Value} (T : Txt K mg) : Binds K (fdOf K (He.fAd K ("_law_is_within", none))) ["one", "other"] [] := T.f_law_is_within.bindsN fun _ _ _ _ _ _ us hl => match us, hl with | [_, _], _ => rfl
theorem b_law_closure {K : PySem.W.Frag} {mg : Str → Option Value} (T : Txt K mg) : Binds K (fdOf K (He.fAd K ("_law_closure", none))) ["plan", "some"] [] := T.f_law_closure.bindsN fun _ _ _ _ _ _ us hl => match us, hl with | [_, _], _ => rfl
theorem b_law_sets {K : PySem.W.Frag} {mg : Str → Option Value} (T : Txt K mg) : Binds K (fdOf K (He.fAd K ("_law_sets", none))) ["columns"] [] := T.f_law_sets.bindsN fun _ _ _ _ _ _ us hl => match us, hl with | [_], _ => rfl
theorem b_law_closed {K : PySem.W.Frag} {mg : Str → Option Value} (T : Txt K mg) : Binds K (fdOf K (He.fAd K ("_law_closed", none))) ["plan"] [] := T.f_law_closed.bindsN fun _ _ _ _ _ _ us hl => match us, hl with | [_], _ => rfl
theorem b_law_chained {K : PySem.W.Frag} {mg : Str → Option Value} (T : Txt K mg) : Binds K (fdOf K (He.fAd K ("_law_chained", none))) ["draw", "columns"] [] := T.f_law_chained.bindsN fun _ _ _ _ _ _ us hl => match us, hl with | [_, _], _ => rfl
theorem b_law_is_set {K : PySem.W.Frag} {mg : Str → Option Value} (T : Txt K mg) : Binds K (fdOf K (He.fAd K ("_law_is_set", none))) ["columns", "thing"] [] := T.f_law_is_set.bindsN fun _ _ _ _ _ _ us hl => match us, hl with | [_, _], _ => rfl
theorem b_law_refused {K : PySem.W.Frag} {mg : Str → Option Value} (T : Txt K mg) : Binds K (fdOf K (He.fAd K ("_law_refused", none))) ["mine", "thing"] [] := T.f_law_refused.bindsN fun _ _ _ _ _ _ us hl => match us, hl with | [_, _], _ => rfl
theorem b_law {K : PySem.W.Frag} {mg : Str → Option Value} (T : Txt K mg) : Binds K (fdOf K (He.fAd K ("law", none))) ["script"] [] := T.f_law.bindsN fun _ _ _ _ _ _ us hl => match us, hl with | [_], _ => rfl

end G04
set_option Elab.async false
set_option linter.all false
set_option maxRecDepth 100000
set_option maxHeartbeats 1000000
namespace G04
open PySem PySem.Spec PyProof.Rows L2 Mw
/-! ### the draws -/
def spMixed : Sp := fun vs H Q _ => ∃ (d W C : Addr) (n : Nat), vs = [.ref d] ∧ Drw H d W C (n + 1) ∧ ∀ (i : Int) (H' : Hp), Drw H' d W C n → Sd d W H H' → Q (.int i) H'
def spTake : Sp := fun vs H Q _ => ∃ (d W C : Addr) (n : Nat) (size : Int), vs = [.ref d, .int size] ∧ Drw H d W C (n + 1) ∧ 0 < size ∧ size.natAbs.log2 < 9000 ∧
  ∀ (i : Int) (H' : Hp), 0 ≤ i → i < size → Drw H' d W C n → Sd d W H H' → Q (.int i) H'
theorem mix_small {b : Int} {p : Int} (h0 : 0 < p) (h : p ≤ 4294967296) : (b % p).natAbs < 2 ^ 64 := by
  have h1 := Int.emod_nonneg b (show p ≠ 0 by omega)
  have h2 := Int.emod_lt_of_pos b h0
  omega
section
variable {P : Program} {w : World} {K : PySem.W.Frag} {mg : Str → Option Value} {base : Heap}
theorem ok_mixed (T : Txt K mg) : FnOk P w K mg base CX0 1 (He.ga K "_law_mixed") (fdOf K (He.ga K "_law_mixed")) ["draw"] spMixed := by
  refine T.f_law_mixed.ok sc_law_mixed (fun vs H Q E h => ?_) (fun cdv A outer s H vs Q E hr h => ?_)
  · obtain ⟨_, _, _, _, rfl, _⟩ := h
    rfl
  · obtain ⟨d, W, C, n, rfl, D, q⟩ := h
    have hu := hu_of hr
    refine ⟨_, PSs.nox (pss_cons (ps_par (i := 1) (j := 2) rfl sc_law_mixed.nd rfl rfl (by decide) rfl rfl (pa_cons (pe_op op_add (pe_dget hu (pv 0) pe_str (fun _ _ => rfl)) pe_int) (pa_cons pe_int pa_nil)) (by rfl))
      (pss_cons (ps_dput hu (pv 0) pe_str (pv 1) rfl)
      (pss_cons (ps_for PassesOwn.never rfl (pi_list (pe_lst (pa_cons pe_int (pa_cons pe_int (pa_cons pe_int (pa_cons pe_int pa_nil)))))) (pg_name (i := 3) sc_law_mixed.nd rfl (.inl rfl))
        (pss_cons (ps_set (i := 4) sc_law_mixed.nd rfl (.inl rfl) (pe_op op_add (pe_op op_mul pe_int (pv 1)) (pe_op op_fdiv (pv 3) pe_int)))
        (pss_cons (ps_for PassesOwn.never rfl (pi_list (pe_dget hu (pv 0) pe_str (fun _ _ => rfl))) (pg_name (i := 5) sc_law_mixed.nd rfl (.inl rfl))
          (pss_one (ps_set (i := 4) sc_law_mixed.nd rfl (.inl rfl) (pe_op op_mod (pe_callTy call_int1 (by rfl) T.n_int (by decide +kernel) (pa_cons (pe_op op_add (pe_op op_add (pe_op op_mul (pv 4) pe_int) (pv 5)) (pv 1)) pa_nil)) (pv 3)))))
        (pss_one (ps_set (i := 2) sc_law_mixed.nd rfl (.inl rfl) (pe_op op_add (pe_op op_mul (pv 2) pe_int) (pe_op op_mod (pe_callTy call_int1 (by rfl) T.n_int (by decide +kernel) (pa_cons (pe_op op_pow (pv 4) pe_int) pa_nil)) (pv 3))))))))
      (pss_one (ps_ret (pv 2)))))), ?_⟩
    obtain ⟨⟨r, t, ws, cs, hd, hW, hC, ht, hb⟩, ne⟩ := D
    have ndW : d ≠ W := ne_of hd hW (by intro z; cases z)
    have ndC : d ≠ C := ne_of hd hC (by intro z; cases z)
    -- turn, found = draw["turn"] + 1, 0; draw["turn"] = turn
    refine ⟨_, rfl, d, _, rfl, DGet.k (k := Sum.inr "turn") hd, _, _, rfl, rfl, _, _, rfl, ?_⟩
    refine ⟨_, rfl, _, rfl, d, _, rfl, DPut.k (k := Sum.inr "turn") hd (small1000 (show 4 ≤ 1000 by decide)), ?_⟩
    rw [dr_pt]
    -- the primes
    refine ⟨by show 4 ≤ sizeLine; decide, fun p hp => ?_⟩
    have npd : p ≠ d := fun z => by rw [z, upd_same] at hp; cases hp
    have hp0 : H p = none := by rw [upd_ne npd] at hp; exact hp
    have npW : p ≠ W := (ne_of_none hW hp0).symm
    have npC : p ≠ C := (ne_of_none hC hp0).symm
    have H2 : ∀ G, G = upd (upd H d (.dK (drK W C r (t + 1)))) p (.lst [.int 2147483629, .int 2147483587, .int 2147483579, .int 2147483563]) → G d = some (.dK (drK W C r (t + 1))) ∧ G W = some (.lst (ws.map V.int)) ∧ G C = some (.lst (cs.map V.int)) ∧
        G p = some (.lst [.int 2147483629, .int 2147483587, .int 2147483579, .int 2147483563]) ∧ Sd d W H G := fun G e => by
      subst e
      refine ⟨by rw [upd_ne npd.symm, upd_same], by rw [upd_ne npW.symm, upd_ne ndW.symm]; exact hW, by rw [upd_ne npC.symm, upd_ne ndC.symm]; exact hC, upd_same, Sd.trans Sd.upd_d (Sd.new hp)⟩
    generalize upd (upd H d (.dK (drK W C r (t + 1)))) p (.lst [.int 2147483629, .int 2147483587, .int 2147483579, .int 2147483563]) = G at H2 ⊢
    obtain ⟨gd, gW, gC, gp, sd⟩ := H2 G rfl
    refine ⟨p, rfl, ⟨_, SqL.of gp⟩, for_list (K := K) (a := p) (xs := [.int 2147483629, .int 2147483587, .int 2147483579, .int 2147483563])
      (fun i σ H' => H' = G ∧ ∃ (f : Int) (v3 v4 v5 : Option V), σ = [some (.ref d), some (.int (t + 1)), some (.int f), v3, v4, v5]) ⟨rfl, 0, none, none, none, rfl⟩ (fun i σ H' _ ⟨e, _⟩ => by rw [e]; exact SqL.of gp) ?_ ?_⟩
    · rintro i x σ H' hi ⟨rfl, f, v3, v4, v5, rfl⟩
      obtain ⟨pr, rfl, p0, p1⟩ : ∃ pr : Int, x = .int pr ∧ 0 < pr ∧ pr ≤ 2147483629 := by
        match i, hi with
        | 0, hi => exact ⟨_, (Option.some.inj hi).symm, by decide, by decide⟩
        | 1, hi => exact ⟨_, (Option.some.inj hi).symm, by decide, by decide⟩
        | 2, hi => exact ⟨_, (Option.some.inj hi).symm, by decide, by decide⟩
        | 3, hi => exact ⟨_, (Option.some.inj hi).symm, by decide, by decide⟩
        | i + 4, hi => simp at hi
      -- blend = 61441 * turn + prime // 19
      refine ⟨_, rfl, _, _, rfl, rfl, .inl ⟨by decide, by decide⟩, _, rfl, _, _, rfl, rfl, ⟨by decide, by decide⟩, _, _, rfl, rfl, ?_⟩
      -- the cells
      refine ⟨_, rfl, d, _, rfl, DGet.k (k := Sum.inr "cells") gd, C, rfl, ⟨_, SqL.of gC⟩, for_list (K := K) (a := C) (xs := cs.map V.int)
        (fun i σ H2 => H2 = H' ∧ ∃ (b : Int) (v5 : Option V), b.natAbs < 2 ^ 64 ∧ σ = [some (.ref d), some (.int (t + 1)), some (.int f), some (.int pr), some (.int b), v5]) ?_ (fun i σ H2 _ ⟨e, _⟩ => by rw [e]; exact SqL.of gC) ?_ ?_⟩
      · refine ⟨rfl, 61441 * (t + 1) + pr / 19, v5, ?_, rfl⟩
        have h1 : pr / 19 ≤ 2147483629 := by omega
        omega
      · rintro j y σ H2 hj ⟨rfl, b, v5, hb2, rfl⟩
        obtain ⟨z, rfl⟩ : ∃ z, y = V.int z := by
          rw [List.getElem?_map] at hj
          cases e : cs[j]? with
          | none => rw [e] at hj; cases hj
          | some z => rw [e] at hj; exact ⟨z, (Option.some.inj hj).symm⟩
        refine ⟨_, rfl, _, _, rfl, rfl, .inr ⟨by decide, by decide⟩, _, rfl, _, _, rfl, rfl, _, rfl, _, _, rfl, rfl, .inl ⟨_, rfl, ?_⟩⟩
        refine ⟨_, rfl, _, _, rfl, rfl, p0, rfl, _, _, mix_small p0 (by omega), rfl⟩
      · rintro σ H2 ⟨rfl, b, v5', hb2, rfl⟩
        refine ⟨_, rfl, _, _, rfl, rfl, .inr ⟨by decide, by decide⟩, _, rfl, _, _, rfl, rfl, ⟨by decide, by decide, hb2⟩, .inl ⟨_, rfl, ?_⟩⟩
        exact ⟨_, rfl, _, _, rfl, rfl, p0, _, _, rfl, rfl, rfl, _, _, _, _, rfl⟩
    · rintro σ H' ⟨rfl, f, v3, v4, v5, rfl⟩
      exact ⟨_, rfl, q f _ ⟨⟨r, t + 1, ws, cs, gd, gW, gC, by omega, by omega⟩, ne⟩ sd⟩
theorem ok_take (T : Txt K mg) : FnOk P w K mg base CX0 2 (He.ga K "_law_take") (fdOf K (He.ga K "_law_take")) ["draw", "size"] spTake := by
  have GM : FnOk P w K mg base CX0 1 (He.ga K "_law_mixed") (fdOf K (He.ga K "_law_mixed")) ["draw"] spMixed := ok_mixed T
  refine T.f_law_take.ok sc_law_take (fun vs H Q E h => ?_) (fun cdv A outer s H vs Q E hr h => ?_)
  · obtain ⟨_, _, _, _, _, rfl, _⟩ := h
    rfl
  · obtain ⟨d, W, C, n, size, rfl, D, s0, s1, q⟩ := h
    have hu := hu_of hr
    refine ⟨_, PSs.nox (pss_cons (ps_if (pt_cmpR op_eq (pe_dget hu (pv 0) pe_str (fun _ _ => rfl)) pe_int (nomark _))
        (pss_one (ps_dput hu (pv 0) pe_str (pe_ifExp (pt_cmpR (op_neD hr.units) (pe_dget hu (pv 0) pe_str (fun _ _ => rfl)) (pe_lst pa_nil) (nomark _))
          (pe_bm PySem.F.plainAttrs_list PySem.F.slot_list_pop PySem.F.type_list_pop mt_popAt (pe_dget hu (pv 0) pe_str (fun _ _ => rfl)) (pa_cons pe_int pa_nil))
          (pe_call GM hr rfl T.g_law_mixed T.f_law_mixed.kp (b_law_mixed T) .nil pass0 (pa_cons (pv 0) pa_nil))) rfl)) pss_nil)
      (pss_cons (ps_set (i := 2) sc_law_take.nd rfl (.inl rfl) (pe_op op_mod (pe_callTy call_int1 (by rfl) T.n_int (by decide +kernel) (pa_cons (pe_dget hu (pv 0) pe_str (fun _ _ => rfl)) pa_nil)) (pv 1)))
      (pss_cons (ps_dput hu (pv 0) pe_str (pe_op op_fdivW (pe_dget hu (pv 0) pe_str (fun _ _ => rfl)) (pv 1)) rfl)
      (pss_one (ps_ret (pv 2)))))), ?_⟩
    obtain ⟨⟨r, t, ws, cs, hd, hW, hC, ht, hb⟩, ne⟩ := D
    have ndW : d ≠ W := ne_of hd hW (by intro z; cases z)
    refine seq_gen (fun σ' H1 => σ' = [some (.ref d), some (.int size), none] ∧ Drw H1 d W C n ∧ Sd d W H H1) ?_ ?_
    · rintro σ' H1 ⟨rfl, D1, sd⟩
      obtain ⟨⟨r1, t1, ws1, cs1, gd, gW, gC, gt, gb⟩, _⟩ := D1
      have p0 := Int.emod_nonneg r1 (show size ≠ 0 by omega)
      have p1 := Int.emod_lt_of_pos r1 s0
      -- found = int(draw["rest"]) % size
      refine ⟨_, rfl, d, _, rfl, DGet.k (k := Sum.inr "rest") gd, .inl ⟨_, rfl, _, rfl, _, _, rfl, rfl, s0, ?_⟩⟩
      refine ⟨_, rfl, d, _, rfl, DGet.k (k := Sum.inr "rest") gd, _, rfl, _, _, rfl, rfl, ⟨s0, s1⟩, _, rfl, d, _, rfl, DPut.k (k := Sum.inr "rest") gd (small1000 (show 4 ≤ 1000 by decide)), ?_⟩
      rw [dr_pr]
      exact ⟨_, rfl, q _ _ p0 p1 ⟨⟨_, t1, ws1, cs1, upd_same, by rw [upd_ne ndW.symm]; exact gW, by rw [upd_ne (ne_of gC gd (by intro z; cases z))]; exact gC, gt, gb⟩, ne⟩ (sd.trans Sd.upd_d)⟩
    · intro X hX
      refine ⟨_, rfl, d, _, rfl, DGet.k (k := Sum.inr "rest") hd, rfl, _, rfl, ?_⟩
      refine ite2 (fun _ => ?_) (fun _ => ?_)
      · -- the rest is used up
        refine ⟨_, rfl, d, _, rfl, DGet.k (k := Sum.inr "wide") hd, Nat.zero_le _, fun p hp => ?_⟩
        obtain ⟨npd, npW⟩ : p ≠ d ∧ p ≠ W := ⟨(ne_of_none hd hp).symm, (ne_of_none hW hp).symm⟩
        have npC : p ≠ C := (ne_of_none hC hp).symm
        have e1 : (upd H p (.lst [])) d = some (.dK (drK W C r t)) := by rw [upd_ne npd.symm]; exact hd
        have e2 : (upd H p (.lst [])) W = some (.lst (ws.map V.int)) := by rw [upd_ne npW.symm]; exact hW
        have e3 : (upd H p (.lst [])) C = some (.lst (cs.map V.int)) := by rw [upd_ne npC.symm]; exact hC
        refine ⟨_, _, .lst (SqL.of e2) (dp_ints ws), .lst (SqL.of upd_same) .nil, shaped_ints ws, rfl, ?_⟩
        rw [eqv_ints_nil]
        refine ⟨_, rfl, ?_⟩
        cases ws with
        | nil =>
          refine iteF ?_
          refine ⟨_, rfl, d, W, C, n, rfl, ⟨⟨r, t, [], cs, e1, e2, e3, ht, by omega⟩, ne⟩, fun i H' D' sd' => ?_⟩
          obtain ⟨⟨r1, t1, ws1, cs1, gd, gW, gC, gt, gb⟩, _⟩ := D'
          refine ⟨_, rfl, d, _, rfl, DPut.k (k := Sum.inr "rest") gd (small1000 (show 4 ≤ 1000 by decide)), ?_⟩
          rw [dr_pr]
          exact hX _ _ ⟨rfl, ⟨⟨_, t1, ws1, cs1, upd_same, by rw [upd_ne ndW.symm]; exact gW, by rw [upd_ne (ne_of gC gd (by intro z; cases z))]; exact gC, gt, by omega⟩, ne⟩, ((Sd.new hp).trans sd').trans Sd.upd_d⟩
        | cons z ws =>
          refine iteT ?_
          refine ⟨_, rfl, d, _, rfl, DGet.k (k := Sum.inr "wide") e1, .inl ⟨rfl, _, SqL.of e2⟩, W, _, 0, 0, .int z, rfl, rfl, e2, by decide, by decide, by simp [seqIndex?], rfl, ?_⟩
          refine ⟨_, rfl, d, _, rfl, DPut.k (kvs := drK W C r t) (k := Sum.inr "rest") (by rw [upd_ne ndW]; exact e1) (small1000 (show 4 ≤ 1000 by decide)), ?_⟩
          rw [dr_pr]
          refine hX _ _ ⟨rfl, ⟨⟨_, t, ws, cs, upd_same, by rw [upd_ne ndW.symm, upd_same]; rfl, by rw [upd_ne (ne_of e3 e1 (by intro z; cases z)), upd_ne ne.symm]; exact e3, ht, by omega⟩, ne⟩, ((Sd.new hp).trans Sd.upd_w).trans Sd.upd_d⟩
      · exact hX _ _ ⟨rfl, ⟨⟨r, t, ws, cs, hd, hW, hC, ht, by omega⟩, ne⟩, Sd.refl _⟩
end

local macro_rules | `(tactic| walk_at "data") => `(tactic| (repeat' (first | rfl | refine ex_cons ?_ ?_ | refine ex_pair ?_ ?_ ?_ | refine ex_dk (Rn.hid (by assumption) (by walk_at "mem")) ?_ | refine ex_ref (Rn.hid (by assumption) (by walk_at "mem")) ?_)))
local macro_rules | `(tactic| walk_at "mem") => `(tactic| (repeat' (first | exact List.mem_cons_self .. | refine List.mem_cons_of_mem _ ?_)))
/-! ### a drawn item -/
/-- some: a list of the heap without the draws' own, or a text -/
def spPick : Sp := fun vs H Q _ => ∃ (d W C : Addr) (n : Nat) (p : Addr) (xs : List V), vs = [.ref d, .ref p] ∧ Drw H d W C (n + 1) ∧ Hid d W H p = some (.lst xs) ∧ 0 < xs.length ∧ xs.length ≤ 1000 ∧
  ∀ (i : Nat) (x : V) (H' : Hp), xs[i]? = some x → Drw H' d W C n → Sd d W H H' → Q x H'
def spOdd : Sp := fun vs H Q _ => ∃ (d W C : Addr) (n : Nat), vs = [.ref d] ∧ Drw H d W C (n + 1) ∧
  ∀ (dd : PyData) (v : V) (H' : Hp), dd ∈ oddD → Drw H' d W C n → Sd d W H H' → Dt (Hid d W H') dd v → Q v H'
def spBegun (K : PySem.W.Frag) : Sp := fun vs H Q _ => ∃ (a : Addr) (ns : List Int), vs = [.ref a] ∧ SqL K H a (ns.map V.int) ∧ ns.length ≤ 63 ∧ ∀ (d W C : Addr) (H' : Hp), Drw H' d W C 1099511627776 → Same H H' → Q (.ref d) H'
theorem log_small {n : Nat} (h : n ≤ 1000) : ((n : Int)).natAbs.log2 < 9000 := by
  have e : ((n : Int)).natAbs = n := by omega
  rw [e]
  have h1 : n.log2 ≤ n := Nat.log2_le_self n
  omega
section
variable {P : Program} {w : World} {K : PySem.W.Frag} {mg : Str → Option Value} {base : Heap}
theorem ok_pick (T : Txt K mg) : FnOk P w K mg base CX0 3 (He.ga K "_law_pick") (fdOf K (He.ga K "_law_pick")) ["draw", "some"] spPick := by
  have G_law_take : FnOk P w K mg base CX0 2 (He.ga K "_law_take") (fdOf K (He.ga K "_law_take")) ["draw", "size"] spTake := ok_take T
  refine T.f_law_pick.ok sc_law_pick (fun vs H Q E h => ?_) (fun cdv A outer s H vs Q E hr h => ?_)
  · obtain ⟨_, _, _, _, _, _, rfl, _⟩ := h
    rfl
  · obtain ⟨d, W, C, n, p, xs, rfl, D, hp, l0, l1, q⟩ := h
    have hu := hu_of hr
    refine ⟨_, PSs.nox (pss_one (ps_ret (pe_ix ix_list (pv 1) (pe_call G_law_take (hr.mono (by decide)) rfl T.g_law_take T.f_law_take.kp (b_law_take T) .nil pass0 (pa_cons (pv 0) (pa_cons (pe_callB call_len (by rfl) T.n_len (by decide +kernel) (pa_cons (pv 1) pa_nil)) pa_nil))) (fun _ _ => rfl)))), ?_⟩
    have hp' := Hid.sub d W H _ _ hp
    refine ⟨_, rfl, _, rfl, _, rfl, _, xs.length, rfl, .inl ⟨_, SqL.of hp', rfl⟩, d, W, C, n, _, rfl, D, by omega, log_small l1, fun i H' i0 i1 D' sd => ?_⟩
    have hk : Hid d W H' p = some (.lst xs) := sd _ _ hp
    have hi : i.toNat < xs.length := by omega
    refine ⟨p, xs, i, xs[i.toNat], rfl, rfl, SqL.of (Hid.sub d W H' _ _ hk), ?_, q i.toNat _ H' (List.getElem?_eq_getElem hi) D' sd⟩
    have e : i = ((i.toNat : Nat) : Int) := by omega
    exact at_of e (List.getElem?_eq_getElem hi)
theorem ok_odd (T : Txt K mg) : FnOk P w K mg base CX0 4 (He.ga K "_law_odd") (fdOf K (He.ga K "_law_odd")) ["draw"] spOdd := by
  have G_law_pick : FnOk P w K mg base CX0 3 (He.ga K "_law_pick") (fdOf K (He.ga K "_law_pick")) ["draw", "some"] spPick := ok_pick T
  refine T.f_law_odd.ok sc_law_odd (fun vs H Q E h => ?_) (fun cdv A outer s H vs Q E hr h => ?_)
  · obtain ⟨_, _, _, _, rfl, _⟩ := h
    rfl
  · obtain ⟨d, W, C, n, rfl, D, q⟩ := h
    have hu := hu_of hr
    refine ⟨_, PSs.nox (pss_cons (ps_set (i := 1) sc_law_odd.nd rfl (.inl rfl) (pe_lst (pa_cons pe_non (pa_cons pe_bl (pa_cons pe_bl (pa_cons (pe_un un_neg pe_int) (pa_cons (pe_un un_neg pe_int) (pa_cons (pe_op op_pow pe_int pe_int) (pa_cons pe_str (pa_cons pe_str (pa_cons pe_str (pa_cons pe_str (pa_cons pe_str (pa_cons pe_str (pa_cons (pe_tup pa_nil) (pa_cons (pe_tup (pa_cons pe_int pa_nil)) (pa_cons (pe_tup (pa_cons pe_str (pa_cons pe_str pa_nil))) (pa_cons (pe_lst pa_nil) (pa_cons (pe_lst (pa_cons pe_int pa_nil)) (pa_cons pe_dnewK (pa_cons pe_int (pa_cons pe_int pa_nil))))))))))))))))))))))
  (pss_cons (ps_set (i := 1) sc_law_odd.nd rfl (.inl rfl) (pe_op op_cat (pv 1) (pe_lst (pa_cons (pe_lst (pa_cons (pe_lst pa_nil) pa_nil)) (pa_cons (pe_tup (pa_cons pe_bl pa_nil)) (pa_cons (pe_tup (pa_cons pe_int (pa_cons pe_non pa_nil))) (pa_cons pe_str (pa_cons (pe_tup (pa_cons pe_str pa_nil)) (pa_cons (pe_un un_neg (pe_op op_pow pe_int pe_int)) (pa_cons (pe_tup (pa_cons pe_int (pa_cons pe_int pa_nil))) (pa_cons pe_str (pa_cons pe_str (pa_cons (pe_disp (pps_cons pe_str pe_int pps_nil) rfl rfl (by simp) (by decide)) pa_nil)))))))))))))
  (pss_one (ps_ret (pe_call G_law_pick (hr.mono (by decide)) rfl T.g_law_pick T.f_law_pick.kp (b_law_pick T) .nil pass0 (pa_cons (pv 0) (pa_cons (pv 1) pa_nil))))))), ?_⟩
    have R := Rn.start D
    refine ⟨_, rfl, _, rfl, _, _, rfl, rfl, ⟨by decide, by decide, by decide⟩, le_line (by simp), fun p1 h1 => alloc h1 R fun H1 R1 => ?_⟩
    refine ⟨le_line (by simp), fun p2 h2 => alloc h2 R1 fun H2 R2 => ⟨le_line (by simp), fun p3 h3 => alloc h3 R2 fun H3 R3 => ⟨le_line (by simp), fun p4 h4 => alloc h4 R3 fun H4 R4 => ⟨le_line (by simp), fun p5 h5 => alloc h5 R4 fun H5 R5 => ?_⟩⟩⟩⟩
    refine fun p6 h6 => alloc h6 R5 fun H6 R6 => ⟨le_line (by simp), fun p7 h7 => alloc h7 R6 fun H7 R7 => ?_⟩
    refine ⟨_, rfl, ?_⟩
    refine ⟨le_line (by simp), fun q1 g1 => alloc g1 R7 fun H8 R8 => ⟨le_line (by simp), fun q2 g2 => alloc g2 R8 fun H9 R9 => ?_⟩⟩
    refine ⟨le_line (by simp), fun q3 g3 => alloc g3 R9 fun H10 R10 => ⟨le_line (by simp), fun q4 g4 => alloc g4 R10 fun H11 R11 => ⟨le_line (by simp), fun q5 g5 => alloc g5 R11 fun H12 R12 => ?_⟩⟩⟩
    refine ⟨_, _, rfl, rfl, ⟨by decide, by decide, by decide⟩, _, rfl, le_line (by simp), fun q6 g6 => alloc g6 R12 fun H13 R13 => fun q7 g7 => ⟨upd_same, [(Sum.inr "a", .int 1)], rfl, by decide, ?_⟩⟩
    rw [upd_upd]
    refine alloc g7 R13 fun H14 R14 => ⟨le_line (by simp), fun q8 g8 => alloc g8 R14 fun H15 R15 => ?_⟩
    refine ⟨p7, q8, _, _, rfl, rfl, R15.get (by walk_at "mem"), R15.get (by walk_at "mem"), le_line (by simp), fun q9 g9 => alloc g9 R15 fun H16 R16 => ?_⟩
    refine ⟨_, rfl, _, rfl, d, W, C, n, q9, _, rfl, R16.dr, R16.at_ (q := (q9, _)) (List.mem_cons_self ..), by simp, by simp, fun i x H' hi D' sd => ?_⟩
    have R' := R16.call D' sd
    suffices all : DtL (Hid d W H') oddD _ by
      obtain ⟨dd, e1, e2⟩ := DtL.at_ all hi
      exact q dd x H' (List.mem_of_getElem? e1) D' R'.sd e2
    simp only [oddD, DtL, Dt, DtK, List.cons_append, List.nil_append]
    walk_at "data"
theorem ok_begun (T : Txt K mg) : FnOk P w K mg base CX0 1 (He.ga K "_law_begun") (fdOf K (He.ga K "_law_begun")) ["script"] (spBegun K) := by
  refine T.f_law_begun.ok sc_law_begun (fun vs H Q E h => ?_) (fun cdv A outer s H vs Q E hr h => ?_)
  · obtain ⟨_, _, rfl, _⟩ := h
    rfl
  · obtain ⟨a, ns, rfl, hS, hl, q⟩ := h
    have hu := hu_of hr
    refine ⟨_, PSs.nox (pss_cons (ps_setLc (i := 1) (own := [("cell", 2)]) rfl sc_law_begun.nd rfl rfl (sw_true rfl rfl rfl (by decide +kernel)) (pi_list (pv 0)) (blkOk_by (N := N_law_begun) (sc := defScope s_law_begun) (by decide +kernel)) (fun _ _ _ _ _ => (pg_name (i := 2) sc_law_begun.nd rfl (.inl rfl))) (fun _ _ _ _ _ => (pts_one (pt_cmpR op_ge (pe_callB call_abs (by rfl) T.n_abs (by decide +kernel) (pa_cons (pv 2) pa_nil)) (pe_op op_pow pe_int pe_int) (nomark _)))) (fun _ _ _ _ _ => (pe_op op_sub (pe_callB call_abs (by rfl) T.n_abs (by decide +kernel) (pa_cons (pv 2) pa_nil)) (pe_op op_pow pe_int pe_int))))
  (pss_one (ps_ret (pe_disp (pps_cons pe_str (pv 1) (pps_cons pe_str (pe_lc (own := [("cell", 2)]) (tt := tYes) rfl sc_law_begun.nd (pi_list (pv 0)) (blkOk_by (N := N_law_begun) (sc := defScope s_law_begun) (by decide +kernel)) (fun _ _ _ _ _ => (pg_name (i := 2) sc_law_begun.nd rfl (.inl rfl))) (fun _ _ _ _ _ => pts_nil) (fun _ _ _ _ _ => (pe_op op_mod (pe_callTy call_int1 (by rfl) T.n_int (by decide +kernel) (pa_cons (pe_callB call_abs (by rfl) T.n_abs (by decide +kernel) (pa_cons (pv 2) pa_nil)) pa_nil)) pe_int))) (pps_cons pe_str pe_int (pps_cons pe_str pe_int pps_nil)))) rfl rfl (by simp) (by decide))))), ?_⟩
    refine ⟨_, rfl, a, rfl, ⟨_, hS⟩, fun W hW => lc_list (K := K) (a := a) (xs := ns.map V.int) (fun i H' => Same H H' ∧ ∃ acc : List Int, acc.length ≤ i ∧ H' W = some (.lst (acc.map V.int)))
      ⟨same_upd hW, [], Nat.le_refl _, upd_same⟩ (fun i H' _ h => h.1.seq hS) ?_ ?_⟩
    · rintro i x H' hi ⟨s1, acc, la, ha⟩
      obtain ⟨z, hz, rfl⟩ := ints_get hi
      have hlt : i < 63 := by have := (List.getElem?_eq_some_iff.mp hz).1; omega
      refine ⟨rfl, _, rfl, _, rfl, _, _, rfl, rfl, ⟨by decide, by decide, by decide⟩, _, _, rfl, rfl, _, rfl, ?_⟩
      refine ite2 (fun _ => ?_) (fun _ => ⟨s1, acc, by omega, ha⟩)
      refine ⟨_, rfl, _, rfl, _, _, rfl, rfl, ⟨by decide, by decide, by decide⟩, _, _, rfl, rfl, _, ha, ?_, fun b o e => ?_, ?_⟩
      · rw [List.length_map]
        exact small1000 (by omega)
      · rw [upd_ne (ne_of_none e hW)]
        exact s1 b o e
      · exact grow_ints la
    · rintro H1 ⟨s1, ws, lw, hws⟩
      -- the dict, its cells
      refine fun d hd => ⟨_, rfl, _, rfl, a, rfl, ⟨_, (s1.trans (same_upd hd)).seq hS⟩, fun C hC => lc_list (K := K) (a := a) (xs := ns.map V.int)
        (fun i H' => Same H1 H' ∧ H' d = some (.dK []) ∧ ∃ acc : List Int, acc.length ≤ i ∧ H' C = some (.lst (acc.map V.int))) ?_ (fun i H' _ h => (s1.trans h.1).seq hS) ?_ ?_⟩
      · have nCd : d ≠ C := fun z => by rw [← z, upd_same] at hC; cases hC
        exact ⟨(same_upd hd).trans (same_upd hC), by rw [upd_ne nCd, upd_same], [], Nat.le_refl _, upd_same⟩
      · rintro i x H' hi ⟨s2, h2, acc, la, ha⟩
        obtain ⟨z, hz, rfl⟩ := ints_get hi
        have hlt : i < 63 := by have := (List.getElem?_eq_some_iff.mp hz).1; omega
        have nCd : d ≠ C := fun z => by rw [← z, upd_same] at hC; cases hC
        have hC1 : H1 C = none := by rw [upd_ne nCd.symm] at hC; exact hC
        refine ⟨rfl, ?_⟩
        unfold tYes
        refine iteT ?_
        refine ⟨_, rfl, _, rfl, .inl ⟨_, rfl, _, _, rfl, rfl, (show (0 : Int) < 2147483629 by decide), _, ha, ?_, fun b o e => ?_, ?_, ?_⟩⟩
        · rw [List.length_map]
          exact small1000 (by omega)
        · rw [upd_ne (ne_of_none e hC1)]
          exact s2 b o e
        · rw [upd_ne nCd]
          exact h2
        · exact grow_ints la
      · rintro H2 ⟨s2, h2, cs, lc, hcs⟩
        have nCd : d ≠ C := fun z => by rw [← z, upd_same] at hC; cases hC
        have hC1 : H1 C = none := by rw [upd_ne nCd.symm] at hC; exact hC
        have nWC : W ≠ C := ne_of_none hws hC1
        have nWd : W ≠ d := ne_of_none hws hd
        refine ⟨h2, [(.inr "wide", .ref W), (.inr "cells", .ref C), (.inr "rest", .int 0), (.inr "turn", .int 0)], rfl, by simp, ?_⟩
        refine q d W C _ ⟨⟨0, 0, ws, cs, upd_same, by rw [upd_ne nWd]; exact s2 _ _ hws, by rw [upd_ne nCd.symm]; exact hcs, by decide, by decide⟩, nWC⟩ (fun b o e => ?_)
        rw [upd_ne (ne_of_none (s1 b o e) hd)]
        exact s2 _ _ (s1 b o e)
end
end G04
set_option Elab.async false
set_option linter.all false
set_option maxRecDepth 100000
set_option maxHeartbeats 4000000

namespace G04
open PySem PySem.Spec PyProof.Rows L2 Mw LamX
section
variable {P : Program} {w : World} {K : PySem.W.Frag} {mg : Str → Option Value} {base : Heap}
 theorem c_row (T : Txt K mg) : ∃ u, mg "ROW" = some u ∧ RelV (.str (tx [114])) u := by
  obtain ⟨t, h⟩ := T.c_ROW
  exact ⟨_, h, t, rfl⟩
theorem c_cols (T : Txt K mg) : ∃ u, mg "COLUMNS" = some u ∧ RelV (.str (tx abcd)) u := by
  obtain ⟨t, h⟩ := T.c_COLUMNS
  exact ⟨_, h, t, rfl⟩
theorem ok_picked (T : Txt K mg) : FnOk P w K mg base CX0 1 (He.ga K "_picked") (fdOf K (He.ga K "_picked")) ["letters", "given"] spPicked := by
  refine T.f_picked.ok sc_picked (fun vs H Q E h => ?_) (fun cdv A outer s H vs Q E hr h => ?_)
  · obtain ⟨_, _, rfl, _⟩ := h
    rfl
  · obtain ⟨l, g, rfl, small, q⟩ := h
    refine ⟨_, PSs.nox (pss_one (ps_ret (pe_join pe_str (pe_lc (own := [("letter", 2)]) rfl sc_picked.nd (pi_str (pv 0)) (blkOk_by (N := N_picked) (sc := defScope s_picked) (by decide +kernel)) (fun _ _ _ _ _ => (pg_name (i := 2) sc_picked.nd rfl (.inl rfl))) (fun _ _ _ _ _ => (pts_one (pt_cmpR op_in_sign (pv 2) (pv 1) (by rfl)))) (fun _ _ _ _ _ => (pv 2)))))), ?_⟩
    refine ⟨⟨_, rfl⟩, _, rfl, _, rfl, fun D hD => ?_⟩
    refine lc_it walk_str (fun i H' => Same H H' ∧ H' D = some (.lst (((l.take i).filter (fun c => decide (c ∈ g))).map oneV))) ⟨same_upd hD, upd_same⟩ (fun _ _ _ _ => trivial) ?_ ?_
    · rintro i x H1 H1' hi ⟨s1, ha⟩ ⟨rfl, c, hc, rfl⟩
      have hc2 := cps_get hc
      have hi2 : i < l.length := (List.getElem?_eq_some_iff.mp hc2).1
      refine ⟨rfl, _, rfl, _, rfl, c, tx g, rfl, rfl, _, rfl, ?_⟩
      rw [take_one hc2]
      by_cases m : c ∈ g
      · refine ite2 (fun _ => ⟨_, rfl, _, ha, ?_, same_into hD s1, ?_⟩) (fun z => absurd (decide_eq_true m) z)
        · rw [List.length_map]
          refine small1000 (Nat.le_trans (List.length_filter_le _ _) ?_)
          rw [List.length_take]
          omega
        · rw [upd_same, if_pos (decide_eq_true m), List.map_append]
          rfl
      · refine ite2 (fun z => absurd (of_decide_eq_true z) m) (fun _ => ⟨s1, ?_⟩)
        rw [if_neg (by simpa using m), List.append_nil]
        exact ha
    · rintro H1 ⟨s1, ha⟩
      refine ⟨_, D, (pickL l g).map fun c => tx [c], rfl, rfl, .inl (SqL.of ?_), ?_, ?_⟩
      · rw [take_all (by rw [tx_size]; exact Nat.le_refl _)] at ha
        rw [ha, List.map_map]
        rfl
      · have z := ones_len (pickL l g)
        have y : (pickL l g).length ≤ l.length := List.length_filter_le _ _
        show _ + _ * (tx []).length ≤ 16777216
        omega
      · show Q (.str (Txt.join (tx []) _)) H1
        rw [ones_join]
        exact q H1 s1
end
end G04
set_option Elab.async false
set_option linter.all false
set_option maxRecDepth 100000
set_option maxHeartbeats 4000000

namespace G04
open PySem PySem.Spec PyProof.Rows L2 Mw LamX
section
variable {P : Program} {w : World} {K : PySem.W.Frag} {mg : Str → Option Value} {base : Heap}
theorem ok_all_sets (T : Txt K mg) : FnOk P w K mg base CX0 1 (He.ga K "_all_sets") (fdOf K (He.ga K "_all_sets")) ["letters"] spAllSets := by
  refine T.f_all_sets.ok sc_all_sets (fun vs H Q E h => ?_) (fun cdv A outer s H vs Q E hr h => ?_)
  · obtain ⟨_, rfl, _⟩ := h
    rfl
  · obtain ⟨l, rfl, small, q⟩ := h
    refine ⟨_, PSs.nox (pss_cons (ps_set (i := 1) sc_all_sets.nd rfl (.inl rfl) (pe_lst (pa_cons pe_str pa_nil)))
  (pss_cons (ps_for PassesOwn.never rfl (pi_str (pv 0)) (pg_name (i := 2) sc_all_sets.nd rfl (.inr rfl))
  (pss_one (ps_set (i := 1) sc_all_sets.nd rfl (.inl rfl) (pe_op op_cat (pv 1) (pe_lc (own := [("one", 3)]) (tt := tYes) rfl sc_all_sets.nd (pi_list (pv 1)) (blkOk_by (N := N_all_sets) (sc := defScope s_all_sets) (by decide +kernel)) (fun _ _ _ _ _ => (pg_name (i := 3) sc_all_sets.nd rfl (.inl rfl))) (fun _ _ _ _ _ => pts_nil) (fun _ _ _ _ _ => (pe_op op_add_str (pv 3) (pv 2))))))))
  (pss_one (ps_ret (pv 1))))), ?_⟩
    refine ⟨le_line (by simp), fun p0 hp0 => allocN hp0 fun H0 s0 l0 => ?_⟩
    refine ⟨_, rfl, _, rfl, ?_⟩
    refine for_it walk_str (fun i σ H' => ∃ (f : Addr) (x2 x3 : Option V), σ = [some (.str (tx l)), some (.ref f), x2, x3] ∧ H f = none ∧ Same H H' ∧ H' f = some (.lst ((pow (l.take i)).map setV))) ⟨p0, _, _, rfl, hp0, s0, l0⟩ (fun _ _ _ _ _ => trivial) ?_ ?_
    · rintro i x σ H1 H1' hi ⟨f, x2, x3, rfl, nf, s1, lf⟩ ⟨rfl, c, hc, rfl⟩
      have hc2 := cps_get hc
      have hi2 : i < l.length := (List.getElem?_eq_some_iff.mp hc2).1
      have lt : (l.take i).length ≤ 5 := Nat.le_trans (List.length_take_le _ _) (by omega)
      have pl := pow_le lt
      refine ⟨_, rfl, _, rfl, _, rfl, ⟨_, SqL.of lf⟩, fun D hD => ?_⟩
      have fD : f ≠ D := ne_of_none lf hD
      refine lc_it walk_list (fun j H2 => Same H1' H2 ∧ H2 D = some (.lst (((pow (l.take i)).take j).map fun s => setV (s ++ [c])))) ⟨same_upd hD, upd_same⟩ (fun _ _ _ z => SqL.of (z.1 _ _ lf)) ?_ ?_
      · rintro j y H2 H2' hj ⟨s2, l2⟩ ⟨rfl, hy⟩
        obtain ⟨s, hs, rfl⟩ := map_get hy
        have ls := pow_item lt (List.mem_of_getElem? hs)
        refine ⟨rfl, ?_⟩
        unfold tYes
        refine iteT ⟨_, rfl, _, rfl, _, _, rfl, rfl, ?_, _, l2, ?_, same_into hD s2, ?_⟩
        · show (tx s).length + (tx [c]).length ≤ _
          rw [tx_len, tx_len]
          exact le_line (by simp; omega)
        · rw [List.length_map, List.length_take]
          exact small1000 (by omega)
        · rw [upd_same, take_map hs]
          show some (HO.lst (_ ++ [V.str (tx s ++ tx [c])])) = _
          rw [tx_app]
          rfl
      · rintro H2 ⟨s2, l2⟩
        rw [List.length_map, List.take_length] at l2
        refine ⟨f, D, _, _, rfl, rfl, s2 _ _ lf, l2, ?_, fun p hp => allocN hp fun H3 s3 l3 => ?_⟩
        · rw [List.length_map, List.length_map]
          exact le_line (by omega)
        · refine ⟨p, _, _, rfl, none_of (s1.trans s2) hp, (s1.trans s2).trans s3, ?_⟩
          rw [l3, pow_mono hc2, List.map_append, List.map_map]
          rfl
    · rintro σ H1 ⟨f, x2, x3, rfl, nf, s1, lf⟩
      refine ⟨_, rfl, q f H1 nf s1 ?_⟩
      rw [take_all (by rw [tx_size]; exact Nat.le_refl _)] at lf
      exact lf
theorem ok_is_columns (T : Txt K mg) : FnOk P w K mg base CX0 2 (He.ga K "is_columns") (fdOf K (He.ga K "is_columns")) ["given"] spIsCols := by
  have G_picked : FnOk P w K mg base CX0 1 (He.ga K "_picked") (fdOf K (He.ga K "_picked")) ["letters", "given"] spPicked := ok_picked T
  refine T.f_is_columns.ok sc_is_columns (fun vs H Q E h => ?_) (fun cdv A outer s H vs Q E hr h => ?_)
  · obtain ⟨_, _, rfl, _⟩ := h
    rfl
  · obtain ⟨v, dd, rfl, hd, q⟩ := h
    refine ⟨_, PSs.nox (pss_one (ps_ret (pe_and (pe_callB call_isi (by rfl) T.n_isinstance (by decide +kernel) (pa_cons (pv 0) (pa_cons (pe_bltn (v := .ty "str") (by rfl) T.n_str (by decide +kernel) rfl) pa_nil))) (pe_and (pe_cmpR op_ne (pv 0) pe_str (nomark _)) (pe_one (pe_cmpR op_eq (pv 0) (pe_call G_picked (hr.mono (by decide)) rfl T.g_picked T.f_picked.kp (b_picked T) .nil pass0 (pa_cons (C8.pe_gc (v := .str (tx abcd)) (by rfl) (c_cols T)) (pa_cons (pv 0) pa_nil))) (nomark _))))))), ?_⟩
    cases dd with
    | str x =>
      refine ⟨_, rfl, _, _, .type "str", _, true, rfl, .ty "str", hd.ty, kitq (show kitB "str" "str" = some true by decide +kernel), ?_⟩
      simp only [Dt] at hd
      subst hd
      refine ⟨_, rfl, iteT ?_⟩
      by_cases e : x.cps.toList = []
      · have e2 : x = tx [] := by rw [← ofStr x, e]
        subst e2
        refine ⟨_, rfl, rfl, _, rfl, ite2 (fun z => absurd z (by decide)) (fun _ => ?_)⟩
        have z := q H (Same.refl H)
        rw [show colB (.str (tx [])) = false by rfl] at z
        exact z
      · refine ⟨_, rfl, rfl, _, rfl, ite2 (fun _ => ?_) (fun z => absurd ?_ z)⟩
        · refine ⟨_, rfl, _, rfl, abcd, x.cps.toList, by rw [ofStr]; rfl, by decide, fun H' s1 => ⟨rfl, ?_⟩⟩
          rw [strv_dec]
          have z := q H' s1
          rw [show colB (.str x) = decide (pickL abcd x.cps.toList = x.cps.toList) by simp [colB, e]] at z
          exact z
        · show (!decide (V.str x = V.str (tx []))) = true
          rw [strv_dec x [], decide_eq_false fun y => e y.symm]
          rfl
    | _ =>
      refine ⟨_, rfl, _, _, _, _, false, rfl, .ty "str", hd.ty, kitq (by simp only [tyN]; decide +kernel), ?_⟩
      exact ⟨_, rfl, ite2 (fun z => absurd z (by decide)) (fun _ => q H (Same.refl H))⟩
end
end G04
set_option Elab.async false
set_option linter.all false
set_option maxRecDepth 100000
set_option maxHeartbeats 4000000

namespace G04
open PySem PySem.Spec PyProof.Rows L2 Mw LamX
section
variable {P : Program} {w : World} {K : PySem.W.Frag} {mg : Str → Option Value} {base : Heap}
theorem ok_is_set (T : Txt K mg) : FnOk P w K mg base CX0 2 (He.ga K "is_set") (fdOf K (He.ga K "is_set")) ["columns", "letters"] spIsSet := by
  have G_picked : FnOk P w K mg base CX0 1 (He.ga K "_picked") (fdOf K (He.ga K "_picked")) ["letters", "given"] spPicked := ok_picked T
  refine T.f_is_set.ok sc_is_set (fun vs H Q E h => ?_) (fun cdv A outer s H vs Q E hr h => ?_)
  · obtain ⟨_, _, _, rfl, _⟩ := h
    rfl
  · obtain ⟨cols, v, dd, rfl, small, hd, q⟩ := h
    refine ⟨_, PSs.nox (pss_one (ps_ret (pe_and (pe_callB call_isi (by rfl) T.n_isinstance (by decide +kernel) (pa_cons (pv 1) (pa_cons (pe_bltn (v := .ty "str") (by rfl) T.n_str (by decide +kernel) rfl) pa_nil))) (pe_one (pe_cmpR op_eq (pv 1) (pe_call G_picked (hr.mono (by decide)) rfl T.g_picked T.f_picked.kp (b_picked T) .nil pass0 (pa_cons (pe_op op_add_str (pv 0) (C8.pe_gc (v := .str (tx [114])) (by rfl) (c_row T))) (pa_cons (pv 1) pa_nil))) (nomark _)))))), ?_⟩
    cases dd with
    | str x =>
      refine ⟨_, rfl, _, _, .type "str", _, true, rfl, .ty "str", hd.ty, kitq (show kitB "str" "str" = some true by decide +kernel), ?_⟩
      simp only [Dt] at hd
      subst hd
      refine ⟨_, rfl, iteT ?_⟩
      refine ⟨_, rfl, _, rfl, _, _, rfl, rfl, ?_, _, rfl, cols ++ [114], x.cps.toList, ?_, ?_, fun H' s1 => ⟨rfl, ?_⟩⟩
      · show (tx cols).length + (tx [114]).length ≤ _
        rw [tx_len, tx_len]
        exact le_line (by simp; omega)
      · rw [ofStr, ← tx_app]
        rfl
      · rw [List.length_append]
        show cols.length + 1 ≤ 1000
        omega
      · rw [strv_dec]
        exact q H' s1
    | _ =>
      refine ⟨_, rfl, _, _, _, _, false, rfl, .ty "str", hd.ty, kitq (by simp only [tyN]; decide +kernel), ?_⟩
      exact ⟨_, rfl, ite2 (fun z => absurd z (by decide)) (fun _ => q H (Same.refl H))⟩
theorem ok_is_within (T : Txt K mg) : FnOk P w K mg base CX0 1 (He.ga K "is_within") (fdOf K (He.ga K "is_within")) ["small", "large"] spWithin := by
  refine T.f_is_within.ok sc_is_within (fun vs H Q E h => ?_) (fun cdv A outer s H vs Q E hr h => ?_)
  · obtain ⟨_, _, rfl, _⟩ := h
    rfl
  · obtain ⟨a, b, rfl, small, q⟩ := h
    refine ⟨_, PSs.nox (pss_one (ps_ret (pe_callB (cr_all rfl) (by rfl) T.n_all (by decide +kernel) (pa_cons (pe_lc (own := [("letter", 2)]) (tt := tYes) rfl sc_is_within.nd (pi_str (pv 0)) (blkOk_by (N := N_is_within) (sc := defScope s_is_within) (by decide +kernel)) (fun _ _ _ _ _ => (pg_name (i := 2) sc_is_within.nd rfl (.inl rfl))) (fun _ _ _ _ _ => pts_nil) (fun _ _ _ _ _ => (pe_cmpR op_in_sign (pv 2) (pv 1) (by rfl)))) pa_nil)))), ?_⟩
    refine ⟨_, rfl, _, rfl, fun D hD => ?_⟩
    refine lc_it walk_str (fun i H' => Same H H' ∧ H' D = some (.lst (((a.take i).map fun c => decide (c ∈ b)).map V.bl))) ⟨same_upd hD, upd_same⟩ (fun _ _ _ _ => trivial) ?_ ?_
    · rintro i x H1 H1' hi ⟨s1, ha⟩ ⟨rfl, c, hc, rfl⟩
      have hc2 := cps_get hc
      have hi2 : i < a.length := (List.getElem?_eq_some_iff.mp hc2).1
      refine ⟨rfl, ?_⟩
      unfold tYes
      refine iteT ⟨_, rfl, _, rfl, c, tx b, rfl, rfl, _, ha, ?_, same_into hD s1, ?_⟩
      · rw [List.length_map, List.length_map, List.length_take]
        exact small1000 (by omega)
      · rw [upd_same, take_map hc2, List.map_append]
        rfl
    · rintro H1 ⟨s1, ha⟩
      rw [take_all (by rw [tx_size]; exact Nat.le_refl _)] at ha
      refine ⟨D, _, rfl, SqL.of ha, ?_⟩
      have z := q H1 s1
      have e : (a.map fun c => decide (c ∈ b)).all id = within a b := by
        unfold within
        rw [List.all_map]
        rfl
      rw [e]
      exact z
theorem ok_is_closed (T : Txt K mg) : FnOk P w K mg base CX0 2 (He.ga K "_is_closed") (fdOf K (He.ga K "_is_closed")) ["columns", "dependences", "letters"] (spIsClosed K) := by
  have G_is_within : FnOk P w K mg base CX0 1 (He.ga K "is_within") (fdOf K (He.ga K "is_within")) ["small", "large"] spWithin := ok_is_within T
  refine T.f_is_closed.ok sc_is_closed (fun vs H Q E h => ?_) (fun cdv A outer s H vs Q E hr h => ?_)
  · obtain ⟨_, _, _, _, _, rfl, _⟩ := h
    rfl
  · obtain ⟨cols, p, xs, ts, sl, rfl, small, hp, hx, lts, lt1, q⟩ := h
    refine ⟨_, PSs.nox (pss_cons (ps_if (PW.pt (pw_and (pt_cmpR op_in_sign (C8.pe_gc (v := .str (tx [114])) (by rfl) (c_row T)) (pv 2) (by rfl)) (pw_and1 (pt_not (pt_val (pe_call G_is_within (hr.mono (by decide)) rfl T.g_is_within T.f_is_within.kp (b_is_within T) .nil pass0 (pa_cons (pv 0) (pa_cons (pv 2) pa_nil))))))))
  (pss_one (ps_ret pe_bl))
  pss_nil)
  (pss_one (ps_ret (pe_callB (cr_all rfl) (by rfl) T.n_all (by decide +kernel) (pa_cons (pe_lc (own := [("given", 3), ("letter", 4)]) (g := gTup K 2 (gCons (gName 3) (gCons (gName 4) gNil))) rfl sc_is_closed.nd (pi_tup (pv 1)) (blkOk_by (N := N_is_closed) (sc := defScope s_is_closed) (by decide +kernel)) (fun _ _ _ _ _ => (pg_tup (by rfl) (pgs_cons (pg_name (i := 3) sc_is_closed.nd rfl (.inl rfl)) (pgs_cons (pg_name (i := 4) sc_is_closed.nd rfl (.inl rfl)) pgs_nil)))) (fun _ _ _ _ _ => (pts_one (pt_val (pe_call G_is_within (hr.mono (by decide)) rfl T.g_is_within T.f_is_within.kp (b_is_within T) .nil pass0 (pa_cons (pv 3) (pa_cons (pv 2) pa_nil)))))) (fun _ _ _ _ _ => (pe_cmpR op_in_sign (pv 4) (pv 2) (by rfl)))) pa_nil))))), ?_⟩
    refine seq_gen (fun σ' H' => σ' = L2.start N_is_closed [.str (tx cols), .ref p, .str (tx sl)] ∧ Same H H' ∧ (114 ∈ sl → within cols sl = true)) ?_ ?_
    · rintro σ' H1 ⟨rfl, s1, hc⟩
      have hp1 := sqt_same (K := K) hp s1
      refine ⟨_, rfl, p, rfl, ⟨_, hp1⟩, fun D hD => ?_⟩
      refine lc_it walk_tup (fun i H' => Same H1 H' ∧ H' D = some (.lst ((((ts.take i).filter fun t => within t.1 sl).map fun t => decide (t.2 ∈ sl)).map V.bl))) ⟨same_upd hD, upd_same⟩ (fun _ _ _ z => sqt_same (K := K) hp1 z.1) ?_ ?_
      · rintro i x H2 H2' hi ⟨s2, l2⟩ ⟨rfl, hx2⟩
        obtain ⟨t, a, ht, rfl, ha⟩ := dtl_get hx hx2
        have ha2 := s2 _ _ (s1 _ _ ha)
        have hi2 : i < ts.length := (List.getElem?_eq_some_iff.mp ht).1
        refine ⟨a, _, rfl, SqT.of ha2, rfl, _, _, rfl, _, _, rfl, rfl, rfl, _, rfl, _, rfl, t.1, sl, rfl, lt1 t (List.mem_of_getElem? ht), fun H3 s3 => ⟨_, rfl, ?_⟩⟩
        rw [take_one ht]
        cases w : within t.1 sl with
        | false =>
          refine ite2 (fun z => absurd z (by decide)) (fun _ => ⟨s2.trans s3, ?_⟩)
          rw [if_neg (by decide), List.append_nil]
          exact s3 _ _ l2
        | true =>
          refine ite2 (fun _ => ⟨_, rfl, _, rfl, t.2, tx sl, rfl, rfl, _, s3 _ _ l2, ?_, same_into hD (s2.trans s3), ?_⟩) (fun z => absurd rfl z)
          · rw [List.length_map, List.length_map]
            refine small1000 (Nat.le_trans (List.length_filter_le _ _) ?_)
            rw [List.length_take]
            omega
          · rw [upd_same, if_pos rfl, List.map_append, List.map_append]
            rfl
      · rintro H2 ⟨s2, l2⟩
        rw [take_all (by have z := DtL.length hx; rw [List.length_map] at z; omega)] at l2
        refine ⟨D, _, rfl, SqL.of l2, ?_⟩
        have z := q H2 (s1.trans s2)
        have e : isCl cols ts sl = (((ts.filter fun t => within t.1 sl).map fun t => decide (t.2 ∈ sl)).all id) := by
          unfold isCl
          rw [List.all_map]
          have e1 : (!(decide (114 ∈ sl) && !within cols sl)) = true := by
            by_cases m : 114 ∈ sl
            · rw [hc m]
              simp
            · rw [decide_eq_false m]
              rfl
          rw [e1, Bool.true_and]
          rfl
        rw [e] at z
        exact z
    · intro X hX
      refine ⟨_, rfl, 114, tx sl, rfl, rfl, _, rfl, ?_⟩
      by_cases m : 114 ∈ sl
      · refine ite2 (fun _ => ⟨_, rfl, _, rfl, cols, sl, rfl, by omega, fun H1 s1 => ⟨_, rfl, ?_⟩⟩) (fun z => absurd (decide_eq_true m) z)
        cases w : within cols sl with
        | true => exact ite2 (fun z => absurd z (by decide)) (fun _ => hX _ _ ⟨rfl, s1, fun _ => w⟩)
        | false =>
          have z := q H1 s1
          rw [show isCl cols ts sl = false by simp [isCl, m, w]] at z
          exact ite2 (fun _ => z) (fun z => absurd rfl z)
      · refine ite2 (fun z => absurd (of_decide_eq_true z) m) (fun _ => ?_)
        exact ite2 (fun z => absurd z (by decide)) (fun _ => hX _ _ ⟨rfl, Same.refl H, fun z => absurd z m⟩)
end
end G04
set_option Elab.async false
set_option linter.all false
set_option maxRecDepth 100000
set_option maxHeartbeats 4000000

namespace G04
open PySem PySem.Spec PyProof.Rows L2 Mw LamX
section
variable {P : Program} {w : World} {K : PySem.W.Frag} {mg : Str → Option Value} {base : Heap}
theorem c_most (T : Txt K mg) : ∃ u, mg "MOST_DEPENDENCES" = some u ∧ RelV (.int 20) u := by
  obtain ⟨t, h⟩ := T.c_MOST_DEPENDENCES
  exact ⟨_, h, t, rfl⟩
theorem ok_is_dependence (T : Txt K mg) : FnOk P w K mg base CX0 3 (He.ga K "is_dependence") (fdOf K (He.ga K "is_dependence")) ["columns", "thing"] spIsDep := by
  have G_is_set : FnOk P w K mg base CX0 2 (He.ga K "is_set") (fdOf K (He.ga K "is_set")) ["columns", "letters"] spIsSet := ok_is_set T
  refine T.f_is_dependence.ok sc_is_dependence (fun vs H Q E h => ?_) (fun cdv A outer s H vs Q E hr h => ?_)
  · obtain ⟨_, _, _, rfl, _⟩ := h
    rfl
  · obtain ⟨cols, v, dd, rfl, small, hd, q⟩ := h
    refine ⟨_, PSs.nox (pss_cons (ps_if (PW.pt (pw_or (pt_not (pt_val (pe_callB call_isi (by rfl) T.n_isinstance (by decide +kernel) (pa_cons (pv 1) (pa_cons (pe_bltn (v := .ty "tuple") (by rfl) T.n_tuple (by decide +kernel) rfl) pa_nil))))) (pw_or1 (pt_cmpR op_ne (pe_callB call_len (by rfl) T.n_len (by decide +kernel) (pa_cons (pv 1) pa_nil)) pe_int (nomark _)))))
  (pss_one (ps_ret pe_bl))
  pss_nil)
  (pss_cons (ps_asg (pv 1) (pg_tup (by rfl) (pgs_cons (pg_name (i := 2) sc_is_dependence.nd rfl (.inl rfl)) (pgs_cons (pg_name (i := 3) sc_is_dependence.nd rfl (.inl rfl)) pgs_nil))))
  (pss_one (ps_ret (pe_and (pe_call G_is_set (hr.mono (by decide)) rfl T.g_is_set T.f_is_set.kp (b_is_set T) .nil pass0 (pa_cons (pv 0) (pa_cons (pv 2) pa_nil))) (pe_and (pe_call G_is_set (hr.mono (by decide)) rfl T.g_is_set T.f_is_set.kp (b_is_set T) .nil pass0 (pa_cons (pv 0) (pa_cons (pv 3) pa_nil))) (pe_one (pe_cmpR op_eq (pe_callB call_len (by rfl) T.n_len (by decide +kernel) (pa_cons (pv 3) pa_nil)) pe_int (nomark _))))))))), ?_⟩
    cases dd with
    | tuple ds =>
      refine ⟨_, rfl, _, _, .type "tuple", _, true, rfl, .ty "tuple", hd.ty, kitq (show kitB "tuple" "tuple" = some true by decide +kernel), _, rfl, ite2 (fun z => absurd z (by decide)) (fun _ => ?_)⟩
      simp only [Dt] at hd
      obtain ⟨a, xs, rfl, ha, hx⟩ := hd
      have lx := DtL.length hx
      refine ⟨_, rfl, _, xs.length, rfl, .inr ⟨_, SqT.of ha, rfl⟩, rfl, _, rfl, ?_⟩
      match ds, lx, hx, q with
      | [], lx, _, q => exact ite2 (fun _ => q H (Same.refl H)) (fun z => absurd (by rw [lx]; rfl) z)
      | [d0], lx, _, q => exact ite2 (fun _ => q H (Same.refl H)) (fun z => absurd (by rw [lx]; rfl) z)
      | d0 :: d1 :: d2 :: r, lx, _, q => exact ite2 (fun _ => q H (Same.refl H)) (fun z => absurd (by rw [lx]; simp; omega) z)
      | [d1, d2], lx, hx, q =>
        refine ite2 (fun z => absurd z (by rw [lx]; simp)) (fun _ => ?_)
        simp only [DtL] at hx
        obtain ⟨x, _, rfl, h1, y, _, rfl, h2, rfl⟩ := hx
        refine ⟨_, rfl, a, _, rfl, SqT.of ha, rfl, _, _, rfl, _, _, rfl, rfl, ?_⟩
        refine ⟨_, rfl, _, rfl, cols, x, d1, rfl, small, h1, fun H1 s1 => ⟨_, rfl, ?_⟩⟩
        have hq : depB cols (.tuple [d1, d2]) = (setB cols d1 && setB cols d2 && lenOne d2) := rfl
        rw [hq] at q
        cases e1 : setB cols d1 with
        | false =>
          rw [e1] at q
          exact ite2 (fun z => absurd z (by decide)) (fun _ => q H1 s1)
        | true =>
          refine ite2 (fun _ => ?_) (fun z => absurd rfl z)
          refine ⟨_, rfl, _, rfl, cols, y, d2, rfl, small, Dt.same s1 _ _ h2, fun H2 s2 => ⟨_, rfl, ?_⟩⟩
          rw [e1] at q
          cases e2 : setB cols d2 with
          | false =>
            rw [e2] at q
            exact ite2 (fun z => absurd z (by decide)) (fun _ => q H2 (s1.trans s2))
          | true =>
            refine ite2 (fun _ => ?_) (fun z => absurd rfl z)
            cases d2 with
            | str z =>
              simp only [Dt] at h2
              subst h2
              have lz : z.length ≤ 901 := by
                have e3 : pickL (cols ++ [114]) z.cps.toList = z.cps.toList := of_decide_eq_true e2
                have e4 := (pick_sub (cols ++ [114]) z.cps.toList).length_le
                rw [e3, List.length_append] at e4
                exact Nat.le_trans e4 (by simp; omega)
              refine ⟨_, rfl, _, z.length, rfl, ⟨le_line (by omega), rfl⟩, rfl, ?_⟩
              have z2 := q H2 (s1.trans s2)
              rw [e2] at z2
              have e5 : lenOne (.str z) = decide (V.int (z.length : Nat) = V.int 1) := by
                show decide (z.cps.toList.length = 1) = _
                have e6 : (z.cps.toList.length = 1) ↔ (V.int (z.length : Nat) = V.int 1) := by
                  have e7 : z.cps.toList.length = z.length := by
                    rw [Array.length_toList]
                    rfl
                  rw [e7]
                  exact ⟨fun h => by rw [h]; rfl, fun h => by have h2 := V.int.inj h; omega⟩
                exact decide_eq_decide.mpr e6
              rw [← e5]
              exact z2
            | _ => cases e2
    | _ =>
      refine ⟨_, rfl, _, _, _, _, false, rfl, .ty "tuple", hd.ty, kitq (by simp only [tyN]; decide +kernel), ?_⟩
      exact ⟨_, rfl, ite2 (fun _ => q H (Same.refl H)) (fun z => absurd rfl z)⟩
theorem ok_checked_dependences (T : Txt K mg) : FnOk P w K mg base CX0 4 (He.ga K "_checked_dependences") (fdOf K (He.ga K "_checked_dependences")) ["columns", "dependences"] (spChk K) := by
  have G_is_dependence : FnOk P w K mg base CX0 3 (He.ga K "is_dependence") (fdOf K (He.ga K "is_dependence")) ["columns", "thing"] spIsDep := ok_is_dependence T
  refine T.f_checked_dependences.ok sc_checked_dependences (fun vs H Q E h => ?_) (fun cdv A outer s H vs Q E hr h => ?_)
  · obtain ⟨_, _, _, _, rfl, _⟩ := h
    rfl
  · obtain ⟨cols, p, xs, ts, rfl, small, hp, hx, lt, ok, q⟩ := h
    refine ⟨_, PSs.nox (pss_cons (ps_if (pt_not (pt_val (pe_callB call_isiT (by rfl) T.n_isinstance (by decide +kernel) (pa_cons (pv 1) (pa_cons (pe_tup (pa_cons (pe_bltn (v := .ty "list") (by rfl) T.n_list (by decide +kernel) rfl) (pa_cons (pe_bltn (v := .ty "tuple") (by rfl) T.n_tuple (by decide +kernel) rfl) pa_nil))) pa_nil)))))
  (pss_one ps_dead)
  pss_nil)
  (pss_cons (ps_for PassesOwn.never rfl (pi_or (pi_enum (by rfl) T.n_enumerate (pa_cons (pe_slice sl_list (pv 1) po_none (po_some (C8.pe_gc (v := .int 20) (by rfl) (c_most T)))) pa_nil)) (pi_enumT (by rfl) T.n_enumerate (pa_cons (pe_slice sl_tupA (pv 1) po_none (po_some (C8.pe_gc (v := .int 20) (by rfl) (c_most T)))) pa_nil))) (pg_tup (by rfl) (pgs_cons (pg_name (i := 2) sc_checked_dependences.nd rfl (.inl rfl)) (pgs_cons (pg_name (i := 3) sc_checked_dependences.nd rfl (.inl rfl)) pgs_nil)))
  (pss_one (ps_if (pt_not (pt_val (pe_call G_is_dependence (hr.mono (by decide)) rfl T.g_is_dependence T.f_is_dependence.kp (b_is_dependence T) .nil pass0 (pa_cons (pv 0) (pa_cons (pv 3) pa_nil)))))
  (pss_one ps_dead)
  pss_nil)))
  (pss_cons (ps_if (pt_cmpR op_gt (pe_callB call_len (by rfl) T.n_len (by decide +kernel) (pa_cons (pv 1) pa_nil)) (C8.pe_gc (v := .int 20) (by rfl) (c_most T)) (nomark _))
  (pss_one ps_dead)
  pss_nil)
  (pss_one (ps_ret (pe_callTy call_tuple_of (by rfl) T.n_tuple (by decide +kernel) (pa_cons (pv 1) pa_nil))))))), ?_⟩
    refine ⟨_, rfl, le_line (by simp), fun tp htp => allocN htp fun H1 s1 l1 => ?_⟩
    have hp1 := hp.ext s1
    obtain ⟨t, ht, tt⟩ := SqA.ty hp1
    have cls : Paired ClsV [.ty "list", .ty "tuple"] [.type "list", .type "tuple"] := .cons (.ty _) (.cons (.ty _) .nil)
    have kk : PySem.W.kitAny K (.type t) [.type "list", .type "tuple"] = some true := by
      rcases tt with rfl | rfl
      · exact kitAny_cons (kitq (show kitB "list" "list" = some true by decide +kernel)) (fun z => nomatch z) (fun _ => rfl)
      · exact kitAny_cons (kitq (show kitB "tuple" "list" = some false by decide +kernel)) (fun _ => kitAny_cons (kitq (show kitB "tuple" "tuple" = some true by decide +kernel)) (fun z => nomatch z) (fun _ => rfl)) (fun z => nomatch z)
    refine ⟨_, tp, _, .type t, _, true, rfl, l1, cls, ht, kk, true, rfl, ite2 (fun z => absurd z (by decide)) (fun _ => ?_)⟩
    have hx1 := DtL.same s1 _ _ hx
    have lx := DtL.length hx1
    rw [List.length_map] at lx
    rcases hp1 with hl | hl
    · refine .inl ⟨_, rfl, _, rfl, p, xs, rfl, SqL.of hl, fun r hr1 => ?_⟩
      rw [show (20 : Int) = ((20 : Nat) : Int) from rfl, cutV_whole (by omega)]
      refine allocN hr1 fun H2 s2 l2 => ⟨r, _, rfl, SqL.of l2, ?_⟩
      refine for_it (walk_enum (xs := xs)) (fun i σ H' => (∃ x2 x3, σ = [some (.str (tx cols)), some (.ref p), x2, x3]) ∧ Same H2 H') ⟨⟨_, _, rfl⟩, Same.refl _⟩ (fun i σ H' _ z => SqL.of (z.2 _ _ l2)) ?_ ?_
      · rintro i x σ H3 H3' hi ⟨⟨x2, x3, rfl⟩, s3⟩ ⟨Tp, a0, y, rfl, hT, rfl, e1, e2⟩
        refine allocN hT fun H4 s4 l4 => ?_
        obtain ⟨dd, h1, h2⟩ := DtL.at_ hx1 e2
        obtain ⟨t0, ht0, rfl⟩ := map_get h1
        refine ⟨Tp, _, rfl, SqT.of l4, rfl, _, _, rfl, _, _, rfl, rfl, _, rfl, _, rfl, cols, y, tieD t0, rfl, small, Dt.same ((s2.trans s3).trans s4) _ _ h2, fun H5 s5 => ⟨_, rfl, ?_⟩⟩
        rw [ok t0 (List.mem_of_getElem? ht0)]
        exact ite2 (fun z => absurd z (by decide)) (fun _ => ⟨⟨_, _, rfl⟩, (s3.trans s4).trans s5⟩)
      · rintro σ H3 ⟨⟨x2, x3, rfl⟩, s3⟩
        refine ⟨_, rfl, _, xs.length, rfl, .inl ⟨_, SqL.of (s3 _ _ (s2 _ _ hl)), rfl⟩, _, _, rfl, rfl, _, rfl, ite2 (fun z => absurd (of_decide_eq_true z) (by omega)) (fun _ => ?_)⟩
        refine ⟨_, rfl, p, xs, rfl, .inl ⟨SqL.of (s3 _ _ (s2 _ _ hl)), fun l nl => allocN nl fun H4 s4 l4 => q H4 l (((s1.trans s2).trans s3).trans s4) (SqT.of l4)⟩⟩
    · refine .inr ⟨_, rfl, _, rfl, p, xs, rfl, hl, fun _ => ⟨p, _, rfl, hl, ?_⟩, fun z => absurd (sIx_whole (k := 20) (by omega)) z⟩
      refine for_it (walk_enumT (xs := xs)) (fun i σ H' => (∃ x2 x3, σ = [some (.str (tx cols)), some (.ref p), x2, x3]) ∧ Same H1 H') ⟨⟨_, _, rfl⟩, Same.refl _⟩ (fun i σ H' _ z => hl.ext z.2) ?_ ?_
      · rintro i x σ H3 H3' hi ⟨⟨x2, x3, rfl⟩, s3⟩ ⟨Tp, a0, y, rfl, hT, rfl, e1, e2⟩
        refine allocN hT fun H4 s4 l4 => ?_
        obtain ⟨dd, h1, h2⟩ := DtL.at_ hx1 e2
        obtain ⟨t0, ht0, rfl⟩ := map_get h1
        refine ⟨Tp, _, rfl, SqT.of l4, rfl, _, _, rfl, _, _, rfl, rfl, _, rfl, _, rfl, cols, y, tieD t0, rfl, small, Dt.same (s3.trans s4) _ _ h2, fun H5 s5 => ⟨_, rfl, ?_⟩⟩
        rw [ok t0 (List.mem_of_getElem? ht0)]
        exact ite2 (fun z => absurd z (by decide)) (fun _ => ⟨⟨_, _, rfl⟩, (s3.trans s4).trans s5⟩)
      · rintro σ H3 ⟨⟨x2, x3, rfl⟩, s3⟩
        refine ⟨_, rfl, _, xs.length, rfl, .inr ⟨_, hl.ext s3, rfl⟩, _, _, rfl, rfl, _, rfl, ite2 (fun z => absurd (of_decide_eq_true z) (by omega)) (fun _ => ?_)⟩
        refine ⟨_, rfl, p, xs, rfl, .inr ⟨hl.ext s3, q H3 p (s1.trans s3) (hl.ext s3)⟩⟩
end
end G04
set_option Elab.async false
set_option linter.all false
set_option maxRecDepth 100000
set_option maxHeartbeats 4000000

namespace G04
open PySem PySem.Spec PyProof.Rows L2 Mw LamX
section
variable {P : Program} {w : World} {K : PySem.W.Frag} {mg : Str → Option Value} {base : Heap}
def tabs (K : PySem.W.Frag) : List (Addr × Str) := [((He.cT K pA).2, qLam "_all_closed")]
theorem hup (T : Txt K mg) : ∀ p ∈ tabs K, p.1 = (He.cT K pA).2 → p.2 = qLam "_all_closed" := by
  intro p hp _
  rw [List.mem_singleton.mp hp]
theorem ok_all_closed (T : Txt K mg) (TB : TabB base mg (He.cT K pA).1 (He.cT K pA).2) : FnOk P w K mg base CX0 3 (He.ga K "_all_closed") (fdOf K (He.ga K "_all_closed")) ["columns", "dependences"] (spAllClosed K (tabs K)) := by
  have G_all_sets : FnOk P w K mg base CX0 1 (He.ga K "_all_sets") (fdOf K (He.ga K "_all_sets")) ["letters"] spAllSets := ok_all_sets T
  have G_is_closed : FnOk P w K mg base CX0 2 (He.ga K "_is_closed") (fdOf K (He.ga K "_is_closed")) ["columns", "dependences", "letters"] (spIsClosed K) := ok_is_closed T
  refine fnOk_ofT T.f_all_closed sc_all_closed (fun vs H Q E h => ?_) (fun A outer s H vs Q E hr h => ?_)
  · obtain ⟨_, _, _, _, rfl, _⟩ := h
    rfl
  · obtain ⟨cols, p, xs, ts, rfl, small, hp, hx, lt, l9, tb, q⟩ := h
    refine ⟨_, PSs.nox (pss_cons (ps_setLc (i := 2) (own := [("one", 3)]) rfl sc_all_closed.nd rfl rfl (sw_true rfl rfl rfl (by decide +kernel)) (pi_list (pe_call G_all_sets (hr.mono (by decide)) rfl T.g_all_sets T.f_all_sets.kp (b_all_sets T) .nil pass0 (pa_cons (pe_op op_add_str (pv 0) (C8.pe_gc (v := .str (tx [114])) (by rfl) (c_row T))) pa_nil))) (blkOk_by (N := N_all_closed) (sc := defScope s_all_closed) (by decide +kernel)) (fun _ _ _ _ _ => (pg_name (i := 3) sc_all_closed.nd rfl (.inl rfl))) (fun _ _ _ _ _ => (pts_one (pt_val (pe_call G_is_closed (hr.mono (by decide)) rfl T.g_is_closed T.f_is_closed.kp (b_is_closed T) .nil pass0 (pa_cons (pv 0) (pa_cons (pv 1) (pa_cons (pv 3) pa_nil))))))) (fun _ _ _ _ _ => (pv 3)))
  (pss_one (ps_ret (pe_callTy call_tuple_of (by rfl) T.n_tuple (by decide +kernel) (pa_cons (pe_sortLam (T := tabs K) (hr.mono (by decide)) (by rfl) T.n_sorted T.n_len TB rfl List.mem_cons_self (hup T) (by rfl) ⟨rfl, rfl, rfl, by decide +kernel, by decide +kernel, rfl, rfl, fun _ _ _ _ _ _ _ => rfl, rfl, rfl⟩ (pv 2)) pa_nil))))), ?_⟩
    have l5 : (cols ++ [114]).length ≤ 5 := by
      rw [List.length_append]
      show cols.length + 1 ≤ 5
      omega
    have hpow := pow_le l5
    refine ⟨_, rfl, _, _, rfl, rfl, ?_, cols ++ [114], ?_, l5, fun p0 H0 np s0 l0 => ⟨p0, rfl, ⟨_, SqL.of l0⟩, fun D hD => ?_⟩⟩
    · show (tx cols).length + (tx [114]).length ≤ _
      rw [tx_len, tx_len]
      exact le_line (by simp; omega)
    · rw [← tx_app]
      rfl
    refine lc_it walk_list (fun j H2 => Same H0 H2 ∧ H2 D = some (.lst ((((pow (cols ++ [114])).take j).filter (isCl cols ts)).map setV))) ⟨same_upd hD, upd_same⟩ (fun _ _ _ z => SqL.of (z.1 _ _ l0)) ?_ ?_
    · rintro j y H2 H2' hj ⟨s2, l2⟩ ⟨rfl, hy⟩
      obtain ⟨s, hs, rfl⟩ := map_get hy
      have hp2 := sqt_same (K := K) hp (s0.trans s2)
      have hj2 : j < (pow (cols ++ [114])).length := by
        rw [List.length_map] at hj
        exact hj
      refine ⟨rfl, _, rfl, _, rfl, _, rfl, cols, p, xs, ts, s, rfl, by omega, hp2, DtL.same (s0.trans s2) _ _ hx, by omega, l9, fun H3 s3 => ⟨_, rfl, ?_⟩⟩
      rw [take_one hs]
      cases w : isCl cols ts s with
      | false =>
        refine ite2 (fun z => absurd z (by decide)) (fun _ => ⟨s2.trans s3, ?_⟩)
        rw [if_neg (by decide), List.append_nil]
        exact s3 _ _ l2
      | true =>
        refine ite2 (fun _ => ⟨_, rfl, _, s3 _ _ l2, ?_, same_into hD (s2.trans s3), ?_⟩) (fun z => absurd rfl z)
        · rw [List.length_map]
          refine small1000 (Nat.le_trans (List.length_filter_le _ _) ?_)
          rw [List.length_take]
          omega
        · rw [upd_same, if_pos rfl, List.map_append]
          rfl
    · rintro H2 ⟨s2, l2⟩
      rw [take_all (by rw [List.length_map]; exact Nat.le_refl _)] at l2
      have s3 := s0.trans s2
      have e1 : ((pow (cols ++ [114])).filter (isCl cols ts)).map setV = (((pow (cols ++ [114])).filter (isCl cols ts)).map tx).map V.str := by
        rw [List.map_map]
        rfl
      rw [e1] at l2
      refine ⟨_, rfl, D, _, rfl, tb.ext s3, ?_, fun y hy => ?_, fun H3 e3 t3 => ⟨SqL.of (e3 _ _ l2 fun _ y => nomatch y), fun p1 hp1 => ?_⟩⟩
      · rw [List.length_map]
        exact Nat.le_trans (List.length_filter_le _ _) (by omega)
      · obtain ⟨s, hs, rfl⟩ := List.mem_map.mp hy
        have z := pow_item l5 (List.mem_filter.mp hs).1
        rw [tx_len]
        omega
      · refine allocN hp1 fun H4 s4 l4 => ⟨p1, _, rfl, .inl ⟨SqL.of l4, fun l hl => allocN hl fun H5 s5 l5 => ?_⟩⟩
        exact q H5 l (((ExtN.of s3).trans e3).trans (ExtN.of (s4.trans s5))) (t3.ext (s4.trans s5)) (SqT.of l5)
end
end G04
set_option Elab.async false
set_option linter.all false
set_option maxRecDepth 100000
set_option maxHeartbeats 4000000

namespace G04
open PySem PySem.Spec PyProof.Rows L2 Mw LamX
section
variable {P : Program} {w : World} {K : PySem.W.Frag} {mg : Str → Option Value} {base : Heap}
theorem T_cls (T : Txt K mg) : OwnC K (He.ga K "Scheme") ∧ OwnEq K (He.ga K "Scheme") (He.ma K (He.ga K "Scheme") "__eq__") := by
  have z : faCls K = true := T.more faCls (by simp [faX])
  obtain ⟨h1, h2⟩ := He.ba z
  exact ⟨ownCB_ok h1, ownEqB_ok h2⟩
theorem T_dfl (T : Txt K mg) (H : Hp) : SqT K H (dfA K ("Scheme", some "__init__")) [] := tup0B_ok (T.more faDfl (by simp [faX])) H
theorem T_mk (T : Txt K mg) : Mk K (He.ga K "Scheme") (He.ma K (He.ga K "Scheme") "__init__") ∧ (NoAttr K (He.ga K "Scheme") "_columns" ∧ NoAttr K (He.ga K "Scheme") "_dependences" ∧ NoAttr K (He.ga K "Scheme") "_closed") ∧ He.Fa.ok K (.meth "Scheme" "closed_sets") = true := by
  have z : faMk K = true := T.more faMk (by simp [faX])
  obtain ⟨h1, z⟩ := He.ba z
  obtain ⟨h2, z⟩ := He.ba z
  obtain ⟨h3, z⟩ := He.ba z
  obtain ⟨h4, h5⟩ := He.ba z
  exact ⟨He.mkr_ok h1, ⟨He.noat_ok h2, He.noat_ok h3, He.noat_ok h4⟩, h5⟩
theorem ok_closed_sets (T : Txt K mg) : FnOk P w K mg base CX0 1 (He.fAd K ("Scheme", some "closed_sets")) (fdOf K (He.fAd K ("Scheme", some "closed_sets"))) ["self"] (spClosedSets K (He.ga K "Scheme")) := by
  refine T.f_Scheme_closed_sets.ok sc_Scheme_closed_sets (fun vs H Q E h => ?_) (fun cdv A outer s H vs Q E hr h => ?_)
  · obtain ⟨_, _, _, rfl, _⟩ := h
    rfl
  · obtain ⟨a, cols, ts, rfl, ⟨dx, q1, q2, ha, hq, _⟩, q⟩ := h
    refine ⟨_, PSs.nox (pss_one (ps_ret (pe_callTy call_list_of (by rfl) T.n_list (by decide +kernel) (pa_cons (L2.pe_fld (f := "_closed") (pv 0) (by rfl)) pa_nil)))), ?_⟩
    have NA := (T_mk T).2.1
    refine ⟨_, rfl, a, _, dx, _, _, rfl, ha, (T_cls T).1.is.cl, NA.2.2, rfl, q2, _, rfl, .inr hq, fun l hl => allocN hl fun H1 s1 l1 => q l H1 hl s1 l1⟩
theorem ok_Scheme_eq (T : Txt K mg) : FnOk P w K mg base CX0 1 (He.fAd K ("Scheme", some "__eq__")) (fdOf K (He.fAd K ("Scheme", some "__eq__"))) ["self", "other"] (spEq K (He.ga K "Scheme")) := by
  refine T.f_Scheme_eq.ok sc_Scheme_eq (fun vs H Q E h => ?_) (fun cdv A outer s H vs Q E hr h => ?_)
  · obtain ⟨_, _, _, _, rfl, _⟩ := h
    rfl
  · obtain ⟨a, y, cols, ts, rfl, ⟨dx, q1, q2, ha, hq, l4, l2⟩, q⟩ := h
    have C := T_cls T
    have NA := (T_mk T).2.1
    refine ⟨_, PSs.nox (pss_one (ps_ret (pe_and (pe_callB call_isi (by rfl) T.n_isinstance (by decide +kernel) (pa_cons (pv 1) (pa_cons (pe_glob (v := .ref (He.ga K "Scheme")) (by rfl) T.g_Scheme rfl) pa_nil))) (pe_and (pe_cmpR op_eq (L2.pe_fld (f := "_columns") (pv 0) (by rfl)) (L2.pe_fld (f := "_columns") (pv 1) (by rfl)) (nomark _)) (pe_one (pe_cmpR (op_eqD hr.units) (L2.pe_fld (f := "_closed") (pv 0) (by rfl)) (L2.pe_fld (f := "_closed") (pv 1) (by rfl)) (nomark _))))))), ?_⟩
    rcases q with ⟨b, dols, us, rfl, ⟨dy, r1, r2, hb, hr2, m4, m2⟩, q⟩ | ⟨dd, hd, q⟩
    · refine ⟨_, rfl, .ref b, .ref (He.ga K "Scheme"), _, .ref (He.ga K "Scheme"), true, rfl, .own _, .base (.ins hb C.1.is.cl C.1.is.ha C.1.is.hn C.1.is.htk C.1.is.hm), C.1.is.me, _, rfl, iteT ?_⟩
      refine ⟨_, rfl, a, _, dx, _, _, rfl, ha, C.1.is.cl, NA.1, rfl, _, rfl, b, _, dy, _, _, rfl, hb, C.1.is.cl, NA.1, rfl, rfl, _, rfl, ?_⟩
      have e1 : decide (V.str (tx cols) = V.str (tx dols)) = decide (cols = dols) := strv_dec (tx cols) dols |>.trans (decide_eq_decide.mpr ⟨fun z => z.symm, fun z => z.symm⟩)
      rw [e1]
      cases e2 : decide (cols = dols) with
      | false =>
        rw [e2] at q
        exact ite2 (fun z => absurd z (by decide)) (fun _ => q)
      | true =>
        rw [e2] at q
        refine ite2 (fun _ => ?_) (fun z => absurd rfl z)
        refine ⟨_, rfl, a, _, dx, _, _, rfl, ha, C.1.is.cl, NA.2.2, rfl, _, rfl, b, _, dy, _, _, rfl, hb, C.1.is.cl, NA.2.2, rfl, .tuple ((closedOf cols ts).map .str), .tuple ((closedOf dols us).map .str), .tup hq (dp_texts _), .tup hr2 (dp_texts _), shaped_texts _ (closed_lay l2), shaped_texts _ (closed_lay m2), ?_⟩
        have e3 : PyData.eqv (.tuple ((closedOf cols ts).map .str)) (.tuple ((closedOf dols us).map .str)) = decide (closedOf cols ts = closedOf dols us) := eqv_texts _ _
        rw [e3]
        exact q
    · refine ⟨_, rfl, y, .ref (He.ga K "Scheme"), _, .ref (He.ga K "Scheme"), false, rfl, .own _, Dt.ty hd, (C.1.no _ (tyN_mem dd)).1, _, rfl, ite2 (fun z => absurd z (by decide)) (fun _ => q)⟩
theorem ok_Scheme_init (T : Txt K mg) (TB : TabB base mg (He.cT K pA).1 (He.cT K pA).2) : FnOk P w K mg base CX0 5 (He.fAd K ("Scheme", some "__init__")) (fdOf K (He.fAd K ("Scheme", some "__init__"))) ["self", "columns", "dependences"] (spInit K (tabs K) (He.ga K "Scheme")) := by
  have G_is_columns : FnOk P w K mg base CX0 2 (He.ga K "is_columns") (fdOf K (He.ga K "is_columns")) ["given"] spIsCols := ok_is_columns T
  have G_checked_dependences : FnOk P w K mg base CX0 4 (He.ga K "_checked_dependences") (fdOf K (He.ga K "_checked_dependences")) ["columns", "dependences"] (spChk K) := ok_checked_dependences T
  have G_all_closed : FnOk P w K mg base CX0 3 (He.ga K "_all_closed") (fdOf K (He.ga K "_all_closed")) ["columns", "dependences"] (spAllClosed K (tabs K)) := ok_all_closed T TB
  refine T.f_Scheme_init.ok sc_Scheme_init (fun vs H Q E h => ?_) (fun cdv A outer s H vs Q E hr h => ?_)
  · obtain ⟨_, _, _, _, _, _, rfl, _⟩ := h
    rfl
  · obtain ⟨x, dx, p, cols, xs, ts, rfl, hx, ok, l4, l2, hp, ht, lt, ld, tb, q⟩ := h
    have C := T_cls T
    have NA := (T_mk T).2.1
    refine ⟨_, PSs.nox (pss_cons (ps_if (pt_not (pt_val (pe_call G_is_columns (hr.mono (by decide)) rfl T.g_is_columns T.f_is_columns.kp (b_is_columns T) .nil pass0 (pa_cons (pv 1) pa_nil))))
  (pss_one ps_dead)
  pss_nil)
  (pss_cons (ps_fld (pv 0) (pv 1) (by rfl))
  (pss_cons (ps_fld (pv 0) (pe_call G_checked_dependences (hr.mono (by decide)) rfl T.g_checked_dependences T.f_checked_dependences.kp (b_checked_dependences T) .nil pass0 (pa_cons (pv 1) (pa_cons (pv 2) pa_nil))) (by rfl))
  (pss_one (ps_fld (pv 0) (pe_call G_all_closed (hr.mono (by decide)) rfl T.g_all_closed T.f_all_closed.kp (b_all_closed T) .nil pass0 (pa_cons (L2.pe_fld (f := "_columns") (pv 0) (by rfl)) (pa_cons (L2.pe_fld (f := "_dependences") (pv 0) (by rfl)) pa_nil))) (by rfl)))))), ?_⟩
    have sx := same_del (H := H) (x := x)
    refine ⟨_, rfl, _, .str (tx cols), rfl, by simp only [Dt], fun H1 s1 => ?_⟩
    rw [ok]
    refine ⟨_, rfl, ite2 (fun z => absurd z (by decide)) (fun _ => ?_)⟩
    have x1 := s1 _ _ hx
    have g1 : Same (del H x) H1 := sx.trans s1
    refine ⟨_, rfl, _, rfl, x, _, dx, [], rfl, x1, C.1.is.cl, NA.1, by decide, ?_⟩
    refine fld_put (K := K) x1 fun H2 x2 a2 b2 c2 d2 => ?_
    have g2 := a2 _ del_same g1
    refine ⟨_, rfl, _, rfl, cols, p, xs, ts, rfl, by omega, hp.ext g2, DtL.same g2 _ _ ht, lt, fun t h => (ld t h).1, fun H3 q1 s3 hq1 => ?_⟩
    have x3 := s3 _ _ x2
    refine ⟨_, rfl, x, _, dx, _, rfl, x3, C.1.is.cl, NA.2.1, Nat.lt_of_le_of_lt (Nat.le_of_eq (rfl : _ = 1)) (by decide), ?_⟩
    refine fld_put (K := K) x3 fun H4 x4 a4 b4 c4 d4 => ?_
    have g4 := a4 _ del_same (g2.trans s3)
    refine ⟨_, rfl, x, _, dx, _, _, rfl, x4, C.1.is.cl, NA.1, rfl, _, rfl, x, _, dx, _, _, rfl, x4, C.1.is.cl, NA.2.1, rfl, cols, q1, xs, ts, rfl, l4, c4 _ _ hq1, DtL.same g4 _ _ ht, lt, fun t h => (ld t h).2, tb.ext g4, fun H5 q2 e5 t5 hq2 => ?_⟩
    have x5 := e5 _ _ x4 fun _ z => nomatch z
    refine ⟨_, rfl, x, _, dx, _, rfl, x5, C.1.is.cl, NA.2.2, Nat.lt_of_le_of_lt (Nat.le_of_eq (rfl : _ = 2)) (by decide), ?_⟩
    refine fld_put (K := K) x5 fun H6 x6 a6 b6 c6 d6 => ?_
    exact q H6 (b6 _ del_same ((ExtN.of g4).trans e5)) (d6 _ t5) ⟨dx, q1, q2, x6, c6 _ _ hq2, l4, l2⟩
end
end G04
set_option Elab.async false
set_option linter.all false
set_option maxRecDepth 100000
set_option maxHeartbeats 4000000

namespace G04
open PySem PySem.Spec PyProof.Rows L2 Mw LamX
def spColumns : Sp := fun vs H Q _ => ∃ (d W C : Addr) (n : Nat), vs = [.ref d, .int 4] ∧ Drw H d W C (n + 5) ∧ ∀ (c : List Nat) (H' : Hp), ColOk c → Drw H' d W C n → Sd d W H H' → Q (.str (tx c)) H'
def spLetters : Sp := fun vs H Q _ => ∃ (d W C : Addr) (n : Nat) (l : List Nat), vs = [.ref d, .str (tx l)] ∧ l.length ≤ 5 ∧ Drw H d W C (n + 5) ∧ ∀ (s : List Nat) (H' : Hp), s.Sublist l → Drw H' d W C n → Sd d W H H' → Q (.str (tx s)) H'
def spLawWithin : Sp := fun vs H Q _ => ∃ (a b : List Nat), vs = [.str (tx a), .str (tx b)] ∧ a.length ≤ 900 ∧ ∀ H', Same H H' → Q (.bl (within a b)) H'
section
variable {P : Program} {w : World} {K : PySem.W.Frag} {mg : Str → Option Value} {base : Heap}
theorem ok_columns (T : Txt K mg) : FnOk P w K mg base CX0 3 (He.ga K "_law_columns") (fdOf K (He.ga K "_law_columns")) ["draw", "most"] spColumns := by
  have G_law_take : FnOk P w K mg base CX0 2 (He.ga K "_law_take") (fdOf K (He.ga K "_law_take")) ["draw", "size"] spTake := ok_take T
  refine T.f_law_columns.ok sc_law_columns (fun vs H Q E h => ?_) (fun cdv A outer s H vs Q E hr h => ?_)
  · obtain ⟨_, _, _, _, rfl, _⟩ := h
    rfl
  · obtain ⟨d, W, C, n, rfl, D, q⟩ := h
    refine ⟨_, PSs.nox (pss_cons (ps_par (i := 2) (j := 3) rfl sc_law_columns.nd rfl rfl (by decide) rfl rfl (pa_cons (pe_callTy (cr_listText rfl) (by rfl) T.n_list (by decide +kernel) (pa_cons pe_str pa_nil)) (pa_cons (pe_op op_add pe_int (pe_call G_law_take (hr.mono (by decide)) rfl T.g_law_take T.f_law_take.kp (b_law_take T) .nil pass0 (pa_cons (pv 0) (pa_cons (pv 1) pa_nil)))) pa_nil)) (by rfl))
  (pss_cons (ps_while PassesOwn.never (pt_cmpR op_gt (pe_callB call_len (by rfl) T.n_len (by decide +kernel) (pa_cons (pv 2) pa_nil)) (pv 3) (nomark _))
  (pss_one (ps_expr (pe_bm PySem.F.plainAttrs_list PySem.F.slot_list_pop PySem.F.type_list_pop mt_popAt (pv 2) (pa_cons (pe_call G_law_take (hr.mono (by decide)) rfl T.g_law_take T.f_law_take.kp (b_law_take T) .nil pass0 (pa_cons (pv 0) (pa_cons (pe_callB call_len (by rfl) T.n_len (by decide +kernel) (pa_cons (pv 2) pa_nil)) pa_nil))) pa_nil)))))
  (pss_one (ps_ret (pe_join pe_str (pv 2)))))), ?_⟩
    refine ⟨abcd, rfl, by decide, fun L hL => ?_⟩
    have o3 := D.own hL
    refine ⟨_, rfl, _, rfl, d, W, C, n + 4, 4, rfl, D.put o3 _, by decide, by decide, fun i H1 i0 i1 D1 sd1 => ?_⟩
    have l1 := sd1.own o3 upd_same
    have sd0 := (Sd.put (o := .lst (abcd.map oneV)) (Sd.refl (d := d) (W := W) H) hL).trans sd1
    refine ⟨_, _, rfl, rfl, _, _, rfl, ?_⟩
    refine ⟨fun m σ H' => ∃ l : List Nat, σ = [some (.ref d), some (.int 4), some (.ref L), some (.int (1 + i))] ∧ m = l.length ∧ l.Sublist abcd ∧ (1 : Int) + i ≤ l.length ∧ Drw H' d W C (n + l.length) ∧ Sd d W H H' ∧ H' L = some (.lst (l.map oneV)), ⟨4, abcd, rfl, rfl, List.Sublist.refl _, by show 1 + i ≤ 4; omega, D1, sd0, l1⟩, ?_⟩
    rintro m σ H2 ⟨l, rfl, rfl, ls, li, D2, sd2, l2⟩
    have l4 : l.length ≤ 4 := ls.length_le
    have len : LenV K (.ref L) H2 l.length := .inl ⟨_, SqL.of l2, (List.length_map _).symm⟩
    refine ⟨_, rfl, _, l.length, rfl, len, _, rfl, _, _, rfl, rfl, _, rfl, ite2 (fun z => ?_) (fun z => ?_)⟩
    · have z2 : 1 + i < l.length := of_decide_eq_true z
      refine ⟨fun σ' H' => ∃ l' : List Nat, l'.length + 1 = l.length ∧ σ' = [some (.ref d), some (.int 4), some (.ref L), some (.int (1 + i))] ∧ l'.Sublist abcd ∧ Drw H' d W C (n + l'.length) ∧ Sd d W H H' ∧ H' L = some (.lst (l'.map oneV)), ?_, ?_⟩
      · rintro σ' H' ⟨l', e, rfl, a1, a2, a3, a4⟩
        exact ⟨l'.length, by omega, l', rfl, rfl, a1, by omega, a2, a3, a4⟩
      · refine ⟨_, rfl, .inl ⟨rfl, _, SqL.of l2⟩, _, rfl, _, rfl, _, l.length, rfl, len, d, W, C, n + (l.length - 1), _, rfl, D2.mono (by omega), by omega, log_small (by omega), fun k H3 k0 k1 D3 sd3 => ?_⟩
        have hk : k.toNat < l.length := by omega
        have l3 := sd3.own o3 l2
        refine ⟨L, l.map oneV, k, k.toNat, oneV (l[k.toNat]), rfl, rfl, l3, by omega, by omega, seq_ix k0 (by rw [List.length_map]; omega), ?_, l.eraseIdx k.toNat, ?_, rfl, ?_, ?_, Sd.put (sd2.trans sd3) hL, ?_⟩
        · rw [List.getElem?_map, List.getElem?_eq_getElem hk]
          rfl
        · rw [List.length_eraseIdx_of_lt hk]
          omega
        · exact (List.eraseIdx_sublist _ _).trans ls
        · rw [List.length_eraseIdx_of_lt hk]
          exact D3.put o3 _
        · rw [upd_same, erase_map]
    · refine ⟨⟨_, rfl⟩, _, rfl, _, L, l.map fun c => tx [c], rfl, rfl, .inl (SqL.of ?_), ?_, ?_⟩
      · rw [l2, List.map_map]
        rfl
      · have z := ones_len l
        show _ + _ * (tx []).length ≤ 16777216
        omega
      · show Q (.str (Txt.join (tx []) _)) H2
        rw [ones_join]
        refine q l H2 ⟨fun e => ?_, filter_sub (by decide) ls⟩ (D2.mono (by omega)) sd2
        rw [e] at li
        have : (1 : Int) + i ≤ 0 := li
        omega
theorem ok_letters (T : Txt K mg) : FnOk P w K mg base CX0 3 (He.ga K "_law_letters") (fdOf K (He.ga K "_law_letters")) ["draw", "some"] spLetters := by
  have G_law_take : FnOk P w K mg base CX0 2 (He.ga K "_law_take") (fdOf K (He.ga K "_law_take")) ["draw", "size"] spTake := ok_take T
  refine T.f_law_letters.ok sc_law_letters (fun vs H Q E h => ?_) (fun cdv A outer s H vs Q E hr h => ?_)
  · obtain ⟨_, _, _, _, _, rfl, _⟩ := h
    rfl
  · obtain ⟨d, W, C, n, l, rfl, l5, D, q⟩ := h
    refine ⟨_, PSs.nox (pss_one (ps_ret (pe_join pe_str (pe_lc (own := [("one", 2)]) rfl sc_law_letters.nd (pi_str (pv 1)) (blkOk_by (N := N_law_letters) (sc := defScope s_law_letters) (by decide +kernel)) (fun _ _ _ _ _ => (pg_name (i := 2) sc_law_letters.nd rfl (.inl rfl))) (fun _ _ _ _ _ => (pts_one (pt_cmpR op_eq (pe_call G_law_take (hr.mono (by decide)) rfl T.g_law_take T.f_law_take.kp (b_law_take T) .nil pass0 (pa_cons (pv 0) (pa_cons pe_int pa_nil))) pe_int (nomark _)))) (fun _ _ _ _ _ => (pv 2)))))), ?_⟩
    refine ⟨⟨_, rfl⟩, _, rfl, _, rfl, fun L hL => ?_⟩
    have o3 := D.own hL
    refine lc_it walk_str (fun i H' => ∃ s : List Nat, s.Sublist (l.take i) ∧ s.length ≤ i ∧ Drw H' d W C (n + 5 - i) ∧ Sd d W H H' ∧ H' L = some (.lst (s.map oneV))) ⟨[], List.nil_sublist _, Nat.le_refl _, D.put o3 _, Sd.put (Sd.refl _) hL, upd_same⟩ (fun _ _ _ _ => trivial) ?_ ?_
    · rintro i x H1 H1' hi ⟨s, ss, sl, D1, sd, l1⟩ ⟨rfl, c, hc, rfl⟩
      have hc2 := cps_get hc
      have hi2 : i < l.length := (List.getElem?_eq_some_iff.mp hc2).1
      refine ⟨rfl, _, rfl, d, W, C, n + 4 - i, 2, rfl, ?_, by decide, by decide, fun k H2 k0 k1 D2 sd2 => ⟨rfl, _, rfl, ?_⟩⟩
      · exact D1.mono (by omega)
      have l2 := sd2.own o3 l1
      have e5 : n + 5 - (i + 1) = n + 4 - i := by omega
      rw [e5]
      refine ite2 (fun _ => ⟨_, rfl, _, l2, ?_, s ++ [c], ?_, ?_, D2.put o3 _, Sd.put (sd.trans sd2) hL, ?_⟩) (fun _ => ⟨s, ?_, by omega, D2, sd.trans sd2, l2⟩)
      · rw [List.length_map]
        exact small1000 (by omega)
      · rw [ls_take hc2]
        exact ss.append (List.Sublist.refl [c])
      · rw [List.length_append]
        show s.length + 1 ≤ i + 1
        omega
      · rw [upd_same, List.map_append]
        rfl
      · exact ss.trans (by rw [ls_take hc2]; exact List.sublist_append_left _ _)
    · rintro H1 ⟨s, ss, sl, D1, sd, l1⟩
      rw [take_all (by rw [tx_size]; exact Nat.le_refl _)] at ss
      rw [tx_size] at D1
      refine ⟨_, L, s.map fun c => tx [c], rfl, rfl, .inl (SqL.of ?_), ?_, ?_⟩
      · rw [l1, List.map_map]
        rfl
      · have z := ones_len s
        have y := ss.length_le
        show _ + _ * (tx []).length ≤ 16777216
        omega
      · show Q (.str (Txt.join (tx []) _)) H1
        rw [ones_join]
        exact q s H1 ss (D1.mono (by omega)) sd
theorem ok_law_within (T : Txt K mg) : FnOk P w K mg base CX0 1 (He.ga K "_law_is_within") (fdOf K (He.ga K "_law_is_within")) ["one", "other"] spLawWithin := by
  refine T.f_law_is_within.ok sc_law_is_within (fun vs H Q E h => ?_) (fun cdv A outer s H vs Q E hr h => ?_)
  · obtain ⟨_, _, rfl, _⟩ := h
    rfl
  · obtain ⟨a, b, rfl, small, q⟩ := h
    refine ⟨_, PSs.nox (pss_one (ps_ret (pe_cmpR (op_eqNil hr.units) (pe_lc (own := [("letter", 2)]) rfl sc_law_is_within.nd (pi_str (pv 0)) (blkOk_by (N := N_law_is_within) (sc := defScope s_law_is_within) (by decide +kernel)) (fun _ _ _ _ _ => (pg_name (i := 2) sc_law_is_within.nd rfl (.inl rfl))) (fun _ _ _ _ _ => (pts_one (pt_cmpR op_notIn_sign (pv 2) (pv 1) (by rfl)))) (fun _ _ _ _ _ => (pv 2))) (pe_lst pa_nil) (nomark _)))), ?_⟩
    refine ⟨_, rfl, _, rfl, fun D hD => ?_⟩
    refine lc_it walk_str (fun i H' => Same H H' ∧ H' D = some (.lst (((a.take i).filter (fun c => !decide (c ∈ b))).map oneV))) ⟨same_upd hD, upd_same⟩ (fun _ _ _ _ => trivial) ?_ ?_
    · rintro i x H1 H1' hi ⟨s1, ha⟩ ⟨rfl, c, hc, rfl⟩
      have hc2 := cps_get hc
      have hi2 : i < a.length := (List.getElem?_eq_some_iff.mp hc2).1
      refine ⟨rfl, _, rfl, _, rfl, c, tx b, rfl, rfl, _, rfl, ?_⟩
      rw [take_one hc2]
      refine ite2 (fun z => ⟨_, rfl, _, ha, ?_, same_into hD s1, ?_⟩) (fun z => ⟨s1, ?_⟩)
      · rw [List.length_map]
        refine small1000 (Nat.le_trans (List.length_filter_le _ _) ?_)
        rw [List.length_take]
        omega
      · have z2 : (!decide (c ∈ b)) = true := z
        rw [upd_same, if_pos z2, List.map_append]
        rfl
      · have z2 : ¬ (!decide (c ∈ b)) = true := z
        rw [if_neg z2, List.append_nil]
        exact ha
    · rintro H1 ⟨s1, ha⟩
      rw [take_all (by rw [tx_size]; exact Nat.le_refl _)] at ha
      refine ⟨le_line (by simp), fun L hL => allocN hL fun H2 s2 l2 => ⟨D, L, _, rfl, rfl, SqL.of (s2 _ _ ha), SqL.of l2, ?_⟩⟩
      have e : within a b = ((a.filter (fun c => !decide (c ∈ b))).map oneV).isEmpty := by
        rw [Bool.eq_iff_iff, List.isEmpty_iff, List.map_eq_nil_iff, List.filter_eq_nil_iff, within_iff]
        exact ⟨fun h c hc => by simp [h c hc], fun h c hc => by simpa using h c hc⟩
      rw [← e]
      exact q H2 (s1.trans s2)
end
end G04
set_option Elab.async false
set_option linter.all false
set_option maxRecDepth 100000
set_option maxHeartbeats 4000000

namespace G04
open PySem PySem.Spec PyProof.Rows L2 Mw LamX
section
variable {P : Program} {w : World} {K : PySem.W.Frag} {mg : Str → Option Value} {base : Heap}
theorem ok_drawn (T : Txt K mg) : FnOk P w K mg base CX0 4 (He.ga K "_law_drawn") (fdOf K (He.ga K "_law_drawn")) ["draw", "most", "ties"] spDrawn8 := by
  have G_law_take : FnOk P w K mg base CX0 2 (He.ga K "_law_take") (fdOf K (He.ga K "_law_take")) ["draw", "size"] spTake := ok_take T
  have G_law_pick : FnOk P w K mg base CX0 3 (He.ga K "_law_pick") (fdOf K (He.ga K "_law_pick")) ["draw", "some"] spPick := ok_pick T
  have G_law_columns : FnOk P w K mg base CX0 3 (He.ga K "_law_columns") (fdOf K (He.ga K "_law_columns")) ["draw", "most"] spColumns := ok_columns T
  have G_law_letters : FnOk P w K mg base CX0 3 (He.ga K "_law_letters") (fdOf K (He.ga K "_law_letters")) ["draw", "some"] spLetters := ok_letters T
  refine T.f_law_drawn.ok sc_law_drawn (fun vs H Q E h => ?_) (fun cdv A outer s H vs Q E hr h => ?_)
  · obtain ⟨_, _, _, _, _, rfl, _⟩ := h
    rfl
  · obtain ⟨d, W, C, n, k, rfl, k5, D, q⟩ := h
    refine ⟨_, PSs.nox (pss_cons (ps_par (i := 3) (j := 4) rfl sc_law_drawn.nd rfl rfl (by decide) rfl rfl (pa_cons (pe_call G_law_columns (hr.mono (by decide)) rfl T.g_law_columns T.f_law_columns.kp (b_law_columns T) .nil pass0 (pa_cons (pv 0) (pa_cons (pv 1) pa_nil))) (pa_cons (pe_lst pa_nil) pa_nil)) (by rfl))
  (pss_cons (ps_for PassesOwn.never rfl (pi_range1 (by rfl) T.n_range (pa_cons (pe_call G_law_pick (hr.mono (by decide)) rfl T.g_law_pick T.f_law_pick.kp (b_law_pick T) .nil pass0 (pa_cons (pv 0) (pa_cons (pe_lst (pa_cons pe_int (pa_cons pe_int (pa_cons pe_int (pa_cons pe_int (pa_cons (pe_call G_law_take (hr.mono (by decide)) rfl T.g_law_take T.f_law_take.kp (b_law_take T) .nil pass0 (pa_cons (pv 0) (pa_cons (pe_op op_add (pv 2) pe_int) pa_nil))) pa_nil)))))) pa_nil))) pa_nil)) (pg_name (i := 5) sc_law_drawn.nd rfl (.inl rfl))
  (pss_cons (ps_set (i := 6) sc_law_drawn.nd rfl (.inl rfl) (pe_call G_law_letters (hr.mono (by decide)) rfl T.g_law_letters T.f_law_letters.kp (b_law_letters T) .nil pass0 (pa_cons (pv 0) (pa_cons (pe_op op_add_str (pv 3) pe_str) pa_nil))))
  (pss_cons (ps_if (PW.pt (pw_and (pt_cmpR op_eq (pv 6) pe_str (nomark _)) (pw_and1 (pt_cmpR op_gt (pe_call G_law_take (hr.mono (by decide)) rfl T.g_law_take T.f_law_take.kp (b_law_take T) .nil pass0 (pa_cons (pv 0) (pa_cons pe_int pa_nil))) pe_int (nomark _)))))
  (pss_one (ps_set (i := 6) sc_law_drawn.nd rfl (.inl rfl) (pe_call G_law_pick (hr.mono (by decide)) rfl T.g_law_pick T.f_law_pick.kp (b_law_pick T) .nil pass0 (pa_cons (pv 0) (pa_cons (pe_callTy (cr_listText rfl) (by rfl) T.n_list (by decide +kernel) (pa_cons (pv 3) pa_nil)) pa_nil)))))
  pss_nil)
  (pss_one (ps_expr (pe_bm PySem.F.plainAttrs_list PySem.F.slot_list_append PySem.F.type_list_append mt_append (pv 4) (pa_cons (pe_tup (pa_cons (pv 6) (pa_cons (pe_call G_law_pick (hr.mono (by decide)) rfl T.g_law_pick T.f_law_pick.kp (b_law_pick T) .nil pass0 (pa_cons (pv 0) (pa_cons (pe_callTy (cr_listText rfl) (by rfl) T.n_list (by decide +kernel) (pa_cons (pe_op op_add_str (pv 3) pe_str) pa_nil)) pa_nil))) pa_nil))) pa_nil)))))))
  (pss_one (ps_ret (pe_tup (pa_cons (pv 3) (pa_cons (pe_callTy call_tuple_of (by rfl) T.n_tuple (by decide +kernel) (pa_cons (pe_slice sl_list (pv 4) po_none (po_some (pv 2))) pa_nil)) pa_nil))))))), ?_⟩
    refine ⟨_, rfl, _, rfl, d, W, C, n + 95, rfl, D, fun cols H1 col D1 sd1 => ⟨le_line (by simp), fun F hF => ?_⟩⟩
    have oF := D1.own hF
    have hF0 := sd1.back oF hF
    have sd1F : Sd d W H (upd H1 F (.lst [])) := sd1.put hF0
    have D1F := D1.put oF (.lst [])
    have lF : (upd H1 F (.lst [])) F = some (.lst []) := upd_same
    revert sd1F D1F lF
    generalize upd H1 F (.lst []) = H1F
    intro sd1F D1F lF
    refine ⟨_, _, rfl, ?_⟩
    refine ⟨_, rfl, _, rfl, _, rfl, _, _, rfl, rfl, d, W, C, n + 94, (k : Int) + 1, rfl, D1F, by omega, ?_, fun i H2 i0 i1 D2 sd2 => ⟨le_line (by simp), fun L hL => ?_⟩⟩
    · exact log_small (n := k + 1) (by omega)
    have oL := D2.own hL
    have lF2 := sd2.own oF lF
    have nFL : F ≠ L := ne_of_none lF2 hL
    refine ⟨d, W, C, n + 93, L, _, rfl, D2.put oL _, own_hid oL upd_same, by simp, by simp, fun j x H3 hx D3 sd3 => ?_⟩
    have hx2 : ∃ z : Nat, z ≤ 8 ∧ x = .int (z : Nat) := by
      rcases j with _ | _ | _ | _ | _ | j
      · exact ⟨0, by decide, (Option.some.inj hx).symm⟩
      · exact ⟨0, by decide, (Option.some.inj hx).symm⟩
      · exact ⟨1, by decide, (Option.some.inj hx).symm⟩
      · exact ⟨2, by decide, (Option.some.inj hx).symm⟩
      · have e : x = .int i := (Option.some.inj hx).symm
        have e2 : i = ((i.toNat : Nat) : Int) := by omega
        exact ⟨i.toNat, by omega, by rw [e, ← e2]⟩
      · cases hx
    obtain ⟨z, z5, rfl⟩ := hx2
    have lF3 := sd3.own oF (show upd H2 L _ F = some (.lst []) by rw [upd_ne nFL]; exact lF2)
    have hL0 : H L = none := (sd1F.trans sd2).back oL hL
    have sdA : Sd d W H H3 := ((sd1F.trans sd2).put hL0).trans sd3
    refine ⟨_, rfl, by omega, by omega, ?_⟩
    have z0 : ((z : Nat) : Int).toNat = z := Int.toNat_natCast z
    rw [z0]
    refine for_it walk_range (fun i σ H' => ∃ (ts : List Tie) (xs : List V) (x5 x6 : Option V), σ = [some (.ref d), some (.int 4), some (.int (k : Int)), some (.str (tx cols)), some (.ref F), x5, x6] ∧ ts.length ≤ i ∧ (∀ t ∈ ts, TieOk cols t) ∧ DtL (Gd d W F H') (ts.map tieD) xs ∧ Drw H' d W C (n + 93 - 8 * i) ∧ Sd d W H H' ∧ H' F = some (.lst xs))
      ⟨[], [], _, _, rfl, Nat.le_refl _, fun _ y => (nomatch y), .nil, D3, sdA, lF3⟩ (fun _ _ _ _ _ => trivial) ?_ ?_
    · rintro i x σ H4 H4' hi ⟨ts, xs, x5, x6, rfl, tl, ok, dx, D4, sd4, l4⟩ ⟨rfl, rfl⟩
      have lc := col_len col
      refine ⟨_, rfl, _, rfl, _, _, rfl, rfl, ?_, d, W, C, n + 88 - 8 * i, cols ++ [114], by rw [r_app]; rfl, by simp; omega, D4.mono (by omega), fun lo H5 sub D5 sd5 => ?_⟩
      · show (tx cols).length + 1 ≤ _
        rw [tx_len]
        exact le_line (by omega)
      have ylo := set_of_sub col sub
      have dx5 := DtL.same (Gd.sd (F := F) sd5) _ _ dx
      have l5 := sd5.own oF l4
      have sdB := sd4.trans sd5
      dsimp only [gName]
      refine seq_gen (fun σ' H' => ∃ lo : List Nat, σ' = [some (.ref d), some (.int 4), some (.int (k : Int)), some (.str (tx cols)), some (.ref F), some (.int (0 + i)), some (.str (tx lo))] ∧ SetOk cols lo ∧ DtL (Gd d W F H') (ts.map tieD) xs ∧ Drw H' d W C (n + 86 - 8 * i) ∧ Sd d W H H' ∧ H' F = some (.lst xs)) ?_ ?_
      · rintro σ' H6 ⟨lo, rfl, slo, dx6, D6, sd6, l6⟩
        have D6a := D6
        refine ⟨_, rfl, .inl ⟨rfl, _, SqL.of l6⟩, _, rfl, _, rfl, _, rfl, _, _, rfl, rfl, ?_, cols ++ [114], (by rw [r_app]; try rfl), (by simp; try omega), fun L2 hL2 => ?_⟩
        · show (tx cols).length + 1 ≤ _
          rw [tx_len]
          exact le_line (by omega)
        have o2 := D6.own hL2
        refine ⟨d, W, C, n + 85 - 8 * i, L2, _, rfl, (D6.put o2 _).mono (by omega), own_hid o2 upd_same, by simp, (by simp; try omega), fun j x H7 hx D7 sd7 => ⟨le_line (by simp), fun p hp => ?_⟩⟩
        obtain ⟨c, hc, rfl⟩ := map_get hx
        have oP := D7.own hp
        have sdX : Sd d W H6 (upd H7 p (.tup [.str (tx lo), .str (tx [c])])) := ((Sd.new hL2).trans sd7).trans (Sd.new hp)
        have l7 : H7 F = some (.lst xs) := sd7.own oF (by rw [upd_ne (ne_of_none l6 hL2)]; exact l6)
        have nFp : F ≠ p := ne_of_none l7 hp
        have lx := DtL.length dx6
        rw [List.length_map] at lx
        refine ⟨F, xs, .ref p, rfl, rfl, (by rw [upd_ne nFp]; exact l7), small1000 (by omega), ts ++ [(lo, c)], xs ++ [.ref p], _, _, rfl, ?_, ?_, ?_, ?_, (sd6.trans sdX).put hF0, upd_same⟩
        · rw [List.length_append]
          show ts.length + 1 ≤ i + 1
          omega
        · intro t ht
          rcases List.mem_append.mp ht with ht | ht
          · exact ok t ht
          · rw [List.mem_singleton.mp ht]
            exact ⟨slo, List.mem_of_getElem? hc⟩
        · rw [Gd.put oF, List.map_append]
          have t1 : Dt (Gd d W F (upd H7 p (.tup [.str (tx lo), .str (tx [c])]))) (tieD (lo, c)) (.ref p) := tie_of (Gd.at_ oP nFp.symm upd_same)
          exact DtL.snoc t1 (DtL.same (Gd.sd (F := F) sdX) _ _ dx6)
        · exact ((D7.put oP _).put oF _).mono (by omega)
      · intro X hX
        have e0 : X [some (.ref d), some (.int 4), some (.int (k : Int)), some (.str (tx cols)), some (.ref F), some (.int (0 + i)), some (.str (tx lo))] H5 := hX _ _ ⟨lo, rfl, ylo, dx5, D5.mono (by omega), sdB, l5⟩
        refine ⟨_, rfl, rfl, _, rfl, ite2 (fun _ => ?_) (fun _ => ?_)⟩
        · refine ⟨_, rfl, d, W, C, n + 87 - 8 * i, 4, rfl, D5.mono (by omega), by decide, by decide, fun r H6 r0 r1 D6 sd6 => ?_⟩
          have l6 := sd6.own oF l5
          have dx6 := DtL.same (Gd.sd (F := F) sd6) _ _ dx5
          refine ⟨_, _, rfl, rfl, _, rfl, ite2 (fun _ => ?_) (fun _ => hX _ _ ⟨lo, rfl, ylo, dx6, D6.mono (by omega), sdB.trans sd6, l6⟩)⟩
          refine ⟨_, rfl, _, rfl, cols, rfl, by omega, fun L2 hL2 => ?_⟩
          have o2 := D6.own hL2
          have hpos : 0 < cols.length := List.length_pos_iff.mpr col.1
          refine ⟨d, W, C, n + 86 - 8 * i, L2, _, rfl, (D6.put o2 _).mono (by omega), own_hid o2 upd_same, by rw [List.length_map]; exact hpos, by rw [List.length_map]; omega, fun j x H7 hx D7 sd7 => ?_⟩
          obtain ⟨c, hc, rfl⟩ := map_get hx
          have sdX : Sd d W H6 H7 := (Sd.new hL2).trans sd7
          have l7 : H7 F = some (.lst xs) := sd7.own oF (by rw [upd_ne (ne_of_none l6 hL2)]; exact l6)
          refine hX _ _ ⟨[c], rfl, set_of_sub col ?_, DtL.same (Gd.sd (F := F) sdX) _ _ dx6, D7, (sdB.trans sd6).trans sdX, l7⟩
          exact (List.singleton_sublist.mpr (List.mem_of_getElem? hc)).trans (List.sublist_append_left _ _)
        · exact e0
    · rintro σ H4 ⟨ts, xs, x5, x6, rfl, tl, ok, dx, D4, sd4, l4⟩
      have lx := DtL.length dx
      rw [List.length_map] at lx
      refine ⟨_, rfl, _, rfl, _, rfl, _, rfl, F, xs, rfl, SqL.of l4, fun S hS => ?_⟩
      rw [cutV_take]
      refine ⟨S, _, rfl, .inl ⟨SqL.of upd_same, fun l hl => ⟨le_line (by simp), fun p hp => ?_⟩⟩⟩
      have oS := D4.own hS
      have D5 := D4.put oS (.lst (xs.take k))
      have ol := D5.own hl
      have D6 := D5.put ol (.tup (xs.take k))
      have op := D6.own hp
      have sdX := ((Sd.new (d := d) (W := W) (o := .lst (xs.take k)) hS).trans (Sd.new (o := .tup (xs.take k)) hl)).trans (Sd.new (o := .tup [.str (tx cols), .ref l]) hp)
      refine q cols (ts.take k) (.ref p) _ ⟨col, fun t ht => ok t (List.mem_of_mem_take ht)⟩ (List.length_take_le _ _) ((D6.put op _).mono (by omega)) (sd4.trans sdX) (plan_of (xs := xs.take k) (own_hid op upd_same) (own_hid ol ?_) ?_)
      · rw [upd_ne (fun e => by rw [e, upd_same] at hp; cases hp), upd_same]
      · rw [List.map_take]
        exact DtL.take k (DtL.same sdX _ _ (DtL.same Gd.sub _ _ dx))
end
end G04
set_option Elab.async false
set_option linter.all false
set_option maxRecDepth 100000
set_option maxHeartbeats 4000000

namespace G04
open PySem PySem.Spec PyProof.Rows L2 Mw LamX
section
variable {P : Program} {w : World} {K : PySem.W.Frag} {mg : Str → Option Value} {base : Heap}
theorem ok_closure (T : Txt K mg) : FnOk P w K mg base CX0 2 (He.ga K "_law_closure") (fdOf K (He.ga K "_law_closure")) ["plan", "some"] spClosure := by
  have G_law_is_within : FnOk P w K mg base CX0 1 (He.ga K "_law_is_within") (fdOf K (He.ga K "_law_is_within")) ["one", "other"] spLawWithin := ok_law_within T
  refine T.f_law_closure.ok sc_law_closure (fun vs H Q E h => ?_) (fun cdv A outer s H vs Q E hr h => ?_)
  · obtain ⟨_, _, _, _, rfl, _⟩ := h
    rfl
  · obtain ⟨v, cols, ts, s0, rfl, hd, pk, hin, s5, t20, q⟩ := h
    refine ⟨_, PSs.nox (pss_cons (ps_asg (pv 0) (pg_tup (by rfl) (pgs_cons (pg_name (i := 2) sc_law_closure.nd rfl (.inl rfl)) (pgs_cons (pg_name (i := 3) sc_law_closure.nd rfl (.inl rfl)) pgs_nil))))
  (pss_cons (ps_set (i := 4) sc_law_closure.nd rfl (.inl rfl) (pv 1))
  (pss_cons (ps_for PassesOwn.never rfl (pi_range1 (by rfl) T.n_range (pa_cons (pe_op op_add (pe_callB call_len (by rfl) T.n_len (by decide +kernel) (pa_cons (pv 2) pa_nil)) pe_int) pa_nil)) (pg_name (i := 5) sc_law_closure.nd rfl (.inl rfl))
  (pss_cons (ps_set (i := 4) sc_law_closure.nd rfl (.inl rfl) (pe_op op_add_str (pv 4) (pe_op op_mulText (pv 2) (pe_callTy call_int1 (by rfl) T.n_int (by decide +kernel) (pa_cons (pe_cmpR op_in_sign pe_str (pv 4) (by rfl)) pa_nil)))))
  (pss_cons (ps_for PassesOwn.never rfl (pi_tup (pv 3)) (pg_tup (by rfl) (pgs_cons (pg_name (i := 6) sc_law_closure.nd rfl (.inl rfl)) (pgs_cons (pg_name (i := 7) sc_law_closure.nd rfl (.inl rfl)) pgs_nil)))
  (pss_one (ps_set (i := 4) sc_law_closure.nd rfl (.inl rfl) (pe_op op_add_str (pv 4) (pe_op op_mulText (pv 7) (pe_callTy call_int1 (by rfl) T.n_int (by decide +kernel) (pa_cons (pe_call G_law_is_within (hr.mono (by decide)) rfl T.g_law_is_within T.f_law_is_within.kp (b_law_is_within T) .nil pass0 (pa_cons (pv 6) (pa_cons (pv 4) pa_nil))) pa_nil)))))))
  (pss_one (ps_set (i := 4) sc_law_closure.nd rfl (.inl rfl) (pe_join pe_str (pe_callB (cr_sortText rfl) (by rfl) T.n_sorted (by decide +kernel) (pa_cons (pe_callTy (cr_setText rfl) (by rfl) T.n_set (by decide +kernel) (pa_cons (pv 4) pa_nil)) pa_nil))))))))
  (pss_one (ps_ret (pv 4)))))), ?_⟩
    obtain ⟨p, q0, xs, rfl, hp, hq, hx⟩ := plan_at hd
    have lc := col_len pk.col
    have lx := DtL.length hx
    rw [List.length_map] at lx
    refine ⟨_, rfl, p, _, rfl, SqT.of hp, rfl, _, _, rfl, _, _, rfl, rfl, ?_⟩
    refine ⟨_, rfl, _, rfl, _, cols.length, rfl, ⟨le_line (by rw [tx_len]; omega), (tx_len cols).symm⟩, _, _, rfl, rfl, _, rfl, by omega, by omega, ?_⟩
    have z0 : ((cols.length : Int) + 2).toNat = cols.length + 2 := by omega
    rw [z0]
    refine for_it walk_range (fun i σ H' => ∃ x5 x6 x7 : Option V, σ = [some (.ref p), some (.str (tx s0)), some (.str (tx cols)), some (.ref q0), some (.str (tx (clo cols ts s0 i))), x5, x6, x7] ∧ Same H H') ⟨_, _, _, rfl, Same.refl _⟩ (fun _ _ _ _ _ => trivial) ?_ ?_
    · rintro i x σ H1 H1' hi ⟨x5, x6, x7, rfl, s1⟩ ⟨rfl, rfl⟩
      have lf := clo_len (cols := cols) (ts := ts) s5 i
      have inf := clo_in (cols := cols) (ts := ts) hin i
      generalize hf : clo cols ts s0 i = f at lf inf
      refine ⟨_, rfl, _, rfl, _, rfl, 114, tx f, rfl, rfl, .inr ⟨_, rfl, cols, _, rfl, rfl, _, _, rfl, rfl, ?_, ?_⟩⟩
      · rw [tx_len, tx_len]
        refine le_line ?_
        split <;> (try simp) <;> omega
      · rw [tx_app]
        have gin : InL (f ++ if decide (114 ∈ f) = true then cols else []) := by
          intro c hc
          rcases List.mem_append.mp hc with hc | hc
          · exact inf c hc
          · split at hc
            · exact (col_sub pk.col).subset hc |> fun z => by
                have : ∀ c ∈ abcd, c ∈ allL := by decide
                exact this c z
            · cases hc
        have gl : (f ++ if decide (114 ∈ f) = true then cols else []).length ≤ 9 := by
          rw [List.length_append]
          split <;> (try simp) <;> omega
        have eg : rnd cols ts f = srtL (ts.foldl tieStep (f ++ if decide (114 ∈ f) = true then cols else [])) := rfl
        have ec : clo cols ts s0 (i + 1) = rnd cols ts f := by
          show rnd cols ts (clo cols ts s0 i) = _
          rw [hf]
        show gName 4 (V.str (tx (f ++ if decide (114 ∈ f) = true then cols else []))) _ H1' _
        revert gin gl eg
        generalize (f ++ if decide (114 ∈ f) = true then cols else []) = g
        intro gin gl eg
        refine ⟨_, rfl, q0, rfl, ⟨_, SqT.of (s1 _ _ hq)⟩, ?_⟩
        refine for_it (walk_tup (xs := xs)) (fun j σ H' => ∃ x6 x7 : Option V, σ = [some (.ref p), some (.str (tx s0)), some (.str (tx cols)), some (.ref q0), some (.str (tx ((ts.take j).foldl tieStep g))), some (.int (0 + i)), x6, x7] ∧ Same H H') ⟨_, _, rfl, s1⟩ (fun _ _ _ _ z => by obtain ⟨_, _, _, z⟩ := z; exact SqT.of (z _ _ hq)) ?_ ?_
        · rintro j x σ H2 H2' hj ⟨x6, x7, rfl, s2⟩ ⟨rfl, hxj⟩
          obtain ⟨t, a, ht, rfl, ha⟩ := dtl_get hx hxj
          have fl := steps_len (ts.take j) g
          have tj : (ts.take j).length ≤ 20 := Nat.le_trans (List.length_take_le _ _) (by omega)
          have e1 : (ts.take (j + 1)).foldl tieStep g = tieStep ((ts.take j).foldl tieStep g) t := by
            rw [ls_take ht, List.foldl_append]
            rfl
          rw [e1]
          have tl := (set_len pk.col (pk.tie t (List.mem_of_getElem? ht)).lo)
          refine ⟨a, _, rfl, SqT.of (s2 _ _ ha), rfl, _, _, rfl, _, _, rfl, rfl, ?_⟩
          generalize (ts.take j).foldl tieStep g = g2 at fl
          refine ⟨_, rfl, _, rfl, _, rfl, _, rfl, t.1, g2, rfl, by omega, fun H3 s3 => .inr ⟨_, rfl, [t.2], _, rfl, rfl, _, _, rfl, rfl, ?_, ?_⟩⟩
          · rw [tx_len, tx_len]
            refine le_line ?_
            split <;> (try simp) <;> omega
          · rw [tx_app]
            exact ⟨_, _, rfl, s2.trans s3⟩
        · rintro σ H2 ⟨x6, x7, rfl, s2⟩
          rw [take_all (by omega)]
          have fl := steps_len ts g
          have fin : InL (ts.foldl tieStep g) := steps_in (g := fun _ => True) ts g gin fun t ht _ => (colr_sub pk.col).subset (pk.tie t ht).le
          rw [ec, eg]
          generalize ts.foldl tieStep g = g2 at fl fin
          refine ⟨⟨_, rfl⟩, _, rfl, tx g2, rfl, ?_, fun S ks nS met nd kl => ⟨S, ks, rfl, upd_same, ?_, fun L ss nL pm st => ?_⟩⟩
          · rw [tx_size]
            show g2.length + 1 < 4096
            omega
          · rw [tx_size] at kl
            omega
          · have es := sorted_met (l := g2) fin met nd pm st
            subst es
            have sl := srt_len g2
            refine ⟨_, L, (srtL g2).map sg, rfl, rfl, .inl (SqL.of upd_same), ?_, ?_⟩
            · have z := ones_len (srtL g2)
              rw [sg_ones]
              show _ + _ * (tx []).length ≤ 16777216
              omega
            · rw [sg_ones]
              have e2 : Txt.join (Str.ofString "") ((srtL g2).map fun c => tx [c]) = tx (srtL g2) := ones_join _
              rw [e2]
              exact ⟨_, _, _, rfl, s2.trans ((same_upd nS).trans (same_upd nL))⟩
    · rintro σ H1 ⟨x5, x6, x7, rfl, s1⟩
      exact ⟨_, rfl, q H1 s1⟩
end
end G04
set_option Elab.async false
set_option linter.all false
set_option maxRecDepth 100000
set_option maxHeartbeats 4000000

namespace G04
open PySem PySem.Spec PyProof.Rows L2 Mw LamX
section
variable {P : Program} {w : World} {K : PySem.W.Frag} {mg : Str → Option Value} {base : Heap}
theorem ok_law_sets (T : Txt K mg) : FnOk P w K mg base CX0 1 (He.ga K "_law_sets") (fdOf K (He.ga K "_law_sets")) ["columns"] spLawSets := by
  refine T.f_law_sets.ok sc_law_sets (fun vs H Q E h => ?_) (fun cdv A outer s H vs Q E hr h => ?_)
  · obtain ⟨_, rfl, _⟩ := h
    rfl
  · obtain ⟨cols, rfl, l4, q⟩ := h
    have l5 : (cols ++ [114]).length ≤ 5 := by
      rw [List.length_append]
      show cols.length + 1 ≤ 5
      omega
    refine ⟨_, PSs.nox (pss_cons (ps_set (i := 1) sc_law_sets.nd rfl (.inl rfl) (pe_lst (pa_cons pe_str pa_nil)))
  (pss_cons (ps_for PassesOwn.never rfl (pi_str (pe_op op_add_str (pv 0) pe_str)) (pg_name (i := 2) sc_law_sets.nd rfl (.inr rfl))
  (pss_one (ps_set (i := 1) sc_law_sets.nd rfl (.inl rfl) (pe_op op_cat (pv 1) (pe_lc (own := [("one", 3)]) (tt := tYes) rfl sc_law_sets.nd (pi_list (pv 1)) (blkOk_by (N := N_law_sets) (sc := defScope s_law_sets) (by decide +kernel)) (fun _ _ _ _ _ => (pg_name (i := 3) sc_law_sets.nd rfl (.inl rfl))) (fun _ _ _ _ _ => pts_nil) (fun _ _ _ _ _ => (pe_op op_add_str (pv 3) (pv 2))))))))
  (pss_one (ps_ret (pe_sortLen hr.units (by rfl) T.n_sorted (by rfl) T.n_len (pe_callB (cr_sortTexts hr.units) (by rfl) T.n_sorted (by decide +kernel) (pa_cons (pv 1) pa_nil))))))), ?_⟩
    refine ⟨le_line (by simp), fun p0 hp0 => allocN hp0 fun H0 s0 l0 => ?_⟩
    refine ⟨_, rfl, _, _, rfl, rfl, ?_, _, rfl, ?_⟩
    · show (tx cols).length + 1 ≤ _
      rw [tx_len]
      exact le_line (by omega)
    rw [r_app]
    generalize hl : cols ++ [114] = l at l5
    refine for_it walk_str (fun i σ H' => ∃ (f : Addr) (x2 x3 : Option V), σ = [some (.str (tx cols)), some (.ref f), x2, x3] ∧ H f = none ∧ Same H H' ∧ H' f = some (.lst ((pow (l.take i)).map setV))) ⟨p0, _, _, rfl, hp0, s0, l0⟩ (fun _ _ _ _ _ => trivial) ?_ ?_
    · rintro i x σ H1 H1' hi ⟨f, x2, x3, rfl, nf, s1, lf⟩ ⟨rfl, c, hc, rfl⟩
      have hc2 := cps_get hc
      have hi2 : i < l.length := (List.getElem?_eq_some_iff.mp hc2).1
      have lt : (l.take i).length ≤ 5 := Nat.le_trans (List.length_take_le _ _) (by omega)
      have pl := pow_le lt
      refine ⟨_, rfl, _, rfl, _, rfl, ⟨_, SqL.of lf⟩, fun D hD => ?_⟩
      have fD : f ≠ D := ne_of_none lf hD
      refine lc_it walk_list (fun j H2 => Same H1' H2 ∧ H2 D = some (.lst (((pow (l.take i)).take j).map fun s => setV (s ++ [c])))) ⟨same_upd hD, upd_same⟩ (fun _ _ _ z => SqL.of (z.1 _ _ lf)) ?_ ?_
      · rintro j y H2 H2' hj ⟨s2, l2⟩ ⟨rfl, hy⟩
        obtain ⟨s, hs, rfl⟩ := map_get hy
        have ls := pow_item lt (List.mem_of_getElem? hs)
        refine ⟨rfl, ?_⟩
        unfold tYes
        refine iteT ⟨_, rfl, _, rfl, _, _, rfl, rfl, ?_, _, l2, ?_, same_into hD s2, ?_⟩
        · show (tx s).length + (tx [c]).length ≤ _
          rw [tx_len, tx_len]
          exact le_line (by simp; omega)
        · rw [List.length_map, List.length_take]
          exact small1000 (by omega)
        · rw [upd_same, take_map hs]
          show some (HO.lst (_ ++ [V.str (tx s ++ tx [c])])) = _
          rw [tx_app]
          rfl
      · rintro H2 ⟨s2, l2⟩
        rw [List.length_map, List.take_length] at l2
        refine ⟨f, D, _, _, rfl, rfl, s2 _ _ lf, l2, ?_, fun p hp => allocN hp fun H3 s3 l3 => ?_⟩
        · rw [List.length_map, List.length_map]
          exact le_line (by omega)
        · refine ⟨p, _, _, rfl, none_of (s1.trans s2) hp, (s1.trans s2).trans s3, ?_⟩
          rw [l3, pow_mono hc2, List.map_append, List.map_map]
          rfl
    · rintro σ H1 ⟨f, x2, x3, rfl, nf, s1, lf⟩
      rw [take_all (by rw [tx_size]; exact Nat.le_refl _)] at lf
      have e1 : (pow l).map setV = ((pow l).map tx).map V.str := by
        rw [List.map_map]
        rfl
      rw [e1] at lf
      have pl := pow_le l5
      have yl : ((pow l).map tx).length ≤ 1000 := by
        rw [List.length_map]
        omega
      refine ⟨_, rfl, f, _, rfl, SqL.of lf, yl, fun p1 hp1 => allocN hp1 fun H2 s2 l2 => ?_⟩
      refine ⟨p1, _, rfl, SqL.of l2, ?_, fun y hy => ?_, fun p2 hp2 => allocN hp2 fun H3 s3 l3 => ?_⟩
      · rw [List.length_mergeSort]
        exact yl
      · rw [List.mem_mergeSort] at hy
        obtain ⟨s, hs, rfl⟩ := List.mem_map.mp hy
        have z := pow_item l5 hs
        rw [tx_len]
        omega
      · refine q p2 H3 (none_of (s1.trans s2) hp2) ((s1.trans s2).trans s3) ?_
        rw [l3, ← hl]
        rfl
theorem ok_law_closed (T : Txt K mg) : FnOk P w K mg base CX0 3 (He.ga K "_law_closed") (fdOf K (He.ga K "_law_closed")) ["plan"] spLawClosed := by
  have G_law_sets : FnOk P w K mg base CX0 1 (He.ga K "_law_sets") (fdOf K (He.ga K "_law_sets")) ["columns"] spLawSets := ok_law_sets T
  have G_law_closure : FnOk P w K mg base CX0 2 (He.ga K "_law_closure") (fdOf K (He.ga K "_law_closure")) ["plan", "some"] spClosure := ok_closure T
  refine T.f_law_closed.ok sc_law_closed (fun vs H Q E h => ?_) (fun cdv A outer s H vs Q E hr h => ?_)
  · obtain ⟨_, _, _, rfl, _⟩ := h
    rfl
  · obtain ⟨v, cols, ts, rfl, hd, pk, t20, q⟩ := h
    refine ⟨_, PSs.nox (pss_one (ps_ret (pe_lc (own := [("one", 1)]) rfl sc_law_closed.nd (pi_list (pe_call G_law_sets (hr.mono (by decide)) rfl T.g_law_sets T.f_law_sets.kp (b_law_sets T) .nil pass0 (pa_cons (pe_ix ix_tup (pv 0) pe_int (fun _ _ => rfl)) pa_nil))) (blkOk_by (N := N_law_closed) (sc := defScope s_law_closed) (by decide +kernel)) (fun _ _ _ _ _ => (pg_name (i := 1) sc_law_closed.nd rfl (.inl rfl))) (fun _ _ _ _ _ => (pts_one (pt_cmpR op_eq (pe_call G_law_closure (hr.mono (by decide)) rfl T.g_law_closure T.f_law_closure.kp (b_law_closure T) .nil pass0 (pa_cons (pv 0) (pa_cons (pv 1) pa_nil))) (pv 1) (nomark _)))) (fun _ _ _ _ _ => (pv 1))))), ?_⟩
    obtain ⟨p, q0, xs, rfl, hp, hq, hx⟩ := plan_at hd
    have lc := col_len pk.col
    have l5 : (cols ++ [114]).length ≤ 5 := by
      rw [List.length_append]
      show cols.length + 1 ≤ 5
      omega
    refine ⟨_, rfl, p, _, 0, _, rfl, rfl, SqT.of hp, rfl, cols, rfl, lc, fun l H1 nl s1 l1 => ⟨l, rfl, ⟨_, SqL.of l1⟩, fun D hD => ?_⟩⟩
    refine lc_it walk_list (fun i H' => Same H1 H' ∧ H' D = some (.lst ((((lawSets cols).take i).filter (fun y => isCl cols ts y.cps.toList)).map V.str))) ⟨same_upd hD, upd_same⟩ (fun _ _ _ z => SqL.of (z.1 _ _ l1)) ?_ ?_
    · rintro i x H2 H2' hi ⟨s2, l2⟩ ⟨rfl, hx2⟩
      obtain ⟨y, hy, rfl⟩ := map_get hx2
      obtain ⟨s, hs, rfl⟩ := mem_sets.mp (List.mem_of_getElem? hy)
      have wr := set_wr pk.col (pow_set pk.col hs)
      have ls := pow_item l5 hs
      refine ⟨rfl, _, rfl, _, rfl, .ref p, cols, ts, s, rfl, Dt.same (s1.trans s2) _ _ hd, pk, wr.inL, ls, t20, fun H3 s3 => ⟨_, rfl, rfl, _, rfl, ?_⟩⟩
      have e1 : decide (V.str (tx (clo cols ts s (cols.length + 2))) = V.str (tx s)) = isCl cols ts s := by
        rw [strv_dec]
        have z := clo_fix (cols := cols) (ts := ts) wr (fun c hc => (colr_sub pk.col).subset (List.mem_append_left _ hc)) (fun t ht => (colr_sub pk.col).subset (pk.tie t ht).le) (cols.length + 1)
        rw [Bool.eq_iff_iff, decide_eq_true_eq, ← z]
        exact ⟨fun h => h.symm, fun h => h.symm⟩
      rw [e1, take_one hy]
      refine ite2 (fun z => ⟨_, rfl, _, s3 _ _ l2, ?_, same_into hD (s2.trans s3), ?_⟩) (fun z => ⟨s2.trans s3, ?_⟩)
      · rw [List.length_map]
        have ll : (lawSets cols).length ≤ 1000 := by
          have z := pow_le l5
          unfold lawSets
          rw [List.length_mergeSort, List.length_mergeSort, List.length_map]
          omega
        refine small1000 (Nat.le_trans (List.length_filter_le _ _) (Nat.le_trans (List.length_take_le _ _) ?_))
        have := (List.getElem?_eq_some_iff.mp hy).1
        omega
      · have z2 : isCl cols ts (tx s).cps.toList = true := z
        rw [upd_same, if_pos z2, List.map_append]
        rfl
      · have z2 : ¬ isCl cols ts (tx s).cps.toList = true := z
        rw [if_neg z2, List.append_nil]
        exact s3 _ _ l2
    · rintro H2 ⟨s2, l2⟩
      rw [take_all (by rw [List.length_map]; exact Nat.le_refl _)] at l2
      exact q D H2 (none_of s1 hD) (s1.trans s2) l2
end
end G04
set_option Elab.async false
set_option linter.all false
set_option maxRecDepth 100000
set_option maxHeartbeats 4000000

namespace G04
open PySem PySem.Spec PyProof.Rows L2 Mw LamX
section
variable {P : Program} {w : World} {K : PySem.W.Frag} {mg : Str → Option Value} {base : Heap}
theorem ok_shuffled (T : Txt K mg) : FnOk P w K mg base CX0 3 (He.ga K "_law_shuffled") (fdOf K (He.ga K "_law_shuffled")) ["draw", "some"] (spShuf K) := by
  have G_law_take : FnOk P w K mg base CX0 2 (He.ga K "_law_take") (fdOf K (He.ga K "_law_take")) ["draw", "size"] spTake := ok_take T
  refine T.f_law_shuffled.ok sc_law_shuffled (fun vs H Q E h => ?_) (fun cdv A outer s H vs Q E hr h => ?_)
  · obtain ⟨_, _, _, _, _, _, rfl, _⟩ := h
    rfl
  · obtain ⟨d, W, C, n, p, xs, rfl, hp, x9, D, q⟩ := h
    refine ⟨_, PSs.nox (pss_cons (ps_par (i := 2) (j := 3) rfl sc_law_shuffled.nd rfl rfl (by decide) rfl rfl (pa_cons (pe_callTy call_list_of (by rfl) T.n_list (by decide +kernel) (pa_cons (pv 1) pa_nil)) (pa_cons (pe_lst pa_nil) pa_nil)) (by rfl))
  (pss_cons (ps_while PassesOwn.never (pt_cmpR (op_neNil hr.units) (pv 2) (pe_lst pa_nil) (nomark _))
  (pss_one (ps_expr (pe_bm PySem.F.plainAttrs_list PySem.F.slot_list_append PySem.F.type_list_append mt_append (pv 3) (pa_cons (pe_bm PySem.F.plainAttrs_list PySem.F.slot_list_pop PySem.F.type_list_pop mt_popAt (pv 2) (pa_cons (pe_call G_law_take (hr.mono (by decide)) rfl T.g_law_take T.f_law_take.kp (b_law_take T) .nil pass0 (pa_cons (pv 0) (pa_cons (pe_callB call_len (by rfl) T.n_len (by decide +kernel) (pa_cons (pv 2) pa_nil)) pa_nil))) pa_nil)) pa_nil)))))
  (pss_one (ps_ret (pv 3))))), ?_⟩
    refine ⟨_, rfl, p, xs, rfl, .inl (SqL.of hp), fun L hL => ⟨le_line (by simp), fun F hF => ?_⟩⟩
    have oL := D.own hL
    have D1 := D.put oL (.lst xs)
    have oF := D1.own hF
    have nFL : F ≠ L := fun e => by
      rw [e, upd_same] at hF
      cases hF
    have hF0 : H F = none := by
      rw [upd_ne nFL] at hF
      exact hF
    have D2 := D1.put oF (.lst [])
    have sd2 : Sd d W H (upd (upd H L (.lst xs)) F (.lst [])) := ((Sd.refl H).put hL).put hF0
    have lL : (upd (upd H L (.lst xs)) F (.lst [])) L = some (.lst xs) := by rw [upd_ne nFL.symm, upd_same]
    have lF : (upd (upd H L (.lst xs)) F (.lst [])) F = some (.lst []) := upd_same
    revert D2 sd2 lL lF
    generalize upd (upd H L (.lst xs)) F (.lst []) = H2
    intro D2 sd2 lL lF
    refine ⟨_, _, rfl, ?_⟩
    refine ⟨fun m σ H' => ∃ l f : List V, σ = [some (.ref d), some (.ref p), some (.ref L), some (.ref F)] ∧ m = l.length ∧ (∀ y ∈ l, y ∈ xs) ∧ (∀ y ∈ f, y ∈ xs) ∧ l.length + f.length = xs.length ∧ Drw H' d W C (n + l.length) ∧ Sd d W H H' ∧ H' L = some (.lst l) ∧ H' F = some (.lst f), ⟨_, xs, [], rfl, rfl, fun _ z => z, fun _ z => (nomatch z), rfl, D2, sd2, lL, lF⟩, ?_⟩
    rintro m σ H3 ⟨l, f, rfl, rfl, il, jf, sm, D3, sd3, lL3, lF3⟩
    refine ⟨_, rfl, le_line (by simp), fun B hB => allocN hB fun H4 s4 l4 => ⟨L, B, l, rfl, rfl, SqL.of (s4 _ _ lL3), SqL.of l4, _, rfl, ite2 (fun z => ?_) (fun z => ?_)⟩⟩
    · have D4 := D3.same s4
      have lL4 := s4 _ _ lL3
      have lF4 := s4 _ _ lF3
      have hl0 : l ≠ [] := fun e => by
        rw [e] at z
        exact absurd z (by decide)
      have hpos : 0 < l.length := List.length_pos_iff.mpr hl0
      refine ⟨fun σ' H' => ∃ l' f' : List V, l'.length + 1 = l.length ∧ σ' = [some (.ref d), some (.ref p), some (.ref L), some (.ref F)] ∧ (∀ y ∈ l', y ∈ xs) ∧ (∀ y ∈ f', y ∈ xs) ∧ l'.length + f'.length = xs.length ∧ Drw H' d W C (n + l'.length) ∧ Sd d W H H' ∧ H' L = some (.lst l') ∧ H' F = some (.lst f'), ?_, ?_⟩
      · rintro σ' H' ⟨l', f', e, rfl, a1, a2, a3, a4, a5, a6, a7⟩
        exact ⟨l'.length, by omega, l', f', rfl, rfl, a1, a2, a3, a4, a5, a6, a7⟩
      · refine ⟨_, rfl, .inl ⟨rfl, _, SqL.of lF4⟩, _, rfl, .inl ⟨rfl, _, SqL.of lL4⟩, _, rfl, _, rfl, _, l.length, rfl, .inl ⟨_, SqL.of lL4, rfl⟩, d, W, C, n + (l.length - 1), _, rfl, D4.mono (by omega), by omega, log_small (by omega), fun k H5 k0 k1 D5 sd5 => ?_⟩
        have hk : k.toNat < l.length := by omega
        have lL5 := sd5.own oL lL4
        have lF5 := sd5.own oF lF4
        refine ⟨L, l, k, k.toNat, l[k.toNat], rfl, rfl, lL5, by omega, by omega, seq_ix k0 (by omega), List.getElem?_eq_getElem hk, F, f, _, rfl, rfl, by rw [upd_ne nFL]; exact lF5, small1000 (by omega), l.eraseIdx k.toNat, f ++ [l[k.toNat]], ?_, rfl, ?_, ?_, ?_, ?_, ?_, ?_, upd_same⟩
        · rw [List.length_eraseIdx_of_lt hk]
          omega
        · exact fun y hy => il y ((List.eraseIdx_sublist _ _).subset hy)
        · intro y hy
          rcases List.mem_append.mp hy with hy | hy
          · exact jf y hy
          · rw [List.mem_singleton.mp hy]
            exact il _ (List.getElem_mem hk)
        · rw [List.length_eraseIdx_of_lt hk, List.length_append]
          show l.length - 1 + (f.length + 1) = _
          omega
        · rw [List.length_eraseIdx_of_lt hk]
          exact (D5.put oL _).put oF _
        · exact (((sd3.trans (Sd.of s4)).trans sd5).put hL).put hF0
        · rw [upd_ne nFL.symm, upd_same]
    · have hl0 : l = [] := by
        cases l with
        | nil => rfl
        | cons _ _ => exact absurd rfl z
      subst hl0
      refine ⟨_, rfl, q F f H4 jf ?_ ((D3.same s4).mono (by omega)) (sd3.trans (Sd.of s4)) oF (s4 _ _ lF3)⟩
      have : 0 + f.length = xs.length := sm
      omega
end
end G04
set_option Elab.async false
set_option linter.all false
set_option maxRecDepth 100000
set_option maxHeartbeats 4000000
namespace G04
open PySem PySem.Spec PyProof.Rows L2 Mw

section
variable {P : Program} {w : World} {K : PySem.W.Frag} {mg : Str → Option Value} {base : Heap}
theorem ok_copied (T : Txt K mg) : ∀ n, FnOk P w K mg base CX0 n (He.ga K "_copied") (fdOf K (He.ga K "_copied")) ["value"] (spC n)
  | 0 => ⟨fun _ _ _ _ h => h.elim, fun _ _ _ _ _ _ _ _ _ _ _ _ _ h => h.elim⟩
  | n + 1 => by
    have G_copied := ok_copied T n
    refine T.f_copied.ok sc_copied (fun vs H Q E h => ?_) (fun cdv A outer s H vs Q E hr h => ?_)
    · obtain ⟨_, _, rfl, _⟩ := h
      rfl
    · obtain ⟨v, dd, rfl, hd, hc, q⟩ := h
      have hu := hu_of hr
      refine ⟨_, PSs.nox (pss_cons (ps_if (pt_val (pe_callB call_isi (by rfl) T.n_isinstance (by decide +kernel) (pa_cons (pv 0) (pa_cons (pe_bltn (v := .ty "list") (by rfl) T.n_list (by decide +kernel) rfl) pa_nil))))
  (pss_one (ps_ret (pe_lc (own := [("item", 1)]) (tt := tYes) rfl sc_copied.nd (pi_list (pv 0)) (blkOk_by (N := N_copied) (sc := defScope s_copied) (by decide +kernel)) (fun _ _ _ _ _ => (pg_name (i := 1) sc_copied.nd rfl (.inl rfl))) (fun _ _ _ _ _ => pts_nil) (fun _ _ _ _ _ => (pe_call G_copied hr rfl T.g_copied T.f_copied.kp (b_copied T) .nil pass0 (pa_cons (pv 1) pa_nil))))))
  pss_nil)
  (pss_cons (ps_if (pt_val (pe_callB call_isi (by rfl) T.n_isinstance (by decide +kernel) (pa_cons (pv 0) (pa_cons (pe_bltn (v := .ty "tuple") (by rfl) T.n_tuple (by decide +kernel) rfl) pa_nil))))
  (pss_one (ps_ret (pe_callTy call_tuple_of (by rfl) T.n_tuple (by decide +kernel) (pa_cons (pe_lc (own := [("item", 1)]) (tt := tYes) rfl sc_copied.nd (pi_tup (pv 0)) (blkOk_by (N := N_copied) (sc := defScope s_copied) (by decide +kernel)) (fun _ _ _ _ _ => (pg_name (i := 1) sc_copied.nd rfl (.inl rfl))) (fun _ _ _ _ _ => pts_nil) (fun _ _ _ _ _ => (pe_call G_copied hr rfl T.g_copied T.f_copied.kp (b_copied T) .nil pass0 (pa_cons (pv 1) pa_nil)))) pa_nil))))
  pss_nil)
  (pss_cons (ps_if (pt_val (pe_callB call_isi (by rfl) T.n_isinstance (by decide +kernel) (pa_cons (pv 0) (pa_cons (pe_bltn (v := .ty "dict") (by rfl) T.n_dict (by decide +kernel) rfl) pa_nil))))
  (pss_one (ps_ret (pe_lock (pe_dcP (Nat.lt_of_le_of_lt (Nat.le_add_right _ _) hu) (own := [("key", 2)]) (tt := tYes) rfl sc_copied.nd (pi_keys (pv 0)) (blkOk_by (N := N_copied) (sc := defScope s_copied) (by decide +kernel)) (fun _ _ _ _ _ => (pg_name (i := 2) sc_copied.nd rfl (.inl rfl))) (fun _ _ _ _ _ => pts_nil) (fun _ _ _ _ _ => (pv 2)) (fun _ _ _ _ _ => (pe_call G_copied hr rfl T.g_copied T.f_copied.kp (b_copied T) .nil pass0 (pa_cons (pe_dget hu (pv 0) (pv 2) (fun _ _ => rfl)) pa_nil)))))))
  pss_nil)
  (pss_one (ps_ret (pv 0)))))), ?_⟩
      cases dd with
      | list ds =>
        refine ⟨_, rfl, _, _, .type "list", _, true, rfl, .ty "list", hd.ty, kitq (show kitB "list" "list" = some true by decide +kernel), ?_⟩
        refine ⟨_, rfl, iteT ?_⟩
        cases n with
        | zero => cases hc
        | succ n =>
        simp only [cpB, Bool.and_eq_true, decide_eq_true_eq, List.all_eq_true] at hc
        obtain ⟨hz, hc⟩ := hc
        simp only [Dt] at hd
        obtain ⟨a, xs, rfl, ha, hx⟩ := hd
        have lx := DtL.length hx
        refine ⟨_, rfl, a, rfl, ⟨_, SqL.of ha⟩, fun D hD => lc_list (K := K) (a := a) (xs := xs) (fun i H' => Cpy H D ds i H') (Cpy.start hD) (fun i H' _ c => SqL.of (c.sm _ _ ha)) ?_ ?_⟩
        · intro i x H1 hi c
          obtain ⟨dd, e1, e2⟩ := DtL.at_ hx hi
          have il : i < xs.length := (List.getElem?_eq_some_iff.mp hi).1
          refine ⟨rfl, ?_⟩
          unfold tYes
          refine iteT ?_
          refine ⟨_, rfl, _, dd, rfl, Dt.same c.sm dd x e2, hc dd (List.mem_of_getElem? e1), fun v' H2 s2 d2 => ?_⟩
          obtain ⟨acc, h1, h2, h3⟩ := c.step hD e1 s2 d2
          exact ⟨acc, h1, small1000 (by omega), h3⟩
        · intro H1 c
          rw [lx] at c
          obtain ⟨acc, h1, h2⟩ := c.done hD
          refine q _ H1 c.sm ?_
          simp only [Dt]
          exact ⟨D, acc, rfl, by rw [Nw.at_ hD]; exact h1, h2⟩
      | tuple ds =>
        refine ⟨_, rfl, _, _, .type "tuple", _, false, rfl, .ty "list", hd.ty, kitq (show kitB "tuple" "list" = some false by decide +kernel), ?_⟩
        refine ⟨_, rfl, iteF ?_⟩
        refine ⟨_, rfl, _, _, .type "tuple", _, true, rfl, .ty "tuple", hd.ty, kitq (show kitB "tuple" "tuple" = some true by decide +kernel), ?_⟩
        refine ⟨_, rfl, iteT ?_⟩
        cases n with
        | zero => cases hc
        | succ n =>
        simp only [cpB, Bool.and_eq_true, decide_eq_true_eq, List.all_eq_true] at hc
        obtain ⟨hz, hc⟩ := hc
        simp only [Dt] at hd
        obtain ⟨a, xs, rfl, ha, hx⟩ := hd
        have lx := DtL.length hx
        refine ⟨_, rfl, a, rfl, ⟨_, SqT.of ha⟩, fun D hD => lc_tup (K := K) (a := a) (xs := xs) (fun i H' => Cpy H D ds i H') (Cpy.start hD) (fun i H' _ c => SqT.of (c.sm _ _ ha)) ?_ ?_⟩
        · intro i x H1 hi c
          obtain ⟨dd, e1, e2⟩ := DtL.at_ hx hi
          have il : i < xs.length := (List.getElem?_eq_some_iff.mp hi).1
          refine ⟨rfl, ?_⟩
          unfold tYes
          refine iteT ?_
          refine ⟨_, rfl, _, dd, rfl, Dt.same c.sm dd x e2, hc dd (List.mem_of_getElem? e1), fun v' H2 s2 d2 => ?_⟩
          obtain ⟨acc, h1, h2, h3⟩ := c.step hD e1 s2 d2
          exact ⟨acc, h1, small1000 (by omega), h3⟩
        · intro H1 c
          rw [lx] at c
          obtain ⟨acc, h1, h2⟩ := c.done hD
          refine ⟨D, acc, rfl, .inl ⟨SqL.of h1, fun l hl => ?_⟩⟩
          have hl0 : H l = none := none_of c.sm hl
          refine q _ _ (c.sm.trans (same_upd hl)) ?_
          simp only [Dt]
          refine ⟨l, acc, rfl, by rw [Nw.at_ hl0, upd_same], DtL.same (Nw.sub fun b o e1 e2 => ⟨e1, same_upd hl _ _ e2⟩) _ _ h2⟩
      | dict ds =>
        refine ⟨_, rfl, _, _, .type "dict", _, false, rfl, .ty "list", hd.ty, kitq (show kitB "dict" "list" = some false by decide +kernel), ?_⟩
        refine ⟨_, rfl, iteF ?_⟩
        refine ⟨_, rfl, _, _, .type "dict", _, false, rfl, .ty "tuple", hd.ty, kitq (show kitB "dict" "tuple" = some false by decide +kernel), ?_⟩
        refine ⟨_, rfl, iteF ?_⟩
        refine ⟨_, rfl, _, _, .type "dict", _, true, rfl, .ty "dict", hd.ty, kitq (show kitB "dict" "dict" = some true by decide +kernel), ?_⟩
        refine ⟨_, rfl, iteT ?_⟩
        cases n with
        | zero => cases hc
        | succ n =>
        simp only [cpB, Bool.and_eq_true, decide_eq_true_eq, List.all_eq_true] at hc
        obtain ⟨hz, hc⟩ := hc
        simp only [Dt] at hd
        obtain ⟨a, rfl, ⟨es, ha, hx⟩ | ⟨es, ha, hx⟩⟩ := hd
        rotate_left
        · refine ⟨a, .dT es, ha, trivial, fun od => ?_⟩
          refine ⟨_, rfl, a, od, rfl, .inr ⟨es, upd_same, .dT [], .inr rfl, fun D hD => ?_⟩⟩
          have hDa : D ≠ a := fun z => by
            rw [z, upd_same] at hD
            cases hD
          have hD0 : H D = none := by
            rw [upd_ne hDa] at hD
            exact hD
          refine dc_it walk_keysT (fun i H' => Same (upd H a (.frz od (.dT es))) H' ∧ H' D = some (.dT (es.take i))) ⟨same_upd hD, upd_same⟩ (fun i H' _ c => c.1 _ _ upd_same) ?_ ?_
          · rintro i v H1 H1' hi ⟨s1, h1⟩ ⟨rfl, y, x, qa, e1, rfl, hq⟩
            obtain ⟨kd, e2, hxd, hlen⟩ := dtt_one hz hx e1
            subst hlen
            obtain ⟨e3, e4⟩ := e2
            have fl := hc kd e3
            refine ⟨rfl, ?_⟩
            unfold tYes
            refine iteT ?_
            refine ⟨_, rfl, _, rfl, _, rfl, a, x, rfl, ?_, x, kd.2, rfl, Dt.flat hxd fl, cpB_up fl, fun v' H2 s2 d2 => ?_⟩
            · exact .inr ⟨es, y, qa, .inr ⟨od, s1 _ _ upd_same⟩, rfl, hq, by rw [e4]; simp [valV]⟩
            · have ev : v' = x := Dt.one fl d2 hxd
              subst ev
              refine ⟨_, DPut.t (s2 _ _ h1) (s2 _ _ hq) (small1000 (by rw [List.length_take]; omega)), fun b o e => ?_, ?_⟩
              · rw [upd_ne (ne_of_none e hD)]
                exact s2 _ _ (s1 _ _ e)
              · rw [upd_same, e4]
                rfl
          · rintro H1 ⟨s1, h1⟩
            refine ⟨s1 _ _ upd_same, ?_⟩
            rw [List.take_length] at h1
            refine q _ _ (fun b o e => ?_) ?_
            · by_cases hb : b = a
              · rw [hb] at e ⊢
                rw [upd_same, ← ha, e]
              · rw [upd_ne hb]
                exact s1 _ _ (by rw [upd_ne hb]; exact e)
            · simp only [Dt]
              exact ⟨D, rfl, .inr ⟨es, by rw [Nw.at_ hD0, upd_ne hDa]; exact h1, dtt_flat hc hx⟩⟩
        refine ⟨a, .dK es, ha, trivial, fun od => ?_⟩
        refine ⟨_, rfl, a, od, rfl, .inl ⟨es, upd_same, .dK [], .inl rfl, fun D hD => ?_⟩⟩
        have hDa : D ≠ a := fun z => by
          rw [z, upd_same] at hD
          cases hD
        have hD0 : H D = none := by
          rw [upd_ne hDa] at hD
          exact hD
        refine dc_it walk_keys (fun i H' => Same (upd H a (.frz od (.dK es))) H' ∧ H' D = some (.dK (es.take i))) ⟨same_upd hD, upd_same⟩ (fun i H' _ c => c.1 _ _ upd_same) ?_ ?_
        · rintro i v H1 H1' hi ⟨s1, h1⟩ ⟨rfl, y, x, e1, rfl⟩
          obtain ⟨kd, e2, hkd, hxd, hlen⟩ := dtk_one hz hx e1
          subst hlen
          obtain ⟨e3, e4⟩ := e2
          have fl := hc kd e3
          refine ⟨rfl, ?_⟩
          unfold tYes
          refine iteT ?_
          refine ⟨_, rfl, _, rfl, _, rfl, a, x, rfl, ?_, x, kd.2, rfl, Dt.flat hxd fl, cpB_up fl, fun v' H2 s2 d2 => ?_⟩
          · exact .inl ⟨es, y, .inr ⟨od, s1 _ _ upd_same⟩, rfl, by rw [e4]; exact valV_one⟩
          · have ev : v' = x := Dt.one fl d2 hxd
            subst ev
            refine ⟨_, DPut.k (s2 _ _ h1) (small1000 (by rw [List.length_take]; omega)), fun b o e => ?_, ?_⟩
            · rw [upd_ne (ne_of_none e hD)]
              exact s2 _ _ (s1 _ _ e)
            · rw [upd_same, e4]
              rfl
        · rintro H1 ⟨s1, h1⟩
          refine ⟨s1 _ _ upd_same, ?_⟩
          rw [List.take_length] at h1
          refine q _ _ (fun b o e => ?_) ?_
          · by_cases hb : b = a
            · rw [hb] at e ⊢
              rw [upd_same, ← ha, e]
            · rw [upd_ne hb]
              exact s1 _ _ (by rw [upd_ne hb]; exact e)
          · simp only [Dt]
            exact ⟨D, rfl, .inl ⟨es, by rw [Nw.at_ hD0, upd_ne hDa]; exact h1, dtk_flat hc hx⟩⟩
      | none =>
        refine ⟨_, rfl, _, _, .type "NoneType", _, false, rfl, .ty "list", hd.ty, kitq (show kitB "NoneType" "list" = some false by decide +kernel), ?_⟩
        refine ⟨_, rfl, iteF ?_⟩
        refine ⟨_, rfl, _, _, .type "NoneType", _, false, rfl, .ty "tuple", hd.ty, kitq (show kitB "NoneType" "tuple" = some false by decide +kernel), ?_⟩
        refine ⟨_, rfl, iteF ?_⟩
        refine ⟨_, rfl, _, _, .type "NoneType", _, false, rfl, .ty "dict", hd.ty, kitq (show kitB "NoneType" "dict" = some false by decide +kernel), ?_⟩
        refine ⟨_, rfl, iteF ?_⟩
        exact ⟨_, rfl, q _ H (Same.refl H) (by simpa only [Dt] using hd)⟩
      | bool _ =>
        refine ⟨_, rfl, _, _, .type "bool", _, false, rfl, .ty "list", hd.ty, kitq (show kitB "bool" "list" = some false by decide +kernel), ?_⟩
        refine ⟨_, rfl, iteF ?_⟩
        refine ⟨_, rfl, _, _, .type "bool", _, false, rfl, .ty "tuple", hd.ty, kitq (show kitB "bool" "tuple" = some false by decide +kernel), ?_⟩
        refine ⟨_, rfl, iteF ?_⟩
        refine ⟨_, rfl, _, _, .type "bool", _, false, rfl, .ty "dict", hd.ty, kitq (show kitB "bool" "dict" = some false by decide +kernel), ?_⟩
        refine ⟨_, rfl, iteF ?_⟩
        exact ⟨_, rfl, q _ H (Same.refl H) (by simpa only [Dt] using hd)⟩
      | int _ =>
        refine ⟨_, rfl, _, _, .type "int", _, false, rfl, .ty "list", hd.ty, kitq (show kitB "int" "list" = some false by decide +kernel), ?_⟩
        refine ⟨_, rfl, iteF ?_⟩
        refine ⟨_, rfl, _, _, .type "int", _, false, rfl, .ty "tuple", hd.ty, kitq (show kitB "int" "tuple" = some false by decide +kernel), ?_⟩
        refine ⟨_, rfl, iteF ?_⟩
        refine ⟨_, rfl, _, _, .type "int", _, false, rfl, .ty "dict", hd.ty, kitq (show kitB "int" "dict" = some false by decide +kernel), ?_⟩
        refine ⟨_, rfl, iteF ?_⟩
        exact ⟨_, rfl, q _ H (Same.refl H) (by simpa only [Dt] using hd)⟩
      | str _ =>
        refine ⟨_, rfl, _, _, .type "str", _, false, rfl, .ty "list", hd.ty, kitq (show kitB "str" "list" = some false by decide +kernel), ?_⟩
        refine ⟨_, rfl, iteF ?_⟩
        refine ⟨_, rfl, _, _, .type "str", _, false, rfl, .ty "tuple", hd.ty, kitq (show kitB "str" "tuple" = some false by decide +kernel), ?_⟩
        refine ⟨_, rfl, iteF ?_⟩
        refine ⟨_, rfl, _, _, .type "str", _, false, rfl, .ty "dict", hd.ty, kitq (show kitB "str" "dict" = some false by decide +kernel), ?_⟩
        refine ⟨_, rfl, iteF ?_⟩
        exact ⟨_, rfl, q _ H (Same.refl H) (by simpa only [Dt] using hd)⟩
end
section
variable {P : Program} {w : World} {K : PySem.W.Frag} {mg : Str → Option Value} {base : Heap}
theorem T_init (T : Txt K mg) {c f : Str} (h : (c, f) ∈ clI) : OexC K (He.ga K c) ∧ IsC K (He.ga K c) ∧ InC K (He.ga K c) (He.ma K (He.ga K c) "__init__") f := by
  have h0 : faInit K = true := T.more faInit (by simp [faX])
  have h1 := List.all_eq_true.mp h0 _ h
  obtain ⟨h1, h2⟩ := He.ba h1
  obtain ⟨h2, h3⟩ := He.ba h2
  exact ⟨oexB_ok h1, isB_ok h2, inB_ok h3⟩
theorem T_base (T : Txt K mg) : BaC K (He.ga K "MeanError") := baB_ok (T.more faBase (by simp [faX]))
theorem ok_BadSet (T : Txt K mg) (n : Nat) : FnOk P w K mg base CX0 (n + 2) (He.fAd K ("BadSet", some "__init__")) (fdOf K (He.fAd K ("BadSet", some "__init__"))) ["self", "letters"] (spI n (He.ga K "BadSet") "letters") := by
  have G_copied : FnOk P w K mg base CX0 (n + 1) (He.ga K "_copied") (fdOf K (He.ga K "_copied")) ["value"] (spC (n + 1)) := ok_copied T (n + 1)
  have CI := T_init T (c := "BadSet") (f := "letters") (by simp [clI])
  refine T.f_BadSet_init.ok sc_BadSet_init (fun vs H Q E h => ?_) (fun cdv A outer s H vs Q E hr h => ?_)
  · obtain ⟨_, _, _, rfl, _⟩ := h
    rfl
  · obtain ⟨a, v, dd, rfl, ha, hd, hc, q⟩ := h
    have hu := hu_of hr
    refine ⟨_, PSs.nox (pss_cons (ps_expr (pe_owninit rfl T.g_MeanError (T_base T) (pa_cons (pv 0) (pa_cons pe_str pa_nil))))
      (pss_one (ps_ost (f := "letters") (pv 0) (pe_call G_copied hr rfl T.g_copied T.f_copied.kp (b_copied T) .nil pass0 (pa_cons (pv 1) pa_nil))))), ?_⟩
    refine ⟨_, rfl, a, _, [.str _], rfl, by simp, CI.1, ha, ?_⟩
    refine ⟨_, rfl, v, dd, rfl, hd, hc, fun v' H1 s1 d1 => ⟨_, rfl, a, _, rfl, CI.1, CI.2.2.no, .inl ⟨s1 _ _ ha, fun dx hdx ne => ?_⟩⟩⟩
    obtain ⟨r1, r2, r3, r0, r4⟩ := init_fin (f := "letters") ha s1 d1 hdx ne rfl
    exact q dx v' _ r0 r1 r2 r3 r4
theorem T_kind (T : Txt K mg) {q : Value × Bool} (h : q ∈ kindT K) : PySem.W.kitOne K (.ref (He.ga K "BadSet")) q.1 = some q.2 :=
  of_decide_eq_true (List.all_eq_true.mp (show faKind K = true from T.more faKind (by simp [faX])) q h)
theorem T_catch (T : Txt K mg) : PySem.W.exmOne K (.ref (He.ga K "BadSet")) (.ref (He.ga K "MeanError")) = some true := of_decide_eq_true (show faCatch K = true from T.more faCatch (by simp [faX]))
theorem T_prop (T : Txt K mg) : Meth K (He.ga K "Scheme") "closure" (He.ma K (He.ga K "Scheme") "closure") ∧ PropOf K (He.ga K "Scheme") "columns" (prA K ("Scheme", "columns")) (pgA K ("Scheme", "columns")) ∧ PropOf K (He.ga K "Scheme") "dependences" (prA K ("Scheme", "dependences")) (pgA K ("Scheme", "dependences")) ∧ getOk K ("Scheme", "columns") "Scheme.columns" = true ∧ getOk K ("Scheme", "dependences") "Scheme.dependences" = true := by
  have z : faProp K = true := T.more faProp (by simp [faX])
  obtain ⟨h1, z⟩ := He.ba z
  obtain ⟨h2, z⟩ := He.ba z
  obtain ⟨h3, z⟩ := He.ba z
  obtain ⟨h4, h5⟩ := He.ba z
  exact ⟨He.meth_ok h1, propB_ok h2, propB_ok h3, h4, h5⟩
end
end G04
set_option Elab.async false
set_option linter.all false
set_option maxRecDepth 100000
set_option maxHeartbeats 4000000

namespace G04
open PySem PySem.Spec PyProof.Rows L2 Mw LamX
def spClosM (n : Nat) (K : PySem.W.Frag) (C0 CB : Addr) : Sp := fun vs H Q E => ∃ (a : Addr) (v : V) (dd : PyData) (cols : List Nat) (ts : List Tie), vs = [.ref a, v] ∧ SchA K C0 H a cols ts ∧ PlanOk cols ts ∧ Dt H dd v ∧ cpB n dd = true ∧
  ((∃ s, dd = .str (tx s) ∧ SetOk cols s ∧ ∀ H', Same H H' → Q (.str (tx (clo cols ts s (cols.length + 2)))) H') ∨
    (setB cols dd = false ∧ ∀ (dx : Addr) (w : V) (H' : Hp), Same H H' → H' dx = some (.xd [("letters", w)]) → Dt (Nw H H') dd w → H dx = none → E (.ref CB) (some dx) H'))
section
variable {P : Program} {w : World} {K : PySem.W.Frag} {mg : Str → Option Value} {base : Heap}
theorem ok_Scheme_closure (T : Txt K mg) (n : Nat) : FnOk P w K mg base (CX P w) (n + 4) (He.fAd K ("Scheme", some "closure")) (fdOf K (He.fAd K ("Scheme", some "closure"))) ["self", "letters"] (spClosM n K (He.ga K "Scheme") (He.ga K "BadSet")) := by
  have G_is_set : FnOk P w K mg base CX0 2 (He.ga K "is_set") (fdOf K (He.ga K "is_set")) ["columns", "letters"] spIsSet := ok_is_set T
  have G_is_within : FnOk P w K mg base CX0 1 (He.ga K "is_within") (fdOf K (He.ga K "is_within")) ["small", "large"] spWithin := ok_is_within T
  have CI := T_init T (c := "BadSet") (f := "letters") (by simp [clI])
  refine T.f_Scheme_closure.ok sc_Scheme_closure (fun vs H Q E h => ?_) (fun cdv A outer s H vs Q E hr h => ?_)
  · obtain ⟨_, _, _, _, _, rfl, _⟩ := h
    rfl
  · obtain ⟨a, v, dd, cols, ts, rfl, ⟨dx, q1, q2, ha, hq, l4, l2⟩, pk, hd, hc, q⟩ := h
    have CL := T_cls T
    have NA := (T_mk T).2.1
    refine ⟨_, (pss_cons (ps_if (pt_not (pt_val (pe_call G_is_set (hr.mono (by omega)) rfl T.g_is_set T.f_is_set.kp (b_is_set T) .nil pass0 (pa_cons (L2.pe_fld (f := "_columns") (pv 0) (by rfl)) (pa_cons (pv 1) pa_nil)))))
  (pss_one (ps_raise rfl (takes_of rfl rfl rfl rfl) (pmk_oex CI.1 CI.2.2.ini CI.2.2.tI (ok_BadSet T n) (hr.mono (by omega)) (b_BadSet_init T) .nil pass0 rfl T.g_BadSet (pa_cons (pv 1) pa_nil))))
  pss_nil)
  (pss_one (ps_ret (pe_minLen rfl (by rfl) T.n_min (by rfl) T.n_len (pe_lc (own := [("one", 2)]) rfl sc_Scheme_closure.nd (pi_tup (L2.pe_fld (f := "_closed") (pv 0) (by rfl))) (blkOk_by (N := N_Scheme_closure) (sc := defScope s_Scheme_closure) (by decide +kernel)) (fun _ _ _ _ _ => (pg_name (i := 2) sc_Scheme_closure.nd rfl (.inl rfl))) (fun _ _ _ _ _ => (pts_one (pt_val (pe_call G_is_within (hr.mono (by omega)) rfl T.g_is_within T.f_is_within.kp (b_is_within T) .nil pass0 (pa_cons (pv 1) (pa_cons (pv 2) pa_nil)))))) (fun _ _ _ _ _ => (pv 2))))))), ?_⟩
    refine ⟨_, rfl, a, _, dx, _, _, rfl, ha, CL.1.is.cl, NA.1, rfl, _, rfl, cols, v, dd, rfl, by omega, hd, fun H1 s1 => ⟨_, rfl, ?_⟩⟩
    rcases q with ⟨s0, rfl, so, q⟩ | ⟨bad, q⟩
    · have ok : setB cols (.str (tx s0)) = true := decide_eq_true so
      rw [ok]
      refine ite2 (fun z => absurd z (by decide)) (fun _ => ?_)
      simp only [Dt] at hd
      subst hd
      have ls := set_len pk.col so
      have l5 : (cols ++ [114]).length ≤ 5 := by
        rw [List.length_append]
        show cols.length + 1 ≤ 5
        omega
      have lcl : (closedOf cols ts).length ≤ 32 := by
        have z := pow_le l5
        unfold closedOf
        rw [List.length_mergeSort, List.length_map]
        exact Nat.le_trans (List.length_filter_le _ _) z
      have toks : ∀ y ∈ closedOf cols ts, y.length ≤ 1000 := fun y hy => by
        rw [← ofStr y] at hy ⊢
        rw [tx_len]
        exact Nat.le_trans (pow_item l5 (mem_closed.mp hy).1) (by decide)
      refine ⟨_, rfl, a, _, dx, _, _, rfl, s1 _ _ ha, CL.1.is.cl, NA.2.2, rfl, q2, rfl, ⟨_, hq.ext s1⟩, fun D hD => ?_⟩
      refine lc_it walk_tup (fun i H' => Same H1 H' ∧ H' D = some (.lst ((((closedOf cols ts).take i).filter (fun y => within s0 y.cps.toList)).map V.str))) ⟨same_upd hD, upd_same⟩ (fun _ _ _ z => sqt_same (K := K) hq (s1.trans z.1)) ?_ ?_
      · rintro i x H2 H2' hi ⟨s2, l2'⟩ ⟨rfl, hx2⟩
        obtain ⟨y, hy, rfl⟩ := map_get hx2
        refine ⟨rfl, _, rfl, _, rfl, s0, y.cps.toList, by rw [ofStr]; rfl, by omega, fun H3 s3 => ⟨_, rfl, ?_⟩⟩
        rw [take_one hy]
        refine ite2 (fun z => ⟨_, rfl, _, s3 _ _ l2', ?_, same_into hD (s2.trans s3), ?_⟩) (fun z => ⟨s2.trans s3, ?_⟩)
        · rw [List.length_map]
          exact small1000 (Nat.le_trans (List.length_filter_le _ _) (Nat.le_trans (List.length_take_le _ _) (by
            have := (List.getElem?_eq_some_iff.mp hy).1
            omega)))
        · have z2 : within s0 y.cps.toList = true := z
          rw [upd_same, if_pos z2, List.map_append]
          rfl
        · have z2 : ¬ within s0 y.cps.toList = true := z
          rw [if_neg z2, List.append_nil]
          exact s3 _ _ l2'
      · rintro H2 ⟨s2, l2'⟩
        rw [take_all (by rw [List.length_map]; exact Nat.le_refl _)] at l2'
        obtain ⟨c1, c2⟩ := clo_closed pk so
        have cin : tx (clo cols ts s0 (cols.length + 2)) ∈ (closedOf cols ts).filter (fun y => within s0 y.cps.toList) := List.mem_filter.mpr ⟨mem_closed.mpr ⟨c2, c1⟩, clo_over pk so⟩
        refine ⟨D, _, rfl, SqL.of l2', List.ne_nil_of_mem cin, fun y hy => toks y (List.mem_filter.mp hy).1, fun r hr mn => ?_⟩
        obtain ⟨r1, r2⟩ := List.mem_filter.mp hr
        have er := ofStr r
        rw [← er] at r1
        obtain ⟨r3, r4⟩ := mem_closed.mp r1
        have l := mn _ cin
        rw [← er, tx_len, tx_len] at l
        have e := clo_least pk so r3 r4 r2 l
        rw [← er, e]
        exact q H2 (s1.trans s2)
    · rw [bad]
      refine ite2 (fun _ => ?_) (fun z => absurd rfl z)
      refine ⟨_, rfl, by simp, fun e he => ?_⟩
      exact mkx he (Dt.same s1 _ _ hd) hc fun dx w H' s2 e1 d' n0 => q dx w H' (s1.trans s2) e1 (Dt.same (Nw.sub fun b o e1 e2 => ⟨none_of s1 e1, e2⟩) _ _ d') (none_of s1 n0)
end
end G04
set_option Elab.async false
set_option linter.all false
set_option maxRecDepth 100000
set_option maxHeartbeats 4000000

namespace G04
open PySem PySem.Spec PyProof.Rows L2 Mw LamX
abbrev s_Scheme_columns : Stmt := inClass (top 21) 1
abbrev s_Scheme_dependences : Stmt := inClass (top 21) 2
theorem sc_Scheme_columns : FnScope ["self"] ["self"] (defScope s_Scheme_columns) := ⟨rfl, rfl, rfl, by decide +kernel, rfl, by decide +kernel, by decide +kernel⟩
theorem sc_Scheme_dependences : FnScope ["self"] ["self"] (defScope s_Scheme_dependences) := ⟨rfl, rfl, rfl, by decide +kernel, rfl, by decide +kernel, by decide +kernel⟩
def gs : List GetD := [⟨("Scheme", "columns"), "columns", "Scheme.columns", defArgs s_Scheme_columns, defBody s_Scheme_columns, defScope s_Scheme_columns⟩, ⟨("Scheme", "dependences"), "dependences", "Scheme.dependences", defArgs s_Scheme_dependences, defBody s_Scheme_dependences, defScope s_Scheme_dependences⟩]
def Gets (K : PySem.W.Frag) : Prop := ∀ d ∈ gs, fnAt K (pgA K d.at_) = d.val
section
variable {P : Program} {w : World} {K : PySem.W.Frag} {mg : Str → Option Value} {base : Heap}
theorem ok_Scheme_init2 (T : Txt K mg) (TB : TabB base mg (He.cT K pA).1 (He.cT K pA).2) : FnOk P w K mg base CX0 5 (He.fAd K ("Scheme", some "__init__")) (fdOf K (He.fAd K ("Scheme", some "__init__"))) ["self", "columns", "dependences"] (spInit2 K (tabs K) (He.ga K "Scheme")) := by
  have G_is_columns : FnOk P w K mg base CX0 2 (He.ga K "is_columns") (fdOf K (He.ga K "is_columns")) ["given"] spIsCols := ok_is_columns T
  have G_checked_dependences : FnOk P w K mg base CX0 4 (He.ga K "_checked_dependences") (fdOf K (He.ga K "_checked_dependences")) ["columns", "dependences"] (spChk K) := ok_checked_dependences T
  have G_all_closed : FnOk P w K mg base CX0 3 (He.ga K "_all_closed") (fdOf K (He.ga K "_all_closed")) ["columns", "dependences"] (spAllClosed K (tabs K)) := ok_all_closed T TB
  refine T.f_Scheme_init.ok sc_Scheme_init (fun vs H Q E h => ?_) (fun cdv A outer s H vs Q E hr h => ?_)
  · obtain ⟨_, _, _, _, _, _, rfl, _⟩ := h
    rfl
  · obtain ⟨x, dx, p, cols, xs, ts, rfl, hx, ok, l4, l2, hp, ht, lt, ld, tb, q⟩ := h
    have C := T_cls T
    have NA := (T_mk T).2.1
    refine ⟨_, PSs.nox (pss_cons (ps_if (pt_not (pt_val (pe_call G_is_columns (hr.mono (by decide)) rfl T.g_is_columns T.f_is_columns.kp (b_is_columns T) .nil pass0 (pa_cons (pv 1) pa_nil))))
  (pss_one ps_dead)
  pss_nil)
  (pss_cons (ps_fld (pv 0) (pv 1) (by rfl))
  (pss_cons (ps_fld (pv 0) (pe_call G_checked_dependences (hr.mono (by decide)) rfl T.g_checked_dependences T.f_checked_dependences.kp (b_checked_dependences T) .nil pass0 (pa_cons (pv 1) (pa_cons (pv 2) pa_nil))) (by rfl))
  (pss_one (ps_fld (pv 0) (pe_call G_all_closed (hr.mono (by decide)) rfl T.g_all_closed T.f_all_closed.kp (b_all_closed T) .nil pass0 (pa_cons (L2.pe_fld (f := "_columns") (pv 0) (by rfl)) (pa_cons (L2.pe_fld (f := "_dependences") (pv 0) (by rfl)) pa_nil))) (by rfl)))))), ?_⟩
    have sx := same_del (H := H) (x := x)
    refine ⟨_, rfl, _, .str (tx cols), rfl, by simp only [Dt], fun H1 s1 => ?_⟩
    rw [ok]
    refine ⟨_, rfl, ite2 (fun z => absurd z (by decide)) (fun _ => ?_)⟩
    have x1 := s1 _ _ hx
    have g1 : Same (del H x) H1 := sx.trans s1
    refine ⟨_, rfl, _, rfl, x, _, dx, [], rfl, x1, C.1.is.cl, NA.1, by decide, ?_⟩
    refine fld_put (K := K) x1 fun H2 x2 a2 b2 c2 d2 => ?_
    have g2 := a2 _ del_same g1
    refine ⟨_, rfl, _, rfl, cols, p, xs, ts, rfl, by omega, hp.ext g2, DtL.same g2 _ _ ht, lt, fun t h => (ld t h).1, fun H3 q1 s3 hq1 => ?_⟩
    have x3 := s3 _ _ x2
    refine ⟨_, rfl, x, _, dx, _, rfl, x3, C.1.is.cl, NA.2.1, Nat.lt_of_le_of_lt (Nat.le_of_eq (rfl : _ = 1)) (by decide), ?_⟩
    refine fld_put (K := K) x3 fun H4 x4 a4 b4 c4 d4 => ?_
    have g4 := a4 _ del_same (g2.trans s3)
    refine ⟨_, rfl, x, _, dx, _, _, rfl, x4, C.1.is.cl, NA.1, rfl, _, rfl, x, _, dx, _, _, rfl, x4, C.1.is.cl, NA.2.1, rfl, cols, q1, xs, ts, rfl, l4, c4 _ _ hq1, DtL.same g4 _ _ ht, lt, fun t h => (ld t h).2, tb.ext g4, fun H5 q2 e5 t5 hq2 => ?_⟩
    have x5 := e5 _ _ x4 fun _ z => nomatch z
    refine ⟨_, rfl, x, _, dx, _, rfl, x5, C.1.is.cl, NA.2.2, Nat.lt_of_le_of_lt (Nat.le_of_eq (rfl : _ = 2)) (by decide), ?_⟩
    refine fld_put (K := K) x5 fun H6 x6 a6 b6 c6 d6 => ?_
    exact q H6 (b6 _ del_same ((ExtN.of g4).trans e5)) (d6 _ t5) ⟨dx, q1, q2, x6, c6 _ _ hq2, l4, l2⟩ ⟨dx, q1, q2, xs, x6, c6 _ _ (SqT.extn (c4 _ _ hq1) e5), DtL.extn (b6 _ del_same ((ExtN.of g4).trans e5)) _ _ ht⟩
theorem fun_columns (T : Txt K mg) (G : Gets K) : FunD K "columns" "Scheme.columns" (defArgs s_Scheme_columns) (defBody s_Scheme_columns) (defScope s_Scheme_columns) [] [] (pgA K ("Scheme", "columns")) (fdOf K (pgA K ("Scheme", "columns"))) :=
  GetD.fun_ (d := ⟨("Scheme", "columns"), "columns", "Scheme.columns", defArgs s_Scheme_columns, defBody s_Scheme_columns, defScope s_Scheme_columns⟩) (G _ (by simp [gs])) (T_prop T).2.2.2.1
theorem fun_dependences (T : Txt K mg) (G : Gets K) : FunD K "dependences" "Scheme.dependences" (defArgs s_Scheme_dependences) (defBody s_Scheme_dependences) (defScope s_Scheme_dependences) [] [] (pgA K ("Scheme", "dependences")) (fdOf K (pgA K ("Scheme", "dependences"))) :=
  GetD.fun_ (d := ⟨("Scheme", "dependences"), "dependences", "Scheme.dependences", defArgs s_Scheme_dependences, defBody s_Scheme_dependences, defScope s_Scheme_dependences⟩) (G _ (by simp [gs])) (T_prop T).2.2.2.2
theorem ok_columns_get (T : Txt K mg) (G : Gets K) : FnOk P w K mg base CX0 1 (pgA K ("Scheme", "columns")) (fdOf K (pgA K ("Scheme", "columns"))) ["self"] (getSp (He.ga K "Scheme") "_columns") := get_ok (fun_columns T G) sc_Scheme_columns rfl (by rfl) (T_cls T).1.is.cl (T_mk T).2.1.1
theorem ok_dependences_get (T : Txt K mg) (G : Gets K) : FnOk P w K mg base CX0 1 (pgA K ("Scheme", "dependences")) (fdOf K (pgA K ("Scheme", "dependences"))) ["self"] (getSp (He.ga K "Scheme") "_dependences") := get_ok (fun_dependences T G) sc_Scheme_dependences rfl (by rfl) (T_cls T).1.is.cl (T_mk T).2.1.2.1
theorem b_columns_get (T : Txt K mg) (G : Gets K) : Binds K (fdOf K (pgA K ("Scheme", "columns"))) ["self"] [] := (fun_columns T G).bindsN fun _ _ _ _ _ _ us hl => match us, hl with | [_], _ => rfl
theorem b_dependences_get (T : Txt K mg) (G : Gets K) : Binds K (fdOf K (pgA K ("Scheme", "dependences"))) ["self"] [] := (fun_dependences T G).bindsN fun _ _ _ _ _ _ us hl => match us, hl with | [_], _ => rfl
end
end G04
set_option Elab.async false
set_option linter.all false
set_option maxRecDepth 100000
set_option maxHeartbeats 4000000

namespace G04
open PySem PySem.Spec PyProof.Rows L2 Mw LamX
section
variable {P : Program} {w : World} {K : PySem.W.Frag} {mg : Str → Option Value} {base : Heap}
theorem ok_shuffledP (T : Txt K mg) : FnOk P w K mg base CX0 3 (He.ga K "_law_shuffled") (fdOf K (He.ga K "_law_shuffled")) ["draw", "some"] (spShufP K) := by
  have G_law_take : FnOk P w K mg base CX0 2 (He.ga K "_law_take") (fdOf K (He.ga K "_law_take")) ["draw", "size"] spTake := ok_take T
  refine T.f_law_shuffled.ok sc_law_shuffled (fun vs H Q E h => ?_) (fun cdv A outer s H vs Q E hr h => ?_)
  · obtain ⟨_, _, _, _, _, _, rfl, _⟩ := h
    rfl
  · obtain ⟨d, W, C, n, p, xs, rfl, hp, x9, D, q⟩ := h
    refine ⟨_, PSs.nox (pss_cons (ps_par (i := 2) (j := 3) rfl sc_law_shuffled.nd rfl rfl (by decide) rfl rfl (pa_cons (pe_callTy call_list_of (by rfl) T.n_list (by decide +kernel) (pa_cons (pv 1) pa_nil)) (pa_cons (pe_lst pa_nil) pa_nil)) (by rfl))
  (pss_cons (ps_while PassesOwn.never (pt_cmpR (op_neNil hr.units) (pv 2) (pe_lst pa_nil) (nomark _))
  (pss_one (ps_expr (pe_bm PySem.F.plainAttrs_list PySem.F.slot_list_append PySem.F.type_list_append mt_append (pv 3) (pa_cons (pe_bm PySem.F.plainAttrs_list PySem.F.slot_list_pop PySem.F.type_list_pop mt_popAt (pv 2) (pa_cons (pe_call G_law_take (hr.mono (by decide)) rfl T.g_law_take T.f_law_take.kp (b_law_take T) .nil pass0 (pa_cons (pv 0) (pa_cons (pe_callB call_len (by rfl) T.n_len (by decide +kernel) (pa_cons (pv 2) pa_nil)) pa_nil))) pa_nil)) pa_nil)))))
  (pss_one (ps_ret (pv 3))))), ?_⟩
    refine ⟨_, rfl, p, xs, rfl, .inl (SqL.of hp), fun L hL => ⟨le_line (by simp), fun F hF => ?_⟩⟩
    have oL := D.own hL
    have D1 := D.put oL (.lst xs)
    have oF := D1.own hF
    have nFL : F ≠ L := fun e => by
      rw [e, upd_same] at hF
      cases hF
    have hF0 : H F = none := by
      rw [upd_ne nFL] at hF
      exact hF
    have D2 := D1.put oF (.lst [])
    have sd2 : Sd d W H (upd (upd H L (.lst xs)) F (.lst [])) := ((Sd.refl H).put hL).put hF0
    have lL : (upd (upd H L (.lst xs)) F (.lst [])) L = some (.lst xs) := by rw [upd_ne nFL.symm, upd_same]
    have lF : (upd (upd H L (.lst xs)) F (.lst [])) F = some (.lst []) := upd_same
    revert D2 sd2 lL lF
    generalize upd (upd H L (.lst xs)) F (.lst []) = H2
    intro D2 sd2 lL lF
    refine ⟨_, _, rfl, ?_⟩
    refine ⟨fun m σ H' => ∃ l f : List V, σ = [some (.ref d), some (.ref p), some (.ref L), some (.ref F)] ∧ m = l.length ∧ (l ++ f).Perm xs ∧ Drw H' d W C (n + l.length) ∧ Sd d W H H' ∧ H' L = some (.lst l) ∧ H' F = some (.lst f), ⟨_, xs, [], rfl, rfl, (by rw [List.append_nil]), D2, sd2, lL, lF⟩, ?_⟩
    rintro m σ H3 ⟨l, f, rfl, rfl, pm, D3, sd3, lL3, lF3⟩
    have sm := pm.length_eq
    rw [List.length_append] at sm
    refine ⟨_, rfl, le_line (by simp), fun B hB => allocN hB fun H4 s4 l4 => ⟨L, B, l, rfl, rfl, SqL.of (s4 _ _ lL3), SqL.of l4, _, rfl, ite2 (fun z => ?_) (fun z => ?_)⟩⟩
    · have D4 := D3.same s4
      have lL4 := s4 _ _ lL3
      have lF4 := s4 _ _ lF3
      have hl0 : l ≠ [] := fun e => by
        rw [e] at z
        exact absurd z (by decide)
      have hpos : 0 < l.length := List.length_pos_iff.mpr hl0
      refine ⟨fun σ' H' => ∃ l' f' : List V, l'.length + 1 = l.length ∧ σ' = [some (.ref d), some (.ref p), some (.ref L), some (.ref F)] ∧ (l' ++ f').Perm xs ∧ Drw H' d W C (n + l'.length) ∧ Sd d W H H' ∧ H' L = some (.lst l') ∧ H' F = some (.lst f'), ?_, ?_⟩
      · rintro σ' H' ⟨l', f', e, rfl, a1, a4, a5, a6, a7⟩
        exact ⟨l'.length, by omega, l', f', rfl, rfl, a1, a4, a5, a6, a7⟩
      · refine ⟨_, rfl, .inl ⟨rfl, _, SqL.of lF4⟩, _, rfl, .inl ⟨rfl, _, SqL.of lL4⟩, _, rfl, _, rfl, _, l.length, rfl, .inl ⟨_, SqL.of lL4, rfl⟩, d, W, C, n + (l.length - 1), _, rfl, D4.mono (by omega), by omega, log_small (by omega), fun k H5 k0 k1 D5 sd5 => ?_⟩
        have hk : k.toNat < l.length := by omega
        have lL5 := sd5.own oL lL4
        have lF5 := sd5.own oF lF4
        refine ⟨L, l, k, k.toNat, l[k.toNat], rfl, rfl, lL5, by omega, by omega, seq_ix k0 (by omega), List.getElem?_eq_getElem hk, F, f, _, rfl, rfl, by rw [upd_ne nFL]; exact lF5, small1000 (by omega), l.eraseIdx k.toNat, f ++ [l[k.toNat]], ?_, rfl, ?_, ?_, ?_, ?_, upd_same⟩
        · rw [List.length_eraseIdx_of_lt hk]
          omega
        · exact (move_perm l f k.toNat hk).trans pm
        · rw [List.length_eraseIdx_of_lt hk]
          exact (D5.put oL _).put oF _
        · exact (((sd3.trans (Sd.of s4)).trans sd5).put hL).put hF0
        · rw [upd_ne nFL.symm, upd_same]
    · have hl0 : l = [] := by
        cases l with
        | nil => rfl
        | cons _ _ => exact absurd rfl z
      subst hl0
      refine ⟨_, rfl, q F f H4 pm ((D3.same s4).mono (by omega)) (sd3.trans (Sd.of s4)) oF (s4 _ _ lF3)⟩
end
end G04
set_option Elab.async false
set_option linter.all false
set_option maxRecDepth 100000
set_option maxHeartbeats 4000000

namespace G04
open PySem PySem.Spec PyProof.Rows L2 Mw LamX
section
variable {P : Program} {w : World} {K : PySem.W.Frag} {mg : Str → Option Value} {base : Heap}
theorem ok_chained (T : Txt K mg) : FnOk P w K mg base CX0 4 (He.ga K "_law_chained") (fdOf K (He.ga K "_law_chained")) ["draw", "columns"] spChained := by
  have G_law_take : FnOk P w K mg base CX0 2 (He.ga K "_law_take") (fdOf K (He.ga K "_law_take")) ["draw", "size"] spTake := ok_take T
  have G_law_pick : FnOk P w K mg base CX0 3 (He.ga K "_law_pick") (fdOf K (He.ga K "_law_pick")) ["draw", "some"] spPick := ok_pick T
  have G_law_shuffled : FnOk P w K mg base CX0 3 (He.ga K "_law_shuffled") (fdOf K (He.ga K "_law_shuffled")) ["draw", "some"] (spShuf K) := ok_shuffled T
  refine T.f_law_chained.ok sc_law_chained (fun vs H Q E h => ?_) (fun cdv A outer s H vs Q E hr h => ?_)
  · obtain ⟨_, _, _, _, _, rfl, _⟩ := h
    rfl
  · obtain ⟨d, W, C, n, cols, rfl, col, D, q⟩ := h
    have lc := col_len col
    refine ⟨_, PSs.nox (pss_cons (ps_set (i := 2) sc_law_chained.nd rfl (.inr rfl) (pe_call G_law_shuffled (hr.mono (by decide)) rfl T.g_law_shuffled T.f_law_shuffled.kp (b_law_shuffled T) .nil pass0 (pa_cons (pv 0) (pa_cons (pe_callTy (cr_listText rfl) (by rfl) T.n_list (by decide +kernel) (pa_cons (pe_op op_add_str (pv 1) pe_str) pa_nil)) pa_nil))))
  (pss_cons (ps_if (pt_cmpR op_eq (pe_call G_law_take (hr.mono (by decide)) rfl T.g_law_take T.f_law_take.kp (b_law_take T) .nil pass0 (pa_cons (pv 0) (pa_cons pe_int pa_nil))) pe_int (nomark _))
  (pss_one (ps_set (i := 2) sc_law_chained.nd rfl (.inr rfl) (pe_op op_cat (pe_lst (pa_cons pe_str pa_nil)) (pv 2))))
  pss_nil)
  (pss_cons (ps_setLc (i := 3) (own := [("at", 4)]) (tt := tYes) rfl sc_law_chained.nd rfl rfl (sw_true rfl rfl rfl (by decide +kernel)) (pi_range1 (by rfl) T.n_range (pa_cons (pe_op op_sub (pe_callB call_len (by rfl) T.n_len (by decide +kernel) (pa_cons (pv 2) pa_nil)) pe_int) pa_nil)) (blkOk_by (N := N_law_chained) (sc := defScope s_law_chained) (by decide +kernel)) (fun _ _ _ _ _ => (pg_name (i := 4) sc_law_chained.nd rfl (.inl rfl))) (fun _ _ _ _ _ => pts_nil) (fun _ _ _ _ _ => (pe_tup (pa_cons (pe_ix (r := rIxL K) ix_list (pv 2) (pv 4) (fun _ _ => rfl)) (pa_cons (pe_ix (r := rIxL K) ix_list (pv 2) (pe_op op_add (pv 4) pe_int) (fun _ _ => rfl)) pa_nil)))))
  (pss_cons (ps_set (i := 5) sc_law_chained.nd rfl (.inl rfl) (pe_call G_law_pick (hr.mono (by decide)) rfl T.g_law_pick T.f_law_pick.kp (b_law_pick T) .nil pass0 (pa_cons (pv 0) (pa_cons (pe_lst (pa_cons (pe_revL (pv 3)) (pa_cons (pv 3) (pa_cons (pe_call G_law_shuffled (hr.mono (by decide)) rfl T.g_law_shuffled T.f_law_shuffled.kp (b_law_shuffled T) .nil pass0 (pa_cons (pv 0) (pa_cons (pv 3) pa_nil))) pa_nil)))) pa_nil))))
  (pss_one (ps_ret (pe_callTy call_tuple_of (by rfl) T.n_tuple (by decide +kernel) (pa_cons (pe_slice sl_list (pv 5) (po_some (pe_call G_law_take (hr.mono (by decide)) rfl T.g_law_take T.f_law_take.kp (b_law_take T) .nil pass0 (pa_cons (pv 0) (pa_cons pe_int pa_nil)))) po_none) pa_nil)))))))), ?_⟩
    refine ⟨_, rfl, _, rfl, _, _, rfl, rfl, ?_, cols ++ [114], (by rw [r_app]; try rfl), (by simp; try omega), fun L0 hL0 => ?_⟩
    · show (tx cols).length + 1 ≤ _
      rw [tx_len]
      exact le_line (by omega)
    have oL0 := D.own hL0
    have ll : ((cols ++ [114]).map oneV).length = cols.length + 1 := by
      rw [List.length_map, List.length_append]
      rfl
    refine ⟨d, W, C, n + 25, L0, _, rfl, upd_same, by omega, (D.put oL0 _).mono (by omega), fun L ys H1 im ly D1 sd1 oL l1 => ?_⟩
    have sd1' : Sd d W H H1 := ((Sd.refl H).put hL0).trans sd1
    have lok : LineOk cols ys := fun i y hy => by
      obtain ⟨c, hc, e⟩ := List.mem_map.mp (im y (List.mem_of_getElem? hy))
      exact .inl ⟨c, hc, e.symm⟩
    dsimp only [gName]
    refine seq_gen (fun σ' H' => ∃ (L : Addr) (zs : List V), σ' = [some (.ref d), some (.str (tx cols)), some (.ref L), none, none, none] ∧ zs.length ≤ 6 ∧ 1 ≤ zs.length ∧ LineOk cols zs ∧ Drw H' d W C (n + 24) ∧ Sd d W H H' ∧ Own3 d W C L ∧ H' L = some (.lst zs)) ?_ ?_
    · rintro σ' H2 ⟨L, zs, rfl, z6, z1, lok, D2, sd2, oL, l2⟩
      refine ⟨_, rfl, _, zs.length, rfl, .inl ⟨_, SqL.of l2, rfl⟩, _, _, rfl, rfl, _, rfl, by omega, by omega, fun D0 hD => ?_⟩
      have z0 : ((zs.length : Int) - 1).toNat = zs.length - 1 := by omega
      rw [z0]
      have oD := D2.own hD
      have hD0 := sd2.back oD hD
      have nLD : L ≠ D0 := ne_of_none l2 hD
      refine lc_it walk_range (fun i H' => ∃ ys : List V, AllT (Gd d W D0 H') (TieOk cols) ys ∧ ys.length ≤ i ∧ Drw H' d W C (n + 24) ∧ Sd d W H H' ∧ H' D0 = some (.lst ys) ∧ H' L = some (.lst zs)) ⟨[], fun _ z => (nomatch z), Nat.le_refl _, D2.put oD _, sd2.put hD0, upd_same, by rw [upd_ne nLD]; exact l2⟩ (fun _ _ _ _ => trivial) ?_ ?_
      · rintro i x H3 H3' hi ⟨ys, ay, yl, D3, sd3, l3, lL⟩ ⟨rfl, rfl⟩
        have i1 : i < zs.length := by omega
        have i2 : i + 1 < zs.length := by omega
        have e1 : (0 : Int) + (i : Nat) = ((i : Nat) : Int) := by omega
        have e2 : (0 : Int) + (i : Nat) + 1 = ((i + 1 : Nat) : Int) := by omega
        refine ⟨rfl, ?_⟩
        unfold tYes
        refine iteT ⟨_, rfl, _, rfl, L, zs, _, zs[i], rfl, rfl, SqL.of lL, ?_, _, rfl, _, rfl, _, _, rfl, rfl, L, zs, _, zs[i + 1], rfl, rfl, SqL.of lL, ?_, le_line (by simp), fun Tp hT => ?_⟩
        · show atI zs ((0 : Int) + (i : Nat)) = _
          rw [e1]
          exact atI_nat (List.getElem?_eq_getElem i1)
        · show atI zs ((0 : Int) + (i : Nat) + 1) = _
          rw [e2]
          exact atI_nat (List.getElem?_eq_getElem i2)
        have oT := D3.own hT
        have nDT : D0 ≠ Tp := ne_of_none l3 hT
        have nLT : L ≠ Tp := ne_of_none lL hT
        refine ⟨ys, (by rw [upd_ne nDT]; exact l3), small1000 (by omega), ys ++ [.ref Tp], ?_, ?_, (D3.put oT _).put oD _, (sd3.trans (Sd.new hT)).put hD0, upd_same, ?_⟩
        · rw [Gd.put oD]
          intro y hy
          rcases List.mem_append.mp hy with hy | hy
          · exact (ay.same (Gd.sd (F := D0) (Sd.new hT))) y hy
          · rw [List.mem_singleton.mp hy]
            have k2 := lok (i + 1) _ (List.getElem?_eq_getElem i2)
            have k1 := lok i _ (List.getElem?_eq_getElem i1)
            rcases k2 with ⟨c2, m2, g2⟩ | ⟨z, _⟩
            · rcases k1 with ⟨c1, m1, g1⟩ | ⟨_, g1⟩
              · rw [g1, g2]
                exact ⟨([c1], c2), ⟨set_of_sub col (List.singleton_sublist.mpr m1), m2⟩, tie_of (Gd.at_ oT nDT.symm upd_same)⟩
              · rw [g1, g2]
                exact ⟨([], c2), ⟨set_of_sub col (List.nil_sublist _), m2⟩, tie_of (Gd.at_ oT nDT.symm upd_same)⟩
            · cases z
        · rw [List.length_append]
          show ys.length + 1 ≤ i + 1
          omega
        · rw [upd_ne nLD, upd_ne nLT]
          exact lL
      · rintro H3 ⟨ys, ay, yl, D3, sd3, l3, lL⟩
        have y5 : ys.length ≤ 5 := by omega
        refine ⟨_, rfl, _, rfl, D0, ys, rfl, SqL.of l3, fun R hR => ?_⟩
        have oR := D3.own hR
        have D4 := D3.put oR (.lst ys.reverse)
        have nDR : D0 ≠ R := ne_of_none l3 hR
        have l4 : (upd H3 R (.lst ys.reverse)) D0 = some (.lst ys) := by rw [upd_ne nDR]; exact l3
        refine ⟨_, rfl, _, rfl, _, rfl, d, W, C, n + 10, D0, ys, rfl, l4, by omega, D4.mono (by omega), fun S ws H5 iw lw D5 sd5 oS l5 => ⟨le_line (by simp), fun M hM => ?_⟩⟩
        have oM := D5.own hM
        have lR5 : H5 R = some (.lst ys.reverse) := sd5.own oR upd_same
        have lD5 := sd5.own oD l4
        refine ⟨d, W, C, n + 9, M, _, rfl, D5.put oM _, own_hid oM upd_same, by simp, by simp, fun j x H6 hx D6 sd6 => ?_⟩
        have at6 : ∀ {Z : Addr} {ws : List V}, Own3 d W C Z → H5 Z = some (.lst ws) → H6 Z = some (.lst ws) := fun {Z ws} oZ h => sd6.own oZ (by rw [upd_ne (ne_of_none h hM)]; exact h)
        have pickd : ∃ (Z : Addr) (ws : List V), x = .ref Z ∧ Own3 d W C Z ∧ H6 Z = some (.lst ws) ∧ (∀ y ∈ ws, y ∈ ys) ∧ ws.length ≤ 5 := by
          rcases j with _ | _ | _ | j
          · exact ⟨R, _, (Option.some.inj hx).symm, oR, at6 oR lR5, fun y hy => List.mem_reverse.mp hy, by rw [List.length_reverse]; exact y5⟩
          · exact ⟨D0, _, (Option.some.inj hx).symm, oD, at6 oD lD5, fun y hy => hy, y5⟩
          · exact ⟨S, _, (Option.some.inj hx).symm, oS, at6 oS l5, iw, by omega⟩
          · cases hx
        obtain ⟨Z, wz, rfl, oZ, lZ, iz, lz⟩ := pickd
        have sdX : Sd d W H3 H6 := (((Sd.new hR).trans sd5).trans (Sd.new hM)).trans sd6
        refine ⟨_, rfl, _, rfl, d, W, C, n + 8, 2, rfl, D6, by decide, by decide, fun k H7 k0 k1 D7 sd7 => ⟨_, rfl, Z, wz, rfl, SqL.of (sd7.own oZ lZ), fun S2 hS2 => ⟨S2, _, rfl, .inl ⟨SqL.of upd_same, fun l hl => ?_⟩⟩⟩⟩
        have o2 := D7.own hS2
        have D8 := D7.put o2 (.lst (cutV wz (some k) none))
        have ol := D8.own hl
        have sdY : Sd d W H3 (upd (upd H7 S2 (.lst (cutV wz (some k) none))) l (.tup (cutV wz (some k) none))) := ((sdX.trans sd7).trans (Sd.new hS2)).trans (Sd.new hl)
        have az : AllT (Hid d W (upd (upd H7 S2 (.lst (cutV wz (some k) none))) l (.tup (cutV wz (some k) none)))) (TieOk cols) (cutV wz (some k) none) := ((ay.same Gd.sub).same sdY).sub fun y hy => iz y (mem_cutV y hy)
        obtain ⟨us, el, pu, du⟩ := AllT.ties az
        have cl := cutV_length wz (some k) none
        exact q us l _ _ pu (by omega) ((D8.put ol _).mono (by omega)) (sd3.trans sdY) (own_hid ol upd_same) du
    · intro X hX
      refine ⟨_, rfl, d, W, C, n + 24, 3, rfl, D1.mono (by omega), by decide, by decide, fun k H2 k0 k1 D2 sd2 => ⟨rfl, _, rfl, ite2 (fun z => ?_) (fun z => ?_)⟩⟩
      · have l2 := sd2.own oL l1
        refine ⟨le_line (by simp), fun M hM => ?_⟩
        have oM := D2.own hM
        refine ⟨_, rfl, M, L, _, ys, rfl, rfl, upd_same, (by rw [upd_ne (ne_of_none l2 hM)]; exact l2), le_line (by simp; omega), fun S hS => ?_⟩
        have D3 := D2.put oM (.lst [.str (Str.ofString "")])
        have oS := D3.own hS
        refine hX _ _ ⟨S, _, rfl, ?_, ?_, ?_, D3.put oS _, ((sd1'.trans sd2).trans (Sd.new hM)).trans (Sd.new hS), oS, upd_same⟩
        · simp
          omega
        · simp
        · intro i y hy
          cases i with
          | zero => exact .inr ⟨rfl, (Option.some.inj hy).symm⟩
          | succ i =>
            rcases lok i y hy with h | ⟨rfl, h⟩
            · exact .inl h
            · obtain ⟨c, hc, e⟩ := List.mem_map.mp (im y (List.mem_of_getElem? hy))
              exact .inl ⟨c, hc, e.symm⟩
      · exact hX _ _ ⟨L, ys, rfl, by omega, by omega, lok, D2, sd1'.trans sd2, oL, sd2.own oL l1⟩
end
end G04
set_option Elab.async false
set_option linter.all false
set_option maxRecDepth 100000
set_option maxHeartbeats 4000000

namespace G04
open PySem PySem.Spec PyProof.Rows L2 Mw LamX
def spLawSet : Sp := fun vs H Q _ => ∃ (cols : List Nat) (v : V) (dd : PyData), vs = [.str (tx cols), v] ∧ ColOk cols ∧ Dt H dd v ∧ (∀ x, dd = .str x → x.length ≤ 900) ∧ ∀ H', Same H H' → Q (.bl (setB cols dd)) H'
section
variable {P : Program} {w : World} {K : PySem.W.Frag} {mg : Str → Option Value} {base : Heap}
theorem ok_law_set (T : Txt K mg) : FnOk P w K mg base CX0 1 (He.ga K "_law_is_set") (fdOf K (He.ga K "_law_is_set")) ["columns", "thing"] spLawSet := by
  refine T.f_law_is_set.ok sc_law_is_set (fun vs H Q E h => ?_) (fun cdv A outer s H vs Q E hr h => ?_)
  · obtain ⟨_, _, _, rfl, _⟩ := h
    rfl
  · obtain ⟨cols, v, dd, rfl, col, hd, small, q⟩ := h
    have lc := col_len col
    refine ⟨_, PSs.nox (pss_cons (ps_if (PW.pt (pw_or (pt_not (pt_val (pe_callB call_isi (by rfl) T.n_isinstance (by decide +kernel) (pa_cons (pv 1) (pa_cons (pe_bltn (v := .ty "str") (by rfl) T.n_str (by decide +kernel) rfl) pa_nil))))) (pw_or1 (pt_cmpR (op_neNil hr.units) (pe_lc (own := [("one", 2)]) rfl sc_law_is_set.nd (pi_str (pv 1)) (blkOk_by (N := N_law_is_set) (sc := defScope s_law_is_set) (by decide +kernel)) (fun _ _ _ _ _ => (pg_name (i := 2) sc_law_is_set.nd rfl (.inl rfl))) (fun _ _ _ _ _ => (pts_one (pt_cmpR op_notIn_sign (pv 2) (pe_op op_add_str (pv 0) pe_str) (by rfl)))) (fun _ _ _ _ _ => (pv 2))) (pe_lst pa_nil) (nomark _)))))
  (pss_one (ps_ret pe_bl))
  pss_nil)
  (pss_one (ps_ret (pe_cmpR op_eq (pe_join pe_str (pe_callB (cr_sortText rfl) (by rfl) T.n_sorted (by decide +kernel) (pa_cons (pe_callTy (cr_setText rfl) (by rfl) T.n_set (by decide +kernel) (pa_cons (pv 1) pa_nil)) pa_nil))) (pv 1) (nomark _))))), ?_⟩
    cases dd with
    | str x =>
      have l9 := small x rfl
      refine ⟨_, rfl, _, _, .type "str", _, true, rfl, .ty "str", hd.ty, kitq (show kitB "str" "str" = some true by decide +kernel), _, rfl, ite2 (fun z => absurd z (by decide)) (fun _ => ?_)⟩
      simp only [Dt] at hd
      subst hd
      have ex := ofStr x
      generalize hs : x.cps.toList = s0 at ex
      subst ex
      rw [tx_len] at l9
      refine ⟨_, rfl, _, rfl, fun D hD => ?_⟩
      refine lc_it walk_str (fun i H' => Same H H' ∧ H' D = some (.lst (((s0.take i).filter (fun c => !decide (c ∈ cols ++ [114]))).map oneV))) ⟨same_upd hD, upd_same⟩ (fun _ _ _ _ => trivial) ?_ ?_
      · rintro i x H1 H1' hi ⟨s1, ha⟩ ⟨rfl, c, hc, rfl⟩
        have hc2 := cps_get hc
        have hi2 : i < s0.length := (List.getElem?_eq_some_iff.mp hc2).1
        refine ⟨rfl, _, rfl, _, rfl, _, _, rfl, rfl, ?_, c, _, rfl, rfl, _, rfl, ?_⟩
        · show (tx cols).length + 1 ≤ _
          rw [tx_len]
          exact le_line (by omega)
        rw [take_one hc2, r_app]
        refine ite2 (fun z => ⟨_, rfl, _, ha, ?_, same_into hD s1, ?_⟩) (fun z => ⟨s1, ?_⟩)
        · rw [List.length_map]
          refine small1000 (Nat.le_trans (List.length_filter_le _ _) ?_)
          rw [List.length_take]
          omega
        · have z2 : (!decide (c ∈ cols ++ [114])) = true := z
          rw [upd_same, if_pos z2, List.map_append]
          rfl
        · have z2 : ¬ (!decide (c ∈ cols ++ [114])) = true := z
          rw [if_neg z2, List.append_nil]
          exact ha
      · rintro H1 ⟨s1, ha⟩
        rw [take_all (by rw [tx_size]; exact Nat.le_refl _)] at ha
        refine ⟨le_line (by simp), fun L hL => allocN hL fun H2 s2 l2 => ⟨D, L, _, rfl, rfl, SqL.of (s2 _ _ ha), SqL.of l2, _, rfl, ite2 (fun z => ?_) (fun z => ?_)⟩⟩
        · have bad : setB cols (.str (tx s0)) = false := decide_eq_false fun e => by
            have all : (s0.filter fun c => !decide (c ∈ cols ++ [114])) = [] := by
              rw [List.filter_eq_nil_iff]
              intro c hc
              have m := set_mem (show SetOk cols s0 from e) c hc
              rw [decide_eq_true m]
              decide
            rw [all] at z
            cases z
          have z2 := q H2 (s1.trans s2)
          rw [bad] at z2
          exact z2
        · have all : ∀ c ∈ s0, c ∈ cols ++ [114] := by
            have e : (s0.filter fun c => !decide (c ∈ cols ++ [114])) = [] := by
              cases h : s0.filter fun c => !decide (c ∈ cols ++ [114]) with
              | nil => rfl
              | cons a b =>
                rw [h] at z
                exact absurd rfl z
            intro c hc
            have y := List.filter_eq_nil_iff.mp e c hc
            by_cases m : c ∈ cols ++ [114]
            · exact m
            · exact absurd (by rw [decide_eq_false m]; rfl) y
          have fin : InL s0 := fun c hc => (colr_sub col).subset (all c hc)
          refine ⟨⟨_, rfl⟩, _, rfl, tx s0, rfl, ?_, fun S ks nS met nd kl => ⟨S, ks, rfl, upd_same, ?_, fun M ss nM pm st => ?_⟩⟩
          · rw [tx_size]
            show s0.length + 1 < 4096
            omega
          · rw [tx_size] at kl
            omega
          · have es := sorted_met (l := s0) fin met nd pm st
            subst es
            have sl := srt_len s0
            refine ⟨_, M, (srtL s0).map sg, rfl, rfl, .inl (SqL.of upd_same), ?_, ?_⟩
            · have z := ones_len (srtL s0)
              rw [sg_ones]
              show _ + _ * (tx []).length ≤ 16777216
              omega
            · rw [sg_ones]
              have e2 : Txt.join (Str.ofString "") ((srtL s0).map fun c => tx [c]) = tx (srtL s0) := ones_join _
              rw [e2]
              refine ⟨_, rfl, rfl, ?_⟩
              have e3 : decide (V.str (tx (srtL s0)) = V.str (tx s0)) = setB cols (.str (tx s0)) := by
                rw [strv_dec]
                show decide (s0 = srtL s0) = decide (pickL (cols ++ [114]) s0 = s0)
                refine decide_eq_decide.mpr ⟨fun h => wr_set col (show Wr s0 from h.symm) all, fun h => (set_wr col (show SetOk cols s0 from h)).symm⟩
              rw [e3]
              exact q _ ((s1.trans s2).trans ((same_upd nS).trans (same_upd nM)))
    | _ =>
      refine ⟨_, rfl, _, _, _, _, false, rfl, .ty "str", hd.ty, kitq (by simp only [tyN]; decide +kernel), _, rfl, ite2 (fun _ => q H (Same.refl H)) (fun z => absurd rfl z)⟩
end
end G04
set_option Elab.async false
set_option linter.all false
set_option maxRecDepth 100000
set_option maxHeartbeats 4000000

namespace G04
open PySem PySem.Spec PyProof.Rows L2 Mw LamX
def spRefused (K : PySem.W.Frag) : Sp := fun vs H Q _ => ∃ (m : Addr) (v : V) (dd : PyData) (cols : List Nat) (ts : List Tie), vs = [.ref m, v] ∧ SchA K (He.ga K "Scheme") H m cols ts ∧ PlanOk cols ts ∧ Dt H dd v ∧ cpB 4 dd = true ∧ setB cols dd = false ∧
  dd.showable = true ∧ dd.depth ≤ 60 ∧ dd.shown.length ≤ sizeLine ∧ ∀ H', Same H H' → Q (.bl true) H'
section
variable {P : Program} {w : World} {K : PySem.W.Frag} {mg : Str → Option Value} {base : Heap}
theorem ok_refused (T : Txt K mg) : FnG P w K mg base CX0 9 (He.ga K "_law_refused") (fdOf K (He.ga K "_law_refused")) ["mine", "thing"] (spRefused K) := by
  have G_cl := ok_Scheme_closure (P := P) (w := w) (base := base) T 4
  have CL := T_cls T
  have ME := (T_prop T).1
  have CI := T_init T (c := "BadSet") (f := "letters") (by simp [clI])
  refine fnG_of T.f_law_refused sc_law_refused (fun {vs H Q E} h => ?_) (fun cdv A outer s H vs Q E hr hg h => ?_)
  · obtain ⟨_, _, _, _, _, rfl, _⟩ := h
    rfl
  · obtain ⟨m, v, dd, cols, ts, rfl, hA, pk, hd, hc, bad, sh, dp, sz, q⟩ := h
    refine ⟨_, PSs.nox (pss_cons (ps_set (i := 2) sc_law_refused.nd rfl (.inl rfl) pe_non)
  (pss_cons (ps_try_keep (X := (cxOf C8.CX0 P w K mg base N_law_refused "_law_refused" (defScope s_law_refused) (He.fAd K ("_law_refused", none)) cdv A outer s H E).nox) (i := 3) (c := .ref (He.ga K "MeanError"))
      (tb := fun W => tDrop (tMethAt (He.ga K "Scheme") "closure" (spClosM 4 K (He.ga K "Scheme") (He.ga K "BadSet")) (WE W) (tVar 0) (tCons (tVar 1) tNil)))
      rfl rfl rfl sc_law_refused.nd rfl rfl ⟨rfl, by decide, .inl T.g_MeanError⟩ LamX.takes0 (fun W pn xe tk _ => pss_one (ps_expr (pe_methAt (E := WE W) (pv 0) CL.1.is.cl ME G_cl (hr.mono (by decide)) (b_Scheme_closure T) (fun σ => passAt tk σ) (pa_cons (pv 1) pa_nil)))) (fun a oe cls d pn hz hf => pss_one (ps_set (i := 2) sc_law_refused.nd rfl (.inl rfl) (pv 3))))
  (pss_cons (ps_if (PW.pt (pw_or (pt_val (pe_callB call_isiXT (by rfl) T.n_isinstance (by decide +kernel) (pa_cons (pv 2) (pa_cons (pe_tup (pa_cons (pe_glob (v := .ref (He.ga K "BadColumns")) (by rfl) T.g_BadColumns rfl) (pa_cons (pe_glob (v := .ref (He.ga K "BadDependence")) (by rfl) T.g_BadDependence rfl) (pa_cons (pe_glob (v := .ref (He.ga K "BadLevel")) (by rfl) T.g_BadLevel rfl) pa_nil)))) pa_nil)))) (pw_or1 (pt_not (pt_val (pe_callB call_isiX (by rfl) T.n_isinstance (by decide +kernel) (pa_cons (pv 2) (pa_cons (pe_glob (v := .ref (He.ga K "BadSet")) (by rfl) T.g_BadSet rfl) pa_nil))))))))
  (pss_one (ps_ret pe_bl))
  pss_nil)
  (pss_one (ps_ret (pe_and (pe_callB call_isiX (by rfl) T.n_isinstance (by decide +kernel) (pa_cons (pv 2) (pa_cons (pe_bltn (v := .ty "ValueError") (by rfl) T.n_ValueError (by decide +kernel) rfl) pa_nil))) (pe_one (pe_cmpR op_eq (pe_callB (call_repr T.sys hg hr.units) (by rfl) T.n_repr (by decide +kernel) (pa_cons (Mw.pe_fldX (f := "letters") (pv 2)) pa_nil)) (pe_callB (call_repr T.sys hg hr.units) (by rfl) T.n_repr (by decide +kernel) (pa_cons (pv 1) pa_nil)) (nomark _))))))))), ?_⟩
    obtain ⟨dx0, f1, f2, hm, hcl⟩ := id hA
    refine ⟨_, rfl, m, dx0, _, rfl, hm, rfl, _, rfl, m, v, dd, cols, ts, rfl, hA, pk, hd, hc, .inr ⟨bad, fun dx w H1 s1 hdx hw hn => ?_⟩⟩
    refine ⟨true, T_catch T, fun _ a ha => ⟨_, rfl, fun ha2 => ?_⟩, fun z => nomatch z⟩
    have sa : Same H1 (upd H1 a (XcO (.ref (He.ga K "BadSet")) (some dx) a)) := same_upd ha2
    have isx : IsX (upd H1 a (XcO (.ref (He.ga K "BadSet")) (some dx) a)) a (He.ga K "BadSet") dx [("letters", w)] := ⟨upd_same, sa _ _ hdx⟩
    have k1 : PySem.W.kitOne K (.ref (He.ga K "BadSet")) (.ref (He.ga K "BadColumns")) = some false := T_kind T (q := (.ref (He.ga K "BadColumns"), false)) (by simp [kindT])
    have k2 : PySem.W.kitOne K (.ref (He.ga K "BadSet")) (.ref (He.ga K "BadDependence")) = some false := T_kind T (q := (.ref (He.ga K "BadDependence"), false)) (by simp [kindT])
    have k3 : PySem.W.kitOne K (.ref (He.ga K "BadSet")) (.ref (He.ga K "BadLevel")) = some false := T_kind T (q := (.ref (He.ga K "BadLevel"), false)) (by simp [kindT])
    have k4 : PySem.W.kitOne K (.ref (He.ga K "BadSet")) (.ref (He.ga K "BadSet")) = some true := T_kind T (q := (.ref (He.ga K "BadSet"), true)) (by simp [kindT])
    have k5 : PySem.W.kitOne K (.ref (He.ga K "BadSet")) (.type "ValueError") = some true := T_kind T (q := (.type "ValueError", true)) (by simp [kindT])
    refine ⟨_, rfl, le_line (by simp), fun tp htp => allocN htp fun H2 s2 l2 => ?_⟩
    have isy : IsX H2 a (He.ga K "BadSet") dx [("letters", w)] := ⟨s2 _ _ isx.1, s2 _ _ isx.2⟩
    have sall : Same H H2 := (s1.trans sa).trans s2
    refine ⟨a, _, dx, tp, _, _, _, false, rfl, isy, CI.2.1, l2, .cons (.own _) (.cons (.own _) (.cons (.own _) .nil)), kitAny_cons k1 (fun _ => kitAny_cons k2 (fun _ => kitAny_cons k3 (fun _ => rfl) fun z => nomatch z) fun z => nomatch z) (fun z => nomatch z), _, rfl, ite2 (fun z => absurd z (by decide)) (fun _ => ?_)⟩
    refine ⟨_, rfl, a, _, dx, _, _, _, true, rfl, isy, CI.2.1, .own _, k4, _, rfl, ite2 (fun z => absurd z (by decide)) (fun _ => ?_)⟩
    refine ⟨_, rfl, a, _, dx, _, _, _, true, rfl, isy, CI.2.1, .ty _, k5, _, rfl, ite2 (fun _ => ?_) (fun z => absurd rfl z)⟩
    have hw2 : Dt H2 dd w := Dt.same (fun b u e => s2 _ _ (sa _ _ ((Nw.sub fun b o e1 e2 => ⟨e1, e2⟩) b u e |> fun z => by
      unfold Nw at z
      split at z
      · exact z
      · cases z))) _ _ hw
    refine ⟨_, rfl, a, _, dx, _, w, rfl, isy, rfl, CI.2.1, CI.2.2.no, w, dd, rfl, hw2, sh, dp, sz, _, rfl, v, dd, rfl, Dt.same sall _ _ hd, sh, dp, sz, rfl, ?_⟩
    rw [decide_eq_true rfl]
    exact q H2 sall
end
end G04
set_option Elab.async false
set_option linter.all false
set_option maxRecDepth 100000
set_option maxHeartbeats 8000000

namespace G04
open PySem PySem.Spec PyProof.Rows L2 Mw LamX
def spLaw (K : PySem.W.Frag) : Sp := fun vs H Q _ => ∃ (a : Addr) (ns : List Int), vs = [.ref a] ∧ SqL K H a (ns.map V.int) ∧ ns.length ≤ 63 ∧ Tabs (tabs K) H ∧ ∀ H', Q (.bl true) H'
section
variable {P : Program} {w : World} {K : PySem.W.Frag} {mg : Str → Option Value} {base : Heap}
theorem b_init2 (T : Txt K mg) : Binds K (fdOf K (He.fAd K ("Scheme", some "__init__"))) ["self", "columns", "dependences"] [] := by
  obtain ⟨ds, h1, h2⟩ := FunD.binds1 (ps := ["self", "columns", "dependences"]) T.f_Scheme_init 3 1 (by simp) (by rfl) fun T kV doc pm an cdv ct us its hu hi => match us, its, hu, hi with
    | [_, _, _], [_], _, _ => ⟨_, rfl, rfl⟩
  cases h1
  exact h2
theorem b_cloKw (T : Txt K mg) : ∀ (s : Shared) (a : Value) (ws : List Value), K.In s.heap → ws.length = (["letters"] : List Str).length → BindsTo s (fdOf K (He.fAd K ("Scheme", some "closure"))) ⟨[a], (["letters"] : List Str).zip ws⟩ ((["self", "letters"] : List Str).zip (a :: ws)) := fun s a ws _ h => match ws, h with
  | [v], _ => bindsK1 T.f_Scheme_closure (fun _ _ _ _ _ _ _ _ => rfl) s a v
theorem ok_law (T : Txt K mg) (GT : Gets K) (TB : TabB base mg (He.cT K pA).1 (He.cT K pA).2) : FnG P w K mg base CX0 12 (He.ga K "law") (fdOf K (He.ga K "law")) ["script"] (spLaw K) := by
  have G_law_begun : FnOk P w K mg base CX0 1 (He.ga K "_law_begun") (fdOf K (He.ga K "_law_begun")) ["script"] (spBegun K) := ok_begun T
  have G_law_take : FnOk P w K mg base CX0 2 (He.ga K "_law_take") (fdOf K (He.ga K "_law_take")) ["draw", "size"] spTake := ok_take T
  have G_law_drawn : FnOk P w K mg base CX0 4 (He.ga K "_law_drawn") (fdOf K (He.ga K "_law_drawn")) ["draw", "most", "ties"] spDrawn8 := ok_drawn T
  have G_law_chained : FnOk P w K mg base CX0 4 (He.ga K "_law_chained") (fdOf K (He.ga K "_law_chained")) ["draw", "columns"] spChained := ok_chained T
  have G_law_shuffled : FnOk P w K mg base CX0 3 (He.ga K "_law_shuffled") (fdOf K (He.ga K "_law_shuffled")) ["draw", "some"] (spShufP K) := ok_shuffledP T
  have G_law_sets : FnOk P w K mg base CX0 1 (He.ga K "_law_sets") (fdOf K (He.ga K "_law_sets")) ["columns"] spLawSets := ok_law_sets T
  have G_law_closure : FnOk P w K mg base CX0 2 (He.ga K "_law_closure") (fdOf K (He.ga K "_law_closure")) ["plan", "some"] spClosure := ok_closure T
  have G_law_closed : FnOk P w K mg base CX0 3 (He.ga K "_law_closed") (fdOf K (He.ga K "_law_closed")) ["plan"] spLawClosed := ok_law_closed T
  have G_law_odd : FnOk P w K mg base CX0 4 (He.ga K "_law_odd") (fdOf K (He.ga K "_law_odd")) ["draw"] spOdd := ok_odd T
  have G_law_is_set : FnOk P w K mg base CX0 1 (He.ga K "_law_is_set") (fdOf K (He.ga K "_law_is_set")) ["columns", "thing"] spLawSet := ok_law_set T
  have G_init := ok_Scheme_init2 (P := P) (w := w) (base := base) T TB
  have G_cs := ok_closed_sets (P := P) (w := w) (base := base) T
  have G_cl := ok_Scheme_closure (P := P) (w := w) (base := base) T 1
  have G_ref := ok_refused (P := P) (w := w) (base := base) T
  have G_pc := ok_columns_get (P := P) (w := w) (base := base) T GT
  have G_pd := ok_dependences_get (P := P) (w := w) (base := base) T GT
  have CL := T_cls T
  have MK := T_mk T
  have ME := He.meth_ok MK.2.2
  have MC := (T_prop T).1
  have b2 := b_init2 T
  refine fnG_of T.f_law sc_law (fun {vs H Q E} h => ?_) (fun cdv A outer s H vs Q E hr hg h => ?_)
  · obtain ⟨_, _, rfl, _⟩ := h
    rfl
  · obtain ⟨a, ns, rfl, hS, hl, tb0, q⟩ := h
    refine ⟨_, PSs.nox (pss_cons (ps_set (i := 1) sc_law.nd rfl (.inl rfl) (pe_call G_law_begun (hr.mono (by decide)) rfl T.g_law_begun T.f_law_begun.kp (b_law_begun T) .nil pass0 (pa_cons (pv 0) pa_nil)))
  (pss_cons (ps_for PassesOwn.never rfl (pi_range1 (by rfl) T.n_range (pa_cons (pe_op op_add pe_int (pe_callB (call_min2 rfl) (by rfl) T.n_min (by decide +kernel) (pa_cons (pe_callB call_len (by rfl) T.n_len (by decide +kernel) (pa_cons (pv 0) pa_nil)) (pa_cons pe_int pa_nil)))) pa_nil)) (pg_name (i := 2) sc_law.nd rfl (.inl rfl))
  (pss_cons (ps_set (i := 3) sc_law.nd rfl (.inr rfl) (pe_call G_law_drawn (hr.mono (by decide)) rfl T.g_law_drawn T.f_law_drawn.kp (b_law_drawn T) .nil pass0 (pa_cons (pv 1) (pa_cons pe_int (pa_cons pe_int pa_nil)))))
  (pss_cons (ps_if (pt_cmpR op_eq (pe_call G_law_take (hr.mono (by decide)) rfl T.g_law_take T.f_law_take.kp (b_law_take T) .nil pass0 (pa_cons (pv 1) (pa_cons pe_int pa_nil))) pe_int (nomark _))
  (pss_one (ps_set (i := 3) sc_law.nd rfl (.inr rfl) (pe_tup (pa_cons (pe_ix (r := rIxT K) ix_tup (pv 3) pe_int (fun _ _ => rfl)) (pa_cons (pe_call G_law_chained (hr.mono (by decide)) rfl T.g_law_chained T.f_law_chained.kp (b_law_chained T) .nil pass0 (pa_cons (pv 1) (pa_cons (pe_ix (r := rIxT K) ix_tup (pv 3) pe_int (fun _ _ => rfl)) pa_nil))) pa_nil)))))
  pss_nil)
  (pss_cons (ps_par (i := 4) (j := 5) rfl sc_law.nd rfl rfl (by decide) rfl rfl (pa_cons (pe_make MK.1 G_init (hr.mono (by decide)) rfl T.g_Scheme b2 .nil pass0 (pa_cons (pe_ix (r := rIxT K) ix_tup (pv 3) pe_int (fun _ _ => rfl)) (pa_cons (pe_ix (r := rIxT K) ix_tup (pv 3) pe_int (fun _ _ => rfl)) pa_nil))) (pa_cons (pe_make MK.1 G_init (hr.mono (by decide)) rfl T.g_Scheme b2 .nil pass0 (pa_cons (pe_ix (r := rIxT K) ix_tup (pv 3) pe_int (fun _ _ => rfl)) (pa_cons (pe_call G_law_shuffled (hr.mono (by decide)) rfl T.g_law_shuffled T.f_law_shuffled.kp (b_law_shuffled T) .nil pass0 (pa_cons (pv 1) (pa_cons (pe_callTy call_list_of (by rfl) T.n_list (by decide +kernel) (pa_cons (pe_ix (r := rIxT K) ix_tup (pv 3) pe_int (fun _ _ => rfl)) pa_nil)) pa_nil))) pa_nil))) pa_nil)) (by rfl))
  (pss_cons (ps_for PassesOwn.never rfl (pi_list (pe_call G_law_sets (hr.mono (by decide)) rfl T.g_law_sets T.f_law_sets.kp (b_law_sets T) .nil pass0 (pa_cons (pe_ix (r := rIxT K) ix_tup (pv 3) pe_int (fun _ _ => rfl)) pa_nil))) (pg_name (i := 6) sc_law.nd rfl (.inl rfl))
  (pss_cons (ps_set (i := 7) sc_law.nd rfl (.inl rfl) (pe_call G_law_closure (hr.mono (by decide)) rfl T.g_law_closure T.f_law_closure.kp (b_law_closure T) .nil pass0 (pa_cons (pv 3) (pa_cons (pv 6) pa_nil))))
  (pss_one (ps_if (pt_cmpR op_ne (pe_callB (call_repr T.sys hg hr.units) (by rfl) T.n_repr (by decide +kernel) (pa_cons (pe_lst (pa_cons (pe_meth (pv 4) CL.1.is.cl MC G_cl (hr.mono (by decide)) (b_Scheme_closure T) .nil passF (pa_cons (pv 6) pa_nil)) (pa_cons (pe_methKw (ks := ["letters"]) (g := fun ws => ws) (gV := fun zs => zs) (pv 4) CL.1.is.cl MC G_cl (hr.mono (by decide)) (b_cloKw T) (fun r => r) passF (pk_cons (pv 6) pk_nil)) (pa_cons (pe_meth (pv 5) CL.1.is.cl MC G_cl (hr.mono (by decide)) (b_Scheme_closure T) .nil passF (pa_cons (pv 6) pa_nil)) pa_nil)))) pa_nil)) (pe_callB (call_repr T.sys hg hr.units) (by rfl) T.n_repr (by decide +kernel) (pa_cons (pe_op op_rep (pe_lst (pa_cons (pv 7) pa_nil)) pe_int) pa_nil)) (nomark _))
  (pss_one (ps_ret pe_bl))
  pss_nil))))
  (pss_cons (ps_set (i := 7) sc_law.nd rfl (.inl rfl) (pe_call G_law_closed (hr.mono (by decide)) rfl T.g_law_closed T.f_law_closed.kp (b_law_closed T) .nil pass0 (pa_cons (pv 3) pa_nil)))
  (pss_cons (ps_set (i := 8) sc_law.nd rfl (.inl rfl) (pe_meth0 (pv 4) CL.1.is.cl ME G_cs (hr.mono (by decide)) (b_Scheme_closed_sets T) .nil pass0))
  (pss_cons (ps_if (PW.pt (pw_or (pt_not (pt_val (pe_callB call_isi (by rfl) T.n_isinstance (by decide +kernel) (pa_cons (pv 8) (pa_cons (pe_bltn (v := .ty "list") (by rfl) T.n_list (by decide +kernel) rfl) pa_nil))))) (pw_or1 (pt_cmpR op_ne (pe_callB (call_repr T.sys hg hr.units) (by rfl) T.n_repr (by decide +kernel) (pa_cons (pe_lst (pa_cons (pv 8) (pa_cons (pe_meth0 (pv 5) CL.1.is.cl ME G_cs (hr.mono (by decide)) (b_Scheme_closed_sets T) .nil pass0) pa_nil))) pa_nil)) (pe_callB (call_repr T.sys hg hr.units) (by rfl) T.n_repr (by decide +kernel) (pa_cons (pe_lst (pa_cons (pv 7) (pa_cons (pv 7) pa_nil))) pa_nil)) (nomark _)))))
  (pss_one (ps_ret pe_bl))
  pss_nil)
  (pss_cons (ps_expr (pe_bm0 PySem.F.plainAttrs_list PySem.F.slot_list_clear PySem.F.type_list_clear mt_clear (pv 8)))
  (pss_cons (ps_if (PW.pt (pw_or (pt_cmpR (op_neD hr.units) (pe_meth0 (pv 4) CL.1.is.cl ME G_cs (hr.mono (by decide)) (b_Scheme_closed_sets T) .nil pass0) (pv 7) (nomark _)) (pw_or (pt_cmpR (op_neD hr.units) (pe_prop (pv 4) CL.1.is.cl (T_prop T).2.2.1 G_pd (hr.mono (by decide)) (b_dependences_get T GT) .nil pass0 (by rfl)) (pe_ix (r := rIxT K) ix_tup (pv 3) pe_int (fun _ _ => rfl)) (nomark _)) (pw_or1 (pt_cmpR op_ne (pe_prop (pv 4) CL.1.is.cl (T_prop T).2.1 G_pc (hr.mono (by decide)) (b_columns_get T GT) .nil pass0 (by rfl)) (pe_ix (r := rIxT K) ix_tup (pv 3) pe_int (fun _ _ => rfl)) (nomark _))))))
  (pss_one (ps_ret pe_bl))
  pss_nil)
  (pss_cons (ps_set (i := 9) sc_law.nd rfl (.inl rfl) (pe_op op_cat (pe_lc (own := [("one", 6)]) rfl sc_law.nd (pi_str pe_str) (blkOk_by (N := N_law) (sc := defScope s_law) (by decide +kernel)) (fun _ _ _ _ _ => (pg_name (i := 6) sc_law.nd rfl (.inl rfl))) (fun _ _ _ _ _ => (pts_one (pt_cmpR op_notIn_sign (pv 6) (pe_ix (r := rIxT K) ix_tup (pv 3) pe_int (fun _ _ => rfl)) (by rfl)))) (fun _ _ _ _ _ => (pv 6))) (pe_lst (pa_cons pe_str (pa_cons (pe_op op_add_str (pe_op op_add_str (pe_ix (r := rIxT K) ix_tup (pv 3) pe_int (fun _ _ => rfl)) pe_str) (pe_ix (r := rIxT K) ix_tup (pv 3) pe_int (fun _ _ => rfl))) (pa_cons (pe_op op_add_str pe_str (pe_ix (r := rIxT K) ix_tup (pv 3) pe_int (fun _ _ => rfl))) (pa_cons pe_str pa_nil)))))))
  (pss_one (ps_for PassesOwn.never rfl (pi_list (pe_op op_cat (pv 9) (pe_lst (pa_cons (pe_call G_law_odd (hr.mono (by decide)) rfl T.g_law_odd T.f_law_odd.kp (b_law_odd T) .nil pass0 (pa_cons (pv 1) pa_nil)) (pa_cons (pe_call G_law_odd (hr.mono (by decide)) rfl T.g_law_odd T.f_law_odd.kp (b_law_odd T) .nil pass0 (pa_cons (pv 1) pa_nil)) (pa_cons (pe_callTy (cr_listText rfl) (by rfl) T.n_list (by decide +kernel) (pa_cons (pe_ix (r := rIxT K) ix_tup (pv 3) pe_int (fun _ _ => rfl)) pa_nil)) (pa_cons pe_non pa_nil))))))) (pg_name (i := 10) sc_law.nd rfl (.inl rfl))
  (pss_one (ps_if (PW.pt (pw_and (pt_not (pt_val (pe_call G_law_is_set (hr.mono (by decide)) rfl T.g_law_is_set T.f_law_is_set.kp (b_law_is_set T) .nil pass0 (pa_cons (pe_ix (r := rIxT K) ix_tup (pv 3) pe_int (fun _ _ => rfl)) (pa_cons (pv 10) pa_nil))))) (pw_and1 (pt_not (pt_val (pe_callG G_ref (hr.mono (by decide)) hg rfl T.g_law_refused T.f_law_refused.kp (b_law_refused T) .nil pass0 (pa_cons (pv 4) (pa_cons (pv 10) pa_nil))))))))
  (pss_one (ps_ret pe_bl))
  pss_nil)))))))))))))))
  (pss_one (ps_ret pe_bl)))), ?_⟩
    refine ⟨_, rfl, a, ns, rfl, hS, hl, fun d W C H0 D0 s0 => ?_⟩
    have hS0 : SqL K H0 a (ns.map V.int) := s0.seq hS
    refine ⟨_, rfl, _, ns.length, rfl, .inl ⟨_, hS0, by rw [List.length_map]⟩, _, _, rfl, _, _, rfl, rfl, _, rfl, by split <;> omega, by split <;> omega, ?_⟩
    generalize hj : (3 + if (12 : Int) < (ns.length : Int) then (12 : Int) else (ns.length : Int)) = j
    have hj20 : j.toNat ≤ 15 := by
      rw [← hj]
      split <;> omega
    refine for_it walk_range (fun i σ H' => ∃ x2 x3 x4 x5 x6 x7 x8 x9 x10 : Option V, σ = [some (.ref a), some (.ref d), x2, x3, x4, x5, x6, x7, x8, x9, x10] ∧ Drw H' d W C (10000 - 400 * i) ∧ Tabs (tabs K) H') ⟨_, _, _, _, _, _, _, _, _, rfl, D0.mono (by decide), tb0.ext s0⟩ (fun _ _ _ _ _ => trivial) ?_ ?_
    · rintro i x σ H1 H1' hi ⟨x2, x3, x4, x5, x6, x7, x8, x9, x10, rfl, D1, tb1⟩ ⟨rfl, rfl⟩
      have i20 : i < 15 := by omega
      refine ⟨_, rfl, d, W, C, 10000 - 400 * i - 100, 8, rfl, by decide, D1.mono (by omega), fun cols ts v H2 pk tl D2 sd2 dt2 => ?_⟩
      have tb2 := Tabs.sd D1 tb1 sd2
      dsimp only [gName]
      refine seq_gen (fun σ' H' => ∃ (ts : List Tie) (v : V), σ' = [some (.ref a), some (.ref d), some (.int (0 + i)), some v, x4, x5, x6, x7, x8, x9, x10] ∧ PlanOk cols ts ∧ ts.length ≤ 8 ∧ Drw H' d W C (10000 - 400 * i - 140) ∧ Tabs (tabs K) H' ∧ Dt (Hid d W H') (planD cols ts) v) ?_ ?_
      · clear tl pk dt2
        rintro σ' H3 ⟨ts, v, rfl, pk, tl, D3, tb3, dt3⟩
        obtain ⟨p, q0, xs, rfl, hp, hq, hx⟩ := plan_at dt3
        have lc := col_len pk.col
        have up3 := Hid.sub d W H3
        have lx := DtL.length hx
        rw [List.length_map] at lx
        refine ⟨_, rfl, p, _, 0, _, rfl, rfl, SqT.of (up3 _ _ hp), rfl, _, rfl, p, _, 1, _, rfl, rfl, SqT.of (up3 _ _ hp), rfl, ?_⟩
        intro m dx0 n01 n02 _
        refine mk_of2 n01 n02 pk (by omega) (.inr (SqT.of (up3 _ _ hq))) (DtL.same up3 _ _ hx) tb3 (fun H4 e4 tb4 A4 B4 => ⟨rfl, ?_⟩)
        have D4 := D3.extn e4
        have h34 : ExtN (Hid d W H3) (Hid d W H4) := ExtN.hid d W e4
        have AM4 := scha_hid D4 A4
        have BM4 := schd_hid D4 A4 B4
        have hp4 := tupN h34 hp
        have hq4 := tupN h34 hq
        have hx4 := DtL.extn h34 _ _ hx
        have P4 := Dt.extn h34 _ _ dt3
        have up4 := Hid.sub d W H4
        refine ⟨_, rfl, p, _, 0, _, rfl, rfl, SqT.of (up4 _ _ hp4), rfl, _, rfl, _, rfl, p, _, 1, _, rfl, rfl, SqT.of (up4 _ _ hp4), rfl, q0, xs, rfl, .inr (SqT.of (up4 _ _ hq4)), fun L hL => ?_⟩
        have oL := D4.own hL
        refine ⟨d, W, C, 10000 - 400 * i - 160, L, xs, rfl, upd_same, by omega, (D4.put oL _).mono (by omega), fun S ys H5 pm D5 sd5 oS l5 => ?_⟩
        have sd45 : Sd d W H4 H5 := (Sd.new hL).trans sd5
        obtain ⟨es, pe, he⟩ := DtL.perm (DtL.same sd45 _ _ hx4) pm
        obtain ⟨us, rfl, pus⟩ := perm_map tieD pe ts rfl
        have pu : PlanOk cols us := ⟨pk.col, fun t ht => pk.tie t (pus.mem_iff.mp ht)⟩
        have tb5 := Tabs.sd (D4.put oL _) (tb4.ext (same_upd hL)) sd5
        intro o dx1 n11 n12 _
        refine mk_of2 n11 n12 pu (by rw [pus.length_eq]; omega) (.inl l5) (DtL.same (Hid.sub d W H5) _ _ he) tb5 (fun H6 e6 tb6 A6 _ => ⟨rfl, ?_⟩)
        have D6 := D5.extn e6
        have h46 : ExtN (Hid d W H4) (Hid d W H6) := (ExtN.of sd45).trans (ExtN.hid d W e6)
        have AM := AM4.extn h46
        have BM := BM4.extn h46
        have AO := scha_hid D6 A6
        have hp6 := tupN h46 hp4
        have hq6 := tupN h46 hq4
        have hx6 := DtL.extn h46 _ _ hx4
        have P6 := Dt.extn h46 _ _ P4
        have up6 := Hid.sub d W H6
        have same_ts : ∀ t, t ∈ ts ↔ t ∈ us := fun t => pus.mem_iff.symm
        clear hp hq hx hp4 hq4 hx4 P4 AM4 BM4 A4 B4 A6 dt3 he
        refine ⟨_, _, rfl, ?_⟩
        dsimp only
        refine seq_gen (fun σ' H' => ∃ x6 x7 : Option V, σ' = [some (.ref a), some (.ref d), some (.int (0 + i)), some (.ref p), some (.ref m), some (.ref o), x6, x7, x8, x9, x10] ∧ Same H6 H') ?_ ?_
        · rintro σ' H7 ⟨x6, x7, rfl, s7⟩
          have u7 := up6.trans s7
          have D7 := D6.same s7
          refine ⟨_, rfl, .ref p, cols, ts, rfl, Dt.same u7 _ _ P6, pk, by omega, fun ld H8 n8 s8 h8 => ?_⟩
          rw [closed_same] at h8
          have u8 := u7.trans s8
          have AM8 := AM.extn (ExtN.of u8)
          obtain ⟨e1, f1, f2, hm8, r8⟩ := id AM8
          refine ⟨_, rfl, m, e1, _, rfl, hm8, rfl, m, cols, ts, rfl, AM8, fun lt H9 n9 s9 h9 => ?_⟩
          have ct := closed_texts (ts := ts) pk.col
          have cl := closed_len (ts := ts) pk.col
          have swT : Shw (32 * (10 * 5 + 4) + 3) 4 (.list ((closedOf cols ts).map .str)) := shw_texts (k := 3) ct cl
          have sw2 : Shw (2 * (32 * (10 * 5 + 4) + 3 + 2) + 3) 5 (.list [.list ((closedOf cols ts).map .str), .list ((closedOf cols ts).map .str)]) := Shw.list (fun d hd => by
            have e : d = .list ((closedOf cols ts).map .str) := by simpa using hd
            rw [e]
            exact swT) (Nat.le_refl 2)
          obtain ⟨v1, v2, v3⟩ := sw2.rep (by decide) (by decide)
          have lay := closed_lay (ts := ts) (col_lt pk.col)
          dsimp only [gName]
          refine seq_gen (fun σ' H' => σ' = [some (.ref a), some (.ref d), some (.int (0 + i)), some (.ref p), some (.ref m), some (.ref o), x6, some (.ref ld), some (.ref lt), x9, x10] ∧ Same H9 H') ?_ ?_
          · rintro σ' H10 ⟨rfl, s10⟩
            refine ⟨_, rfl, .inl ⟨rfl, _, SqL.of (s10 _ _ h9)⟩, lt, _, rfl, rfl, s10 _ _ h9, ?_⟩
            have s811 : Same H8 (upd H10 lt (.lst [])) := same_into n9 (s9.trans s10)
            have D11 : Drw (upd H10 lt (.lst [])) d W C (10000 - 400 * i - 160) := ((((D7.same s8).same s9).same s10).put ((D7.same s8).own n9) _).mono (by omega)
            have tb11 : Tabs (tabs K) (upd H10 lt (.lst [])) := (tb6.ext s7).ext (s8.trans s811)
            revert s811 D11 tb11
            generalize upd H10 lt (.lst []) = H11
            intro s811 D11 tb11
            have u11 := u8.trans s811
            dsimp only
            refine seq_gen (fun σ' H' => σ' = [some (.ref a), some (.ref d), some (.int (0 + i)), some (.ref p), some (.ref m), some (.ref o), x6, some (.ref ld), some (.ref lt), x9, x10] ∧ Same H11 H') ?_ ?_
            · rintro σ' H12 ⟨rfl, s12⟩
              have sd12 : Sd d W H6 H12 := Sd.of (s7.trans (s8.trans (s811.trans s12)))
              have D12 := D11.same s12
              have tb12 := tb11.ext s12
              have hp12 := sd12 _ _ hp6
              have up12 := Hid.sub d W H12
              have hpU := up12 _ _ hp12
              refine ⟨_, rfl, fun D hD => ?_⟩
              refine lc_it walk_str (fun j H' => Same H12 H' ∧ ∃ ss : List V, H' D = some (.lst ss) ∧ ss.length ≤ j ∧ ∀ y ∈ ss, FewT y) ⟨same_upd hD, [], upd_same, Nat.le_refl _, fun _ z => nomatch z⟩ (fun _ _ _ _ => trivial) ?_ ?_
              · rintro jj x HA HA' hjj ⟨sA, ss, lD, sl, fw⟩ ⟨rfl, c, hc, rfl⟩
                have hc2 : abcd[jj]? = some c := cps_get (l := abcd) hc
                have hj4 : jj < 4 := (List.getElem?_eq_some_iff.mp hc2).1
                have c2 : c < 200 := by
                  have z : ∀ x ∈ abcd, x < 200 := by decide
                  exact z c (List.mem_of_getElem? hc2)
                refine ⟨rfl, _, rfl, _, rfl, p, _, 0, _, rfl, rfl, SqT.of (sA _ _ hpU), rfl, c, _, rfl, rfl, _, rfl, ite2 (fun z => ⟨_, rfl, _, lD, small1000 (by omega), same_into hD sA, _, upd_same, ?_, ?_⟩) (fun z => ⟨sA, ss, lD, by omega, fw⟩)⟩
                · rw [List.length_append]
                  show ss.length + 1 ≤ jj + 1
                  omega
                · intro y hy
                  rcases List.mem_append.mp hy with hy | hy
                  · exact fw y hy
                  · rw [List.mem_singleton.mp hy]
                    exact ⟨[c], rfl, (show 1 ≤ 20 by decide), fun x hx => by rw [List.mem_singleton.mp hx]; exact c2⟩
              · rintro HA ⟨sA, ss, lD, sl, fw⟩
                have sl4 : ss.length ≤ 4 := sl
                have hpA := sA _ _ hpU
                have txl : (tx cols).length ≤ 4 := by rw [tx_len]; exact lc
                refine ⟨_, rfl, p, _, 0, _, rfl, rfl, SqT.of hpA, rfl, _, _, rfl, rfl, ?_, _, rfl, p, _, 0, _, rfl, rfl, SqT.of hpA, rfl, _, _, rfl, rfl, ?_, _, rfl, p, _, 0, _, rfl, rfl, SqT.of hpA, rfl, _, _, rfl, rfl, ?_, le_line (by simp), fun L hL => ?_⟩
                · show (tx cols).length + 1 ≤ _
                  exact le_line (by omega)
                · rw [r_app, tx_len, tx_len, List.length_append]
                  show cols.length + 1 + cols.length ≤ _
                  exact le_line (by omega)
                · show 1 + (tx cols).length ≤ _
                  exact le_line (by omega)
                refine ⟨D, L, ss, _, rfl, rfl, (by rw [upd_ne (ne_of_none lD hL)]; exact lD), upd_same, le_line (by simp; omega), fun M hM => ?_⟩
                have DA := D12.same sA
                have oL := DA.own hL
                have oM := (DA.put oL _).own hM
                have fwM : ∀ y ∈ ss ++ [V.str (Str.ofString "rr"), V.str (tx cols ++ Str.ofString "r" ++ tx cols), V.str (Str.ofString "r" ++ tx cols), V.str (Str.ofString "z")], FewT y := by
                  intro y hy
                  rcases List.mem_append.mp hy with hy | hy
                  · exact fw y hy
                  · simp only [List.mem_cons, List.not_mem_nil, or_false] at hy
                    have cl2 := col_lt pk.col
                    rcases hy with rfl | rfl | rfl | rfl
                    · exact ⟨[114, 114], rfl, by decide, by decide⟩
                    · refine ⟨cols ++ [114] ++ cols, by rw [r_app, tx_app], by simp; omega, fun x hx => ?_⟩
                      rcases List.mem_append.mp hx with hx | hx
                      · exact colr_lt pk.col x hx
                      · exact cl2 x hx
                    · refine ⟨[114] ++ cols, by rw [r_one, tx_app], by simp; omega, fun x hx => ?_⟩
                      rcases List.mem_append.mp hx with hx | hx
                      · rw [List.mem_singleton.mp hx]
                        decide
                      · exact cl2 x hx
                    · exact ⟨[122], rfl, by decide, by decide⟩
                have lenM : (ss ++ [V.str (Str.ofString "rr"), V.str (tx cols ++ Str.ofString "r" ++ tx cols), V.str (Str.ofString "r" ++ tx cols), V.str (Str.ofString "z")]).length ≤ 8 := by
                  rw [List.length_append]
                  show ss.length + 4 ≤ 8
                  omega
                revert fwM lenM
                generalize ss ++ [V.str (Str.ofString "rr"), V.str (tx cols ++ Str.ofString "r" ++ tx cols), V.str (Str.ofString "r" ++ tx cols), V.str (Str.ofString "z")] = mm
                intro fwM lenM
                have sB : Same HA (upd (upd HA L (.lst [V.str (Str.ofString "rr"), V.str (tx cols ++ Str.ofString "r" ++ tx cols), V.str (Str.ofString "r" ++ tx cols), V.str (Str.ofString "z")])) M (.lst mm)) := (same_upd hL).trans (same_upd hM)
                have lM : (upd (upd HA L (.lst [V.str (Str.ofString "rr"), V.str (tx cols ++ Str.ofString "r" ++ tx cols), V.str (Str.ofString "r" ++ tx cols), V.str (Str.ofString "z")])) M (.lst mm)) M = some (.lst mm) := upd_same
                revert sB lM
                generalize (upd (upd HA L (.lst [V.str (Str.ofString "rr"), V.str (tx cols ++ Str.ofString "r" ++ tx cols), V.str (Str.ofString "r" ++ tx cols), V.str (Str.ofString "z")])) M (.lst mm)) = HB
                intro sB lM
                have sd6B : Sd d W H6 HB := sd12.trans (Sd.of (sA.trans sB))
                have DB := D12.same (sA.trans sB)
                have tbB := tb12.ext (sA.trans sB)
                dsimp only [gName]
                refine ⟨_, rfl, _, rfl, d, W, C, 10000 - 400 * i - 161, rfl, DB.mono (by omega), fun dd1 v1 H20 od1 D20 sd20 dv1 => ?_⟩
                refine ⟨_, rfl, d, W, C, 10000 - 400 * i - 162, rfl, D20.mono (by omega), fun dd2 v2 H21 od2 D21 sd21 dv2 => ?_⟩
                have sd6X : Sd d W H6 H21 := (sd6B.trans sd20).trans sd21
                have hp21 := Hid.sub d W H21 _ _ (sd6X _ _ hp6)
                have lM21 := (sd20.trans sd21).own oM lM
                refine ⟨_, rfl, p, _, 0, _, rfl, rfl, SqT.of hp21, rfl, cols, rfl, by omega, fun L2 hL2 => allocN hL2 fun H22 s22 l22 => ⟨le_line (by simp), fun L3 hL3 => allocN hL3 fun H23 s23 l23 => ?_⟩⟩
                refine ⟨M, L3, mm, _, rfl, rfl, s23 _ _ (s22 _ _ lM21), l23, le_line (by simp; omega), fun N hN => allocN hN fun H24 s24 l24 => ⟨N, rfl, ⟨_, SqL.of l24⟩, ?_⟩⟩
                have s2124 := (s22.trans s23).trans s24
                have u24 : Same (Hid d W H6) H24 := Same.trans sd6X ((Hid.sub d W H21).trans s2124)
                have u21 : Same (Hid d W H21) H24 := (Hid.sub d W H21).trans s2124
                have good : ∀ y ∈ mm ++ [v1, v2, .ref L2, .non], ∃ dd, Good dd ∧ Dt H24 dd y := by
                  intro y hy
                  rcases List.mem_append.mp hy with hy | hy
                  · obtain ⟨t, rfl, t1, t2⟩ := fwM y hy
                    exact ⟨_, good_text t1 t2, by simp only [Dt]⟩
                  · simp only [List.mem_cons, List.not_mem_nil, or_false] at hy
                    rcases hy with rfl | rfl | rfl | rfl
                    · exact ⟨dd1, good_odd dd1 od1, Dt.same u21 _ _ (Dt.same sd21 _ _ dv1)⟩
                    · exact ⟨dd2, good_odd dd2 od2, Dt.same u21 _ _ dv2⟩
                    · refine ⟨_, good_ones pk.col, Dt.lst (s24 _ _ (s23 _ _ l22)) ?_⟩
                      have z := dtl_texts (H := H24) (cols.map fun c => tx [c])
                      rw [List.map_map, List.map_map] at z
                      exact z
                    · exact ⟨.none, good_odd .none (by simp [oddD]), by simp only [Dt]⟩
                refine for_it (walk_list (xs := mm ++ [v1, v2, .ref L2, .non])) (fun j σ H' => ∃ x10 : Option V, σ = [some (.ref a), some (.ref d), some (.int (0 + i)), some (.ref p), some (.ref m), some (.ref o), x6, some (.ref ld), some (.ref lt), some (.ref M), x10] ∧ Same H24 H') ⟨_, rfl, Same.refl _⟩ (fun _ _ _ _ z => by obtain ⟨_, _, z⟩ := z; exact SqL.of (z _ _ l24)) ?_ ?_
                · rintro jj x σ H30 H30' hjj ⟨x10, rfl, s30⟩ ⟨rfl, hxj⟩
                  obtain ⟨dd, gd, dt⟩ := good x (List.mem_of_getElem? hxj)
                  refine ⟨_, rfl, p, _, 0, _, rfl, rfl, SqT.of (s30 _ _ (u24 _ _ hp6)), rfl, _, rfl, cols, x, dd, rfl, pk.col, Dt.same s30 _ _ dt, gd.sm, fun H31 s31 => ⟨_, rfl, ?_⟩⟩
                  cases e : setB cols dd with
                  | true => exact ite2 (fun z => absurd z (by decide)) (fun _ => ⟨_, rfl, s30.trans s31⟩)
                  | false =>
                    refine ite2 (fun _ => ?_) (fun z => absurd rfl z)
                    have u31 := (u24.trans s30).trans s31
                    refine ⟨_, rfl, _, rfl, m, x, dd, cols, ts, rfl, AM.extn (ExtN.of u31), pk, Dt.same (s30.trans s31) _ _ dt, gd.cp, e, gd.sh, gd.dp, gd.sz, fun H32 s32 => ⟨_, rfl, ite2 (fun z => absurd z (by decide)) (fun _ => ⟨_, rfl, (s30.trans s31).trans s32⟩)⟩⟩
                · rintro σ H30 ⟨x10, rfl, s30⟩
                  exact ⟨_, _, _, _, _, _, _, _, _, rfl, ((D21.same s2124).same s30).mono (by omega), (Tabs.sd D20 (Tabs.sd DB tbB sd20) sd21).ext (s2124.trans s30)⟩
            · intro X hX
              have AM11 := AM.extn (ExtN.of u11)
              obtain ⟨e2, g1, g2, hm11, r11⟩ := id AM11
              refine ⟨_, rfl, m, e2, _, rfl, hm11, rfl, m, cols, ts, rfl, AM11, fun l2 H12 n12 s12 h12 => ⟨_, rfl, .list ((closedOf cols ts).map .str), .list ((closedOf cols ts).map .str), .lst (SqL.of h12) (dp_texts _), .lst (SqL.of (s12 _ _ (s811 _ _ h8))) (dp_texts _), shaped_list _ lay, shaped_list _ lay, _, rfl, ite2 (fun z => ?_) (fun _ => ?_)⟩⟩
              · have e : PyData.eqv (.list ((closedOf cols ts).map .str)) (.list ((closedOf cols ts).map .str)) = true := (eqv_texts _ _).trans (decide_eq_true rfl)
                rw [e] at z
                cases z
              have u12 := u11.trans s12
              obtain ⟨e3, q1, q2, zs, hm12, hz1, hz2⟩ := BM.extn (ExtN.of u12)
              have hp12 := u12 _ _ hp6
              have hq12 := u12 _ _ hq6
              have dx12 := DtL.same u12 _ _ hx6
              refine ⟨_, rfl, m, e3, _, rfl, hm12, m, e3, _, _, rfl, hm12, rfl, _, rfl, p, _, 1, _, rfl, rfl, SqT.of hp12, rfl, .tuple (ts.map tieD), .tuple (ts.map tieD), .tup hz1 (dp_ties hz2), .tup (SqT.of hq12) (dp_ties dx12), shaped_ties (tie_lt pk), shaped_ties (tie_lt pk), _, rfl, ite2 (fun z => ?_) (fun _ => ?_)⟩
              · have e : PyData.eqv (.tuple (ts.map tieD)) (.tuple (ts.map tieD)) = true := eqv_ties ts
                rw [e] at z
                cases z
              refine ⟨_, rfl, m, e3, _, rfl, hm12, m, e3, _, _, rfl, hm12, rfl, _, rfl, p, _, 0, _, rfl, rfl, SqT.of hp12, rfl, rfl, _, rfl, ite2 (fun z => absurd z (by simp)) (fun _ => hX _ _ ⟨rfl, s12⟩)⟩
          · intro X hX
            refine ⟨_, rfl, .ref lt, _, .type "list", _, true, rfl, .ty "list", .base (.lst h9), kitq (show kitB "list" "list" = some true by decide +kernel), _, rfl, ite2 (fun z => absurd z (by decide)) (fun _ => ?_)⟩
            have AO9 := AO.extn (ExtN.of (u8.trans s9))
            obtain ⟨e2, g1, g2, ho9, r9⟩ := id AO9
            refine ⟨_, rfl, _, rfl, o, e2, _, rfl, ho9, rfl, o, cols, us, rfl, AO9, fun lo H10 n10 s10 h10 => ⟨le_line (by simp), fun L1 hL1 => allocN hL1 fun H11 s11 l11 => ?_⟩⟩
            rw [closed_perm same_ts] at h10
            have dlst : ∀ {G : Hp} {z : Addr}, G z = some (.lst ((closedOf cols ts).map V.str)) → Dt G (.list ((closedOf cols ts).map .str)) (.ref z) := fun h => Dt.lst h (dtl_texts _)
            refine ⟨.ref L1, .list [.list ((closedOf cols ts).map .str), .list ((closedOf cols ts).map .str)], rfl, Dt.lst l11 (.cons (dlst (s11 _ _ (s10 _ _ h9))) (.cons (dlst (s11 _ _ h10)) .nil)), v1, v2, v3, ?_⟩
            refine ⟨_, rfl, _, rfl, le_line (by simp), fun L2 hL2 => allocN hL2 fun H12 s12 l12 => ?_⟩
            have hd12 := s12 _ _ (s11 _ _ (s10 _ _ (s9 _ _ h8)))
            refine ⟨.ref L2, .list [.list ((closedOf cols ts).map .str), .list ((closedOf cols ts).map .str)], rfl, Dt.lst l12 (.cons (dlst hd12) (.cons (dlst hd12) .nil)), v1, v2, v3, ?_⟩
            exact ⟨rfl, _, rfl, ite2 (fun z => absurd z (by simp)) (fun _ => hX _ _ ⟨rfl, (s10.trans s11).trans s12⟩)⟩
        · intro X hX
          refine ⟨_, rfl, p, _, 0, _, rfl, rfl, SqT.of (up6 _ _ hp6), rfl, cols, rfl, lc, fun l H7 nl s7 h7 => ⟨l, rfl, ⟨_, SqL.of h7⟩, ?_⟩⟩
          refine for_it (walk_list (xs := (lawSets cols).map V.str)) (fun j σ H' => ∃ x6 x7 : Option V, σ = [some (.ref a), some (.ref d), some (.int (0 + i)), some (.ref p), some (.ref m), some (.ref o), x6, x7, x8, x9, x10] ∧ Same H7 H') ⟨_, _, rfl, Same.refl _⟩ (fun _ _ _ _ z => by obtain ⟨_, _, _, z⟩ := z; exact SqL.of (z _ _ h7)) ?_ ?_
          · rintro jj x σ H8 H8' hjj ⟨x6, x7, rfl, s8⟩ ⟨rfl, hxj⟩
            obtain ⟨y, hy, rfl⟩ := map_get hxj
            obtain ⟨s1, hs, rfl⟩ := mem_sets.mp (List.mem_of_getElem? hy)
            have so := pow_set pk.col hs
            have wr := set_wr pk.col so
            have ls := set_len pk.col so
            have u8 : Same (Hid d W H6) H8' := (up6.trans s7).trans s8
            refine ⟨_, rfl, _, rfl, .ref p, cols, ts, s1, rfl, Dt.same u8 _ _ P6, pk, wr.inL, ls, by omega, fun H9 s9 => ?_⟩
            have AM9 := AM.extn (ExtN.of (u8.trans s9))
            obtain ⟨e1, f1, f2, hm9, r9⟩ := id AM9
            refine ⟨_, rfl, m, e1, _, rfl, hm9, rfl, _, rfl, m, _, .str (tx s1), cols, ts, rfl, AM9, pk, by simp only [Dt], rfl, .inl ⟨s1, rfl, so, fun H10 s10 => ?_⟩⟩
            refine ⟨_, rfl, m, e1, _, rfl, s10 _ _ hm9, rfl, _, rfl, rfl, m, _, .str (tx s1), cols, ts, rfl, AM9.extn (ExtN.of s10), pk, by simp only [Dt], rfl, .inl ⟨s1, rfl, so, fun H11 s11 => ?_⟩⟩
            have AO11 := AO.extn (ExtN.of (((u8.trans s9).trans s10).trans s11))
            obtain ⟨e2, g1, g2, ho11, r11⟩ := id AO11
            refine ⟨_, rfl, o, e2, _, rfl, ho11, rfl, _, rfl, o, _, .str (tx s1), cols, us, rfl, AO11, pu, by simp only [Dt], rfl, .inl ⟨s1, rfl, so, fun H12 s12 => ?_⟩⟩
            rw [clo_perm pk pu so same_ts]
            have lcl := clo_len (cols := cols) (ts := ts) ls (cols.length + 2)
            have ccl := clo_cols pk (s := s1) (fun c hc => set_mem so c hc) (cols.length + 2)
            generalize clo cols ts s1 (cols.length + 2) = c at lcl ccl
            have shw : Shw (3 * (10 * 5 + 4) + 3) 4 (.list [.str (tx c), .str (tx c), .str (tx c)]) := shw_texts (l := [tx c, tx c, tx c]) (k := 3) (fun y hy => ⟨c, by simpa using hy, lcl, fun z hz => colr_lt pk.col z (ccl z hz)⟩) (by simp)
            obtain ⟨v1, v2, v3⟩ := shw.rep (by decide) (by decide)
            have dstr : ∀ G : Hp, Dt G (.str (tx c)) (.str (tx c)) := fun G => by simp only [Dt]
            refine ⟨le_line (by simp), fun L1 hL1 => allocN hL1 fun H13 s13 l13 => ?_⟩
            refine ⟨.ref L1, .list [.str (tx c), .str (tx c), .str (tx c)], rfl, Dt.lst l13 (.cons (dstr _) (.cons (dstr _) (.cons (dstr _) .nil))), v1, v2, v3, ?_⟩
            refine ⟨_, rfl, le_line (by simp), fun L2 hL2 => allocN hL2 fun H14 s14 l14 => ?_⟩
            refine ⟨L2, 3, _, rfl, rfl, l14, by decide, by decide, le_line (by simp), fun L3 hL3 => allocN hL3 fun H15 s15 l15 => ?_⟩
            refine ⟨.ref L3, .list [.str (tx c), .str (tx c), .str (tx c)], rfl, Dt.lst l15 (.cons (dstr _) (.cons (dstr _) (.cons (dstr _) .nil))), v1, v2, v3, ?_⟩
            refine ⟨rfl, _, rfl, ite2 (fun z => absurd z (by simp)) (fun _ => ⟨_, _, rfl, ?_⟩)⟩
            exact ((((((s8.trans s9).trans s10).trans s11).trans s12).trans s13).trans s14).trans s15
          · rintro σ H8 ⟨x6, x7, rfl, s8⟩
            exact hX _ _ ⟨_, _, rfl, s7.trans s8⟩
      · intro X hX
        obtain ⟨p, q0, xs, rfl, hp, hq, hx⟩ := plan_at dt2
        refine ⟨_, rfl, d, W, C, 10000 - 400 * i - 101, 3, rfl, D2.mono (by omega), by decide, by decide, fun k H3 k0 k1 D3 sd3 => ⟨rfl, _, rfl, ite2 (fun z => ?_) (fun z => ?_)⟩⟩
        · have hp3 := Hid.sub d W H3 _ _ (sd3 _ _ hp)
          refine ⟨_, rfl, p, _, 0, _, rfl, rfl, SqT.of hp3, rfl, _, rfl, _, rfl, p, _, 0, _, rfl, rfl, SqT.of hp3, rfl, d, W, C, 10000 - 400 * i - 140, cols, rfl, pk.col, D3.mono (by omega), fun us q1 ys H4 pu ul D4 sd4 h1 du => ⟨le_line (by simp), fun pp hpp => ?_⟩⟩
          have op := D4.own hpp
          have sdY : Sd d W H4 (upd H4 pp (.tup [.str (tx cols), .ref q1])) := Sd.new hpp
          have D5 := D4.put op (.tup [.str (tx cols), .ref q1])
          refine hX _ _ ⟨us, .ref pp, rfl, ⟨pk.col, pu⟩, by omega, D5, Tabs.sd D4 (Tabs.sd D3 (Tabs.sd D2 tb2 sd3) sd4) sdY, plan_of (own_hid op upd_same) (sdY _ _ h1) (DtL.same sdY _ _ du)⟩
        · exact hX _ _ ⟨ts, .ref p, rfl, pk, tl, D3.mono (by omega), Tabs.sd D2 tb2 sd3, Dt.same sd3 _ _ dt2⟩
    · rintro σ H1 ⟨x2, x3, x4, x5, x6, x7, x8, x9, x10, rfl, D1, tb1⟩
      exact q H1
end
end G04
set_option Elab.async false
set_option linter.all false
set_option maxRecDepth 100000
set_option maxHeartbeats 8000000
namespace G04
open PySem PySem.Spec PyProof.Rows L2 Mw LamX
abbrev R : PySem.W.OpenRow := PySem.W.OpenLaw.row PySem.Challenge.rw_meanways_k04_closures
abbrev tf : List He.Defn := [pA]
abbrev hk : PySem.W.Hook := hookGet 6 fa fn tf gs
def ob (s : PySem.W.SharedT) : (He.AlD × Bool) × List He.FnW := obsGet 6 fa fn tf gs (HandSHeadRun.getT s)
theorem ob_eq (s : PySem.W.SharedT) : ob s = hk.obs s.abs := obsGet_eq (HandSHeadRun.getT_eq s)
abbrev others : List Str := [("_wall" : Str), ("_copied" : Str), ("MeanError" : Str), ("BadColumns" : Str), ("BadSet" : Str), ("BadDependence" : Str), ("BadLevel" : Str), ("COLUMNS" : Str), ("ROW" : Str), ("MOST_DEPENDENCES" : Str), ("_picked" : Str), ("_all_sets" : Str), ("is_columns" : Str), ("is_set" : Str), ("is_within" : Str), ("is_dependence" : Str), ("_checked_dependences" : Str), ("_is_closed" : Str), ("_all_closed" : Str), ("Scheme" : Str), ("_law_begun" : Str), ("_law_mixed" : Str), ("_law_take" : Str), ("_law_pick" : Str), ("_law_shuffled" : Str), ("_law_odd" : Str), ("_law_columns" : Str), ("_law_letters" : Str), ("_law_drawn" : Str), ("_law_is_within" : Str), ("_law_closure" : Str), ("_law_sets" : Str), ("_law_closed" : Str), ("_law_chained" : Str), ("_law_is_set" : Str), ("_law_refused" : Str)]
theorem run (w : World) : HandSHeadRun.RunEqI R (PySem.W.view R.prog [39]) hk ob 9000 others w := by
  unfold HandSHeadRun.RunEqI
  kernel_rfl
theorem facts {P : Program} {w : World} {K : PySem.W.Frag} {h : Heap} {mg : Str → Option Value} {f : Addr} (X : K.In h) (G : h.Ns mainGlobals mg) (hfa : mg ("law" : Str) = some (.ref f)) (c : SaysM fa fn K) (GT : Gets K) :
    ∃ fd : FuncData, (∀ (s : Shared) (v : Value), BindsTo s fd ⟨[v], []⟩ [("script", v)]) ∧ ∀ base : Heap, K.In base → base.Ns mainGlobals mg → (∀ p ∈ [pA], TabB base mg (He.cT K p).1 (He.cT K p).2) → FnG P w K mg base CX0 12 f fd ["script"] (spLaw K) := by
  have T := txt_of X G c
  have e := hfa.symm.trans T.g_law
  cases e
  have b := FunD.bindsA (ps := ["script"]) T.f_law fun _ _ _ _ _ _ us hl => match us, hl with | [_], _ => rfl
  exact ⟨_, fun s v => b s [v] rfl, fun base _ _ tb => ok_law T GT (tb pA List.mem_cons_self)⟩
end G04
open PySem PySem.W PySem.Calls PyProof.Rows
theorem PySem.Challenge.cw_meanways_k04_closures_holds : PySem.Challenge.rw_meanways_k04_closures.Holds := by
  w_on; o_law
  refine HandSHeadRun.head_imp (r := OpenLaw.row PySem.Challenge.rw_meanways_k04_closures) (q := view (OpenLaw.row PySem.Challenge.rw_meanways_k04_closures).prog [39]) (H := G04.hk) (ob := G04.ob) (M := 9000) (loose := G04.others) (d := HandSHeadRun.topDef (OpenLaw.row PySem.Challenge.rw_meanways_k04_closures).prog 39) (kwd := []) G04.ob_eq
    G04.run (by kernel_rfl) (by kernel_rfl) (by kernel_rfl) (by rfl) (by first | assumption | decide +kernel) (by decide +kernel) ⟨rfl, rfl, rfl, rfl, rfl, by decide +kernel⟩ ?hw ?hc
  case hw => w_witness2
  case hc =>
    refine Mw.walk_ofGT (l := PySem.Challenge.rw_meanways_k04_closures) (n := 63) (k := 12) (x := "script") (CX := L2.CX0) rfl (by decide) (by kernel_rfl) ⟨rfl, by decide, by decide⟩ ?F (fun _ _ _ _ z => z)
    intro w mg f h Y G hmg0
    obtain ⟨K, KX, c⟩ := Y
    have hmg : mg ("law" : PySem.Str) = some (.ref f) := by
      have e : (HandSHeadRun.topDef (OpenLaw.row PySem.Challenge.rw_meanways_k04_closures).prog 39).name = ("law" : PySem.Str) := by kernel_rfl
      rw [← e]
      exact hmg0
    obtain ⟨fd, hb, hF⟩ := G04.facts (P := (PySem.Challenge.rw_meanways_k04_closures).prog) (w := w) KX G hmg c.mt.m (fun d hd => c.at_ hd)
    refine ⟨K, fd, G04.spLaw K, [He.cT K G04.pA], KX, ?_, hb, ?_, ?_⟩
    · intro p hp
      simp only [List.mem_cons, List.not_mem_nil, or_false] at hp
      subst hp
      exact ⟨c.mt.hd _ (by simp), c.mt.out _ (by simp), c.mt.empty _ (by simp)⟩
    · intro H a ns hl hbits ht hS
      refine ⟨a, ns, rfl, hS, hl, ?_, fun _ => rfl⟩
      intro p hp
      simp only [G04.tabs, List.mem_cons, List.not_mem_nil, or_false] at hp
      subst hp
      exact ⟨#[], ht _ (by simp), by trivial, fun pos cv hc => by cases hc⟩
    · intro base h1 h2 h3
      refine hF base h1 h2 fun p hp => ?_
      simp only [List.mem_cons, List.not_mem_nil, or_false] at hp
      subst hp
      exact h3 _ (by simp)

import PyProof.Rows.All
import Wide.All
import OpenK.AllK
import Wide.FinOn
import KE.KStateDown
import Lean
import HandS.Base
import HandS.Call
import HandS.Ends
import HandS.More
import HandS.Words
import HandS.WordsExc
import HandS.Defaults
import HandS.Head0
import HandS.Head1
import HandS.Head2
import HandS.Head3
import HandS.HeadEnd
import HandS.HeadHook1
import HandS.HeadHook2
import HandS.ForExc
import HandS.Dict
import HandS.Comp
import HandS.Iter
import HandS.Text
import HandS.Flow
import HandS.IsInst
import HandS.ExcInit
import HandS.ExcIs
import HandS.ExcField
import HandS.Wide
import KE.KExcIs
import HandS.ExcValue
import HandS.DictComp
import HandS.EndBits
import HandS.TryOnly
import HandS.Gcd
import HandS.Lambda
import HandS.EndTab
import HandS.HeadHook4
import KE.KNestM
import HandS.Walk
import PyProof.ReprLen
import PyProof.Rows.TupDisplay
import PySem.Challenge.RW_meanways_k02_fractions
set_option Elab.async false
set_option linter.all false
set_option maxRecDepth 100000
set_option maxHeartbeats 1000000
/-! what the head tells: facts of the written part as tests of one's own -/
namespace Mw
open PySem PySem.Spec PyProof.Rows L2
abbrev Fct := PySem.W.Frag → Bool
def asM (n : Nat) (g : Addr → Option Obj) : List Addr := cStatics :: sysModules :: He.asD g n
def obsM (fa : List Fct) (fn : List He.DefD) (K : PySem.W.Frag) : He.AlD := ((fa.all fun f => f K) && fn.all fun d => d.ok K, fn.map fun d => He.fnW K d.at_)
def SaysM (fa : List Fct) (fn : List He.DefD) (K : PySem.W.Frag) : Prop := obsM fa fn K = He.valD fn
def obsMG (n : Nat) (fa : List Fct) (fn : List He.DefD) (g : Addr → Option Obj) : He.AlD := obsM fa fn (He.frG g (asM n g))
def hookM (n : Nat) (fa : List Fct) (fn : List He.DefD) : PySem.W.Hook where
  α := He.AlD
  obs := fun s => obsMG n fa fn s.heap.get?
  val := fun _ => He.valD fn
  says := fun _ h => ∃ K : PySem.W.Frag, K.In h ∧ SaysM fa fn K
  of := fun _ _ e => ⟨_, He.frG_in, e⟩
  keeps := fun _ _ _ ⟨K, hK, c⟩ k => ⟨K, PySem.W.Frag.In.keeps hK k, c⟩
theorem obsMG_eq {n : Nat} {fa : List Fct} {fn : List He.DefD} {g : Addr → Option Obj} {s : Shared} (h : ∀ a, g a = s.heap.get? a) : obsMG n fa fn g = (hookM n fa fn).obs s := by
  have e : g = s.heap.get? := funext h
  subst e
  rfl
theorem SaysM.fact {fa : List Fct} {fn : List He.DefD} {K : PySem.W.Frag} (c : SaysM fa fn K) (i : Nat) {f : Fct} (h : fa[i]? = some f := by rfl) : f K = true := by
  have c0 : ((fa.all fun f => f K) && fn.all fun d => d.ok K) = true := congrArg Prod.fst c
  exact List.all_eq_true.mp (He.ba c0).1 f (List.mem_of_getElem? h)
theorem SaysM.defn {fa : List Fct} {fn : List He.DefD} {K : PySem.W.Frag} (c : SaysM fa fn K) (i : Nat) {d : He.DefD} (h : fn[i]? = some d := by rfl) :
    ∃ fd, FunD K d.name d.qual d.params d.body d.scope (d.dvs K) (d.kws K) (He.fAd K d.at_) fd := by
  have c0 : ((fa.all fun f => f K) && fn.all fun d => d.ok K) = true := congrArg Prod.fst c
  have c1 : fn.map (fun d => He.fnW K d.at_) = fn.map He.DefD.val := congrArg Prod.snd c
  have e2 : (fn.map fun d => He.fnW K d.at_)[i]? = (fn.map He.DefD.val)[i]? := by rw [c1]
  rw [List.getElem?_map, List.getElem?_map, h] at e2
  exact He.DefD.funD (Option.some.inj e2) (List.all_eq_true.mp (He.ba c0).2 d (List.mem_of_getElem? h))
end Mw
set_option Elab.async false
set_option linter.all false
set_option maxRecDepth 100000
set_option maxHeartbeats 1000000
namespace Mw
open PySem PySem.Spec PyProof.Rows L2
/-! data that stand in the abstract heap -/
/-- the data that a key is -/
def kD : Key → PyData
  | .inl i => .int i
  | .inr x => .str x
mutual
def Dt (H : Hp) : PyData → V → Prop
  | .none, v => v = .non
  | .bool b, v => v = .bl b
  | .int i, v => v = .int i
  | .str x, v => v = .str x
  | .list ds, v => ∃ a xs, v = .ref a ∧ H a = some (.lst xs) ∧ DtL H ds xs
  | .tuple ds, v => ∃ a xs, v = .ref a ∧ H a = some (.tup xs) ∧ DtL H ds xs
  | .dict kvs, v => ∃ a, v = .ref a ∧ ((∃ es, H a = some (.dK es) ∧ DtK H kvs es) ∨ ∃ es, H a = some (.dT es) ∧ DtT H kvs es)
def DtL (H : Hp) : List PyData → List V → Prop
  | [], xs => xs = []
  | d :: ds, xs => ∃ x r, xs = x :: r ∧ Dt H d x ∧ DtL H ds r
def DtK (H : Hp) : List (PyData × PyData) → List (Key × V) → Prop
  | [], es => es = []
  | (k, d) :: r, es => ∃ y x t, es = (y, x) :: t ∧ Dt H k (kV y) ∧ Dt H d x ∧ DtK H r t
def DtT (H : Hp) : List (PyData × PyData) → List (List Key × V) → Prop
  | [], es => es = []
  | (k, d) :: r, es => ∃ y x t, es = (y, x) :: t ∧ k = .tuple (y.map kD) ∧ Dt H d x ∧ DtT H r t
end
mutual
theorem Dt.same {H H' : Hp} (s : Same H H') : ∀ (d : PyData) (v : V), Dt H d v → Dt H' d v
  | .none, v, h => by simpa only [Dt] using h
  | .bool _, v, h => by simpa only [Dt] using h
  | .int _, v, h => by simpa only [Dt] using h
  | .str _, v, h => by simpa only [Dt] using h
  | .list ds, v, h => by
    simp only [Dt] at h ⊢
    obtain ⟨a, xs, e, ha, hd⟩ := h
    exact ⟨a, xs, e, s _ _ ha, DtL.same s ds xs hd⟩
  | .tuple ds, v, h => by
    simp only [Dt] at h ⊢
    obtain ⟨a, xs, e, ha, hd⟩ := h
    exact ⟨a, xs, e, s _ _ ha, DtL.same s ds xs hd⟩
  | .dict kvs, v, h => by
    simp only [Dt] at h ⊢
    obtain ⟨a, e, ⟨es, ha, hd⟩ | ⟨es, ha, hd⟩⟩ := h
    · exact ⟨a, e, .inl ⟨es, s _ _ ha, DtK.same s kvs es hd⟩⟩
    · exact ⟨a, e, .inr ⟨es, s _ _ ha, DtT.same s kvs es hd⟩⟩
theorem DtL.same {H H' : Hp} (s : Same H H') : ∀ (ds : List PyData) (xs : List V), DtL H ds xs → DtL H' ds xs
  | [], xs, h => by simpa only [DtL] using h
  | d :: ds, xs, h => by
    simp only [DtL] at h ⊢
    obtain ⟨x, r, e, hx, hr⟩ := h
    exact ⟨x, r, e, Dt.same s d x hx, DtL.same s ds r hr⟩
theorem DtK.same {H H' : Hp} (s : Same H H') : ∀ (ds : List (PyData × PyData)) (xs : List (Key × V)), DtK H ds xs → DtK H' ds xs
  | [], xs, h => by simpa only [DtK] using h
  | (k, d) :: ds, xs, h => by
    simp only [DtK] at h ⊢
    obtain ⟨y, x, t, e, hy, hx, hr⟩ := h
    exact ⟨y, x, t, e, Dt.same s k _ hy, Dt.same s d x hx, DtK.same s ds t hr⟩
theorem DtT.same {H H' : Hp} (s : Same H H') : ∀ (ds : List (PyData × PyData)) (xs : List (List Key × V)), DtT H ds xs → DtT H' ds xs
  | [], xs, h => by simpa only [DtT] using h
  | (k, d) :: ds, xs, h => by
    simp only [DtT] at h ⊢
    obtain ⟨y, x, t, e, hy, hx, hr⟩ := h
    exact ⟨y, x, t, e, hy, Dt.same s d x hx, DtT.same s ds t hr⟩
end
theorem dtk_keys {H : Hp} : ∀ (ks : List Key), DtL H (ks.map kD) (ks.map kV)
  | [] => by simp only [List.map_nil, DtL]
  | k :: ks => by
    simp only [List.map_cons, DtL]
    refine ⟨kV k, _, rfl, ?_, dtk_keys ks⟩
    cases k <;> simp only [kD, Dt, kV]
section
variable {X : Cx} {pins : List (Addr × Obj)} {σ : L2.St} {H : Hp} {s : Shared}
theorem keys_rd {h : Heap} : ∀ (ks : List Key) (us : List Value), Vals (ks.map kV) us → ∃ as, ReadsAll h us (ks.map kD) as ∧ as = []
  | [], us, r => by
    cases r
    exact ⟨[], .nil, rfl⟩
  | k :: ks, us, r => by
    rw [List.map_cons] at r
    cases r with
    | cons r1 r2 =>
      obtain ⟨as, q, rfl⟩ := keys_rd ks _ r2
      refine ⟨[] ++ [], ?_, rfl⟩
      cases k with
      | inl i =>
        obtain ⟨t, rfl⟩ := r1
        exact .cons (.int i t) q
      | inr x =>
        obtain ⟨t, rfl⟩ := r1
        exact .cons (.str x t) q
mutual
/-- what stands as data is read as data; only tracked objects are met -/
theorem Dt.rd (I : Inv X pins σ H s) : ∀ (d : PyData) (v : V) (u : Value), Dt H d v → RelV v u → ∃ as, Reads s.heap u d as ∧ ∀ b ∈ as, H b ≠ none
  | .none, v, u, h, r => by
    simp only [Dt] at h
    subst h; cases r
    exact ⟨[], .none, fun _ z => absurd z (by simp)⟩
  | .bool b, v, u, h, r => by
    simp only [Dt] at h
    subst h; cases r
    exact ⟨[], .bool b, fun _ z => absurd z (by simp)⟩
  | .int i, v, u, h, r => by
    simp only [Dt] at h
    subst h; obtain ⟨t, rfl⟩ := r
    exact ⟨[], .int i t, fun _ z => absurd z (by simp)⟩
  | .str x, v, u, h, r => by
    simp only [Dt] at h
    subst h; obtain ⟨t, rfl⟩ := r
    exact ⟨[], .str x t, fun _ z => absurd z (by simp)⟩
  | .list ds, v, u, h, r => by
    simp only [Dt] at h
    obtain ⟨a, xs, rfl, ha, hd⟩ := h
    cases r
    obtain ⟨_, its, n, rv, ho⟩ := (show ObjOk X.prog X.w H s.heap a (.lst xs) from I.hok a _ ha)
    obtain ⟨as, hr, hn⟩ := DtL.rd I ds xs its hd rv
    refine ⟨a :: as, .list ho rfl rfl hr, fun b hb => ?_⟩
    rcases List.mem_cons.mp hb with rfl | hb
    · rw [ha]; simp
    · exact hn b hb
  | .tuple ds, v, u, h, r => by
    simp only [Dt] at h
    obtain ⟨a, xs, rfl, ha, hd⟩ := h
    cases r
    obtain ⟨_, its, rv, o, ho, hc, n, hda⟩ := (show ObjOk X.prog X.w H s.heap a (.tup xs) from I.hok a _ ha)
    obtain ⟨as, hr, hn⟩ := DtL.rd I ds xs its hd rv
    exact ⟨as, .tuple ho hc hda hr, hn⟩
  | .dict kvs, v, u, h, r => by
    simp only [Dt] at h
    obtain ⟨a, rfl, ⟨es, ha, hd⟩ | ⟨es, ha, hd⟩⟩ := h
    all_goals cases r
    rotate_left
    · obtain ⟨_, _, xs, rel, o, ent, ep, ho, hx, hda, he, _, _⟩ := dt_of I.hok ha
      obtain ⟨as, bs, h1, h2, n1, n2⟩ := DtT.rd I kvs es xs hd rel
      refine ⟨a :: as ++ bs, .dict ho hx.1 hda (by rw [he]; exact h1) (by rw [he]; exact h2), fun b hb => ?_⟩
      rcases List.mem_append.mp hb with hb | hb
      · rcases List.mem_cons.mp hb with rfl | hb
        · rw [ha]; simp
        · exact n1 b hb
      · exact n2 b hb
    obtain ⟨_, _, vs, rel, o, ent, ep, ho, hx, hda, _, hp, _⟩ := (show ObjOk X.prog X.w H s.heap a (.dK es) from I.hok a _ ha)
    obtain ⟨as, bs, h1, h2, n1, n2⟩ := DtK.rd I kvs es vs _ hd rel hp
    refine ⟨a :: as ++ bs, .dict ho hx.1 hda h1 h2, fun b hb => ?_⟩
    rcases List.mem_append.mp hb with hb | hb
    · rcases List.mem_cons.mp hb with rfl | hb
      · rw [ha]; simp
      · exact n1 b hb
    · exact n2 b hb
theorem DtL.rd (I : Inv X pins σ H s) : ∀ (ds : List PyData) (xs : List V) (us : List Value), DtL H ds xs → Vals xs us → ∃ as, ReadsAll s.heap us ds as ∧ ∀ b ∈ as, H b ≠ none
  | [], xs, us, h, r => by
    simp only [DtL] at h
    subst h; cases r
    exact ⟨[], .nil, fun _ z => absurd z (by simp)⟩
  | d :: ds, xs, us, h, r => by
    simp only [DtL] at h
    obtain ⟨x, t, rfl, hx, ht⟩ := h
    cases r with
    | cons r1 r2 =>
      obtain ⟨as, q1, n1⟩ := Dt.rd I d _ _ hx r1
      obtain ⟨bs, q2, n2⟩ := DtL.rd I ds _ _ ht r2
      exact ⟨as ++ bs, .cons q1 q2, fun b hb => (List.mem_append.mp hb).elim (n1 b) (n2 b)⟩
theorem DtK.rd (I : Inv X pins σ H s) : ∀ (ds : List (PyData × PyData)) (es : List (Key × V)) (vs : List (Key × Value)) (ent : List DictEntry), DtK H ds es → KV es vs → Pairs (mixKind X.prog X.w) ent vs →
    ∃ as bs, ReadsAll s.heap (ent.map (·.key)) (ds.map (·.1)) as ∧ ReadsAll s.heap (ent.map (·.val)) (ds.map (·.2)) bs ∧ (∀ b ∈ as, H b ≠ none) ∧ ∀ b ∈ bs, H b ≠ none
  | [], es, vs, ent, h, r, p => by
    simp only [DtK] at h
    subst h; cases r; cases p
    exact ⟨[], [], .nil, .nil, fun _ z => absurd z (by simp), fun _ z => absurd z (by simp)⟩
  | (k, d) :: ds, es, vs, ent, h, r, p => by
    simp only [DtK] at h
    obtain ⟨y, x, t, rfl, hy, hx, ht⟩ := h
    cases r with
    | cons r1 r2 =>
      cases p with
      | cons p1 p2 p3 =>
        rename_i kv vs' e ent'
        obtain ⟨e1, e2⟩ := r1
        have e1' : y = kv.1 := e1
        have rk : RelV (kV y) e.key := by
          have q : keyIs kv.1 e.key = true := p1
          rw [← e1'] at q
          rcases keyIs_shape q with ⟨i, t, rfl, q2⟩ | ⟨z, t, rfl, q2⟩
          · exact ⟨t, q2⟩
          · exact ⟨t, q2⟩
        have rv : RelV x e.val := by rw [p2]; exact e2
        obtain ⟨a1, q1, n1⟩ := Dt.rd I k _ _ hy rk
        obtain ⟨b1, q2, n2⟩ := Dt.rd I d _ _ hx rv
        obtain ⟨as, bs, q3, q4, n3, n4⟩ := DtK.rd I ds t _ _ ht r2 p3
        exact ⟨a1 ++ as, b1 ++ bs, .cons q1 q3, .cons q2 q4, fun b hb => (List.mem_append.mp hb).elim (n1 b) (n3 b), fun b hb => (List.mem_append.mp hb).elim (n2 b) (n4 b)⟩
theorem DtT.rd (I : Inv X pins σ H s) : ∀ (ds : List (PyData × PyData)) (es : List (List Key × V)) (xs : List (List Key × Addr × Value)), DtT H ds es → KT H es xs →
    ∃ as bs, ReadsAll s.heap ((xs.map (entryOfKey (tupleKind (mixKind X.prog X.w)))).map (·.key)) (ds.map (·.1)) as ∧ ReadsAll s.heap ((xs.map (entryOfKey (tupleKind (mixKind X.prog X.w)))).map (·.val)) (ds.map (·.2)) bs ∧ (∀ b ∈ as, H b ≠ none) ∧ ∀ b ∈ bs, H b ≠ none
  | [], es, xs, h, r => by
    simp only [DtT] at h
    subst h; cases r
    exact ⟨[], [], .nil, .nil, fun _ z => absurd z (by simp), fun _ z => absurd z (by simp)⟩
  | (k, d) :: ds, es, xs, h, r => by
    simp only [DtT] at h
    obtain ⟨y, x, t, rfl, hy, hx, ht⟩ := h
    cases r with
    | cons r1 r2 =>
      rename_i q qs
      obtain ⟨_, e2, e3⟩ := r1
      obtain ⟨_, its, rv, o, ho, hc, n, hda⟩ := (show ObjOk X.prog X.w H s.heap q.2.1 (.tup (y.map kV)) from I.hok _ _ e2)
      obtain ⟨a1, q1, n1⟩ : ∃ as, Reads s.heap (.ref q.2.1) k as ∧ ∀ b ∈ as, H b ≠ none := by
        obtain ⟨us, hr, hn⟩ := keys_rd (h := s.heap) y its rv
        exact ⟨us, hy ▸ .tuple ho hc hda hr, fun b hb => absurd hb (by rw [hn]; simp)⟩
      obtain ⟨b1, q2, n2⟩ := Dt.rd I d _ _ hx e3
      obtain ⟨as, bs, q3, q4, n3, n4⟩ := DtT.rd I ds t _ ht r2
      exact ⟨a1 ++ as, b1 ++ bs, .cons q1 q3, .cons q2 q4, fun b hb => (List.mem_append.mp hb).elim (n1 b) (n3 b), fun b hb => (List.mem_append.mp hb).elim (n2 b) (n4 b)⟩
end
/-- the written part holds the table of modules -/
def SysIn (K : PySem.W.Frag) : Prop := (K.lookup sysModules).isSome = true
/-- repr of data -/
def rRepr : List V → Hp → VK → Prop := fun xs H Q => ∃ v d, xs = [v] ∧ Dt H d v ∧ d.showable = true ∧ d.depth ≤ 60 ∧ d.shown.length ≤ sizeLine ∧ Q (.str d.shown) H
theorem call_repr (hs : SysIn X.K) (hg : X.A.guards = some []) (hu : X.A.units + 64 < cLine) : CallR X (.builtin "repr") rRepr := by
  intro pins s σ H xs us Q I r h
  obtain ⟨v, d, rfl, hd, sh, dp, sz, q⟩ := h
  obtain ⟨u, rfl, rv⟩ := vals1 r
  obtain ⟨as, hr, hn⟩ := Dt.rd I d v u hd rv
  have nosys : sysModules ∉ as := fun hm => by
    obtain ⟨o, ho⟩ := Option.isSome_iff_exists.mp hs
    exact hn _ hm (I.bs _ o (I.ok.mod.kin _ _ ho)).2
  have fin : ∀ (t : Tok) (tk : Nat), EP X pins σ Q (.str d.shown t) { s with toks := tk } := fun t tk => ⟨.str d.shown, H, I.tok _, ⟨_, rfl⟩, q⟩
  cases d with
  | none =>
    simp only [Dt] at hd
    subst hd; cases rv
    simp only [PyData.shown] at fin
    exact PySem.P.repr_of_none (fin _ _)
  | bool b =>
    simp only [Dt] at hd
    subst hd; cases rv
    simp only [PyData.shown] at fin
    exact PySem.P.repr_of_bool (fin _ _)
  | int i =>
    simp only [Dt] at hd
    subst hd; obtain ⟨t, rfl⟩ := rv
    simp only [PyData.shown] at fin
    exact PySem.P.repr_of_int (by simpa [PyData.showable] using sh) (fin _ _)
  | str x =>
    simp only [Dt] at hd
    subst hd; obtain ⟨t, rfl⟩ := rv
    simp only [PyData.shown] at fin sz
    exact PySem.P.repr_of_str (fin _ _) sz
  | list ds =>
    simp only [Dt] at hd
    obtain ⟨a, ys, rfl, _, _⟩ := hd
    cases rv
    exact repr_of_reads' hr sh (fun _ => nosys) hg (by omega) (fun _ _ e => e) (fun h' t tk k => ⟨.str _, H, I.kept k, ⟨_, rfl⟩, q⟩) sz
  | tuple ds =>
    simp only [Dt] at hd
    obtain ⟨a, ys, rfl, _, _⟩ := hd
    cases rv
    exact repr_of_reads' hr sh (fun _ => nosys) hg (by omega) (fun _ _ e => e) (fun h' t tk k => ⟨.str _, H, I.kept k, ⟨_, rfl⟩, q⟩) sz
  | dict ds =>
    simp only [Dt] at hd
    obtain ⟨a, rfl, _⟩ := hd
    cases rv
    exact repr_of_reads' hr sh (fun _ => nosys) hg (by omega) (fun _ _ e => e) (fun h' t tk k => ⟨.str _, H, I.kept k, ⟨_, rfl⟩, q⟩) sz
end
end Mw
set_option Elab.async false
set_option linter.all false
set_option maxRecDepth 100000
set_option maxHeartbeats 1000000
/-! the draws: what a law's state of draws looks like between two calls -/
namespace Mw
open PySem PySem.Spec PyProof.Rows L2
/-- the function object of the written part at a -/
def fdOf (K : PySem.W.Frag) (a : Addr) : FuncData := match K.lookup a with
  | some ⟨_, _, .func fd, _⟩ => fd
  | _ => PySem.W.fnOf "" "" ⟨[], [], none, [], [], none, []⟩ [] ⟨.function, [], false, false, []⟩ .none .none .none .none none .none .none
theorem funD_of {K : PySem.W.Frag} {x qual : Str} {params : Arguments} {body : List Stmt} {scope : Scope} {dvs : List V} {kws : List (Str × V)} {f : Addr} (h : ∃ fd, FunD K x qual params body scope dvs kws f fd) :
    FunD K x qual params body scope dvs kws f (fdOf K f) := by
  obtain ⟨fd, F⟩ := h
  obtain ⟨oc, od, dV, kV, doc, pm, an, cdv, ct, osl, e, lk, r⟩ := F.ex
  have e2 : fdOf K f = fd := by
    unfold fdOf
    rw [lk]
  rw [e2]
  exact F
/-- the heap without d and W -/
def Hid (d W : Addr) (H : Hp) : Hp := fun b => if b = d ∨ b = W then none else H b
theorem Hid.sub (d W : Addr) (H : Hp) : Same (Hid d W H) H := fun b o h => by
  unfold Hid at h
  split at h
  · cases h
  · exact h
theorem Hid.at_ {d W b : Addr} {H : Hp} (h1 : b ≠ d) (h2 : b ≠ W) : Hid d W H b = H b := by
  unfold Hid
  rw [if_neg (fun z => z.elim h1 h2)]
theorem Hid.upd_out {d W b : Addr} {H : Hp} {o : HO} (h1 : b ≠ d) (h2 : b ≠ W) : Hid d W (upd H b o) = upd (Hid d W H) b o := by
  funext c
  unfold Hid upd
  by_cases e : c = b
  · subst e
    rw [if_neg (fun z => z.elim h1 h2), if_pos rfl, if_pos rfl]
  · simp only [if_neg e]
theorem Hid.upd_d {d W : Addr} {H : Hp} {o : HO} : Hid d W (upd H d o) = Hid d W H := by
  funext c
  unfold Hid upd
  by_cases e : c = d
  · rw [if_pos (.inl e), if_pos (.inl e)]
  · simp only [if_neg e]
theorem Hid.upd_w {d W : Addr} {H : Hp} {o : HO} : Hid d W (upd H W o) = Hid d W H := by
  funext c
  unfold Hid upd
  by_cases e : c = W
  · rw [if_pos (.inr e), if_pos (.inr e)]
  · simp only [if_neg e]
theorem Hid.none_ {d W b : Addr} {H : Hp} (h : H b = none) : Hid d W H b = none := by
  unfold Hid
  rw [h, ite_self]
/-- all but d and W stays -/
def Sd (d W : Addr) (H H' : Hp) : Prop := Same (Hid d W H) (Hid d W H')
theorem Sd.refl {d W : Addr} (H : Hp) : Sd d W H H := Same.refl _
theorem Sd.trans {d W : Addr} {H H1 H2 : Hp} (a : Sd d W H H1) (b : Sd d W H1 H2) : Sd d W H H2 := Same.trans a b
theorem Sd.of {d W : Addr} {H H' : Hp} (s : Same H H') : Sd d W H H' := fun b o h => by
  by_cases h1 : b = d
  · unfold Hid at h
    rw [if_pos (.inl h1)] at h
    cases h
  · by_cases h2 : b = W
    · unfold Hid at h
      rw [if_pos (.inr h2)] at h
      cases h
    · rw [Hid.at_ h1 h2] at h ⊢
      exact s b o h
theorem Sd.at_ {d W b : Addr} {H H' : Hp} {o : HO} (s : Sd d W H H') (h1 : b ≠ d) (h2 : b ≠ W) (h : H b = some o) : H' b = some o := by
  have z := s b o (by rw [Hid.at_ h1 h2]; exact h)
  rw [Hid.at_ h1 h2] at z
  exact z
theorem same_upd {H : Hp} {p : Addr} {o : HO} (h : H p = none) : Same H (upd H p o) := fun b x e => by
  rw [upd_ne (ne_of_none e h)]
  exact e
theorem Sd.new {d W : Addr} {H : Hp} {p : Addr} {o : HO} (h : H p = none) : Sd d W H (upd H p o) := .of (same_upd h)
theorem Sd.upd_d {d W : Addr} {H : Hp} {o : HO} : Sd d W H (upd H d o) := by
  unfold Sd
  rw [Hid.upd_d]
  exact Same.refl _
theorem Sd.upd_w {d W : Addr} {H : Hp} {o : HO} : Sd d W H (upd H W o) := by
  unfold Sd
  rw [Hid.upd_w]
  exact Same.refl _
def drK (W C : Addr) (r t : Int) : List (Key × V) := [(.inr "wide", .ref W), (.inr "cells", .ref C), (.inr "rest", .int r), (.inr "turn", .int t)]
theorem dr_wide (W C : Addr) (r t : Int) : valV (drK W C r t) (.inr "wide" : Key) = some (.ref W) := by rfl
theorem dr_cells (W C : Addr) (r t : Int) : valV (drK W C r t) (.inr "cells" : Key) = some (.ref C) := by rfl
theorem dr_rest (W C : Addr) (r t : Int) : valV (drK W C r t) (.inr "rest" : Key) = some (.int r) := by rfl
theorem dr_turn (W C : Addr) (r t : Int) : valV (drK W C r t) (.inr "turn" : Key) = some (.int t) := by rfl
theorem dr_pr (W C : Addr) (r t z : Int) : putK (drK W C r t) (.inr "rest" : Key) (.int z) = drK W C z t := by rfl
theorem dr_pt (W C : Addr) (r t z : Int) : putK (drK W C r t) (.inr "turn" : Key) (.int z) = drK W C r z := by rfl
/-- the state of draws at d, its lists at W and C; n draws are left -/
structure Drw (H : Hp) (d W C : Addr) (n : Nat) : Prop where
  ex : ∃ (r t : Int) (ws cs : List Int), H d = some (.dK (drK W C r t)) ∧ H W = some (.lst (ws.map V.int)) ∧ H C = some (.lst (cs.map V.int)) ∧ 0 ≤ t ∧ t + n ≤ 1099511627776
  ne : W ≠ C
theorem Drw.mono {H : Hp} {d W C : Addr} {n m : Nat} (h : Drw H d W C n) (l : m ≤ n) : Drw H d W C m := by
  obtain ⟨⟨r, t, ws, cs, a, b, c, e, f⟩, g⟩ := h
  exact ⟨⟨r, t, ws, cs, a, b, c, e, by omega⟩, g⟩
theorem Drw.same {H H' : Hp} {d W C : Addr} {n : Nat} (h : Drw H d W C n) (s : Same H H') : Drw H' d W C n := by
  obtain ⟨⟨r, t, ws, cs, a, b, c, e, f⟩, g⟩ := h
  exact ⟨⟨r, t, ws, cs, s _ _ a, s _ _ b, s _ _ c, e, f⟩, g⟩
theorem Drw.d_ne {H : Hp} {d W C : Addr} {n : Nat} (h : Drw H d W C n) {b : Addr} {o : HO} (e : H b = some o) (hk : ∀ kvs, o ≠ .dK kvs) : b ≠ d := by
  obtain ⟨⟨r, t, ws, cs, a, _⟩, _⟩ := h
  intro z
  rw [z, a] at e
  exact hk _ (Option.some.inj e).symm
theorem Drw.new_d {H : Hp} {d W C : Addr} {n : Nat} (h : Drw H d W C n) {b : Addr} (e : H b = none) : b ≠ d ∧ b ≠ W ∧ b ≠ C := by
  obtain ⟨⟨r, t, ws, cs, a, b1, c1, _⟩, _⟩ := h
  exact ⟨(ne_of_none a e).symm, (ne_of_none b1 e).symm, (ne_of_none c1 e).symm⟩
end Mw
namespace Mw
open PySem PySem.Spec PyProof.Rows L2
/-- what holds behind the first statement, said once -/
theorem seq_gen {t u : TS} {D : Ends} {σ : L2.St} {H : Hp} (Pv : L2.St → Hp → Prop) (tail : ∀ σ' H', Pv σ' H' → u D σ' H') (first : ∀ X : L2.St → Hp → Prop, (∀ σ' H', Pv σ' H' → X σ' H') → t { D with nx := X } σ H) : tSeq t u D σ H := first _ tail
theorem eqv_ints_nil (ws : List Int) : PyData.eqv (.list (ws.map PyData.int)) (.list []) = ws.isEmpty := by
  cases ws with
  | nil => rfl
  | cons a r => rfl
theorem dp_ints {K : PySem.W.Frag} {H : Hp} : ∀ ws : List Int, DpAll K H (ws.map V.int) (ws.map PyData.int)
  | [] => .nil
  | z :: r => .cons (.int z) (dp_ints r)
theorem lay_ints : ∀ ws : List Int, PyData.canLayAll0 (ws.map PyData.int) = true ∧ PyData.depthAll (ws.map PyData.int) = 0
  | [] => ⟨rfl, rfl⟩
  | z :: r => by
    obtain ⟨h1, h2⟩ := lay_ints r
    constructor
    · simp only [List.map_cons, PyData.canLayAll0, PyData.canLay0, h1, Bool.and_self]
    · simp only [List.map_cons, PyData.depthAll, PyData.depth, h2, Nat.max_self]
theorem shaped_ints (ws : List Int) : SeqAt.shaped (.list (ws.map PyData.int)) = true := by
  obtain ⟨h1, h2⟩ := lay_ints ws
  unfold SeqAt.shaped
  simp only [PyData.canLay0, PyData.depth, h1, h2]
  decide
theorem ints_get {ws : List Int} {j : Nat} {y : V} (h : (ws.map V.int)[j]? = some y) : ∃ z, ws[j]? = some z ∧ y = .int z := by
  rw [List.getElem?_map] at h
  cases e : ws[j]? with
  | none => rw [e] at h; cases h
  | some z => rw [e] at h; exact ⟨z, rfl, (Option.some.inj h).symm⟩
end Mw
namespace Mw
open PySem PySem.Spec PyProof.Rows L2
/-- how far a def has come: the draws' state, what it found at its entry, the objects that it made -/
structure Rn (d W C : Addr) (n : Nat) (H0 H : Hp) (L : List (Addr × HO)) : Prop where
  dr : Drw H d W C n
  sd : Sd d W H0 H
  ob : ∀ q ∈ L, Hid d W H q.1 = some q.2
theorem Rn.start {d W C : Addr} {n : Nat} {H : Hp} (D : Drw H d W C n) : Rn d W C n H H [] := ⟨D, Sd.refl _, fun _ h => absurd h (by simp)⟩
theorem Rn.made {d W C : Addr} {n : Nat} {H0 H : Hp} {L : List (Addr × HO)} {p : Addr} (R : Rn d W C n H0 H L) (hp : H p = none) (o : HO) : Rn d W C n H0 (upd H p o) ((p, o) :: L) := by
  obtain ⟨n1, n2, n3⟩ := R.dr.new_d hp
  refine ⟨R.dr.same (same_upd hp), R.sd.trans (Sd.new hp), fun q hq => ?_⟩
  rcases List.mem_cons.mp hq with rfl | hq
  · rw [Hid.at_ n1 n2, upd_same]
  · exact (Sd.new (o := o) hp : Sd d W H (upd H p o)) _ _ (R.ob q hq)
@[elab_as_elim] theorem alloc {d W C : Addr} {n : Nat} {H0 H : Hp} {L : List (Addr × HO)} {p : Addr} {o : HO} {motive : Hp → Prop} (hp : H p = none) (R : Rn d W C n H0 H L)
    (h : ∀ H', Rn d W C n H0 H' ((p, o) :: L) → motive H') : motive (upd H p o) := h _ (R.made hp o)
theorem Rn.call {d W C : Addr} {n m : Nat} {H0 H H' : Hp} {L : List (Addr × HO)} (R : Rn d W C n H0 H L) (D : Drw H' d W C m) (s : Sd d W H H') : Rn d W C m H0 H' L :=
  ⟨D, R.sd.trans s, fun q hq => s _ _ (R.ob q hq)⟩
theorem Rn.at_ {d W C : Addr} {n : Nat} {H0 H : Hp} {L : List (Addr × HO)} (R : Rn d W C n H0 H L) {q : Addr × HO} (h : q ∈ L) : Hid d W H q.1 = some q.2 := R.ob q h
theorem Rn.get {d W C : Addr} {n : Nat} {H0 H : Hp} {L : List (Addr × HO)} (R : Rn d W C n H0 H L) {p : Addr} {o : HO} (h : (p, o) ∈ L) : H p = some o := Hid.sub d W H _ _ (R.ob (p, o) h)
/-- data as a list of the heap, item by item -/
theorem DtL.at_ {H : Hp} : ∀ {ds : List PyData} {xs : List V} {i : Nat} {x : V}, DtL H ds xs → xs[i]? = some x → ∃ dd, ds[i]? = some dd ∧ Dt H dd x
  | [], xs, i, x, h, e => by
    simp only [DtL] at h
    subst h
    simp at e
  | d :: ds, xs, i, x, h, e => by
    simp only [DtL] at h
    obtain ⟨y, r, rfl, h1, h2⟩ := h
    cases i with
    | zero =>
      have e' : y = x := Option.some.inj e
      subst e'
      exact ⟨d, rfl, h1⟩
    | succ i =>
      obtain ⟨dd, e1, e2⟩ := DtL.at_ (ds := ds) (i := i) h2 (show r[i]? = some x from e)
      exact ⟨dd, e1, e2⟩
/-- the values of _law_odd -/
def oddD : List PyData := [.none, .bool true, .bool false, .int (-1), .int (-7), .int (10 ^ 40), .str "", .str "a", .str "z", .str "ba", .str "aa", .str "R", .tuple [], .tuple [.int 0], .tuple [.str "a", .str "b"], .list [], .list [.int 1], .dict [], .int 0, .int 7,
  .list [.list []], .tuple [.bool true], .tuple [.int 0, .none], .str "1", .tuple [.str ""], .int (-(10 ^ 20)), .tuple [.int 1, .int 1], .str "abcdr", .str "abr ", .dict [(.str "a", .int 1)]]
end Mw
namespace Mw
open PySem PySem.Spec PyProof.Rows L2
theorem le_line {n : Nat} (h : n ≤ 1000) : n ≤ sizeLine := Nat.le_of_lt (small1000 h)
end Mw
namespace Mw
open PySem PySem.Spec PyProof.Rows L2
theorem Rn.hid {d W C : Addr} {n : Nat} {H0 H : Hp} {L : List (Addr × HO)} (R : Rn d W C n H0 H L) {p : Addr} {o : HO} (h : (p, o) ∈ L) : Hid d W H p = some o := R.ob (p, o) h
theorem ex_ref {G : Hp} {a : Addr} {β : Type} {f : β → HO} {x : β} {Pr : β → Prop} (h : G a = some (f x)) (hp : Pr x) : ∃ b y, V.ref a = V.ref b ∧ G b = some (f y) ∧ Pr y := ⟨a, x, rfl, h, hp⟩
theorem ex_cons {x : V} {r : List V} {A : V → Prop} {B : List V → Prop} (h1 : A x) (h2 : B r) : ∃ y t, x :: r = y :: t ∧ A y ∧ B t := ⟨x, r, rfl, h1, h2⟩
theorem ex_pair {y : Key} {x : V} {t : List (Key × V)} {A : Key → Prop} {B : V → Prop} {D : List (Key × V) → Prop} (h1 : A y) (h2 : B x) (h3 : D t) : ∃ y' x' t', (y, x) :: t = (y', x') :: t' ∧ A y' ∧ B x' ∧ D t' := ⟨y, x, t, rfl, h1, h2, h3⟩
end Mw
namespace Mw
open PySem PySem.Spec PyProof.Rows L2
theorem grow_ints {H : Hp} {W : Addr} {acc : List Int} {i : Nat} {z : Int} (la : acc.length ≤ i) : ∃ acc' : List Int, acc'.length ≤ i + 1 ∧ upd H W (.lst (acc.map V.int ++ [V.int z])) W = some (.lst (acc'.map V.int)) := by
  refine ⟨acc ++ [z], by rw [List.length_append]; exact Nat.add_le_add_right la 1, ?_⟩
  rw [upd_same, List.map_append]
  rfl
end Mw
set_option Elab.async false
set_option linter.all false
set_option maxRecDepth 100000
set_option maxHeartbeats 1000000
namespace PySem
namespace MwK
open PySem.W PySem.Calls PyProof.Rows PySem.HandSPX
section
variable {M : Model} {A : Around} {E : Value → Shared → Prop} {h : Heap} {g : Array GenState} {d : Drawn} {t : Nat} {os : OsState}
variable {nm q : Str} {C N : Addr} {bs bm bmB : List Value} {hdct : Bool} {sn : List Str} {sub : List Value} {ab : Bool} {col : Option Bool} {dd : Option Addr} {k0 k1 k2 k3 k5 : Option Value} {B newId initId : String}
theorem check_newK (F : ExcBaseFacts B newId initId bmB) (hT : ∀ X : String, bm.contains (.type X) = bmB.contains (.type X)) {kn : Str} {kv : Value} {Q : Unit → Shared → Prop}
    (hC : h.get? C = some (excClassObj nm q C N bs bm hdct sn sub ab col dd k0 k1 k2 k3 k5 newId)) (hq : Q () ⟨h, g, d, t, os⟩) :
    wpAny M A (checkBuiltinCall newId ⟨[.ref C], [(kn, kv)]⟩) Q E ⟨h, g, d, t, os⟩ := by
  have c1 : (Value.ref C :: bm).contains (.type B) = true := by rw [List.contains_cons, hT, F.hasB, Bool.or_true]
  have c2 := F.noStar
  simp only [checkBuiltinCall, F.newKind, F.newSplit, F.newRow]
  repeat (first | refine wpAny_loadPart_at hC ?_ | (refine wpAny_isSubtype_exc hC ?_; rw [c1]) | refine wpAny_staticBase_exc hC ?_ | refine wpAny_madeBy_exc hC ?_ | simp only [bne_self_eq_false, Bool.false_eq_true, if_false] | wp_step)
  exact hq
theorem check_callK {kn : Str} {kv : Value} {Q : Unit → Shared → Prop} (hC : h.get? C = some (excClassObj nm q C N bs bm hdct sn sub ab col dd k0 k1 k2 k3 k5 newId))
    (hq : Q () ⟨h, g, d, t, os⟩) : wpAny M A (checkBuiltinCall "type.__call__" ⟨[.ref C], [(kn, kv)]⟩) Q E ⟨h, g, d, t, os⟩ := by
  have f3 := tc_sub
  have ty : (⟨h, g, d, t, os⟩ : Shared).TypeIs (.ref C) "type" := ⟨_, hC, rfl⟩
  simp only [checkBuiltinCall, tc_kind, tc_split]
  repeat (any_goals (first | assumption | with_reducible refine wpAny_loadPart_at hC ?_ | with_reducible refine wpAny_onRaise ?_ | with_reducible refine wpAny_map ?_ | wp_step))
end
section
variable {prog : Program} {w : World} {A : Around} {E : Value → Shared → Prop} {R : Result → Shared → Prop} {h : Heap} {g : Array GenState} {d : Drawn} {t : Nat} {os : OsState}
variable {nm q : Str} {C N : Addr} {bs bm bmB : List Value} {hdct : Bool} {sn : List Str} {sub : List Value} {ab : Bool} {col : Option Bool} {dd : Option Addr} {k0 k1 k2 k3 k5 : Option Value} {B newId initId : String}
theorem newK (F : ExcBaseFacts B newId initId bmB) (hT : ∀ X : String, bm.contains (.type X) = bmB.contains (.type X)) {kn : Str} {kv : Value}
    (hC : h.get? C = some (excClassObj nm q C N bs bm hdct sn sub ab col dd k0 k1 k2 k3 k5 newId))
    (hq : R (.ok (.ret (.ref (h.objs.size + 1)))) ⟨(h.push (W.kdv_tup [])).push (excO C h.objs.size), g, d, t, os⟩) :
    codeAny (model prog w) A (.builtin newId ⟨[.ref C], [(kn, kv)]⟩) R ⟨h, g, d, t, os⟩ := by
  have c0 := F.ends
  have c1 : (Value.ref C :: bm).contains (.type B) = true := by rw [List.contains_cons, hT, F.hasB, Bool.or_true]
  have c2 : (Value.ref C :: bm).contains (.type "AttributeError") = false := by rw [List.contains_cons, hT, F.noAttr]; rfl
  have c3 : (Value.ref C :: bm).contains (.type "NameError") = false := by rw [List.contains_cons, hT, F.noName]; rfl
  refine codeAny_builtinAt F.entry ?_
  unfold Builtin.«BaseException.__new__»
  refine wpAt_bind ?_
  show wpAt _ _ _ (stack >>= _) _ _ _
  refine wpAt_bind (wpAt_stack fun p below => wpAt_of_wpAny ?_)
  wp_walk
  refine wpAt_of_wpAny ?_
  rw [F.owner]
  repeat (first | with_reducible refine wpAny_madeHere_exc F.canon hC ?_ | with_reducible refine wpAny_loadPart_at hC ?_ | (with_reducible refine wpAny_isSubtype_exc hC ?_; first | rw [c1] | rw [c2] | rw [c3]) | wp_step)
  show R _ _
  rw [Heap.size_push]
  exact hq
theorem type_callK (F : ExcBaseFacts B newId initId bmB) (hT : ∀ X : String, bm.contains (.type X) = bmB.contains (.type X)) {kn : Str} {kv : Value} {fI : Addr} {Q : Fin → Shared → Prop}
    (hC : h.get? C = some (excClassObj nm q C N bs bm hdct sn sub ab col dd k0 k1 k2 k3 k5 newId))
    (hi : W.Looks (model prog w) h (typeLookup (.ref C) "__init__") (some (.ref fI))) (hb : ∀ self, W.Looks (model prog w) h (bindSpecial (.ref fI) self) (.ref fI, [self]))
    (hq : codeAny (model prog w) A (.call (.ref fI) ⟨[.ref (h.objs.size + 1)], [(kn, kv)]⟩)
      (fun r s' => match r with | .ok (.ret v) => v = .none ∧ Q (.done (.ret (.ref (h.objs.size + 1)))) s' | .ok _ => False | .error e => E e s')
      ⟨(h.push (W.kdv_tup [])).push (excO C h.objs.size), g, d, t, os⟩) :
    wpAny (model prog w) A (Builtin.«type.__call__» ⟨[.ref C], [(kn, kv)]⟩) Q E ⟨h, g, d, t, os⟩ := by
  repeat (first | with_reducible refine wpAny_loadPart_at hC ?_ | with_reducible refine wpAny_madeBy_exc hC ?_ | wp_step)
  refine codeAny_call_builtin_code (Code.quiet_builtin _ F.quiet) (check_newK F hT hC ?_)
  refine newK F hT hC ?_
  show wpAny _ _ _ _ _ _
  have k : ∀ b o, h.get? b = some o → ((h.push (W.kdv_tup [])).push (excO C h.objs.size)).get? b = some o := fun b o e => Heap.get?_push_of_some _ (Heap.get?_push_of_some _ e)
  have hC1 := k _ _ hC
  have hx : ((h.push (W.kdv_tup [])).push (excO C h.objs.size)).get? (h.objs.size + 1) = some (excO C h.objs.size) := by heap_get
  have cc : (Value.ref C :: bm).contains (.ref C) = true := by simp
  have i1 := hi.keeps k
  have b1 := (hb (.ref (h.objs.size + 1))).keeps k
  unfold isInstance
  repeat (first | with_reducible refine wpAny_loadPart_at hx ?_ | (with_reducible refine wpAny_isSubtype_exc hC1 ?_; rw [cc]) | wp_step)
  show wpAny _ _ (typeLookup (.ref C) _) _ _ _
  refine i1.at ?_
  refine wpAny_holding (wpAny_bind (b1.at ?_))
  refine wpAny_bind (wpAny_call (codeAny_mono hq fun r s' z => ?_))
  rcases r with e | (v | _ | _ | _) <;> first | exact z | exact z.elim | skip
  obtain ⟨rfl, z⟩ := z
  first
    | exact wpAny_pure (wpAny_pure z)
    | (wp_walk; exact z)
theorem callK (F : ExcBaseFacts B newId initId bmB) (hT : ∀ X : String, bm.contains (.type X) = bmB.contains (.type X)) {kn : Str} {kv : Value} {fI : Addr}
    (hC : h.get? C = some (excClassObj nm q C N bs bm hdct sn sub ab col dd k0 k1 k2 k3 k5 newId))
    (hi : W.Looks (model prog w) h (typeLookup (.ref C) "__init__") (some (.ref fI))) (hb : ∀ self, W.Looks (model prog w) h (bindSpecial (.ref fI) self) (.ref fI, [self]))
    (hq : codeAny (model prog w) (A.under (.builtin "type.__call__" ⟨[.ref C], [(kn, kv)]⟩)) (.call (.ref fI) ⟨[.ref (h.objs.size + 1)], [(kn, kv)]⟩) (W.InitBack (h.objs.size + 1) R)
      ⟨(h.push (W.kdv_tup [])).push (excO C h.objs.size), g, d, t, os⟩) :
    codeAny (model prog w) A (.call (.ref C) ⟨[], [(kn, kv)]⟩) R ⟨h, g, d, t, os⟩ := by
  have f1 := tc_lookup
  have f2 := tc_bind (.ref C)
  have ty : (⟨h, g, d, t, os⟩ : Shared).TypeIs (.ref C) "type" := ⟨_, hC, rfl⟩
  refine codeAny_of_tree ?_
  show wpAny _ _ (callAny (.ref C) _) _ _ _
  repeat (any_goals (first | assumption | with_reducible refine wpAny_loadPart_at hC ?_ | wp_step))
  refine ⟨rfl, ?_⟩
  refine codeAny_call_builtin_at (Code.quiet_builtin _ (by decide +kernel)) entry_typeCall (check_callK hC (type_callK F hT hC hi hb ?_))
  refine codeAny_mono hq fun r s' z => ?_
  rcases r with e | (v | _ | _ | _) <;> exact z
end
end MwK
end PySem
set_option Elab.async false
set_option linter.all false
set_option maxRecDepth 100000
set_option maxHeartbeats 1000000
/-! own error classes over ValueError, by steps, with an __init__ of one field; their instances as values -/
namespace Mw
open PySem PySem.Spec PyProof.Rows L2
/-- what the written part must say of such a class -/
def oexB (K : PySem.W.Frag) (C : Addr) : Bool :=
  (match K.lookup C with
    | some ⟨.type "type", _, .cls cl, ks⟩ => (match cl.mro, ks.toList with
      | .ref C0 :: bm, [_, _, _, _, some (.builtin nw), _] => decide (C0 = C) && (decide (nw = "ValueError.__new__") && (!cl.hasDel && (cl.hasDict && PySem.HandSPX.refsVE bm)))
      | _, _ => false)
    | _ => false) &&
  (He.eqO (PySem.W.findIn K (.ref C) "__setattr__") (some (some (.builtin "object.__setattr__"))) &&
  (decide (PySem.W.subIn K (.ref C) (.type "BaseException") = some true) && (decide (PySem.W.typeIn K (.ref C) = some (.type "type")) && PySem.W.keepIn K (.ref C))))
theorem oexB_ok {K : PySem.W.Frag} {C : Addr} (h : oexB K C = true) : OexC K C := by
  obtain ⟨h1, h⟩ := He.ba h
  obtain ⟨h2, h⟩ := He.ba h
  obtain ⟨h3, h⟩ := He.ba h
  obtain ⟨h4, h5⟩ := He.ba h
  refine ⟨?_, He.eqO_ok h2, of_decide_eq_true h3, of_decide_eq_true h4, h5⟩
  split at h1
  · rename_i dd cl ks ho
    split at h1
    · rename_i C0 bm k0 k1 k2 k3 nw k5 hm hs
      obtain ⟨a1, h1⟩ := He.ba h1
      obtain ⟨a2, h1⟩ := He.ba h1
      obtain ⟨a3, h1⟩ := He.ba h1
      obtain ⟨a4, a5⟩ := He.ba h1
      obtain rfl := of_decide_eq_true a1
      obtain rfl := of_decide_eq_true a2
      obtain ⟨nm, bs, mro, ns, qn, hd, sn, sub, ab, col, del⟩ := cl
      dsimp only at hm a3 a4
      subst hm a4
      have a3' : del = false := by simpa using a3
      subst a3'
      have hsl : ks = #[k0, k1, k2, k3, some (.builtin "ValueError.__new__"), k5] := by
        obtain ⟨l⟩ := ks
        simp only at hs
        rw [hs]
      subst hsl
      exact ⟨nm, qn, ns, bs, bm, sn, sub, ab, col, dd, k0, k1, k2, k3, k5, ho, a5⟩
    · cases h1
  · cases h1
/-- what isinstance and a field's read ask of the class -/
structure IsC (K : PySem.W.Frag) (C : Addr) : Prop where
  cl : (PySem.W.clsIn K C).isSome = true
  ga : PySem.W.findIn K (.ref C) "__getattribute__" = some (some (.builtin "BaseException.__getattribute__"))
  gg : PySem.W.findIn K (.ref C) "__getattr__" = some none
  ex : PySem.W.subIn K (.ref C) (.type "BaseException") = some true
  ca : PySem.W.findIn K (.ref C) "__class__" = some (some (.builtin "object.__class__"))
  sp : PySem.W.specialIn K (.builtin "object.__class__") "__get__" = some (some (.builtin "getset_descriptor.__get__"))
  tk : PySem.W.takesIn K (.builtin "object.__class__") = some true
  mr : PySem.W.mroIn K C (.type "object") = some true
  hd : PySem.W.hasDictIn K C = true
def isB (K : PySem.W.Frag) (C : Addr) : Bool := (PySem.W.clsIn K C).isSome && (He.eqO (PySem.W.findIn K (.ref C) "__getattribute__") (some (some (.builtin "BaseException.__getattribute__"))) && (He.eqO (PySem.W.findIn K (.ref C) "__getattr__") (some none) &&
  (decide (PySem.W.subIn K (.ref C) (.type "BaseException") = some true) && (He.eqO (PySem.W.findIn K (.ref C) "__class__") (some (some (.builtin "object.__class__"))) &&
  (He.eqO (PySem.W.specialIn K (.builtin "object.__class__") "__get__") (some (some (.builtin "getset_descriptor.__get__"))) && (decide (PySem.W.takesIn K (.builtin "object.__class__") = some true) &&
  (decide (PySem.W.mroIn K C (.type "object") = some true) && PySem.W.hasDictIn K C)))))))
theorem isB_ok {K : PySem.W.Frag} {C : Addr} (h : isB K C = true) : IsC K C := by
  obtain ⟨h1, h⟩ := He.ba h
  obtain ⟨h2, h⟩ := He.ba h
  obtain ⟨h3, h⟩ := He.ba h
  obtain ⟨h4, h⟩ := He.ba h
  obtain ⟨h5, h⟩ := He.ba h
  obtain ⟨h6, h⟩ := He.ba h
  obtain ⟨h7, h⟩ := He.ba h
  obtain ⟨h8, h9⟩ := He.ba h
  exact ⟨h1, He.eqO_ok h2, He.eqO_ok h3, of_decide_eq_true h4, He.eqO_ok h5, He.eqO_ok h6, of_decide_eq_true h7, of_decide_eq_true h8, h9⟩
/-- C's __init__ is the def at fI; no class of it has the name f -/
structure InC (K : PySem.W.Frag) (C fI : Addr) (f : Str) : Prop where
  ini : PySem.W.findIn K (.ref C) "__init__" = some (some (.ref fI))
  tI : PySem.W.typeIn K (.ref fI) = some (.type "function")
  no : PySem.W.findIn K (.ref C) f = some none
def inB (K : PySem.W.Frag) (C : Addr) (f : Str) : Bool := He.eqO (PySem.W.findIn K (.ref C) "__init__") (some (some (.ref (He.ma K C "__init__")))) &&
  (decide (PySem.W.typeIn K (.ref (He.ma K C "__init__")) = some (.type "function")) && He.eqO (PySem.W.findIn K (.ref C) f) (some none))
theorem inB_ok {K : PySem.W.Frag} {C : Addr} {f : Str} (h : inB K C f = true) : InC K C (He.ma K C "__init__") f := by
  obtain ⟨h1, h⟩ := He.ba h
  obtain ⟨h2, h3⟩ := He.ba h
  exact ⟨He.eqO_ok h1, of_decide_eq_true h2, He.eqO_ok h3⟩
/-- M.__init__ read off the class M is ValueError's -/
structure BaC (K : PySem.W.Frag) (M : Addr) : Prop where
  sp : PySem.W.specialIn K (.ref M) "__getattribute__" = some (some (.builtin "type.__getattribute__"))
  rd : PySem.W.readsIn K M (.type "type") = true
  fi : PySem.W.findCls K (.ref M) (.type "type") "__init__" = some (.val (.builtin "ValueError.__init__"))

def baB (K : PySem.W.Frag) (M : Addr) : Bool := He.eqO (PySem.W.specialIn K (.ref M) "__getattribute__") (some (some (.builtin "type.__getattribute__"))) && (PySem.W.readsIn K M (.type "type") &&
  (match PySem.W.findCls K (.ref M) (.type "type") "__init__" with
    | some (.val (.builtin nm)) => decide (nm = "ValueError.__init__")
    | _ => false))
theorem baB_ok {K : PySem.W.Frag} {M : Addr} (h : baB K M = true) : BaC K M := by
  obtain ⟨h1, h⟩ := He.ba h
  obtain ⟨h2, h3⟩ := He.ba h
  refine ⟨He.eqO_ok h1, h2, ?_⟩
  split at h3
  · rename_i nm e
    rw [e, of_decide_eq_true h3]
  · cases h3
/-- an instance of the class C: as it was made by C's own __init__, or without one -/
inductive IsE (H : Hp) (a C : Addr) : Prop where
  | own (dx : Addr) (fs : List (Str × V)) (h : H a = some (exo a C (some dx))) (hd : H dx = some (exd dx fs))
  | bare (h : H a = some (ExO (.ref C) a))
theorem IsE.same {H H' : Hp} {a C : Addr} (s : Same H H') : IsE H a C → IsE H' a C
  | .own dx fs h hd => .own dx fs (s _ _ h) (s _ _ hd)
  | .bare h => .bare (s _ _ h)
section
variable {X : Cx} {pins : List (Addr × Obj)} {σ : L2.St} {H : Hp} {s : Shared}
/-- where such an instance stands -/
theorem IsE.inst (I : Inv X pins σ H s) {a C : Addr} (h : IsE H a C) : ∃ (ox : Obj) (od : Option Obj), PySem.W.InstAt s.heap a ox C od := by
  cases h with
  | own dx fs h hd =>
    obtain ⟨t1, ho⟩ := exo_at I.hok h
    obtain ⟨mA, hns, _⟩ := exd_at I.hok hd
    obtain ⟨o, es, ep, e1, e2, _⟩ := hns
    exact ⟨_, some o, ho, rfl, rfl, e1⟩
  | bare h =>
    obtain ⟨⟨oe, vs, ho, hz, hd, _⟩, _, _⟩ := I.hok a _ h
    obtain ⟨oc, od, oda, osl⟩ := oe
    obtain ⟨h1, h2⟩ := hz
    dsimp only at h1 h2 hd
    subst h1 h2 hd
    exact ⟨_, none, ho, rfl, rfl, trivial⟩
/-- isinstance(e, c), e such an instance -/
def rIsiE (K : PySem.W.Frag) : List V → Hp → VK → Prop := fun xs H Q => ∃ (a C : Addr) (c : V) (u : Value) (b : Bool), xs = [.ref a, c] ∧ IsE H a C ∧ IsC K C ∧ ClsV c u ∧ PySem.W.kitOne K (.ref C) u = some b ∧ Q (.bl b) H
theorem call_isiE : CallR X (.builtin "isinstance") (rIsiE X.K) := by
  intro pins s σ H xs us Q I r h
  obtain ⟨a, C, c, u, b, rfl, hi, T, k, e, q⟩ := h
  obtain ⟨u1, u2, rfl, r1, r2⟩ := vals2 r
  have e2 := k.eq r2
  subst e2
  cases (show u1 = Value.ref a from r1)
  obtain ⟨ox, od, J⟩ := hi.inst I
  exact PySem.W.kia_one (PySem.W.kitx_exc T.cl T.ga T.gg T.ex T.ca T.sp T.tk T.mr) I.kIn J e (fun z => nomatch z) fun tk => ⟨.bl b, H, I.tok tk, rfl, q⟩
end
/-- M.__init__(self, ..), M an own base class without an __init__ -/
def tOwnI (K : PySem.W.Frag) (ta : TA) : TE := fun σ H Q => ta σ H fun vs H1 => ∃ (a C : Addr) (ws : List V), vs = .ref a :: ws ∧ ws.length ≤ 1000 ∧ OexC K C ∧ H1 a = some (exo a C none) ∧ Q .non H1
/-- x.f -/
def tFld (K : PySem.W.Frag) (f : Str) (te : TE) : TE := fun σ H Q => te σ H fun x H1 => ∃ (a C dx : Addr) (fs : List (Str × V)) (v : V), x = .ref a ∧ H1 a = some (exo a C (some dx)) ∧ H1 dx = some (exd dx fs) ∧ fs.lookup f = some v ∧ IsC K C ∧
  PySem.W.findIn K (.ref C) f = some none ∧ Q v H1
def tMkV1 (C : Addr) (sp : Sp) (te : TE) : TE := fun σ H Q => te σ H fun v H1 => ∀ a, H1 a = none → sp [.ref a, v] (upd H1 a (exo a C none)) (fun v H2 => v = .non ∧ Q (.ref a) H2) (fun _ _ _ => False)
def tMkV (C : Addr) (sp : Sp) (ta : TA) : TE := fun σ H Q => ta σ H fun vs H1 => vs.length ≤ 1000 ∧ ∀ a, H1 a = none → sp (.ref a :: vs) (upd H1 a (exo a C none)) (fun v H2 => v = .non ∧ Q (.ref a) H2) (fun _ _ _ => False)
section
variable {X : Cx} {CX : CXT} {o e : Expr} {es : List Expr} {to te : TE} {ta tk : TA} {f x kn : Str} {p p' p1 p2 pos kpos : Pos} {M C fI : Addr} {k : Nat} {fd : FuncData} {ps : List Str} {sp : Sp}
theorem pe_owninit {pl : Sem Bool} (hg : Gl X x) (hm : X.mg x = some (.ref M)) (T : BaC X.K M) (ha : PA X (e :: es) ta) (hdb : (x == ("__debug__" : Str)) = false := by decide)
    (hc : eval (.Call (.Attribute (.Name x p1) "__init__" p2) (e :: es) [] pos) X.env = (do
      let ov ← eval (.Name x p1) X.env
      standAt p2.atName
      let (f, first) ← holding [ov] (getMethod ov "__init__" pl)
      callWith pos f first (backTo pos (starEach (e :: es) X.env)) (backToKw pos (keywordEach [] X.env))) := by rfl)
    (he : starEach (e :: es) X.env = (false, eval e X.env) :: starEach es X.env := by rfl) (hpl : (backTo pos (starEach es X.env)).any (·.1) = false := by rfl) :
    PE X (.Call (.Attribute (.Name x p1) "__init__" p2) (e :: es) [] pos) (tOwnI X.K ta) := by
  refine ⟨fun pins s σ H Q I h => ?_⟩
  refine PySem.W.methodCall_KW (ld_glob I hg hm ?_ hdb) hc
  refine PySem.W.method_cls I.kIn T.sp (PySem.W.cls_value I.kIn T.rd T.fi (by decide +kernel) ?_)
  show wpAny _ _ (callWith pos (Value.builtin "ValueError.__init__") [] (backTo pos (starEach (e :: es) X.env)) []) _ _ _
  refine PyProof.Rows.callWith_method1 (thn (ha.run pos pins _ σ H _ (I.tok _) h) fun us s1 ⟨vs, H1, I1, r1, a, C, ws, ev, hl, T, ea, q⟩ => ?_) he hpl
  subst ev
  cases r1 with
  | @cons _ u0 _ ur ra rw' =>
    obtain rfl : u0 = Value.ref a := ra
    have hlen : ur.length ≤ sizeLine := by
      rw [← Paired.length rw', sizeLine_eq]
      omega
    exact oinit_ok T I1 ea hlen fun s' J => ⟨.non, H1, J, rfl, q⟩
theorem pe_fld (he : PE X e te) (hb : attributeBase e f X.env (eval e X.env) = eval e X.env := by rfl) : PE X (.Attribute e f pos) (tFld X.K f te) := by
  refine ⟨fun pins s σ H Q I h => ?_⟩
  refine attr_of hb (thn (he.run pins s σ H _ I h) fun u s1 hh => ?_)
  obtain ⟨x, H1, I1, rx, a, C, dx, fs, v, ex, ea, ed, l, T, hno, q⟩ := hh
  subst ex
  obtain rfl : u = Value.ref a := rx
  obtain ⟨t1, ho⟩ := exo_at I1.hok ea
  obtain ⟨mA, hns, hr⟩ := exd_at I1.hok ed
  obtain ⟨od, hod, hl⟩ := lookIn_ns hns
  obtain ⟨u, hu, ru⟩ := RelO.some_of (v := v) (o := mA f) (by rw [← l]; exact hr f)
  exact HandSPX.exc_get I1.kIn ⟨ho, rfl, rfl, hod⟩ T.ga T.gg T.ex (PySem.W.findObj_own T.hd hno rfl (by rw [hl, hu])) (handed_of ru) ⟨v, H1, I1.tok _, ru, q⟩
/-- what is common to the two ways to make an instance -/
theorem mkv_end {R : Result → Shared → Prop} {pins : List (Addr × Obj)} {σ : L2.St} {H1 : Hp} {s s' : Shared} {a : Addr} {Q : VK} {r : Result} (hx : Passes CX X (fun _ _ _ => False)) (I2 : Inv X pins σ H1 s)
    (hq' : CR CX X.stack X.prog X.w H1 s (fun v H2 => v = .non ∧ Q (.ref a) H2) (fun _ _ _ => False) r s')
    (hR : ∀ s', EP X pins σ Q (.ref a) s' → R (.ok (.ret (.ref a))) s') (hE : ∀ e s', X.xe e s' → R (.error e) s') : PySem.W.InitBack a R r s' := by
  cases r with
  | error er => exact hE _ _ (hx pins σ _ _ er s' I2 hq')
  | ok fl =>
    cases fl with
    | ret u =>
      obtain ⟨v, H', I3, rv, ev, q3⟩ := I2.after hq'
      subst ev
      exact ⟨rv, hR _ ⟨V.ref a, H', I3, rfl, q3⟩⟩
    | next => exact False.elim hq'
    | brk => exact False.elim hq'
    | cont => exact False.elim hq'
theorem pe_mkv (T : OexC X.K C) (iC : PySem.W.findIn X.K (.ref C) "__init__" = some (some (.ref fI))) (tI : PySem.W.typeIn X.K (.ref fI) = some (.type "function"))
    (F1 : FnOk X.prog X.w X.K X.mg X.base CX k fI fd ps sp) (hr : Room (k + 1) X.A) (hb : Binds X.K fd ps []) (hx : Passes CX X (fun _ _ _ => False)) (hg : Gl X x) (hm : X.mg x = some (.ref C)) (ha : PA X (e :: es) ta)
    (hdb : (x == ("__debug__" : Str)) = false := by decide) (he : starEach (e :: es) X.env = (false, eval e X.env) :: starEach es X.env := by rfl) (hpl : (backTo pos (starEach es X.env)).any (·.1) = false := by rfl) :
    PE X (.Call (.Name x p) (e :: es) [] pos) (tMkV C sp ta) := by
  refine ⟨fun pins s σ H Q I h => ?_⟩
  obtain ⟨nm, q, N, bs, bm, sn, sub, ab, col, dd, k0, k1, k2, k3, k5, hC, hbm⟩ := T.cls
  refine wpAny_Call_Name_kw (ld_glob I hg hm ?_ hdb)
  refine PySem.W.callWith_K (h₀ := X.base) I.ok.mod.kin T.kC (thn (ha.run pos pins s σ H _ I h) fun us s1 ⟨vs, H1, I1, r1, hz, q1⟩ => ⟨I1.kIn, ?_⟩) he hpl
  show wpAny _ _ (call (.ref C) us) _ _ _
  obtain ⟨hp, g, dr, tk, os⟩ := s1
  have hsz : hp.objs.size ≤ hp.objs.size + 1 := Nat.le_succ _
  have hn : H1 (hp.objs.size + 1) = none := I1.hok.fresh hsz
  have hq := q1 (hp.objs.size + 1) hn
  have kk : ∀ b o, hp.get? b = some o → ((hp.push (PySem.W.kdv_tup us)).push (PySem.HandSPX.excO C hp.objs.size)).get? b = some o := fun b o e => Heap.get?_push_of_some _ (Heap.get?_push_of_some _ e)
  have hget : ((hp.push (PySem.W.kdv_tup us)).push (PySem.HandSPX.excO C hp.objs.size)).get? (hp.objs.size + 1) = some (PySem.HandSPX.excO C hp.objs.size) := by heap_get
  have I2 : Inv X pins σ (upd H1 (hp.objs.size + 1) (exo (hp.objs.size + 1) C none)) ⟨(hp.push (PySem.W.kdv_tup us)).push (PySem.HandSPX.excO C hp.objs.size), g, dr, tk, os⟩ :=
    I1.laid (t' := tk) (a := hp.objs.size + 1) (o := exo (hp.objs.size + 1) C none) (h' := (hp.push (PySem.W.kdv_tup us)).push (PySem.HandSPX.excO C hp.objs.size)) kk hsz (exo_ok hget)
  have r2 : Vals (V.ref (hp.objs.size + 1) :: vs) (Value.ref (hp.objs.size + 1) :: us) := .cons rfl r1
  have hl : (Value.ref (hp.objs.size + 1) :: us ++ []).length = ps.length := by
    have e := r2.length
    rw [F1.len _ _ _ _ hq] at e
    rw [List.append_nil]
    exact e.symm
  have hus : us.length ≤ sizeLine := by
    rw [← Paired.length r1, sizeLine_eq]
    omega
  have hb2 := hb ⟨(hp.push (PySem.W.kdv_tup us)).push (PySem.HandSPX.excO C hp.objs.size), g, dr, tk, os⟩ (Value.ref (hp.objs.size + 1) :: us) I2.kIn hl
  rw [List.append_nil] at hb2
  refine wpAny_call (PySem.HandSPX.call_own F.excBase_ValueError (fun Y => PySem.HandSPX.refsVE_contains Y bm hbm) (I1.kIn _ _ hC) (PySem.W.looks_findIn I1.kIn iC) (fun self => PySem.W.bind_fn I1.kIn self tI) hus
    (codeAny_mono (F1.run _ X.stack _ _ ⟨Value.ref (hp.objs.size + 1) :: us, []⟩ (Value.ref (hp.objs.size + 1) :: us) _ _ (fun _ _ _ => False) (hr.make C us []) (I2.env0.make C us []) hb2 r2 hq) fun r s' hq' => ?_))
  exact mkv_end hx I2 hq' (fun _ z => z) (fun _ _ z => z)
theorem pe_mkvK (T : OexC X.K C) (iC : PySem.W.findIn X.K (.ref C) "__init__" = some (some (.ref fI))) (tI : PySem.W.typeIn X.K (.ref fI) = some (.type "function"))
    (F1 : FnOk X.prog X.w X.K X.mg X.base CX k fI fd ps sp) (hr : Room (k + 1) X.A) (hb : ∀ (s : Shared) (a w : Value), X.K.In s.heap → BindsTo s fd ⟨[a], [(kn, w)]⟩ (ps.zip [a, w])) (hx : Passes CX X (fun _ _ _ => False)) (hg : Gl X x) (hm : X.mg x = some (.ref C))
    (he : PE X e te) (hdb : (x == ("__debug__" : Str)) = false := by decide) (hall : (backToKw pos (keywordEach [⟨some kn, e, kpos⟩] X.env)).all (·.1.isSome) = true := by rfl) (hks : (backToKw pos (keywordEach [⟨some kn, e, kpos⟩] X.env)).filterMap (·.1) = [kn] := by rfl)
    (hpl : ((backTo pos (starEach [] X.env)).any (·.1) || (backToKw pos (keywordEach [⟨some kn, e, kpos⟩] X.env)).any (·.1.isNone)) = false := by rfl) :
    PE X (.Call (.Name x p) [] [⟨some kn, e, kpos⟩] pos) (tMkV1 C sp te) := by
  refine ⟨fun pins s σ H Q I h => ?_⟩
  obtain ⟨nm, q, N, bs, bm, sn, sub, ab, col, dd, k0, k1, k2, k3, k5, hC, hbm⟩ := T.cls
  refine wpAny_Call_Name_kw (ld_glob I hg hm ?_ hdb)
  have hkw : PK X [⟨some kn, e, kpos⟩] (tCons te tNil) := pk_cons he pk_nil
  have h' : tCons te tNil σ H (fun vs H1 => match vs with | [y] => ∀ a, H1 a = none → sp [.ref a, y] (upd H1 a (exo a C none)) (fun v H2 => v = .non ∧ Q (.ref a) H2) (fun _ _ _ => False) | _ => False) := h
  refine PySem.W.callWith_KW0 (h₀ := X.base) I.ok.mod.kin T.kC hall (thn (hkw.run pos pins s σ H _ I h') fun us s1 ⟨vs, H1, I1, r1, q1⟩ => ⟨I1.kIn, ?_⟩) hpl
  rw [hks]
  match vs, r1, q1 with | [y], r1, q1 => ?_
  obtain ⟨u, rfl, ru⟩ := vals1 r1
  obtain ⟨hp, g, dr, tk, os⟩ := s1
  have hsz : hp.objs.size ≤ hp.objs.size + 1 := Nat.le_succ _
  have hn : H1 (hp.objs.size + 1) = none := I1.hok.fresh hsz
  have hq := q1 (hp.objs.size + 1) hn
  have kk : ∀ b o, hp.get? b = some o → ((hp.push (PySem.W.kdv_tup [])).push (PySem.HandSPX.excO C hp.objs.size)).get? b = some o := fun b o e => Heap.get?_push_of_some _ (Heap.get?_push_of_some _ e)
  have hget : ((hp.push (PySem.W.kdv_tup [])).push (PySem.HandSPX.excO C hp.objs.size)).get? (hp.objs.size + 1) = some (PySem.HandSPX.excO C hp.objs.size) := by heap_get
  have I2 : Inv X pins σ (upd H1 (hp.objs.size + 1) (exo (hp.objs.size + 1) C none)) ⟨(hp.push (PySem.W.kdv_tup [])).push (PySem.HandSPX.excO C hp.objs.size), g, dr, tk, os⟩ :=
    I1.laid (t' := tk) (a := hp.objs.size + 1) (o := exo (hp.objs.size + 1) C none) (h' := (hp.push (PySem.W.kdv_tup [])).push (PySem.HandSPX.excO C hp.objs.size)) kk hsz (exo_ok hget)
  have r2 : Vals [V.ref (hp.objs.size + 1), y] [Value.ref (hp.objs.size + 1), u] := .cons rfl (.cons ru .nil)
  refine wpAny_call (PySem.MwK.callK F.excBase_ValueError (fun Y => PySem.HandSPX.refsVE_contains Y bm hbm) (I1.kIn _ _ hC) (PySem.W.looks_findIn I1.kIn iC) (fun self => PySem.W.bind_fn I1.kIn self tI)
    (codeAny_mono (F1.run _ X.stack _ _ ⟨[Value.ref (hp.objs.size + 1)], [(kn, u)]⟩ [Value.ref (hp.objs.size + 1), u] _ _ (fun _ _ _ => False) (hr.make C [] [(kn, u)]) (I2.env0.make C [] [(kn, u)]) (hb _ _ _ I2.kIn) r2 hq) fun r s' hq' => ?_))
  exact mkv_end hx I2 hq' (fun _ z => z) (fun _ _ z => z)
end
end Mw
set_option Elab.async false
set_option linter.all false
set_option maxRecDepth 100000
set_option maxHeartbeats 2000000
/-! defs that are only called where no repr is under way -/
namespace Mw
open PySem PySem.Spec PyProof.Rows L2
/-- such a def's promise -/
structure FnG (Pr : Program) (w : World) (K : PySem.W.Frag) (mg : Str → Option Value) (base : Heap) (CX : CXT) (k : Nat) (f : Addr) (fd : FuncData) (ps : List Str) (sp : Sp) : Prop where
  size : ∀ {vs H Q E}, sp vs H Q E → vs.length = ps.length
  runs : ∀ {A outer st H args us vs Q E}, Room k A → A.guards = some [] → Env0 Pr w K mg base A outer st H → BindsTo st fd args (ps.zip us) → Vals vs us → sp vs H Q E →
    codeAny (model Pr w) A (.call (.ref f) args) (CR CX outer Pr w H st Q E) st
theorem FnG.of {Pr : Program} {w : World} {K : PySem.W.Frag} {mg : Str → Option Value} {base : Heap} {CX : CXT} {k : Nat} {f : Addr} {fd : FuncData} {ps : List Str} {sp : Sp} (F : FnOk Pr w K mg base CX k f fd ps sp) : FnG Pr w K mg base CX k f fd ps sp :=
  ⟨fun h => F.len _ _ _ _ h, fun r _ e b v h => F.run _ _ _ _ _ _ _ _ _ r e b v h⟩
theorem guards_deeper {A : Around} {qual : Str} {sc : Scope} {n f : Addr} {cd : Value} (h : A.guards = some []) : (A.deeper (envOfC qual sc n f cd)).guards = some [] := by
  first
    | exact h
    | simp [Around.deeper, h]
section
variable {Pr : Program} {w : World} {K : PySem.W.Frag} {mg : Str → Option Value} {base : Heap} {x qual : Str} {params : Arguments} {body : List Stmt} {scope : Scope} {dvs : List V} {kws : List (Str × V)} {f : Addr} {fd : FuncData}
theorem fnG_ofC {CX : CXT} {N ps : List Str} {k : Nat} {sp : Sp} {cdv : Value} (F : ∃ (oc : Value) (od : Option Addr) (dV kV doc pm : Value) (an : Option Addr) (ct : Value) (osl : Array (Option Value)),
      fd = PySem.W.fnOf x qual params body scope dV kV doc pm an cdv ct ∧ K.lookup f = some ⟨oc, od, .func fd, osl⟩ ∧ PySem.W.codeIn K cdv qual = true) (S : FnScope N ps scope) (size : ∀ {vs H Q E}, sp vs H Q E → vs.length = ps.length)
    (hb : ∀ (A : Around) (outer : List Env) (st : Shared) (H : Hp) (vs : List V) (Q : VK) (E : XK), Room k (A.deeper (envOfC qual scope st.heap.objs.size f cdv)) → (A.deeper (envOfC qual scope st.heap.objs.size f cdv)).guards = some [] → sp vs H Q E →
      ∃ t, PSs (cxOf CX Pr w K mg base N qual scope f cdv A outer st H E) body t ∧ t { nx := fun _ H' => Q .non H', rt := Q } (start N vs) H) : FnG Pr w K mg base CX (k + 1) f fd ps sp := by
  obtain ⟨oc, od, dV, kV, doc, pm, an, ct, osl, rfl, lk, hcd⟩ := F
  refine ⟨size, fun {A outer st H args us vs Q E} room hg en bd rel spec => ?_⟩
  have len := size spec
  have keep : ∀ (b : Addr) (o : Obj), base.get? b = some o → st.heap.get? b = some o := fun b o e => (en.bs b o e).1
  have hK := en.mod.kin.keeps keep
  have kinds : ∀ y ∈ ps.zip us, scope.names.lookup y.1 = some .local ∨ (scope.names.lookup y.1 = some .cell ∧ ((cellsFrom (st.heap.objs.size + 1) scope.names []).lookup y.1).isSome = true) := by
    rintro ⟨nm, vl⟩ hy
    rcases S.par nm (List.of_mem_zip hy).1 with q | q
    · exact Or.inl q
    · exact Or.inr ⟨q, PySem.W.cellsFrom_some _ _ _ (Or.inl q)⟩
  refine codeAny_call_function room.depth (hK _ _ lk) rfl S.co S.gen rfl (PySem.W.codeRec_of hK hcd) (bd _ _ _ _ ?_)
  refine wpAny_newFunctionEnv_cells S.kind kinds fun en1 e1 s1 z => ?_
  cases e1
  refine ⟨(en.mod.nolimit.keeps keep).keeps z.toInCall.keep, codeAny_func ?_⟩
  obtain ⟨t, ht, hq⟩ := hb A outer st H vs Q E (room.deeper _) (guards_deeper hg) spec
  have J : Inv (cxOf CX Pr w K mg base N qual scope f cdv A outer st H E) [] (start N vs) H s1 := inv_start S room.hd en len rel z
  refine wpAny_mono (ht.run [] s1 (start N vs) H _ J hq) (fun fl s2 hs => ?_) fun _ _ hs => hs
  have fin : ∀ {σ2 : L2.St} {H2 : Hp} {v : V} {u : Value}, Inv (cxOf CX Pr w K mg base N qual scope f cdv A outer st H E) [] σ2 H2 s2 → RelV v u → Q v H2 → CE outer Pr w H st Q u s2 := by
    intro σ2 H2 v u j rv q
    exact ⟨v, H2, j.os, j.bare, j.base, j.hok, rv, q⟩
  match fl, hs with
  | .ret u, ⟨v, σ2, H2, j, rv, q⟩ => exact fin j rv q
  | .next, ⟨σ2, H2, j, q⟩ => exact fin (v := V.non) (u := Value.none) j rfl q
  | .brk, ⟨_, _, _, q⟩ => exact q.elim
  | .cont, ⟨_, _, _, q⟩ => exact q.elim
theorem fnG_of {CX : CXT} {N ps : List Str} {k : Nat} {sp : Sp} (F : FunD K x qual params body scope dvs kws f fd) (S : FnScope N ps scope) (size : ∀ {vs H Q E}, sp vs H Q E → vs.length = ps.length)
    (hb : ∀ (cdv : Value) (A : Around) (outer : List Env) (st : Shared) (H : Hp) (vs : List V) (Q : VK) (E : XK), Room k (A.deeper (envOfC qual scope st.heap.objs.size f cdv)) → (A.deeper (envOfC qual scope st.heap.objs.size f cdv)).guards = some [] → sp vs H Q E →
      ∃ t, PSs (cxOf CX Pr w K mg base N qual scope f cdv A outer st H E) body t ∧ t { nx := fun _ H' => Q .non H', rt := Q } (start N vs) H) : FnG Pr w K mg base CX (k + 1) f fd ps sp := by
  obtain ⟨oc, od, dV, kV, doc, pm, an, cdv, ct, osl, e, lk, hcd, _, _⟩ := F.ex
  exact fnG_ofC ⟨oc, od, dV, kV, doc, pm, an, ct, osl, e, lk, hcd⟩ S size (hb cdv)
end
/-- a call of such a def from a body -/
theorem pe_callG {X : Cx} {CX : CXT} {k : Nat} {f : Addr} {fd : FuncData} {ps : List Str} {sp : Sp} {dvs : List V} {ds : List Value} {E : XK} {x : Str} {p pos : Pos} {e : Expr} {es : List Expr} {t : TA} (F : FnG X.prog X.w X.K X.mg X.base CX k f fd ps sp) (room : Room k X.A) (hgd : X.A.guards = some [])
    (hg : Gl X x) (hm : X.mg x = some (.ref f)) (hk : PySem.W.keepIn X.K (.ref f) = true) (hb : Binds X.K fd ps ds) (hd : Vals dvs ds) (hx : Passes CX X E)
    (ha : PA X (e :: es) t) (hdb : (x == ("__debug__" : Str)) = false := by decide) (he : starEach (e :: es) X.env = (false, eval e X.env) :: starEach es X.env := by rfl) (hpl : (backTo pos (starEach es X.env)).any (·.1) = false := by rfl) :
    PE X (.Call (.Name x p) (e :: es) [] pos) (tCall sp dvs E t) := by
  refine ⟨fun pins s σ H Q I h => wpAny_Call_Name_kw (ld_glob I hg hm ?_ hdb)⟩
  refine PySem.W.callWith_K (h₀ := X.base) I.ok.mod.kin hk (thn (ha.run pos pins s σ H _ I h) fun us s1 ⟨vs, H1, J, r, q⟩ => ⟨J.kIn, ?_⟩) he hpl
  have rr : Vals (vs ++ dvs) (us ++ ds) := r.append hd
  refine wpAny_call (codeAny_mono (F.runs room hgd J.env0 (hb s1 us J.kIn (rr.length.symm.trans (F.size q))) rr q) fun rs s2 hq => ?_)
  match rs, hq with
  | .error er, hq => exact hx pins σ H1 s1 er s2 J hq
  | .ok (.ret u), hq => exact J.after hq
  | .ok .next, hq => exact hq.elim
  | .ok .brk, hq => exact hq.elim
  | .ok .cont, hq => exact hq.elim
end Mw
namespace Mw
open PySem PySem.Spec PyProof.Rows L2
/-- the law's list as data that stands: nothing else is tracked -/
def scr (K : PySem.W.Frag) (a : Addr) (o : Obj) (ns : List Int) : Hp := fun b => if b = a ∧ (K.lookup a).isNone = true then some (.frz o (.lst (ns.map V.int))) else none
theorem scr_out {K : PySem.W.Frag} {a b : Addr} {o : Obj} {ns : List Int} (h : ¬ (b = a ∧ (K.lookup a).isNone = true)) : scr K a o ns b = none := if_neg h
theorem scr_in {K : PySem.W.Frag} {a : Addr} {o : Obj} {ns : List Int} (h : (K.lookup a).isNone = true) : scr K a o ns a = some (.frz o (.lst (ns.map V.int))) := if_pos ⟨rfl, h⟩
theorem scr_some {K : PySem.W.Frag} {a b : Addr} {o : Obj} {ns : List Int} {u : HO} (h : scr K a o ns b = some u) : b = a ∧ (K.lookup a).isNone = true ∧ u = .frz o (.lst (ns.map V.int)) := by
  by_cases c : b = a ∧ (K.lookup a).isNone = true
  · obtain ⟨rfl, c2⟩ := c
    rw [scr_in c2] at h
    exact ⟨rfl, c2, (Option.some.inj h).symm⟩
  · rw [scr_out c] at h
    cases h
/-- the law's def, called with the list, from outside: no repr is under way -/
theorem walk_ofG {l : PySem.W.OpenLaw} {n k : Nat} {q : Program} {loose : List Str} {XP : (Str → Option Value) → Heap → Prop} {YP : World → Heap → Prop} {d : DefRec} {CX : CXT} {x : Str}
    (most : l.most = some n) (small : n ≤ sizeLine) (nodef : d.params.defaults = []) (room : Room k callerA)
    (F : ∀ (w : World) (mg : Str → Option Value) (f : Addr) (h : Heap), YP w h → h.Ns mainGlobals mg → mg d.name = some (.ref f) →
      ∃ (K : PySem.W.Frag) (fd : FuncData) (sp : Sp), K.In h ∧ (∀ (s : Shared) (u : Value), BindsTo s fd ⟨[u], []⟩ [(x, u)]) ∧
        (∀ (H : Hp) (a : Addr) (ns : List Int), ns.length ≤ n → SqL K H a (ns.map V.int) → sp [.ref a] H (fun v _ => v = .bl true) fun _ _ _ => False) ∧
        ∀ base : Heap, K.In base → base.Ns mainGlobals mg → FnG l.prog w K mg base CX k f fd [x] sp)
    (noexc : ∀ (H : Hp) (s : Shared) (e : Value) (s' : Shared), CX [] H s (fun _ _ _ => False) e s' → False) :
    PySem.W.WalkO q loose XP YP l.row.toRowW d [] (fun f vs => PySem.call f vs) := by
  refine Att.attach_call most nodef fun w st0 st mg mb f of pm cd doc a vs ns G Y hf hdf hcode hmgd hobj hints hlen hgens => ?_
  obtain ⟨K, fd, sp, hK, binds, spec, hF⟩ := F w mg f _ Y G.T.g hmgd
  have rel := vals_ints hints
  have lens := hints.length
  have lz : ns.length ≤ sizeLine := Nat.le_trans hlen small
  generalize hH : scr K a { cls := .type "list", data := .seq vs.toArray } ns = H
  have out : ∀ {b : Addr} {u : HO}, H b = some u → b = a ∧ (K.lookup a).isNone = true ∧ u = .frz { cls := .type "list", data := .seq vs.toArray } (.lst (ns.map V.int)) := fun {b u} e => scr_some (by rw [hH]; exact e)
  have seq : SqL K H a (ns.map V.int) := by
    cases hk : K.lookup a with
    | none =>
      exact Or.inl (Or.inr ⟨_, by rw [← hH]; exact scr_in (by rw [hk]; rfl)⟩)
    | some o =>
      have e := hobj.symm.trans (hK a o hk)
      have e2 := Option.some.inj e
      subst e2
      exact Or.inr ⟨_, vs.toArray, _, hk, rfl, rfl, rfl, by rw [List.size_toArray, lens]; exact lz, by simpa using rel⟩
  have hok : HOk l.prog w H st.heap := fun b u e => by
    obtain ⟨rfl, _, rfl⟩ := out e
    exact ⟨hobj, by rw [List.length_map]; exact lz, vs, _, rel, hobj⟩
  have hid : ∀ {b : Addr} {o : Obj}, st.heap.get? b = some o → H b = none → (hidT st.heap H).get? b = some o := fun e z => hidT_get e z
  have plain : ∀ {b : Addr} {o : Obj} {es : Array DictEntry} {ep : Nat}, st.heap.get? b = some o → o.data = .dict es ep → H b = none := by
    intro b o es ep e z
    cases hb : H b with
    | none => rfl
    | some u =>
      obtain ⟨rfl, _, _⟩ := out hb
      cases Option.some.inj (hobj.symm.trans e)
      cases z
  have spaces : ∀ {b : Addr} {m : Str → Option Value}, st.heap.Ns b m → (hidT st.heap H).Ns b m := by
    rintro b m ⟨o, es, ep, e, z, r⟩
    exact ⟨o, es, ep, hid e (plain e z), z, r⟩
  have hKb : K.In (hidT st.heap H) := fun b o e => hid (hK b o e) (by
    cases hb : H b with
    | none => rfl
    | some u =>
      obtain ⟨rfl, z, _⟩ := out hb
      rw [e] at z
      cases z)
  have lim : (hidT st.heap H).NoLimit := by
    obtain ⟨mc, z1, z2⟩ := G.T.nolimit
    exact ⟨mc, spaces z1, z2⟩
  have en : Env0 l.prog w K mg (hidT st.heap H) callerA [] st H := {
    frames := rfl
    mod := ⟨hKb, spaces G.T.g, ⟨mb, spaces G.T.b, G.T.builtins⟩, lim⟩
    bs := fun b o e => of_hidT e
    bsz := Nat.le_of_eq (hidT_size _ _)
    funs := trivial
    frf := fun b hb => (List.not_mem_nil hb).elim
    hok := hok
    bare := .of_eq hgens }
  refine codeAny_mono ((hF _ hKb (spaces G.T.g)).runs (args := ⟨[.ref a], []⟩) (us := [.ref a]) (vs := [.ref a]) room rfl en (binds st (.ref a)) (.cons rfl .nil) (spec H a ns hlen seq)) fun r s' h => ?_
  match r, h with
  | .error e, h => exact (noexc H st e s' h).elim
  | .ok .next, h => exact h.elim
  | .ok .brk, h => exact h.elim
  | .ok .cont, h => exact h.elim
  | .ok (.ret u), ⟨v, H', e1, e2, un, ok2, rv, ev⟩ =>
    obtain rfl : v = .bl true := ev
    obtain rfl : u = Value.bool true := rv
    refine ⟨rfl, OldK.of_keep fun b o e => ?_, e1, e2⟩
    cases hb : H b with
    | none => exact un.keep b o e hb (fun z => (List.not_mem_nil z).elim) (List.not_mem_nil)
    | some u =>
      obtain ⟨rfl, _, rfl⟩ := out hb
      have z := un.frzs _ _ _ hb
      obtain ⟨y, _⟩ := ok2 _ _ z
      rw [← e, hobj]
      exact y
end Mw
set_option Elab.async false
set_option linter.all false
set_option maxRecDepth 100000
set_option maxHeartbeats 2000000
/-! try: .. except C as n: .. where what was caught is kept in another name -/
namespace Mw
open PySem PySem.Spec PyProof.Rows L2
/-- an exception that was caught: its class, its dict -/
def XcO (cls : Value) (d : Option Addr) (a : Addr) : HO := .ext fun h => ∃ (oe : Obj) (vs : Array Value), h.get? a = some oe ∧ Zc cls d oe ∧ oe.data = .fields vs
section
variable {X : Cx} {pins : List (Addr × Obj)} {σ : L2.St} {H : Hp} {s : Shared} {a : Addr} {cls : Value} {d : Option Addr}
/-- an object that came up since the entry is tracked from now on -/
theorem adopt {oe : Obj} {vs : Array Value} (I : Inv X pins σ H s) (e : s.heap.get? a = some oe) (z : Zc cls d oe) (f : oe.data = .fields vs) (n : H a = none) (n0 : X.s_0.heap.get? a = none) (nL : a ≠ X.env.locals) (np : ∀ p ∈ X.pn ++ pins, p.1 ≠ a) :
    Inv X pins σ (upd H a (XcO cls d a)) s := by
  have out : ∀ {b : Addr} {o : Obj}, X.s_0.heap.get? b = some o → b ≠ a := fun {b o} q y => by
    rw [y, n0] at q
    cases q
  have ne : ∀ {b : Addr} {u : HO}, H b = some u → b ≠ a := fun q => ne_of_none q n
  refine ⟨I.ok, I.os, I.bare, ?_, I.loc, I.cell, ?_, ?_, ?_, ?_, I.len⟩
  · exact {
      keep := I.base.keep
      slot := I.base.slot
      free := fun b o q m y => (upd_ne (out q)).trans (I.base.free b o q m y)
      there := I.base.there
      tups := fun b xs q => (upd_ne (ne (I.base.tups b xs q))).trans (I.base.tups b xs q)
      frzs := fun b o u q => (upd_ne (ne (I.base.frzs b o u q))).trans (I.base.frzs b o u q)
      tbls := fun b ps q => by
        obtain ⟨more, y⟩ := I.base.tbls b ps q
        exact ⟨more, (upd_ne (ne y)).trans y⟩ }
  · exact (upd_ne nL.symm).trans I.free
  · intro x c q
    refine (upd_ne fun y => ?_).trans (I.freeC x c q)
    obtain ⟨v, o, ho, hd⟩ := I.cell x c q
    rw [y, e] at ho
    cases Option.some.inj ho
    rw [f] at hd
    cases hd
  · intro p hp
    obtain ⟨h1, h2, h3⟩ := I.pin p hp
    exact ⟨h1, (upd_ne (np p hp)).trans h2, h3⟩
  · intro b u q
    by_cases hb : b = a
    · subst hb
      rw [upd_same] at q
      cases q
      exact ⟨⟨oe, vs, e, z, f⟩, ⟨oe, e⟩, fun h1 h2 ⟨o, w, y, r⟩ k => ⟨o, w, k o y, r⟩⟩
    · rw [upd_ne hb] at q
      exact (I.hok b u q).stay (fun c v _ y => y) (fun c y => (upd_ne (ne y)).trans y) (fun c xs y => (upd_ne (ne y)).trans y)
/-- what the clause wishes: behind its suite the caught one is tracked -/
def wKeep (K : PySem.W.Frag) (c : Value) (i : Nat) (ts : Addr → Value → Option Addr → TS) (Wout : WX) (D : Ends) : WX := fun cls d σ H =>
  ∃ b, PySem.W.exmOne K cls c = some b ∧ (b = true → ∀ a, H a = none → ts a cls d ⟨fun σ' H' => H' a = none → D.nx (σ'.set i none) (upd H' a (XcO cls d a)), D.rt, fun σ' H' => H' a = none → D.bk (σ'.set i none) (upd H' a (XcO cls d a)), fun σ' H' => H' a = none → D.ct (σ'.set i none) (upd H' a (XcO cls d a))⟩ (σ.set i (some (.ref a))) H) ∧
    (b = false → Wout cls d σ H)
end
section
variable {X : Cx} {x n : Str} {c : Value} {i : Nat} {body suite : List Stmt} {st0 : Stmt} {np pos ppos : Pos} {tb : WX → TS} {ts : Addr → Value → Option Addr → TS} {Wout : WX}
theorem ps_try_keep (hs : X.stack = X.env :: X.outer) (hf : X.env.frame = some X.env.locals) (hx : X.ex = []) (hN : X.N.Nodup) (hi : X.N[i]? = some n) (hln : X.env.kindOf n = some .local) (hc : Names X x c) (tk : Takes X Wout)
    (hb : ∀ (W : WX) (pn : List (Addr × Obj)) (xe : Value → Shared → Prop), Takes (X.tr pn xe) W → PassesOwn (model X.prog X.w) X.A X.env xe → PSs (X.tr pn xe) body (tb W))
    (hsu : ∀ (a : Addr) (oe : Obj) (cls : Value) (d : Option Addr) (pn : List (Addr × Obj)), Zc cls d oe → (∃ vs, oe.data = .fields vs) → PSs (X.suite a ((a, oe) :: pn)) (st0 :: suite) (ts a cls d)) :
    PS X (.Try body [.ExceptHandler (some (.Name x np)) (some n) (st0 :: suite) ppos] [] [] pos) (fun D σ H => tb (wKeep X.K c i ts Wout D) D σ H) := by
  refine ⟨fun pins s σ H D I h => wpAny_Try_except ?_⟩
  have frames : X.A.frames = some (X.env :: X.outer) := I.ok.frames.trans (by rw [hs])
  let xh : Value → Shared → Prop := fun e s₁ => wpAny (model X.prog X.w) X.A (noteFrame e X.env) (fun _ s₂ => wpAny (model X.prog X.w) X.A (setFlight e none) (fun _ s₃ =>
    wpAny (model X.prog X.w) X.A (handleBy e X.env [.ExceptHandler (some (.Name x np)) (some n) (st0 :: suite) ppos]) (SP X pins D) X.xe s₃) X.xe s₂) X.xe s₁
  have caught : Takes (X.tr (X.pn ++ pins) xh) (wKeep X.K c i ts Wout D) := by
    rintro u s1 ⟨a, G, sI, pins1, σ1, H1, cls, d, rfl, J0, inG, upto, sky0, na, os1, bare1, b, mt, yes, no⟩
    have J := J0.ofTry I.ok
    have sky : Sky G (X.env :: X.outer) a (Zc cls d) X.env.locals s1.heap := by
      rw [← hs]
      exact sky0
    show wpAny _ X.A (noteFrame (.ref a) X.env) _ _ _
    refine Sky.land Zc.steady frames hf sky fun h3 fl up => ?_
    have J3 : Inv X pins σ1 H1 { s1 with heap := h3 } := J.landed inG fl.1 (upto.trans up) os1 bare1
    obtain ⟨oe3, vs3, he3, hz3, hd3⟩ := fl.there
    have notFrame : a ∉ frs (X.env :: X.outer) := fun hm => by
      obtain ⟨_, o, y, hnf⟩ := fl.2.2.1.mem hm
      rw [he3] at y
      cases Option.some.inj y
      exact hnf _ hd3
    have nL : a ≠ X.env.locals := fun y => notFrame (List.mem_filterMap.mpr ⟨X.env, List.mem_cons_self, by rw [hf, y]⟩)
    have nF : a ∉ X.fs := fun hm => by
      obtain ⟨e, he, y⟩ := List.mem_filterMap.mp hm
      exact notFrame (List.mem_filterMap.mpr ⟨e, List.mem_cons_of_mem _ he, y⟩)
    have gone : sI.heap.get? a = none := by
      cases e : sI.heap.get? a with
      | none => rfl
      | some o =>
        have y := inG a o e (by rw [hs]; exact notFrame)
        rw [fl.2.1] at y
        cases y
    have n0 : X.s_0.heap.get? a = none := by
      cases e : X.s_0.heap.get? a with
      | none => rfl
      | some o =>
        obtain ⟨o', y⟩ := J.base.there a o e (by rw [hx]; exact fun z => nomatch z)
        rw [gone] at y
        cases y
    have np' : ∀ p ∈ X.pn ++ pins, p.1 ≠ a := fun p hp y => by
      have z := (J.pin p hp).1
      rw [y, gone] at z
      cases z
    have S3 := J3.suite he3 hd3 na nL nF
    refine wpAny_handleBy_cons (codeAny_handlers_test ?_) (by intro y; cases y)
    have ty : PySem.W.Looks (model X.prog X.w) h3 (typeOf (.ref a)) cls := fun A Q E s k y => wpAny_typeOf_ref (k _ _ he3) (by rw [hz3.1]; exact y)
    have nm : ∀ {Q : Value → Shared → Prop} {E : Value → Shared → Prop}, Q c { s1 with heap := h3 } → wpAny (model X.prog X.w) (X.A.mark (some (.ref a))) (eval (.Name x np) X.env) Q E { s1 with heap := h3 } := by
      intro Q E y
      rcases hc with ⟨hg, hdb, hm | ⟨hm, hv, hn⟩⟩
      · exact ld_glob (X := X.suite a ((a, oe3) :: (X.pn ++ pins))) S3 hg hm y hdb
      · exact ld_blt (X := X.suite a ((a, oe3) :: (X.pn ++ pins))) S3 hg hm hv y hn hdb
    refine nm ((PySem.W.exm_one J3.kIn ty mt).here ?_)
    match b, yes, no with
    | true, yes, _ =>
      refine codeAny_handlers_suite_as (HandSPX.lands_againZ fl fun h4 fl4 up4 => ?_)
      have J4 : Inv X pins σ1 H1 { s1 with heap := h4 } := J.landed inG fl4.1 ((upto.trans up).trans up4) os1 bare1
      obtain ⟨oe4, vs4, he4, hz4, hd4⟩ := fl4.there
      refine store_ok (X := X.suite a ((a, oe4) :: (X.pn ++ pins))) (v := .ref a) (J4.suite he4 hd4 na nL nF) hN hi (.inl hln) rfl (fun s5 S5 => ?_) (.inr hln)
      refine wpAny_mono ((hsu a oe4 cls d (X.pn ++ pins) hz4 ⟨_, hd4⟩).run [] s5 _ H1 _ S5 (yes rfl a na)) (fun f s6 y => ?_) (fun _ _ y => y.elim)
      have kept : ∀ {σ6 : L2.St} {H6 : Hp} {Q : Shared → Prop}, Inv (X.suite a ((a, oe4) :: (X.pn ++ pins))) [] σ6 H6 s6 → (H6 a = none → ∀ s7, Inv X pins (σ6.set i none) (upd H6 a (XcO cls d a)) s7 → Q s7) →
          wpAny (model X.prog X.w) X.A (do bindName X.env n .none; unbindBehindTheSuite X.env n ppos) (fun _ s7 => Q s7) X.xe s6 := by
        intro σ6 H6 Q S6 hq
        obtain ⟨g, m, _⟩ := S6.pin (a, oe4) (List.mem_append_left _ List.mem_cons_self)
        exact gone_ok (adopt (S6.unsuite I.ok) g hz4 hd4 m n0 nL np') hN hi hln (hq m)
      match f, y with
      | .next, ⟨σ6, H6, S6, q6⟩ => exact kept S6 fun m s7 J7 => ⟨_, _, J7, q6 m⟩
      | .brk, ⟨σ6, H6, S6, q6⟩ => exact kept S6 fun m s7 J7 => ⟨_, _, J7, q6 m⟩
      | .cont, ⟨σ6, H6, S6, q6⟩ => exact kept S6 fun m s7 J7 => ⟨_, _, J7, q6 m⟩
      | .ret u, ⟨v6, σ6, H6, S6, r6, q6⟩ => exact gone_ok (S6.unsuite I.ok) hN hi hln fun s7 J7 => ⟨_, _, _, J7, r6, q6⟩
    | false, _, no =>
      show wpAny _ X.A (handleBy (.ref a) X.env []) _ _ _
      refine wpAny_handleBy_nil ?_
      obtain ⟨k1, k2, k3, oe, vs, T, oT, ts', he, hz, hd, h1, hr⟩ := id fl
      unfold PySem.passOn
      refine wpAny_bind (wpAny_field he hd h1 ?_)
      rw [if_neg (show ¬ ((Value.ref T == Value.none) = true) by simp)]
      have on : wpAny (model X.prog X.w) X.A (setFlight (.ref a) X.env.frame) (fun _ s4 => wpAny (model X.prog X.w) X.A (throw (.ref a) : Sem Flow) (SP X pins D) X.xe s4) X.xe { s1 with heap := h3 } := by
        rw [hf]
        refine HandSPX.setFlight_upZ fl fun h4 hh4 up4 => wpAny_throw (tk _ _ ?_)
        exact ⟨a, G, sI, pins, σ1, H1, cls, d, rfl, J, inG, (upto.trans up).trans up4, .inr (.inr (by rw [hs]; exact hh4)), na, os1, bare1, no rfl⟩
      first
        | exact wpAny_bind (wpAny_pure (wpAny_bind on))
        | exact wpAny_bind on
  refine wpAny_mono ((hb (wKeep X.K c i ts Wout D) (X.pn ++ pins) xh caught PassesOwn.looking).run [] s σ H D (I.toTry _) h) (fun f s1 y => ?_) (fun e s1 y => y)
  match f, y with
  | .next, ⟨σ1, H1, J1, q⟩ => exact wpAny_execs_nil ⟨σ1, H1, J1.ofTry I.ok, q⟩
  | .brk, ⟨σ1, H1, J1, q⟩ => exact ⟨σ1, H1, J1.ofTry I.ok, q⟩
  | .cont, ⟨σ1, H1, J1, q⟩ => exact ⟨σ1, H1, J1.ofTry I.ok, q⟩
  | .ret u, ⟨v, σ1, H1, J1, r, q⟩ => exact ⟨v, σ1, H1, J1.ofTry I.ok, r, q⟩
end
end Mw
set_option Elab.async false
set_option linter.all false
set_option maxRecDepth 100000
set_option maxHeartbeats 2000000
/-! the head and the end of a law some of whose defs make lambdas -/
namespace Mw
open PySem PySem.Spec PyProof.Rows L2 LamX
/-- what the head tells: facts, defs, the tables of the defs in tf (empty, not in K) -/
structure SaysMT (fa : List Fct) (fn : List He.DefD) (tf : List He.Defn) (h : Heap) (K : PySem.W.Frag) : Prop where
  m : SaysM fa fn K
  hd : ∀ p ∈ tf, PySem.W.codeHdIn K (He.cT K p).1 (He.cT K p).2 = true
  out : ∀ p ∈ tf, K.lookup (He.cT K p).2 = none
  empty : ∀ p ∈ tf, h.get? (He.cT K p).2 = some { cls := .none, data := .fields #[] }
def obsMT (n : Nat) (fa : List Fct) (fn : List He.DefD) (tf : List He.Defn) (g : Addr → Option Obj) : He.AlD × Bool := (obsM fa fn (He.frT g (asM n g)), He.tabsB g tf (He.frT g (asM n g)))
theorem saysMT_of {n : Nat} {fa : List Fct} {fn : List He.DefD} {tf : List He.Defn} {h : Heap} (e : obsMT n fa fn tf h.get? = (He.valD fn, true)) : SaysMT fa fn tf h (He.frT h.get? (asM n h.get?)) := by
  generalize hk : He.frT h.get? (asM n h.get?) = K
  unfold obsMT at e
  rw [hk] at e
  have t : He.tabsB h.get? tf K = true := congrArg Prod.snd e
  have each : ∀ p ∈ tf, PySem.W.codeHdIn K (He.cT K p).1 (He.cT K p).2 = true ∧ ∃ o, h.get? (He.cT K p).2 = some o ∧ He.emptyTab o = true := by
    intro p hp
    obtain ⟨t1, t2⟩ := He.ba (List.all_eq_true.mp t p hp)
    refine ⟨t1, ?_⟩
    split at t2
    · rename_i o q
      exact ⟨o, q, t2⟩
    · cases t2
  refine ⟨congrArg Prod.fst e, fun p hp => (each p hp).1, fun p hp => ?_, fun p hp => ?_⟩
  · obtain ⟨_, o, q, z⟩ := each p hp
    rw [← hk] at q ⊢
    exact He.frT_none q z
  · obtain ⟨_, o, q, z⟩ := each p hp
    rw [q, He.emptyTab_eq z]
def hookMT (n : Nat) (fa : List Fct) (fn : List He.DefD) (tf : List He.Defn) : PySem.W.Hook where
  α := He.AlD × Bool
  obs := fun s => obsMT n fa fn tf s.heap.get?
  val := fun _ => (He.valD fn, true)
  says := fun _ h => ∃ K : PySem.W.Frag, K.In h ∧ SaysMT fa fn tf h K
  of := fun _ _ e => ⟨_, He.frT_in, saysMT_of e⟩
  keeps := fun _ _ _ ⟨K, hK, c⟩ k => ⟨K, PySem.W.Frag.In.keeps hK k, c.m, c.hd, c.out, fun p hp => k _ _ (c.empty p hp)⟩
theorem obsMT_eq {n : Nat} {fa : List Fct} {fn : List He.DefD} {tf : List He.Defn} {g : Addr → Option Obj} {s : Shared} (h : ∀ a, g a = s.heap.get? a) : obsMT n fa fn tf g = (hookMT n fa fn tf).obs s := by
  have e : g = s.heap.get? := funext h
  subst e
  rfl
/-- the law's list and the empty tables: nothing else is tracked -/
def scrT (K : PySem.W.Frag) (a : Addr) (o : Obj) (ns : List Int) (ps : List Addr) : Hp := fun b => if b ∈ ps then some (.tbl #[]) else scr K a o ns b
/-- the law's def, called with the list, from outside; its defs' tables of code objects are empty -/
theorem walk_ofGT {l : PySem.W.OpenLaw} {n k : Nat} {q : Program} {loose : List Str} {XP : (Str → Option Value) → Heap → Prop} {YP : World → Heap → Prop} {d : DefRec} {CX : CXT} {x : Str}
    (most : l.most = some n) (small : n ≤ sizeLine) (nodef : d.params.defaults = []) (room : Room k callerA)
    (F : ∀ (w : World) (mg : Str → Option Value) (f : Addr) (h : Heap), YP w h → h.Ns mainGlobals mg → mg d.name = some (.ref f) →
      ∃ (K : PySem.W.Frag) (fd : FuncData) (sp : Sp) (cs : List (Addr × Addr)), K.In h ∧ (∀ p ∈ cs, PySem.W.codeHdIn K p.1 p.2 = true ∧ K.lookup p.2 = none ∧ h.get? p.2 = some { cls := .none, data := .fields #[] }) ∧ (∀ (s : Shared) (u : Value), BindsTo s fd ⟨[u], []⟩ [(x, u)]) ∧
        (∀ (H : Hp) (a : Addr) (ns : List Int), ns.length ≤ n → (∀ z ∈ ns, Builtin.Int.intBits z ≤ 1048576) → (∀ p ∈ cs, H p.2 = some (.tbl #[])) → SqL K H a (ns.map V.int) → sp [.ref a] H (fun v _ => v = .bl true) fun _ _ _ => False) ∧
        ∀ base : Heap, K.In base → base.Ns mainGlobals mg → (∀ p ∈ cs, TabB base mg p.1 p.2) → FnG l.prog w K mg base CX k f fd [x] sp)
    (noexc : ∀ (H : Hp) (s : Shared) (e : Value) (s' : Shared), CX [] H s (fun _ _ _ => False) e s' → False) :
    PySem.W.WalkO q loose XP YP l.row.toRowW d [] (fun f vs => PySem.call f vs) := by
  refine Att.attach_callB most nodef fun w st0 st mg mb f of pm cd doc a vs ns G Y hf hdf hcode hmgd hobj hints hlen hbits hgens => ?_
  obtain ⟨K, fd, sp, cs, hK, hcs, binds, spec, hF⟩ := F w mg f _ Y G.T.g hmgd
  have rel := vals_ints hints
  have lens := hints.length
  have lz : ns.length ≤ sizeLine := Nat.le_trans hlen small
  have tabAt : ∀ b ∈ cs.map (·.2), st.heap.get? b = some { cls := .none, data := .fields #[] } := by
    intro b hb
    obtain ⟨p, hp, rfl⟩ := List.mem_map.mp hb
    exact (hcs p hp).2.2
  have na : a ∉ cs.map (·.2) := fun z => by
    have y := hobj.symm.trans (tabAt a z)
    have y2 : Data.seq vs.toArray 0 = Data.fields #[] := congrArg Obj.data (Option.some.inj y)
    cases y2
  generalize hH : scrT K a { cls := .type "list", data := .seq vs.toArray } ns (cs.map (·.2)) = H
  have Htab : ∀ b ∈ cs.map (·.2), H b = some (.tbl #[]) := fun b hb => by
    rw [← hH]
    exact if_pos hb
  have Hout : ∀ b, b ∉ cs.map (·.2) → H b = scr K a { cls := .type "list", data := .seq vs.toArray } ns b := fun b hb => by
    rw [← hH]
    exact if_neg hb
  have cases3 : ∀ b, H b = none ∨ (b ∈ cs.map (·.2) ∧ H b = some (.tbl #[])) ∨ (b = a ∧ K.lookup a = none ∧ H b = some (.frz { cls := .type "list", data := .seq vs.toArray } (.lst (ns.map V.int)))) := by
    intro b
    by_cases hb : b ∈ cs.map (·.2)
    · exact Or.inr (Or.inl ⟨hb, Htab b hb⟩)
    · cases e : H b with
      | none => exact Or.inl rfl
      | some u =>
        have e2 := e
        rw [Hout b hb] at e2
        obtain ⟨y1, y2, y3⟩ := scr_some e2
        exact Or.inr (Or.inr ⟨y1, Option.isNone_iff_eq_none.mp y2, by rw [y3]⟩)
  have seq : SqL K H a (ns.map V.int) := by
    cases hk : K.lookup a with
    | none => exact Or.inl (Or.inr ⟨_, (Hout a na).trans (scr_in (by rw [hk]; rfl))⟩)
    | some o =>
      have e2 := Option.some.inj (hobj.symm.trans (hK a o hk))
      subst e2
      exact Or.inr ⟨_, vs.toArray, _, hk, rfl, rfl, rfl, by rw [List.size_toArray, lens]; exact lz, by simpa using rel⟩
  have hok : HOk l.prog w H st.heap := by
    intro b u e
    rcases cases3 b with y | ⟨hb, y⟩ | ⟨rfl, _, y⟩
    · rw [y] at e
      cases e
    · cases Option.some.inj (y.symm.trans e)
      exact tabAt b hb
    · cases Option.some.inj (y.symm.trans e)
      exact ⟨hobj, by rw [List.length_map]; exact lz, vs, _, rel, hobj⟩
  have hid : ∀ {b : Addr} {o : Obj}, st.heap.get? b = some o → H b = none → (hidT st.heap H).get? b = some o := fun e z => hidT_get e z
  have plain : ∀ {b : Addr} {o : Obj}, st.heap.get? b = some o → (∀ its m, o.data ≠ .seq its m) → o.data ≠ .fields #[] → H b = none := by
    intro b o e z1 z2
    rcases cases3 b with y | ⟨hb, _⟩ | ⟨rfl, _, _⟩
    · exact y
    · cases Option.some.inj ((tabAt b hb).symm.trans e)
      exact absurd rfl z2
    · cases Option.some.inj (hobj.symm.trans e)
      exact absurd rfl (z1 _ _)
  have spaces : ∀ {b : Addr} {m : Str → Option Value}, st.heap.Ns b m → (hidT st.heap H).Ns b m := by
    rintro b m ⟨o, es, ep, e, z, r⟩
    exact ⟨o, es, ep, hid e (plain e (fun its m y => by rw [z] at y; cases y) fun y => by rw [z] at y; cases y), z, r⟩
  have hKb : K.In (hidT st.heap H) := fun b o e => hid (hK b o e) (by
    rcases cases3 b with y | ⟨hb, _⟩ | ⟨rfl, z, _⟩
    · exact y
    · obtain ⟨p, hp, rfl⟩ := List.mem_map.mp hb
      rw [(hcs p hp).2.1] at e
      cases e
    · rw [e] at z
      cases z)
  have lim : (hidT st.heap H).NoLimit := by
    obtain ⟨mc, z1, z2⟩ := G.T.nolimit
    exact ⟨mc, spaces z1, z2⟩
  have tabs : ∀ p ∈ cs, TabB (hidT st.heap H) mg p.1 p.2 := by
    intro p hp
    have hp2 := (hcs p hp).2.2
    refine ⟨PySem.W.codeHd_of_K hKb (hcs p hp).1, ?_, fun z => ?_⟩
    · obtain ⟨bm, ob, b1, b2, b3, b4, b5, b6⟩ := G.T.bmain
      have n1 : bm ≠ mainGlobals := fun y => by
        obtain ⟨o, es, ep, e, z, _⟩ := G.T.g
        rw [y, e] at b3
        cases b3
        rw [z] at b6
        cases b6
      have n2 : bm ≠ p.2 := fun y => by
        rw [y, hp2] at b3
        cases b3
        cases b6
      exact ⟨bm, ob, b1, b2, n1, n2, hid b3 (plain b3 (fun its m y => by rw [b6] at y; cases y) fun y => by rw [b6] at y; cases y), b4, b5, b6⟩
    · obtain ⟨o, es, ep, e, y, _⟩ := G.T.g
      rw [z, hp2] at e
      cases e
      cases y
  have en : Env0 l.prog w K mg (hidT st.heap H) callerA [] st H := {
    frames := rfl
    mod := ⟨hKb, spaces G.T.g, ⟨mb, spaces G.T.b, G.T.builtins⟩, lim⟩
    bs := fun b o e => of_hidT e
    bsz := Nat.le_of_eq (hidT_size _ _)
    funs := trivial
    frf := fun b hb => (List.not_mem_nil hb).elim
    hok := hok
    bare := .of_eq hgens }
  refine codeAny_mono ((hF _ hKb (spaces G.T.g) tabs).runs (args := ⟨[.ref a], []⟩) (us := [.ref a]) (vs := [.ref a]) room rfl en (binds st (.ref a)) (.cons rfl .nil) (spec H a ns hlen hbits (fun p hp => Htab _ (List.mem_map.mpr ⟨p, hp, rfl⟩)) seq)) fun r s' h => ?_
  match r, h with
  | .error e, h => exact (noexc H st e s' h).elim
  | .ok .next, h => exact h.elim
  | .ok .brk, h => exact h.elim
  | .ok .cont, h => exact h.elim
  | .ok (.ret u), ⟨v, H', e1, e2, un, ok2, rv, ev⟩ =>
    obtain rfl : v = .bl true := ev
    obtain rfl : u = Value.bool true := rv
    have grown : ∀ b ∈ cs.map (·.2), ∃ more : Array Value, s'.heap.get? b = some { cls := .none, data := .fields more } := by
      intro b hb
      obtain ⟨more, z⟩ := un.tbls b #[] (Htab b hb)
      exact ⟨_, ok2 b _ z⟩
    have stays : ∀ b o, b ∉ cs.map (·.2) → st.heap.get? b = some o → s'.heap.get? b = some o := by
      intro b o hb e
      rcases cases3 b with y | ⟨y, _⟩ | ⟨rfl, _, y⟩
      · exact un.keep b o e y (fun z => (List.not_mem_nil z).elim) List.not_mem_nil
      · exact absurd y hb
      · rw [← e, hobj]
        exact (ok2 _ _ (un.frzs _ _ _ y)).1
    refine ⟨rfl, ⟨fun b o e => ?_, fun b o e => ?_⟩, e1, e2⟩
    · by_cases hb : b ∈ cs.map (·.2)
      · obtain ⟨more, hm⟩ := grown b hb
        obtain ⟨p, hp, rfl⟩ := List.mem_map.mp hb
        cases Option.some.inj ((tabAt _ hb).symm.trans e)
        exact Or.inr (Or.inl ⟨((PySem.W.codeHd_of_K hK (hcs p hp).1).tab (tabAt _ hb)).isCodeTable, rfl, #[], more, rfl, by rw [Array.empty_append]; exact hm⟩)
      · exact Or.inl (stays b o hb e)
    · by_cases hb : b ∈ cs.map (·.2)
      · obtain ⟨more, hm⟩ := grown b hb
        exact ⟨_, hm⟩
      · exact ⟨o, stays b o hb e⟩
end Mw
set_option Elab.async false
set_option linter.all false
set_option maxRecDepth 100000
set_option maxHeartbeats 4000000
/-! copies of data, errors made of them -/
namespace Mw
open PySem PySem.Spec PyProof.Rows L2
def flB : PyData → Bool
  | .list _ => false
  | .tuple _ => false
  | .dict _ => false
  | _ => true
/-- data that a copy by steps reaches within n steps -/
def cpB : Nat → PyData → Bool
  | n + 1, .list ds => decide (ds.length ≤ 1000) && ds.all (cpB n)
  | n + 1, .tuple ds => decide (ds.length ≤ 1000) && ds.all (cpB n)
  | n + 1, .dict kvs => decide (kvs.length ≤ 1) && kvs.all fun q => flB q.2
  | 0, .list _ => false
  | 0, .tuple _ => false
  | 0, .dict _ => false
  | _, _ => true
def tyN : PyData → String
  | .none => "NoneType"
  | .bool _ => "bool"
  | .int _ => "int"
  | .str _ => "str"
  | .list _ => "list"
  | .tuple _ => "tuple"
  | .dict _ => "dict"
theorem Dt.ty {K : PySem.W.Frag} {H : Hp} : ∀ {d : PyData} {v : V}, Dt H d v → TyX K H v (.type (tyN d))
  | .none, v, h => by simp only [Dt] at h; subst h; exact .base .non
  | .bool b, v, h => by simp only [Dt] at h; subst h; exact .base (.bl b)
  | .int i, v, h => by simp only [Dt] at h; subst h; exact .base (.int i)
  | .str x, v, h => by simp only [Dt] at h; subst h; exact .base (.str x)
  | .list ds, v, h => by simp only [Dt] at h; obtain ⟨a, xs, rfl, e, _⟩ := h; exact .base (.lst e)
  | .tuple ds, v, h => by simp only [Dt] at h; obtain ⟨a, xs, rfl, e, _⟩ := h; exact .base (.tup e)
  | .dict ds, v, h => by
    simp only [Dt] at h
    obtain ⟨a, rfl, ⟨es, e, _⟩ | ⟨es, e, _⟩⟩ := h
    · exact .base (.dK e)
    · exact .base (.dT e)
theorem DtL.length {H : Hp} : ∀ {ds : List PyData} {xs : List V}, DtL H ds xs → xs.length = ds.length
  | [], xs, h => by simp only [DtL] at h; subst h; rfl
  | d :: ds, xs, h => by
    simp only [DtL] at h
    obtain ⟨x, r, rfl, _, h2⟩ := h
    exact congrArg Nat.succ (DtL.length h2)
theorem DtL.snoc {H : Hp} {d : PyData} {x : V} (hx : Dt H d x) : ∀ {ds : List PyData} {xs : List V}, DtL H ds xs → DtL H (ds ++ [d]) (xs ++ [x])
  | [], xs, h => by
    simp only [DtL] at h
    subst h
    simp only [List.nil_append, DtL]
    exact ⟨x, [], rfl, hx, rfl⟩
  | d0 :: ds, xs, h => by
    simp only [DtL] at h
    obtain ⟨y, r, rfl, h1, h2⟩ := h
    simp only [List.cons_append, DtL]
    exact ⟨y, r ++ [x], rfl, h1, DtL.snoc hx h2⟩
theorem kitq {K : PySem.W.Frag} {a b : String} {r : Bool} (h : kitB a b = some r) : PySem.W.kitOne K (.type a) (.type b) = some r := kit_ty h
/-- what stands in B and not in A -/
def Nw (A B : Hp) : Hp := fun b => match A b with
  | none => B b
  | some _ => none
theorem Nw.at_ {A B : Hp} {b : Addr} (h : A b = none) : Nw A B b = B b := by
  unfold Nw
  rw [h]
theorem Nw.inv {A B : Hp} {b : Addr} {o : HO} (h : Nw A B b = some o) : A b = none ∧ B b = some o := by
  unfold Nw at h
  split at h
  · rename_i e
    exact ⟨e, h⟩
  · cases h
theorem Nw.le {A B : Hp} : Same (Nw A B) B := fun b o h => (Nw.inv h).2
theorem Nw.sub {A B A' B' : Hp} (h : ∀ b o, A b = none → B b = some o → A' b = none ∧ B' b = some o) : Same (Nw A B) (Nw A' B') := fun b o e => by
  obtain ⟨h1, h2⟩ := Nw.inv e
  obtain ⟨h3, h4⟩ := h b o h1 h2
  rw [Nw.at_ h3]
  exact h4
theorem none_of {A B : Hp} {b : Addr} (s : Same A B) (h : B b = none) : A b = none := by
  cases e : A b with
  | none => rfl
  | some o =>
    rw [s b o e] at h
    cases h
def spC : Nat → Sp
  | 0 => fun _ _ _ _ => False
  | n + 1 => fun vs H Q _ => ∃ (v : V) (dd : PyData), vs = [v] ∧ Dt H dd v ∧ cpB n dd = true ∧ ∀ (v' : V) (H' : Hp), Same H H' → Dt (Nw H H') dd v' → Q v' H'
theorem Dt.flat {G H : Hp} {d : PyData} {v : V} (h : Dt H d v) (hc : flB d = true) : Dt G d v := by
  cases d with
  | none => simpa only [Dt] using h
  | bool b => simpa only [Dt] using h
  | int b => simpa only [Dt] using h
  | str b => simpa only [Dt] using h
  | _ => cases hc
theorem cpB_up {n : Nat} {d : PyData} (hc : flB d = true) : cpB n d = true := by
  cases d with
  | list _ => cases hc
  | tuple _ => cases hc
  | dict _ => cases hc
  | _ => cases n <;> rfl
theorem Dt.one {G H : Hp} {d : PyData} {v x : V} (hc : flB d = true) (h : Dt H d v) (h' : Dt G d x) : v = x := by
  cases d with
  | list _ => cases hc
  | tuple _ => cases hc
  | dict _ => cases hc
  | _ =>
    simp only [Dt] at h h'
    rw [h, h']
/-- a dict comprehension over it -/
theorem dc_it {J : It} {n : Nat} {G : Hp → Prop} {Y : Nat → Hp → V → Hp → Prop} (w : Walk J n G Y) {g : TG} {tt : TT} {tk tv : TE} {vs : List Nat} {σ : L2.St} {H1 : Hp} {D : Addr} {o0 : HO} {Qd : Hp → Prop} (Pv : Nat → Hp → Prop) (h0 : Pv 0 (upd H1 D o0)) (hG : ∀ i H, i ≤ n → Pv i H → G H)
    (hs : ∀ i x H H', i < n → Pv i H → Y i H x H' → g x (wipe σ vs) H' fun σ2 H2 => wipe σ2 vs = wipe σ vs ∧ tt σ2 H2 fun b H3 =>
      if b = true then tk σ2 H3 fun y H4 => tv σ2 H4 fun z H5 => ∃ H6, DPut H5 D y z H6 ∧ Pv (i + 1) H6 else Pv (i + 1) H3) (hd : ∀ H, Pv n H → Qd H) :
    ∃ W : Nat → Nat → Hp → Prop, (∃ m, W 0 m (upd H1 D o0)) ∧ ∀ i m H, W i m H →
      (J.stop i H ∧ Qd H) ∨ (J.go i H ∧ ∃ Nx : Hp → Prop, (∀ H', Nx H' → ∃ m', m' < m ∧ W (i + 1) m' H') ∧ ∀ x H', J.yld i H x H' → g x (wipe σ vs) H' fun σ2 H2 => wipe σ2 vs = wipe σ vs ∧ tt σ2 H2 fun b H3 =>
        if b = true then tk σ2 H3 fun y H4 => tv σ2 H4 fun z H5 => ∃ H6, DPut H5 D y z H6 ∧ Nx H6 else Nx H3) := by
  refine ⟨fun i m H => m = n - i ∧ i ≤ n ∧ Pv i H, ⟨n, by simp, Nat.zero_le _, h0⟩, ?_⟩
  rintro i m H ⟨rfl, hi, p⟩
  have q := hG i H hi p
  by_cases hlt : i < n
  · refine .inr ⟨w.goes i H hlt q, Pv (i + 1), fun H' p' => ⟨n - (i + 1), by omega, rfl, hlt, p'⟩, fun x H' y => hs i x H H' hlt p (w.yields i H x H' hlt q y)⟩
  · have e : i = n := by omega
    subst e
    exact .inl ⟨w.stops H q, hd H p⟩
theorem valV_one {y : Key} {x : V} : some x = valV [(y, x)] y := by simp [valV]
theorem dtk_one {H : Hp} {ds : List (PyData × PyData)} {es : List (Key × V)} {i : Nat} {y : Key} {x : V} (hz : ds.length ≤ 1) (h : DtK H ds es) (e : es[i]? = some (y, x)) :
    ∃ kd : PyData × PyData, (kd ∈ ds ∧ es = [(y, x)]) ∧ Dt H kd.1 (kV y) ∧ Dt H kd.2 x ∧ i = 0 := by
  cases ds with
  | nil =>
    simp only [DtK] at h
    subst h
    simp at e
  | cons kd r =>
    cases r with
    | cons _ _ => simp at hz
    | nil =>
      obtain ⟨k, d⟩ := kd
      simp only [DtK] at h
      obtain ⟨y', x', t, rfl, h1, h2, rfl⟩ := h
      cases i with
      | zero =>
        cases Option.some.inj e
        exact ⟨(k, d), ⟨List.mem_cons_self .., rfl⟩, h1, h2, rfl⟩
      | succ i => simp at e
theorem dtt_one {H : Hp} {ds : List (PyData × PyData)} {es : List (List Key × V)} {i : Nat} {y : List Key} {x : V} (hz : ds.length ≤ 1) (h : DtT H ds es) (e : es[i]? = some (y, x)) :
    ∃ kd : PyData × PyData, (kd ∈ ds ∧ es = [(y, x)]) ∧ Dt H kd.2 x ∧ i = 0 := by
  match ds, hz with
  | [], _ =>
    simp only [DtT] at h
    subst h
    simp at e
  | [(k, d)], _ =>
    simp only [DtT] at h
    obtain ⟨y', x', t, rfl, h1, h2, rfl⟩ := h
    match i, e with
    | 0, e =>
      cases Option.some.inj e
      exact ⟨(k, d), ⟨List.mem_cons_self .., rfl⟩, h2, rfl⟩
    | i + 1, e => simp at e
theorem dtt_flat {G H : Hp} : ∀ {ds : List (PyData × PyData)} {es : List (List Key × V)}, (∀ x ∈ ds, flB x.2 = true) → DtT H ds es → DtT G ds es
  | [], es, _, h => by simpa only [DtT] using h
  | (k, d) :: r, es, hc, h => by
    simp only [DtT] at h ⊢
    obtain ⟨y, x, t, e, h1, h2, h3⟩ := h
    exact ⟨y, x, t, e, h1, Dt.flat h2 (hc (k, d) (List.mem_cons_self ..)), dtt_flat (fun x hx => hc x (List.mem_cons_of_mem _ hx)) h3⟩
theorem dt_key {G H : Hp} {d : PyData} {y : Key} (h : Dt H d (kV y)) : Dt G d (kV y) := by
  cases d with
  | list _ => simp only [Dt] at h; obtain ⟨a, xs, e, _⟩ := h; cases y <;> cases e
  | tuple _ => simp only [Dt] at h; obtain ⟨a, xs, e, _⟩ := h; cases y <;> cases e
  | dict _ => simp only [Dt] at h; obtain ⟨a, e, _⟩ := h; cases y <;> cases e
  | _ => simpa only [Dt] using h
theorem dtk_flat {G H : Hp} : ∀ {ds : List (PyData × PyData)} {es : List (Key × V)}, (∀ x ∈ ds, flB x.2 = true) → DtK H ds es → DtK G ds es
  | [], es, _, h => by simpa only [DtK] using h
  | (k, d) :: r, es, hc, h => by
    simp only [DtK] at h ⊢
    obtain ⟨y, x, t, e, h1, h2, h3⟩ := h
    exact ⟨y, x, t, e, dt_key h1, Dt.flat h2 (hc (k, d) (List.mem_cons_self ..)), dtk_flat (fun x hx => hc x (List.mem_cons_of_mem _ hx)) h3⟩
theorem ls_take {α : Type} {l : List α} {i : Nat} {x : α} (h : l[i]? = some x) : l.take (i + 1) = l.take i ++ [x] := by
  rw [List.take_add_one, h]
  rfl
/-- how far the copy of a list has come -/
structure Cpy (H : Hp) (D : Addr) (ds : List PyData) (i : Nat) (H' : Hp) : Prop where
  sm : Same H H'
  ac : ∃ acc, DtL (Nw (upd H D (.lst [])) H') (ds.take i) acc ∧ H' D = some (.lst acc)
theorem Cpy.start {H : Hp} {D : Addr} {ds : List PyData} (hD : H D = none) : Cpy H D ds 0 (upd H D (.lst [])) := by
  refine ⟨same_upd hD, [], ?_, upd_same⟩
  simp only [List.take_zero, DtL]
theorem Cpy.step {H H1 H2 : Hp} {D : Addr} {ds : List PyData} {i : Nat} {dd : PyData} {v : V} (hD : H D = none) (c : Cpy H D ds i H1) (hi : ds[i]? = some dd) (s : Same H1 H2) (d : Dt (Nw H1 H2) dd v) :
    ∃ acc, H2 D = some (.lst acc) ∧ acc.length ≤ i ∧ Cpy H D ds (i + 1) (upd H2 D (.lst (acc ++ [v]))) := by
  obtain ⟨s1, acc, ha, hd⟩ := c
  have la := DtL.length ha
  refine ⟨acc, s _ _ hd, by rw [la, List.length_take]; omega, fun b o e => ?_, acc ++ [v], ?_, upd_same⟩
  · rw [upd_ne (ne_of_none e hD)]
    exact s _ _ (s1 _ _ e)
  · rw [ls_take hi]
    refine DtL.snoc (Dt.same (Nw.sub fun b o h1 h2 => ?_) _ _ d) (DtL.same (Nw.sub fun b o h1 h2 => ?_) _ _ ha)
    · have nb : b ≠ D := fun z => by
        rw [z, hd] at h1
        cases h1
      refine ⟨?_, by rw [upd_ne nb]; exact h2⟩
      rw [upd_ne nb]
      exact none_of s1 h1
    · have nb : b ≠ D := fun z => by
        rw [z, upd_same] at h1
        cases h1
      exact ⟨h1, by rw [upd_ne nb]; exact s _ _ h2⟩
theorem Cpy.done {H H1 : Hp} {D : Addr} {ds : List PyData} (hD : H D = none) (c : Cpy H D ds ds.length H1) : ∃ acc, H1 D = some (.lst acc) ∧ DtL (Nw H H1) ds acc := by
  obtain ⟨s1, acc, ha, hd⟩ := c
  rw [List.take_length] at ha
  refine ⟨acc, hd, DtL.same (Nw.sub fun b o h1 h2 => ?_) _ _ ha⟩
  have nb : b ≠ D := fun z => by
    rw [z, upd_same] at h1
    cases h1
  rw [upd_ne nb] at h1
  exact ⟨h1, h2⟩
end Mw
namespace Mw
open PySem PySem.Spec PyProof.Rows L2
/-- C's __init__ with one field f, copied -/
def spI (n : Nat) (C : Addr) (f : Str) : Sp := fun vs H Q _ => ∃ (a : Addr) (v : V) (dd : PyData), vs = [.ref a, v] ∧ H a = some (exo a C none) ∧ Dt H dd v ∧ cpB n dd = true ∧
  ∀ (dx : Addr) (v' : V) (H' : Hp), H dx = none → Same (del H a) H' → H' a = some (exo a C (some dx)) → H' dx = some (exd dx [(f, v')]) → Dt (del (Nw H H') dx) dd v' → Q .non H'
theorem init_fin {H H1 : Hp} {a C dx : Addr} {f : Str} {v : V} {dd : PyData} (ha : H a = some (exo a C none)) (s : Same H H1) (d : Dt (Nw H H1) dd v) (hd : H1 dx = none) (ne : dx ≠ a) {H' : Hp} (e : H' = upd (upd H1 dx (exd dx [(f, v)])) a (exo a C (some dx))) :
    Same (del H a) H' ∧ H' a = some (exo a C (some dx)) ∧ H' dx = some (exd dx [(f, v)]) ∧ H dx = none ∧ Dt (del (Nw H H') dx) dd v := by
  subst e
  refine ⟨fun b o e => ?_, upd_same, by rw [upd_ne ne, upd_same], none_of s hd, Dt.same (fun b o e => ?_) _ _ d⟩
  · have hb : b ≠ a := fun z => by
      rw [z, del_same] at e
      cases e
    rw [del_ne hb] at e
    have e1 := s _ _ e
    rw [upd_ne hb, upd_ne (ne_of_none e1 hd)]
    exact e1
  · obtain ⟨e1, e2⟩ := Nw.inv e
    have hb : b ≠ a := fun z => by
      rw [z, ha] at e1
      cases e1
    rw [del_ne (ne_of_none e2 hd), Nw.at_ e1, upd_ne hb, upd_ne (ne_of_none e2 hd)]
    exact e2
end Mw
namespace Mw
open PySem PySem.Spec PyProof.Rows L2
/-- how far a def has come that only makes objects -/
structure Rs (H0 H : Hp) (L : List (Addr × HO)) : Prop where
  sm : Same H0 H
  ob : ∀ q ∈ L, H q.1 = some q.2
theorem Rs.start (H : Hp) : Rs H H [] := ⟨Same.refl H, fun _ h => absurd h (by simp)⟩
theorem Rs.made {H0 H : Hp} {L : List (Addr × HO)} {p : Addr} (R : Rs H0 H L) (hp : H p = none) (o : HO) : Rs H0 (upd H p o) ((p, o) :: L) := by
  refine ⟨R.sm.trans (same_upd hp), fun q hq => ?_⟩
  rcases List.mem_cons.mp hq with rfl | hq
  · exact upd_same
  · exact same_upd hp _ _ (R.ob q hq)
@[elab_as_elim] theorem allocS {H0 H : Hp} {L : List (Addr × HO)} {p : Addr} {o : HO} {motive : Hp → Prop} (hp : H p = none) (R : Rs H0 H L)
    (h : ∀ H', Rs H0 H' ((p, o) :: L) → motive H') : motive (upd H p o) := h _ (R.made hp o)
theorem Rs.call {H0 H H' : Hp} {L : List (Addr × HO)} (R : Rs H0 H L) (s : Same H H') : Rs H0 H' L := ⟨R.sm.trans s, fun q hq => s _ _ (R.ob q hq)⟩
theorem Rs.get {H0 H : Hp} {L : List (Addr × HO)} (R : Rs H0 H L) {p : Addr} {o : HO} (h : (p, o) ∈ L) : H p = some o := R.ob (p, o) h
end Mw
namespace Mw
open PySem PySem.Spec PyProof.Rows L2
theorem bindsK1 {K : PySem.W.Frag} {x qual : Str} {params : Arguments} {body : List Stmt} {scope : Scope} {kws : List (Str × V)} {f : Addr} {fd : FuncData} {ps : List Str} {kn : Str} (F : FunD K x qual params body scope [] kws f fd)
    (h : ∀ (kV doc pm : Value) (an : Option Addr) (cdv ct : Value) (a v : Value), bindArgs (PySem.W.fnOf x qual params body scope .none kV doc pm an cdv ct) ⟨[a], [(kn, v)]⟩ = pure (ps.zip [a, v])) (s : Shared) (a v : Value) : BindsTo s fd ⟨[a], [(kn, v)]⟩ (ps.zip [a, v]) := by
  obtain ⟨oc, od, dV, kV, doc, pm, an, cdv, ct, osl, rfl, lk, hcd, hD, hK⟩ := F.ex
  rcases hD with ⟨_, rfl⟩ | ⟨e, _⟩
  · exact BindsTo.of_eq (h kV doc pm an cdv ct a v)
  · exact absurd rfl e
@[elab_as_elim] theorem allocN {H : Hp} {p : Addr} {o : HO} {motive : Hp → Prop} (hp : H p = none) (h : ∀ H', Same H H' → H' p = some o → motive H') : motive (upd H p o) := h _ (same_upd hp) upd_same
/-- an error of the class C that holds a copy of dd in its field f -/
def Er (H : Hp) (a C : Addr) (f : Str) (dd : PyData) : Prop := ∃ (dx : Addr) (v : V), H a = some (exo a C (some dx)) ∧ H dx = some (exd dx [(f, v)]) ∧ Dt H dd v
theorem Er.same {H H' : Hp} {a C : Addr} {f : Str} {dd : PyData} (s : Same H H') (h : Er H a C f dd) : Er H' a C f dd := by
  obtain ⟨dx, v, h1, h2, h3⟩ := h
  exact ⟨dx, v, s _ _ h1, s _ _ h2, Dt.same s _ _ h3⟩
theorem Er.is {H : Hp} {a C : Addr} {f : Str} {dd : PyData} (h : Er H a C f dd) : IsE H a C := by
  obtain ⟨dx, v, h1, h2, h3⟩ := h
  exact .own dx _ h1 h2
theorem DtL.nil {H : Hp} : DtL H [] [] := by simp only [DtL]
theorem DtL.cons {H : Hp} {d : PyData} {ds : List PyData} {x : V} {r : List V} (h1 : Dt H d x) (h2 : DtL H ds r) : DtL H (d :: ds) (x :: r) := by
  simp only [DtL]
  exact ⟨x, r, rfl, h1, h2⟩
theorem Dt.lst {H : Hp} {ds : List PyData} {p : Addr} {xs : List V} (h : H p = some (.lst xs)) (hx : DtL H ds xs) : Dt H (.list ds) (.ref p) := by
  simp only [Dt]
  exact ⟨p, xs, rfl, h, hx⟩
theorem odd_show : ∀ dd ∈ oddD, ((PyData.list (List.replicate 13 dd)).showable = true ∧ (PyData.list (List.replicate 13 dd)).depth ≤ 60 ∧ (PyData.list (List.replicate 13 dd)).shown.length ≤ 1000) ∧
    ((PyData.list (List.replicate 5 dd)).showable = true ∧ (PyData.list (List.replicate 5 dd)).depth ≤ 60 ∧ (PyData.list (List.replicate 5 dd)).shown.length ≤ 1000) := by decide +kernel
theorem dp_bools {K : PySem.W.Frag} {H : Hp} {f : Nat → Bool} : ∀ l : List Nat, DpAll K H (l.map fun j => V.bl (f j)) (l.map fun j => PyData.bool (f j))
  | [] => .nil
  | z :: r => .cons (.bl _) (dp_bools r)
def kindD (k : Nat) : PyData := .list ((List.range 15).map fun j => PyData.bool (decide (k = j)))
theorem kind_ok : ∀ k, k < 15 → SeqAt.shaped (kindD k) = true ∧ PyData.eqv (kindD k) (kindD k) = true := by decide +kernel
theorem kind_dec (k j : Nat) : decide (V.int (0 + (j : Int)) = V.int (k : Int)) = decide (k = j) := by
  apply decide_eq_decide.mpr
  constructor
  · intro h
    have h2 := V.int.inj h
    omega
  · rintro rfl
    rw [Int.zero_add]
theorem odd_cp : ∀ dd ∈ oddD, cpB 2 dd = true := by decide +kernel
theorem mk1 {C a : Addr} {f : Str} {n : Nat} {H : Hp} {v : V} {dd : PyData} {R : VK} {E : XK} (ha : H a = none) (d : Dt H dd v) (hc : cpB n dd = true) (k : ∀ (H' : Hp), Same H H' → Er H' a C f dd → R .non H') : spI n C f [.ref a, v] (upd H a (exo a C none)) R E := by
  refine ⟨a, v, dd, rfl, upd_same, Dt.same (same_upd ha) _ _ d, hc, fun dx v' H' n0 s e1 e2 d' => k H' (fun b o e => ?_) ⟨dx, v', e1, e2, Dt.same (fun b o e => ?_) _ _ d'⟩⟩
  · have hb := ne_of_none e ha
    refine s b o ?_
    rw [del_ne hb, upd_ne hb]
    exact e
  · by_cases hd : b = dx
    · rw [hd, del_same] at e
      cases e
    · rw [del_ne hd] at e
      exact (Nw.inv e).2
/-- .. and raised: its dict stands as an exception's -/
theorem mkx {C a : Addr} {f : Str} {n : Nat} {H : Hp} {v : V} {dd : PyData} {R : XK} {E : XK} (ha : H a = none) (d : Dt H dd v) (hc : cpB n dd = true)
    (k : ∀ (dx : Addr) (w : V) (H' : Hp), Same H H' → H' dx = some (.xd [(f, w)]) → Dt (Nw H H') dd w → H dx = none → R (.ref C) (some dx) H') :
    spI n C f [.ref a, v] (upd H a (exo a C none)) (fun v H2 => v = .non ∧ ∃ (dx : Addr) (fs : List (Str × V)), H2 a = some (exo a C (some dx)) ∧ H2 dx = some (exd dx fs) ∧ H dx = none ∧ R (.ref C) (some dx) (upd (del H2 a) dx (.xd fs))) E := by
  refine ⟨a, v, dd, rfl, upd_same, Dt.same (same_upd ha) _ _ d, hc, fun dx v' H2 n0 s e1 e2 d' => ⟨rfl, dx, _, e1, e2, ?_, ?_⟩⟩
  · by_cases hd : dx = a
    · rw [hd]
      exact ha
    · rw [upd_ne hd] at n0
      exact n0
  · have hd : dx ≠ a := fun z => by
      rw [z, upd_same] at n0
      cases n0
    have n1 : H dx = none := by
      rw [upd_ne hd] at n0
      exact n0
    refine k dx v' _ (fun b o e => ?_) upd_same (Dt.same (fun b o e => ?_) _ _ d') n1
    · have hb := ne_of_none e ha
      rw [upd_ne (ne_of_none e n1), del_ne hb]
      refine s b o ?_
      rw [del_ne hb, upd_ne hb]
      exact e
    · by_cases hb : b = dx
      · rw [hb, del_same] at e
        cases e
      · rw [del_ne hb] at e
        obtain ⟨e1, e2⟩ := Nw.inv e
        have ba : b ≠ a := fun z => by
          rw [z, upd_same] at e1
          cases e1
        rw [upd_ne ba] at e1
        rw [Nw.at_ e1, upd_ne hb, del_ne ba]
        exact e2
/-- what an error tells of itself on its way: its class, a copy of dd in its field f -/
def Xe (C : Addr) (f : Str) (dd : PyData) (k : V → Hp → Prop) : XK := fun cls d H => ∃ (dx : Addr) (w : V), cls = .ref C ∧ d = some dx ∧ H dx = some (.xd [(f, w)]) ∧ Dt H dd w ∧ k w H
end Mw
set_option Elab.async false
set_option linter.all false
set_option maxRecDepth 100000
set_option maxHeartbeats 4000000
/-! caught errors: isinstance, a field; walks over a list or a tuple; calls by names -/
namespace Mw
open PySem PySem.Spec PyProof.Rows L2
theorem pi_or {X : Cx} {tg l : Expr} {w1 w2 : TI} (h1 : PI X tg l w1) (h2 : PI X tg l w2) : PI X tg l (fun σ H R => w1 σ H R ∨ w2 σ H R) :=
  ⟨fun pins s σ H R I h => h.elim (h1.run pins s σ H R I) (h2.run pins s σ H R I)⟩
/-- a caught error of the class C with its dict -/
def IsX (H : Hp) (a C dx : Addr) (fs : List (Str × V)) : Prop := H a = some (XcO (.ref C) (some dx) a) ∧ H dx = some (.xd fs)
section
variable {X : Cx} {pins : List (Addr × Obj)} {σ : L2.St} {H : Hp} {s : Shared}
theorem IsX.inst (I : Inv X pins σ H s) {a C dx : Addr} {fs : List (Str × V)} (h : IsX H a C dx fs) : ∃ (ox od : Obj) (mA : Str → Option Value), PySem.W.InstAt s.heap a ox C (some od) ∧ s.heap.get? dx = some od ∧ s.heap.Ns1 dx mA ∧ ∀ f, RelO (fs.lookup f) (mA f) := by
  obtain ⟨h1, h2⟩ := h
  obtain ⟨⟨oe, vs, ho, hz, hd⟩, _, _⟩ := I.hok a _ h1
  have hx : ObjOk X.prog X.w H s.heap dx (.xd fs) := I.hok dx _ h2
  obtain ⟨mA, hns, hr⟩ := hx
  obtain ⟨od, es, ep, e1, e2⟩ := id hns
  refine ⟨oe, od, mA, ⟨ho, hz.1, by unfold PySem.W.notCls; rw [hd] <;> rfl, by rw [hz.2]; exact e1⟩, e1, hns, hr⟩
def rIsiX (K : PySem.W.Frag) : List V → Hp → VK → Prop := fun xs H Q => ∃ (a C dx : Addr) (fs : List (Str × V)) (c : V) (u : Value) (b : Bool), xs = [.ref a, c] ∧ IsX H a C dx fs ∧ IsC K C ∧ ClsV c u ∧ PySem.W.kitOne K (.ref C) u = some b ∧ Q (.bl b) H
theorem call_isiX : CallR X (.builtin "isinstance") (rIsiX X.K) := by
  intro pins s σ H xs us Q I r h
  obtain ⟨a, C, dx, fs, c, u, b, rfl, hi, T, k, e, q⟩ := h
  obtain ⟨u1, u2, rfl, r1, r2⟩ := vals2 r
  have e2 := k.eq r2
  subst e2
  cases (show u1 = Value.ref a from r1)
  obtain ⟨ox, od, mA, J, _⟩ := hi.inst I
  exact PySem.W.kia_one (PySem.W.kitx_exc T.cl T.ga T.gg T.ex T.ca T.sp T.tk T.mr) I.kIn J e (fun z => nomatch z) fun tk => ⟨.bl b, H, I.tok tk, rfl, q⟩
end
def tFldX (K : PySem.W.Frag) (f : Str) (te : TE) : TE := fun σ H Q => te σ H fun x H1 => ∃ (a C dx : Addr) (fs : List (Str × V)) (v : V), x = .ref a ∧ IsX H1 a C dx fs ∧ fs.lookup f = some v ∧ IsC K C ∧ PySem.W.findIn K (.ref C) f = some none ∧ Q v H1
theorem pe_fldX {X : Cx} {e : Expr} {te : TE} {f : Str} {pos : Pos} (he : PE X e te) (hb : attributeBase e f X.env (eval e X.env) = eval e X.env := by rfl) : PE X (.Attribute e f pos) (tFldX X.K f te) := by
  refine ⟨fun pins s σ H Q I h => ?_⟩
  refine attr_of hb (thn (he.run pins s σ H _ I h) fun u s1 hh => ?_)
  obtain ⟨x, H1, I1, rx, a, C, dx, fs, v, ex, hi, l, T, hno, q⟩ := hh
  subst ex
  obtain rfl : u = Value.ref a := rx
  obtain ⟨ox, od, mA, J, e1, hns, hr⟩ := hi.inst I1
  obtain ⟨od2, ho2, hl⟩ := lookIn_ns hns
  have eo : od2 = od := Option.some.inj (ho2.symm.trans e1)
  subst eo
  obtain ⟨u, hu, ru⟩ := RelO.some_of (v := v) (o := mA f) (by rw [← l]; exact hr f)
  exact HandSPX.exc_get I1.kIn J T.ga T.gg T.ex (PySem.W.findObj_own T.hd hno rfl (by rw [hl, hu])) (handed_of ru) ⟨v, H1, I1.tok _, ru, q⟩
theorem dtl_flat {G H : Hp} : ∀ {ds : List PyData} {xs : List V}, (∀ d ∈ ds, flB d = true) → DtL H ds xs → DtL G ds xs
  | [], xs, _, h => by simpa only [DtL] using h
  | d :: r, xs, hf, h => by
    simp only [DtL] at h ⊢
    obtain ⟨x, t, e, h1, h2⟩ := h
    exact ⟨x, t, e, Dt.flat h1 (hf d List.mem_cons_self), dtl_flat (fun y hy => hf y (List.mem_cons_of_mem _ hy)) h2⟩
/-- one object more, data that stand kept -/
@[elab_as_elim] theorem allocK {d W C : Addr} {n : Nat} {H0 H : Hp} {L : List (Addr × HO)} {p : Addr} {o : HO} {motive : Hp → Prop} {dd : PyData} {v : V} (hp : H p = none) (R : Rn d W C n H0 H L) (u : Dt (Hid d W H) dd v)
    (h : ∀ H', Rn d W C n H0 H' ((p, o) :: L) → Dt (Hid d W H') dd v → motive H') : motive (upd H p o) := h _ (R.made hp o) (Dt.same (Sd.new hp) _ _ u)
end Mw
set_option Elab.async false
set_option linter.all false
set_option maxRecDepth 100000
set_option maxHeartbeats 4000000
/-! data that repr shows within bounds -/
namespace Mw
open PySem PySem.Spec PyProof.Rows L2
structure Shw (n k : Nat) (d : PyData) : Prop where
  sh : d.showable = true
  ln : d.shown.length ≤ n
  dp : d.depth ≤ k
theorem Shw.mono {w k w' k' : Nat} {d : PyData} (h : Shw w k d) (hw : w ≤ w') (hk : k ≤ k') : Shw w' k' d := ⟨h.sh, Nat.le_trans h.ln hw, Nat.le_trans h.dp hk⟩
theorem Shw.rep {w k : Nat} {d : PyData} (h : Shw w k d) (hw : w ≤ 16000000) (hk : k ≤ 60) : d.showable = true ∧ d.depth ≤ 60 ∧ d.shown.length ≤ sizeLine := by
  refine ⟨h.sh, Nat.le_trans h.dp hk, ?_⟩
  rw [sizeLine_eq]
  exact Nat.le_trans h.ln (Nat.le_trans hw (by decide))
theorem Shw.int {k : Nat} {i : Int} (h : i.natAbs.log2 < 1920) : Shw 1921 k (.int i) := by
  refine ⟨by simp only [PyData.showable]; exact decide_eq_true h, ?_, by simp only [PyData.depth]; exact Nat.zero_le _⟩
  rw [PyData.shown_int, PySem.ofString_length]
  exact int_text_length_le (by decide) h
theorem shw_all {w k : Nat} : ∀ ds : List PyData, (∀ d ∈ ds, Shw w k d) → PyData.showableAll ds = true ∧ ((PyData.shownAll ds).map (·.length)).sum ≤ ds.length * w ∧ PyData.depthAll ds ≤ k
  | [], _ => ⟨by simp only [PyData.showableAll], by simp only [PyData.shownAll, List.map_nil, List.sum_nil]; exact Nat.zero_le _, by simp only [PyData.depthAll]; exact Nat.zero_le _⟩
  | d :: r, h => by
    obtain ⟨h1, h3, h4⟩ := shw_all r fun x hx => h x (List.mem_cons_of_mem _ hx)
    have hd := h d List.mem_cons_self
    refine ⟨by simp only [PyData.showableAll, hd.sh, h1, Bool.and_self], ?_, ?_⟩
    · simp only [PyData.shownAll, List.map_cons, List.sum_cons, List.length_cons]
      have := hd.ln
      rw [Nat.add_mul]
      omega
    · simp only [PyData.depthAll]
      exact Nat.max_le.mpr ⟨hd.dp, h4⟩
theorem shw_len {w n : Nat} {ds : List PyData} {m : Nat} (h : m ≤ ds.length * w) (l : ds.length ≤ n) : m + 2 * ds.length + 3 ≤ n * (w + 2) + 3 := by
  have z : ds.length * w ≤ n * w := Nat.mul_le_mul_right _ l
  rw [Nat.mul_add]
  omega
theorem Shw.list {w k n : Nat} {ds : List PyData} (h : ∀ d ∈ ds, Shw w k d) (l : ds.length ≤ n) : Shw (n * (w + 2) + 3) (k + 1) (.list ds) := by
  obtain ⟨h1, h3, h4⟩ := shw_all ds h
  refine ⟨by simp only [PyData.showable]; exact h1, ?_, by simp only [PyData.depth]; omega⟩
  have z := listText_len_le (PyData.shownAll ds)
  rw [PyData.shownAll_length] at z
  simp only [PyData.shown]
  exact Nat.le_trans z (shw_len h3 l)
theorem Shw.tuple {w k n : Nat} {ds : List PyData} (h : ∀ d ∈ ds, Shw w k d) (l : ds.length ≤ n) : Shw (n * (w + 2) + 3) (k + 1) (.tuple ds) := by
  obtain ⟨h1, h3, h4⟩ := shw_all ds h
  refine ⟨by simp only [PyData.showable]; exact h1, ?_, by simp only [PyData.depth]; omega⟩
  have z := tupleText_len_le (PyData.shownAll ds)
  rw [PyData.shownAll_length] at z
  simp only [PyData.shown]
  exact Nat.le_trans z (shw_len h3 l)
theorem odd_shw : ∀ dd ∈ oddD, Shw 60 3 dd := by
  have h : ∀ dd ∈ oddD, dd.showable = true ∧ dd.shown.length ≤ 60 ∧ dd.depth ≤ 3 := by decide +kernel
  exact fun dd hd => ⟨(h dd hd).1, (h dd hd).2.1, (h dd hd).2.2⟩
theorem log_of {i : Int} {m : Nat} (h : i.natAbs < 2 ^ m) (hm : 0 < m) (h2 : m ≤ 1920) : i.natAbs.log2 < 1920 := Nat.lt_of_lt_of_le (PySem.Flt.log2_lt_of hm h) h2
end Mw
set_option Elab.async false
set_option linter.all false
set_option maxRecDepth 100000
set_option maxHeartbeats 4000000
/-! a lambda handed to a def that calls it in a try, whose suite reads the def's names -/
namespace Mw
open PySem PySem.Spec PyProof.Rows L2 LamX
section
variable {X : Cx} {pins : List (Addr × Obj)} {σ : L2.St} {H : Hp} {s : Shared}
theorem PE.weak {e : Expr} {t : TE} (h : PE X e t) : PE X e (fun σ H Q => ∃ Qv : VK, (∀ v H', Qv v H' → Q v H') ∧ t σ H Qv) :=
  ⟨fun pins s σ H Q I ⟨Qv, hq, z⟩ => thn (h.run pins s σ H Qv I z) fun u s1 ⟨v, H1, J, r, q⟩ => ⟨v, H1, J, r, hq v H1 q⟩⟩
/-- the lambda called: an exception goes where the caller's slots send it -/
theorem act_at {CXg : CXT} {Eg : XK} {Ng : List Str} {qg : Str} {sg : Scope} {g f c' : Addr} {cdg pm ctv : Value} {params : Arguments} {body : Expr} {scope : Scope} {k i : Nat} {a : Str} {pn : List (Addr × Obj)} {xe : Value → Shared → Prop} {W : WX} {tb : XK → TE} {p1 p2 : Pos}
    (I : Inv X pins σ H s) (L : LamS X.env.scope scope) (hf : s.heap.get? f = some (PySem.W.kla_obj "<lambda>" (X.env.qual ++ "<lambda>") params body scope (cloFrom X.env.cells scope.names []) pm c' ctv)) (hfn : H f = none) (hfr : f ∉ frs X.stack)
    (hbind : bindArgs (PySem.W.kla_fn "<lambda>" (X.env.qual ++ "<lambda>") params body scope (cloFrom X.env.cells scope.names []) pm (.ref c') ctv) ⟨[], []⟩ = pure [])
    (tk : Takes ((cxOf CXg X.prog X.w X.K X.mg X.base Ng qg sg g cdg X.A X.stack s H Eg).tr pn xe) W) (room : Room (k + 1) (X.A.deeper (envOfC qg sg s.heap.objs.size g cdg)))
    (hbody : ∀ (A : Around) (outer : List Env) (s : Shared) (H : Hp) (E : XK), Room k (A.deeper (lamEnv X scope s.heap.objs.size f c')) → PE (lamCx X A outer s H E scope f c') body (tb E))
    (hN : Ng[i]? = some a) (hv : Vis sg a) (hd : (a == ("__debug__" : Str)) = false := by decide) (hcd : (a == ("__classdict__" : Str)) = false := by decide) :
    PE ((cxOf CXg X.prog X.w X.K X.mg X.base Ng qg sg g cdg X.A X.stack s H Eg).tr pn xe) (.Call (.Name a p1) [] [] p2)
      (fun σZ HZ Q => σZ[i]? = some (some (.ref f)) ∧ HZ c' = some (CodeO c' (X.env.qual ++ "<lambda>")) ∧ ∃ E : XK, (∀ cls d H', E cls d H' → W cls d σZ H') ∧ tb E σ HZ Q) := by
  refine ⟨fun pz sz σz Hz Q Iz ⟨slot, code, E, out, body_⟩ => wpAny_Call_Name_kw ?_⟩
  refine thn ((pe_var (pos := p1) (i := i) hN hv hd hcd).run pz sz σz Hz (fun v H1 => v = .ref f ∧ H1 = Hz) Iz ⟨.ref f, slot, rfl, rfl⟩) ?_
  rintro u s1 ⟨v, H1, J1, rv, rfl, rfl⟩
  obtain rfl : u = Value.ref f := rv
  have lam := J1.base.keep f _ hf hfn hfr (fun z => nomatch (show f ∈ ([] : List Addr) from z))
  refine PySem.W.callWith_F0 ⟨_, _, _, _, lam⟩ ?_
  obtain ⟨⟨oc, vs, t, o1, o2, o3⟩, _, _⟩ := J1.hok c' _ code
  have ran : codeAny (model X.prog X.w) (X.A.deeper (envOfC qg sg s.heap.objs.size g cdg)) (.call (.ref f) ⟨[], []⟩) (CR (L2.CX X.prog X.w) (envOfC qg sg s.heap.objs.size g cdg :: X.stack) X.prog X.w H1 s1 Q E) s1 := by
    refine PySem.W.kla_callFunE room.depth lam rfl L.co L.gen rfl ⟨c', oc, vs, t, rfl, o1, o2, o3⟩ ?_
    rw [hbind]
    refine wpAny_pure (wpAny_newFunctionEnv (fun y hy => (L.own y hy).2) (fun y hy => absurd hy (by simp)) (fun h1 names but => ⟨J1.nolimit.fresh _ but, ?_⟩) L.kind)
    show codeAny _ _ (.expr body (lamEnv X scope s1.heap.objs.size f c')) _ _
    have keep : ∀ b o, s1.heap.get? b = some o → h1.get? b = some o := fun b o e => but.extBut b o (Nat.ne_of_lt (Heap.lt_size e)) (Heap.get?_push_of_some _ e)
    have start := lam_start2 (E := E) (f := f) (c' := c') (tk := s1.toks + ([] : List (Str × Value)).length) I L J1.env0 room.hd J1.base names keep
    refine PySem.W.kla_codeExpr (wpAny_mono ((hbody _ _ s1 H1 E (room.deeper _)).run [] _ _ H1 Q start body_) ?_ fun _ _ z => z)
    rintro v s2 ⟨x, H2, J2, r2, q2⟩
    exact ⟨x, H2, J2.os, J2.bare, J2.base, J2.hok, r2, q2⟩
  refine wpAny_call (codeAny_mono ran fun r s2 z => ?_)
  match r, z with
  | .error e, z => exact tk e s2 (XE.of_call J1 (fun cls d H' y => out cls d H' y) z)
  | .ok (.ret u), z => exact J1.after z
  | .ok .next, z => exact z.elim
  | .ok .brk, z => exact z.elim
  | .ok .cont, z => exact z.elim
end
/-- the def that calls what it got; TT: what it makes of the lambda's reading -/
def GivesAt (X : Cx) (Ng : List Str) (x : Str) (sg : Scope) (g : Addr) (cdg : Value) (bg : List Stmt) (a : Str) (q : Str) (TT : (XK → Hp → VK → Prop) → Hp → VK → Prop) : Prop :=
  ∀ (f c' : Addr) (s : Shared) (H : Hp) (Q : VK) (tl : XK → Hp → VK → Prop),
    (∀ (W : WX) (pn : List (Addr × Obj)) (xe : Value → Shared → Prop) (p1 p2 : Pos), Takes ((cxOf C8.CX0 X.prog X.w X.K X.mg X.base Ng x sg g cdg X.A X.stack s H C8.E0).tr pn xe) W →
      PE ((cxOf C8.CX0 X.prog X.w X.K X.mg X.base Ng x sg g cdg X.A X.stack s H C8.E0).tr pn xe) (.Call (.Name a p1) [] [] p2)
        (fun σZ HZ Q => σZ[0]? = some (some (.ref f)) ∧ HZ c' = some (CodeO c' q) ∧ ∃ E : XK, (∀ cls d H', E cls d H' → W cls d σZ H') ∧ tl E HZ Q)) →
    H c' = some (CodeO c' q) → TT tl H Q →
    ∃ t, PSs (cxOf C8.CX0 X.prog X.w X.K X.mg X.base Ng x sg g cdg X.A X.stack s H C8.E0).nox bg t ∧ t { nx := fun _ H' => Q .non H', rt := Q } (L2.start Ng [.ref f]) H
/-- x(lambda: body) -/
theorem pe_lamgive {X : Cx} {T : List (Addr × Str)} {TT : (XK → Hp → VK → Prop) → Hp → VK → Prop} {x a : Str} {g c P : Addr} {k : Nat} {pg : Arguments} {bg : List Stmt} {sg : Scope} {dV kV doc pm cdv ct oc : Value} {an od : Option Addr} {osl : Array (Option Value)} {Ng : List Str}
    {params : Arguments} {body : Expr} {scope : Scope} {t : XK → TE} {p lpos pos : Pos} (hg : Gl X x) (hm : X.mg x = some (.ref g)) (hk : PySem.W.keepIn X.K (.ref g) = true)
    (lk : X.K.lookup g = some ⟨oc, od, .func (PySem.W.fnOf x x pg bg sg dV kV doc pm an cdv ct), osl⟩) (hcg : PySem.W.codeIn X.K cdv x = true) (hb : L2.Binds X.K (PySem.W.fnOf x x pg bg sg dV kV doc pm an cdv ct) [a] []) (Sg : FnScope Ng [a] sg) (hNg : Ng[0]? = some a) (hva : Vis sg a)
    (give : GivesAt X Ng x sg g cdv bg a (X.env.qual ++ "<lambda>") TT)
    (TB : TabB X.base X.mg c P) (hcode : X.env.code = .ref c) (hmT : (P, X.env.qual ++ "<lambda>") ∈ T) (hu : ∀ p ∈ T, p.1 = P → p.2 = X.env.qual ++ "<lambda>") (room : Room (k + 2) X.A) (L : LamS X.env.scope scope) (hdef : defaultsOf params X.env = ([], []))
    (hbind : ∀ (q : Str) (cl : List (Str × Addr)) (pm cv ctv : Value), bindArgs (PySem.W.kla_fn "<lambda>" q params body scope cl pm cv ctv) ⟨[], []⟩ = pure [])
    (hbody : ∀ (A : Around) (outer : List Env) (s : Shared) (H : Hp) (E : XK) (f c' : Addr), Room k (A.deeper (lamEnv X scope s.heap.objs.size f c')) → PE (lamCx X A outer s H E scope f c') body (t E))
    (hdb : (x == ("__debug__" : Str)) = false := by decide) (hd : (a == ("__debug__" : Str)) = false := by decide) (hcd : (a == ("__classdict__" : Str)) = false := by decide) :
    PE X (.Call (.Name x p) [.Lambda params body scope lpos] [] pos) (tLam T TT t) := by
  refine ⟨fun pins s σ H Q I ⟨tabs, rest⟩ => wpAny_Call_Name_kw (ld_glob I hg hm ?_ hdb)⟩
  refine PySem.W.callWith_K (h₀ := X.base) I.ok.mod.kin hk ?_ (by rfl) (by rfl)
  show wpAny _ _ (spliced ((false, eval (.Lambda params body scope lpos) X.env) :: backTo pos (starEach [] X.env))) _ _ s
  refine Calls.spliced_cons (lam_make2 I TB hcode hmT hu tabs hdef (L.has I.ok) ?_)
  intro f c' pm' ctv H1 s1 J more tabs1 lam noF frF code
  refine Calls.spliced_nil ⟨J.kIn, ?_⟩
  have ran : codeAny (model X.prog X.w) X.A (.call (.ref g) ⟨[.ref f], []⟩) (CR C8.CX0 X.stack X.prog X.w H1 s1 Q C8.E0) s1 := by
    refine run_ofS (N := Ng) (ps := [a]) (us := [.ref f]) (vs := [.ref f]) lk hcg Sg room J.env0 (hb s1 [.ref f] J.kIn rfl) (.cons rfl .nil) rfl fun deep => ?_
    obtain ⟨td, hd1, hd2⟩ := give f c' s1 H1 Q (fun E H' Q' => t E σ H' Q') (fun W pn xe p1 p2 tk => act_at (i := 0) J L lam noF frF (hbind _ _ _ _ _) tk deep (fun A outer s H E r => hbody A outer s H E f c' r) hNg hva hd hcd) code (rest H1 more tabs1)
    exact ⟨td, hd1.nox, hd2⟩
  refine wpAny_call (codeAny_mono ran fun r s2 z => ?_)
  match r, z with
  | .error e, z => exact (show False from z).elim
  | .ok (.ret u), z => exact J.after z
  | .ok .next, z => exact z.elim
  | .ok .brk, z => exact z.elim
  | .ok .cont, z => exact z.elim
end Mw
set_option Elab.async false
set_option linter.all false
set_option maxRecDepth 100000
set_option maxHeartbeats 4000000
/-! a list against the empty one; calls by names alone; the law's state while lambdas are made -/
namespace Mw
open PySem PySem.Spec PyProof.Rows L2 LamX
def rEqNil (K : PySem.W.Frag) : R2 := fun x y H Q => ∃ (a b : Addr) (xs : List V), x = .ref a ∧ y = .ref b ∧ SqL K H a xs ∧ SqL K H b [] ∧ Q (.bl xs.isEmpty) H
def rNeNil (K : PySem.W.Frag) : R2 := fun x y H Q => ∃ (a b : Addr) (xs : List V), x = .ref a ∧ y = .ref b ∧ SqL K H a xs ∧ SqL K H b [] ∧ Q (.bl (!xs.isEmpty)) H
theorem op_eqNil {X : Cx} (hu : X.A.units + 64 < cLine) : OpR X (compareOp .Eq) (rEqNil X.K) := by
  intro pins s σ H x y v u Q I rx ry ⟨a, b, xs, ex, ey, ha, hb, q⟩
  cases xs with
  | nil => exact op_eqD hu pins s σ H x y v u Q I rx ry ⟨.list [], .list [], by rw [ex]; exact .lst ha .nil, by rw [ey]; exact .lst hb .nil, rfl, rfl, q⟩
  | cons x0 r =>
    subst ex ey
    cases rx
    cases ry
    obtain ⟨its, rv, pl, hz⟩ := I.list ha
    obtain ⟨its2, rv2, pl2, hz2⟩ := I.list hb
    cases rv2
    have l := rv.length
    exact SeqAt.RcAt.lists_lengths pl.isList pl2.isList (by simp only [List.size_toArray, ← l]; rfl) (by omega) X.prog X.w _ _ ⟨.bl false, H, I, rfl, q⟩
theorem op_neNil {X : Cx} (hu : X.A.units + 64 < cLine) : OpR X (compareOp .NotEq) (rNeNil X.K) := by
  intro pins s σ H x y v u Q I rx ry ⟨a, b, xs, ex, ey, ha, hb, q⟩
  cases xs with
  | nil => exact op_neD hu pins s σ H x y v u Q I rx ry ⟨.list [], .list [], by rw [ex]; exact .lst ha .nil, by rw [ey]; exact .lst hb .nil, rfl, rfl, q⟩
  | cons x0 r =>
    subst ex ey
    cases rx
    cases ry
    obtain ⟨its, rv, pl, hz⟩ := I.list ha
    obtain ⟨its2, rv2, pl2, hz2⟩ := I.list hb
    cases rv2
    have l := rv.length
    exact SeqAt.RcNeAt.lists_lengths pl.isList pl2.isList (by simp only [List.size_toArray, ← l]; rfl) (by omega) X.prog X.w _ _ ⟨.bl true, H, I, rfl, q⟩
/-- f(k = v, ..), no positional value -/
def tKw0 (n : Nat) (sp : Sp) (gV : List V → List V) (E : XK) (tk : TA) : TE := fun σ H Q => tk σ H fun zs H1 => zs.length = n ∧ sp (gV zs) H1 Q E
theorem pe_kw0 {X : Cx} {CX : CXT} {k : Nat} {f : Addr} {fd : FuncData} {ps ks : List Str} {sp : Sp} {E : XK} {x : Str} {p pos : Pos} {kws : List Keyword} {tk : TA} {g : List Value → List Value} {gV : List V → List V} (F : FnOk X.prog X.w X.K X.mg X.base CX k f fd ps sp) (room : Room k X.A)
    (hg : Gl X x) (hm : X.mg x = some (.ref f)) (hk : PySem.W.keepIn X.K (.ref f) = true) (hb : ∀ (s : Shared) (ws : List Value), X.K.In s.heap → ws.length = ks.length → BindsTo s fd ⟨[], ks.zip ws⟩ (ps.zip (g ws))) (hrel : ∀ {zs : List V} {ws : List Value}, Vals zs ws → Vals (gV zs) (g ws)) (hx : Passes CX X E)
    (hkw : PK X kws tk) (hall : (backToKw pos (keywordEach kws X.env)).all (·.1.isSome) = true := by rfl) (hks : (backToKw pos (keywordEach kws X.env)).filterMap (·.1) = ks := by rfl)
    (hdb : (x == ("__debug__" : Str)) = false := by decide) (hpl : ((backTo pos (starEach [] X.env)).any (·.1) || (backToKw pos (keywordEach kws X.env)).any (·.1.isNone)) = false := by rfl) :
    PE X (.Call (.Name x p) [] kws pos) (tKw0 ks.length sp gV E tk) := by
  refine ⟨fun pins s σ H Q I h => wpAny_Call_Name_kw (ld_glob I hg hm ?_ hdb)⟩
  refine PySem.W.callWith_KW0 (h₀ := X.base) I.ok.mod.kin hk hall (thn (hkw.run pos pins s σ H _ I h) fun ws s1 ⟨zs, H1, J, r, l, q⟩ => ⟨J.kIn, ?_⟩) hpl
  rw [hks]
  have rr := hrel r
  refine wpAny_call (codeAny_mono (F.run X.A X.stack s1 H1 ⟨[], ks.zip ws⟩ (g ws) (gV zs) Q E room J.env0 (hb s1 ws J.kIn (r.length.symm.trans l)) rr q) fun rs s2 z => ?_)
  match rs, z with
  | .error er, z => exact hx pins σ H1 s1 er s2 J z
  | .ok (.ret u), z => exact J.after z
  | .ok .next, z => exact z.elim
  | .ok .brk, z => exact z.elim
  | .ok .cont, z => exact z.elim
/-! ### all but the tables stays -/
mutual
theorem Dt.extn {H H' : Hp} (s : ExtN H H') : ∀ (d : PyData) (v : V), Dt H d v → Dt H' d v
  | .none, v, h => by simpa only [Dt] using h
  | .bool _, v, h => by simpa only [Dt] using h
  | .int _, v, h => by simpa only [Dt] using h
  | .str _, v, h => by simpa only [Dt] using h
  | .list ds, v, h => by
    simp only [Dt] at h ⊢
    obtain ⟨a, xs, e, ha, hd⟩ := h
    exact ⟨a, xs, e, s _ _ ha (fun _ z => nomatch z), DtL.extn s ds xs hd⟩
  | .tuple ds, v, h => by
    simp only [Dt] at h ⊢
    obtain ⟨a, xs, e, ha, hd⟩ := h
    exact ⟨a, xs, e, s _ _ ha (fun _ z => nomatch z), DtL.extn s ds xs hd⟩
  | .dict kvs, v, h => by
    simp only [Dt] at h ⊢
    obtain ⟨a, e, ⟨es, ha, hd⟩ | ⟨es, ha, hd⟩⟩ := h
    · exact ⟨a, e, .inl ⟨es, s _ _ ha nofun, DtK.extn s kvs es hd⟩⟩
    · exact ⟨a, e, .inr ⟨es, s _ _ ha nofun, DtT.extn s kvs es hd⟩⟩
theorem DtL.extn {H H' : Hp} (s : ExtN H H') : ∀ (ds : List PyData) (xs : List V), DtL H ds xs → DtL H' ds xs
  | [], xs, h => by simpa only [DtL] using h
  | d :: ds, xs, h => by
    simp only [DtL] at h ⊢
    obtain ⟨x, r, e, hx, hr⟩ := h
    exact ⟨x, r, e, Dt.extn s d x hx, DtL.extn s ds r hr⟩
theorem DtK.extn {H H' : Hp} (s : ExtN H H') : ∀ (ds : List (PyData × PyData)) (xs : List (Key × V)), DtK H ds xs → DtK H' ds xs
  | [], xs, h => by simpa only [DtK] using h
  | (k, d) :: ds, xs, h => by
    simp only [DtK] at h ⊢
    obtain ⟨y, x, t, e, hy, hx, hr⟩ := h
    exact ⟨y, x, t, e, Dt.extn s k _ hy, Dt.extn s d x hx, DtK.extn s ds t hr⟩
theorem DtT.extn {H H' : Hp} (s : ExtN H H') : ∀ (ds : List (PyData × PyData)) (xs : List (List Key × V)), DtT H ds xs → DtT H' ds xs
  | [], xs, h => by simpa only [DtT] using h
  | (k, d) :: ds, xs, h => by
    simp only [DtT] at h ⊢
    obtain ⟨y, x, t, e, hy, hx, hr⟩ := h
    exact ⟨y, x, t, e, hy, Dt.extn s d x hx, DtT.extn s ds t hr⟩
end
theorem ExtN.same {H H' : Hp} (s : Same H H') : ExtN H H' := fun b o e _ => s b o e
theorem Drw.extn {H H' : Hp} {d W C : Addr} {n : Nat} (h : Drw H d W C n) (s : ExtN H H') : Drw H' d W C n := by
  obtain ⟨⟨r, t, ws, cs, a, b, c, e, f⟩, g⟩ := h
  exact ⟨⟨r, t, ws, cs, s _ _ a (fun _ z => nomatch z), s _ _ b (fun _ z => nomatch z), s _ _ c (fun _ z => nomatch z), e, f⟩, g⟩
theorem ExtN.hid {H H' : Hp} (d W : Addr) (s : ExtN H H') : ExtN (Hid d W H) (Hid d W H') := fun b o e n => by
  by_cases h1 : b = d
  · unfold Hid at e
    rw [if_pos (.inl h1)] at e
    cases e
  · by_cases h2 : b = W
    · unfold Hid at e
      rw [if_pos (.inr h2)] at e
      cases e
    · rw [Hid.at_ h1 h2] at e ⊢
      exact s b o e n
/-- the tables apart from the draws -/
theorem Tabs.hid {T : List (Addr × Str)} {H : Hp} {d W C : Addr} {n : Nat} (D : Drw H d W C n) (h : Tabs T H) : Tabs T (Hid d W H) := by
  obtain ⟨⟨r, t, ws, cs, a, b, c, e, f⟩, g⟩ := D
  intro p hp
  obtain ⟨q, h1, h2, h3⟩ := h p hp
  have out : ∀ {b : Addr} {o : HO}, H b = some o → (∀ kvs, o ≠ .dK kvs) → (∀ xs, o ≠ .lst xs) → Hid d W H b = some o := by
    intro b' o e1 n1 n2
    rw [Hid.at_ (fun z => ?_) (fun z => ?_)]
    · exact e1
    · rw [z, a] at e1
      exact n1 _ (Option.some.inj e1).symm
    · rw [z, b] at e1
      exact n2 _ (Option.some.inj e1).symm
  refine ⟨q, out h1 (fun _ z => nomatch z) (fun _ z => nomatch z), h2, fun pos cv hc => ?_⟩
  obtain ⟨c0, e1, e2⟩ := h3 pos cv hc
  exact ⟨c0, e1, out e2 (fun _ z => nomatch (show HO.ext _ = HO.dK _ from z)) (fun _ z => nomatch (show HO.ext _ = HO.lst _ from z))⟩
theorem Tabs.sd {T : List (Addr × Str)} {H H' : Hp} {d W C : Addr} {n : Nat} (D : Drw H d W C n) (h : Tabs T H) (s : Sd d W H H') : Tabs T H' := ((Tabs.hid D h).ext s).ext (Hid.sub d W H')
/-- the def's code object stands for its name -/
theorem fnG_ofT {Pr : Program} {w : World} {K : PySem.W.Frag} {mg : Str → Option Value} {base : Heap} {x qual : Str} {params : Arguments} {body : List Stmt} {scope : Scope} {dvs : List V} {kws : List (Str × V)} {p : He.Defn} {fd : FuncData}
    {CX : CXT} {N ps : List Str} {k : Nat} {sp : Sp} (F : FunD K x qual params body scope dvs kws (He.fAd K p) fd) (S : FnScope N ps scope) (size : ∀ {vs H Q E}, sp vs H Q E → vs.length = ps.length)
    (hb : ∀ (A : Around) (outer : List Env) (st : Shared) (H : Hp) (vs : List V) (Q : VK) (E : XK), Room k (A.deeper (envOfC qual scope st.heap.objs.size (He.fAd K p) (.ref (He.cT K p).1))) → (A.deeper (envOfC qual scope st.heap.objs.size (He.fAd K p) (.ref (He.cT K p).1))).guards = some [] → sp vs H Q E →
      ∃ t, PSs (cxOf CX Pr w K mg base N qual scope (He.fAd K p) (.ref (He.cT K p).1) A outer st H E) body t ∧ t { nx := fun _ H' => Q .non H', rt := Q } (start N vs) H) : FnG Pr w K mg base CX (k + 1) (He.fAd K p) fd ps sp := by
  obtain ⟨oc, od, dV, kV, doc, pm, an, cdv, ct, osl, e1, lk, hcd, e2, e3⟩ := F.ex
  obtain ⟨c, hc⟩ := He.codeIn_ref hcd
  have ec : He.codeOf K p = c := by
    refine He.codeOf_eq lk ?_
    rw [e1]
    exact hc
  refine fnG_ofC (x := x) (params := params) (cdv := .ref (He.cT K p).1) ⟨oc, od, dV, kV, doc, pm, an, ct, osl, ?_, lk, ?_⟩ S size hb
  · rw [e1, hc, show (He.cT K p).1 = c from ec]
  · rw [show (Value.ref (He.cT K p).1) = cdv by rw [hc, show (He.cT K p).1 = c from ec]]
    exact hcd
end Mw
set_option Elab.async false
set_option linter.all false
set_option maxRecDepth 100000
set_option maxHeartbeats 4000000
/-! dicts whose keys are tuples: displays of one pair, comprehensions -/
namespace Mw
open PySem PySem.Spec PyProof.Rows L2 LamX
/-- a pair comes into a dict that is being made; keys ints, texts or tuples of these -/
theorem dset {X : Cx} {pins : List (Addr × Obj)} {σ : L2.St} {H H' : Hp} {s : Shared} {E : Value → Shared → Prop} {D : Addr} {y z : V} {u r : Value} {Q : Unit → Shared → Prop} (hu : X.A.units < cLine)
    (I : Inv X pins σ H s) (put : DPut H D y z H') (ry : RelV y u) (rz : RelV z r) (h : ∀ s', Inv X pins σ H' s' → Q () s') : wpAny (model X.prog X.w) X.A (dictSet D u r) Q E s := by
  rcases put with ⟨kvs, k, e, rfl, l, rfl⟩ | ⟨kvs, k, b, e, rfl, eb, l, rfl⟩
  · exact d_dictSet I e l ry rz h
  · have eu : u = Value.ref b := ry
    obtain ⟨zl, hd, xs, rel, dd⟩ := dt_of I.hok e
    have lx : xs.length ≤ sizeLine := (Paired.length rel) ▸ zl
    have lp := length_putK kvs k z
    rw [eu]
    refine wpAny_dictSet_heap (hsz := lx) (knd := tupleKind (mixKind X.prog X.w)) hu (key_of I.hok eb) dd (fun h2 ⟨q, es, ep, g1, g2, g3, g4, _, g6⟩ sb => h _ ?_)
    refine d_write I (by rw [e]; trivial) sb ⟨q, g1⟩ ⟨by omega, hd, _, KT.keeps (rel.put k eb rz) (fun c ys ec => (upd_ne (ne_of ec e nofun)).trans ec), q, es, ep, g1, g2, g3, g4, g6⟩
/-- {k: v}, the key a tuple -/
def tDispT (tk tv : TE) : TE := fun σ H Q => ∀ p, H p = none → tk σ (upd H p (.dT [])) fun y H1 => tv σ H1 fun z H2 => ∃ H3, DPut H2 p y z H3 ∧ Q (.ref p) H3
theorem pe_dispT {X : Cx} {pos : Pos} {k v : Expr} {tk tv : TE} (hu : X.A.units < cLine) (hk : PE X k tk) (hv : PE X v tv) : PE X (.Dict [some k] [v] pos) (tDispT tk tv) := by
  constructor
  intro pins s σ H Q I q
  have fr := I.hok.fresh (Nat.le_refl s.heap.objs.size)
  have J := I.laid (t' := s.toks) (o := .dT []) (fun _ _ e => Heap.get?_push_of_some _ e) (Nat.le_refl _) (dt_empty s.heap I.big)
  have two := (pps_cons (pos := pos) hk hv pps_nil).run pins _ σ _ (fun ps H2 => match ps with
    | [(y, z)] => ∃ H3, DPut H2 s.heap.objs.size y z H3 ∧ Q (.ref s.heap.objs.size) H3
    | _ => False) J (q _ fr)
  refine wpAny_Dict_any rfl rfl (by simp) (by simp) (thn two fun ws s2 ⟨ps, H2, J2, rel, w⟩ => ?_)
  match ps, ws, rel, w with
  | [(y, z)], _, .cons ⟨r1, r2⟩ .nil, ⟨H3, put, qq⟩ =>
    unfold storeAll
    rw [List.forIn_cons]
    refine wpAny_bind (wpAny_bind (dset hu J2 put r1 r2 fun s3 J3 => wpAny_pure ?_))
    show wpAny _ _ (forIn [] _ _) _ _ _
    rw [List.forIn_nil]
    exact wpAny_pure ⟨.ref s.heap.objs.size, H3, J3, rfl, qq⟩
/-- {k: v for target in iter if ..}, keys of either kind: D the new dict, o0 what it begins as -/
def tDcP (wi : TI) (g : TG) (tt : TT) (tk tv : TE) (vs : List Nat) : TE := fun σ H Q => wi σ H fun J H1 => ∃ o0 : HO, (o0 = .dK [] ∨ o0 = .dT []) ∧ ∀ D, H1 D = none → ∃ W : Nat → Nat → Hp → Prop, (∃ m, W 0 m (upd H1 D o0)) ∧
  ∀ i m G, W i m G → (J.stop i G ∧ Q (.ref D) G) ∨ (J.go i G ∧ ∃ Nx : Hp → Prop, (∀ G', Nx G' → ∃ m', m' < m ∧ W (i + 1) m' G') ∧
    ∀ x G', J.yld i G x G' → g x (wipe σ vs) G' fun σ2 G2 => wipe σ2 vs = wipe σ vs ∧ tt σ2 G2 fun b G3 => if b = true then tk σ2 G3 fun y G4 => tv σ2 G4 fun z G5 => ∃ G6, DPut G5 D y z G6 ∧ Nx G6 else Nx G3)
/-- its run -/
theorem pe_dcP {X : Cx} {kx vx tg iter : Expr} {ifs : List Expr} {scope : Scope} {own : List (Str × Nat)} {pos : Pos} {wi : TI} {g : TG} {tt : TT} {tk tv : TE} (hu : X.A.units < cLine) (calm : X.calm = true) (nd : X.N.Nodup) (src : PI X tg iter wi)
    (ok : BlkOk X.N X.env.scope scope own) (ptg : ∀ (s : Shared) (H : Hp) (C : Addr) (cl : List (Str × Addr)) (fp : List Addr), PG (X.blk s H scope (compEnvC scope cl C X.env) fp) tg g)
    (pif : ∀ (s : Shared) (H : Hp) (C : Addr) (cl : List (Str × Addr)) (fp : List Addr), PTs (X.blk s H scope (compEnvC scope cl C X.env) fp) ifs tt)
    (pkx : ∀ (s : Shared) (H : Hp) (C : Addr) (cl : List (Str × Addr)) (fp : List Addr), PE (X.blk s H scope (compEnvC scope cl C X.env) fp) kx tk)
    (pvx : ∀ (s : Shared) (H : Hp) (C : Addr) (cl : List (Str × Addr)) (fp : List Addr), PE (X.blk s H scope (compEnvC scope cl C X.env) fp) vx tv) (fold : ∀ x, foldedSetIterable iter X.env x = pure x := by intro _; rfl) :
    PE X (.DictComp kx vx [⟨tg, iter, ifs, 0⟩] scope pos) (tDcP wi g tt tk tv (own.map (·.2))) := by
  constructor
  intro pins s σ H Q I h
  rw [arm_eval_DictComp]
  have frees : ∀ y ∈ scope.names, y.2 = .free → ∃ c, X.env.cells.lookup y.1 = some c := fun y m e => (ok.free y m e).elim (fun z => I.ok.has _ (.inl z)) (fun z => I.ok.has _ (.inr z))
  refine wpAny_comprehension_free (use := none) rfl fold (closure_ok frees) ok.kind (fun y m e => (ok.uniq y m).trans (by rw [e])) ?_
  refine thn (src.run pins s σ H _ I h) fun xv s1 w1 => thn w1 fun itv s2 w2 => ?_
  obtain ⟨it, fp, tn, J, H2, rfl, I2, T, st2, f2, o0, ho, q⟩ := w2
  refine wpAny_newObj_type (newEnv_comp ?_)
  have nD : H2 s2.heap.objs.size = none := I2.hok.fresh (Nat.le_refl _)
  obtain ⟨W, ⟨m0, w0⟩, turn⟩ := q _ nD
  generalize hD : s2.heap.objs.size = D at nD w0 turn
  generalize hs3 : ({ s2 with heap := s2.heap.push { cls := .type "dict", data := .dict #[] } } : Shared) = s3
  have top : s3.heap = s2.heap.push { cls := .type "dict", data := .dict #[] } := (congrArg Shared.heap hs3).symm
  have I3 : Inv X pins σ (upd H2 D o0) s3 := by
    subst hs3
    refine I2.laid (t' := s2.toks) (fun _ _ e => Heap.get?_push_of_some _ e) (Nat.le_of_eq hD) ?_
    subst hD
    rcases ho with rfl | rfl
    · exact dk_empty _ I2.big
    · exact dt_empty _ I2.big
  have push : ∀ b o, s2.heap.get? b = some o → s3.heap.get? b = some o := fun _ _ e => by
    rw [top]
    exact Heap.get?_push_of_some _ e
  have fps : ∀ b ∈ fp, FpOk X pins (upd H2 D o0) b ∧ b < s3.heap.objs.size := by
    intro b hb
    obtain ⟨o, e, _⟩ := T.obj _ _ st2 b hb
    have lt : b < D := hD ▸ Heap.lt_size e
    refine ⟨⟨(upd_ne (Nat.ne_of_lt lt)).trans (f2 b hb).1, (f2 b hb).2⟩, ?_⟩
    rw [top, Heap.size_push, hD]
    exact Nat.lt_succ_of_lt lt
  have st3 := T.keep _ _ _ st2 fun b _ o e => push b o e
  have B0 := block_start I3 ok nd fps
  have C1 := ptg s3 (upd H2 D o0) s3.heap.objs.size (cellsFrom (s3.heap.objs.size + 1) scope.names (cloFrom X.env.cells scope.names [])) fp
  have C2 := pif s3 (upd H2 D o0) s3.heap.objs.size (cellsFrom (s3.heap.objs.size + 1) scope.names (cloFrom X.env.cells scope.names [])) fp
  have C3 := pkx s3 (upd H2 D o0) s3.heap.objs.size (cellsFrom (s3.heap.objs.size + 1) scope.names (cloFrom X.env.cells scope.names [])) fp
  have C4 := pvx s3 (upd H2 D o0) s3.heap.objs.size (cellsFrom (s3.heap.objs.size + 1) scope.names (cloFrom X.env.cells scope.names [])) fp
  have s4k : ∀ b o, s3.heap.get? b = some o → (pushCells (s3.heap.push { cls := .type "dict", data := .dict #[] }) scope.names).get? b = some o := fun b o e => pushCells_keeps _ _ _ _ (Heap.get?_push_of_some _ e)
  generalize hen : compEnvC scope (cellsFrom (s3.heap.objs.size + 1) scope.names (cloFrom X.env.cells scope.names [])) s3.heap.objs.size X.env = en at B0 C1 C2 C3 C4
  have loc : en.locals = s3.heap.objs.size := by rw [← hen]; rfl
  generalize hs4 : ({ s3 with heap := pushCells (s3.heap.push { cls := .type "dict", data := .dict #[] }) scope.names } : Shared) = s4 at B0
  have st4 : tn 0 s4.heap := by
    rw [← hs4]
    exact T.keep _ _ _ st3 fun b _ o e => s4k b o e
  have goal : codeAny (model X.prog X.w) X.A (.compStart (.DictComp kx vx [⟨tg, iter, ifs, 0⟩] scope pos) 0 (.ref it) (.ref D) en) (compPost (model X.prog X.w) X.A X.xe none (EP X pins σ Q) (.ref D) en.locals) s4 := by
    have out : ∀ b ∈ fp, upd H2 D o0 b = none := fun b hb => (fps b hb).1.1
    generalize upd H2 D o0 = G0 at *
    have stay : ∀ {σ' : L2.St} {G : Hp} {s' : Shared}, Inv (X.blk s3 G0 scope en fp) [] σ' G s' → (∀ b ∈ fp, G b = none) → ∀ b ∈ fp, FpOk (X.blk s3 G0 scope en fp) [] G b := by
      intro σ' G s' J5 n b hb
      have z := J5.ok.exf b hb
      exact ⟨n b hb, z.1, J5.ok.exfs b hb, .inl hb, fun x c e => z.2 x c e, fun _ hp => nomatch hp⟩
    have run : codeAny (model X.prog X.w) X.A (.compLoop (.DictComp kx vx [⟨tg, iter, ifs, 0⟩] scope pos) 0 (.ref it) (.ref D) en) (compPost (model X.prog X.w) X.A X.xe none (EP X pins σ Q) (.ref D) en.locals) s4 := by
      refine compLoop_anyD (fun n s' => ∃ i G, W i n G ∧ Inv (X.blk s3 G0 scope en fp) [] (wipe σ (own.map (·.2))) G s' ∧ tn i s'.heap ∧ ∀ b ∈ fp, G b = none) ?_ m0 ⟨0, G0, w0, B0, st4, out⟩
      rintro n s5 ⟨i, G, w5, J5, st5, n5⟩
      obtain ⟨stop, fin⟩ | ⟨go, Nx, down, step⟩ := turn i n G w5
      · refine thnF (T.done (X.blk s3 G0 scope en fp) rfl rfl rfl calm i [] s5 _ G (fun _ _ => False) J5 (stay J5 n5) st5 stop) ?_
        rintro _ s6 ⟨rfl, J6⟩
        obtain ⟨m, hn, _⟩ := J6.loc
        have back : Inv X pins σ G s6 := I3.call' (ch := fp) J6.os J6.base J6.hok J6.bare fun b hb =>
          let z := (fps b hb).1.2
          ⟨z.2.2.1, z.1, z.2.2.2.1, z.2.2.2.2⟩
        obtain ⟨e0, e1, _, e3, e4, e5⟩ := I3.fpOk (b := en.locals) (Nat.le_of_eq loc.symm) (show G en.locals = none from J6.free)
        exact ⟨m, hn, fun h2 sb => ⟨.ref D, G, back.turned (t' := s6.toks) (fun b o hb e => (sb.2 b hb).trans e) e0 e1 e3 e4 e5, rfl, fin⟩⟩
      · refine thnF (T.item (X.blk s3 G0 scope en fp) rfl rfl rfl calm i [] s5 _ G (fun _ _ => False) J5 (stay J5 n5) st5 go) ?_
        rintro _ s6 ⟨u, rfl, w6⟩
        refine thnF w6 fun _ s7 ⟨x, G7, J7, r7, y7, st7, n7⟩ => ?_
        refine thnF (C1.run _ s7 _ G7 x u _ (J7.pinned (stay J7 n7) (T.obj _ _ st7)) r7 (step x G7 y7)) fun _ s8 ⟨σ8, G8, J8, wp8, q8⟩ => ?_
        have last : ∀ {s' : Shared} {G' : Hp}, Inv (X.blk s3 G0 scope en fp) ([] ++ pinsAt fp s7.heap) σ8 G' s' → Nx G' → ∃ m, m < n ∧ ∃ i G, W i m G ∧ Inv (X.blk s3 G0 scope en fp) [] (wipe σ (own.map (·.2))) G s' ∧ tn i s'.heap ∧ ∀ b ∈ fp, G b = none := by
          intro s' G' J' nx
          obtain ⟨m', lt, w'⟩ := down G' nx
          have pin : ∀ b ∈ fp, ∀ o, s7.heap.get? b = some o → s'.heap.get? b = some o ∧ G' b = none := by
            intro b hb o e
            obtain ⟨p1, p2, _⟩ := J'.pin (b, o) (List.mem_append_right _ (List.mem_append_right _ (mem_pinsAt hb e)))
            exact ⟨p1, p2⟩
          refine ⟨m', lt, i + 1, G', w', (J'.unpinned (pins := [])).weak (by rw [← wp8, wipe_length]) (fun j v e => ?_), T.keep _ _ _ st7 fun b hb o e => (pin b hb o e).1, fun b hb => ?_⟩
          · exact (wipe_some (wp8 ▸ e)).1
          · obtain ⟨o, e, _⟩ := T.obj _ _ st7 b hb
            exact (pin b hb o e).2
        refine thnF (C2.run _ s8 σ8 G8 _ J8 q8) fun b s9 ⟨G9, J9, q9⟩ => ?_
        match b, q9 with
        | false, q9 => exact last J9 q9
        | true, q9 =>
          replace q9 : tk σ8 G9 (fun y G4 => tv σ8 G4 fun z G5 => ∃ G6, DPut G5 D y z G6 ∧ Nx G6) := q9
          refine thnF (C3.run _ s9 σ8 G9 _ J9 q9) fun ku s10 ⟨ky, G10, J10, r10, q10⟩ => ?_
          refine thnF (C4.run _ s10 σ8 G10 _ J10 q10) fun vu s11 ⟨vy, G11, J11, r11, G12, put, nx⟩ => ?_
          exact dset (X := X.blk s3 G0 scope en fp) hu J11 put r10 r11 fun s12 J12 => last J12 nx
    exact codeAny_compStart_dict run (T.self X.A 0 _ _ _ st4 run)
  subst hen hs4 hs3 hD
  exact goal
theorem ex_dk {G : Hp} {a : Addr} {es : List (Key × V)} {Pr : List (Key × V) → Prop} {Z : Addr → Prop} (h : G a = some (.dK es)) (hp : Pr es) : ∃ b, V.ref a = V.ref b ∧ ((∃ y, G b = some (.dK y) ∧ Pr y) ∨ Z b) := ⟨a, rfl, .inl ⟨es, h, hp⟩⟩
theorem ex_dt {G : Hp} {a : Addr} {es : List (List Key × V)} {Pr : List (List Key × V) → Prop} {Z : Addr → Prop} (h : G a = some (.dT es)) (hp : Pr es) : ∃ b, V.ref a = V.ref b ∧ (Z b ∨ ∃ y, G b = some (.dT y) ∧ Pr y) := ⟨a, rfl, .inr ⟨es, h, hp⟩⟩
end Mw
set_option Elab.async false
set_option linter.all false
set_option maxRecDepth 100000
set_option maxHeartbeats 1000000
namespace G02
open PySem PySem.Spec PyProof.Rows L2 Mw LamX
/-- the classes with an __init__, and its field -/
def clI : List (Str × Str) := [("BadNumber", "number")]
def faInit (K : PySem.W.Frag) : Bool := clI.all fun q => oexB K (He.ga K q.1) && (isB K (He.ga K q.1) && inB K (He.ga K q.1) q.2)
def faBase (K : PySem.W.Frag) : Bool := baB K (He.ga K "MeanError")
def faKind (K : PySem.W.Frag) : Bool := decide (PySem.W.kitOne K (.ref (He.ga K "BadNumber")) (.ref (He.ga K "BadNumber")) = some true) && decide (PySem.W.kitOne K (.ref (He.ga K "BadNumber")) (.ref (He.ga K "NoTable")) = some false)
def faCatch (K : PySem.W.Frag) : Bool := decide (PySem.W.exmOne K (.ref (He.ga K "BadNumber")) (.ref (He.ga K "MeanError")) = some true)
def pL : He.Defn := ("_law_lists_right", none)
def pM : He.Defn := ("law", none)
def faTab (K : PySem.W.Frag) : Bool := decide ((He.cT K pL).2 ≠ (He.cT K pM).2)
def faX : List Fct := [faInit, faBase, faKind, faCatch, faTab]
/-! ### the text by places -/
def top (i : Nat) : Stmt := PySem.Challenge.pw_meanways_k02_fractions.main.body.getD i (.Pass ⟨0, 0, 0, 0⟩)
abbrev s_copied : Stmt := top 2
abbrev s_BadNumber_init : Stmt := inClass (top 4) 0
abbrev s_is_number : Stmt := top 7
abbrev s_is_fraction : Stmt := top 8
abbrev s_fraction : Stmt := top 9
abbrev s_check_fractions : Stmt := top 10
abbrev s_added : Stmt := top 11
abbrev s_multiplied : Stmt := top 12
abbrev s_law_begun : Stmt := top 14
abbrev s_law_mixed : Stmt := top 15
abbrev s_law_take : Stmt := top 16
abbrev s_law_pick : Stmt := top 17
abbrev s_law_odd : Stmt := top 18
abbrev s_law_divided : Stmt := top 19
abbrev s_law_plus : Stmt := top 20
abbrev s_law_by : Stmt := top 21
abbrev s_law_number : Stmt := top 22
abbrev s_law_near : Stmt := top 23
abbrev s_law_is_good : Stmt := top 24
abbrev s_law_told : Stmt := top 25
abbrev s_law_lists_right : Stmt := top 26
abbrev s_law : Stmt := top 27
/-! ### slots -/
abbrev N_copied : List Str := ["value", "item", "key"]
theorem sc_copied : FnScope N_copied ["value"] (defScope s_copied) := ⟨rfl, rfl, rfl, by decide +kernel, rfl, by decide +kernel, by decide +kernel⟩
abbrev N_BadNumber_init : List Str := ["self", "number"]
theorem sc_BadNumber_init : FnScope N_BadNumber_init ["self", "number"] (defScope s_BadNumber_init) := ⟨rfl, rfl, rfl, by decide +kernel, rfl, by decide +kernel, by decide +kernel⟩
abbrev N_is_number : List Str := ["thing"]
theorem sc_is_number : FnScope N_is_number ["thing"] (defScope s_is_number) := ⟨rfl, rfl, rfl, by decide +kernel, rfl, by decide +kernel, by decide +kernel⟩
abbrev N_is_fraction : List Str := ["thing", "top", "bottom"]
theorem sc_is_fraction : FnScope N_is_fraction ["thing"] (defScope s_is_fraction) := ⟨rfl, rfl, rfl, by decide +kernel, rfl, by decide +kernel, by decide +kernel⟩
abbrev N_fraction : List Str := ["top", "bottom", "shared"]
theorem sc_fraction : FnScope N_fraction ["top", "bottom"] (defScope s_fraction) := ⟨rfl, rfl, rfl, by decide +kernel, rfl, by decide +kernel, by decide +kernel⟩
abbrev N_check_fractions : List Str := ["fractions", "item"]
theorem sc_check_fractions : FnScope N_check_fractions ["fractions"] (defScope s_check_fractions) := ⟨rfl, rfl, rfl, by decide +kernel, rfl, by decide +kernel, by decide +kernel⟩
abbrev N_added : List Str := ["fractions", "total", "top", "bottom"]
theorem sc_added : FnScope N_added ["fractions"] (defScope s_added) := ⟨rfl, rfl, rfl, by decide +kernel, rfl, by decide +kernel, by decide +kernel⟩
abbrev N_multiplied : List Str := ["fractions", "total", "top", "bottom"]
theorem sc_multiplied : FnScope N_multiplied ["fractions"] (defScope s_multiplied) := ⟨rfl, rfl, rfl, by decide +kernel, rfl, by decide +kernel, by decide +kernel⟩
abbrev N_law_begun : List Str := ["script", "wide", "cell"]
theorem sc_law_begun : FnScope N_law_begun ["script"] (defScope s_law_begun) := ⟨rfl, rfl, rfl, by decide +kernel, rfl, by decide +kernel, by decide +kernel⟩
abbrev N_law_mixed : List Str := ["draw", "turn", "found", "prime", "blend", "cell"]
theorem sc_law_mixed : FnScope N_law_mixed ["draw"] (defScope s_law_mixed) := ⟨rfl, rfl, rfl, by decide +kernel, rfl, by decide +kernel, by decide +kernel⟩
abbrev N_law_take : List Str := ["draw", "size", "found"]
theorem sc_law_take : FnScope N_law_take ["draw", "size"] (defScope s_law_take) := ⟨rfl, rfl, rfl, by decide +kernel, rfl, by decide +kernel, by decide +kernel⟩
abbrev N_law_pick : List Str := ["draw", "some"]
theorem sc_law_pick : FnScope N_law_pick ["draw", "some"] (defScope s_law_pick) := ⟨rfl, rfl, rfl, by decide +kernel, rfl, by decide +kernel, by decide +kernel⟩
abbrev N_law_odd : List Str := ["draw", "some"]
theorem sc_law_odd : FnScope N_law_odd ["draw"] (defScope s_law_odd) := ⟨rfl, rfl, rfl, by decide +kernel, rfl, by decide +kernel, by decide +kernel⟩
abbrev N_law_divided : List Str := ["top_here", "bottom_here", "one", "other"]
theorem sc_law_divided : FnScope N_law_divided ["top_here", "bottom_here"] (defScope s_law_divided) := ⟨rfl, rfl, rfl, by decide +kernel, rfl, by decide +kernel, by decide +kernel⟩
abbrev N_law_plus : List Str := ["one", "other"]
theorem sc_law_plus : FnScope N_law_plus ["one", "other"] (defScope s_law_plus) := ⟨rfl, rfl, rfl, by decide +kernel, rfl, by decide +kernel, by decide +kernel⟩
abbrev N_law_by : List Str := ["one", "other"]
theorem sc_law_by : FnScope N_law_by ["one", "other"] (defScope s_law_by) := ⟨rfl, rfl, rfl, by decide +kernel, rfl, by decide +kernel, by decide +kernel⟩
abbrev N_law_number : List Str := ["draw", "size", "found"]
theorem sc_law_number : FnScope N_law_number ["draw"] (defScope s_law_number) := ⟨rfl, rfl, rfl, by decide +kernel, rfl, by decide +kernel, by decide +kernel⟩
abbrev N_law_near : List Str := ["draw", "pair", "one", "other", "some"]
theorem sc_law_near : FnScope N_law_near ["draw", "pair"] (defScope s_law_near) := ⟨rfl, rfl, rfl, by decide +kernel, rfl, by decide +kernel, by decide +kernel⟩
abbrev N_law_is_good : List Str := ["thing_here", "one"]
theorem sc_law_is_good : FnScope N_law_is_good ["thing_here"] (defScope s_law_is_good) := ⟨rfl, rfl, rfl, by decide +kernel, rfl, by decide +kernel, by decide +kernel⟩
abbrev N_law_told : List Str := ["work", "error", "found", "caught"]
theorem sc_law_told : FnScope N_law_told ["work"] (defScope s_law_told) := ⟨rfl, rfl, rfl, by decide +kernel, rfl, by decide +kernel, by decide +kernel⟩
abbrev N_law_lists_right : List Str := ["draw", "some", "wrong", "total", "product", "kept", "one", "each", "told", "due"]
theorem sc_law_lists_right : FnScope N_law_lists_right ["draw", "some"] (defScope s_law_lists_right) := ⟨rfl, rfl, rfl, by decide +kernel, rfl, by decide +kernel, by decide +kernel⟩
abbrev N_law : List Str := ["script", "draw", "turn", "one", "other", "due", "odd", "told", "pair", "near", "some", "k", "bent", "none"]
theorem sc_law : FnScope N_law ["script"] (defScope s_law) := ⟨rfl, rfl, rfl, by decide +kernel, rfl, by decide +kernel, by decide +kernel⟩
/-! ### what the head tells -/
def fn : List He.DefD := [
  ⟨("_copied", none), "_copied", "_copied", defArgs s_copied, defBody s_copied, defScope s_copied, [], []⟩,
  ⟨("BadNumber", some "__init__"), "__init__", "BadNumber.__init__", defArgs s_BadNumber_init, defBody s_BadNumber_init, defScope s_BadNumber_init, [], []⟩,
  ⟨("is_number", none), "is_number", "is_number", defArgs s_is_number, defBody s_is_number, defScope s_is_number, [], []⟩,
  ⟨("is_fraction", none), "is_fraction", "is_fraction", defArgs s_is_fraction, defBody s_is_fraction, defScope s_is_fraction, [], []⟩,
  ⟨("fraction", none), "fraction", "fraction", defArgs s_fraction, defBody s_fraction, defScope s_fraction, [.int 1], []⟩,
  ⟨("_check_fractions", none), "_check_fractions", "_check_fractions", defArgs s_check_fractions, defBody s_check_fractions, defScope s_check_fractions, [], []⟩,
  ⟨("added", none), "added", "added", defArgs s_added, defBody s_added, defScope s_added, [], []⟩,
  ⟨("multiplied", none), "multiplied", "multiplied", defArgs s_multiplied, defBody s_multiplied, defScope s_multiplied, [], []⟩,
  ⟨("_law_begun", none), "_law_begun", "_law_begun", defArgs s_law_begun, defBody s_law_begun, defScope s_law_begun, [], []⟩,
  ⟨("_law_mixed", none), "_law_mixed", "_law_mixed", defArgs s_law_mixed, defBody s_law_mixed, defScope s_law_mixed, [], []⟩,
  ⟨("_law_take", none), "_law_take", "_law_take", defArgs s_law_take, defBody s_law_take, defScope s_law_take, [], []⟩,
  ⟨("_law_pick", none), "_law_pick", "_law_pick", defArgs s_law_pick, defBody s_law_pick, defScope s_law_pick, [], []⟩,
  ⟨("_law_odd", none), "_law_odd", "_law_odd", defArgs s_law_odd, defBody s_law_odd, defScope s_law_odd, [], []⟩,
  ⟨("_law_divided", none), "_law_divided", "_law_divided", defArgs s_law_divided, defBody s_law_divided, defScope s_law_divided, [], []⟩,
  ⟨("_law_plus", none), "_law_plus", "_law_plus", defArgs s_law_plus, defBody s_law_plus, defScope s_law_plus, [], []⟩,
  ⟨("_law_by", none), "_law_by", "_law_by", defArgs s_law_by, defBody s_law_by, defScope s_law_by, [], []⟩,
  ⟨("_law_number", none), "_law_number", "_law_number", defArgs s_law_number, defBody s_law_number, defScope s_law_number, [], []⟩,
  ⟨("_law_near", none), "_law_near", "_law_near", defArgs s_law_near, defBody s_law_near, defScope s_law_near, [], []⟩,
  ⟨("_law_is_good", none), "_law_is_good", "_law_is_good", defArgs s_law_is_good, defBody s_law_is_good, defScope s_law_is_good, [], []⟩,
  ⟨("_law_told", none), "_law_told", "_law_told", defArgs s_law_told, defBody s_law_told, defScope s_law_told, [], []⟩,
  ⟨("_law_lists_right", none), "_law_lists_right", "_law_lists_right", defArgs s_law_lists_right, defBody s_law_lists_right, defScope s_law_lists_right, [], []⟩,
  ⟨("law", none), "law", "law", defArgs s_law, defBody s_law, defScope s_law, [], []⟩]
def fa : List Fct := [(fun K => (K.lookup sysModules).isSome),
  (fun K => He.Fa.ok K (.glo "_copied")), (fun K => He.Fa.ok K (.glo "MeanError")), (fun K => He.Fa.ok K (.glo "BadNumber")), (fun K => He.Fa.ok K (.glo "NoTable")), (fun K => He.Fa.ok K (.glo "is_number")), (fun K => He.Fa.ok K (.glo "is_fraction")), (fun K => He.Fa.ok K (.glo "fraction")), (fun K => He.Fa.ok K (.glo "_check_fractions")), (fun K => He.Fa.ok K (.glo "added")), (fun K => He.Fa.ok K (.glo "multiplied")), (fun K => He.Fa.ok K (.glo "_law_begun")), (fun K => He.Fa.ok K (.glo "_law_mixed")), (fun K => He.Fa.ok K (.glo "_law_take")), (fun K => He.Fa.ok K (.glo "_law_pick")), (fun K => He.Fa.ok K (.glo "_law_odd")), (fun K => He.Fa.ok K (.glo "_law_divided")), (fun K => He.Fa.ok K (.glo "_law_plus")), (fun K => He.Fa.ok K (.glo "_law_by")), (fun K => He.Fa.ok K (.glo "_law_number")), (fun K => He.Fa.ok K (.glo "_law_near")), (fun K => He.Fa.ok K (.glo "_law_is_good")), (fun K => He.Fa.ok K (.glo "_law_told")), (fun K => He.Fa.ok K (.glo "_law_lists_right")), (fun K => He.Fa.ok K (.glo "law")),
  (fun K => He.Fa.ok K (.free "ValueError")), (fun K => He.Fa.ok K (.free "abs")), (fun K => He.Fa.ok K (.free "bool")), (fun K => He.Fa.ok K (.free "dict")), (fun K => He.Fa.ok K (.free "int")), (fun K => He.Fa.ok K (.free "isinstance")), (fun K => He.Fa.ok K (.free "len")), (fun K => He.Fa.ok K (.free "list")), (fun K => He.Fa.ok K (.free "max")), (fun K => He.Fa.ok K (.free "min")), (fun K => He.Fa.ok K (.free "range")), (fun K => He.Fa.ok K (.free "repr")), (fun K => He.Fa.ok K (.free "str")), (fun K => He.Fa.ok K (.free "tuple")), (fun K => He.eqO (PySem.W.nsIn K mainGlobals "gcd") (some (some (.builtin "math.gcd"))))] ++ faX
structure Txt (K : PySem.W.Frag) (mg : Str → Option Value) : Prop where
  sys : SysIn K
  g_copied : mg "_copied" = some (.ref (He.ga K "_copied"))
  g_MeanError : mg "MeanError" = some (.ref (He.ga K "MeanError"))
  g_BadNumber : mg "BadNumber" = some (.ref (He.ga K "BadNumber"))
  g_NoTable : mg "NoTable" = some (.ref (He.ga K "NoTable"))
  g_is_number : mg "is_number" = some (.ref (He.ga K "is_number"))
  g_is_fraction : mg "is_fraction" = some (.ref (He.ga K "is_fraction"))
  g_fraction : mg "fraction" = some (.ref (He.ga K "fraction"))
  g_check_fractions : mg "_check_fractions" = some (.ref (He.ga K "_check_fractions"))
  g_added : mg "added" = some (.ref (He.ga K "added"))
  g_multiplied : mg "multiplied" = some (.ref (He.ga K "multiplied"))
  g_law_begun : mg "_law_begun" = some (.ref (He.ga K "_law_begun"))
  g_law_mixed : mg "_law_mixed" = some (.ref (He.ga K "_law_mixed"))
  g_law_take : mg "_law_take" = some (.ref (He.ga K "_law_take"))
  g_law_pick : mg "_law_pick" = some (.ref (He.ga K "_law_pick"))
  g_law_odd : mg "_law_odd" = some (.ref (He.ga K "_law_odd"))
  g_law_divided : mg "_law_divided" = some (.ref (He.ga K "_law_divided"))
  g_law_plus : mg "_law_plus" = some (.ref (He.ga K "_law_plus"))
  g_law_by : mg "_law_by" = some (.ref (He.ga K "_law_by"))
  g_law_number : mg "_law_number" = some (.ref (He.ga K "_law_number"))
  g_law_near : mg "_law_near" = some (.ref (He.ga K "_law_near"))
  g_law_is_good : mg "_law_is_good" = some (.ref (He.ga K "_law_is_good"))
  g_law_told : mg "_law_told" = some (.ref (He.ga K "_law_told"))
  g_law_lists_right : mg "_law_lists_right" = some (.ref (He.ga K "_law_lists_right"))
  g_law : mg "law" = some (.ref (He.ga K "law"))
  n_ValueError : mg "ValueError" = none
  n_abs : mg "abs" = none
  n_bool : mg "bool" = none
  n_dict : mg "dict" = none
  n_int : mg "int" = none
  n_isinstance : mg "isinstance" = none
  n_len : mg "len" = none
  n_list : mg "list" = none
  n_max : mg "max" = none
  n_min : mg "min" = none
  n_range : mg "range" = none
  n_repr : mg "repr" = none
  n_str : mg "str" = none
  n_tuple : mg "tuple" = none
  i_gcd : mg "gcd" = some (.builtin "math.gcd")
  f_copied : FunD K "_copied" "_copied" (defArgs s_copied) (defBody s_copied) (defScope s_copied) [] [] (He.fAd K ("_copied", none)) (fdOf K (He.fAd K ("_copied", none)))
  f_BadNumber_init : FunD K "__init__" "BadNumber.__init__" (defArgs s_BadNumber_init) (defBody s_BadNumber_init) (defScope s_BadNumber_init) [] [] (He.fAd K ("BadNumber", some "__init__")) (fdOf K (He.fAd K ("BadNumber", some "__init__")))
  f_is_number : FunD K "is_number" "is_number" (defArgs s_is_number) (defBody s_is_number) (defScope s_is_number) [] [] (He.fAd K ("is_number", none)) (fdOf K (He.fAd K ("is_number", none)))
  f_is_fraction : FunD K "is_fraction" "is_fraction" (defArgs s_is_fraction) (defBody s_is_fraction) (defScope s_is_fraction) [] [] (He.fAd K ("is_fraction", none)) (fdOf K (He.fAd K ("is_fraction", none)))
  f_fraction : FunD K "fraction" "fraction" (defArgs s_fraction) (defBody s_fraction) (defScope s_fraction) [V.int 1] [] (He.fAd K ("fraction", none)) (fdOf K (He.fAd K ("fraction", none)))
  f_check_fractions : FunD K "_check_fractions" "_check_fractions" (defArgs s_check_fractions) (defBody s_check_fractions) (defScope s_check_fractions) [] [] (He.fAd K ("_check_fractions", none)) (fdOf K (He.fAd K ("_check_fractions", none)))
  f_added : FunD K "added" "added" (defArgs s_added) (defBody s_added) (defScope s_added) [] [] (He.fAd K ("added", none)) (fdOf K (He.fAd K ("added", none)))
  f_multiplied : FunD K "multiplied" "multiplied" (defArgs s_multiplied) (defBody s_multiplied) (defScope s_multiplied) [] [] (He.fAd K ("multiplied", none)) (fdOf K (He.fAd K ("multiplied", none)))
  f_law_begun : FunD K "_law_begun" "_law_begun" (defArgs s_law_begun) (defBody s_law_begun) (defScope s_law_begun) [] [] (He.fAd K ("_law_begun", none)) (fdOf K (He.fAd K ("_law_begun", none)))
  f_law_mixed : FunD K "_law_mixed" "_law_mixed" (defArgs s_law_mixed) (defBody s_law_mixed) (defScope s_law_mixed) [] [] (He.fAd K ("_law_mixed", none)) (fdOf K (He.fAd K ("_law_mixed", none)))
  f_law_take : FunD K "_law_take" "_law_take" (defArgs s_law_take) (defBody s_law_take) (defScope s_law_take) [] [] (He.fAd K ("_law_take", none)) (fdOf K (He.fAd K ("_law_take", none)))
  f_law_pick : FunD K "_law_pick" "_law_pick" (defArgs s_law_pick) (defBody s_law_pick) (defScope s_law_pick) [] [] (He.fAd K ("_law_pick", none)) (fdOf K (He.fAd K ("_law_pick", none)))
  f_law_odd : FunD K "_law_odd" "_law_odd" (defArgs s_law_odd) (defBody s_law_odd) (defScope s_law_odd) [] [] (He.fAd K ("_law_odd", none)) (fdOf K (He.fAd K ("_law_odd", none)))
  f_law_divided : FunD K "_law_divided" "_law_divided" (defArgs s_law_divided) (defBody s_law_divided) (defScope s_law_divided) [] [] (He.fAd K ("_law_divided", none)) (fdOf K (He.fAd K ("_law_divided", none)))
  f_law_plus : FunD K "_law_plus" "_law_plus" (defArgs s_law_plus) (defBody s_law_plus) (defScope s_law_plus) [] [] (He.fAd K ("_law_plus", none)) (fdOf K (He.fAd K ("_law_plus", none)))
  f_law_by : FunD K "_law_by" "_law_by" (defArgs s_law_by) (defBody s_law_by) (defScope s_law_by) [] [] (He.fAd K ("_law_by", none)) (fdOf K (He.fAd K ("_law_by", none)))
  f_law_number : FunD K "_law_number" "_law_number" (defArgs s_law_number) (defBody s_law_number) (defScope s_law_number) [] [] (He.fAd K ("_law_number", none)) (fdOf K (He.fAd K ("_law_number", none)))
  f_law_near : FunD K "_law_near" "_law_near" (defArgs s_law_near) (defBody s_law_near) (defScope s_law_near) [] [] (He.fAd K ("_law_near", none)) (fdOf K (He.fAd K ("_law_near", none)))
  f_law_is_good : FunD K "_law_is_good" "_law_is_good" (defArgs s_law_is_good) (defBody s_law_is_good) (defScope s_law_is_good) [] [] (He.fAd K ("_law_is_good", none)) (fdOf K (He.fAd K ("_law_is_good", none)))
  f_law_told : FunD K "_law_told" "_law_told" (defArgs s_law_told) (defBody s_law_told) (defScope s_law_told) [] [] (He.fAd K ("_law_told", none)) (fdOf K (He.fAd K ("_law_told", none)))
  f_law_lists_right : FunD K "_law_lists_right" "_law_lists_right" (defArgs s_law_lists_right) (defBody s_law_lists_right) (defScope s_law_lists_right) [] [] (He.fAd K ("_law_lists_right", none)) (fdOf K (He.fAd K ("_law_lists_right", none)))
  f_law : FunD K "law" "law" (defArgs s_law) (defBody s_law) (defScope s_law) [] [] (He.fAd K ("law", none)) (fdOf K (He.fAd K ("law", none)))
  more : ∀ f ∈ faX, f K = true
theorem txt_of {K : PySem.W.Frag} {h : Heap} {mg : Str → Option Value} (X : K.In h) (G : h.Ns mainGlobals mg) (c : SaysM fa fn K) : Txt K mg where
  sys := c.fact 0 (f := fun K => (K.lookup sysModules).isSome)
  g_copied := He.glo_ok X G (c.fact 1)
  g_MeanError := He.glo_ok X G (c.fact 2)
  g_BadNumber := He.glo_ok X G (c.fact 3)
  g_NoTable := He.glo_ok X G (c.fact 4)
  g_is_number := He.glo_ok X G (c.fact 5)
  g_is_fraction := He.glo_ok X G (c.fact 6)
  g_fraction := He.glo_ok X G (c.fact 7)
  g_check_fractions := He.glo_ok X G (c.fact 8)
  g_added := He.glo_ok X G (c.fact 9)
  g_multiplied := He.glo_ok X G (c.fact 10)
  g_law_begun := He.glo_ok X G (c.fact 11)
  g_law_mixed := He.glo_ok X G (c.fact 12)
  g_law_take := He.glo_ok X G (c.fact 13)
  g_law_pick := He.glo_ok X G (c.fact 14)
  g_law_odd := He.glo_ok X G (c.fact 15)
  g_law_divided := He.glo_ok X G (c.fact 16)
  g_law_plus := He.glo_ok X G (c.fact 17)
  g_law_by := He.glo_ok X G (c.fact 18)
  g_law_number := He.glo_ok X G (c.fact 19)
  g_law_near := He.glo_ok X G (c.fact 20)
  g_law_is_good := He.glo_ok X G (c.fact 21)
  g_law_told := He.glo_ok X G (c.fact 22)
  g_law_lists_right := He.glo_ok X G (c.fact 23)
  g_law := He.glo_ok X G (c.fact 24)
  n_ValueError := He.free_ok X G (c.fact 25)
  n_abs := He.free_ok X G (c.fact 26)
  n_bool := He.free_ok X G (c.fact 27)
  n_dict := He.free_ok X G (c.fact 28)
  n_int := He.free_ok X G (c.fact 29)
  n_isinstance := He.free_ok X G (c.fact 30)
  n_len := He.free_ok X G (c.fact 31)
  n_list := He.free_ok X G (c.fact 32)
  n_max := He.free_ok X G (c.fact 33)
  n_min := He.free_ok X G (c.fact 34)
  n_range := He.free_ok X G (c.fact 35)
  n_repr := He.free_ok X G (c.fact 36)
  n_str := He.free_ok X G (c.fact 37)
  n_tuple := He.free_ok X G (c.fact 38)
  i_gcd := PySem.W.mg_of X G (He.eqO_ok (c.fact 39 (f := fun K => He.eqO (PySem.W.nsIn K mainGlobals "gcd") (some (some (.builtin "math.gcd"))))))
  f_copied := funD_of (c.defn 0)
  f_BadNumber_init := funD_of (c.defn 1)
  f_is_number := funD_of (c.defn 2)
  f_is_fraction := funD_of (c.defn 3)
  f_fraction := funD_of (c.defn 4)
  f_check_fractions := funD_of (c.defn 5)
  f_added := funD_of (c.defn 6)
  f_multiplied := funD_of (c.defn 7)
  f_law_begun := funD_of (c.defn 8)
  f_law_mixed := funD_of (c.defn 9)
  f_law_take := funD_of (c.defn 10)
  f_law_pick := funD_of (c.defn 11)
  f_law_odd := funD_of (c.defn 12)
  f_law_divided := funD_of (c.defn 13)
  f_law_plus := funD_of (c.defn 14)
  f_law_by := funD_of (c.defn 15)
  f_law_number := funD_of (c.defn 16)
  f_law_near := funD_of (c.defn 17)
  f_law_is_good := funD_of (c.defn 18)
  f_law_told := funD_of (c.defn 19)
  f_law_lists_right := funD_of (c.defn 20)
  f_law := funD_of (c.defn 21)
  more := fun f hf => by
    have c0 : ((fa.all fun f => f K) && fn.all fun d => d.ok K) = true := congrArg Prod.fst c
    exact List.all_eq_true.mp (He.ba c0).1 f (List.mem_append_right _ hf)
theorem b_copied {K : PySem.W.Frag} {mg : Str → Option Value} (T : Txt K mg) : Binds K (fdOf K (He.fAd K ("_copied", none))) ["value"] [] := T.f_copied.bindsN fun _ _ _ _ _ _ us hl => match us, hl with | [_], _ => rfl
theorem b_BadNumber_init {K : PySem.W.Frag} {mg : Str → Option Value} (T : Txt K mg) : Binds K (fdOf K (He.fAd K ("BadNumber", some "__init__"))) ["self", "number"] [] := T.f_BadNumber_init.bindsN fun _ _ _ _ _ _ us hl => match us, hl with | [_, _], _ => rfl
theorem b_is_number {K : PySem.W.Frag} {mg : Str → Option Value} (T : Txt K mg) : Binds K (fdOf K (He.fAd K ("is_number", none))) ["thing"] [] := T.f_is_number.bindsN fun _ _ _ _ _ _ us hl => match us, hl with | [_], _ => rfl
theorem b_is_fraction {K : PySem.W.Frag} {mg : Str → Option Value} (T : Txt K mg) : Binds K (fdOf K (He.fAd K ("is_fraction", none))) ["thing"] [] := T.f_is_fraction.bindsN fun _ _ _ _ _ _ us hl => match us, hl with | [_], _ => rfl
theorem b_check_fractions {K : PySem.W.Frag} {mg : Str → Option Value} (T : Txt K mg) : Binds K (fdOf K (He.fAd K ("_check_fractions", none))) ["fractions"] [] := T.f_check_fractions.bindsN fun _ _ _ _ _ _ us hl => match us, hl with | [_], _ => rfl
theorem b_added {K : PySem.W.Frag} {mg : Str → Option Value} (T : Txt K mg) : Binds K (fdOf K (He.fAd K ("added", none))) ["fractions"] [] := T.f_added.bindsN fun _ _ _ _ _ _ us hl => match us, hl with | [_], _ => rfl
theorem b_multiplied {K : PySem.W.Frag} {mg : Str → Option Value} (T : Txt K mg) : Binds K (fdOf K (He.fAd K ("multiplied", none))) ["fractions"] [] := T.f_multiplied.bindsN fun _ _ _ _ _ _ us hl => match us, hl with | [_], _ => rfl
theorem b_law_begun {K : PySem.W.Frag} {mg : Str → Option Value} (T : Txt K mg) : Binds K (fdOf K (He.fAd K ("_law_begun", none))) ["script"] [] := T.f_law_begun.bindsN fun _ _ _ _ _ _ us hl => match us, hl with | [_], _ => rfl
theorem b_law_mixed {K : PySem.W.Frag} {mg : Str → Option Value} (T : Txt K mg) : Binds K (fdOf K (He.fAd K ("_law_mixed", none))) ["draw"] [] := T.f_law_mixed.bindsN fun _ _ _ _ _ _ us hl => match us, hl with | [_], _ => rfl
theorem b_law_take {K : PySem.W.Frag} {mg : Str → Option Value} (T : Txt K mg) : Binds K (fdOf K (He.fAd K ("_law_take", none))) ["draw", "size"] [] := T.f_law_take.bindsN fun _ _ _ _ _ _ us hl => match us, hl with | [_, _], _ => rfl
theorem b_law_pick {K : PySem.W.Frag} {mg : Str → Option Value} (T : Txt K mg) : Binds K (fdOf K (He.fAd K ("_law_pick", none))) ["draw", "some"] [] := T.f_law_pick.bindsN fun _ _ _ _ _ _ us hl => match us, hl with | [_, _], _ => rfl
theorem b_law_odd {K : PySem.W.Frag} {mg : Str → Option Value} (T : Txt K mg) : Binds K (fdOf K (He.fAd K ("_law_odd", none))) ["draw"] [] := T.f_law_odd.bindsN fun _ _ _ _ _ _ us hl => match us, hl with | [_], _ => rfl
theorem b_law_divided {K : PySem.W.Frag} {mg : Str → Option Value} (T : Txt K mg) : Binds K (fdOf K (He.fAd K ("_law_divided", none))) ["top_here", "bottom_here"] [] := T.f_law_divided.bindsN fun _ _ _ _ _ _ us hl => match us, hl with | [_, _], _ => rfl
theorem b_law_plus {K : PySem.W.Frag} {mg : Str → Option Value} (T : Txt K mg) : Binds K (fdOf K (He.fAd K ("_law_plus", none))) ["one", "other"] [] := T.f_law_plus.bindsN fun _ _ _ _ _ _ us hl => match us, hl with | [_, _], _ => rfl
theorem b_law_by {K : PySem.W.Frag} {mg : Str → Option Value} (T : Txt K mg) : Binds K (fdOf K (He.fAd K ("_law_by", none))) ["one", "other"] [] := T.f_law_by.bindsN fun _ _ _ _ _ _ us hl => match us, hl with | [_, _], _ => rfl
theorem b_law_number {K : PySem.W.Frag} {mg : Str → Option Value} (T : Txt K mg) : Binds K (fdOf K (He.fAd K ("_law_number", none))) ["draw"] [] := T.f_law_number.bindsN fun _ _ _ _ _ _ us hl => match us, hl with | [_], _ => rfl
theorem b_law_near {K : PySem.W.Frag} {mg : Str → Option Value} (T : Txt K mg) : Binds K (fdOf K (He.fAd K ("_law_near", none))) ["draw", "pair"] [] := T.f_law_near.bindsN fun _ _ _ _ _ _ us hl => match us, hl with | [_, _], _ => rfl
theorem b_law_is_good {K : PySem.W.Frag} {mg : Str → Option Value} (T : Txt K mg) : Binds K (fdOf K (He.fAd K ("_law_is_good", none))) ["thing_here"] [] := T.f_law_is_good.bindsN fun _ _ _ _ _ _ us hl => match us, hl with | [_], _ => rfl
theorem b_law_told {K : PySem.W.Frag} {mg : Str → Option Value} (T : Txt K mg) : Binds K (fdOf K (He.fAd K ("_law_told", none))) ["work"] [] := T.f_law_told.bindsN fun _ _ _ _ _ _ us hl => match us, hl with | [_], _ => rfl
theorem b_law_lists_right {K : PySem.W.Frag} {mg : Str → Option Value} (T : Txt K mg) : Binds K (fdOf K (He.fAd K ("_law_lists_right", none))) ["draw", "some"] [] := T.f_law_lists_right.bindsN fun _ _ _ _ _ _ us hl => match us, hl with | [_, _], _ => rfl
theorem b_law {K : PySem.W.Frag} {mg : Str → Option Value} (T : Txt K mg) : Binds K (fdOf K (He.fAd K ("law", none))) ["script"] [] := T.f_law.bindsN fun _ _ _ _ _ _ us hl => match us, hl with | [_], _ => rfl

end G02
set_option Elab.async false
set_option linter.all false
set_option maxRecDepth 100000
set_option maxHeartbeats 1000000
namespace G02
open PySem PySem.Spec PyProof.Rows L2 Mw
/-! ### the draws -/
def spMixed : Sp := fun vs H Q _ => ∃ (d W C : Addr) (n : Nat), vs = [.ref d] ∧ Drw H d W C (n + 1) ∧ ∀ (i : Int) (H' : Hp), Drw H' d W C n → Sd d W H H' → Q (.int i) H'
def spTake : Sp := fun vs H Q _ => ∃ (d W C : Addr) (n : Nat) (size : Int), vs = [.ref d, .int size] ∧ Drw H d W C (n + 1) ∧ 0 < size ∧ size.natAbs.log2 < 9000 ∧
  ∀ (i : Int) (H' : Hp), 0 ≤ i → i < size → Drw H' d W C n → Sd d W H H' → Q (.int i) H'
theorem mix_small {b : Int} {p : Int} (h0 : 0 < p) (h : p ≤ 4294967296) : (b % p).natAbs < 2 ^ 64 := by
  have h1 := Int.emod_nonneg b (show p ≠ 0 by omega)
  have h2 := Int.emod_lt_of_pos b h0
  omega
section
variable {P : Program} {w : World} {K : PySem.W.Frag} {mg : Str → Option Value} {base : Heap}
theorem ok_mixed (T : Txt K mg) : FnOk P w K mg base CX0 1 (He.ga K "_law_mixed") (fdOf K (He.ga K "_law_mixed")) ["draw"] spMixed := by
  refine T.f_law_mixed.ok sc_law_mixed (fun vs H Q E h => ?_) (fun cdv A outer s H vs Q E hr h => ?_)
  · obtain ⟨_, _, _, _, rfl, _⟩ := h
    rfl
  · obtain ⟨d, W, C, n, rfl, D, q⟩ := h
    have hu := hu_of hr
    refine ⟨_, PSs.nox (pss_cons (ps_par (i := 1) (j := 2) rfl sc_law_mixed.nd rfl rfl (by decide) rfl rfl (pa_cons (pe_op op_add (pe_dget hu (pv 0) pe_str (fun _ _ => rfl)) pe_int) (pa_cons pe_int pa_nil)) (by rfl))
      (pss_cons (ps_dput hu (pv 0) pe_str (pv 1) rfl)
      (pss_cons (ps_for PassesOwn.never rfl (pi_list (pe_lst (pa_cons pe_int (pa_cons pe_int (pa_cons pe_int (pa_cons pe_int pa_nil)))))) (pg_name (i := 3) sc_law_mixed.nd rfl (.inl rfl))
        (pss_cons (ps_set (i := 4) sc_law_mixed.nd rfl (.inl rfl) (pe_op op_add (pe_op op_mul pe_int (pv 1)) (pe_op op_fdiv (pv 3) pe_int)))
        (pss_cons (ps_for PassesOwn.never rfl (pi_list (pe_dget hu (pv 0) pe_str (fun _ _ => rfl))) (pg_name (i := 5) sc_law_mixed.nd rfl (.inl rfl))
          (pss_one (ps_set (i := 4) sc_law_mixed.nd rfl (.inl rfl) (pe_op op_mod (pe_callTy call_int1 (by rfl) T.n_int (by decide +kernel) (pa_cons (pe_op op_add (pe_op op_add (pe_op op_mul (pv 4) pe_int) (pv 5)) (pv 1)) pa_nil)) (pv 3)))))
        (pss_one (ps_set (i := 2) sc_law_mixed.nd rfl (.inl rfl) (pe_op op_add (pe_op op_mul (pv 2) pe_int) (pe_op op_mod (pe_callTy call_int1 (by rfl) T.n_int (by decide +kernel) (pa_cons (pe_op op_pow (pv 4) pe_int) pa_nil)) (pv 3))))))))
      (pss_one (ps_ret (pv 2)))))), ?_⟩
    obtain ⟨⟨r, t, ws, cs, hd, hW, hC, ht, hb⟩, ne⟩ := D
    have ndW : d ≠ W := ne_of hd hW (by intro z; cases z)
    have ndC : d ≠ C := ne_of hd hC (by intro z; cases z)
    -- turn, found = draw["turn"] + 1, 0; draw["turn"] = turn
    refine ⟨_, rfl, d, _, rfl, DGet.k (k := Sum.inr "turn") hd, _, _, rfl, rfl, _, _, rfl, ?_⟩
    refine ⟨_, rfl, _, rfl, d, _, rfl, DPut.k (k := Sum.inr "turn") hd (small1000 (show 4 ≤ 1000 by decide)), ?_⟩
    rw [dr_pt]
    -- the primes
    refine ⟨by show 4 ≤ sizeLine; decide, fun p hp => ?_⟩
    have npd : p ≠ d := fun z => by rw [z, upd_same] at hp; cases hp
    have hp0 : H p = none := by rw [upd_ne npd] at hp; exact hp
    have npW : p ≠ W := (ne_of_none hW hp0).symm
    have npC : p ≠ C := (ne_of_none hC hp0).symm
    have H2 : ∀ G, G = upd (upd H d (.dK (drK W C r (t + 1)))) p (.lst [.int 2147483629, .int 2147483587, .int 2147483579, .int 2147483563]) → G d = some (.dK (drK W C r (t + 1))) ∧ G W = some (.lst (ws.map V.int)) ∧ G C = some (.lst (cs.map V.int)) ∧
        G p = some (.lst [.int 2147483629, .int 2147483587, .int 2147483579, .int 2147483563]) ∧ Sd d W H G := fun G e => by
      subst e
      refine ⟨by rw [upd_ne npd.symm, upd_same], by rw [upd_ne npW.symm, upd_ne ndW.symm]; exact hW, by rw [upd_ne npC.symm, upd_ne ndC.symm]; exact hC, upd_same, Sd.trans Sd.upd_d (Sd.new hp)⟩
    generalize upd (upd H d (.dK (drK W C r (t + 1)))) p (.lst [.int 2147483629, .int 2147483587, .int 2147483579, .int 2147483563]) = G at H2 ⊢
    obtain ⟨gd, gW, gC, gp, sd⟩ := H2 G rfl
    refine ⟨p, rfl, ⟨_, SqL.of gp⟩, for_list (K := K) (a := p) (xs := [.int 2147483629, .int 2147483587, .int 2147483579, .int 2147483563])
      (fun i σ H' => H' = G ∧ ∃ (f : Int) (v3 v4 v5 : Option V), σ = [some (.ref d), some (.int (t + 1)), some (.int f), v3, v4, v5]) ⟨rfl, 0, none, none, none, rfl⟩ (fun i σ H' _ ⟨e, _⟩ => by rw [e]; exact SqL.of gp) ?_ ?_⟩
    · rintro i x σ H' hi ⟨rfl, f, v3, v4, v5, rfl⟩
      obtain ⟨pr, rfl, p0, p1⟩ : ∃ pr : Int, x = .int pr ∧ 0 < pr ∧ pr ≤ 2147483629 := by
        match i, hi with
        | 0, hi => exact ⟨_, (Option.some.inj hi).symm, by decide, by decide⟩
        | 1, hi => exact ⟨_, (Option.some.inj hi).symm, by decide, by decide⟩
        | 2, hi => exact ⟨_, (Option.some.inj hi).symm, by decide, by decide⟩
        | 3, hi => exact ⟨_, (Option.some.inj hi).symm, by decide, by decide⟩
        | i + 4, hi => simp at hi
      -- blend = 61441 * turn + prime // 19
      refine ⟨_, rfl, _, _, rfl, rfl, .inl ⟨by decide, by decide⟩, _, rfl, _, _, rfl, rfl, ⟨by decide, by decide⟩, _, _, rfl, rfl, ?_⟩
      -- the cells
      refine ⟨_, rfl, d, _, rfl, DGet.k (k := Sum.inr "cells") gd, C, rfl, ⟨_, SqL.of gC⟩, for_list (K := K) (a := C) (xs := cs.map V.int)
        (fun i σ H2 => H2 = H' ∧ ∃ (b : Int) (v5 : Option V), b.natAbs < 2 ^ 64 ∧ σ = [some (.ref d), some (.int (t + 1)), some (.int f), some (.int pr), some (.int b), v5]) ?_ (fun i σ H2 _ ⟨e, _⟩ => by rw [e]; exact SqL.of gC) ?_ ?_⟩
      · refine ⟨rfl, 61441 * (t + 1) + pr / 19, v5, ?_, rfl⟩
        have h1 : pr / 19 ≤ 2147483629 := by omega
        omega
      · rintro j y σ H2 hj ⟨rfl, b, v5, hb2, rfl⟩
        obtain ⟨z, rfl⟩ : ∃ z, y = V.int z := by
          rw [List.getElem?_map] at hj
          cases e : cs[j]? with
          | none => rw [e] at hj; cases hj
          | some z => rw [e] at hj; exact ⟨z, (Option.some.inj hj).symm⟩
        refine ⟨_, rfl, _, _, rfl, rfl, .inr ⟨by decide, by decide⟩, _, rfl, _, _, rfl, rfl, _, rfl, _, _, rfl, rfl, .inl ⟨_, rfl, ?_⟩⟩
        refine ⟨_, rfl, _, _, rfl, rfl, p0, rfl, _, _, mix_small p0 (by omega), rfl⟩
      · rintro σ H2 ⟨rfl, b, v5', hb2, rfl⟩
        refine ⟨_, rfl, _, _, rfl, rfl, .inr ⟨by decide, by decide⟩, _, rfl, _, _, rfl, rfl, ⟨by decide, by decide, hb2⟩, .inl ⟨_, rfl, ?_⟩⟩
        exact ⟨_, rfl, _, _, rfl, rfl, p0, _, _, rfl, rfl, rfl, _, _, _, _, rfl⟩
    · rintro σ H' ⟨rfl, f, v3, v4, v5, rfl⟩
      exact ⟨_, rfl, q f _ ⟨⟨r, t + 1, ws, cs, gd, gW, gC, by omega, by omega⟩, ne⟩ sd⟩
theorem ok_take (T : Txt K mg) : FnOk P w K mg base CX0 2 (He.ga K "_law_take") (fdOf K (He.ga K "_law_take")) ["draw", "size"] spTake := by
  have GM : FnOk P w K mg base CX0 1 (He.ga K "_law_mixed") (fdOf K (He.ga K "_law_mixed")) ["draw"] spMixed := ok_mixed T
  refine T.f_law_take.ok sc_law_take (fun vs H Q E h => ?_) (fun cdv A outer s H vs Q E hr h => ?_)
  · obtain ⟨_, _, _, _, _, rfl, _⟩ := h
    rfl
  · obtain ⟨d, W, C, n, size, rfl, D, s0, s1, q⟩ := h
    have hu := hu_of hr
    refine ⟨_, PSs.nox (pss_cons (ps_if (pt_cmpR op_eq (pe_dget hu (pv 0) pe_str (fun _ _ => rfl)) pe_int (nomark _))
        (pss_one (ps_dput hu (pv 0) pe_str (pe_ifExp (pt_cmpR (op_neD hr.units) (pe_dget hu (pv 0) pe_str (fun _ _ => rfl)) (pe_lst pa_nil) (nomark _))
          (pe_bm PySem.F.plainAttrs_list PySem.F.slot_list_pop PySem.F.type_list_pop mt_popAt (pe_dget hu (pv 0) pe_str (fun _ _ => rfl)) (pa_cons pe_int pa_nil))
          (pe_call GM hr rfl T.g_law_mixed T.f_law_mixed.kp (b_law_mixed T) .nil pass0 (pa_cons (pv 0) pa_nil))) rfl)) pss_nil)
      (pss_cons (ps_set (i := 2) sc_law_take.nd rfl (.inl rfl) (pe_op op_mod (pe_callTy call_int1 (by rfl) T.n_int (by decide +kernel) (pa_cons (pe_dget hu (pv 0) pe_str (fun _ _ => rfl)) pa_nil)) (pv 1)))
      (pss_cons (ps_dput hu (pv 0) pe_str (pe_op op_fdivW (pe_dget hu (pv 0) pe_str (fun _ _ => rfl)) (pv 1)) rfl)
      (pss_one (ps_ret (pv 2)))))), ?_⟩
    obtain ⟨⟨r, t, ws, cs, hd, hW, hC, ht, hb⟩, ne⟩ := D
    have ndW : d ≠ W := ne_of hd hW (by intro z; cases z)
    refine seq_gen (fun σ' H1 => σ' = [some (.ref d), some (.int size), none] ∧ Drw H1 d W C n ∧ Sd d W H H1) ?_ ?_
    · rintro σ' H1 ⟨rfl, D1, sd⟩
      obtain ⟨⟨r1, t1, ws1, cs1, gd, gW, gC, gt, gb⟩, _⟩ := D1
      have p0 := Int.emod_nonneg r1 (show size ≠ 0 by omega)
      have p1 := Int.emod_lt_of_pos r1 s0
      -- found = int(draw["rest"]) % size
      refine ⟨_, rfl, d, _, rfl, DGet.k (k := Sum.inr "rest") gd, .inl ⟨_, rfl, _, rfl, _, _, rfl, rfl, s0, ?_⟩⟩
      refine ⟨_, rfl, d, _, rfl, DGet.k (k := Sum.inr "rest") gd, _, rfl, _, _, rfl, rfl, ⟨s0, s1⟩, _, rfl, d, _, rfl, DPut.k (k := Sum.inr "rest") gd (small1000 (show 4 ≤ 1000 by decide)), ?_⟩
      rw [dr_pr]
      exact ⟨_, rfl, q _ _ p0 p1 ⟨⟨_, t1, ws1, cs1, upd_same, by rw [upd_ne ndW.symm]; exact gW, by rw [upd_ne (ne_of gC gd (by intro z; cases z))]; exact gC, gt, gb⟩, ne⟩ (sd.trans Sd.upd_d)⟩
    · intro X hX
      refine ⟨_, rfl, d, _, rfl, DGet.k (k := Sum.inr "rest") hd, rfl, _, rfl, ?_⟩
      refine ite2 (fun _ => ?_) (fun _ => ?_)
      · -- the rest is used up
        refine ⟨_, rfl, d, _, rfl, DGet.k (k := Sum.inr "wide") hd, Nat.zero_le _, fun p hp => ?_⟩
        obtain ⟨npd, npW⟩ : p ≠ d ∧ p ≠ W := ⟨(ne_of_none hd hp).symm, (ne_of_none hW hp).symm⟩
        have npC : p ≠ C := (ne_of_none hC hp).symm
        have e1 : (upd H p (.lst [])) d = some (.dK (drK W C r t)) := by rw [upd_ne npd.symm]; exact hd
        have e2 : (upd H p (.lst [])) W = some (.lst (ws.map V.int)) := by rw [upd_ne npW.symm]; exact hW
        have e3 : (upd H p (.lst [])) C = some (.lst (cs.map V.int)) := by rw [upd_ne npC.symm]; exact hC
        refine ⟨_, _, .lst (SqL.of e2) (dp_ints ws), .lst (SqL.of upd_same) .nil, shaped_ints ws, rfl, ?_⟩
        rw [eqv_ints_nil]
        refine ⟨_, rfl, ?_⟩
        cases ws with
        | nil =>
          refine iteF ?_
          refine ⟨_, rfl, d, W, C, n, rfl, ⟨⟨r, t, [], cs, e1, e2, e3, ht, by omega⟩, ne⟩, fun i H' D' sd' => ?_⟩
          obtain ⟨⟨r1, t1, ws1, cs1, gd, gW, gC, gt, gb⟩, _⟩ := D'
          refine ⟨_, rfl, d, _, rfl, DPut.k (k := Sum.inr "rest") gd (small1000 (show 4 ≤ 1000 by decide)), ?_⟩
          rw [dr_pr]
          exact hX _ _ ⟨rfl, ⟨⟨_, t1, ws1, cs1, upd_same, by rw [upd_ne ndW.symm]; exact gW, by rw [upd_ne (ne_of gC gd (by intro z; cases z))]; exact gC, gt, by omega⟩, ne⟩, ((Sd.new hp).trans sd').trans Sd.upd_d⟩
        | cons z ws =>
          refine iteT ?_
          refine ⟨_, rfl, d, _, rfl, DGet.k (k := Sum.inr "wide") e1, .inl ⟨rfl, _, SqL.of e2⟩, W, _, 0, 0, .int z, rfl, rfl, e2, by decide, by decide, by simp [seqIndex?], rfl, ?_⟩
          refine ⟨_, rfl, d, _, rfl, DPut.k (kvs := drK W C r t) (k := Sum.inr "rest") (by rw [upd_ne ndW]; exact e1) (small1000 (show 4 ≤ 1000 by decide)), ?_⟩
          rw [dr_pr]
          refine hX _ _ ⟨rfl, ⟨⟨_, t, ws, cs, upd_same, by rw [upd_ne ndW.symm, upd_same]; rfl, by rw [upd_ne (ne_of e3 e1 (by intro z; cases z)), upd_ne ne.symm]; exact e3, ht, by omega⟩, ne⟩, ((Sd.new hp).trans Sd.upd_w).trans Sd.upd_d⟩
      · exact hX _ _ ⟨rfl, ⟨⟨r, t, ws, cs, hd, hW, hC, ht, by omega⟩, ne⟩, Sd.refl _⟩
end

local macro_rules | `(tactic| walk_at "data") => `(tactic| (repeat' (first | rfl | refine ex_cons ?_ ?_ | refine ex_pair ?_ ?_ ?_ | refine ex_dk (Rn.hid (by assumption) (by walk_at "mem")) ?_ | refine ex_ref (Rn.hid (by assumption) (by walk_at "mem")) ?_)))
local macro_rules | `(tactic| walk_at "mem") => `(tactic| (repeat' (first | exact List.mem_cons_self .. | refine List.mem_cons_of_mem _ ?_)))
/-! ### a drawn item -/
/-- some: a list of the heap without the draws' own, or a text -/
def spPick : Sp := fun vs H Q _ => ∃ (d W C : Addr) (n : Nat) (p : Addr) (xs : List V), vs = [.ref d, .ref p] ∧ Drw H d W C (n + 1) ∧ Hid d W H p = some (.lst xs) ∧ 0 < xs.length ∧ xs.length ≤ 1000 ∧
  ∀ (i : Nat) (x : V) (H' : Hp), xs[i]? = some x → Drw H' d W C n → Sd d W H H' → Q x H'
def spOdd : Sp := fun vs H Q _ => ∃ (d W C : Addr) (n : Nat), vs = [.ref d] ∧ Drw H d W C (n + 1) ∧
  ∀ (dd : PyData) (v : V) (H' : Hp), dd ∈ oddD → Drw H' d W C n → Sd d W H H' → Dt (Hid d W H') dd v → Q v H'
def spBegun (K : PySem.W.Frag) : Sp := fun vs H Q _ => ∃ (a : Addr) (ns : List Int), vs = [.ref a] ∧ SqL K H a (ns.map V.int) ∧ ns.length ≤ 63 ∧ ∀ (d W C : Addr) (H' : Hp), Drw H' d W C 1099511627776 → Same H H' → Q (.ref d) H'
theorem log_small {n : Nat} (h : n ≤ 1000) : ((n : Int)).natAbs.log2 < 9000 := by
  have e : ((n : Int)).natAbs = n := by omega
  rw [e]
  have h1 : n.log2 ≤ n := Nat.log2_le_self n
  omega
section
variable {P : Program} {w : World} {K : PySem.W.Frag} {mg : Str → Option Value} {base : Heap}
theorem ok_pick (T : Txt K mg) : FnOk P w K mg base CX0 3 (He.ga K "_law_pick") (fdOf K (He.ga K "_law_pick")) ["draw", "some"] spPick := by
  have G_law_take : FnOk P w K mg base CX0 2 (He.ga K "_law_take") (fdOf K (He.ga K "_law_take")) ["draw", "size"] spTake := ok_take T
  refine T.f_law_pick.ok sc_law_pick (fun vs H Q E h => ?_) (fun cdv A outer s H vs Q E hr h => ?_)
  · obtain ⟨_, _, _, _, _, _, rfl, _⟩ := h
    rfl
  · obtain ⟨d, W, C, n, p, xs, rfl, D, hp, l0, l1, q⟩ := h
    have hu := hu_of hr
    refine ⟨_, PSs.nox (pss_one (ps_ret (pe_ix ix_list (pv 1) (pe_call G_law_take (hr.mono (by decide)) rfl T.g_law_take T.f_law_take.kp (b_law_take T) .nil pass0 (pa_cons (pv 0) (pa_cons (pe_callB call_len (by rfl) T.n_len (by decide +kernel) (pa_cons (pv 1) pa_nil)) pa_nil))) (fun _ _ => rfl)))), ?_⟩
    have hp' := Hid.sub d W H _ _ hp
    refine ⟨_, rfl, _, rfl, _, rfl, _, xs.length, rfl, .inl ⟨_, SqL.of hp', rfl⟩, d, W, C, n, _, rfl, D, by omega, log_small l1, fun i H' i0 i1 D' sd => ?_⟩
    have hk : Hid d W H' p = some (.lst xs) := sd _ _ hp
    have hi : i.toNat < xs.length := by omega
    refine ⟨p, xs, i, xs[i.toNat], rfl, rfl, SqL.of (Hid.sub d W H' _ _ hk), ?_, q i.toNat _ H' (List.getElem?_eq_getElem hi) D' sd⟩
    have e : i = ((i.toNat : Nat) : Int) := by omega
    exact at_of e (List.getElem?_eq_getElem hi)
theorem ok_odd (T : Txt K mg) : FnOk P w K mg base CX0 4 (He.ga K "_law_odd") (fdOf K (He.ga K "_law_odd")) ["draw"] spOdd := by
  have G_law_pick : FnOk P w K mg base CX0 3 (He.ga K "_law_pick") (fdOf K (He.ga K "_law_pick")) ["draw", "some"] spPick := ok_pick T
  refine T.f_law_odd.ok sc_law_odd (fun vs H Q E h => ?_) (fun cdv A outer s H vs Q E hr h => ?_)
  · obtain ⟨_, _, _, _, rfl, _⟩ := h
    rfl
  · obtain ⟨d, W, C, n, rfl, D, q⟩ := h
    have hu := hu_of hr
    refine ⟨_, PSs.nox (pss_cons (ps_set (i := 1) sc_law_odd.nd rfl (.inl rfl) (pe_lst (pa_cons pe_non (pa_cons pe_bl (pa_cons pe_bl (pa_cons (pe_un un_neg pe_int) (pa_cons (pe_un un_neg pe_int) (pa_cons (pe_op op_pow pe_int pe_int) (pa_cons pe_str (pa_cons pe_str (pa_cons pe_str (pa_cons pe_str (pa_cons pe_str (pa_cons pe_str (pa_cons (pe_tup pa_nil) (pa_cons (pe_tup (pa_cons pe_int pa_nil)) (pa_cons (pe_tup (pa_cons pe_str (pa_cons pe_str pa_nil))) (pa_cons (pe_lst pa_nil) (pa_cons (pe_lst (pa_cons pe_int pa_nil)) (pa_cons pe_dnewK (pa_cons pe_int (pa_cons pe_int pa_nil))))))))))))))))))))))
  (pss_cons (ps_set (i := 1) sc_law_odd.nd rfl (.inl rfl) (pe_op op_cat (pv 1) (pe_lst (pa_cons (pe_lst (pa_cons (pe_lst pa_nil) pa_nil)) (pa_cons (pe_tup (pa_cons pe_bl pa_nil)) (pa_cons (pe_tup (pa_cons pe_int (pa_cons pe_non pa_nil))) (pa_cons pe_str (pa_cons (pe_tup (pa_cons pe_str pa_nil)) (pa_cons (pe_un un_neg (pe_op op_pow pe_int pe_int)) (pa_cons (pe_tup (pa_cons pe_int (pa_cons pe_int pa_nil))) (pa_cons pe_str (pa_cons pe_str (pa_cons (pe_disp (pps_cons pe_str pe_int pps_nil) rfl rfl (by simp) (by decide)) pa_nil)))))))))))))
  (pss_one (ps_ret (pe_call G_law_pick (hr.mono (by decide)) rfl T.g_law_pick T.f_law_pick.kp (b_law_pick T) .nil pass0 (pa_cons (pv 0) (pa_cons (pv 1) pa_nil))))))), ?_⟩
    have R := Rn.start D
    refine ⟨_, rfl, _, rfl, _, _, rfl, rfl, ⟨by decide, by decide, by decide⟩, le_line (by simp), fun p1 h1 => alloc h1 R fun H1 R1 => ?_⟩
    refine ⟨le_line (by simp), fun p2 h2 => alloc h2 R1 fun H2 R2 => ⟨le_line (by simp), fun p3 h3 => alloc h3 R2 fun H3 R3 => ⟨le_line (by simp), fun p4 h4 => alloc h4 R3 fun H4 R4 => ⟨le_line (by simp), fun p5 h5 => alloc h5 R4 fun H5 R5 => ?_⟩⟩⟩⟩
    refine fun p6 h6 => alloc h6 R5 fun H6 R6 => ⟨le_line (by simp), fun p7 h7 => alloc h7 R6 fun H7 R7 => ?_⟩
    refine ⟨_, rfl, ?_⟩
    refine ⟨le_line (by simp), fun q1 g1 => alloc g1 R7 fun H8 R8 => ⟨le_line (by simp), fun q2 g2 => alloc g2 R8 fun H9 R9 => ?_⟩⟩
    refine ⟨le_line (by simp), fun q3 g3 => alloc g3 R9 fun H10 R10 => ⟨le_line (by simp), fun q4 g4 => alloc g4 R10 fun H11 R11 => ⟨le_line (by simp), fun q5 g5 => alloc g5 R11 fun H12 R12 => ?_⟩⟩⟩
    refine ⟨_, _, rfl, rfl, ⟨by decide, by decide, by decide⟩, _, rfl, le_line (by simp), fun q6 g6 => alloc g6 R12 fun H13 R13 => fun q7 g7 => ⟨upd_same, [(Sum.inr "a", .int 1)], rfl, by decide, ?_⟩⟩
    rw [upd_upd]
    refine alloc g7 R13 fun H14 R14 => ⟨le_line (by simp), fun q8 g8 => alloc g8 R14 fun H15 R15 => ?_⟩
    refine ⟨p7, q8, _, _, rfl, rfl, R15.get (by walk_at "mem"), R15.get (by walk_at "mem"), le_line (by simp), fun q9 g9 => alloc g9 R15 fun H16 R16 => ?_⟩
    refine ⟨_, rfl, _, rfl, d, W, C, n, q9, _, rfl, R16.dr, R16.at_ (q := (q9, _)) (List.mem_cons_self ..), by simp, by simp, fun i x H' hi D' sd => ?_⟩
    have R' := R16.call D' sd
    suffices all : DtL (Hid d W H') oddD _ by
      obtain ⟨dd, e1, e2⟩ := DtL.at_ all hi
      exact q dd x H' (List.mem_of_getElem? e1) D' R'.sd e2
    simp only [oddD, DtL, Dt, DtK, List.cons_append, List.nil_append]
    walk_at "data"
theorem ok_begun (T : Txt K mg) : FnOk P w K mg base CX0 1 (He.ga K "_law_begun") (fdOf K (He.ga K "_law_begun")) ["script"] (spBegun K) := by
  refine T.f_law_begun.ok sc_law_begun (fun vs H Q E h => ?_) (fun cdv A outer s H vs Q E hr h => ?_)
  · obtain ⟨_, _, rfl, _⟩ := h
    rfl
  · obtain ⟨a, ns, rfl, hS, hl, q⟩ := h
    have hu := hu_of hr
    refine ⟨_, PSs.nox (pss_cons (ps_setLc (i := 1) (own := [("cell", 2)]) rfl sc_law_begun.nd rfl rfl (sw_true rfl rfl rfl (by decide +kernel)) (pi_list (pv 0)) (blkOk_by (N := N_law_begun) (sc := defScope s_law_begun) (by decide +kernel)) (fun _ _ _ _ _ => (pg_name (i := 2) sc_law_begun.nd rfl (.inl rfl))) (fun _ _ _ _ _ => (pts_one (pt_cmpR op_ge (pe_callB call_abs (by rfl) T.n_abs (by decide +kernel) (pa_cons (pv 2) pa_nil)) (pe_op op_pow pe_int pe_int) (nomark _)))) (fun _ _ _ _ _ => (pe_op op_sub (pe_callB call_abs (by rfl) T.n_abs (by decide +kernel) (pa_cons (pv 2) pa_nil)) (pe_op op_pow pe_int pe_int))))
  (pss_one (ps_ret (pe_disp (pps_cons pe_str (pv 1) (pps_cons pe_str (pe_lc (own := [("cell", 2)]) (tt := tYes) rfl sc_law_begun.nd (pi_list (pv 0)) (blkOk_by (N := N_law_begun) (sc := defScope s_law_begun) (by decide +kernel)) (fun _ _ _ _ _ => (pg_name (i := 2) sc_law_begun.nd rfl (.inl rfl))) (fun _ _ _ _ _ => pts_nil) (fun _ _ _ _ _ => (pe_op op_mod (pe_callTy call_int1 (by rfl) T.n_int (by decide +kernel) (pa_cons (pe_callB call_abs (by rfl) T.n_abs (by decide +kernel) (pa_cons (pv 2) pa_nil)) pa_nil)) pe_int))) (pps_cons pe_str pe_int (pps_cons pe_str pe_int pps_nil)))) rfl rfl (by simp) (by decide))))), ?_⟩
    refine ⟨_, rfl, a, rfl, ⟨_, hS⟩, fun W hW => lc_list (K := K) (a := a) (xs := ns.map V.int) (fun i H' => Same H H' ∧ ∃ acc : List Int, acc.length ≤ i ∧ H' W = some (.lst (acc.map V.int)))
      ⟨same_upd hW, [], Nat.le_refl _, upd_same⟩ (fun i H' _ h => h.1.seq hS) ?_ ?_⟩
    · rintro i x H' hi ⟨s1, acc, la, ha⟩
      obtain ⟨z, hz, rfl⟩ := ints_get hi
      have hlt : i < 63 := by have := (List.getElem?_eq_some_iff.mp hz).1; omega
      refine ⟨rfl, _, rfl, _, rfl, _, _, rfl, rfl, ⟨by decide, by decide, by decide⟩, _, _, rfl, rfl, _, rfl, ?_⟩
      refine ite2 (fun _ => ?_) (fun _ => ⟨s1, acc, by omega, ha⟩)
      refine ⟨_, rfl, _, rfl, _, _, rfl, rfl, ⟨by decide, by decide, by decide⟩, _, _, rfl, rfl, _, ha, ?_, fun b o e => ?_, ?_⟩
      · rw [List.length_map]
        exact small1000 (by omega)
      · rw [upd_ne (ne_of_none e hW)]
        exact s1 b o e
      · exact grow_ints la
    · rintro H1 ⟨s1, ws, lw, hws⟩
      -- the dict, its cells
      refine fun d hd => ⟨_, rfl, _, rfl, a, rfl, ⟨_, (s1.trans (same_upd hd)).seq hS⟩, fun C hC => lc_list (K := K) (a := a) (xs := ns.map V.int)
        (fun i H' => Same H1 H' ∧ H' d = some (.dK []) ∧ ∃ acc : List Int, acc.length ≤ i ∧ H' C = some (.lst (acc.map V.int))) ?_ (fun i H' _ h => (s1.trans h.1).seq hS) ?_ ?_⟩
      · have nCd : d ≠ C := fun z => by rw [← z, upd_same] at hC; cases hC
        exact ⟨(same_upd hd).trans (same_upd hC), by rw [upd_ne nCd, upd_same], [], Nat.le_refl _, upd_same⟩
      · rintro i x H' hi ⟨s2, h2, acc, la, ha⟩
        obtain ⟨z, hz, rfl⟩ := ints_get hi
        have hlt : i < 63 := by have := (List.getElem?_eq_some_iff.mp hz).1; omega
        have nCd : d ≠ C := fun z => by rw [← z, upd_same] at hC; cases hC
        have hC1 : H1 C = none := by rw [upd_ne nCd.symm] at hC; exact hC
        refine ⟨rfl, ?_⟩
        unfold tYes
        refine iteT ?_
        refine ⟨_, rfl, _, rfl, .inl ⟨_, rfl, _, _, rfl, rfl, (show (0 : Int) < 2147483629 by decide), _, ha, ?_, fun b o e => ?_, ?_, ?_⟩⟩
        · rw [List.length_map]
          exact small1000 (by omega)
        · rw [upd_ne (ne_of_none e hC1)]
          exact s2 b o e
        · rw [upd_ne nCd]
          exact h2
        · exact grow_ints la
      · rintro H2 ⟨s2, h2, cs, lc, hcs⟩
        have nCd : d ≠ C := fun z => by rw [← z, upd_same] at hC; cases hC
        have hC1 : H1 C = none := by rw [upd_ne nCd.symm] at hC; exact hC
        have nWC : W ≠ C := ne_of_none hws hC1
        have nWd : W ≠ d := ne_of_none hws hd
        refine ⟨h2, [(.inr "wide", .ref W), (.inr "cells", .ref C), (.inr "rest", .int 0), (.inr "turn", .int 0)], rfl, by simp, ?_⟩
        refine q d W C _ ⟨⟨0, 0, ws, cs, upd_same, by rw [upd_ne nWd]; exact s2 _ _ hws, by rw [upd_ne nCd.symm]; exact hcs, by decide, by decide⟩, nWC⟩ (fun b o e => ?_)
        rw [upd_ne (ne_of_none (s1 b o e) hd)]
        exact s2 _ _ (s1 b o e)
end

section
variable {P : Program} {w : World} {K : PySem.W.Frag} {mg : Str → Option Value} {base : Heap}
theorem ok_copied (T : Txt K mg) : ∀ n, FnOk P w K mg base CX0 n (He.ga K "_copied") (fdOf K (He.ga K "_copied")) ["value"] (spC n)
  | 0 => ⟨fun _ _ _ _ h => h.elim, fun _ _ _ _ _ _ _ _ _ _ _ _ _ h => h.elim⟩
  | n + 1 => by
    have G_copied := ok_copied T n
    refine T.f_copied.ok sc_copied (fun vs H Q E h => ?_) (fun cdv A outer s H vs Q E hr h => ?_)
    · obtain ⟨_, _, rfl, _⟩ := h
      rfl
    · obtain ⟨v, dd, rfl, hd, hc, q⟩ := h
      have hu := hu_of hr
      refine ⟨_, PSs.nox (pss_cons (ps_if (pt_val (pe_callB call_isi (by rfl) T.n_isinstance (by decide +kernel) (pa_cons (pv 0) (pa_cons (pe_bltn (v := .ty "list") (by rfl) T.n_list (by decide +kernel) rfl) pa_nil))))
  (pss_one (ps_ret (pe_lc (own := [("item", 1)]) (tt := tYes) rfl sc_copied.nd (pi_list (pv 0)) (blkOk_by (N := N_copied) (sc := defScope s_copied) (by decide +kernel)) (fun _ _ _ _ _ => (pg_name (i := 1) sc_copied.nd rfl (.inl rfl))) (fun _ _ _ _ _ => pts_nil) (fun _ _ _ _ _ => (pe_call G_copied hr rfl T.g_copied T.f_copied.kp (b_copied T) .nil pass0 (pa_cons (pv 1) pa_nil))))))
  pss_nil)
  (pss_cons (ps_if (pt_val (pe_callB call_isi (by rfl) T.n_isinstance (by decide +kernel) (pa_cons (pv 0) (pa_cons (pe_bltn (v := .ty "tuple") (by rfl) T.n_tuple (by decide +kernel) rfl) pa_nil))))
  (pss_one (ps_ret (pe_callTy call_tuple_of (by rfl) T.n_tuple (by decide +kernel) (pa_cons (pe_lc (own := [("item", 1)]) (tt := tYes) rfl sc_copied.nd (pi_tup (pv 0)) (blkOk_by (N := N_copied) (sc := defScope s_copied) (by decide +kernel)) (fun _ _ _ _ _ => (pg_name (i := 1) sc_copied.nd rfl (.inl rfl))) (fun _ _ _ _ _ => pts_nil) (fun _ _ _ _ _ => (pe_call G_copied hr rfl T.g_copied T.f_copied.kp (b_copied T) .nil pass0 (pa_cons (pv 1) pa_nil)))) pa_nil))))
  pss_nil)
  (pss_cons (ps_if (pt_val (pe_callB call_isi (by rfl) T.n_isinstance (by decide +kernel) (pa_cons (pv 0) (pa_cons (pe_bltn (v := .ty "dict") (by rfl) T.n_dict (by decide +kernel) rfl) pa_nil))))
  (pss_one (ps_ret (pe_lock (pe_dcP (Nat.lt_of_le_of_lt (Nat.le_add_right _ _) hu) (own := [("key", 2)]) (tt := tYes) rfl sc_copied.nd (pi_keys (pv 0)) (blkOk_by (N := N_copied) (sc := defScope s_copied) (by decide +kernel)) (fun _ _ _ _ _ => (pg_name (i := 2) sc_copied.nd rfl (.inl rfl))) (fun _ _ _ _ _ => pts_nil) (fun _ _ _ _ _ => (pv 2)) (fun _ _ _ _ _ => (pe_call G_copied hr rfl T.g_copied T.f_copied.kp (b_copied T) .nil pass0 (pa_cons (pe_dget hu (pv 0) (pv 2) (fun _ _ => rfl)) pa_nil)))))))
  pss_nil)
  (pss_one (ps_ret (pv 0)))))), ?_⟩
      cases dd with
      | list ds =>
        refine ⟨_, rfl, _, _, .type "list", _, true, rfl, .ty "list", hd.ty, kitq (show kitB "list" "list" = some true by decide +kernel), ?_⟩
        refine ⟨_, rfl, iteT ?_⟩
        cases n with
        | zero => cases hc
        | succ n =>
        simp only [cpB, Bool.and_eq_true, decide_eq_true_eq, List.all_eq_true] at hc
        obtain ⟨hz, hc⟩ := hc
        simp only [Dt] at hd
        obtain ⟨a, xs, rfl, ha, hx⟩ := hd
        have lx := DtL.length hx
        refine ⟨_, rfl, a, rfl, ⟨_, SqL.of ha⟩, fun D hD => lc_list (K := K) (a := a) (xs := xs) (fun i H' => Cpy H D ds i H') (Cpy.start hD) (fun i H' _ c => SqL.of (c.sm _ _ ha)) ?_ ?_⟩
        · intro i x H1 hi c
          obtain ⟨dd, e1, e2⟩ := DtL.at_ hx hi
          have il : i < xs.length := (List.getElem?_eq_some_iff.mp hi).1
          refine ⟨rfl, ?_⟩
          unfold tYes
          refine iteT ?_
          refine ⟨_, rfl, _, dd, rfl, Dt.same c.sm dd x e2, hc dd (List.mem_of_getElem? e1), fun v' H2 s2 d2 => ?_⟩
          obtain ⟨acc, h1, h2, h3⟩ := c.step hD e1 s2 d2
          exact ⟨acc, h1, small1000 (by omega), h3⟩
        · intro H1 c
          rw [lx] at c
          obtain ⟨acc, h1, h2⟩ := c.done hD
          refine q _ H1 c.sm ?_
          simp only [Dt]
          exact ⟨D, acc, rfl, by rw [Nw.at_ hD]; exact h1, h2⟩
      | tuple ds =>
        refine ⟨_, rfl, _, _, .type "tuple", _, false, rfl, .ty "list", hd.ty, kitq (show kitB "tuple" "list" = some false by decide +kernel), ?_⟩
        refine ⟨_, rfl, iteF ?_⟩
        refine ⟨_, rfl, _, _, .type "tuple", _, true, rfl, .ty "tuple", hd.ty, kitq (show kitB "tuple" "tuple" = some true by decide +kernel), ?_⟩
        refine ⟨_, rfl, iteT ?_⟩
        cases n with
        | zero => cases hc
        | succ n =>
        simp only [cpB, Bool.and_eq_true, decide_eq_true_eq, List.all_eq_true] at hc
        obtain ⟨hz, hc⟩ := hc
        simp only [Dt] at hd
        obtain ⟨a, xs, rfl, ha, hx⟩ := hd
        have lx := DtL.length hx
        refine ⟨_, rfl, a, rfl, ⟨_, SqT.of ha⟩, fun D hD => lc_tup (K := K) (a := a) (xs := xs) (fun i H' => Cpy H D ds i H') (Cpy.start hD) (fun i H' _ c => SqT.of (c.sm _ _ ha)) ?_ ?_⟩
        · intro i x H1 hi c
          obtain ⟨dd, e1, e2⟩ := DtL.at_ hx hi
          have il : i < xs.length := (List.getElem?_eq_some_iff.mp hi).1
          refine ⟨rfl, ?_⟩
          unfold tYes
          refine iteT ?_
          refine ⟨_, rfl, _, dd, rfl, Dt.same c.sm dd x e2, hc dd (List.mem_of_getElem? e1), fun v' H2 s2 d2 => ?_⟩
          obtain ⟨acc, h1, h2, h3⟩ := c.step hD e1 s2 d2
          exact ⟨acc, h1, small1000 (by omega), h3⟩
        · intro H1 c
          rw [lx] at c
          obtain ⟨acc, h1, h2⟩ := c.done hD
          refine ⟨D, acc, rfl, .inl ⟨SqL.of h1, fun l hl => ?_⟩⟩
          have hl0 : H l = none := none_of c.sm hl
          refine q _ _ (c.sm.trans (same_upd hl)) ?_
          simp only [Dt]
          refine ⟨l, acc, rfl, by rw [Nw.at_ hl0, upd_same], DtL.same (Nw.sub fun b o e1 e2 => ⟨e1, same_upd hl _ _ e2⟩) _ _ h2⟩
      | dict ds =>
        refine ⟨_, rfl, _, _, .type "dict", _, false, rfl, .ty "list", hd.ty, kitq (show kitB "dict" "list" = some false by decide +kernel), ?_⟩
        refine ⟨_, rfl, iteF ?_⟩
        refine ⟨_, rfl, _, _, .type "dict", _, false, rfl, .ty "tuple", hd.ty, kitq (show kitB "dict" "tuple" = some false by decide +kernel), ?_⟩
        refine ⟨_, rfl, iteF ?_⟩
        refine ⟨_, rfl, _, _, .type "dict", _, true, rfl, .ty "dict", hd.ty, kitq (show kitB "dict" "dict" = some true by decide +kernel), ?_⟩
        refine ⟨_, rfl, iteT ?_⟩
        cases n with
        | zero => cases hc
        | succ n =>
        simp only [cpB, Bool.and_eq_true, decide_eq_true_eq, List.all_eq_true] at hc
        obtain ⟨hz, hc⟩ := hc
        simp only [Dt] at hd
        obtain ⟨a, rfl, ⟨es, ha, hx⟩ | ⟨es, ha, hx⟩⟩ := hd
        rotate_left
        · refine ⟨a, .dT es, ha, trivial, fun od => ?_⟩
          refine ⟨_, rfl, a, od, rfl, .inr ⟨es, upd_same, .dT [], .inr rfl, fun D hD => ?_⟩⟩
          have hDa : D ≠ a := fun z => by
            rw [z, upd_same] at hD
            cases hD
          have hD0 : H D = none := by
            rw [upd_ne hDa] at hD
            exact hD
          refine dc_it walk_keysT (fun i H' => Same (upd H a (.frz od (.dT es))) H' ∧ H' D = some (.dT (es.take i))) ⟨same_upd hD, upd_same⟩ (fun i H' _ c => c.1 _ _ upd_same) ?_ ?_
          · rintro i v H1 H1' hi ⟨s1, h1⟩ ⟨rfl, y, x, qa, e1, rfl, hq⟩
            obtain ⟨kd, e2, hxd, hlen⟩ := dtt_one hz hx e1
            subst hlen
            obtain ⟨e3, e4⟩ := e2
            have fl := hc kd e3
            refine ⟨rfl, ?_⟩
            unfold tYes
            refine iteT ?_
            refine ⟨_, rfl, _, rfl, _, rfl, a, x, rfl, ?_, x, kd.2, rfl, Dt.flat hxd fl, cpB_up fl, fun v' H2 s2 d2 => ?_⟩
            · exact .inr ⟨es, y, qa, .inr ⟨od, s1 _ _ upd_same⟩, rfl, hq, by rw [e4]; simp [valV]⟩
            · have ev : v' = x := Dt.one fl d2 hxd
              subst ev
              refine ⟨_, DPut.t (s2 _ _ h1) (s2 _ _ hq) (small1000 (by rw [List.length_take]; omega)), fun b o e => ?_, ?_⟩
              · rw [upd_ne (ne_of_none e hD)]
                exact s2 _ _ (s1 _ _ e)
              · rw [upd_same, e4]
                rfl
          · rintro H1 ⟨s1, h1⟩
            refine ⟨s1 _ _ upd_same, ?_⟩
            rw [List.take_length] at h1
            refine q _ _ (fun b o e => ?_) ?_
            · by_cases hb : b = a
              · rw [hb] at e ⊢
                rw [upd_same, ← ha, e]
              · rw [upd_ne hb]
                exact s1 _ _ (by rw [upd_ne hb]; exact e)
            · simp only [Dt]
              exact ⟨D, rfl, .inr ⟨es, by rw [Nw.at_ hD0, upd_ne hDa]; exact h1, dtt_flat hc hx⟩⟩
        refine ⟨a, .dK es, ha, trivial, fun od => ?_⟩
        refine ⟨_, rfl, a, od, rfl, .inl ⟨es, upd_same, .dK [], .inl rfl, fun D hD => ?_⟩⟩
        have hDa : D ≠ a := fun z => by
          rw [z, upd_same] at hD
          cases hD
        have hD0 : H D = none := by
          rw [upd_ne hDa] at hD
          exact hD
        refine dc_it walk_keys (fun i H' => Same (upd H a (.frz od (.dK es))) H' ∧ H' D = some (.dK (es.take i))) ⟨same_upd hD, upd_same⟩ (fun i H' _ c => c.1 _ _ upd_same) ?_ ?_
        · rintro i v H1 H1' hi ⟨s1, h1⟩ ⟨rfl, y, x, e1, rfl⟩
          obtain ⟨kd, e2, hkd, hxd, hlen⟩ := dtk_one hz hx e1
          subst hlen
          obtain ⟨e3, e4⟩ := e2
          have fl := hc kd e3
          refine ⟨rfl, ?_⟩
          unfold tYes
          refine iteT ?_
          refine ⟨_, rfl, _, rfl, _, rfl, a, x, rfl, ?_, x, kd.2, rfl, Dt.flat hxd fl, cpB_up fl, fun v' H2 s2 d2 => ?_⟩
          · exact .inl ⟨es, y, .inr ⟨od, s1 _ _ upd_same⟩, rfl, by rw [e4]; exact valV_one⟩
          · have ev : v' = x := Dt.one fl d2 hxd
            subst ev
            refine ⟨_, DPut.k (s2 _ _ h1) (small1000 (by rw [List.length_take]; omega)), fun b o e => ?_, ?_⟩
            · rw [upd_ne (ne_of_none e hD)]
              exact s2 _ _ (s1 _ _ e)
            · rw [upd_same, e4]
              rfl
        · rintro H1 ⟨s1, h1⟩
          refine ⟨s1 _ _ upd_same, ?_⟩
          rw [List.take_length] at h1
          refine q _ _ (fun b o e => ?_) ?_
          · by_cases hb : b = a
            · rw [hb] at e ⊢
              rw [upd_same, ← ha, e]
            · rw [upd_ne hb]
              exact s1 _ _ (by rw [upd_ne hb]; exact e)
          · simp only [Dt]
            exact ⟨D, rfl, .inl ⟨es, by rw [Nw.at_ hD0, upd_ne hDa]; exact h1, dtk_flat hc hx⟩⟩
      | none =>
        refine ⟨_, rfl, _, _, .type "NoneType", _, false, rfl, .ty "list", hd.ty, kitq (show kitB "NoneType" "list" = some false by decide +kernel), ?_⟩
        refine ⟨_, rfl, iteF ?_⟩
        refine ⟨_, rfl, _, _, .type "NoneType", _, false, rfl, .ty "tuple", hd.ty, kitq (show kitB "NoneType" "tuple" = some false by decide +kernel), ?_⟩
        refine ⟨_, rfl, iteF ?_⟩
        refine ⟨_, rfl, _, _, .type "NoneType", _, false, rfl, .ty "dict", hd.ty, kitq (show kitB "NoneType" "dict" = some false by decide +kernel), ?_⟩
        refine ⟨_, rfl, iteF ?_⟩
        exact ⟨_, rfl, q _ H (Same.refl H) (by simpa only [Dt] using hd)⟩
      | bool _ =>
        refine ⟨_, rfl, _, _, .type "bool", _, false, rfl, .ty "list", hd.ty, kitq (show kitB "bool" "list" = some false by decide +kernel), ?_⟩
        refine ⟨_, rfl, iteF ?_⟩
        refine ⟨_, rfl, _, _, .type "bool", _, false, rfl, .ty "tuple", hd.ty, kitq (show kitB "bool" "tuple" = some false by decide +kernel), ?_⟩
        refine ⟨_, rfl, iteF ?_⟩
        refine ⟨_, rfl, _, _, .type "bool", _, false, rfl, .ty "dict", hd.ty, kitq (show kitB "bool" "dict" = some false by decide +kernel), ?_⟩
        refine ⟨_, rfl, iteF ?_⟩
        exact ⟨_, rfl, q _ H (Same.refl H) (by simpa only [Dt] using hd)⟩
      | int _ =>
        refine ⟨_, rfl, _, _, .type "int", _, false, rfl, .ty "list", hd.ty, kitq (show kitB "int" "list" = some false by decide +kernel), ?_⟩
        refine ⟨_, rfl, iteF ?_⟩
        refine ⟨_, rfl, _, _, .type "int", _, false, rfl, .ty "tuple", hd.ty, kitq (show kitB "int" "tuple" = some false by decide +kernel), ?_⟩
        refine ⟨_, rfl, iteF ?_⟩
        refine ⟨_, rfl, _, _, .type "int", _, false, rfl, .ty "dict", hd.ty, kitq (show kitB "int" "dict" = some false by decide +kernel), ?_⟩
        refine ⟨_, rfl, iteF ?_⟩
        exact ⟨_, rfl, q _ H (Same.refl H) (by simpa only [Dt] using hd)⟩
      | str _ =>
        refine ⟨_, rfl, _, _, .type "str", _, false, rfl, .ty "list", hd.ty, kitq (show kitB "str" "list" = some false by decide +kernel), ?_⟩
        refine ⟨_, rfl, iteF ?_⟩
        refine ⟨_, rfl, _, _, .type "str", _, false, rfl, .ty "tuple", hd.ty, kitq (show kitB "str" "tuple" = some false by decide +kernel), ?_⟩
        refine ⟨_, rfl, iteF ?_⟩
        refine ⟨_, rfl, _, _, .type "str", _, false, rfl, .ty "dict", hd.ty, kitq (show kitB "str" "dict" = some false by decide +kernel), ?_⟩
        refine ⟨_, rfl, iteF ?_⟩
        exact ⟨_, rfl, q _ H (Same.refl H) (by simpa only [Dt] using hd)⟩
end

end G02
set_option Elab.async false
set_option linter.all false
set_option maxRecDepth 100000
set_option maxHeartbeats 4000000
namespace Mw
open PySem PySem.Spec PyProof.Rows L2
def isNum : PyData → Bool
  | .int _ => true
  | _ => false
def isFr : PyData → Bool
  | .tuple [.int t, .int b] => decide (1 ≤ b) && decide (Nat.gcd t.natAbs b.natAbs = 1)
  | _ => false
/-- t divided by b in least numbers -/
def nrm (t b : Int) : Int × Int := (t / (Nat.gcd t.natAbs b.natAbs : Nat), b / (Nat.gcd t.natAbs b.natAbs : Nat))
/-- what fraction makes of two values: the first that is none, or the fraction -/
def frOf (x y : PyData) : PyData ⊕ (Int × Int) := match x, y with
  | .int t, .int b => if b < 1 then .inl (.int b) else .inr (nrm t b)
  | .int _, y => .inl y
  | x, _ => .inl x
def spNum : Sp := fun vs H Q _ => ∃ (v : V) (dd : PyData), vs = [v] ∧ Dt H dd v ∧ Q (.bl (isNum dd)) H
def spIsFr : Sp := fun vs H Q _ => ∃ (v : V) (dd : PyData), vs = [v] ∧ Dt H dd v ∧ Q (.bl (isFr dd)) H
/-- the ways out of a def that makes a fraction -/
def OutFr (C : Addr) (r : PyData ⊕ (Int × Int)) (H : Hp) (Q : VK) (E : XK) : Prop := match r with
  | .inl d => ∀ (dx : Addr) (w : V) (H' : Hp), Same H H' → H' dx = some (.xd [("number", w)]) → Dt (Nw H H') d w → H dx = none → E (.ref C) (some dx) H'
  | .inr p => ∀ (t : Addr) (H' : Hp), H t = none → Same H H' → H' t = some (.tup [.int p.1, .int p.2]) → Q (.ref t) H'
def spFrac (n : Nat) (C : Addr) : Sp := fun vs H Q E => ∃ (x y : V) (d1 d2 : PyData), vs = [x, y] ∧ Dt H d1 x ∧ Dt H d2 y ∧ cpB n d1 = true ∧ cpB n d2 = true ∧ (∀ b, d2 = .int b → b.natAbs < 2 ^ 8000) ∧ OutFr C (frOf d1 d2) H Q E
end Mw
namespace G02
open PySem PySem.Spec PyProof.Rows L2 Mw
section
variable {P : Program} {w : World} {K : PySem.W.Frag} {mg : Str → Option Value} {base : Heap}
theorem T_init (T : Txt K mg) {c f : Str} (h : (c, f) ∈ clI) : OexC K (He.ga K c) ∧ IsC K (He.ga K c) ∧ InC K (He.ga K c) (He.ma K (He.ga K c) "__init__") f := by
  have h0 : faInit K = true := T.more faInit (by simp [faX])
  have h1 := List.all_eq_true.mp h0 _ h
  obtain ⟨h1, h2⟩ := He.ba h1
  obtain ⟨h2, h3⟩ := He.ba h2
  exact ⟨oexB_ok h1, isB_ok h2, inB_ok h3⟩
theorem T_base (T : Txt K mg) : BaC K (He.ga K "MeanError") := baB_ok (T.more faBase (by simp [faX]))
theorem ok_BadNumber (T : Txt K mg) (n : Nat) : FnOk P w K mg base CX0 (n + 2) (He.fAd K ("BadNumber", some "__init__")) (fdOf K (He.fAd K ("BadNumber", some "__init__"))) ["self", "number"] (spI n (He.ga K "BadNumber") "number") := by
  have G_copied : FnOk P w K mg base CX0 (n + 1) (He.ga K "_copied") (fdOf K (He.ga K "_copied")) ["value"] (spC (n + 1)) := ok_copied T (n + 1)
  have CI := T_init T (c := "BadNumber") (f := "number") (by simp [clI])
  refine T.f_BadNumber_init.ok sc_BadNumber_init (fun vs H Q E h => ?_) (fun cdv A outer s H vs Q E hr h => ?_)
  · obtain ⟨_, _, _, rfl, _⟩ := h
    rfl
  · obtain ⟨a, v, dd, rfl, ha, hd, hc, q⟩ := h
    have hu := hu_of hr
    refine ⟨_, PSs.nox (pss_cons (ps_expr (pe_owninit rfl T.g_MeanError (T_base T) (pa_cons (pv 0) (pa_cons pe_str pa_nil))))
      (pss_one (ps_ost (f := "number") (pv 0) (pe_call G_copied hr rfl T.g_copied T.f_copied.kp (b_copied T) .nil pass0 (pa_cons (pv 1) pa_nil))))), ?_⟩
    refine ⟨_, rfl, a, _, [.str _], rfl, by simp, CI.1, ha, ?_⟩
    refine ⟨_, rfl, v, dd, rfl, hd, hc, fun v' H1 s1 d1 => ⟨_, rfl, a, _, rfl, CI.1, CI.2.2.no, .inl ⟨s1 _ _ ha, fun dx hdx ne => ?_⟩⟩⟩
    obtain ⟨r1, r2, r3, r0, r4⟩ := init_fin (f := "number") ha s1 d1 hdx ne rfl
    exact q dx v' _ r0 r1 r2 r3 r4
theorem ok_num (T : Txt K mg) : FnOk P w K mg base CX0 1 (He.ga K "is_number") (fdOf K (He.ga K "is_number")) ["thing"] spNum := by
  refine T.f_is_number.ok sc_is_number (fun vs H Q E h => ?_) (fun cdv A outer s H vs Q E hr h => ?_)
  · obtain ⟨_, _, rfl, _⟩ := h
    rfl
  · obtain ⟨v, dd, rfl, hd, q⟩ := h
    have hu := hu_of hr
    refine ⟨_, PSs.nox (pss_one (ps_ret (pe_and (pe_callB call_isi (by rfl) T.n_isinstance (by decide +kernel) (pa_cons (pv 0) (pa_cons (pe_bltn (v := .ty "int") (by rfl) T.n_int (by decide +kernel) rfl) pa_nil))) (pe_one (pe_not (pe_callB call_isi (by rfl) T.n_isinstance (by decide +kernel) (pa_cons (pv 0) (pa_cons (pe_bltn (v := .ty "bool") (by rfl) T.n_bool (by decide +kernel) rfl) pa_nil)))))))), ?_⟩
    cases dd with
    | none =>
      exact ⟨_, rfl, _, _, .type "NoneType", _, false, rfl, .ty "int", hd.ty, kitq (show kitB "NoneType" "int" = some false by decide +kernel), _, rfl, ite2 (fun z => absurd z (by decide)) (fun _ => q)⟩
    | bool b =>
      exact ⟨_, rfl, _, _, .type "bool", _, true, rfl, .ty "int", hd.ty, kitq (show kitB "bool" "int" = some true by decide +kernel), _, rfl, ite2 (fun _ => ⟨_, rfl, _, _, .type "bool", _, true, rfl, .ty "bool", hd.ty, kitq (show kitB "bool" "bool" = some true by decide +kernel), _, rfl, q⟩) (fun z => absurd rfl z)⟩
    | int i =>
      exact ⟨_, rfl, _, _, .type "int", _, true, rfl, .ty "int", hd.ty, kitq (show kitB "int" "int" = some true by decide +kernel), _, rfl, ite2 (fun _ => ⟨_, rfl, _, _, .type "int", _, false, rfl, .ty "bool", hd.ty, kitq (show kitB "int" "bool" = some false by decide +kernel), _, rfl, q⟩) (fun z => absurd rfl z)⟩
    | str x =>
      exact ⟨_, rfl, _, _, .type "str", _, false, rfl, .ty "int", hd.ty, kitq (show kitB "str" "int" = some false by decide +kernel), _, rfl, ite2 (fun z => absurd z (by decide)) (fun _ => q)⟩
    | list ds =>
      exact ⟨_, rfl, _, _, .type "list", _, false, rfl, .ty "int", hd.ty, kitq (show kitB "list" "int" = some false by decide +kernel), _, rfl, ite2 (fun z => absurd z (by decide)) (fun _ => q)⟩
    | tuple ds =>
      exact ⟨_, rfl, _, _, .type "tuple", _, false, rfl, .ty "int", hd.ty, kitq (show kitB "tuple" "int" = some false by decide +kernel), _, rfl, ite2 (fun z => absurd z (by decide)) (fun _ => q)⟩
    | dict ds =>
      exact ⟨_, rfl, _, _, .type "dict", _, false, rfl, .ty "int", hd.ty, kitq (show kitB "dict" "int" = some false by decide +kernel), _, rfl, ite2 (fun z => absurd z (by decide)) (fun _ => q)⟩
theorem ok_isfr (T : Txt K mg) : FnOk P w K mg base CX0 2 (He.ga K "is_fraction") (fdOf K (He.ga K "is_fraction")) ["thing"] spIsFr := by
  have G_is_number : FnOk P w K mg base CX0 1 (He.ga K "is_number") (fdOf K (He.ga K "is_number")) ["thing"] spNum := ok_num T
  refine T.f_is_fraction.ok sc_is_fraction (fun vs H Q E h => ?_) (fun cdv A outer s H vs Q E hr h => ?_)
  · obtain ⟨_, _, rfl, _⟩ := h
    rfl
  · obtain ⟨v, dd, rfl, hd, q⟩ := h
    have hu := hu_of hr
    refine ⟨_, PSs.nox (pss_cons (ps_if (PW.pt (pw_or (pt_not (pt_val (pe_callB call_isi (by rfl) T.n_isinstance (by decide +kernel) (pa_cons (pv 0) (pa_cons (pe_bltn (v := .ty "tuple") (by rfl) T.n_tuple (by decide +kernel) rfl) pa_nil))))) (pw_or1 (pt_cmpR op_ne (pe_callB call_len (by rfl) T.n_len (by decide +kernel) (pa_cons (pv 0) pa_nil)) pe_int (nomark _)))))
  (pss_one (ps_ret pe_bl))
  pss_nil)
  (pss_cons (ps_asg (pv 0) (pg_tup (by rfl) (pgs_cons (pg_name (i := 1) sc_is_fraction.nd rfl (.inl rfl)) (pgs_cons (pg_name (i := 2) sc_is_fraction.nd rfl (.inl rfl)) pgs_nil))))
  (pss_one (ps_ret (pe_and (pe_call G_is_number (hr.mono (by decide)) rfl T.g_is_number T.f_is_number.kp (b_is_number T) .nil pass0 (pa_cons (pv 1) pa_nil)) (pe_and (pe_call G_is_number (hr.mono (by decide)) rfl T.g_is_number T.f_is_number.kp (b_is_number T) .nil pass0 (pa_cons (pv 2) pa_nil)) (pe_and (pe_cmpR op_ge (pv 2) pe_int (nomark _)) (pe_one (pe_cmpR op_eq (pe_callBfun cr_gcd (by rfl) T.i_gcd (pa_cons (pv 1) (pa_cons (pv 2) pa_nil))) pe_int (nomark _)))))))))), ?_⟩
    cases dd with
    | tuple ds =>
      refine ⟨_, rfl, _, _, .type "tuple", _, true, rfl, .ty "tuple", hd.ty, kitq (show kitB "tuple" "tuple" = some true by decide +kernel), _, rfl, ite2 (fun z => absurd z (by decide)) (fun _ => ?_)⟩
      simp only [Dt] at hd
      obtain ⟨a, xs, rfl, ha, hx⟩ := hd
      have lx := DtL.length hx
      refine ⟨_, rfl, _, xs.length, rfl, .inr ⟨_, SqT.of ha, rfl⟩, rfl, _, rfl, ?_⟩
      match ds, lx, hx, q with
      | [], lx, _, q => exact ite2 (fun _ => q) (fun z => absurd (by rw [lx]; rfl) z)
      | [d0], lx, _, q =>
        rw [show isFr (.tuple [d0]) = false by cases d0 <;> rfl] at q
        exact ite2 (fun _ => q) (fun z => absurd (by rw [lx]; rfl) z)
      | d0 :: d1 :: d2 :: r, lx, _, q =>
        rw [show isFr (.tuple (d0 :: d1 :: d2 :: r)) = false by cases d0 <;> first | rfl | (cases d1 <;> rfl)] at q
        exact ite2 (fun _ => q) (fun z => absurd (by rw [lx]; simp; omega) z)
      | [d1, d2], lx, hx, q =>
        refine ite2 (fun z => absurd z (by rw [lx]; simp)) (fun _ => ?_)
        simp only [DtL] at hx
        obtain ⟨x, _, rfl, h1, y, _, rfl, h2, rfl⟩ := hx
        refine ⟨_, rfl, a, _, rfl, SqT.of ha, rfl, _, _, rfl, _, _, rfl, rfl, ?_⟩
        refine ⟨_, rfl, x, d1, rfl, h1, _, rfl, ?_⟩
        cases e1 : isNum d1 with
        | false =>
          refine ite2 (fun z => absurd z (by decide)) (fun _ => ?_)
          rw [show isFr (.tuple [d1, d2]) = false by cases d1 <;> first | rfl | cases e1] at q
          exact q
        | true =>
          refine ite2 (fun _ => ?_) (fun z => absurd rfl z)
          cases d1 with
          | int t =>
            refine ⟨_, rfl, y, d2, rfl, h2, _, rfl, ?_⟩
            cases e2 : isNum d2 with
            | false =>
              refine ite2 (fun z => absurd z (by decide)) (fun _ => ?_)
              rw [show isFr (.tuple [.int t, d2]) = false by cases d2 <;> first | rfl | cases e2] at q
              exact q
            | true =>
              refine ite2 (fun _ => ?_) (fun z => absurd rfl z)
              cases d2 with
              | int b =>
                simp only [Dt] at h1 h2
                subst h1 h2
                refine ⟨_, rfl, _, _, rfl, rfl, _, rfl, ?_⟩
                rw [show isFr (.tuple [.int t, .int b]) = (decide (1 ≤ b) && decide (Nat.gcd t.natAbs b.natAbs = 1)) from rfl] at q
                cases e3 : decide ((1 : Int) ≤ b) with
                | false =>
                  rw [e3] at q
                  exact ite2 (fun z => absurd z (by decide)) (fun _ => q)
                | true =>
                  rw [e3] at q
                  refine ite2 (fun _ => ?_) (fun z => absurd rfl z)
                  refine ⟨_, rfl, _, rfl, _, _, rfl, rfl, ?_⟩
                  have e4 : decide (V.int ((Nat.gcd t.natAbs b.natAbs : Nat) : Int) = V.int 1) = decide (Nat.gcd t.natAbs b.natAbs = 1) := by
                    apply decide_eq_decide.mpr
                    constructor
                    · intro z
                      have z2 := V.int.inj z
                      omega
                    · intro z
                      rw [z]
                      rfl
                  rw [e4]
                  exact q
              | _ => cases e2
          | _ => cases e1
    | none =>
      exact ⟨_, rfl, _, _, .type "NoneType", _, false, rfl, .ty "tuple", hd.ty, kitq (show kitB "NoneType" "tuple" = some false by decide +kernel), _, rfl, ite2 (fun _ => q) (fun z => absurd rfl z)⟩
    | bool b =>
      exact ⟨_, rfl, _, _, .type "bool", _, false, rfl, .ty "tuple", hd.ty, kitq (show kitB "bool" "tuple" = some false by decide +kernel), _, rfl, ite2 (fun _ => q) (fun z => absurd rfl z)⟩
    | int i =>
      exact ⟨_, rfl, _, _, .type "int", _, false, rfl, .ty "tuple", hd.ty, kitq (show kitB "int" "tuple" = some false by decide +kernel), _, rfl, ite2 (fun _ => q) (fun z => absurd rfl z)⟩
    | str x =>
      exact ⟨_, rfl, _, _, .type "str", _, false, rfl, .ty "tuple", hd.ty, kitq (show kitB "str" "tuple" = some false by decide +kernel), _, rfl, ite2 (fun _ => q) (fun z => absurd rfl z)⟩
    | list ds =>
      exact ⟨_, rfl, _, _, .type "list", _, false, rfl, .ty "tuple", hd.ty, kitq (show kitB "list" "tuple" = some false by decide +kernel), _, rfl, ite2 (fun _ => q) (fun z => absurd rfl z)⟩
    | dict ds =>
      exact ⟨_, rfl, _, _, .type "dict", _, false, rfl, .ty "tuple", hd.ty, kitq (show kitB "dict" "tuple" = some false by decide +kernel), _, rfl, ite2 (fun _ => q) (fun z => absurd rfl z)⟩
theorem ok_frac (T : Txt K mg) (n : Nat) : FnOk P w K mg base (CX P w) (n + 4) (He.ga K "fraction") (fdOf K (He.ga K "fraction")) ["top", "bottom"] (spFrac n (He.ga K "BadNumber")) := by
  have G_is_number : FnOk P w K mg base CX0 1 (He.ga K "is_number") (fdOf K (He.ga K "is_number")) ["thing"] spNum := ok_num T
  have CI := T_init T (c := "BadNumber") (f := "number") (by simp [clI])
  refine T.f_fraction.ok sc_fraction (fun vs H Q E h => ?_) (fun cdv A outer s H vs Q E hr h => ?_)
  · obtain ⟨_, _, _, _, rfl, _⟩ := h
    rfl
  · obtain ⟨x, y, d1, d2, rfl, h1, h2, c1, c2, hb, q⟩ := h
    have hu := hu_of hr
    refine ⟨_, (pss_cons (ps_if (pt_not (pt_val (pe_call G_is_number (hr.mono (by omega)) rfl T.g_is_number T.f_is_number.kp (b_is_number T) .nil pass0 (pa_cons (pv 0) pa_nil))))
  (pss_one (ps_raise rfl (takes_of rfl rfl rfl rfl) (pmk_oex CI.1 CI.2.2.ini CI.2.2.tI (ok_BadNumber T n) (hr.mono (by omega)) (b_BadNumber_init T) .nil pass0 rfl T.g_BadNumber (pa_cons (pv 0) pa_nil))))
  pss_nil)
  (pss_cons (ps_if (PW.pt (pw_or (pt_not (pt_val (pe_call G_is_number (hr.mono (by omega)) rfl T.g_is_number T.f_is_number.kp (b_is_number T) .nil pass0 (pa_cons (pv 1) pa_nil)))) (pw_or1 (pt_cmpR op_lt (pv 1) pe_int (nomark _)))))
  (pss_one (ps_raise rfl (takes_of rfl rfl rfl rfl) (pmk_oex CI.1 CI.2.2.ini CI.2.2.tI (ok_BadNumber T n) (hr.mono (by omega)) (b_BadNumber_init T) .nil pass0 rfl T.g_BadNumber (pa_cons (pv 1) pa_nil))))
  pss_nil)
  (pss_cons (ps_set (i := 2) sc_fraction.nd rfl (.inl rfl) (pe_callBfun cr_gcd (by rfl) T.i_gcd (pa_cons (pv 0) (pa_cons (pv 1) pa_nil))))
  (pss_one (ps_ret (pe_tup (pa_cons (pe_op op_fdivW (pv 0) (pv 2)) (pa_cons (pe_op op_fdivW (pv 1) (pv 2)) pa_nil)))))))), ?_⟩
    refine ⟨_, rfl, x, d1, rfl, h1, _, rfl, ?_⟩
    have raise : ∀ (v : V) (dd : PyData), Dt H dd v → cpB n dd = true → OutFr (He.ga K "BadNumber") (.inl dd) H Q E → [v].length ≤ 1000 ∧ ∀ a, H a = none → spI n (He.ga K "BadNumber") "number" (.ref a :: ([v] ++ [])) (upd H a (exo a (He.ga K "BadNumber") none))
        (fun v H2 => v = .non ∧ ∃ (d : Addr) (fs : List (Str × V)), H2 a = some (exo a (He.ga K "BadNumber") (some d)) ∧ H2 d = some (exd d fs) ∧ H d = none ∧ E (.ref (He.ga K "BadNumber")) (some d) (upd (del H2 a) d (.xd fs))) (fun _ _ _ => False) := by
      intro v dd hv hc qe
      exact ⟨by simp, fun a ha => mkx ha hv hc fun dx w H' s1 e1 d' n0 => qe dx w H' s1 e1 d' n0⟩
    cases e1 : isNum d1 with
    | false =>
      rw [show frOf d1 d2 = .inl d1 by cases d1 <;> first | rfl | cases e1] at q
      exact ite2 (fun _ => ⟨_, rfl, raise _ _ h1 c1 q⟩) (fun z => absurd rfl z)
    | true =>
      refine ite2 (fun z => absurd z (by decide)) (fun _ => ?_)
      cases d1 with
      | int t =>
        refine ⟨_, rfl, y, d2, rfl, h2, _, rfl, ?_⟩
        cases e2 : isNum d2 with
        | false =>
          rw [show frOf (.int t) d2 = .inl d2 by cases d2 <;> first | rfl | cases e2] at q
          exact ite2 (fun _ => ite2 (fun _ => ⟨_, rfl, raise _ _ h2 c2 q⟩) (fun z => absurd rfl z)) (fun z => absurd rfl z)
        | true =>
          refine ite2 (fun z => absurd z (by decide)) (fun _ => ?_)
          cases d2 with
          | int b =>
            have h2' := h2
            simp only [Dt] at h1 h2'
            subst h1 h2'
            refine ⟨_, rfl, _, _, rfl, rfl, _, rfl, ?_⟩
            by_cases lt : b < 1
            · rw [show frOf (.int t) (.int b) = .inl (.int b) from if_pos lt] at q
              exact ite2 (fun _ => ⟨_, rfl, raise _ _ h2 c2 q⟩) (fun z => absurd (decide_eq_true lt) z)
            · rw [show frOf (.int t) (.int b) = .inr (nrm t b) from if_neg lt] at q
              refine ite2 (fun z => absurd (of_decide_eq_true z) lt) (fun _ => ?_)
              have bb := hb b rfl
              have g0 : 0 < Nat.gcd t.natAbs b.natAbs := Nat.gcd_pos_of_pos_right _ (by omega)
              have g1 : Nat.gcd t.natAbs b.natAbs ≤ b.natAbs := Nat.gcd_le_right _ (by omega)
              have g2 : (((Nat.gcd t.natAbs b.natAbs : Nat) : Int)).natAbs < 2 ^ 8000 := by
                rw [Int.natAbs_natCast]
                exact Nat.lt_of_le_of_lt g1 bb
              have cd : ∀ i : Int, CDivW i ((Nat.gcd t.natAbs b.natAbs : Nat) : Int) := fun i => wide_div (by omega) g2 (by decide) (by decide)
              refine ⟨_, rfl, _, rfl, _, _, rfl, ?_⟩
              refine ⟨_, rfl, _, rfl, _, _, rfl, rfl, cd _, _, rfl, _, rfl, _, _, rfl, rfl, cd _, le_line (by simp), fun p hp => q p _ hp (same_upd hp) upd_same⟩
          | _ => cases e2
      | _ => cases e1
end
end G02
set_option Elab.async false
set_option linter.all false
set_option maxRecDepth 100000
set_option maxHeartbeats 4000000
namespace Mw
open PySem PySem.Spec PyProof.Rows L2
def itemsD : PyData → List PyData
  | .list ds => ds
  | .tuple ds => ds
  | _ => []
/-- the first item that is no fraction, or what is no list -/
def chkOf : PyData → Option PyData
  | .list ds => ds.find? fun d => !isFr d
  | .tuple ds => ds.find? fun d => !isFr d
  | d => some d
theorem find_first {α : Type} {p : α → Bool} {l : List α} {i : Nat} {x : α} (h : ∀ y ∈ l.take i, p y = false) (e : l[i]? = some x) (hx : p x = true) : l.find? p = some x := by
  have hs : l = l.take i ++ (x :: l.drop (i + 1)) := by
    have hi := (List.getElem?_eq_some_iff.mp e).1
    have e2 : l[i] = x := (List.getElem?_eq_some_iff.mp e).2
    rw [← e2, List.getElem_cons_drop, List.take_append_drop]
  rw [hs, List.find?_append, List.find?_eq_none.mpr (fun y hy => by rw [h y hy]; exact Bool.false_ne_true), List.find?_cons_of_pos hx]
  rfl
theorem find_none {α : Type} {p : α → Bool} {l : List α} (h : ∀ y ∈ l, p y = false) : l.find? p = none := List.find?_eq_none.mpr fun y hy => by rw [h y hy]; exact Bool.false_ne_true
def spChk (n : Nat) (C : Addr) : Sp := fun vs H Q E => ∃ (v : V) (dd : PyData), vs = [v] ∧ Dt H dd v ∧ cpB n dd = true ∧ (∀ d ∈ itemsD dd, cpB n d = true) ∧ (match chkOf dd with
  | some d => OutFr C (.inl d) H Q E
  | none => ∀ H', Same H H' → Q .non H')
theorem outfr_same {C : Addr} {d : PyData} {H H1 : Hp} {Q : VK} {E : XK} (s : Same H H1) (h : OutFr C (.inl d) H Q E) : OutFr C (.inl d) H1 Q E :=
  fun dx w H' s' e d' n => h dx w H' (s.trans s') e (Dt.same (Nw.sub fun b o e1 e2 => ⟨none_of s e1, e2⟩) _ _ d') (none_of s n)
theorem DtL.get {H : Hp} {ds : List PyData} {xs : List V} {i : Nat} {d : PyData} (h : DtL H ds xs) (e : ds[i]? = some d) : ∃ x, xs[i]? = some x ∧ Dt H d x := by
  have l := DtL.length h
  have hi := (List.getElem?_eq_some_iff.mp e).1
  obtain ⟨d2, e2, h2⟩ := DtL.at_ (i := i) (x := xs[i]'(by omega)) h (List.getElem?_eq_getElem (by omega))
  rw [e] at e2
  cases Option.some.inj e2
  exact ⟨_, List.getElem?_eq_getElem (by omega), h2⟩
end Mw
namespace G02
open PySem PySem.Spec PyProof.Rows L2 Mw
section
variable {P : Program} {w : World} {K : PySem.W.Frag} {mg : Str → Option Value} {base : Heap}
theorem ok_check (T : Txt K mg) (n : Nat) : FnOk P w K mg base (CX P w) (n + 4) (He.ga K "_check_fractions") (fdOf K (He.ga K "_check_fractions")) ["fractions"] (spChk n (He.ga K "BadNumber")) := by
  have G_is_fraction : FnOk P w K mg base CX0 2 (He.ga K "is_fraction") (fdOf K (He.ga K "is_fraction")) ["thing"] spIsFr := ok_isfr T
  have CI := T_init T (c := "BadNumber") (f := "number") (by simp [clI])
  refine T.f_check_fractions.ok sc_check_fractions (fun vs H Q E h => ?_) (fun cdv A outer s H vs Q E hr h => ?_)
  · obtain ⟨_, _, rfl, _⟩ := h
    rfl
  · obtain ⟨v, dd, rfl, hd, hc, hi, q⟩ := h
    have hu := hu_of hr
    refine ⟨_, (pss_cons (ps_if (pt_not (pt_val (pe_callB call_isiT (by rfl) T.n_isinstance (by decide +kernel) (pa_cons (pv 0) (pa_cons (pe_tup (pa_cons (pe_bltn (v := .ty "list") (by rfl) T.n_list (by decide +kernel) rfl) (pa_cons (pe_bltn (v := .ty "tuple") (by rfl) T.n_tuple (by decide +kernel) rfl) pa_nil))) pa_nil)))))
  (pss_one (ps_raise rfl (takes_of rfl rfl rfl rfl) (pmk_oex CI.1 CI.2.2.ini CI.2.2.tI (ok_BadNumber T n) (hr.mono (by omega)) (b_BadNumber_init T) .nil pass0 rfl T.g_BadNumber (pa_cons (pv 0) pa_nil))))
  pss_nil)
  (pss_one (ps_for (passes_of rfl) rfl (pi_or (pi_list (pv 0)) (pi_tup (pv 0))) (pg_name (i := 1) sc_check_fractions.nd rfl (.inl rfl))
  (pss_one (ps_if (pt_not (pt_val (pe_call G_is_fraction (hr.mono (by omega)) rfl T.g_is_fraction T.f_is_fraction.kp (b_is_fraction T) .nil pass0 (pa_cons (pv 1) pa_nil))))
  (pss_one (ps_raise rfl (takes_of rfl rfl rfl rfl) (pmk_oex CI.1 CI.2.2.ini CI.2.2.tI (ok_BadNumber T n) (hr.mono (by omega)) (b_BadNumber_init T) .nil pass0 rfl T.g_BadNumber (pa_cons (pv 1) pa_nil))))
  pss_nil))))), ?_⟩
    have raise : ∀ (H : Hp) (v : V) (dd : PyData), Dt H dd v → cpB n dd = true → OutFr (He.ga K "BadNumber") (.inl dd) H Q E → [v].length ≤ 1000 ∧ ∀ a, H a = none → spI n (He.ga K "BadNumber") "number" (.ref a :: ([v] ++ [])) (upd H a (exo a (He.ga K "BadNumber") none))
        (fun v H2 => v = .non ∧ ∃ (d : Addr) (fs : List (Str × V)), H2 a = some (exo a (He.ga K "BadNumber") (some d)) ∧ H2 d = some (exd d fs) ∧ H d = none ∧ E (.ref (He.ga K "BadNumber")) (some d) (upd (del H2 a) d (.xd fs))) (fun _ _ _ => False) := by
      intro H v dd hv hc qe
      exact ⟨by simp, fun a ha => mkx ha hv hc fun dx w H' s1 e1 d' n0 => qe dx w H' s1 e1 d' n0⟩
    refine ⟨_, rfl, le_line (by simp), fun tp htp => allocN htp fun H1 s1 l1 => ?_⟩
    have hd1 := Dt.same s1 _ _ hd
    have cls : Paired ClsV [.ty "list", .ty "tuple"] [.type "list", .type "tuple"] := .cons (.ty _) (.cons (.ty _) .nil)
    cases dd with
    | list ds =>
      refine ⟨v, tp, _, .type "list", _, true, rfl, l1, cls, hd1.ty, kitAny_cons (kitq (show kitB "list" "list" = some true by decide +kernel)) (fun z => nomatch z) (fun _ => rfl), true, rfl, ite2 (fun z => absurd z (by decide)) (fun _ => ?_)⟩
      simp only [Dt] at hd1
      obtain ⟨a, xs, rfl, ha, hx⟩ := hd1
      have lx := DtL.length hx
      refine .inl ⟨_, rfl, a, rfl, ⟨_, SqL.of ha⟩, ?_⟩
      refine for_it (walk_list (xs := xs)) (fun i σ H' => (∃ x1, σ = [some (.ref a), x1]) ∧ Same H1 H' ∧ ∀ d ∈ ds.take i, isFr d = true) ⟨⟨_, rfl⟩, Same.refl _, fun _ z => by simp at z⟩ (fun i σ H' _ z => SqL.of (z.2.1 _ _ ha)) ?_ ?_
      · rintro i x σ H2 H2' hlt ⟨⟨x1, rfl⟩, s2, al⟩ ⟨rfl, ex⟩
        obtain ⟨d, e1, e2⟩ := DtL.at_ hx ex
        refine ⟨_, rfl, x, d, rfl, Dt.same s2 _ _ e2, _, rfl, ?_⟩
        cases ef : isFr d with
        | false =>
          have ff : (ds.find? fun d => !isFr d) = some d := find_first (fun y hy => by rw [al y hy]; rfl) e1 (by rw [ef]; rfl)
          simp only [chkOf, ff] at q
          exact ite2 (fun _ => ⟨_, rfl, raise _ x d (Dt.same s2 _ _ e2) (hi d (List.mem_of_getElem? e1)) (outfr_same (s1.trans s2) q)⟩) (fun z => absurd rfl z)
        | true =>
          refine ite2 (fun z => absurd z (by decide)) (fun _ => ⟨⟨_, rfl⟩, s2, fun y hy => ?_⟩)
          rw [ls_take e1] at hy
          rcases List.mem_append.mp hy with hy | hy
          · exact al y hy
          · rw [List.mem_singleton.mp hy]
            exact ef
      · rintro σ H2 ⟨⟨x1, rfl⟩, s2, al⟩
        have ff : (ds.find? fun d => !isFr d) = none := find_none fun y hy => by
          rw [lx, List.take_length] at al
          rw [al y hy]
          rfl
        simp only [chkOf, ff] at q
        exact q H2 (s1.trans s2)
    | tuple ds =>
      refine ⟨v, tp, _, .type "tuple", _, true, rfl, l1, cls, hd1.ty, kitAny_cons (kitq (show kitB "tuple" "list" = some false by decide +kernel)) (fun _ => kitAny_cons (kitq (show kitB "tuple" "tuple" = some true by decide +kernel)) (fun z => nomatch z) (fun _ => rfl)) (fun z => nomatch z), true, rfl, ite2 (fun z => absurd z (by decide)) (fun _ => ?_)⟩
      simp only [Dt] at hd1
      obtain ⟨a, xs, rfl, ha, hx⟩ := hd1
      have lx := DtL.length hx
      refine .inr ⟨_, rfl, a, rfl, ⟨_, SqT.of ha⟩, ?_⟩
      refine for_it (walk_tup (xs := xs)) (fun i σ H' => (∃ x1, σ = [some (.ref a), x1]) ∧ Same H1 H' ∧ ∀ d ∈ ds.take i, isFr d = true) ⟨⟨_, rfl⟩, Same.refl _, fun _ z => by simp at z⟩ (fun i σ H' _ z => SqT.of (z.2.1 _ _ ha)) ?_ ?_
      · rintro i x σ H2 H2' hlt ⟨⟨x1, rfl⟩, s2, al⟩ ⟨rfl, ex⟩
        obtain ⟨d, e1, e2⟩ := DtL.at_ hx ex
        refine ⟨_, rfl, x, d, rfl, Dt.same s2 _ _ e2, _, rfl, ?_⟩
        cases ef : isFr d with
        | false =>
          have ff : (ds.find? fun d => !isFr d) = some d := find_first (fun y hy => by rw [al y hy]; rfl) e1 (by rw [ef]; rfl)
          simp only [chkOf, ff] at q
          exact ite2 (fun _ => ⟨_, rfl, raise _ x d (Dt.same s2 _ _ e2) (hi d (List.mem_of_getElem? e1)) (outfr_same (s1.trans s2) q)⟩) (fun z => absurd rfl z)
        | true =>
          refine ite2 (fun z => absurd z (by decide)) (fun _ => ⟨⟨_, rfl⟩, s2, fun y hy => ?_⟩)
          rw [ls_take e1] at hy
          rcases List.mem_append.mp hy with hy | hy
          · exact al y hy
          · rw [List.mem_singleton.mp hy]
            exact ef
      · rintro σ H2 ⟨⟨x1, rfl⟩, s2, al⟩
        have ff : (ds.find? fun d => !isFr d) = none := find_none fun y hy => by
          rw [lx, List.take_length] at al
          rw [al y hy]
          rfl
        simp only [chkOf, ff] at q
        exact q H2 (s1.trans s2)
    | none =>
      exact ⟨v, tp, _, .type "NoneType", _, false, rfl, l1, cls, hd1.ty, kitAny_cons (kitq (show kitB "NoneType" "list" = some false by decide +kernel)) (fun _ => kitAny_cons (kitq (show kitB "NoneType" "tuple" = some false by decide +kernel)) (fun _ => rfl) (fun z => nomatch z)) (fun z => nomatch z), false, rfl, ite2 (fun _ => ⟨_, rfl, raise _ v _ hd1 hc (outfr_same s1 q)⟩) (fun z => absurd rfl z)⟩
    | bool b =>
      exact ⟨v, tp, _, .type "bool", _, false, rfl, l1, cls, hd1.ty, kitAny_cons (kitq (show kitB "bool" "list" = some false by decide +kernel)) (fun _ => kitAny_cons (kitq (show kitB "bool" "tuple" = some false by decide +kernel)) (fun _ => rfl) (fun z => nomatch z)) (fun z => nomatch z), false, rfl, ite2 (fun _ => ⟨_, rfl, raise _ v _ hd1 hc (outfr_same s1 q)⟩) (fun z => absurd rfl z)⟩
    | int i =>
      exact ⟨v, tp, _, .type "int", _, false, rfl, l1, cls, hd1.ty, kitAny_cons (kitq (show kitB "int" "list" = some false by decide +kernel)) (fun _ => kitAny_cons (kitq (show kitB "int" "tuple" = some false by decide +kernel)) (fun _ => rfl) (fun z => nomatch z)) (fun z => nomatch z), false, rfl, ite2 (fun _ => ⟨_, rfl, raise _ v _ hd1 hc (outfr_same s1 q)⟩) (fun z => absurd rfl z)⟩
    | str x =>
      exact ⟨v, tp, _, .type "str", _, false, rfl, l1, cls, hd1.ty, kitAny_cons (kitq (show kitB "str" "list" = some false by decide +kernel)) (fun _ => kitAny_cons (kitq (show kitB "str" "tuple" = some false by decide +kernel)) (fun _ => rfl) (fun z => nomatch z)) (fun z => nomatch z), false, rfl, ite2 (fun _ => ⟨_, rfl, raise _ v _ hd1 hc (outfr_same s1 q)⟩) (fun z => absurd rfl z)⟩
    | dict kvs =>
      exact ⟨v, tp, _, .type "dict", _, false, rfl, l1, cls, hd1.ty, kitAny_cons (kitq (show kitB "dict" "list" = some false by decide +kernel)) (fun _ => kitAny_cons (kitq (show kitB "dict" "tuple" = some false by decide +kernel)) (fun _ => rfl) (fun z => nomatch z)) (fun z => nomatch z), false, rfl, ite2 (fun _ => ⟨_, rfl, raise _ v _ hd1 hc (outfr_same s1 q)⟩) (fun z => absurd rfl z)⟩
end
end G02
set_option Elab.async false
set_option linter.all false
set_option maxRecDepth 100000
set_option maxHeartbeats 4000000
namespace Mw
open PySem PySem.Spec PyProof.Rows L2
def plusF (p q : Int × Int) : Int × Int := nrm (p.1 * q.2 + q.1 * p.2) (p.2 * q.2)
def byF (p q : Int × Int) : Int × Int := nrm (p.1 * q.1) (p.2 * q.2)
def frP : PyData → Int × Int
  | .tuple [.int t, .int b] => (t, b)
  | _ => (0, 1)
theorem isFr_inv {d : PyData} (h : isFr d = true) : ∃ t b : Int, d = .tuple [.int t, .int b] ∧ 1 ≤ b ∧ Nat.gcd t.natAbs b.natAbs = 1 := by
  cases d with
  | tuple ds =>
    match ds, h with
    | [d1, d2], h =>
      cases d1 with
      | int t =>
        cases d2 with
        | int b =>
          have h' : (decide (1 ≤ b) && decide (Nat.gcd t.natAbs b.natAbs = 1)) = true := h
          obtain ⟨h1, h2⟩ := He.ba h'
          exact ⟨t, b, rfl, of_decide_eq_true h1, of_decide_eq_true h2⟩
        | _ => cases h
      | _ => cases h
    | [], h => cases h
    | [d0], h =>
      rw [show isFr (.tuple [d0]) = false by cases d0 <;> rfl] at h
      cases h
    | d0 :: d1 :: d2 :: r, h =>
      rw [show isFr (.tuple (d0 :: d1 :: d2 :: r)) = false by cases d0 <;> first | rfl | (cases d1 <;> rfl)] at h
      cases h
  | _ => cases h
/-- what added and multiplied make of a value -/
def sumOf (op : Int × Int → Int × Int → Int × Int) (f0 : Int × Int) (dd : PyData) : PyData ⊕ (Int × Int) := match chkOf dd with
  | some d => .inl d
  | none => .inr (((itemsD dd).map frP).foldl op f0)
/-- numbers of bounded size -/
def Bd (m : Nat) (p : Int × Int) : Prop := 1 ≤ p.2 ∧ p.1.natAbs < 2 ^ m ∧ p.2.natAbs < 2 ^ m
theorem nrm_bd {m : Nat} {t b : Int} (hb : 1 ≤ b) (h1 : t.natAbs < 2 ^ m) (h2 : b.natAbs < 2 ^ m) : Bd m (nrm t b) := by
  have g0 : 0 < Nat.gcd t.natAbs b.natAbs := Nat.gcd_pos_of_pos_right _ (by omega)
  obtain ⟨c, hc⟩ := Nat.gcd_dvd_right t.natAbs b.natAbs
  have eb : b = ((Nat.gcd t.natAbs b.natAbs : Nat) : Int) * (c : Int) := by
    have e : (b.natAbs : Int) = ((Nat.gcd t.natAbs b.natAbs * c : Nat) : Int) := congrArg Nat.cast hc
    rw [Int.natCast_mul] at e
    omega
  have c0 : 1 ≤ c := by
    cases c with
    | zero =>
      rw [Nat.mul_zero] at hc
      omega
    | succ c => omega
  refine ⟨?_, ?_, ?_⟩
  · show 1 ≤ b / ((Nat.gcd t.natAbs b.natAbs : Nat) : Int)
    rw [show b / ((Nat.gcd t.natAbs b.natAbs : Nat) : Int) = (c : Int) from Int.ediv_eq_of_eq_mul_right (by omega) eb]
    omega
  · exact Nat.lt_of_le_of_lt (Int.natAbs_ediv_le_natAbs t _) h1
  · exact Nat.lt_of_le_of_lt (Int.natAbs_ediv_le_natAbs b _) h2
theorem nat_lt_pow_add {a b x y : Nat} (hx : x < 2 ^ a) (hy : y < 2 ^ b) : x * y < 2 ^ (a + b) := by
  rw [Nat.pow_add]
  exact Nat.mul_lt_mul'' hx hy
theorem add_lt_pow {a x y : Nat} (hx : x < 2 ^ a) (hy : y < 2 ^ a) : x + y < 2 ^ (a + 1) := by
  rw [Nat.pow_succ]
  omega
theorem pow_le {a b : Nat} (h : a ≤ b) : 2 ^ a ≤ 2 ^ b := Nat.pow_le_pow_right (by decide) h
theorem plus_num {m k : Nat} {p q : Int × Int} (hp : Bd m p) (hq : Bd k q) : (p.1 * q.2 + q.1 * p.2).natAbs < 2 ^ (m + k + 1) ∧ (p.2 * q.2).natAbs < 2 ^ (m + k + 1) ∧ 1 ≤ p.2 * q.2 := by
  obtain ⟨p0, p1, p2⟩ := hp
  obtain ⟨q0, q1, q2⟩ := hq
  refine ⟨?_, ?_, ?_⟩
  · refine Nat.lt_of_le_of_lt (Int.natAbs_add_le _ _) (add_lt_pow ?_ ?_)
    · rw [Int.natAbs_mul]
      exact nat_lt_pow_add p1 q2
    · rw [Int.natAbs_mul, Nat.mul_comm]
      exact nat_lt_pow_add p2 q1
  · rw [Int.natAbs_mul]
    exact Nat.lt_of_lt_of_le (nat_lt_pow_add p2 q2) (pow_le (by omega))
  · exact Int.le_trans (by decide : (1 : Int) ≤ 1 * 1) (Int.mul_le_mul p0 q0 (by decide) (by omega))
theorem by_num {m k : Nat} {p q : Int × Int} (hp : Bd m p) (hq : Bd k q) : (p.1 * q.1).natAbs < 2 ^ (m + k + 1) ∧ (p.2 * q.2).natAbs < 2 ^ (m + k + 1) ∧ 1 ≤ p.2 * q.2 := by
  obtain ⟨_, h2, h3⟩ := plus_num hp hq
  refine ⟨?_, h2, h3⟩
  rw [Int.natAbs_mul]
  exact Nat.lt_of_lt_of_le (nat_lt_pow_add hp.2.1 hq.2.1) (pow_le (by omega))
theorem Bd.mono {m k : Nat} {p : Int × Int} (h : Bd m p) (l : m ≤ k) : Bd k p := ⟨h.1, Nat.lt_of_lt_of_le h.2.1 (pow_le l), Nat.lt_of_lt_of_le h.2.2 (pow_le l)⟩
theorem plus_bd {m k : Nat} {p q : Int × Int} (hp : Bd m p) (hq : Bd k q) : Bd (m + k + 1) (plusF p q) := by
  obtain ⟨h1, h2, h3⟩ := plus_num hp hq
  exact nrm_bd h3 h1 h2
theorem by_bd {m k : Nat} {p q : Int × Int} (hp : Bd m p) (hq : Bd k q) : Bd (m + k + 1) (byF p q) := by
  obtain ⟨h1, h2, h3⟩ := by_num hp hq
  exact nrm_bd h3 h1 h2
theorem fold_bd {op : Int × Int → Int × Int → Int × Int} (hop : ∀ {m : Nat} {p q : Int × Int}, Bd m p → Bd 233 q → Bd (m + 233 + 1) (op p q)) : ∀ (l : List (Int × Int)) (m : Nat) (p : Int × Int), Bd m p → (∀ q ∈ l, Bd 233 q) → Bd (m + 234 * l.length) (l.foldl op p)
  | [], m, p, h, _ => h
  | q :: l, m, p, h, a => by
    have z := fold_bd hop l (m + 233 + 1) (op p q) (hop h (a q List.mem_cons_self)) fun x hx => a x (List.mem_cons_of_mem _ hx)
    rw [List.length_cons, List.foldl_cons]
    exact Bd.mono z (by omega)
theorem frOf_int {t b : Int} (h : 1 ≤ b) : frOf (.int t) (.int b) = .inr (nrm t b) := if_neg (by omega)
/-- items within bounds -/
def ItB (dd : PyData) : Prop := (itemsD dd).length ≤ 8 ∧ ∀ d ∈ itemsD dd, isFr d = true → Bd 233 (frP d)
def spSum (n : Nat) (C : Addr) (op : Int × Int → Int × Int → Int × Int) (f0 : Int × Int) : Sp := fun vs H Q E => ∃ (v : V) (dd : PyData), vs = [v] ∧ Dt H dd v ∧ cpB n dd = true ∧ (∀ d ∈ itemsD dd, cpB n d = true) ∧ ItB dd ∧ OutFr C (sumOf op f0 dd) H Q E
theorem fold_snoc {op : Int × Int → Int × Int → Int × Int} {f0 : Int × Int} {ds : List PyData} {i : Nat} {d : PyData} (e : ds[i]? = some d) : ((ds.take (i + 1)).map frP).foldl op f0 = op (((ds.take i).map frP).foldl op f0) (frP d) := by
  rw [ls_take e, List.map_append, List.foldl_append]
  rfl
end Mw
namespace G02
open PySem PySem.Spec PyProof.Rows L2 Mw
section
variable {P : Program} {w : World} {K : PySem.W.Frag} {mg : Str → Option Value} {base : Heap}
theorem b_frac2 (T : Txt K mg) : Binds K (fdOf K (He.fAd K ("fraction", none))) ["top", "bottom"] [] := by
  obtain ⟨ds, h1, h2⟩ := T.f_fraction.binds1 (ps := ["top", "bottom"]) 2 1 (by simp) (by rfl) fun _ _ _ _ _ _ _ us its h1 h2 => match us, its, h1, h2 with | [_, _], [_], _, _ => ⟨_, rfl, rfl⟩
  cases h1
  exact h2
theorem b_frac1 (T : Txt K mg) : ∃ ds, Vals [V.int 1] ds ∧ Binds K (fdOf K (He.fAd K ("fraction", none))) ["top", "bottom"] ds :=
  T.f_fraction.binds1 (ps := ["top", "bottom"]) 1 0 (by simp) (by rfl) fun _ _ _ _ _ _ _ us its h1 h2 => match us, its, h1, h2 with | [_], [_], _, _ => ⟨_, rfl, rfl⟩

theorem ok_added (T : Txt K mg) (n : Nat) : FnOk P w K mg base (CX P w) (n + 5) (He.ga K "added") (fdOf K (He.ga K "added")) ["fractions"] (spSum n (He.ga K "BadNumber") plusF (0, 1)) := by
  have G_check : FnOk P w K mg base (CX P w) (n + 4) (He.ga K "_check_fractions") (fdOf K (He.ga K "_check_fractions")) ["fractions"] (spChk n (He.ga K "BadNumber")) := ok_check T n
  have G_fraction : FnOk P w K mg base (CX P w) (n + 4) (He.ga K "fraction") (fdOf K (He.ga K "fraction")) ["top", "bottom"] (spFrac n (He.ga K "BadNumber")) := ok_frac T n
  have bF := b_frac2 T
  refine T.f_added.ok sc_added (fun vs H Q E h => ?_) (fun cdv A outer s H vs Q E hr h => ?_)
  · obtain ⟨_, _, rfl, _⟩ := h
    rfl
  · obtain ⟨v, dd, rfl, hd, hc, hi, hb, q⟩ := h
    have hu := hu_of hr
    refine ⟨_, (pss_cons (ps_expr (pe_call G_check (hr.mono (by omega)) rfl T.g_check_fractions T.f_check_fractions.kp (b_check_fractions T) .nil (passes_call (takes_of rfl rfl rfl rfl) (fun _ _ _ _ h => h)) (pa_cons (pv 0) pa_nil)))
  (pss_cons (ps_set (i := 1) sc_added.nd rfl (.inl rfl) (pe_tup (pa_cons pe_int (pa_cons pe_int pa_nil))))
  (pss_cons (ps_for (passes_of rfl) rfl (pi_or (pi_list (pv 0)) (pi_tup (pv 0))) (pg_tup (by rfl) (pgs_cons (pg_name (i := 2) sc_added.nd rfl (.inl rfl)) (pgs_cons (pg_name (i := 3) sc_added.nd rfl (.inl rfl)) pgs_nil)))
  (pss_one (ps_set (i := 1) sc_added.nd rfl (.inl rfl) (pe_call G_fraction (hr.mono (by omega)) rfl T.g_fraction T.f_fraction.kp bF .nil (passes_call (takes_of rfl rfl rfl rfl) (fun _ _ _ _ h => h)) (pa_cons (pe_op op_add (pe_op op_mulW (pe_ix ix_tup (pv 1) pe_int (fun _ _ => rfl)) (pv 3)) (pe_op op_mulW (pv 2) (pe_ix ix_tup (pv 1) pe_int (fun _ _ => rfl)))) (pa_cons (pe_op op_mulW (pe_ix ix_tup (pv 1) pe_int (fun _ _ => rfl)) (pv 3)) pa_nil))))))
  (pss_one (ps_ret (pv 1)))))), ?_⟩
    refine ⟨_, rfl, v, dd, rfl, hd, hc, hi, ?_⟩
    cases hk : chkOf dd with
    | some d =>
      simp only [sumOf, hk] at q
      exact q
    | none =>
      intro H0 s0
      refine ⟨le_line (by simp), fun p0 hp0 => allocN hp0 fun H1 s1 lp => ?_⟩
      have sx := s0.trans s1
      have al : ∀ d ∈ itemsD dd, isFr d = true := by
        intro d hd2
        cases dd with
        | list ds =>
          have z := List.find?_eq_none.mp hk d hd2
          simpa using z
        | tuple ds =>
          have z := List.find?_eq_none.mp hk d hd2
          simpa using z
        | _ => cases hk
      cases dd with
      | list ds =>
        simp only [Dt] at hd
        obtain ⟨a, xs, rfl, ha, hx⟩ := hd
        have lx := DtL.length hx
        have l20 : ds.length ≤ 8 := hb.1
        refine .inl ⟨_, rfl, a, rfl, ⟨_, SqL.of (sx _ _ ha)⟩, ?_⟩
        refine for_it (walk_list (xs := xs)) (fun i σ H' => (∃ pt x2 x3, σ = [some (.ref a), some (.ref pt), x2, x3] ∧ H pt = none ∧ H' pt = some (.tup [.int (((ds.take i).map frP).foldl plusF (0, 1)).1, .int (((ds.take i).map frP).foldl plusF (0, 1)).2])) ∧ Bd (234 * i + 1) (((ds.take i).map frP).foldl plusF (0, 1)) ∧ Same H H') ⟨⟨_, _, _, rfl, none_of s0 hp0, lp⟩, (show Bd 1 (0, 1) from ⟨by decide, by decide, by decide⟩), sx⟩ (fun i σ H' _ z => SqL.of (z.2.2 _ _ ha)) ?_ ?_
        · rintro i x σ H2 H2' hlt ⟨⟨pt, x2, x3, rfl, hn, hp⟩, bp, s2⟩ ⟨rfl, ex⟩
          obtain ⟨d, e1, e2⟩ := DtL.at_ hx ex
          have fd := al d (List.mem_of_getElem? e1)
          have bd := hb.2 d (List.mem_of_getElem? e1) fd
          obtain ⟨t, b, rfl, b1, _⟩ := isFr_inv fd
          generalize hpp : ((ds.take i).map frP).foldl plusF (0, 1) = pp at hp bp
          have bq : Bd 233 (t, b) := bd
          simp only [Dt] at e2
          obtain ⟨ta, ys, rfl, hta, hy⟩ := e2
          simp only [DtL, Dt] at hy
          obtain ⟨_, _, rfl, rfl, _, _, rfl, rfl, rfl⟩ := hy
          obtain ⟨n1, n2, n3⟩ := plus_num bp bq
          have m1 : CMulW pp.1 b := wide_mul bp.2.1 bq.2.2 (by omega) (by omega) (by omega)
          have m2 : CMulW t pp.2 := wide_mul bq.2.1 bp.2.2 (by omega) (by omega) (by omega)
          have m3 : CMulW pp.2 b := wide_mul bp.2.2 bq.2.2 (by omega) (by omega) (by omega)
          refine ⟨ta, _, rfl, SqT.of (s2 _ _ hta), rfl, _, _, rfl, _, _, rfl, rfl, ?_⟩
          refine ⟨_, rfl, _, _, (0 : Nat), _, rfl, rfl, SqT.of hp, at_of rfl rfl, _, rfl, _, _, rfl, rfl, m1, _, rfl, _, rfl, _, _, (1 : Nat), _, rfl, rfl, SqT.of hp, at_of rfl rfl, _, _, rfl, rfl, m2, _, _, rfl, rfl, _, rfl, _, _, (1 : Nat), _, rfl, rfl, SqT.of hp, at_of rfl rfl, _, rfl, _, _, rfl, rfl, m3, _, _, .int (pp.1 * b + t * pp.2), .int (pp.2 * b), rfl, by simp only [Dt], by simp only [Dt], cpB_up rfl, cpB_up rfl, fun z hz => ?_, ?_⟩
          · cases hz
            exact Nat.lt_of_lt_of_le n2 (pow_le (by omega))
          · rw [frOf_int n3]
            intro pt' H3 n3' s3 e3
            refine ⟨⟨pt', _, _, rfl, none_of s2 n3', ?_⟩, ?_, s2.trans s3⟩
            · rw [fold_snoc (op := plusF) (f0 := (0, 1)) e1, hpp]
              exact e3
            · rw [fold_snoc (op := plusF) (f0 := (0, 1)) e1, hpp]
              exact (nrm_bd n3 n1 n2).mono (by omega)
        · rintro σ H2 ⟨⟨pt, x2, x3, rfl, hn, hp⟩, bp, s2⟩
          rw [lx, List.take_length] at hp
          have ff : chkOf (.list ds) = none := find_none fun y hy => by rw [al y hy]; rfl
          simp only [sumOf, ff] at q
          exact ⟨_, rfl, q pt H2 hn s2 hp⟩
      | tuple ds =>
        simp only [Dt] at hd
        obtain ⟨a, xs, rfl, ha, hx⟩ := hd
        have lx := DtL.length hx
        have l20 : ds.length ≤ 8 := hb.1
        refine .inr ⟨_, rfl, a, rfl, ⟨_, SqT.of (sx _ _ ha)⟩, ?_⟩
        refine for_it (walk_tup (xs := xs)) (fun i σ H' => (∃ pt x2 x3, σ = [some (.ref a), some (.ref pt), x2, x3] ∧ H pt = none ∧ H' pt = some (.tup [.int (((ds.take i).map frP).foldl plusF (0, 1)).1, .int (((ds.take i).map frP).foldl plusF (0, 1)).2])) ∧ Bd (234 * i + 1) (((ds.take i).map frP).foldl plusF (0, 1)) ∧ Same H H') ⟨⟨_, _, _, rfl, none_of s0 hp0, lp⟩, (show Bd 1 (0, 1) from ⟨by decide, by decide, by decide⟩), sx⟩ (fun i σ H' _ z => SqT.of (z.2.2 _ _ ha)) ?_ ?_
        · rintro i x σ H2 H2' hlt ⟨⟨pt, x2, x3, rfl, hn, hp⟩, bp, s2⟩ ⟨rfl, ex⟩
          obtain ⟨d, e1, e2⟩ := DtL.at_ hx ex
          have fd := al d (List.mem_of_getElem? e1)
          have bd := hb.2 d (List.mem_of_getElem? e1) fd
          obtain ⟨t, b, rfl, b1, _⟩ := isFr_inv fd
          generalize hpp : ((ds.take i).map frP).foldl plusF (0, 1) = pp at hp bp
          have bq : Bd 233 (t, b) := bd
          simp only [Dt] at e2
          obtain ⟨ta, ys, rfl, hta, hy⟩ := e2
          simp only [DtL, Dt] at hy
          obtain ⟨_, _, rfl, rfl, _, _, rfl, rfl, rfl⟩ := hy
          obtain ⟨n1, n2, n3⟩ := plus_num bp bq
          have m1 : CMulW pp.1 b := wide_mul bp.2.1 bq.2.2 (by omega) (by omega) (by omega)
          have m2 : CMulW t pp.2 := wide_mul bq.2.1 bp.2.2 (by omega) (by omega) (by omega)
          have m3 : CMulW pp.2 b := wide_mul bp.2.2 bq.2.2 (by omega) (by omega) (by omega)
          refine ⟨ta, _, rfl, SqT.of (s2 _ _ hta), rfl, _, _, rfl, _, _, rfl, rfl, ?_⟩
          refine ⟨_, rfl, _, _, (0 : Nat), _, rfl, rfl, SqT.of hp, at_of rfl rfl, _, rfl, _, _, rfl, rfl, m1, _, rfl, _, rfl, _, _, (1 : Nat), _, rfl, rfl, SqT.of hp, at_of rfl rfl, _, _, rfl, rfl, m2, _, _, rfl, rfl, _, rfl, _, _, (1 : Nat), _, rfl, rfl, SqT.of hp, at_of rfl rfl, _, rfl, _, _, rfl, rfl, m3, _, _, .int (pp.1 * b + t * pp.2), .int (pp.2 * b), rfl, by simp only [Dt], by simp only [Dt], cpB_up rfl, cpB_up rfl, fun z hz => ?_, ?_⟩
          · cases hz
            exact Nat.lt_of_lt_of_le n2 (pow_le (by omega))
          · rw [frOf_int n3]
            intro pt' H3 n3' s3 e3
            refine ⟨⟨pt', _, _, rfl, none_of s2 n3', ?_⟩, ?_, s2.trans s3⟩
            · rw [fold_snoc (op := plusF) (f0 := (0, 1)) e1, hpp]
              exact e3
            · rw [fold_snoc (op := plusF) (f0 := (0, 1)) e1, hpp]
              exact (nrm_bd n3 n1 n2).mono (by omega)
        · rintro σ H2 ⟨⟨pt, x2, x3, rfl, hn, hp⟩, bp, s2⟩
          rw [lx, List.take_length] at hp
          have ff : chkOf (.tuple ds) = none := find_none fun y hy => by rw [al y hy]; rfl
          simp only [sumOf, ff] at q
          exact ⟨_, rfl, q pt H2 hn s2 hp⟩
      | _ => cases hk

theorem ok_multiplied (T : Txt K mg) (n : Nat) : FnOk P w K mg base (CX P w) (n + 5) (He.ga K "multiplied") (fdOf K (He.ga K "multiplied")) ["fractions"] (spSum n (He.ga K "BadNumber") byF (1, 1)) := by
  have G_check : FnOk P w K mg base (CX P w) (n + 4) (He.ga K "_check_fractions") (fdOf K (He.ga K "_check_fractions")) ["fractions"] (spChk n (He.ga K "BadNumber")) := ok_check T n
  have G_fraction : FnOk P w K mg base (CX P w) (n + 4) (He.ga K "fraction") (fdOf K (He.ga K "fraction")) ["top", "bottom"] (spFrac n (He.ga K "BadNumber")) := ok_frac T n
  have bF := b_frac2 T
  refine T.f_multiplied.ok sc_multiplied (fun vs H Q E h => ?_) (fun cdv A outer s H vs Q E hr h => ?_)
  · obtain ⟨_, _, rfl, _⟩ := h
    rfl
  · obtain ⟨v, dd, rfl, hd, hc, hi, hb, q⟩ := h
    have hu := hu_of hr
    refine ⟨_, (pss_cons (ps_expr (pe_call G_check (hr.mono (by omega)) rfl T.g_check_fractions T.f_check_fractions.kp (b_check_fractions T) .nil (passes_call (takes_of rfl rfl rfl rfl) (fun _ _ _ _ h => h)) (pa_cons (pv 0) pa_nil)))
  (pss_cons (ps_set (i := 1) sc_multiplied.nd rfl (.inl rfl) (pe_tup (pa_cons pe_int (pa_cons pe_int pa_nil))))
  (pss_cons (ps_for (passes_of rfl) rfl (pi_or (pi_list (pv 0)) (pi_tup (pv 0))) (pg_tup (by rfl) (pgs_cons (pg_name (i := 2) sc_multiplied.nd rfl (.inl rfl)) (pgs_cons (pg_name (i := 3) sc_multiplied.nd rfl (.inl rfl)) pgs_nil)))
  (pss_one (ps_set (i := 1) sc_multiplied.nd rfl (.inl rfl) (pe_call G_fraction (hr.mono (by omega)) rfl T.g_fraction T.f_fraction.kp bF .nil (passes_call (takes_of rfl rfl rfl rfl) (fun _ _ _ _ h => h)) (pa_cons (pe_op op_mulW (pe_ix ix_tup (pv 1) pe_int (fun _ _ => rfl)) (pv 2)) (pa_cons (pe_op op_mulW (pe_ix ix_tup (pv 1) pe_int (fun _ _ => rfl)) (pv 3)) pa_nil))))))
  (pss_one (ps_ret (pv 1)))))), ?_⟩
    refine ⟨_, rfl, v, dd, rfl, hd, hc, hi, ?_⟩
    cases hk : chkOf dd with
    | some d =>
      simp only [sumOf, hk] at q
      exact q
    | none =>
      intro H0 s0
      refine ⟨le_line (by simp), fun p0 hp0 => allocN hp0 fun H1 s1 lp => ?_⟩
      have sx := s0.trans s1
      have al : ∀ d ∈ itemsD dd, isFr d = true := by
        intro d hd2
        cases dd with
        | list ds =>
          have z := List.find?_eq_none.mp hk d hd2
          simpa using z
        | tuple ds =>
          have z := List.find?_eq_none.mp hk d hd2
          simpa using z
        | _ => cases hk
      cases dd with
      | list ds =>
        simp only [Dt] at hd
        obtain ⟨a, xs, rfl, ha, hx⟩ := hd
        have lx := DtL.length hx
        have l20 : ds.length ≤ 8 := hb.1
        refine .inl ⟨_, rfl, a, rfl, ⟨_, SqL.of (sx _ _ ha)⟩, ?_⟩
        refine for_it (walk_list (xs := xs)) (fun i σ H' => (∃ pt x2 x3, σ = [some (.ref a), some (.ref pt), x2, x3] ∧ H pt = none ∧ H' pt = some (.tup [.int (((ds.take i).map frP).foldl byF (1, 1)).1, .int (((ds.take i).map frP).foldl byF (1, 1)).2])) ∧ Bd (234 * i + 1) (((ds.take i).map frP).foldl byF (1, 1)) ∧ Same H H') ⟨⟨_, _, _, rfl, none_of s0 hp0, lp⟩, (show Bd 1 (1, 1) from ⟨by decide, by decide, by decide⟩), sx⟩ (fun i σ H' _ z => SqL.of (z.2.2 _ _ ha)) ?_ ?_
        · rintro i x σ H2 H2' hlt ⟨⟨pt, x2, x3, rfl, hn, hp⟩, bp, s2⟩ ⟨rfl, ex⟩
          obtain ⟨d, e1, e2⟩ := DtL.at_ hx ex
          have fd := al d (List.mem_of_getElem? e1)
          have bd := hb.2 d (List.mem_of_getElem? e1) fd
          obtain ⟨t, b, rfl, b1, _⟩ := isFr_inv fd
          generalize hpp : ((ds.take i).map frP).foldl byF (1, 1) = pp at hp bp
          have bq : Bd 233 (t, b) := bd
          simp only [Dt] at e2
          obtain ⟨ta, ys, rfl, hta, hy⟩ := e2
          simp only [DtL, Dt] at hy
          obtain ⟨_, _, rfl, rfl, _, _, rfl, rfl, rfl⟩ := hy
          obtain ⟨n1, n2, n3⟩ := by_num bp bq
          have m1 : CMulW pp.1 t := wide_mul bp.2.1 bq.2.1 (by omega) (by omega) (by omega)
          have m3 : CMulW pp.2 b := wide_mul bp.2.2 bq.2.2 (by omega) (by omega) (by omega)
          refine ⟨ta, _, rfl, SqT.of (s2 _ _ hta), rfl, _, _, rfl, _, _, rfl, rfl, ?_⟩
          refine ⟨_, rfl, _, _, (0 : Nat), _, rfl, rfl, SqT.of hp, at_of rfl rfl, _, rfl, _, _, rfl, rfl, m1, _, rfl, _, _, (1 : Nat), _, rfl, rfl, SqT.of hp, at_of rfl rfl, _, rfl, _, _, rfl, rfl, m3, _, _, .int (pp.1 * t), .int (pp.2 * b), rfl, by simp only [Dt], by simp only [Dt], cpB_up rfl, cpB_up rfl, fun z hz => ?_, ?_⟩
          · cases hz
            exact Nat.lt_of_lt_of_le n2 (pow_le (by omega))
          · rw [frOf_int n3]
            intro pt' H3 n3' s3 e3
            refine ⟨⟨pt', _, _, rfl, none_of s2 n3', ?_⟩, ?_, s2.trans s3⟩
            · rw [fold_snoc (op := byF) (f0 := (1, 1)) e1, hpp]
              exact e3
            · rw [fold_snoc (op := byF) (f0 := (1, 1)) e1, hpp]
              exact (nrm_bd n3 n1 n2).mono (by omega)
        · rintro σ H2 ⟨⟨pt, x2, x3, rfl, hn, hp⟩, bp, s2⟩
          rw [lx, List.take_length] at hp
          have ff : chkOf (.list ds) = none := find_none fun y hy => by rw [al y hy]; rfl
          simp only [sumOf, ff] at q
          exact ⟨_, rfl, q pt H2 hn s2 hp⟩
      | tuple ds =>
        simp only [Dt] at hd
        obtain ⟨a, xs, rfl, ha, hx⟩ := hd
        have lx := DtL.length hx
        have l20 : ds.length ≤ 8 := hb.1
        refine .inr ⟨_, rfl, a, rfl, ⟨_, SqT.of (sx _ _ ha)⟩, ?_⟩
        refine for_it (walk_tup (xs := xs)) (fun i σ H' => (∃ pt x2 x3, σ = [some (.ref a), some (.ref pt), x2, x3] ∧ H pt = none ∧ H' pt = some (.tup [.int (((ds.take i).map frP).foldl byF (1, 1)).1, .int (((ds.take i).map frP).foldl byF (1, 1)).2])) ∧ Bd (234 * i + 1) (((ds.take i).map frP).foldl byF (1, 1)) ∧ Same H H') ⟨⟨_, _, _, rfl, none_of s0 hp0, lp⟩, (show Bd 1 (1, 1) from ⟨by decide, by decide, by decide⟩), sx⟩ (fun i σ H' _ z => SqT.of (z.2.2 _ _ ha)) ?_ ?_
        · rintro i x σ H2 H2' hlt ⟨⟨pt, x2, x3, rfl, hn, hp⟩, bp, s2⟩ ⟨rfl, ex⟩
          obtain ⟨d, e1, e2⟩ := DtL.at_ hx ex
          have fd := al d (List.mem_of_getElem? e1)
          have bd := hb.2 d (List.mem_of_getElem? e1) fd
          obtain ⟨t, b, rfl, b1, _⟩ := isFr_inv fd
          generalize hpp : ((ds.take i).map frP).foldl byF (1, 1) = pp at hp bp
          have bq : Bd 233 (t, b) := bd
          simp only [Dt] at e2
          obtain ⟨ta, ys, rfl, hta, hy⟩ := e2
          simp only [DtL, Dt] at hy
          obtain ⟨_, _, rfl, rfl, _, _, rfl, rfl, rfl⟩ := hy
          obtain ⟨n1, n2, n3⟩ := by_num bp bq
          have m1 : CMulW pp.1 t := wide_mul bp.2.1 bq.2.1 (by omega) (by omega) (by omega)
          have m3 : CMulW pp.2 b := wide_mul bp.2.2 bq.2.2 (by omega) (by omega) (by omega)
          refine ⟨ta, _, rfl, SqT.of (s2 _ _ hta), rfl, _, _, rfl, _, _, rfl, rfl, ?_⟩
          refine ⟨_, rfl, _, _, (0 : Nat), _, rfl, rfl, SqT.of hp, at_of rfl rfl, _, rfl, _, _, rfl, rfl, m1, _, rfl, _, _, (1 : Nat), _, rfl, rfl, SqT.of hp, at_of rfl rfl, _, rfl, _, _, rfl, rfl, m3, _, _, .int (pp.1 * t), .int (pp.2 * b), rfl, by simp only [Dt], by simp only [Dt], cpB_up rfl, cpB_up rfl, fun z hz => ?_, ?_⟩
          · cases hz
            exact Nat.lt_of_lt_of_le n2 (pow_le (by omega))
          · rw [frOf_int n3]
            intro pt' H3 n3' s3 e3
            refine ⟨⟨pt', _, _, rfl, none_of s2 n3', ?_⟩, ?_, s2.trans s3⟩
            · rw [fold_snoc (op := byF) (f0 := (1, 1)) e1, hpp]
              exact e3
            · rw [fold_snoc (op := byF) (f0 := (1, 1)) e1, hpp]
              exact (nrm_bd n3 n1 n2).mono (by omega)
        · rintro σ H2 ⟨⟨pt, x2, x3, rfl, hn, hp⟩, bp, s2⟩
          rw [lx, List.take_length] at hp
          have ff : chkOf (.tuple ds) = none := find_none fun y hy => by rw [al y hy]; rfl
          simp only [sumOf, ff] at q
          exact ⟨_, rfl, q pt H2 hn s2 hp⟩
      | _ => cases hk

end
end G02
set_option Elab.async false
set_option linter.all false
set_option maxRecDepth 100000
set_option maxHeartbeats 4000000
namespace Mw
open PySem PySem.Spec PyProof.Rows L2
def PairOut (p : Int × Int) (H : Hp) (Q : VK) : Prop := ∀ (t : Addr) (H' : Hp), Same H H' → H' t = some (.tup [.int p.1, .int p.2]) → Q (.ref t) H'
def spDiv : Sp := fun vs H Q _ => ∃ (t b : Int), vs = [.int t, .int b] ∧ 1 ≤ b ∧ b.natAbs < 2 ^ 8000 ∧ PairOut (nrm t b) H Q
def spTwo (op : Int × Int → Int × Int → Int × Int) : Sp := fun vs H Q _ => ∃ (a b : Addr) (p q : Int × Int), vs = [.ref a, .ref b] ∧ H a = some (.tup [.int p.1, .int p.2]) ∧ H b = some (.tup [.int q.1, .int q.2]) ∧ Bd 1900 p ∧ Bd 233 q ∧ PairOut (op p q) H Q
def spNumb : Sp := fun vs H Q _ => ∃ (d W C : Addr) (n : Nat), vs = [.ref d] ∧ Drw H d W C (n + 4) ∧ ∀ (i : Int) (H' : Hp), i.natAbs < 10 ^ 70 → Drw H' d W C n → Sd d W H H' → Q (.int i) H'
theorem pick_mem {α : Type} {l : List α} {i : Nat} {x : α} (h : l[i]? = some x) : x ∈ l := List.mem_of_getElem? h
end Mw
namespace G02
open PySem PySem.Spec PyProof.Rows L2 Mw
section
variable {P : Program} {w : World} {K : PySem.W.Frag} {mg : Str → Option Value} {base : Heap}
theorem ok_divided (T : Txt K mg) : FnOk P w K mg base CX0 1 (He.ga K "_law_divided") (fdOf K (He.ga K "_law_divided")) ["top_here", "bottom_here"] spDiv := by
  refine T.f_law_divided.ok sc_law_divided (fun vs H Q E h => ?_) (fun cdv A outer s H vs Q E hr h => ?_)
  · obtain ⟨_, _, rfl, _⟩ := h
    rfl
  · obtain ⟨t, b, rfl, b1, bz, q⟩ := h
    have hu := hu_of hr
    refine ⟨_, PSs.nox (pss_cons (ps_par (i := 2) (j := 3) rfl sc_law_divided.nd rfl rfl (by decide) rfl rfl (pa_cons (pe_callB call_abs (by rfl) T.n_abs (by decide +kernel) (pa_cons (pe_callTy call_int1 (by rfl) T.n_int (by decide +kernel) (pa_cons (pv 0) pa_nil)) pa_nil)) (pa_cons (pe_callTy call_int1 (by rfl) T.n_int (by decide +kernel) (pa_cons (pv 1) pa_nil)) pa_nil)) (by rfl))
  (pss_cons (ps_while PassesOwn.never (pt_cmpR op_gt (pv 3) pe_int (nomark _))
  (pss_one (ps_par (i := 2) (j := 3) rfl sc_law_divided.nd rfl rfl (by decide) rfl rfl (pa_cons (pv 3) (pa_cons (pe_op op_mod (pe_callTy call_int1 (by rfl) T.n_int (by decide +kernel) (pa_cons (pv 2) pa_nil)) (pv 3)) pa_nil)) (by rfl))))
  (pss_one (ps_ret (pe_tup (pa_cons (pe_op op_fdivW (pv 0) (pv 2)) (pa_cons (pe_op op_fdivW (pv 1) (pv 2)) pa_nil))))))), ?_⟩
    refine ⟨_, rfl, .inl ⟨_, rfl, _, rfl, _, rfl, .inl ⟨_, rfl, _, _, rfl, ?_⟩⟩⟩
    refine while_by (fun σ H' => H' = H ∧ ∃ x y : Nat, σ = [some (.int t), some (.int b), some (.int x), some (.int y)] ∧ Nat.gcd x y = Nat.gcd t.natAbs b.natAbs) (fun σ _ => match σ with | [_, _, _, some (.int y)] => y.natAbs | _ => 0) ⟨rfl, t.natAbs, b.natAbs, ?_, rfl⟩ ?_ ?_
    · have e1 : (if t < 0 then -t else t) = ((t.natAbs : Nat) : Int) := by split <;> omega
      have e2 : b = ((b.natAbs : Nat) : Int) := by omega
      show [some (V.int t), some (V.int b), some (V.int (if t < 0 then -t else t)), some (V.int b)] = _
      rw [e1]
      conv => lhs; rw [show some (V.int b) = some (V.int ((b.natAbs : Nat) : Int)) from congrArg (fun z => some (V.int z)) e2]
      conv => rhs; rw [show some (V.int b) = some (V.int ((b.natAbs : Nat) : Int)) from congrArg (fun z => some (V.int z)) e2]
    · rintro σ H' ⟨rfl, x, y, rfl, hg⟩
      refine ⟨_, rfl, _, _, rfl, rfl, _, rfl, ?_⟩
      by_cases hy : (0 : Int) < (y : Int)
      · refine ite2 (fun _ => ?_) (fun z => absurd (decide_eq_true hy) z)
        refine ⟨_, rfl, _, rfl, .inl ⟨_, rfl, _, rfl, _, _, rfl, rfl, hy, _, _, rfl, ⟨rfl, y, x % y, ?_, ?_⟩, ?_⟩⟩
        · show [some (V.int t), some (V.int b), some (V.int (y : Int)), some (V.int ((x : Int) % (y : Int)))] = _
          rw [Int.natCast_emod]
        · rw [← hg, Nat.gcd_comm y (x % y), ← Nat.gcd_rec, Nat.gcd_comm]
        · show ((x : Int) % (y : Int)).natAbs < ((y : Int)).natAbs
          have h1 := Int.emod_nonneg (x : Int) (show (y : Int) ≠ 0 by omega)
          have h2 := Int.emod_lt_of_pos (x : Int) hy
          omega
      · refine ite2 (fun z => absurd (of_decide_eq_true z) hy) (fun _ => ?_)
        have y0 : y = 0 := by omega
        subst y0
        rw [Nat.gcd_zero_right] at hg
        subst hg
        have g0 : 0 < Nat.gcd t.natAbs b.natAbs := Nat.gcd_pos_of_pos_right _ (by omega)
        have g1 : Nat.gcd t.natAbs b.natAbs ≤ b.natAbs := Nat.gcd_le_right _ (by omega)
        have g2 : (((Nat.gcd t.natAbs b.natAbs : Nat) : Int)).natAbs < 2 ^ 8000 := by
          rw [Int.natAbs_natCast]
          exact Nat.lt_of_le_of_lt g1 bz
        have cd : ∀ i : Int, CDivW i ((Nat.gcd t.natAbs b.natAbs : Nat) : Int) := fun i => wide_div (by omega) g2 (by decide) (by decide)
        exact ⟨_, rfl, _, rfl, _, _, rfl, rfl, cd _, _, rfl, _, rfl, _, _, rfl, rfl, cd _, le_line (by simp), fun p hp => q p _ (same_upd hp) upd_same⟩
    · rintro σ H' Q1 Q2 hQ ⟨v, e1, i, j, e2, e3, k, e4, z⟩
      exact ⟨v, e1, i, j, e2, e3, k, e4, hQ _ _ z⟩

theorem ok_plus (T : Txt K mg) : FnOk P w K mg base CX0 2 (He.ga K "_law_plus") (fdOf K (He.ga K "_law_plus")) ["one", "other"] (spTwo plusF) := by
  have G_law_divided : FnOk P w K mg base CX0 1 (He.ga K "_law_divided") (fdOf K (He.ga K "_law_divided")) ["top_here", "bottom_here"] spDiv := ok_divided T
  refine T.f_law_plus.ok sc_law_plus (fun vs H Q E h => ?_) (fun cdv A outer s H vs Q E hr h => ?_)
  · obtain ⟨_, _, _, _, rfl, _⟩ := h
    rfl
  · obtain ⟨a, b, p, q, rfl, ha, hb, bp, bq, o⟩ := h
    have hu := hu_of hr
    refine ⟨_, PSs.nox (pss_one (ps_ret (pe_call G_law_divided (hr.mono (by decide)) rfl T.g_law_divided T.f_law_divided.kp (b_law_divided T) .nil pass0 (pa_cons (pe_op op_add (pe_op op_mulW (pe_ix ix_tup (pv 0) pe_int (fun _ _ => rfl)) (pe_ix ix_tup (pv 1) pe_int (fun _ _ => rfl))) (pe_op op_mulW (pe_ix ix_tup (pv 1) pe_int (fun _ _ => rfl)) (pe_ix ix_tup (pv 0) pe_int (fun _ _ => rfl)))) (pa_cons (pe_op op_mulW (pe_ix ix_tup (pv 0) pe_int (fun _ _ => rfl)) (pe_ix ix_tup (pv 1) pe_int (fun _ _ => rfl))) pa_nil))))), ?_⟩
    obtain ⟨n1, n2, n3⟩ := plus_num bp bq
    have m1 : CMulW p.1 q.2 := wide_mul bp.2.1 bq.2.2 (by decide) (by decide) (by decide)
    have m2 : CMulW q.1 p.2 := wide_mul bq.2.1 bp.2.2 (by decide) (by decide) (by decide)
    have m3 : CMulW p.2 q.2 := wide_mul bp.2.2 bq.2.2 (by decide) (by decide) (by decide)
    exact ⟨_, rfl, _, _, (0 : Nat), _, rfl, rfl, SqT.of ha, at_of rfl rfl, _, rfl, _, _, (1 : Nat), _, rfl, rfl, SqT.of hb, at_of rfl rfl, _, _, rfl, rfl, m1, _, rfl, _, _, (0 : Nat), _, rfl, rfl, SqT.of hb, at_of rfl rfl, _, rfl, _, _, (1 : Nat), _, rfl, rfl, SqT.of ha, at_of rfl rfl, _, _, rfl, rfl, m2, _, _, rfl, rfl, _, rfl, _, _, (1 : Nat), _, rfl, rfl, SqT.of ha, at_of rfl rfl, _, rfl, _, _, (1 : Nat), _, rfl, rfl, SqT.of hb, at_of rfl rfl, _, _, rfl, rfl, m3, _, _, rfl, n3, Nat.lt_of_lt_of_le n2 (pow_le (by decide)), o⟩

theorem ok_by (T : Txt K mg) : FnOk P w K mg base CX0 2 (He.ga K "_law_by") (fdOf K (He.ga K "_law_by")) ["one", "other"] (spTwo byF) := by
  have G_law_divided : FnOk P w K mg base CX0 1 (He.ga K "_law_divided") (fdOf K (He.ga K "_law_divided")) ["top_here", "bottom_here"] spDiv := ok_divided T
  refine T.f_law_by.ok sc_law_by (fun vs H Q E h => ?_) (fun cdv A outer s H vs Q E hr h => ?_)
  · obtain ⟨_, _, _, _, rfl, _⟩ := h
    rfl
  · obtain ⟨a, b, p, q, rfl, ha, hb, bp, bq, o⟩ := h
    have hu := hu_of hr
    refine ⟨_, PSs.nox (pss_one (ps_ret (pe_call G_law_divided (hr.mono (by decide)) rfl T.g_law_divided T.f_law_divided.kp (b_law_divided T) .nil pass0 (pa_cons (pe_op op_mulW (pe_ix ix_tup (pv 0) pe_int (fun _ _ => rfl)) (pe_ix ix_tup (pv 1) pe_int (fun _ _ => rfl))) (pa_cons (pe_op op_mulW (pe_ix ix_tup (pv 0) pe_int (fun _ _ => rfl)) (pe_ix ix_tup (pv 1) pe_int (fun _ _ => rfl))) pa_nil))))), ?_⟩
    obtain ⟨n1, n2, n3⟩ := by_num bp bq
    have m1 : CMulW p.1 q.1 := wide_mul bp.2.1 bq.2.1 (by decide) (by decide) (by decide)
    have m3 : CMulW p.2 q.2 := wide_mul bp.2.2 bq.2.2 (by decide) (by decide) (by decide)
    exact ⟨_, rfl, _, _, (0 : Nat), _, rfl, rfl, SqT.of ha, at_of rfl rfl, _, rfl, _, _, (0 : Nat), _, rfl, rfl, SqT.of hb, at_of rfl rfl, _, _, rfl, rfl, m1, _, rfl, _, _, (1 : Nat), _, rfl, rfl, SqT.of ha, at_of rfl rfl, _, rfl, _, _, (1 : Nat), _, rfl, rfl, SqT.of hb, at_of rfl rfl, _, _, rfl, rfl, m3, _, _, rfl, n3, Nat.lt_of_lt_of_le n2 (pow_le (by decide)), o⟩

theorem ok_number (T : Txt K mg) : FnOk P w K mg base CX0 4 (He.ga K "_law_number") (fdOf K (He.ga K "_law_number")) ["draw"] spNumb := by
  have G_law_pick : FnOk P w K mg base CX0 3 (He.ga K "_law_pick") (fdOf K (He.ga K "_law_pick")) ["draw", "some"] spPick := ok_pick T
  have G_law_take : FnOk P w K mg base CX0 2 (He.ga K "_law_take") (fdOf K (He.ga K "_law_take")) ["draw", "size"] spTake := ok_take T
  refine T.f_law_number.ok sc_law_number (fun vs H Q E h => ?_) (fun cdv A outer s H vs Q E hr h => ?_)
  · obtain ⟨_, _, _, _, rfl, _⟩ := h
    rfl
  · obtain ⟨d, W, C, n, rfl, D, q⟩ := h
    have hu := hu_of hr
    refine ⟨_, PSs.nox (pss_cons (ps_set (i := 1) sc_law_number.nd rfl (.inl rfl) (pe_call G_law_pick (hr.mono (by decide)) rfl T.g_law_pick T.f_law_pick.kp (b_law_pick T) .nil pass0 (pa_cons (pv 0) (pa_cons (pe_lst (pa_cons pe_int (pa_cons pe_int (pa_cons pe_int (pa_cons pe_int (pa_cons pe_int (pa_cons (pe_op op_pow pe_int pe_int) (pa_cons (pe_op op_pow pe_int pe_int) pa_nil)))))))) pa_nil))))
  (pss_cons (ps_set (i := 2) sc_law_number.nd rfl (.inl rfl) (pe_op op_mulW (pe_call G_law_take (hr.mono (by decide)) rfl T.g_law_take T.f_law_take.kp (b_law_take T) .nil pass0 (pa_cons (pv 0) (pa_cons (pv 1) pa_nil))) (pe_call G_law_pick (hr.mono (by decide)) rfl T.g_law_pick T.f_law_pick.kp (b_law_pick T) .nil pass0 (pa_cons (pv 0) (pa_cons (pe_lst (pa_cons pe_int (pa_cons pe_int (pa_cons pe_int (pa_cons pe_int (pa_cons pe_int (pa_cons (pe_op op_pow pe_int pe_int) pa_nil))))))) pa_nil)))))
  (pss_one (ps_ret (pe_ifExp (pt_cmpR op_eq (pe_call G_law_take (hr.mono (by decide)) rfl T.g_law_take T.f_law_take.kp (b_law_take T) .nil pass0 (pa_cons (pv 0) (pa_cons pe_int pa_nil))) pe_int (nomark _)) (pv 2) (pe_op op_sub pe_int (pv 2))))))), ?_⟩
    have R := Rn.start D
    refine ⟨_, rfl, _, _, rfl, rfl, ⟨by decide, by decide, by decide⟩, _, _, rfl, rfl, ⟨by decide, by decide, by decide⟩, le_line (by simp), fun p1 h1 => alloc h1 R fun H1 R1 => ?_⟩
    refine ⟨d, W, C, n + 3, p1, _, rfl, R1.dr, R1.at_ (q := (p1, _)) (List.mem_cons_self ..), by simp, by simp, fun i1 x1 H2 e1 D2 s2 => ?_⟩
    have hx : ∃ z : Int, x1 = .int z ∧ 0 < z ∧ z ≤ 10 ^ 40 := by
      have hm := pick_mem e1
      simp only [List.mem_cons, List.not_mem_nil, or_false] at hm
      rcases hm with rfl | rfl | rfl | rfl | rfl | rfl | rfl <;> exact ⟨_, rfl, by decide, by decide⟩
    obtain ⟨z, rfl, z0, z1⟩ := hx
    refine ⟨_, rfl, _, rfl, d, W, C, n + 2, z, rfl, D2, z0, ?_, fun i H3 i0 i1 D3 s3 => ?_⟩
    · exact Nat.lt_trans (PySem.Flt.log2_lt_of (k := 200) (by decide) (Nat.lt_of_le_of_lt (show z.natAbs ≤ 10 ^ 40 by omega) (by decide))) (by decide)
    have R3 := (R1.call D2 s2).call D3 s3
    refine ⟨_, rfl, _, _, rfl, rfl, ⟨by decide, by decide, by decide⟩, le_line (by simp), fun p2 h2 => alloc h2 R3 fun H4 R4 => ?_⟩
    refine ⟨d, W, C, n + 1, p2, _, rfl, R4.dr, R4.at_ (q := (p2, _)) (List.mem_cons_self ..), by simp, by simp, fun i2 x2 H5 e2 D5 s5 => ?_⟩
    have hy : ∃ y : Int, x2 = .int y ∧ 0 < y ∧ y ≤ 10 ^ 30 := by
      have hm := pick_mem e2
      simp only [List.mem_cons, List.not_mem_nil, or_false] at hm
      rcases hm with rfl | rfl | rfl | rfl | rfl | rfl <;> exact ⟨_, rfl, by decide, by decide⟩
    obtain ⟨y, rfl, y0, y1⟩ := hy
    have R5 := R4.call D5 s5
    have iy : (i * y).natAbs < 10 ^ 70 := by
      rw [Int.natAbs_mul]
      have a1 : i.natAbs < 10 ^ 40 := by omega
      have a2 : y.natAbs ≤ 10 ^ 30 := by omega
      have a3 : (0 : Nat) < 10 ^ 30 := by decide
      calc i.natAbs * y.natAbs ≤ i.natAbs * 10 ^ 30 := Nat.mul_le_mul_left _ a2
        _ < 10 ^ 40 * 10 ^ 30 := (Nat.mul_lt_mul_right a3).mpr a1
        _ = 10 ^ 70 := by decide
    have mw : CMulW i y := wide_mul (a := 200) (b := 200) (Nat.lt_of_le_of_lt (show i.natAbs ≤ 10 ^ 40 by omega) (by decide)) (Nat.lt_of_le_of_lt (show y.natAbs ≤ 10 ^ 30 by omega) (by decide)) (by decide) (by decide) (by decide)
    refine ⟨_, _, rfl, rfl, mw, ?_⟩
    refine ⟨_, rfl, d, W, C, n, 2, rfl, R5.dr, by decide, by decide, fun j H6 j0 j1 D6 s6 => ⟨rfl, _, rfl, ?_⟩⟩
    have R6 := R5.call D6 s6
    refine ite2 (fun _ => ⟨_, rfl, q _ _ iy D6 R6.sd⟩) (fun _ => ⟨_, rfl, _, _, rfl, rfl, q _ _ (by omega) D6 R6.sd⟩)
end
end G02
set_option Elab.async false
set_option linter.all false
set_option maxRecDepth 100000
set_option maxHeartbeats 4000000
namespace Mw
open PySem PySem.Spec PyProof.Rows L2
/-- what a tuple's items are like: no containers, texts of proper signs -/
def tupB : PyData → Bool
  | .tuple ds => PyData.canLayAll0 ds && ds.all flB
  | _ => true
def TupOk (dd : PyData) : Prop := tupB dd = true
theorem strOk_of (s : String) : PyData.strOk (Str.ofString s) = true := by
  unfold PyData.strOk
  rw [Array.all_eq_true_iff_forall_mem]
  intro c hc
  have hc' : c ∈ (Str.ofString s).cps.toList := Array.mem_toList_iff.mpr hc
  rw [PySem.Str.ofString_eq_toList] at hc'
  obtain ⟨ch, _, rfl⟩ := List.mem_map.mp hc'
  have z := ch.valid
  simp only [UInt32.isValidChar, Nat.isValidChar] at z
  exact decide_eq_true (show ch.val.toNat < 1114112 by omega)
/-- a value near a fraction -/
structure NearD (dd : PyData) : Prop where
  cp : cpB 3 dd = true
  sh : Shw 60000 3 dd
  bd : isFr dd = true → Bd 233 (frP dd)
  ly : TupOk dd
theorem odd_near : ∀ dd ∈ oddD, NearD dd := by
  have h : ∀ dd ∈ oddD, (cpB 3 dd = true ∧ tupB dd = true) ∧ (isFr dd = true → 1 ≤ (frP dd).2 ∧ (frP dd).1.natAbs < 2 ^ 10 ∧ (frP dd).2.natAbs < 2 ^ 10) := by decide +kernel
  exact fun dd hd => ⟨(h dd hd).1.1, (odd_shw dd hd).mono (by decide) (by decide), fun z => Bd.mono (show Bd 10 (frP dd) from (h dd hd).2 z) (by decide), (h dd hd).1.2⟩
theorem str_shw {i : Int} (h : i.natAbs.log2 < 1920) : Shw 19212 0 (.str (toString i : String)) := by
  refine ⟨by simp only [PyData.showable], ?_, by simp only [PyData.depth]; exact Nat.le_refl _⟩
  rw [PyData.shown_str]
  have l : (Str.ofString (toString i)).length ≤ 1921 := by
    rw [PySem.ofString_length]
    exact int_text_length_le (by decide) h
  refine Nat.le_trans (StrLaws.reprText_len _ fun c hc => ?_) (by omega)
  obtain ⟨ch, _, rfl⟩ : ∃ ch : Char, ch ∈ (toString i).toList ∧ ch.toNat = c := by
    have e : (Str.ofString (toString i)).cps.toList = (toString i).toList.map Char.toNat := by
      rw [PySem.Str.ofString_eq_toList]
    rw [e] at hc
    exact List.mem_map.mp hc
  exact ch.val.toNat_lt
local macro_rules | `(tactic| walk_at "tup") => `(tactic| (show tupB _ = true; simp only [tupB, PyData.canLayAll0, PyData.canLay0, strOk_of, List.all_cons, List.all_nil, flB, Bool.and_self]))
/-- the values that are drawn near the fraction (t, b) -/
def nearL (t b : Int) (o : PyData) : List PyData := [.tuple [.int t, .int b], .tuple [.int t, .int b], .list [.int t, .int b], .tuple [.int (t * 2), .int (b * 2)], .tuple [.int t, .int (0 - b)], .tuple [.int t, .int 0], .tuple [.int t], .tuple [.int t, .int b, .int 1],
  .tuple [.bool true, .int b], .tuple [.int t, .bool true], .tuple [.none, .int b], .tuple [.str (toString t : String), .int b], o]
theorem isFr_two (t b : Int) : isFr (.tuple [.int t, .int b]) = (decide (1 ≤ b) && decide (Nat.gcd t.natAbs b.natAbs = 1)) := rfl
theorem near_all {t b : Int} {o : PyData} (h : Bd 233 (t, b)) (ho : NearD o) : ∀ d ∈ nearL t b o, NearD d := by
  obtain ⟨b1, h1, h2⟩ := h
  have lt : t.natAbs.log2 < 1920 := log_of h1 (by decide) (by decide)
  have lb : b.natAbs.log2 < 1920 := log_of h2 (by decide) (by decide)
  have lt2 : (t * 2).natAbs.log2 < 1920 := log_of (m := 235) (by rw [Int.natAbs_mul]; exact Nat.lt_of_lt_of_le (nat_lt_pow_add h1 (show (2 : Int).natAbs < 2 ^ 2 by decide)) (pow_le (by decide))) (by decide) (by decide)
  have lb2 : (b * 2).natAbs.log2 < 1920 := log_of (m := 235) (by rw [Int.natAbs_mul]; exact Nat.lt_of_lt_of_le (nat_lt_pow_add h2 (show (2 : Int).natAbs < 2 ^ 2 by decide)) (pow_le (by decide))) (by decide) (by decide)
  have lbn : (0 - b).natAbs.log2 < 1920 := by
    rw [show (0 - b).natAbs = b.natAbs by omega]
    exact lb
  have st : Shw 19212 1 (.str (toString t : String)) := (str_shw lt).mono (Nat.le_refl _) (by decide)
  have si : ∀ {i : Int}, i.natAbs.log2 < 1920 → Shw 19212 1 (.int i) := fun h => (Shw.int h).mono (by decide) (Nat.le_refl _)
  have sb : Shw 19212 1 (.bool true) := ⟨rfl, by decide, by decide⟩
  have sn : Shw 19212 1 .none := ⟨rfl, by decide, by decide⟩
  have tup : ∀ ds : List PyData, ds.length ≤ 3 → (∀ d ∈ ds, Shw 19212 1 d) → Shw 60000 3 (.tuple ds) := fun ds hl ha => (Shw.tuple ha hl).mono (by decide) (by decide)
  have lst : ∀ ds : List PyData, ds.length ≤ 3 → (∀ d ∈ ds, Shw 19212 1 d) → Shw 60000 3 (.list ds) := fun ds hl ha => (Shw.list ha hl).mono (by decide) (by decide)
  have one1 : ∀ {x : PyData}, Shw 19212 1 x → ∀ d ∈ [x], Shw 19212 1 d := fun hx d hd => by
    rw [List.mem_singleton.mp hd]
    exact hx
  have two : ∀ {x y : PyData}, Shw 19212 1 x → Shw 19212 1 y → ∀ d ∈ [x, y], Shw 19212 1 d := fun hx hy d hd => by
    rcases List.mem_cons.mp hd with rfl | hd
    · exact hx
    · exact one1 hy d hd
  have three : ∀ {x y z : PyData}, Shw 19212 1 x → Shw 19212 1 y → Shw 19212 1 z → ∀ d ∈ [x, y, z], Shw 19212 1 d := fun hx hy hz d hd => by
    rcases List.mem_cons.mp hd with rfl | hd
    · exact hx
    · exact two hy hz d hd
  intro d hd
  simp only [nearL, List.mem_cons, List.not_mem_nil, or_false] at hd
  rcases hd with rfl | rfl | rfl | rfl | rfl | rfl | rfl | rfl | rfl | rfl | rfl | rfl | rfl
  · exact ⟨rfl, tup _ (by simp) (two (si lt) (si lb)), fun _ => ⟨b1, h1, h2⟩, by walk_at "tup"⟩
  · exact ⟨rfl, tup _ (by simp) (two (si lt) (si lb)), fun _ => ⟨b1, h1, h2⟩, by walk_at "tup"⟩
  · exact ⟨rfl, lst _ (by simp) (two (si lt) (si lb)), (fun z => by cases z), by walk_at "tup"⟩
  · refine ⟨rfl, tup _ (by simp) (two (si lt2) (si lb2)), fun z => ?_, by walk_at "tup"⟩
    rw [isFr_two] at z
    have z2 := of_decide_eq_true (He.ba z).2
    have d1 : 2 ∣ (t * 2).natAbs := ⟨t.natAbs, by rw [Int.natAbs_mul, Nat.mul_comm]; rfl⟩
    have d2 : 2 ∣ (b * 2).natAbs := ⟨b.natAbs, by rw [Int.natAbs_mul, Nat.mul_comm]; rfl⟩
    have d3 := Nat.dvd_gcd d1 d2
    rw [z2] at d3
    have d4 := Nat.le_of_dvd (by decide) d3
    omega
  · refine ⟨rfl, tup _ (by simp) (two (si lt) (si lbn)), fun z => ?_, by walk_at "tup"⟩
    rw [isFr_two] at z
    have z2 := of_decide_eq_true (He.ba z).1
    have b1' : 1 ≤ b := b1
    omega
  · refine ⟨rfl, tup _ (by simp) (two (si lt) (si (by decide))), fun z => ?_, by walk_at "tup"⟩
    rw [isFr_two] at z
    have z2 := of_decide_eq_true (He.ba z).1
    omega
  · exact ⟨rfl, tup _ (by simp) (one1 (si lt)), (fun z => by cases z), by walk_at "tup"⟩
  · exact ⟨rfl, tup _ (by simp) (three (si lt) (si lb) (si (by decide))), (fun z => by cases z), by walk_at "tup"⟩
  · exact ⟨rfl, tup _ (by simp) (two sb (si lb)), (fun z => by cases z), by walk_at "tup"⟩
  · exact ⟨rfl, tup _ (by simp) (two (si lt) sb), (fun z => by cases z), by walk_at "tup"⟩
  · exact ⟨rfl, tup _ (by simp) (two sn (si lb)), (fun z => by cases z), by walk_at "tup"⟩
  · exact ⟨rfl, tup _ (by simp) (two st (si lb)), (fun z => by cases z), by walk_at "tup"⟩
  · exact ho
def spNear : Sp := fun vs H Q _ => ∃ (d W C : Addr) (n : Nat) (pt : Addr) (t b : Int), vs = [.ref d, .ref pt] ∧ Drw H d W C (n + 2) ∧ Hid d W H pt = some (.tup [.int t, .int b]) ∧ Bd 233 (t, b) ∧
  ∀ (dd : PyData) (v : V) (H' : Hp), NearD dd → Drw H' d W C n → Sd d W H H' → Dt (Hid d W H') dd v → Q v H'
end Mw
namespace G02
open PySem PySem.Spec PyProof.Rows L2 Mw
local macro_rules | `(tactic| walk_at "data") => `(tactic| (repeat' (first | rfl | assumption | refine ex_cons ?_ ?_ | refine ex_pair ?_ ?_ ?_ | refine ex_dk (Rn.hid (by assumption) (by walk_at "mem")) ?_ | refine ex_ref (Rn.hid (by assumption) (by walk_at "mem")) ?_)))
local macro_rules | `(tactic| walk_at "mem") => `(tactic| (repeat' (first | exact List.mem_cons_self .. | refine List.mem_cons_of_mem _ ?_)))
section
variable {P : Program} {w : World} {K : PySem.W.Frag} {mg : Str → Option Value} {base : Heap}
theorem ok_near (T : Txt K mg) : FnOk P w K mg base CX0 5 (He.ga K "_law_near") (fdOf K (He.ga K "_law_near")) ["draw", "pair"] spNear := by
  have G_law_pick : FnOk P w K mg base CX0 3 (He.ga K "_law_pick") (fdOf K (He.ga K "_law_pick")) ["draw", "some"] spPick := ok_pick T
  have G_law_odd : FnOk P w K mg base CX0 4 (He.ga K "_law_odd") (fdOf K (He.ga K "_law_odd")) ["draw"] spOdd := ok_odd T
  refine T.f_law_near.ok sc_law_near (fun vs H Q E h => ?_) (fun cdv A outer s H vs Q E hr h => ?_)
  · obtain ⟨_, _, _, _, _, _, _, rfl, _⟩ := h
    rfl
  · obtain ⟨d, W, C, n, pt, t, b, rfl, D, hpt, hb, q⟩ := h
    have hu := hu_of hr
    refine ⟨_, PSs.nox (pss_cons (ps_asg (pv 1) (pg_tup (by rfl) (pgs_cons (pg_name (i := 2) sc_law_near.nd rfl (.inl rfl)) (pgs_cons (pg_name (i := 3) sc_law_near.nd rfl (.inl rfl)) pgs_nil))))
  (pss_cons (ps_set (i := 4) sc_law_near.nd rfl (.inl rfl) (pe_lst (pa_cons (pv 1) (pa_cons (pv 1) (pa_cons (pe_lst (pa_cons (pv 2) (pa_cons (pv 3) pa_nil))) (pa_cons (pe_tup (pa_cons (pe_op op_mulW (pv 2) pe_int) (pa_cons (pe_op op_mulW (pv 3) pe_int) pa_nil))) (pa_cons (pe_tup (pa_cons (pv 2) (pa_cons (pe_op op_sub pe_int (pv 3)) pa_nil))) (pa_cons (pe_tup (pa_cons (pv 2) (pa_cons pe_int pa_nil))) (pa_cons (pe_tup (pa_cons (pv 2) pa_nil)) (pa_cons (pe_tup (pa_cons (pv 2) (pa_cons (pv 3) (pa_cons pe_int pa_nil)))) pa_nil))))))))))
  (pss_one (ps_ret (pe_call G_law_pick (hr.mono (by decide)) rfl T.g_law_pick T.f_law_pick.kp (b_law_pick T) .nil pass0 (pa_cons (pv 0) (pa_cons (pe_op op_cat (pv 4) (pe_lst (pa_cons (pe_tup (pa_cons pe_bl (pa_cons (pv 3) pa_nil))) (pa_cons (pe_tup (pa_cons (pv 2) (pa_cons pe_bl pa_nil))) (pa_cons (pe_tup (pa_cons pe_non (pa_cons (pv 3) pa_nil))) (pa_cons (pe_tup (pa_cons (pe_callTy call_str_int (by rfl) T.n_str (by decide +kernel) (pa_cons (pv 2) pa_nil)) (pa_cons (pv 3) pa_nil))) (pa_cons (pe_call G_law_odd (hr.mono (by decide)) rfl T.g_law_odd T.f_law_odd.kp (b_law_odd T) .nil pass0 (pa_cons (pv 0) pa_nil)) pa_nil))))))) pa_nil))))))), ?_⟩
    have R : Rn d W C (n + 2) H H [(pt, .tup [.int t, .int b])] := ⟨D, Sd.refl _, fun q hq => by rw [List.mem_singleton.mp hq]; exact hpt⟩
    have b1 : 1 ≤ b := hb.1
    refine ⟨_, rfl, pt, _, rfl, SqT.of (R.get (by walk_at "mem")), rfl, _, _, rfl, _, _, rfl, rfl, ?_⟩
    have mt : CMulW t 2 := wide_mul (a := 233) (b := 2) hb.2.1 (by decide) (by decide) (by decide) (by decide)
    have mb : CMulW b 2 := wide_mul (a := 233) (b := 2) hb.2.2 (by decide) (by decide) (by decide) (by decide)
    refine ⟨_, rfl, _, rfl, _, rfl, _, rfl, le_line (by simp), fun p1 h1 => alloc h1 R fun H1 R1 => ?_⟩
    refine ⟨_, rfl, _, _, rfl, rfl, mt, _, rfl, _, _, rfl, rfl, mb, le_line (by simp), fun p2 h2 => alloc h2 R1 fun H2 R2 => ?_⟩
    refine ⟨_, rfl, _, rfl, _, _, rfl, rfl, le_line (by simp), fun p3 h3 => alloc h3 R2 fun H3 R3 => ?_⟩
    refine ⟨_, rfl, le_line (by simp), fun p4 h4 => alloc h4 R3 fun H4 R4 => ?_⟩
    refine ⟨_, rfl, le_line (by simp), fun p5 h5 => alloc h5 R4 fun H5 R5 => ?_⟩
    refine ⟨_, rfl, _, rfl, le_line (by simp), fun p6 h6 => alloc h6 R5 fun H6 R6 => ?_⟩
    refine ⟨le_line (by simp), fun p7 h7 => alloc h7 R6 fun H7 R7 => ?_⟩
    refine ⟨_, rfl, _, rfl, ?_⟩
    refine ⟨_, rfl, le_line (by simp), fun p8 h8 => alloc h8 R7 fun H8 R8 => ?_⟩
    refine ⟨_, rfl, le_line (by simp), fun p9 h9 => alloc h9 R8 fun H9 R9 => ?_⟩
    refine ⟨_, rfl, le_line (by simp), fun p10 h10 => alloc h10 R9 fun H10 R10 => ?_⟩
    refine ⟨_, rfl, _, rfl, log_of hb.2.1 (by decide) (by decide), _, rfl, le_line (by simp), fun p11 h11 => alloc h11 R10 fun H11 R11 => ?_⟩
    refine ⟨_, rfl, d, W, C, n + 1, rfl, R11.dr, fun od ov H12 ho D12 s12 u12 => ?_⟩
    have R12 := R11.call D12 s12
    refine ⟨le_line (by simp), fun p13 h13 => allocK h13 R12 u12 fun H13 R13 u13 => ?_⟩
    refine ⟨p7, p13, _, _, rfl, rfl, R13.get (by walk_at "mem"), R13.get (by walk_at "mem"), le_line (by simp), fun p14 h14 => allocK h14 R13 u13 fun H14 R14 u14 => ?_⟩
    refine ⟨d, W, C, n, p14, _, rfl, R14.dr, R14.at_ (q := (p14, _)) (List.mem_cons_self ..), by simp, by simp, fun i x H' hi D' sd => ?_⟩
    have R' := R14.call D' sd
    have u' : Dt (Hid d W H') od ov := Dt.same sd _ _ u14
    suffices all : DtL (Hid d W H') (nearL t b od) _ by
      obtain ⟨dd, e1, e2⟩ := DtL.at_ all hi
      exact q dd x H' (near_all hb (odd_near od ho) dd (List.mem_of_getElem? e1)) D' R'.sd e2
    simp only [nearL, DtL, Dt, DtK, List.cons_append, List.nil_append]
    walk_at "data"
end
end G02
set_option Elab.async false
set_option linter.all false
set_option maxRecDepth 100000
set_option maxHeartbeats 4000000
namespace Mw
open PySem PySem.Spec PyProof.Rows L2
theorem eqv_nil (ds : List PyData) : PyData.eqv (.list ds) (.list []) = ds.isEmpty := by
  cases ds with
  | nil => rfl
  | cons a r => rfl
theorem lay_mem : ∀ {ds : List PyData}, PyData.canLayAll0 ds = true ↔ ∀ d ∈ ds, PyData.canLay0 d = true
  | [] => by simp [PyData.canLayAll0]
  | d :: r => by
    simp only [PyData.canLayAll0, Bool.and_eq_true, List.mem_cons, forall_eq_or_imp]
    rw [lay_mem (ds := r)]
theorem flat_depth {d : PyData} (h : flB d = true) : d.depth = 0 := by
  cases d with
  | list _ => cases h
  | tuple _ => cases h
  | dict _ => cases h
  | _ => simp only [PyData.depth]
theorem flat_depths : ∀ {ds : List PyData}, (∀ d ∈ ds, flB d = true) → PyData.depthAll ds = 0
  | [], _ => by simp only [PyData.depthAll]
  | d :: r, h => by
    simp only [PyData.depthAll]
    rw [flat_depth (h d List.mem_cons_self), flat_depths fun x hx => h x (List.mem_cons_of_mem _ hx)]
    rfl
theorem shaped_flat {ds : List PyData} (h1 : PyData.canLayAll0 ds = true) (h2 : ∀ d ∈ ds, flB d = true) : SeqAt.shaped (.list ds) = true ∧ SeqAt.shaped (.tuple ds) = true := by
  unfold SeqAt.shaped
  simp only [PyData.canLay0, PyData.depth, h1, flat_depths h2]
  decide
theorem dp_flat {K : PySem.W.Frag} {H : Hp} {d : PyData} {v : V} (h : flB d = true) (hd : Dt H d v) : Dp K H v d := by
  cases d with
  | list _ => cases h
  | tuple _ => cases h
  | dict _ => cases h
  | none => simp only [Dt] at hd; subst hd; exact .non
  | bool b => simp only [Dt] at hd; subst hd; exact .bl b
  | int i => simp only [Dt] at hd; subst hd; exact .int i
  | str x => simp only [Dt] at hd; subst hd; exact .str x
theorem dps_flat {K : PySem.W.Frag} {H : Hp} : ∀ {ds : List PyData} {xs : List V}, (∀ d ∈ ds, flB d = true) → DtL H ds xs → DpAll K H xs ds
  | [], xs, _, h => by simp only [DtL] at h; subst h; exact .nil
  | d :: r, xs, hf, h => by
    simp only [DtL] at h
    obtain ⟨x, t, rfl, h1, h2⟩ := h
    exact .cons (dp_flat (hf d List.mem_cons_self) h1) (dps_flat (fun y hy => hf y (List.mem_cons_of_mem _ hy)) h2)
theorem nrm_fix {t b : Int} (h : 1 ≤ b) : ((nrm t b).1 = t ∧ (nrm t b).2 = b) ↔ Nat.gcd t.natAbs b.natAbs = 1 := by
  constructor
  · rintro ⟨_, h2⟩
    have h2' : b / ((Nat.gcd t.natAbs b.natAbs : Nat) : Int) = b := h2
    have g0 : 0 < Nat.gcd t.natAbs b.natAbs := Nat.gcd_pos_of_pos_right _ (by omega)
    by_cases g : Nat.gcd t.natAbs b.natAbs = 1
    · exact g
    · have lt : b / ((Nat.gcd t.natAbs b.natAbs : Nat) : Int) < b := Int.ediv_lt_self_of_pos_of_ne_one (by omega) (by omega)
      omega
  · intro g
    show t / ((Nat.gcd t.natAbs b.natAbs : Nat) : Int) = t ∧ b / ((Nat.gcd t.natAbs b.natAbs : Nat) : Int) = b
    rw [g]
    exact ⟨Int.ediv_one t, Int.ediv_one b⟩
theorem eqv_pair {a b c d : Int} : PyData.eqv (.tuple [.int a, .int b]) (.tuple [.int c, .int d]) = (decide (a = c) && decide (b = d)) := by
  have e : PyData.eqv (.tuple [.int a, .int b]) (.tuple [.int c, .int d]) = ((a == c) && ((b == d) && true)) := rfl
  rw [e, Bool.and_true]
  rfl
def spGood : Sp := fun vs H Q _ => ∃ (v : V) (dd : PyData), vs = [v] ∧ Dt H dd v ∧ tupB dd = true ∧ dd.showable = true ∧ ∀ H', Same H H' → Q (.bl (isFr dd)) H'
theorem isFr_short {ds : List PyData} (h : ds.length ≠ 2) : isFr (.tuple ds) = false := by
  cases e : isFr (.tuple ds) with
  | false => rfl
  | true =>
    obtain ⟨t, b, e2, _⟩ := isFr_inv e
    cases e2
    exact absurd rfl h
theorem isFr_nums {ds : List PyData} (h : isFr (.tuple ds) = true) : ∀ d ∈ ds, isNum d = true := by
  obtain ⟨t, b, e2, _⟩ := isFr_inv h
  cases e2
  intro d hd
  simp only [List.mem_cons, List.not_mem_nil, or_false] at hd
  rcases hd with rfl | rfl <;> rfl
end Mw
namespace G02
open PySem PySem.Spec PyProof.Rows L2 Mw
section
variable {P : Program} {w : World} {K : PySem.W.Frag} {mg : Str → Option Value} {base : Heap}
theorem item_test {H : Hp} {v : V} {dq : PyData} {σ : L2.St} {Q : Bool → Hp → Prop} (hv : σ[1]? = some (some v)) (hq : Dt H dq v) (h : Q (!isNum dq) H) : tOr (tNot (tB (tCB (rIsi K) (tCons (tVar 1) (tCons (tC (V.ty "int")) tNil))))) (tB (tCB (rIsi K) (tCons (tVar 1) (tCons (tC (V.ty "bool")) tNil)))) σ H Q := by
  cases dq with
    | none => exact ⟨v, hv, _, _, .type "NoneType", _, false, rfl, .ty "int", hq.ty, kitq (show kitB "NoneType" "int" = some false by decide +kernel), _, rfl, ite2 (fun _ => h) (fun z => absurd rfl z)⟩
    | bool b => exact ⟨v, hv, _, _, .type "bool", _, true, rfl, .ty "int", hq.ty, kitq (show kitB "bool" "int" = some true by decide +kernel), _, rfl, ite2 (fun z => absurd z (by decide)) (fun _ => ⟨v, hv, _, _, .type "bool", _, true, rfl, .ty "bool", hq.ty, kitq (show kitB "bool" "bool" = some true by decide +kernel), _, rfl, h⟩)⟩
    | int i => exact ⟨v, hv, _, _, .type "int", _, true, rfl, .ty "int", hq.ty, kitq (show kitB "int" "int" = some true by decide +kernel), _, rfl, ite2 (fun z => absurd z (by decide)) (fun _ => ⟨v, hv, _, _, .type "int", _, false, rfl, .ty "bool", hq.ty, kitq (show kitB "int" "bool" = some false by decide +kernel), _, rfl, h⟩)⟩
    | str x => exact ⟨v, hv, _, _, .type "str", _, false, rfl, .ty "int", hq.ty, kitq (show kitB "str" "int" = some false by decide +kernel), _, rfl, ite2 (fun _ => h) (fun z => absurd rfl z)⟩
    | list qs => exact ⟨v, hv, _, _, .type "list", _, false, rfl, .ty "int", hq.ty, kitq (show kitB "list" "int" = some false by decide +kernel), _, rfl, ite2 (fun _ => h) (fun z => absurd rfl z)⟩
    | tuple qs => exact ⟨v, hv, _, _, .type "tuple", _, false, rfl, .ty "int", hq.ty, kitq (show kitB "tuple" "int" = some false by decide +kernel), _, rfl, ite2 (fun _ => h) (fun z => absurd rfl z)⟩
    | dict qs => exact ⟨v, hv, _, _, .type "dict", _, false, rfl, .ty "int", hq.ty, kitq (show kitB "dict" "int" = some false by decide +kernel), _, rfl, ite2 (fun _ => h) (fun z => absurd rfl z)⟩
theorem ok_good (T : Txt K mg) : FnOk P w K mg base CX0 2 (He.ga K "_law_is_good") (fdOf K (He.ga K "_law_is_good")) ["thing_here"] spGood := by
  have G_law_divided : FnOk P w K mg base CX0 1 (He.ga K "_law_divided") (fdOf K (He.ga K "_law_divided")) ["top_here", "bottom_here"] spDiv := ok_divided T
  refine T.f_law_is_good.ok sc_law_is_good (fun vs H Q E h => ?_) (fun cdv A outer s H vs Q E hr h => ?_)
  · obtain ⟨_, _, rfl, _⟩ := h
    rfl
  · obtain ⟨v, dd, rfl, hd, ht, hsh, q⟩ := h
    have hu := hu_of hr
    refine ⟨_, PSs.nox (pss_cons (ps_if (PW.pt (pw_or (pt_not (pt_val (pe_callB call_isi (by rfl) T.n_isinstance (by decide +kernel) (pa_cons (pv 0) (pa_cons (pe_bltn (v := .ty "tuple") (by rfl) T.n_tuple (by decide +kernel) rfl) pa_nil))))) (pw_or1 (pt_cmpR op_ne (pe_callB call_len (by rfl) T.n_len (by decide +kernel) (pa_cons (pv 0) pa_nil)) pe_int (nomark _)))))
  (pss_one (ps_ret pe_bl))
  pss_nil)
  (pss_cons (ps_if (pt_cmpR (op_neD hr.units) (pe_lc (own := [("one", 1)]) (tt := tOr (tNot (tB (tCB (rIsi K) (tCons (tVar 1) (tCons (tC (V.ty "int")) tNil))))) (tB (tCB (rIsi K) (tCons (tVar 1) (tCons (tC (V.ty "bool")) tNil))))) rfl sc_law_is_good.nd (pi_tup (pv 0)) (blkOk_by (N := N_law_is_good) (sc := defScope s_law_is_good) (by decide +kernel)) (fun _ _ _ _ _ => (pg_name (i := 1) sc_law_is_good.nd rfl (.inl rfl))) (fun _ _ _ _ _ => (pts_one (PW.pt (pw_or (pt_not (pt_val (pe_callB call_isi (by rfl) T.n_isinstance (by decide +kernel) (pa_cons (pv 1) (pa_cons (pe_bltn (v := .ty "int") (by rfl) T.n_int (by decide +kernel) rfl) pa_nil))))) (pw_or1 (pt_val (pe_callB call_isi (by rfl) T.n_isinstance (by decide +kernel) (pa_cons (pv 1) (pa_cons (pe_bltn (v := .ty "bool") (by rfl) T.n_bool (by decide +kernel) rfl) pa_nil))))))))) (fun _ _ _ _ _ => (pv 1))) (pe_lst pa_nil) (nomark _))
  (pss_one (ps_ret pe_bl))
  pss_nil)
  (pss_one (ps_ret (pe_and (pe_cmpR op_ge (pe_ix ix_tup (pv 0) pe_int (fun _ _ => rfl)) pe_int (nomark _)) (pe_one (pe_cmpR (op_eqD hr.units) (pe_call G_law_divided (hr.mono (by decide)) rfl T.g_law_divided T.f_law_divided.kp (b_law_divided T) .nil pass0 (pa_cons (pe_ix ix_tup (pv 0) pe_int (fun _ _ => rfl)) (pa_cons (pe_ix ix_tup (pv 0) pe_int (fun _ _ => rfl)) pa_nil))) (pv 0) (nomark _)))))))), ?_⟩
    cases dd with
    | tuple ds =>
      refine ⟨_, rfl, _, _, .type "tuple", _, true, rfl, .ty "tuple", hd.ty, kitq (show kitB "tuple" "tuple" = some true by decide +kernel), _, rfl, ite2 (fun z => absurd z (by decide)) (fun _ => ?_)⟩
      simp only [Dt] at hd
      obtain ⟨a, xs, rfl, ha, hx⟩ := hd
      have lx := DtL.length hx
      obtain ⟨ly, fl⟩ := He.ba (show (PyData.canLayAll0 ds && ds.all flB) = true from ht)
      rw [List.all_eq_true] at fl
      refine ⟨_, rfl, _, xs.length, rfl, .inr ⟨_, SqT.of ha, rfl⟩, rfl, _, rfl, ?_⟩
      by_cases l2 : ds.length = 2
      · refine ite2 (fun z => absurd z (by rw [lx, l2]; decide)) (fun _ => ?_)
        refine ⟨_, rfl, a, rfl, ⟨_, SqT.of ha⟩, fun D0 hD => lc_it (walk_tup (xs := xs)) (fun i H' => Same H H' ∧ ∃ acc, H' D0 = some (.lst acc) ∧ DtL H' ((ds.take i).filter fun d => !isNum d) acc) ⟨same_upd hD, [], upd_same, by simp only [List.take_zero, List.filter_nil]; exact DtL.nil⟩ (fun i H' _ z => SqT.of (z.1 _ _ ha)) ?_ ?_⟩
        · rintro i x H2 H2' hlt ⟨s2, acc, hacc, hfl⟩ ⟨rfl, ex⟩
          obtain ⟨dq, e1, e2⟩ := DtL.at_ hx ex
          have hq := Dt.same s2 _ _ e2
          have la := DtL.length hfl
          have ll : ((ds.take i).filter fun d => !isNum d).length ≤ 2 := Nat.le_trans (List.length_filter_le _ _) (by rw [List.length_take]; omega)
          refine ⟨rfl, item_test (v := x) rfl hq ?_⟩
          cases en : isNum dq with
          | true =>
            refine ite2 (fun z => absurd z (by decide)) (fun _ => ⟨s2, acc, hacc, ?_⟩)
            rw [ls_take e1, List.filter_append]
            simp only [List.filter_cons, List.filter_nil, en]
            simpa using hfl
          | false =>
            refine ite2 (fun _ => ?_) (fun z => absurd rfl z)
            refine ⟨_, rfl, acc, hacc, small1000 (by omega), fun b o e => ?_, _, upd_same, ?_⟩
            · rw [upd_ne (ne_of_none e hD)]
              exact s2 _ _ e
            · rw [ls_take e1, List.filter_append]
              simp only [List.filter_cons, List.filter_nil, en]
              have fq := fl dq (List.mem_of_getElem? e1)
              refine DtL.snoc (Dt.flat hq fq) (dtl_flat (fun d hd2 => fl d (List.mem_of_mem_take (List.mem_filter.mp hd2).1)) hfl)
        · rintro H2 ⟨s2, acc, hacc, hfl⟩
          rw [lx, List.take_length] at hfl
          have ff : ∀ d ∈ ds.filter (fun d => !isNum d), flB d = true := fun d hd2 => fl d (List.mem_filter.mp hd2).1
          have lf : PyData.canLayAll0 (ds.filter fun d => !isNum d) = true := lay_mem.mpr fun d hd2 => lay_mem.mp ly d (List.mem_filter.mp hd2).1
          refine ⟨le_line (by simp), fun p1 h1 => allocN h1 fun H3 s3 l3 => ?_⟩
          refine ⟨_, .list [], .lst (SqL.of (s3 _ _ hacc)) (dps_flat ff (DtL.same s3 _ _ hfl)), .lst (SqL.of l3) .nil, (shaped_flat lf ff).1, rfl, _, rfl, ?_⟩
          rw [eqv_nil]
          cases hne : (ds.filter fun d => !isNum d) with
          | cons d0 r0 =>
            have m0 : d0 ∈ ds.filter fun d => !isNum d := by rw [hne]; exact List.mem_cons_self
            have hz : isFr (.tuple ds) = false := by
              cases e : isFr (.tuple ds) with
              | false => rfl
              | true =>
                have z := isFr_nums e d0 (List.mem_filter.mp m0).1
                have y := (List.mem_filter.mp m0).2
                rw [z] at y
                cases y
            rw [hz] at q
            exact ite2 (fun _ => q _ (s2.trans s3)) (fun z => absurd rfl z)
          | nil =>
            refine ite2 (fun z => absurd z (by decide)) (fun _ => ?_)
            have nums : ∀ d ∈ ds, isNum d = true := fun d hd2 => by
              have z := List.filter_eq_nil_iff.mp hne d hd2
              simpa using z
            match ds, l2, hx, nums, hsh, q, ht with
            | [d1, d2], _, hx, nums, hsh, q, _ =>
              have n1 := nums d1 (by simp)
              have n2 := nums d2 (by simp)
              cases d1 with
              | int t =>
                cases d2 with
                | int b =>
                  simp only [DtL, Dt] at hx
                  obtain ⟨_, _, rfl, rfl, _, _, rfl, rfl, rfl⟩ := hx
                  have ha3 := s3 _ _ (s2 _ _ ha)
                  rw [isFr_two] at q
                  refine ⟨_, rfl, _, _, (1 : Nat), _, rfl, rfl, SqT.of ha3, at_of rfl rfl, _, _, rfl, rfl, _, rfl, ?_⟩
                  by_cases b1 : (1 : Int) ≤ b
                  · refine ite2 (fun _ => ?_) (fun z => absurd (decide_eq_true b1) z)
                    have bz : b.natAbs < 2 ^ 8000 := by
                      simp only [PyData.showable, PyData.showableAll, Bool.and_eq_true, decide_eq_true_eq] at hsh
                      exact Nat.lt_of_lt_of_le (Nat.lt_of_lt_of_le Nat.lt_log2_self (Nat.pow_le_pow_right (by decide) (show b.natAbs.log2 + 1 ≤ 1920 by omega))) (pow_le (by decide))
                    refine ⟨_, rfl, _, _, (0 : Nat), _, rfl, rfl, SqT.of ha3, at_of rfl rfl, _, rfl, _, _, (1 : Nat), _, rfl, rfl, SqT.of ha3, at_of rfl rfl, t, b, rfl, b1, bz, fun pr H4 s4 l4 => ?_⟩
                    refine ⟨_, rfl, .tuple [.int (nrm t b).1, .int (nrm t b).2], .tuple [.int t, .int b], .tup (SqT.of l4) (.cons (.int _) (.cons (.int _) .nil)), .tup (SqT.of (s4 _ _ ha3)) (.cons (.int _) (.cons (.int _) .nil)), rfl, rfl, ?_⟩
                    have e9 : PyData.eqv (.tuple [.int (nrm t b).1, .int (nrm t b).2]) (.tuple [.int t, .int b]) = (decide (1 ≤ b) && decide (Nat.gcd t.natAbs b.natAbs = 1)) := by
                      rw [eqv_pair, decide_eq_true b1, Bool.true_and, ← Bool.decide_and]
                      exact decide_eq_decide.mpr (nrm_fix b1)
                    rw [e9]
                    exact q _ ((s2.trans s3).trans s4)
                  · have e9 : decide ((1 : Int) ≤ b) = false := decide_eq_false b1
                    rw [e9] at q
                    exact ite2 (fun z => absurd (of_decide_eq_true z) b1) (fun _ => q _ (s2.trans s3))
                | _ => cases n2
              | _ => cases n1
      · rw [isFr_short l2] at q
        refine ite2 (fun _ => q H (Same.refl H)) (fun z => absurd ?_ z)
        have e9 : V.int ((xs.length : Nat) : Int) ≠ V.int 2 := fun z => by
          have z2 := V.int.inj z
          omega
        rw [decide_eq_false e9]
        rfl
    | none =>
      exact ⟨_, rfl, _, _, .type "NoneType", _, false, rfl, .ty "tuple", hd.ty, kitq (show kitB "NoneType" "tuple" = some false by decide +kernel), _, rfl, ite2 (fun _ => q H (Same.refl H)) (fun z => absurd rfl z)⟩
    | bool b =>
      exact ⟨_, rfl, _, _, .type "bool", _, false, rfl, .ty "tuple", hd.ty, kitq (show kitB "bool" "tuple" = some false by decide +kernel), _, rfl, ite2 (fun _ => q H (Same.refl H)) (fun z => absurd rfl z)⟩
    | int i =>
      exact ⟨_, rfl, _, _, .type "int", _, false, rfl, .ty "tuple", hd.ty, kitq (show kitB "int" "tuple" = some false by decide +kernel), _, rfl, ite2 (fun _ => q H (Same.refl H)) (fun z => absurd rfl z)⟩
    | str x =>
      exact ⟨_, rfl, _, _, .type "str", _, false, rfl, .ty "tuple", hd.ty, kitq (show kitB "str" "tuple" = some false by decide +kernel), _, rfl, ite2 (fun _ => q H (Same.refl H)) (fun z => absurd rfl z)⟩
    | list ds =>
      exact ⟨_, rfl, _, _, .type "list", _, false, rfl, .ty "tuple", hd.ty, kitq (show kitB "list" "tuple" = some false by decide +kernel), _, rfl, ite2 (fun _ => q H (Same.refl H)) (fun z => absurd rfl z)⟩
    | dict ds =>
      exact ⟨_, rfl, _, _, .type "dict", _, false, rfl, .ty "tuple", hd.ty, kitq (show kitB "dict" "tuple" = some false by decide +kernel), _, rfl, ite2 (fun _ => q H (Same.refl H)) (fun z => absurd rfl z)⟩
end
end G02
set_option Elab.async false
set_option linter.all false
set_option maxRecDepth 100000
set_option maxHeartbeats 4000000
namespace Mw
open PySem PySem.Spec PyProof.Rows L2 LamX
/-- what a def makes of a lambda that it calls in a try: the value in a tuple, or the error's number in a list -/
def TTk (C : Addr) : (XK → Hp → VK → Prop) → Hp → VK → Prop := fun tl H Q => ∀ H1, Same H H1 →
  tl (fun cls d H' => ∃ (dx : Addr) (w : V), cls = .ref C ∧ d = some dx ∧ H' dx = some (.xd [("number", w)]) ∧ ∀ (p : Addr) (H2 : Hp), H' p = none → Same H' H2 → H2 p = some (.lst [w]) → Q (.ref p) H2) H1
    (fun v H' => ∀ (p : Addr) (H2 : Hp), H' p = none → Same H' H2 → H2 p = some (.tup [v]) → Q (.ref p) H2)
end Mw
namespace G02
open PySem PySem.Spec PyProof.Rows L2 Mw LamX
section
theorem T_kinds {K : PySem.W.Frag} {mg : Str → Option Value} (T : Txt K mg) : PySem.W.kitOne K (.ref (He.ga K "BadNumber")) (.ref (He.ga K "BadNumber")) = some true ∧ PySem.W.kitOne K (.ref (He.ga K "BadNumber")) (.ref (He.ga K "NoTable")) = some false := by
  have h : faKind K = true := T.more faKind (by simp [faX])
  obtain ⟨h1, h2⟩ := He.ba h
  exact ⟨of_decide_eq_true h1, of_decide_eq_true h2⟩
theorem T_catch {K : PySem.W.Frag} {mg : Str → Option Value} (T : Txt K mg) : PySem.W.exmOne K (.ref (He.ga K "BadNumber")) (.ref (He.ga K "MeanError")) = some true := by
  have h : faCatch K = true := T.more faCatch (by simp [faX])
  exact of_decide_eq_true h
theorem told_ok {X : Cx} (T : Txt X.K X.mg) {g : Addr} {cdg : Value} {q : Str} : GivesAt X N_law_told "_law_told" (defScope s_law_told) g cdg (defBody s_law_told) "work" q (TTk (He.ga X.K "BadNumber")) := by
  intro f c' s H Q tl act hc h
  have CI := T_init T (c := "BadNumber") (f := "number") (by simp [clI])
  refine ⟨_, pss_cons (ps_asg (pe_tup (pa_cons pe_non (pa_cons pe_non pa_nil))) (pg_tup (by rfl) (pgs_cons (pg_name (i := 1) sc_law_told.nd rfl (.inl rfl)) (pgs_cons (pg_name (i := 2) sc_law_told.nd rfl (.inl rfl)) pgs_nil))))
    (pss_cons (ps_try_keep (X := (cxOf C8.CX0 X.prog X.w X.K X.mg X.base N_law_told "_law_told" (defScope s_law_told) g cdg X.A X.stack s H C8.E0).nox) (i := 3) (c := .ref (He.ga X.K "MeanError"))
        (tb := fun W D σ H => ∃ Qv : VK, (∀ v H', Qv v H' → D.nx (σ.set 2 (some v)) H') ∧ σ[0]? = some (some (.ref f)) ∧ H c' = some (CodeO c' q) ∧ ∃ E : XK, (∀ cls d H', E cls d H' → W cls d σ H') ∧ tl E H Qv)
        rfl rfl rfl sc_law_told.nd rfl rfl ⟨rfl, by decide, .inl T.g_MeanError⟩ LamX.takes0 (fun W pn xe tk _ => ?_) (fun a oe cls d pn hz hf => pss_one (ps_set (i := 1) sc_law_told.nd rfl (.inl rfl) (pv 3))))
    (pss_cons (ps_if (pt_cmpR op_isN (pv 1) pe_non (nomark _)) (pss_one (ps_ret (pe_tup (pa_cons (pv 2) pa_nil)))) pss_nil)
    (pss_one (ps_ret (pe_ifExp (PW.pt (pw_and (pt_val (pe_callB call_isiX (by rfl) T.n_isinstance (by decide +kernel) (pa_cons (pv 1) (pa_cons (pe_glob (v := .ref (He.ga X.K "BadNumber")) (by rfl) T.g_BadNumber rfl) pa_nil))))
      (pw_and1 (pt_not (pt_val (pe_callB call_isiX (by rfl) T.n_isinstance (by decide +kernel) (pa_cons (pv 1) (pa_cons (pe_glob (v := .ref (He.ga X.K "NoTable")) (by rfl) T.g_NoTable rfl) pa_nil))))))))
      (pe_lst (pa_cons (pe_fldX (f := "number") (pv 1)) pa_nil)) (pe_lst (pa_cons pe_str pa_nil))))))), ?_⟩
  · exact ⟨fun pins s' σ H' D I h' => (pss_one (ps_set (i := 2) sc_law_told.nd rfl (.inl rfl) (PE.weak (act W pn xe _ _ tk)))).run pins s' σ H' D I h'⟩
  · refine ⟨le_line (by simp), fun p0 hp0 => allocN hp0 fun H1 s1 l1 => ?_⟩
    refine ⟨p0, _, rfl, SqT.of l1, rfl, _, _, rfl, _, _, rfl, rfl, ?_⟩
    refine ⟨_, fun v H' z => ?_, rfl, s1 _ _ hc, _, fun cls d H' z => ?_, h H1 s1⟩
    · refine ⟨_, rfl, rfl, _, rfl, ?_⟩
      refine ite2 (fun _ => ?_) (fun y => absurd rfl y)
      exact ⟨_, rfl, le_line (by simp), fun p hp => z p _ hp (same_upd hp) upd_same⟩
    · obtain ⟨dx, w, rfl, rfl, hdx, hq⟩ := z
      refine ⟨true, T_catch T, fun _ a ha => ⟨_, rfl, fun ha2 => ?_⟩, fun z => nomatch z⟩
      have sa : Same H' (upd H' a (XcO (.ref (He.ga X.K "BadNumber")) (some dx) a)) := same_upd ha2
      have isx : IsX (upd H' a (XcO (.ref (He.ga X.K "BadNumber")) (some dx) a)) a (He.ga X.K "BadNumber") dx [("number", w)] := ⟨upd_same, sa _ _ hdx⟩
      refine ⟨_, rfl, rfl, _, rfl, ?_⟩
      refine ite2 (fun y => absurd y (by simp)) (fun _ => ?_)
      have kk := T_kinds T
      refine ⟨_, rfl, a, _, dx, _, _, _, true, rfl, isx, CI.2.1, .own _, kk.1, _, rfl, ite2 (fun _ => ?_) (fun y => absurd rfl y)⟩
      refine ⟨_, rfl, a, _, dx, _, _, _, false, rfl, isx, CI.2.1, .own _, kk.2, _, rfl, ite2 (fun _ => ?_) (fun y => absurd rfl y)⟩
      exact ⟨_, rfl, a, _, dx, _, w, rfl, isx, rfl, CI.2.1, CI.2.2.no, le_line (by simp), fun p hp => hq p _ (none_of sa hp) (sa.trans (same_upd hp)) upd_same⟩
end
end G02
set_option Elab.async false
set_option linter.all false
set_option maxRecDepth 100000
set_option maxHeartbeats 8000000
namespace Mw
open PySem PySem.Spec PyProof.Rows L2 LamX
def rTupOf (K : PySem.W.Frag) : List V → Hp → VK → Prop := fun xs H Q => ∃ p ys, xs = [.ref p] ∧ ((SqL K H p ys ∧ ∀ l, H l = none → Q (.ref l) (upd H l (.tup ys))) ∨ (SqT K H p ys ∧ Q (.ref p) H))
/-- the name of a lambda of the def n -/
def qL (n : Str) : Str := (n ++ ".<locals>.") ++ "<lambda>"
def tellD : PyData ⊕ (Int × Int) → PyData
  | .inl d => .list [d]
  | .inr p => .tuple [.tuple [.int p.1, .int p.2]]
theorem out_tell {C : Addr} {r : PyData ⊕ (Int × Int)} {H : Hp} {Q : VK} (k : ∀ (p : Addr) (H3 : Hp), Same H H3 → Dt (Nw H H3) (tellD r) (.ref p) → Q (.ref p) H3) :
    OutFr C r H (fun v H' => ∀ (p : Addr) (H2 : Hp), H' p = none → Same H' H2 → H2 p = some (.tup [v]) → Q (.ref p) H2)
      (fun cls d H' => ∃ (dx : Addr) (w : V), cls = .ref C ∧ d = some dx ∧ H' dx = some (.xd [("number", w)]) ∧ ∀ (p : Addr) (H2 : Hp), H' p = none → Same H' H2 → H2 p = some (.lst [w]) → Q (.ref p) H2) := by
  cases r with
  | inl d =>
    intro dx w H' s e d' n
    refine ⟨dx, w, rfl, rfl, e, fun p H2 np s2 ep => k p H2 (s.trans s2) ?_⟩
    exact Dt.lst (by rw [Nw.at_ (none_of s np)]; exact ep) (DtL.cons (Dt.same (Nw.sub fun b o e1 e2 => ⟨e1, s2 _ _ e2⟩) _ _ d') DtL.nil)
  | inr q =>
    intro t H' nt s et p H2 np s2 ep
    refine k p H2 (s.trans s2) ?_
    simp only [tellD, Dt, DtL]
    exact ⟨p, [.ref t], rfl, by rw [Nw.at_ (none_of s np)]; exact ep, _, _, rfl, ⟨t, _, rfl, by rw [Nw.at_ nt]; exact s2 _ _ et, _, _, rfl, rfl, _, _, rfl, rfl, rfl⟩, rfl⟩
/-- what stands in B, but for what A tracked (its tables apart) -/
def NwE (A B : Hp) : Hp := fun b => match A b with
  | none => B b
  | some (.tbl _) => B b
  | some _ => none
theorem nwE_sub {A A2 B : Hp} (e : ExtN A A2) : Same (Nw A2 B) (NwE A B) := by
  intro b o h
  obtain ⟨h1, h2⟩ := Nw.inv h
  unfold NwE
  split
  · exact h2
  · exact h2
  · rename_i u hn hu
    have z := e b u hu (fun ps y => hn ps y)
    rw [h1] at z
    cases z
theorem tk_of {T : List (Addr × Str)} {C : Addr} {r : PyData ⊕ (Int × Int)} {t : XK → TE} {σ : L2.St} {H : Hp} {Q : VK} (hT : Tabs T H) (h : ∀ (H2 : Hp) (Q2 : VK) (E2 : XK), ExtN H H2 → Tabs T H2 → OutFr C r H2 Q2 E2 → t E2 σ H2 Q2)
    (k : ∀ (p : Addr) (H3 : Hp), ExtN H H3 → Tabs T H3 → Dt (NwE H H3) (tellD r) (.ref p) → Q (.ref p) H3) : tLam T (TTk C) t σ H Q := by
  refine ⟨hT, fun H1 ex t1 H2 s2 => ?_⟩
  have ex2 := ExtN.trans ex (ExtN.same s2)
  refine h H2 _ _ ex2 (t1.ext s2) (out_tell fun p H3 s3 d => k p H3 (ExtN.trans ex2 (ExtN.same s3)) ((t1.ext s2).ext s3) (Dt.same (nwE_sub ex2) _ _ d))
theorem outfr_mono {C : Addr} {r : PyData ⊕ (Int × Int)} {H H1 : Hp} {Q : VK} {E : XK} (s : Same H H1) (h : OutFr C r H Q E) : OutFr C r H1 Q E := by
  cases r with
  | inl d => exact outfr_same s h
  | inr p => exact fun t H' n s' e => h t H' (none_of s n) (s.trans s') e
theorem del_back {H : Hp} {a : Addr} {o : HO} (h : H a = some o) : H = upd (del H a) a o := by
  funext b
  by_cases e : b = a
  · rw [e, upd_same, h]
  · rw [upd_ne e, del_ne e]
theorem tabs_off {T : List (Addr × Str)} {G : Hp} {tl : Addr} {its : List V} (h : Tabs T (upd G tl (.lst its))) : Tabs T G := by
  have out : ∀ {b : Addr} {o : HO}, upd G tl (.lst its) b = some o → (∀ xs, o ≠ .lst xs) → G b = some o := by
    intro b o e n
    by_cases hb : b = tl
    · rw [hb, upd_same] at e
      exact absurd (Option.some.inj e).symm (n its)
    · rw [upd_ne hb] at e
      exact e
  intro p hp
  obtain ⟨q, h1, h2, h3⟩ := h p hp
  refine ⟨q, out h1 (fun _ z => nomatch z), h2, fun pos cv hc => ?_⟩
  obtain ⟨c0, e1, e2⟩ := h3 pos cv hc
  exact ⟨c0, e1, out e2 (fun _ z => nomatch (show HO.ext _ = HO.lst _ from z))⟩
/-- a tell while the list at tl is under way: G is the heap without that list -/
theorem app_step {T : List (Addr × Str)} {C : Addr} {r : PyData ⊕ (Int × Int)} {t : XK → TE} {σ : L2.St} {G : Hp} {tl : Addr} {items : List V} {Q : VK} (hG : G tl = none) (hT : Tabs T (upd G tl (.lst items)))
    (h : ∀ (H2 : Hp) (Q2 : VK) (E2 : XK), ExtN (upd G tl (.lst items)) H2 → Tabs T H2 → OutFr C r H2 Q2 E2 → t E2 σ H2 Q2)
    (k : ∀ (p : Addr) (G' : Hp), ExtN G G' → G' tl = none → Tabs T (upd G' tl (.lst items)) → Dt G' (tellD r) (.ref p) → Q (.ref p) (upd G' tl (.lst items))) : tLam T (TTk C) t σ (upd G tl (.lst items)) Q := by
  refine tk_of hT h fun p H5 ex tb d => ?_
  have at_ : H5 tl = some (.lst items) := ex _ _ upd_same (fun _ z => nomatch z)
  rw [del_back at_] at tb ⊢
  refine k p _ (fun b o e n => ?_) del_same tb (Dt.same (fun b o e => ?_) _ _ d)
  · have hb := ne_of_none e hG
    rw [del_ne hb]
    exact ex b o (by rw [upd_ne hb]; exact e) n
  · have hb : b ≠ tl := fun z => by
      unfold NwE at e
      rw [z, upd_same] at e
      cases e
    rw [del_ne hb]
    unfold NwE at e
    split at e
    · exact e
    · exact e
    · cases e
/-- the end of the law's look at a list: what was told, what was due, the list as it was -/
theorem fin_right {σ : L2.St} {F : Hp} {Q : VK} {tl a9 ls : Addr} {D1 D2 : PyData} (h8 : σ[8]? = some (some (.ref tl))) (h9 : σ[9]? = some (some (.ref a9))) (h1 : σ[1]? = some (some (.ref ls))) (h5 : σ[5]? = some (some (.str D2.shown)))
    (d1 : Dt F D1 (.ref tl)) (d2 : Dt F D1 (.ref a9)) (d3 : Dt F D2 (.ref ls)) (r1 : D1.showable = true ∧ D1.depth ≤ 60 ∧ D1.shown.length ≤ sizeLine) (r2 : D2.showable = true ∧ D2.depth ≤ 60 ∧ D2.shown.length ≤ sizeLine) (q : Q (.bl true) F) :
    tAndV (tOp rEq (tCB rRepr (tCons (tVar 8) tNil)) (tCB rRepr (tCons (tVar 9) tNil))) (tOp rEq (tCB rRepr (tCons (tVar 1) tNil)) (tVar 5)) σ F Q := by
  refine ⟨_, h8, _, D1, rfl, d1, r1.1, r1.2.1, r1.2.2, _, h9, _, D1, rfl, d2, r1.1, r1.2.1, r1.2.2, rfl, _, rfl, ite2 (fun _ => ?_) (fun z => absurd (by simp) z)⟩
  refine ⟨_, h1, _, D2, rfl, d3, r2.1, r2.2.1, r2.2.2, _, h5, rfl, ?_⟩
  rw [decide_eq_true rfl]
  exact q
theorem cpB_succ : ∀ (n : Nat) (d : PyData), cpB n d = true → cpB (n + 1) d = true
  | n, .none, _ => by cases n <;> rfl
  | n, .bool _, _ => by cases n <;> rfl
  | n, .int _, _ => by cases n <;> rfl
  | n, .str _, _ => by cases n <;> rfl
  | 0, .list _, h => by cases h
  | 0, .tuple _, h => by cases h
  | 0, .dict _, h => by cases h
  | n + 1, .list ds, h => by
    simp only [cpB, Bool.and_eq_true, List.all_eq_true] at h ⊢
    exact ⟨h.1, fun d hd => cpB_succ n d (h.2 d hd)⟩
  | n + 1, .tuple ds, h => by
    simp only [cpB, Bool.and_eq_true, List.all_eq_true] at h ⊢
    exact ⟨h.1, fun d hd => cpB_succ n d (h.2 d hd)⟩
  | n + 1, .dict kvs, h => by
    simp only [cpB] at h ⊢
    exact h
end Mw
namespace G02
open PySem PySem.Spec PyProof.Rows L2 Mw LamX
def tabs (K : PySem.W.Frag) : List (Addr × Str) := [((He.cT K pL).2, qL "_law_lists_right"), ((He.cT K pM).2, qL "law")]
def spRight (K : PySem.W.Frag) : Sp := fun vs H Q _ => ∃ (d ls : Addr) (xs : List V) (ds : List PyData), vs = [.ref d, .ref ls] ∧ H ls = some (.lst xs) ∧ DtL H ds xs ∧ ds.length ≤ 8 ∧ (∀ dd ∈ ds, NearD dd) ∧ Tabs (tabs K) H ∧ ∀ H', ExtN H H' → Tabs (tabs K) H' → Q (.bl true) H'
section
variable {P : Program} {w : World} {K : PySem.W.Frag} {mg : Str → Option Value} {base : Heap}
theorem T_tab (T : Txt K mg) : (He.cT K pL).2 ≠ (He.cT K pM).2 := of_decide_eq_true (T.more faTab (by simp [faX]))
theorem hupL (T : Txt K mg) : ∀ p ∈ tabs K, p.1 = (He.cT K pL).2 → p.2 = qL "_law_lists_right" := by
  intro p hp e
  simp only [tabs, List.mem_cons, List.not_mem_nil, or_false] at hp
  rcases hp with rfl | rfl
  · rfl
  · exact absurd e (T_tab T).symm
theorem hupM (T : Txt K mg) : ∀ p ∈ tabs K, p.1 = (He.cT K pM).2 → p.2 = qL "law" := by
  intro p hp e
  simp only [tabs, List.mem_cons, List.not_mem_nil, or_false] at hp
  rcases hp with rfl | rfl
  · exact absurd e (T_tab T)
  · rfl
theorem bk_added (T : Txt K mg) : ∀ (s : Shared) (ws : List Value), K.In s.heap → ws.length = 1 → BindsTo s (fdOf K (He.fAd K ("added", none))) ⟨[], (["fractions"] : List Str).zip ws⟩ ((["fractions"] : List Str).zip ws) := by
  intro s ws _ hl
  obtain ⟨oc, od, dV, kV, doc, pm, an, cdv, ct, osl, e, lk, hcd, hD, hK⟩ := T.f_added.ex
  rw [e]
  rcases hD with ⟨_, rfl⟩ | ⟨z, _⟩
  · match ws, hl with | [v], _ => exact BindsTo.of_eq rfl
  · exact absurd rfl z
theorem bk_multiplied (T : Txt K mg) : ∀ (s : Shared) (ws : List Value), K.In s.heap → ws.length = 1 → BindsTo s (fdOf K (He.fAd K ("multiplied", none))) ⟨[], (["fractions"] : List Str).zip ws⟩ ((["fractions"] : List Str).zip ws) := by
  intro s ws _ hl
  obtain ⟨oc, od, dV, kV, doc, pm, an, cdv, ct, osl, e, lk, hcd, hD, hK⟩ := T.f_multiplied.ex
  rw [e]
  rcases hD with ⟨_, rfl⟩ | ⟨z, _⟩
  · match ws, hl with | [v], _ => exact BindsTo.of_eq rfl
  · exact absurd rfl z
theorem ok_right (T : Txt K mg) (TB : ∀ p ∈ [pL, pM], TabB base mg (He.cT K p).1 (He.cT K p).2) : FnG P w K mg base CX0 13 (He.ga K "_law_lists_right") (fdOf K (He.ga K "_law_lists_right")) ["draw", "some"] (spRight K) := by
  have G_law_is_good : FnOk P w K mg base CX0 2 (He.ga K "_law_is_good") (fdOf K (He.ga K "_law_is_good")) ["thing_here"] spGood := ok_good T
  have G_law_plus : FnOk P w K mg base CX0 2 (He.ga K "_law_plus") (fdOf K (He.ga K "_law_plus")) ["one", "other"] (spTwo plusF) := ok_plus T
  have G_law_by : FnOk P w K mg base CX0 2 (He.ga K "_law_by") (fdOf K (He.ga K "_law_by")) ["one", "other"] (spTwo byF) := ok_by T
  have G_added := ok_added (P := P) (w := w) (base := base) T 4
  have G_multiplied := ok_multiplied (P := P) (w := w) (base := base) T 4
  obtain ⟨oc, od, dV, kV, doc, pm, an, cdv, ct, osl, efd, lk, hcg, _, _⟩ := T.f_law_told.ex
  have hbT := b_law_told T
  rw [efd] at lk hbT
  have hupL := hupL T
  refine fnG_ofT (p := pL) T.f_law_lists_right sc_law_lists_right (fun {vs H Q E} h => ?_) (fun A outer s H vs Q E hr hg h => ?_)
  · obtain ⟨_, _, _, _, rfl, _⟩ := h
    rfl
  · obtain ⟨d, ls, xs, ds, rfl, hls, hx, l8, near, tb, q⟩ := h
    have hu := hu_of hr
    refine ⟨_, PSs.nox (pss_cons (ps_asg (pe_tup (pa_cons (pe_lc (own := [("one", 6)]) (tt := tNot (tB (tCall spGood [] E0 (tCons (tVar 6) tNil)))) rfl sc_law_lists_right.nd (pi_list (pv 1)) (blkOk_by (N := N_law_lists_right) (sc := defScope s_law_lists_right) (by decide +kernel)) (fun _ _ _ _ _ => (pg_name (i := 6) sc_law_lists_right.nd rfl (.inl rfl))) (fun _ _ _ _ _ => (pts_one (pt_not (pt_val (pe_call G_law_is_good (hr.mono (by decide)) rfl T.g_law_is_good T.f_law_is_good.kp (b_law_is_good T) .nil pass0 (pa_cons (pv 6) pa_nil)))))) (fun _ _ _ _ _ => (pv 6))) (pa_cons (pe_tup (pa_cons pe_int (pa_cons pe_int pa_nil))) (pa_cons (pe_tup (pa_cons pe_int (pa_cons pe_int pa_nil))) (pa_cons (pe_callB (call_repr T.sys hg hr.units) (by rfl) T.n_repr (by decide +kernel) (pa_cons (pv 1) pa_nil)) pa_nil))))) (pg_tup (by rfl) (pgs_cons (pg_name (i := 2) sc_law_lists_right.nd rfl (.inr rfl)) (pgs_cons (pg_name (i := 3) sc_law_lists_right.nd rfl (.inl rfl)) (pgs_cons (pg_name (i := 4) sc_law_lists_right.nd rfl (.inl rfl)) (pgs_cons (pg_name (i := 5) sc_law_lists_right.nd rfl (.inl rfl)) pgs_nil))))))
  (pss_cons (ps_for PassesOwn.never rfl (pi_list (pe_lc (own := [("each", 7)]) (tt := tTest (tOp (rEqNil K) (tVar 2) (tLst tNil))) rfl sc_law_lists_right.nd (pi_list (pv 1)) (blkOk_by (N := N_law_lists_right) (sc := defScope s_law_lists_right) (by decide +kernel)) (fun _ _ _ _ _ => (pg_name (i := 7) sc_law_lists_right.nd rfl (.inl rfl))) (fun _ _ _ _ _ => (pts_one (pt_cmpR (op_eqNil hr.units) (pv 2) (pe_lst pa_nil) (nomark _)))) (fun _ _ _ _ _ => (pv 7)))) (pg_name (i := 6) sc_law_lists_right.nd rfl (.inl rfl))
  (pss_one (ps_par (i := 3) (j := 4) rfl sc_law_lists_right.nd rfl rfl (by decide) rfl rfl (pa_cons (pe_call G_law_plus (hr.mono (by decide)) rfl T.g_law_plus T.f_law_plus.kp (b_law_plus T) .nil pass0 (pa_cons (pv 3) (pa_cons (pv 6) pa_nil))) (pa_cons (pe_call G_law_by (hr.mono (by decide)) rfl T.g_law_by T.f_law_by.kp (b_law_by T) .nil pass0 (pa_cons (pv 4) (pa_cons (pv 6) pa_nil))) pa_nil)) (by rfl))))
  (pss_cons (ps_set (i := 8) sc_law_lists_right.nd rfl (.inl rfl) (pe_lst (pa_cons (pe_lamgive (T := tabs K) (g := He.ga K "_law_told") (c := (He.cT K pL).1) (P := (He.cT K pL).2) rfl T.g_law_told T.f_law_told.kp lk hcg hbT sc_law_told rfl (.inl rfl) (told_ok T) (TB _ (by simp)) rfl List.mem_cons_self hupL (k := 10) (hr.mono (by decide)) (show LamS (defScope s_law_lists_right) _ from lamS_by (by decide +kernel)) rfl (fun _ _ _ _ _ => rfl) (fun A outer s H E f c' r => (pe_call G_added (r.mono (by decide)) rfl T.g_added T.f_added.kp (b_added T) .nil (passes_call (takes_of rfl rfl rfl rfl) (fun _ _ _ _ h => h)) (pa_cons (pv 1) pa_nil)))) pa_nil)))
  (pss_cons (ps_expr (pe_bm PySem.F.plainAttrs_list PySem.F.slot_list_append PySem.F.type_list_append mt_append (pv 8) (pa_cons (pe_lamgive (T := tabs K) (g := He.ga K "_law_told") (c := (He.cT K pL).1) (P := (He.cT K pL).2) rfl T.g_law_told T.f_law_told.kp lk hcg hbT sc_law_told rfl (.inl rfl) (told_ok T) (TB _ (by simp)) rfl List.mem_cons_self hupL (k := 10) (hr.mono (by decide)) (show LamS (defScope s_law_lists_right) _ from lamS_by (by decide +kernel)) rfl (fun _ _ _ _ _ => rfl) (fun A outer s H E f c' r => (pe_call G_multiplied (r.mono (by decide)) rfl T.g_multiplied T.f_multiplied.kp (b_multiplied T) .nil (passes_call (takes_of rfl rfl rfl rfl) (fun _ _ _ _ h => h)) (pa_cons (pv 1) pa_nil)))) pa_nil)))
  (pss_cons (ps_expr (pe_bm PySem.F.plainAttrs_list PySem.F.slot_list_append PySem.F.type_list_append mt_append (pv 8) (pa_cons (pe_lamgive (t := fun E => tKw0 1 (spSum 4 (He.ga K "BadNumber") plusF (0, 1)) (fun zs => zs) E (tCons (tCB (rTupOf K) (tCons (tVar 1) tNil)) tNil)) (T := tabs K) (g := He.ga K "_law_told") (c := (He.cT K pL).1) (P := (He.cT K pL).2) rfl T.g_law_told T.f_law_told.kp lk hcg hbT sc_law_told rfl (.inl rfl) (told_ok T) (TB _ (by simp)) rfl List.mem_cons_self hupL (k := 10) (hr.mono (by decide)) (show LamS (defScope s_law_lists_right) _ from lamS_by (by decide +kernel)) rfl (fun _ _ _ _ _ => rfl) (fun A outer s H E f c' r => (pe_kw0 (ks := ["fractions"]) (g := fun ws => ws) (gV := fun zs => zs) G_added (r.mono (by decide)) rfl T.g_added T.f_added.kp (bk_added T) (fun h => h) (passes_call (takes_of rfl rfl rfl rfl) (fun _ _ _ _ h => h)) (pk_cons (pe_callTy call_tuple_of (by rfl) T.n_tuple (by decide +kernel) (pa_cons (pv 1) pa_nil)) pk_nil)))) pa_nil)))
  (pss_cons (ps_expr (pe_bm PySem.F.plainAttrs_list PySem.F.slot_list_append PySem.F.type_list_append mt_append (pv 8) (pa_cons (pe_lamgive (t := fun E => tKw0 1 (spSum 4 (He.ga K "BadNumber") byF (1, 1)) (fun zs => zs) E (tCons (tCB (rTupOf K) (tCons (tVar 1) tNil)) tNil)) (T := tabs K) (g := He.ga K "_law_told") (c := (He.cT K pL).1) (P := (He.cT K pL).2) rfl T.g_law_told T.f_law_told.kp lk hcg hbT sc_law_told rfl (.inl rfl) (told_ok T) (TB _ (by simp)) rfl List.mem_cons_self hupL (k := 10) (hr.mono (by decide)) (show LamS (defScope s_law_lists_right) _ from lamS_by (by decide +kernel)) rfl (fun _ _ _ _ _ => rfl) (fun A outer s H E f c' r => (pe_kw0 (ks := ["fractions"]) (g := fun ws => ws) (gV := fun zs => zs) G_multiplied (r.mono (by decide)) rfl T.g_multiplied T.f_multiplied.kp (bk_multiplied T) (fun h => h) (passes_call (takes_of rfl rfl rfl rfl) (fun _ _ _ _ h => h)) (pk_cons (pe_callTy call_tuple_of (by rfl) T.n_tuple (by decide +kernel) (pa_cons (pv 1) pa_nil)) pk_nil)))) pa_nil)))
  (pss_cons (ps_set (i := 9) sc_law_lists_right.nd rfl (.inl rfl) (pe_ifExp (pt_cmpR (op_eqNil hr.units) (pv 2) (pe_lst pa_nil) (nomark _)) (pe_lst (pa_cons (pe_tup (pa_cons (pv 3) pa_nil)) (pa_cons (pe_tup (pa_cons (pv 4) pa_nil)) (pa_cons (pe_tup (pa_cons (pv 3) pa_nil)) (pa_cons (pe_tup (pa_cons (pv 4) pa_nil)) pa_nil))))) (pe_op op_rep (pe_lst (pa_cons (pe_lst (pa_cons (pe_ix ix_list (pv 2) pe_int (fun _ _ => rfl)) pa_nil)) pa_nil)) pe_int)))
  (pss_one (ps_ret (pe_and (pe_cmpR op_eq (pe_callB (call_repr T.sys hg hr.units) (by rfl) T.n_repr (by decide +kernel) (pa_cons (pv 8) pa_nil)) (pe_callB (call_repr T.sys hg hr.units) (by rfl) T.n_repr (by decide +kernel) (pa_cons (pv 9) pa_nil)) (nomark _)) (pe_one (pe_cmpR op_eq (pe_callB (call_repr T.sys hg hr.units) (by rfl) T.n_repr (by decide +kernel) (pa_cons (pv 1) pa_nil)) (pv 5) (nomark _))))))))))))), ?_⟩
    -- the wrong ones
    refine ⟨_, rfl, ls, rfl, ⟨_, SqL.of hls⟩, fun D0 hD => lc_it (walk_list (xs := xs)) (fun i H' => Same H H' ∧ ∃ acc, H' D0 = some (.lst acc) ∧ DtL H ((ds.take i).filter fun d => !isFr d) acc) ⟨same_upd hD, [], upd_same, by simp only [List.take_zero, List.filter_nil]; exact DtL.nil⟩ (fun i H' _ z => SqL.of (z.1 _ _ hls)) ?_ ?_⟩
    · rintro i x H2 H2' hlt ⟨s2, acc, hacc, hfl⟩ ⟨rfl, ex⟩
      obtain ⟨dq, e1, e2⟩ := DtL.at_ hx ex
      have nq := near dq (List.mem_of_getElem? e1)
      have la := DtL.length hfl
      have ll : ((ds.take i).filter fun d => !isFr d).length ≤ 8 := Nat.le_trans (List.length_filter_le _ _) (by rw [List.length_take]; omega)
      refine ⟨rfl, _, rfl, x, dq, rfl, Dt.same s2 _ _ e2, nq.ly, nq.sh.sh, fun H3 s3 => ⟨_, rfl, ?_⟩⟩
      cases ef : isFr dq with
      | true =>
        refine ite2 (fun z => absurd z (by decide)) (fun _ => ⟨s2.trans s3, acc, s3 _ _ hacc, ?_⟩)
        rw [ls_take e1, List.filter_append]
        simp only [List.filter_cons, List.filter_nil, ef]
        simpa using hfl
      | false =>
        refine ite2 (fun _ => ?_) (fun z => absurd rfl z)
        refine ⟨_, rfl, acc, s3 _ _ hacc, small1000 (by omega), fun b o e => ?_, _, upd_same, ?_⟩
        · rw [upd_ne (ne_of_none e hD)]
          exact s3 _ _ (s2 _ _ e)
        · rw [ls_take e1, List.filter_append]
          simp only [List.filter_cons, List.filter_nil, ef]
          exact DtL.snoc e2 hfl
    · rintro H2 ⟨s2, acc, hacc, hfl⟩
      have lx := DtL.length hx
      rw [lx, List.take_length] at hfl
      have shD : Shw 480019 4 (.list ds) := (Shw.list (n := 8) (fun d hd => (near d hd).sh) l8).mono (by decide) (by decide)
      have rp := shD.rep (by decide) (by decide)
      refine ⟨le_line (by simp), fun p1 h1 => allocN h1 fun H3 s3 l3 => ⟨le_line (by simp), fun p2 h2 => allocN h2 fun H4 s4 l4 => ?_⟩⟩
      have S4 : Same H H4 := (s2.trans s3).trans s4
      refine ⟨_, rfl, _, .list ds, rfl, Dt.lst (S4 _ _ hls) (DtL.same S4 _ _ hx), rp.1, rp.2.1, rp.2.2, le_line (by simp), fun p5 h5 => allocN h5 fun H5 s5 l5 => ?_⟩
      refine ⟨p5, _, rfl, SqT.of l5, rfl, _, _, rfl, _, _, rfl, _, _, rfl, _, _, rfl, rfl, ?_⟩
      have S5 : Same H H5 := S4.trans s5
      have hD5 : H5 D0 = some (.lst acc) := s5 _ _ (s4 _ _ (s3 _ _ hacc))
      have hp1 : H5 p1 = some (.tup [.int 0, .int 1]) := s5 _ _ (s4 _ _ l3)
      have hp2 : H5 p2 = some (.tup [.int 1, .int 1]) := s5 _ _ l4
      -- the items that are added up
      obtain ⟨ds', xs', hx', al', l8', near', ey, en⟩ : ∃ (ds' : List PyData) (xs' : List V), DtL H ds' xs' ∧ (∀ d ∈ ds', isFr d = true) ∧ ds'.length ≤ 8 ∧ (∀ d ∈ ds', NearD d) ∧ (acc.isEmpty = true → ds' = ds ∧ xs' = xs) ∧ (acc.isEmpty = false → xs' = []) := by
        cases acc with
        | nil =>
          refine ⟨ds, xs, hx, fun d hd => ?_, l8, near, fun _ => ⟨rfl, rfl⟩, fun z => by cases z⟩
          have l0 := DtL.length hfl
          have z := List.eq_nil_of_length_eq_zero l0.symm
          have y := List.filter_eq_nil_iff.mp z d hd
          simpa using y
        | cons _ _ => exact ⟨[], [], DtL.nil, fun _ z => (List.not_mem_nil z).elim, by simp, fun _ z => (List.not_mem_nil z).elim, (fun z => by cases z), fun _ => rfl⟩
      have lx' := DtL.length hx'
      refine ⟨_, rfl, ls, rfl, ⟨_, SqL.of (S5 _ _ hls)⟩, fun D1 hD1 => lc_it (walk_list (xs := xs)) (fun i H' => Same H5 H' ∧ H' D1 = some (.lst (xs'.take i))) ⟨same_upd hD1, upd_same⟩ (fun i H' _ z => SqL.of (z.1 _ _ (S5 _ _ hls))) ?_ ?_⟩
      · rintro i x H6 H6' hlt ⟨s6, h6⟩ ⟨rfl, ex⟩
        refine ⟨rfl, _, rfl, le_line (by simp), fun p6 hp6 => allocN hp6 fun H7 s7 l7 => ⟨D0, p6, acc, rfl, rfl, SqL.of (s7 _ _ (s6 _ _ hD5)), SqL.of l7, _, rfl, ?_⟩⟩
        cases ea : acc.isEmpty with
        | true =>
          obtain ⟨rfl, rfl⟩ := ey ea
          refine ite2 (fun _ => ⟨_, rfl, _, s7 _ _ h6, small1000 ?_, fun b o e => ?_, ?_⟩) (fun z => absurd rfl z)
          · rw [List.length_take]
            omega
          · rw [upd_ne (ne_of_none e hD1)]
            exact s7 _ _ (s6 _ _ e)
          · rw [upd_same, ls_take ex]
        | false =>
          have e0 := en ea
          subst e0
          refine ite2 (fun z => absurd z (by decide)) (fun _ => ⟨s6.trans s7, ?_⟩)
          rw [List.take_nil]
          rw [List.take_nil] at h6
          exact s7 _ _ h6
      · rintro H6 ⟨s6, h6⟩
        have h6' : H6 D1 = some (.lst xs') := by
          rw [h6]
          cases ea : acc.isEmpty with
          | true =>
            obtain ⟨rfl, rfl⟩ := ey ea
            rw [List.take_length]
          | false =>
            rw [en ea, List.take_nil]
        have S6 : Same H H6 := S5.trans s6
        refine ⟨D1, rfl, ⟨_, SqL.of h6'⟩, ?_⟩
        refine for_it (walk_list (xs := xs')) (fun i σ H' => ∃ pt pp x6, σ = [some (.ref d), some (.ref ls), some (.ref D0), some (.ref pt), some (.ref pp), some (.str (PyData.list ds).shown), x6, none, none, none] ∧ H' pt = some (.tup [.int (((ds'.take i).map frP).foldl plusF (0, 1)).1, .int (((ds'.take i).map frP).foldl plusF (0, 1)).2]) ∧
          H' pp = some (.tup [.int (((ds'.take i).map frP).foldl byF (1, 1)).1, .int (((ds'.take i).map frP).foldl byF (1, 1)).2]) ∧ Same H6 H') ⟨p1, p2, _, rfl, s6 _ _ hp1, s6 _ _ hp2, Same.refl _⟩ (fun i σ H' _ z => ?_) ?_ ?_
        · obtain ⟨_, _, _, _, _, _, z⟩ := z
          exact SqL.of (z _ _ h6')
        · rintro i x σ H7 H7' hlt ⟨pt, pp, x6, rfl, hpt, hpp, s7⟩ ⟨rfl, ex⟩
          obtain ⟨dq, e1, e2⟩ := DtL.at_ hx' ex
          have fq := al' dq (List.mem_of_getElem? e1)
          have bq := (near' dq (List.mem_of_getElem? e1)).bd fq
          have bdl : ∀ z ∈ (ds'.take i).map frP, Bd 233 z := by
            intro z hz
            obtain ⟨y, hy, rfl⟩ := List.mem_map.mp hz
            have my := List.mem_of_mem_take hy
            exact (near' y my).bd (al' y my)
          have ln : ((ds'.take i).map frP).length ≤ 8 := by
            rw [List.length_map, List.length_take]
            omega
          have b1 : Bd 1900 (((ds'.take i).map frP).foldl plusF (0, 1)) := (fold_bd plus_bd _ 1 (0, 1) ⟨by decide, by decide, by decide⟩ bdl).mono (by omega)
          have b2 : Bd 1900 (((ds'.take i).map frP).foldl byF (1, 1)) := (fold_bd by_bd _ 1 (1, 1) ⟨by decide, by decide, by decide⟩ bdl).mono (by omega)
          obtain ⟨t, b, rfl, _, _⟩ := isFr_inv fq
          simp only [Dt] at e2
          obtain ⟨ta, ys, rfl, hta, hy⟩ := e2
          simp only [DtL, Dt] at hy
          obtain ⟨_, _, rfl, rfl, _, _, rfl, rfl, rfl⟩ := hy
          have hta7 : H7' ta = some (.tup [.int t, .int b]) := s7 _ _ (S6 _ _ hta)
          refine ⟨_, rfl, _, rfl, pt, ta, _, (t, b), rfl, hpt, hta7, b1, bq, fun u1 H8 s8 hu1 => ?_⟩
          refine ⟨_, rfl, _, rfl, pp, ta, _, (t, b), rfl, s8 _ _ hpp, s8 _ _ hta7, b2, bq, fun u2 H9 s9 hu2 => ?_⟩
          refine ⟨_, _, rfl, u1, u2, _, rfl, ?_, ?_, (s7.trans s8).trans s9⟩
          · rw [fold_snoc (op := plusF) (f0 := (0, 1)) e1]
            exact s9 _ _ hu1
          · rw [fold_snoc (op := byF) (f0 := (1, 1)) e1]
            exact hu2
        · rintro σ H7 ⟨pt, pp, x6, rfl, hpt, hpp, s7⟩
          rw [lx', List.take_length] at hpt hpp
          have S7 : Same H H7 := S6.trans s7
          -- told
          have tb7 := Tabs.ext tb S7
          have hD7 : H7 D0 = some (.lst acc) := s7 _ _ (s6 _ _ hD5)
          have itb : ItB (.list ds) := ⟨l8, fun d hd f => (near d hd).bd f⟩
          have itb2 : ItB (.tuple ds) := ⟨l8, fun d hd f => (near d hd).bd f⟩
          have cpi : ∀ d ∈ ds, cpB 3 d = true := fun d hd => (near d hd).cp
          have cpl : cpB 4 (.list ds) = true := by
            simp only [cpB, Bool.and_eq_true, List.all_eq_true, decide_eq_true_eq]
            exact ⟨by omega, cpi⟩
          have cpt : cpB 4 (.tuple ds) = true := by
            simp only [cpB, Bool.and_eq_true, List.all_eq_true, decide_eq_true_eq]
            exact ⟨by omega, cpi⟩
          have cps : ∀ d ∈ ds, cpB 4 d = true := fun d hd => cpB_succ 3 d (cpi d hd)
          have lst7 : ∀ {H2 : Hp}, ExtN H7 H2 → Dt H2 (.list ds) (.ref ls) := fun e => Dt.lst (e _ _ (S7 _ _ hls) (fun _ z => nomatch z)) (DtL.extn e _ _ (DtL.same S7 _ _ hx))
          refine tk_of (r := sumOf plusF (0, 1) (.list ds)) tb7 (fun H2 Q2 E2 e2 t2 o => ⟨_, rfl, .ref ls, .list ds, rfl, lst7 e2, cpl, cps, itb, o⟩) fun q1 G1 e1 t1 d1 => ?_
          have D1' : Dt G1 (tellD (sumOf plusF (0, 1) (.list ds))) (.ref q1) := Dt.same (fun b o e => by
            unfold NwE at e
            split at e
            · exact e
            · exact e
            · cases e) _ _ d1
          refine ⟨le_line (by simp), fun tl htl => ?_⟩
          have up : ∀ {G : Hp} {o : HO}, ExtN H7 G → G tl = none → ExtN H7 (upd G tl o) := fun e n => ExtN.trans e (ExtN.same (same_upd n))
          have e1t : ∀ {G H2 : Hp} {its : List V}, ExtN H7 G → G tl = none → ExtN (upd G tl (.lst its)) H2 → ExtN H7 H2 := fun e n e2 => ExtN.trans (up e n) e2
          refine ⟨_, rfl, .inl ⟨rfl, _, SqL.of upd_same⟩, ?_⟩
          refine app_step (r := sumOf byF (1, 1) (.list ds)) htl (t1.ext (same_upd htl)) (fun H2 Q2 E2 e2 t2 o => ⟨_, rfl, .ref ls, .list ds, rfl, lst7 (e1t e1 htl e2), cpl, cps, itb, o⟩) fun q2 G2 e2 n2 t2 d2 => ?_
          refine ⟨tl, _, _, rfl, rfl, upd_same, small1000 (by simp), ?_⟩
          rw [upd_upd]
          have x2 := ExtN.trans e1 e2
          have t2' : Tabs (tabs K) G2 := tabs_off t2
          refine ⟨_, rfl, .inl ⟨rfl, _, SqL.of upd_same⟩, ?_⟩
          have tupOf : ∀ {H2 : Hp} {op : Int × Int → Int × Int → Int × Int} {f0 : Int × Int} {Q2 : VK} {E2 : XK} {σ : L2.St}, ExtN H7 H2 → σ[1]? = some (some (.ref ls)) → OutFr (He.ga K "BadNumber") (sumOf op f0 (.list ds)) H2 Q2 E2 →
              tKw0 1 (spSum 4 (He.ga K "BadNumber") op f0) (fun zs => zs) E2 (tCons (tCB (rTupOf K) (tCons (tVar 1) tNil)) tNil) σ H2 Q2 := by
            intro H2 op f0 Q2 E2 σ e hs o
            have hl2 : H2 ls = some (.lst xs) := e _ _ (S7 _ _ hls) (fun _ z => nomatch z)
            refine ⟨.ref ls, hs, ls, xs, rfl, .inl ⟨SqL.of hl2, fun l hl => ⟨rfl, .ref l, .tuple ds, rfl, ?_, cpt, cps, itb2, outfr_mono (same_upd hl) o⟩⟩⟩
            simp only [Dt]
            exact ⟨l, xs, rfl, upd_same, DtL.same (same_upd hl) _ _ (DtL.extn e _ _ (DtL.same S7 _ _ hx))⟩
          refine app_step (r := sumOf plusF (0, 1) (.list ds)) n2 (t2'.ext (same_upd n2)) (fun H2 Q2 E2 e2 t2 o => tupOf (e1t x2 n2 e2) rfl o) fun q3 G3 e3 n3 t3 d3 => ?_
          refine ⟨tl, _, _, rfl, rfl, upd_same, small1000 (by simp), ?_⟩
          rw [upd_upd]
          have x3 := ExtN.trans x2 e3
          have t3' : Tabs (tabs K) G3 := tabs_off t3
          refine ⟨_, rfl, .inl ⟨rfl, _, SqL.of upd_same⟩, ?_⟩
          refine app_step (r := sumOf byF (1, 1) (.list ds)) n3 (t3'.ext (same_upd n3)) (fun H2 Q2 E2 e2 t2 o => tupOf (e1t x3 n3 e2) rfl o) fun q4 G4 e4 n4 t4 d4 => ?_
          refine ⟨tl, _, _, rfl, rfl, upd_same, small1000 (by simp), ?_⟩
          rw [upd_upd]
          have x4 := ExtN.trans x3 e4
          have t4' : Tabs (tabs K) G4 := tabs_off t4
          refine allocN n4 fun F0 sF0 lF0 => ?_
          have x5 : ExtN H7 F0 := ExtN.trans x4 (ExtN.same sF0)
          have tbF := t4'.ext sF0
          have told : Dt F0 (.list [tellD (sumOf plusF (0, 1) (.list ds)), tellD (sumOf byF (1, 1) (.list ds)), tellD (sumOf plusF (0, 1) (.list ds)), tellD (sumOf byF (1, 1) (.list ds))]) (.ref tl) :=
            Dt.lst lF0 (DtL.cons (Dt.extn (ExtN.trans (ExtN.trans (ExtN.trans e2 e3) e4) (ExtN.same sF0)) _ _ D1') (DtL.cons (Dt.extn (ExtN.trans (ExtN.trans e3 e4) (ExtN.same sF0)) _ _ d2) (DtL.cons (Dt.extn (ExtN.trans e4 (ExtN.same sF0)) _ _ d3) (DtL.cons (Dt.same sF0 _ _ d4) DtL.nil))))
          have hDF : F0 D0 = some (.lst acc) := x5 _ _ hD7 (fun _ z => nomatch z)
          have hptF := x5 _ _ hpt (fun _ z => nomatch z)
          have hppF := x5 _ _ hpp (fun _ z => nomatch z)
          have somF := lst7 x5
          have xF : ExtN H F0 := ExtN.trans (ExtN.same S7) x5
          refine ⟨_, rfl, le_line (by simp), fun p6 hp6 => allocN hp6 fun F1 sF1 lF1 => ⟨D0, p6, acc, rfl, rfl, SqL.of (sF1 _ _ hDF), SqL.of lF1, _, rfl, ?_⟩⟩
          cases ea : acc.isEmpty with
          | true =>
            obtain ⟨rfl, rfl⟩ := ey ea
            have ck : chkOf (.list ds') = none := find_none fun y hy => by rw [al' y hy]; rfl
            have rA : ∀ (op : Int × Int → Int × Int → Int × Int) (f0 : Int × Int), sumOf op f0 (.list ds') = .inr ((ds'.map frP).foldl op f0) := fun op f0 => by
              simp only [sumOf, ck, itemsD]
            have bdl : ∀ z ∈ ds'.map frP, Bd 233 z := by
              intro z hz
              obtain ⟨y, hy, rfl⟩ := List.mem_map.mp hz
              exact (near' y hy).bd (al' y hy)
            have b1 : Bd 1900 ((ds'.map frP).foldl plusF (0, 1)) := (fold_bd plus_bd _ 1 (0, 1) ⟨by decide, by decide, by decide⟩ bdl).mono (by rw [List.length_map]; omega)
            have b2 : Bd 1900 ((ds'.map frP).foldl byF (1, 1)) := (fold_bd by_bd _ 1 (1, 1) ⟨by decide, by decide, by decide⟩ bdl).mono (by rw [List.length_map]; omega)
            have shp : ∀ {p : Int × Int}, Bd 1900 p → Shw 3854 2 (tellD (.inr p)) := fun hp => by
              have i1 : Shw 1921 0 (.int _) := Shw.int (log_of hp.2.1 (by decide) (by decide))
              have i2 : Shw 1921 0 (.int _) := Shw.int (log_of hp.2.2 (by decide) (by decide))
              have two : Shw 3849 1 (.tuple [.int _, .int _]) := Shw.tuple (w := 1921) (k := 0) (n := 2) (ds := [_, _]) (fun d hd => by
                rcases List.mem_cons.mp hd with rfl | hd
                · exact i1
                · rw [List.mem_singleton.mp hd]
                  exact i2) (Nat.le_refl _)
              exact Shw.tuple (w := 3849) (k := 1) (n := 1) (ds := [_]) (fun d hd => by
                rw [List.mem_singleton.mp hd]
                exact two) (Nat.le_refl _)
            rw [rA, rA] at told
            generalize (ds'.map frP).foldl plusF (0, 1) = tp at hptF b1 told
            generalize (ds'.map frP).foldl byF (1, 1) = bp at hppF b2 told
            refine ite2 (fun _ => ?_) (fun z => absurd rfl z)
            refine ⟨_, rfl, le_line (by simp), fun a1 ha1 => allocN ha1 fun F2 sF2 lF2 => ⟨_, rfl, le_line (by simp), fun a2 ha2 => allocN ha2 fun F3 sF3 lF3 => ⟨_, rfl, le_line (by simp), fun a3 ha3 => allocN ha3 fun F4 sF4 lF4 => ⟨_, rfl, le_line (by simp), fun a4 ha4 => allocN ha4 fun F5 sF5 lF5 => ⟨le_line (by simp), fun a9 ha9 => allocN ha9 fun F6 sF6 lF6 => ?_⟩⟩⟩⟩⟩
            have s56 := sF6
            have s46 := sF5.trans s56
            have s36 := sF4.trans s46
            have s26 := sF3.trans s36
            have s06 : Same F0 F6 := sF1.trans (sF2.trans s26)
            have one : ∀ {a pa : Addr} {p : Int × Int}, F6 a = some (.tup [.ref pa]) → F6 pa = some (.tup [.int p.1, .int p.2]) → Dt F6 (tellD (.inr p)) (.ref a) := fun h1 h2 => by
              simp only [tellD, Dt, DtL]
              exact ⟨_, _, rfl, h1, _, _, rfl, ⟨_, _, rfl, h2, _, _, rfl, rfl, _, _, rfl, rfl, rfl⟩, rfl⟩
            have due : Dt F6 (.list [tellD (.inr tp), tellD (.inr bp), tellD (.inr tp), tellD (.inr bp)]) (.ref a9) :=
              Dt.lst lF6 (DtL.cons (one (s26 _ _ lF2) (s06 _ _ hptF)) (DtL.cons (one (s36 _ _ lF3) (s06 _ _ hppF)) (DtL.cons (one (s46 _ _ lF4) (s06 _ _ hptF)) (DtL.cons (one (s56 _ _ lF5) (s06 _ _ hppF)) DtL.nil))))
            have shl : Shw 15427 3 (.list [tellD (.inr tp), tellD (.inr bp), tellD (.inr tp), tellD (.inr bp)]) := Shw.list (w := 3854) (k := 2) (n := 4) (ds := [_, _, _, _]) (fun d hd => by
              simp only [List.mem_cons, List.not_mem_nil, or_false] at hd
              rcases hd with rfl | rfl | rfl | rfl
              · exact shp b1
              · exact shp b2
              · exact shp b1
              · exact shp b2) (Nat.le_refl _)
            exact fin_right rfl rfl rfl rfl (Dt.same s06 _ _ told) due (Dt.same s06 _ _ somF) (shl.rep (by decide) (by decide)) rp (q F6 (ExtN.trans xF (ExtN.same s06)) (tbF.ext s06))
          | false =>
            refine ite2 (fun z => absurd z (by decide)) (fun _ => ?_)
            match acc, ea, hfl, hDF with
            | x0 :: racc, _, hfl, hDF =>
              cases hw : (ds.filter fun d => !isFr d) with
              | nil =>
                rw [hw] at hfl
                simp only [DtL] at hfl
                cases hfl
              | cons d0 r0 =>
                rw [hw] at hfl
                simp only [DtL] at hfl
                obtain ⟨x0', r0', e0, hd0, _⟩ := hfl
                cases e0
                have m0 : d0 ∈ ds := (List.mem_filter.mp (by rw [hw]; exact List.mem_cons_self : d0 ∈ ds.filter fun d => !isFr d)).1
                have ck : chkOf (.list ds) = some d0 := by
                  show ds.find? (fun d => !isFr d) = some d0
                  rw [← List.head?_filter, hw]
                  rfl
                have rA : ∀ (op : Int × Int → Int × Int → Int × Int) (f0 : Int × Int), sumOf op f0 (.list ds) = .inl d0 := fun op f0 => by
                  simp only [sumOf, ck]
                rw [rA, rA] at told
                refine ⟨_, rfl, _, _, (0 : Nat), _, rfl, rfl, SqL.of (sF1 _ _ hDF), at_of rfl rfl, le_line (by simp), fun a1 ha1 => allocN ha1 fun F2 sF2 lF2 => ⟨le_line (by simp), fun a2 ha2 => allocN ha2 fun F3 sF3 lF3 => ?_⟩⟩
                refine ⟨a2, 4, [.ref a1], rfl, rfl, lF3, by decide, by decide, le_line (by show 1 * 4 ≤ 1000; decide), fun a9 ha9 => allocN ha9 fun F4 sF4 lF4 => ?_⟩
                have s24 := sF3.trans sF4
                have s04 : Same F0 F4 := sF1.trans (sF2.trans s24)
                have one : Dt F4 (tellD (.inl d0)) (.ref a1) := Dt.lst (s24 _ _ lF2) (DtL.cons (Dt.same s04 _ _ (Dt.extn xF _ _ hd0)) DtL.nil)
                have due : Dt F4 (.list [tellD (.inl d0), tellD (.inl d0), tellD (.inl d0), tellD (.inl d0)]) (.ref a9) :=
                  Dt.lst lF4 (DtL.cons one (DtL.cons one (DtL.cons one (DtL.cons one DtL.nil))))
                have sh1 : Shw 60005 4 (tellD (.inl d0)) := Shw.list (w := 60000) (k := 3) (n := 1) (ds := [_]) (fun d hd => by
                  rw [List.mem_singleton.mp hd]
                  exact (near d0 m0).sh) (Nat.le_refl _)
                have shl : Shw 240031 5 (.list [tellD (.inl d0), tellD (.inl d0), tellD (.inl d0), tellD (.inl d0)]) := Shw.list (w := 60005) (k := 4) (n := 4) (ds := [_, _, _, _]) (fun d hd => by
                  simp only [List.mem_cons, List.not_mem_nil, or_false, or_self] at hd
                  rw [hd]
                  exact sh1) (Nat.le_refl _)
                exact fin_right rfl rfl rfl rfl (Dt.same s04 _ _ told) due (Dt.same s04 _ _ somF) (shl.rep (by decide) (by decide)) rp (q F4 (ExtN.trans xF (ExtN.same s04)) (tbF.ext s04))
end
end G02
set_option Elab.async false
set_option linter.all false
set_option maxRecDepth 100000
set_option maxHeartbeats 8000000
namespace Mw
open PySem PySem.Spec PyProof.Rows L2 LamX
/-- two given the other way about -/
def swp {α : Type} : List α → List α
  | [x, y] => [y, x]
  | l => l
theorem swp_rel {zs : List V} {ws : List Value} (h : Vals zs ws) : Vals (swp zs) (swp ws) := by
  cases h with
  | nil => exact .nil
  | cons h1 t =>
    cases t with
    | nil => exact .cons h1 .nil
    | cons h2 t =>
      cases t with
      | nil => exact .cons h2 (.cons h1 .nil)
      | cons h3 t => exact .cons h1 (.cons h2 (.cons h3 t))
theorem passF {P : Program} {w : World} {X : Cx} : Passes (L2.CX P w) X C8.E0 := fun _ _ _ _ _ _ _ h => by
  obtain ⟨_, _, _, _, _, _, _, _, _, _, _, _, z⟩ := h
  exact z.elim
theorem nwE_le {H H' : Hp} : Same (NwE H H') H' := fun b o e => by
  unfold NwE at e
  split at e
  · exact e
  · exact e
  · cases e
/-- what was told and what was due, written out: the same -/
theorem ne_told {T : List (Addr × Str)} {C : Addr} {r : PyData ⊕ (Int × Int)} {t : XK → TE} {σ : L2.St} {H : Hp} {pd : Addr} {Kc : Bool → Hp → Prop} (hT : Tabs T H)
    (h5 : σ[5]? = some (some (.ref pd))) (d5 : Dt H (tellD r) (.ref pd)) (sh : (tellD r).showable = true ∧ (tellD r).depth ≤ 60 ∧ (tellD r).shown.length ≤ sizeLine)
    (h : ∀ (H2 : Hp) (Q2 : VK) (E2 : XK), ExtN H H2 → Tabs T H2 → OutFr C r H2 Q2 E2 → t E2 σ H2 Q2) (k : ∀ H', ExtN H H' → Tabs T H' → Kc false H') :
    tTest (tOp rNe (tCB rRepr (tCons (tLam T (TTk C) t) tNil)) (tCB rRepr (tCons (tVar 5) tNil))) σ H Kc := by
  refine tk_of hT h fun p H3 e3 t3 d3 => ?_
  refine ⟨_, tellD r, rfl, Dt.same nwE_le _ _ d3, sh.1, sh.2.1, sh.2.2, _, h5, _, tellD r, rfl, Dt.extn e3 _ _ d5, sh.1, sh.2.1, sh.2.2, rfl, _, rfl, ?_⟩
  rw [decide_eq_true rfl]
  exact k H3 e3 t3
/-- what fraction is told of two numbers, as it is due -/
theorem due_ok {σ : L2.St} {H : Hp} {Q : VK} {o ot : Int} (h3 : σ[3]? = some (some (.int o))) (h4 : σ[4]? = some (some (.int ot))) (hb : ot.natAbs < 2 ^ 8000) (k : ∀ (pd : Addr) (H' : Hp), Same H H' → Dt H' (tellD (frOf (.int o) (.int ot))) (.ref pd) → Q (.ref pd) H') :
    tIf (tTest (tOp (rI0 fun i j => V.bl (decide (i < j))) (tVar 4) (tC (V.int 1)))) (tLst (tCons (tVar 4) tNil))
      (tTup (tCons (tCall spDiv [] C8.E0 (tCons (tVar 3) (tCons (tCB (fun xs H Q => ∃ i j, xs = [V.int i, V.int j] ∧ Q (V.int (if j > i then j else i)) H) (tCons (tC (V.int 1)) (tCons (tVar 4) tNil))) tNil))) tNil)) σ H Q := by
  refine ⟨_, h4, _, _, rfl, rfl, _, rfl, ?_⟩
  by_cases lt : ot < 1
  · refine ite2 (fun _ => ?_) (fun z => absurd (decide_eq_true lt) z)
    refine ⟨_, h4, le_line (by simp), fun p hp => allocN hp fun H2 s2 l2 => k p H2 s2 ?_⟩
    have e : frOf (.int o) (.int ot) = .inl (.int ot) := if_pos lt
    rw [e]
    exact Dt.lst l2 (DtL.cons (by simp only [Dt]) DtL.nil)
  · refine ite2 (fun z => absurd (of_decide_eq_true z) lt) (fun _ => ?_)
    have e : frOf (.int o) (.int ot) = .inr (nrm o ot) := if_neg lt
    have mx : (if ot > 1 then ot else 1) = ot := by split <;> omega
    refine ⟨_, h3, _, h4, _, _, rfl, _, _, rfl, by rw [mx]; omega, by rw [mx]; exact hb, fun t H2 s2 l2 => ?_⟩
    refine ⟨le_line (by simp), fun p hp => allocN hp fun H3 s3 l3 => k p H3 (s2.trans s3) ?_⟩
    rw [mx] at l2
    rw [e]
    simp only [tellD, Dt, DtL]
    exact ⟨p, _, rfl, l3, _, _, rfl, ⟨t, _, rfl, s3 _ _ l2, _, _, rfl, rfl, _, _, rfl, rfl, rfl⟩, rfl⟩
theorem out_pair {C : Addr} {r : PyData ⊕ (Int × Int)} {p : Int × Int} {H : Hp} {Q : VK} {E : XK} (e : r = .inr p) (k : ∀ (t : Addr) (H' : Hp), H t = none → Same H H' → H' t = some (.tup [.int p.1, .int p.2]) → Q (.ref t) H') : OutFr C r H Q E := by
  rw [e]
  exact k
theorem fr_one (o : Int) : frOf (.int o) (.int 1) = .inr (o, 1) := by
  show (if (1 : Int) < 1 then Sum.inl (PyData.int 1) else Sum.inr (nrm o 1)) = _
  rw [if_neg (by decide)]
  simp [nrm]
theorem ne_pair {K : PySem.W.Frag} {H : Hp} {Kc : Bool → Hp → Prop} {x y : Addr} {o b : Int} (hx : H x = some (.tup [.int o, .int b])) (hy : H y = some (.tup [.int o, .int b])) (k : Kc false H) : rNeD K (.ref x) (.ref y) H (fun v H' => ∃ c, v = .bl c ∧ Kc c H') := by
  have e : PyData.eqv (.tuple [.int o, .int b]) (.tuple [.int o, .int b]) = true := by simp [PyData.eqv, PyData.eqvAll]
  refine ⟨.tuple [.int o, .int b], .tuple [.int o, .int b], .tup (SqT.of hx) (.cons (.int _) (.cons (.int _) .nil)), .tup (SqT.of hy) (.cons (.int _) (.cons (.int _) .nil)), rfl, rfl, _, rfl, ?_⟩
  rw [e]
  exact k
/-- two told values, written out, against [[v]] * 2 -/
theorem ne_rep {σ : L2.St} {F : Hp} {Kc : Bool → Hp → Prop} {tl : Addr} {i : Nat} {v : V} {d : PyData} (h7 : σ[7]? = some (some (.ref tl))) (hi : σ[i]? = some (some v)) (dt : Dt F (.list [.list [d], .list [d]]) (.ref tl)) (dv : Dt F d v) (sh : Shw 60000 3 d)
    (k : ∀ F', Same F F' → Kc false F') : tTest (tOp rNe (tCB rRepr (tCons (tVar 7) tNil)) (tCB rRepr (tCons (tOp rRep (tLst (tCons (tLst (tCons (tVar i) tNil)) tNil)) (tC (V.int 2))) tNil))) σ F Kc := by
  have s1 : Shw 60005 4 (.list [d]) := Shw.list (w := 60000) (k := 3) (n := 1) (ds := [_]) (fun x hx => by
    rw [List.mem_singleton.mp hx]
    exact sh) (Nat.le_refl _)
  have s2 : Shw 120017 5 (.list [.list [d], .list [d]]) := Shw.list (w := 60005) (k := 4) (n := 2) (ds := [_, _]) (fun x hx => by
    simp only [List.mem_cons, List.not_mem_nil, or_false, or_self] at hx
    rw [hx]
    exact s1) (Nat.le_refl _)
  have rp := s2.rep (by decide) (by decide)
  refine ⟨_, h7, _, _, rfl, dt, rp.1, rp.2.1, rp.2.2, _, hi, le_line (by simp), fun a1 h1 => allocN h1 fun F2 t2 l2 => ⟨le_line (by simp), fun a2 h2 => allocN h2 fun F3 t3 l3 => ?_⟩⟩
  refine ⟨a2, 2, [.ref a1], rfl, rfl, l3, by decide, by decide, le_line (by show 1 * 2 ≤ 1000; decide), fun a9 h9 => allocN h9 fun F4 t4 l4 => ?_⟩
  have one : Dt F4 (.list [d]) (.ref a1) := Dt.lst (t4 _ _ (t3 _ _ l2)) (DtL.cons (Dt.same ((t2.trans t3).trans t4) _ _ dv) DtL.nil)
  refine ⟨_, .list [.list [d], .list [d]], rfl, Dt.lst l4 (DtL.cons one (DtL.cons one DtL.nil)), rp.1, rp.2.1, rp.2.2, rfl, _, rfl, ?_⟩
  rw [decide_eq_true rfl]
  exact k F4 ((t2.trans t3).trans t4)
/-- what is told of two numbers, written out, is not long -/
theorem shw_fr {o ot : Int} (ho : o.natAbs < 10 ^ 70) (ht : ot.natAbs < 10 ^ 70) : Shw 4000 2 (tellD (frOf (.int o) (.int ot))) := by
  have p70 : (10 : Nat) ^ 70 ≤ 2 ^ 233 := by decide
  by_cases lt : ot < 1
  · rw [show frOf (.int o) (.int ot) = .inl (.int ot) from if_pos lt]
    have i2 : Shw 1921 0 (.int ot) := Shw.int (log_of (m := 233) (Nat.lt_of_lt_of_le ht p70) (by decide) (by decide))
    exact (Shw.list (w := 1921) (k := 0) (n := 1) (ds := [_]) (fun d hd => by
      rw [List.mem_singleton.mp hd]
      exact i2) (Nat.le_refl _)).mono (by decide) (by decide)
  · rw [show frOf (.int o) (.int ot) = .inr (nrm o ot) from if_neg lt]
    have bd : Bd 233 (nrm o ot) := nrm_bd (by omega) (Nat.lt_of_lt_of_le ho p70) (Nat.lt_of_lt_of_le ht p70)
    generalize nrm o ot = p at bd
    have i1 : Shw 1921 0 (.int p.1) := Shw.int (log_of bd.2.1 (by decide) (by decide))
    have i2 : Shw 1921 0 (.int p.2) := Shw.int (log_of bd.2.2 (by decide) (by decide))
    have two : Shw 3849 1 (.tuple [.int p.1, .int p.2]) := Shw.tuple (w := 1921) (k := 0) (n := 2) (ds := [_, _]) (fun d hd => by
      rcases List.mem_cons.mp hd with rfl | hd
      · exact i1
      · rw [List.mem_singleton.mp hd]
        exact i2) (Nat.le_refl _)
    exact (Shw.tuple (w := 3849) (k := 1) (n := 1) (ds := [_]) (fun d hd => by
      rw [List.mem_singleton.mp hd]
      exact two) (Nat.le_refl _)).mono (by decide) (by decide)
/-- values that are no numbers, and no fractions of themselves -/
def oddL : List PyData := [.bool true, .none, .str "1", .tuple [.int 1, .int 1], .list [], .dict [], .bool false]
theorem oddL_ok : ∀ dd ∈ oddL, cpB 3 dd = true ∧ frOf dd (.int 0) = .inl dd ∧ frOf (.int 1) dd = .inl dd ∧ ∀ b, dd ≠ .int b := by
  intro dd h
  simp only [oddL, List.mem_cons, List.not_mem_nil, or_false] at h
  rcases h with rfl | rfl | rfl | rfl | rfl | rfl | rfl <;> exact ⟨rfl, rfl, rfl, nofun⟩
theorem oddL_shw : ∀ dd ∈ oddL, Shw 60000 3 dd := by
  intro dd h
  refine (odd_shw dd ?_).mono (by decide) (by decide)
  simp only [oddL, List.mem_cons, List.not_mem_nil, or_false] at h
  rcases h with rfl | rfl | rfl | rfl | rfl | rfl | rfl <;> simp [oddD]
theorem nrm_fr (t : Int) {b : Int} (hb : 1 ≤ b) : isFr (.tuple [.int (nrm t b).1, .int (nrm t b).2]) = true := by
  have g0 : 0 < Nat.gcd t.natAbs b.natAbs := Nat.gcd_pos_of_pos_right _ (by omega)
  obtain ⟨c, hc⟩ := Nat.gcd_dvd_right t.natAbs b.natAbs
  obtain ⟨e, he⟩ := Nat.gcd_dvd_left t.natAbs b.natAbs
  have h1 : Nat.gcd e c = 1 := by
    have z : Nat.gcd (Nat.gcd t.natAbs b.natAbs * e) (Nat.gcd t.natAbs b.natAbs * c) = Nat.gcd t.natAbs b.natAbs := by rw [← he, ← hc]
    rw [Nat.gcd_mul_left] at z
    exact Nat.eq_of_mul_eq_mul_left g0 (by rw [z, Nat.mul_one])
  have bd : Bd (t.natAbs + b.natAbs + 1) (nrm t b) := nrm_bd hb (Nat.lt_of_le_of_lt (by omega) Nat.lt_two_pow_self) (Nat.lt_of_le_of_lt (by omega) Nat.lt_two_pow_self)
  have quo : ∀ {x : Int} {y : Nat}, x.natAbs = Nat.gcd t.natAbs b.natAbs * y → (x / (Nat.gcd t.natAbs b.natAbs : Nat)).natAbs = y := by
    intro x y h
    generalize Nat.gcd t.natAbs b.natAbs = g at h g0
    have g1 : (g : Int) ≠ 0 := by omega
    rcases Int.natAbs_eq x with q | q
    · rw [q, h, Int.natCast_mul, Int.mul_ediv_cancel_left _ g1]
      exact Int.natAbs_natCast y
    · rw [q, h, Int.natCast_mul, ← Int.mul_neg, Int.mul_ediv_cancel_left _ g1, Int.natAbs_neg]
      exact Int.natAbs_natCast y
  rw [isFr_two]
  refine Bool.and_eq_true_iff.mpr ⟨decide_eq_true bd.1, decide_eq_true ?_⟩
  show Nat.gcd (t / _).natAbs (b / _).natAbs = 1
  rw [quo he, quo hc]
  exact h1
theorem hid_tup {H : Hp} {d W C p : Addr} {n : Nat} {xs : List V} (D : Drw H d W C n) (h : H p = some (.tup xs)) : Hid d W H p = some (.tup xs) := by
  obtain ⟨⟨r, t, ws, cs, a, b, c, e, f⟩, g⟩ := D
  rw [Hid.at_ (fun z => by rw [z, a] at h; cases h) (fun z => by rw [z, b] at h; cases h)]
  exact h
/-- what is_fraction tells of two values, written out, against the law's own look -/
theorem ne_near {σ : L2.St} {F : Hp} {Kc : Bool → Hp → Prop} {v9 : V} {p8 : Addr} {dd : PyData} {t b : Int} {n : Nat} {E1 E2 E3 : XK} (n1 : n = 1) (h9 : σ[9]? = some (some v9)) (h8 : σ[8]? = some (some (.ref p8))) (d9 : Dt F dd v9) (nd : NearD dd)
    (e8 : F p8 = some (.tup [.int t, .int b])) (fr : isFr (.tuple [.int t, .int b]) = true) (k : ∀ F', Same F F' → Kc false F') :
    tTest (tOp rNe (tCB rRepr (tCons (tLst (tCons (tCall spIsFr [] E1 (tCons (tVar 9) tNil)) (tCons (tKw0 n spIsFr (fun zs => zs) E2 (tCons (tVar 8) tNil)) tNil))) tNil))
      (tCB rRepr (tCons (tLst (tCons (tCall spGood [] E3 (tCons (tVar 9) tNil)) (tCons (tC (V.bl true)) tNil))) tNil))) σ F Kc := by
  subst n1
  have rp : ∀ c : Bool, (PyData.list [.bool c, .bool true]).showable = true ∧ (PyData.list [.bool c, .bool true]).depth ≤ 60 ∧ (PyData.list [.bool c, .bool true]).shown.length ≤ sizeLine := by
    intro c
    have i1 : Shw 10 0 (.bool c) := by cases c <;> exact ⟨rfl, by decide, by decide⟩
    have i2 : Shw 10 0 (.bool true) := ⟨rfl, by decide, by decide⟩
    exact (Shw.list (w := 10) (k := 0) (n := 2) (ds := [_, _]) (fun x hx => by
      rcases List.mem_cons.mp hx with rfl | hx
      · exact i1
      · rw [List.mem_singleton.mp hx]
        exact i2) (Nat.le_refl _)).rep (by decide) (by decide)
  have pd : Dt F (.tuple [.int t, .int b]) (.ref p8) := by
    simp only [Dt, DtL]
    exact ⟨p8, _, rfl, e8, _, _, rfl, rfl, _, _, rfl, rfl, rfl⟩
  refine ⟨_, h9, v9, dd, rfl, d9, _, h8, rfl, .ref p8, _, rfl, pd, le_line (by simp), fun a1 h1 => allocN h1 fun F1 s1 l1 => ?_⟩
  have lst : ∀ {G : Hp} {a : Addr} {c : Bool}, G a = some (.lst [.bl c, .bl true]) → Dt G (.list [.bool c, .bool true]) (.ref a) := fun h => Dt.lst h (DtL.cons (by simp only [Dt]) (DtL.cons (by simp only [Dt]) DtL.nil))
  rw [fr] at l1
  have r1 := rp (isFr dd)
  refine ⟨_, _, rfl, lst l1, r1.1, r1.2.1, r1.2.2, _, h9, v9, dd, rfl, Dt.same s1 _ _ d9, nd.ly, nd.sh.sh, fun F2 s2 => ?_⟩
  refine ⟨le_line (by simp), fun a3 h3 => allocN h3 fun F3 s3 l3 => ⟨_, _, rfl, lst l3, r1.1, r1.2.1, r1.2.2, rfl, _, rfl, ?_⟩⟩
  rw [decide_eq_true rfl]
  exact k F3 ((s1.trans s2).trans s3)
/-- a fraction that stands -/
def FrAt (G : Hp) (x : V) : Prop := ∃ (t : Addr) (p : Int × Int), x = .ref t ∧ G t = some (.tup [.int p.1, .int p.2]) ∧ Bd 233 p ∧ isFr (.tuple [.int p.1, .int p.2]) = true
theorem FrAt.same {G G' : Hp} {x : V} (h : FrAt G x) (s : Same G G') : FrAt G' x := by
  obtain ⟨t, p, e, h1, h2, h3⟩ := h
  exact ⟨t, p, e, s _ _ h1, h2, h3⟩
theorem FrAt.off {G : Hp} {d W D : Addr} {acc : List V} {o : HO} {x : V} (h : FrAt (Hid d W G) x) (hD : G D = some (.lst acc)) : FrAt (Hid d W (upd G D o)) x := by
  obtain ⟨t, p, e, h1, h2, h3⟩ := h
  have e1 := Hid.sub d W G _ _ h1
  have tD : t ≠ D := fun z => by
    rw [z, hD] at e1
    cases e1
  have ne : ¬ (t = d ∨ t = W) := fun z => by
    unfold Hid at h1
    rw [if_pos z] at h1
    cases h1
  refine ⟨t, p, e, ?_, h2, h3⟩
  unfold Hid
  rw [if_neg ne, upd_ne tD]
  exact e1
theorem drw_nes {H : Hp} {d W C D : Addr} {n : Nat} (h : Drw H d W C n) (hD : H D = none) : D ≠ d ∧ D ≠ W ∧ D ≠ C := by
  obtain ⟨⟨r, t, ws, cs, a, b, c, e, f⟩, g⟩ := h
  refine ⟨fun z => ?_, fun z => ?_, fun z => ?_⟩
  · rw [z, a] at hD
    cases hD
  · rw [z, b] at hD
    cases hD
  · rw [z, c] at hD
    cases hD
theorem drw_off {H : Hp} {d W C D : Addr} {n : Nat} {o : HO} (h : Drw H d W C n) (ne : D ≠ d ∧ D ≠ W ∧ D ≠ C) : Drw (upd H D o) d W C n := by
  obtain ⟨⟨r, t, ws, cs, a, b, c, e, f⟩, g⟩ := h
  exact ⟨⟨r, t, ws, cs, (upd_ne ne.1.symm).trans a, (upd_ne ne.2.1.symm).trans b, (upd_ne ne.2.2.symm).trans c, e, f⟩, g⟩
theorem tabs_lst {T : List (Addr × Str)} {G : Hp} {D : Addr} {acc : List V} {o : HO} (h : Tabs T G) (hD : G D = some (.lst acc)) : Tabs T (upd G D o) := by
  rw [del_back hD] at h
  refine (tabs_off h).ext fun b u e => ?_
  have hb : b ≠ D := fun z => by
    rw [z, del_same] at e
    cases e
  rw [del_ne hb] at e
  rw [upd_ne hb]
  exact e
theorem fr_near {p : Int × Int} (bd : Bd 233 p) (fr : isFr (.tuple [.int p.1, .int p.2]) = true) : NearD (.tuple [.int p.1, .int p.2]) := by
  have i1 : Shw 1921 0 (.int p.1) := Shw.int (log_of bd.2.1 (by decide) (by decide))
  have i2 : Shw 1921 0 (.int p.2) := Shw.int (log_of bd.2.2 (by decide) (by decide))
  refine ⟨rfl, (Shw.tuple (w := 1921) (k := 0) (n := 2) (ds := [_, _]) (fun d hd => by
    rcases List.mem_cons.mp hd with rfl | hd
    · exact i1
    · rw [List.mem_singleton.mp hd]
      exact i2) (Nat.le_refl _)).mono (by decide) (by decide), fun _ => bd, rfl⟩
theorem frs_data {G : Hp} : ∀ {acc : List V}, (∀ x ∈ acc, FrAt G x) → ∃ ds : List PyData, DtL G ds acc ∧ ds.length = acc.length ∧ (∀ dd ∈ ds, NearD dd) ∧ ∀ x ∈ acc, FrAt G x
  | [], h => ⟨[], DtL.nil, rfl, (fun _ z => nomatch z), h⟩
  | x :: acc, h => by
    obtain ⟨ds, h1, h2, h3, _⟩ := frs_data fun y hy => h y (List.mem_cons_of_mem _ hy)
    obtain ⟨t, p, rfl, e1, e2, e3⟩ := h x List.mem_cons_self
    refine ⟨.tuple [.int p.1, .int p.2] :: ds, DtL.cons ?_ h1, by rw [List.length_cons, List.length_cons, h2], fun dd hd => ?_, h⟩
    · simp only [Dt, DtL]
      exact ⟨t, _, rfl, e1, _, _, rfl, rfl, _, _, rfl, rfl, rfl⟩
    · rcases List.mem_cons.mp hd with rfl | hd
      · exact fr_near e2 e3
      · exact h3 dd hd
/-- all but what is frozen stays -/
def ExtF (H H' : Hp) : Prop := ∀ b o, H b = some o → (∀ od u, o ≠ .frz od u) → H' b = some o
mutual
theorem Dt.extf {H H' : Hp} (s : ExtF H H') : ∀ (d : PyData) (v : V), Dt H d v → Dt H' d v
  | .none, v, h => by simpa only [Dt] using h
  | .bool _, v, h => by simpa only [Dt] using h
  | .int _, v, h => by simpa only [Dt] using h
  | .str _, v, h => by simpa only [Dt] using h
  | .list ds, v, h => by
    simp only [Dt] at h ⊢
    obtain ⟨a, xs, e, ha, hd⟩ := h
    exact ⟨a, xs, e, s _ _ ha (fun _ _ z => nomatch z), DtL.extf s ds xs hd⟩
  | .tuple ds, v, h => by
    simp only [Dt] at h ⊢
    obtain ⟨a, xs, e, ha, hd⟩ := h
    exact ⟨a, xs, e, s _ _ ha (fun _ _ z => nomatch z), DtL.extf s ds xs hd⟩
  | .dict kvs, v, h => by
    simp only [Dt] at h ⊢
    obtain ⟨a, e, ⟨es, ha, hd⟩ | ⟨es, ha, hd⟩⟩ := h
    · exact ⟨a, e, .inl ⟨es, s _ _ ha (fun _ _ z => nomatch z), DtK.extf s kvs es hd⟩⟩
    · exact ⟨a, e, .inr ⟨es, s _ _ ha (fun _ _ z => nomatch z), DtT.extf s kvs es hd⟩⟩
theorem DtL.extf {H H' : Hp} (s : ExtF H H') : ∀ (ds : List PyData) (xs : List V), DtL H ds xs → DtL H' ds xs
  | [], xs, h => by simpa only [DtL] using h
  | d :: ds, xs, h => by
    simp only [DtL] at h ⊢
    obtain ⟨x, r, e, hx, hr⟩ := h
    exact ⟨x, r, e, Dt.extf s d x hx, DtL.extf s ds r hr⟩
theorem DtK.extf {H H' : Hp} (s : ExtF H H') : ∀ (ds : List (PyData × PyData)) (xs : List (Key × V)), DtK H ds xs → DtK H' ds xs
  | [], xs, h => by simpa only [DtK] using h
  | (k, d) :: ds, xs, h => by
    simp only [DtK] at h ⊢
    obtain ⟨y, x, t, e, hy, hx, hr⟩ := h
    exact ⟨y, x, t, e, Dt.extf s k _ hy, Dt.extf s d x hx, DtK.extf s ds t hr⟩
theorem DtT.extf {H H' : Hp} (s : ExtF H H') : ∀ (ds : List (PyData × PyData)) (xs : List (List Key × V)), DtT H ds xs → DtT H' ds xs
  | [], xs, h => by simpa only [DtT] using h
  | (k, d) :: ds, xs, h => by
    simp only [DtT] at h ⊢
    obtain ⟨y, x, t, e, hy, hx, hr⟩ := h
    exact ⟨y, x, t, e, hy, Dt.extf s d x hx, DtT.extf s ds t hr⟩
end
theorem del_upd {G : Hp} {D : Addr} {o : HO} : del (upd G D o) D = del G D := by
  funext b
  by_cases e : b = D
  · rw [e, del_same, del_same]
  · rw [del_ne e, del_ne e, upd_ne e]
theorem hid_del {G : Hp} {d W D b : Addr} {o : HO} (h : Hid d W (del G D) b = some o) : b ≠ D ∧ Hid d W G b = some o := by
  have h1 := Hid.sub d W _ _ _ h
  have hb : b ≠ D := fun z => by
    rw [z, del_same] at h1
    cases h1
  refine ⟨hb, ?_⟩
  unfold Hid at h ⊢
  rw [del_ne hb] at h
  exact h
theorem hid_del' {G : Hp} {d W D b : Addr} {o : HO} (hb : b ≠ D) (h : Hid d W G b = some o) : Hid d W (del G D) b = some o := by
  unfold Hid at h ⊢
  rw [del_ne hb]
  exact h
/-- a value near a fraction, as it stands -/
def NrAt (G : Hp) (x : V) : Prop := ∃ dd, NearD dd ∧ Dt G dd x
theorem nrs_data {G : Hp} : ∀ {acc : List V}, (∀ x ∈ acc, NrAt G x) → ∃ ds : List PyData, DtL G ds acc ∧ ds.length = acc.length ∧ ∀ dd ∈ ds, NearD dd
  | [], h => ⟨[], DtL.nil, rfl, fun _ z => nomatch z⟩
  | x :: acc, h => by
    obtain ⟨ds, h1, h2, h3⟩ := nrs_data fun y hy => h y (List.mem_cons_of_mem _ hy)
    obtain ⟨dd, n, u⟩ := h x List.mem_cons_self
    refine ⟨dd :: ds, DtL.cons u h1, by rw [List.length_cons, List.length_cons, h2], fun d hd => ?_⟩
    rcases List.mem_cons.mp hd with rfl | hd
    · exact n
    · exact h3 d hd
/-- one more value comes into the list at D, which stood frozen while the value was drawn -/
theorem nr_step {G0 G : Hp} {d W D : Addr} {od : Obj} {acc : List V} {v : V} {dd : PyData} (nD : D ≠ d ∧ D ≠ W) (sd : Sd d W (upd G0 D (.frz od (.lst acc))) G) (old : ∀ x ∈ acc, NrAt (Hid d W (del G0 D)) x) (n : NearD dd) (u : Dt (Hid d W G) dd v) :
    G D = some (.frz od (.lst acc)) ∧ ∀ x ∈ acc ++ [v], NrAt (Hid d W (del G D)) x := by
  have at0 : Hid d W (upd G0 D (.frz od (.lst acc))) D = some (.frz od (.lst acc)) := by
    rw [Hid.at_ nD.1 nD.2]
    exact upd_same
  have at1 := Hid.sub d W G _ _ (sd _ _ at0)
  refine ⟨at1, fun x hx => ?_⟩
  rcases List.mem_append.mp hx with hx | hx
  · obtain ⟨dx, nx, ux⟩ := old x hx
    refine ⟨dx, nx, Dt.same (fun b o e => ?_) _ _ ux⟩
    obtain ⟨hb, e2⟩ := hid_del e
    refine hid_del' hb (sd _ _ ?_)
    unfold Hid at e2 ⊢
    rw [upd_ne hb]
    exact e2
  · rw [List.mem_singleton.mp hx]
    refine ⟨dd, n, Dt.extf (fun b o e nf => ?_) _ _ u⟩
    have hb : b ≠ D := fun z => by
      have e2 := Hid.sub d W G _ _ e
      rw [z, at1] at e2
      exact nf od (.lst acc) (Option.some.inj e2).symm
    exact hid_del' hb e
end Mw
namespace G02
open PySem PySem.Spec PyProof.Rows L2 Mw LamX
local macro_rules | `(tactic| walk_at "data") => `(tactic| (repeat' (first | rfl | assumption | refine ex_cons ?_ ?_ | refine ex_pair ?_ ?_ ?_ | refine ex_dk (Rn.hid (by assumption) (by walk_at "mem")) ?_ | refine ex_dt (Rn.hid (by assumption) (by walk_at "mem")) ?_ | refine ex_ref (Rn.hid (by assumption) (by walk_at "mem")) ?_)))
local macro_rules | `(tactic| walk_at "mem") => `(tactic| (repeat' (first | exact List.mem_cons_self .. | refine List.mem_cons_of_mem _ ?_)))
section
variable {P : Program} {w : World} {K : PySem.W.Frag} {mg : Str → Option Value} {base : Heap}
theorem bk_is_fraction (T : Txt K mg) : ∀ (s : Shared) (ws : List Value), K.In s.heap → ws.length = 1 → BindsTo s (fdOf K (He.fAd K ("is_fraction", none))) ⟨[], (["thing"] : List Str).zip ws⟩ ((["thing"] : List Str).zip ws) := by
  intro s ws _ hl
  obtain ⟨oc, od, dV, kV, doc, pm, an, cdv, ct, osl, e, lk, hcd, hD, hK⟩ := T.f_is_fraction.ex
  rw [e]
  rcases hD with ⟨_, rfl⟩ | ⟨z, _⟩
  · match ws, hl with | [v], _ => exact BindsTo.of_eq rfl
  · exact absurd rfl z
theorem bk_fraction (T : Txt K mg) : ∀ (s : Shared) (ws : List Value), K.In s.heap → ws.length = 2 → BindsTo s (fdOf K (He.fAd K ("fraction", none))) ⟨[], (["bottom", "top"] : List Str).zip ws⟩ ((["top", "bottom"] : List Str).zip (swp ws)) := by
  intro s ws X hl
  obtain ⟨oc, od, dV, kV, doc, pm, an, cdv, ct, osl, e, lk, hcd, hD, hK⟩ := T.f_fraction.ex
  rw [e]
  rcases hD with ⟨z, _⟩ | ⟨_, Tt, o, its, m, rfl, lT, oT, rT⟩
  · cases z
  · match ws, hl, its, rT, oT with
    | [b, t], _, [i], _, oT =>
      refine BindsTo.of_looks fun M => ?_
      exact looks_items X lT oT (.of_pure rfl)
end
end G02
set_option Elab.async false
set_option linter.all false
set_option maxRecDepth 100000
set_option maxHeartbeats 8000000
namespace Mw
open PySem PySem.Spec PyProof.Rows L2 LamX
theorem FrAt.offF {G : Hp} {d W D : Addr} {od : Obj} {u o : HO} {x : V} (h : FrAt (Hid d W G) x) (hD : G D = some (.frz od u)) : FrAt (Hid d W (upd G D o)) x := by
  obtain ⟨t, p, e, h1, h2, h3⟩ := h
  have e1 := Hid.sub d W G _ _ h1
  have tD : t ≠ D := fun z => by
    rw [z, hD] at e1
    cases e1
  have ne : ¬ (t = d ∨ t = W) := fun z => by
    unfold Hid at h1
    rw [if_pos z] at h1
    cases h1
  refine ⟨t, p, e, ?_, h2, h3⟩
  unfold Hid
  rw [if_neg ne, upd_ne tD]
  exact e1
theorem FrAt.re {G : Hp} {d W D : Addr} {o1 o2 : HO} {x : V} (h : FrAt (Hid d W (upd G D o1)) x) (n1 : ∀ xs, o1 ≠ .tup xs) : FrAt (Hid d W (upd G D o2)) x := by
  obtain ⟨t, p, e, h1, h2, h3⟩ := h
  have e1 := Hid.sub d W _ _ _ h1
  have tD : t ≠ D := fun z => by
    rw [z, upd_same] at e1
    exact n1 _ (Option.some.inj e1)
  have ne : ¬ (t = d ∨ t = W) := fun z => by
    unfold Hid at h1
    rw [if_pos z] at h1
    cases h1
  refine ⟨t, p, e, ?_, h2, h3⟩
  unfold Hid
  rw [upd_ne tD] at e1
  rw [if_neg ne, upd_ne tD]
  exact e1
theorem tabs_frz {T : List (Addr × Str)} {G : Hp} {D : Addr} {od : Obj} {u o : HO} (h : Tabs T G) (hD : G D = some (.frz od u)) : Tabs T (upd G D o) := by
  have out : ∀ {b : Addr} {z : HO}, G b = some z → (∀ od u, z ≠ .frz od u) → upd G D o b = some z := by
    intro b z e n
    have hb : b ≠ D := fun q => by
      rw [q, hD] at e
      exact n _ _ (Option.some.inj e).symm
    rw [upd_ne hb]
    exact e
  intro p hp
  obtain ⟨q, h1, h2, h3⟩ := h p hp
  refine ⟨q, out h1 (fun _ _ z => nomatch z), h2, fun pos cv hc => ?_⟩
  obtain ⟨c0, e1, e2⟩ := h3 pos cv hc
  exact ⟨c0, e1, out e2 (fun _ _ z => nomatch (show HO.ext _ = HO.frz _ _ from z))⟩
/-- the end of a turn that puts one more value into the list at DE -/
theorem bent_fin {T : List (Addr × Str)} {G0 G : Hp} {d W C DD DE : Addr} {n m : Nat} {od : Obj} {acc acc2 : List V} {v : V} {dd : PyData} (neE : DE ≠ d ∧ DE ≠ W ∧ DE ≠ C) (neD : DD ≠ d ∧ DD ≠ W ∧ DD ≠ C) (neED : DE ≠ DD)
    (hd0 : G0 DD = some (.lst acc)) (nrs : ∀ x ∈ acc2, NrAt (Hid d W (del G0 DE)) x) (frs : ∀ x ∈ acc, FrAt (Hid d W (upd G0 DE (.frz od (.lst acc2)))) x)
    (D : Drw G d W C n) (hm : m ≤ n) (sd : Sd d W (upd G0 DE (.frz od (.lst acc2))) G) (nd : NearD dd) (u : Dt (Hid d W G) dd v) (tb : Tabs T G) :
    G DE = some (.frz od (.lst acc2)) ∧ ∀ o1 o2 : HO, (∀ x ∈ acc2 ++ [v], NrAt (Hid d W (del (upd (upd G DE o1) DE o2) DE)) x) ∧ upd (upd G DE o1) DE o2 DD = some (.lst acc) ∧
      (∀ x ∈ acc, FrAt (Hid d W (upd (upd G DE o1) DE o2)) x) ∧ Drw (upd (upd G DE o1) DE o2) d W C m ∧ Tabs T (upd (upd G DE o1) DE o2) := by
  obtain ⟨h1, h2⟩ := nr_step ⟨neE.1, neE.2.1⟩ sd nrs nd u
  refine ⟨h1, fun o1 o2 => ?_⟩
  rw [upd_upd]
  have atD : G DD = some (.lst acc) := by
    have z : Hid d W (upd G0 DE (.frz od (.lst acc2))) DD = some (.lst acc) := by
      rw [Hid.at_ neD.1 neD.2.1, upd_ne (Ne.symm neED)]
      exact hd0
    exact Hid.sub d W G _ _ (sd _ _ z)
  refine ⟨fun x hx => by rw [del_upd]; exact h2 x hx, by rw [upd_ne (Ne.symm neED)]; exact atD, fun x hx => ((frs x hx).same sd).offF h1, drw_off (D.mono hm) neE, tabs_frz tb h1⟩
/-- {(1, 1): 2}, made -/
theorem dispT_ok {d W C : Addr} {n : Nat} {H0 H : Hp} {L : List (Addr × HO)} {p q : Addr} {Q : Hp → Prop} (R : Rn d W C n H0 H L) (hp : H p = none) (hq : upd H p (.dT []) q = none)
    (k : ∀ H3, Rn d W C n H0 H3 ((p, .dT [([.inl 1, .inl 1], .int 2)]) :: L) → Q H3) : ∃ H3, DPut (upd (upd H p (.dT [])) q (.tup [.int 1, .int 1])) p (.ref q) (.int 2) H3 ∧ Q H3 := by
  have qp : q ≠ p := fun z => by
    rw [z, upd_same] at hq
    cases hq
  have hq0 : H q = none := by rw [upd_ne qp] at hq; exact hq
  refine ⟨_, DPut.t (k := [.inl 1, .inl 1]) (kvs := []) (by rw [upd_ne (Ne.symm qp)]; exact upd_same) upd_same (small1000 (by simp)), k _ ?_⟩
  have sm : Same H (upd (upd (upd H p (.dT [])) q (.tup [.int 1, .int 1])) p (.dT (putK [] [.inl 1, .inl 1] (.int 2)))) := fun b o e => by
    have b1 := ne_of_none e hp
    have b2 := ne_of_none e hq0
    rw [upd_ne b1, upd_ne b2, upd_ne b1]
    exact e
  obtain ⟨n1, n2, n3⟩ := R.dr.new_d hp
  refine ⟨R.dr.same sm, R.sd.trans (Sd.of sm), fun z hz => ?_⟩
  rcases List.mem_cons.mp hz with rfl | hz
  · rw [Hid.at_ n1 n2, upd_same]
    rfl
  · exact (Sd.of sm : Sd d W H _) _ _ (R.ob z hz)
/-- values that are no lists -/
def noneL : List PyData := [.none, .int 5, .bool true, .str "", .str "ab", .dict [], .dict [(.tuple [.int 1, .int 1], .int 2)]]
theorem noneL_ok : ∀ dd ∈ noneL, cpB 4 dd = true ∧ itemsD dd = [] ∧ ∀ op f0, sumOf op f0 dd = .inl dd := by
  intro dd h
  simp only [noneL, List.mem_cons, List.not_mem_nil, or_false] at h
  rcases h with rfl | rfl | rfl | rfl | rfl | rfl | rfl <;> exact ⟨rfl, rfl, fun _ _ => rfl⟩
theorem noneL_shw : ∀ dd ∈ noneL, Shw 60000 3 dd := by
  have h : ∀ dd ∈ noneL, dd.showable = true ∧ dd.shown.length ≤ 60 ∧ dd.depth ≤ 3 := by decide +kernel
  exact fun dd hd => ⟨(h dd hd).1, Nat.le_trans (h dd hd).2.1 (by decide), (h dd hd).2.2⟩
end Mw
set_option Elab.async false
set_option linter.all false
set_option maxRecDepth 100000
set_option maxHeartbeats 8000000
namespace G02
open PySem PySem.Spec PyProof.Rows L2 Mw LamX
local macro_rules | `(tactic| walk_at "data") => `(tactic| (repeat' (first | rfl | assumption | refine ex_cons ?_ ?_ | refine ex_pair ?_ ?_ ?_ | refine ex_dk (Rn.hid (by assumption) (by walk_at "mem")) ?_ | refine ex_dt (Rn.hid (by assumption) (by walk_at "mem")) ?_ | refine ex_ref (Rn.hid (by assumption) (by walk_at "mem")) ?_)))
local macro_rules | `(tactic| walk_at "mem") => `(tactic| (repeat' (first | exact List.mem_cons_self .. | refine List.mem_cons_of_mem _ ?_)))
section
variable {P : Program} {w : World} {K : PySem.W.Frag} {mg : Str → Option Value} {base : Heap}
def spLaw (K : PySem.W.Frag) : Sp := fun vs H Q _ => ∃ (a : Addr) (ns : List Int), vs = [.ref a] ∧ SqL K H a (ns.map V.int) ∧ ns.length ≤ 63 ∧ Tabs (tabs K) H ∧ ∀ H', Q (.bl true) H'
theorem ok_law (T : Txt K mg) (TB : ∀ p ∈ [pL, pM], TabB base mg (He.cT K p).1 (He.cT K p).2) : FnG P w K mg base CX0 14 (He.ga K "law") (fdOf K (He.ga K "law")) ["script"] (spLaw K) := by
  have G_law_begun : FnOk P w K mg base CX0 1 (He.ga K "_law_begun") (fdOf K (He.ga K "_law_begun")) ["script"] (spBegun K) := ok_begun T
  have G_law_take : FnOk P w K mg base CX0 2 (He.ga K "_law_take") (fdOf K (He.ga K "_law_take")) ["draw", "size"] spTake := ok_take T
  have G_law_pick : FnOk P w K mg base CX0 3 (He.ga K "_law_pick") (fdOf K (He.ga K "_law_pick")) ["draw", "some"] spPick := ok_pick T
  have G_law_number : FnOk P w K mg base CX0 4 (He.ga K "_law_number") (fdOf K (He.ga K "_law_number")) ["draw"] spNumb := ok_number T
  have G_law_divided : FnOk P w K mg base CX0 1 (He.ga K "_law_divided") (fdOf K (He.ga K "_law_divided")) ["top_here", "bottom_here"] spDiv := ok_divided T
  have G_law_near : FnOk P w K mg base CX0 5 (He.ga K "_law_near") (fdOf K (He.ga K "_law_near")) ["draw", "pair"] spNear := ok_near T
  have G_law_is_good : FnOk P w K mg base CX0 2 (He.ga K "_law_is_good") (fdOf K (He.ga K "_law_is_good")) ["thing_here"] spGood := ok_good T
  have G_is_fraction : FnOk P w K mg base CX0 2 (He.ga K "is_fraction") (fdOf K (He.ga K "is_fraction")) ["thing"] spIsFr := ok_isfr T
  have G_fraction : FnOk P w K mg base (L2.CX P w) 7 (He.ga K "fraction") (fdOf K (He.ga K "fraction")) ["top", "bottom"] (spFrac 3 (He.ga K "BadNumber")) := ok_frac T 3
  have G_added := ok_added (P := P) (w := w) (base := base) T 4
  have G_multiplied := ok_multiplied (P := P) (w := w) (base := base) T 4
  have G_right := ok_right (P := P) (w := w) (base := base) T TB
  have bF := b_frac2 T
  obtain ⟨dF1, vF1, bF1⟩ := b_frac1 T
  obtain ⟨oc, od, dV, kV, doc, pm, an, cdv, ct, osl, efd, lk, hcg, _, _⟩ := T.f_law_told.ex
  have hbT := b_law_told T
  rw [efd] at lk hbT
  have hupM := hupM T
  refine fnG_ofT (p := pM) T.f_law sc_law (fun {vs H Q E} h => ?_) (fun A outer s H vs Q E hr hg h => ?_)
  · obtain ⟨_, _, rfl, _⟩ := h
    rfl
  · obtain ⟨a, ns, rfl, hS, hl, tb, q⟩ := h
    have hu := hu_of hr
    refine ⟨_, PSs.nox (pss_cons (ps_set (i := 1) sc_law.nd rfl (.inr rfl) (pe_call G_law_begun (hr.mono (by decide)) rfl T.g_law_begun T.f_law_begun.kp (b_law_begun T) .nil pass0 (pa_cons (pv 0) pa_nil)))
  (pss_cons (ps_for PassesOwn.never rfl (pi_range1 (by rfl) T.n_range (pa_cons (pe_op op_add pe_int (pe_callB (call_min2 rfl) (by rfl) T.n_min (by decide +kernel) (pa_cons (pe_callB call_len (by rfl) T.n_len (by decide +kernel) (pa_cons (pv 0) pa_nil)) (pa_cons pe_int pa_nil)))) pa_nil)) (pg_name (i := 2) sc_law.nd rfl (.inl rfl))
  (pss_cons (ps_asg (pe_tup (pa_cons (pe_call G_law_number (hr.mono (by decide)) rfl T.g_law_number T.f_law_number.kp (b_law_number T) .nil pass0 (pa_cons (pv 1) pa_nil)) (pa_cons (pe_call G_law_number (hr.mono (by decide)) rfl T.g_law_number T.f_law_number.kp (b_law_number T) .nil pass0 (pa_cons (pv 1) pa_nil)) pa_nil))) (pg_tup (by rfl) (pgs_cons (pg_name (i := 3) sc_law.nd rfl (.inr rfl)) (pgs_cons (pg_name (i := 4) sc_law.nd rfl (.inr rfl)) pgs_nil))))
  (pss_cons (ps_set (i := 5) sc_law.nd rfl (.inl rfl) (pe_ifExp (pt_cmpR op_lt (pv 4) pe_int (nomark _)) (pe_lst (pa_cons (pv 4) pa_nil)) (pe_tup (pa_cons (pe_call G_law_divided (hr.mono (by decide)) rfl T.g_law_divided T.f_law_divided.kp (b_law_divided T) .nil pass0 (pa_cons (pv 3) (pa_cons (pe_callB (call_max2 rfl) (by rfl) T.n_max (by decide +kernel) (pa_cons pe_int (pa_cons (pv 4) pa_nil))) pa_nil))) pa_nil))))
  (pss_cons (ps_if (pt_cmpR op_ne (pe_callB (call_repr T.sys hg hr.units) (by rfl) T.n_repr (by decide +kernel) (pa_cons (pe_lamgive (T := tabs K) (g := He.ga K "_law_told") (c := (He.cT K pM).1) (P := (He.cT K pM).2) rfl T.g_law_told T.f_law_told.kp lk hcg hbT sc_law_told rfl (.inl rfl) (told_ok T) (TB _ (by simp)) rfl (List.mem_cons_of_mem _ List.mem_cons_self) hupM (k := 10) (hr.mono (by decide)) (show LamS (defScope s_law) _ from lamS_by (by decide +kernel)) rfl (fun _ _ _ _ _ => rfl) (fun A outer s H E f c' r => (pe_call G_fraction (r.mono (by decide)) rfl T.g_fraction T.f_fraction.kp bF .nil (passes_call (takes_of rfl rfl rfl rfl) (fun _ _ _ _ h => h)) (pa_cons (pv 3) (pa_cons (pv 4) pa_nil))))) pa_nil)) (pe_callB (call_repr T.sys hg hr.units) (by rfl) T.n_repr (by decide +kernel) (pa_cons (pv 5) pa_nil)) (nomark _))
  (pss_one (ps_ret pe_bl))
  pss_nil)
  (pss_cons (ps_if (PW.pt (pw_or (pt_cmpR op_ne (pe_callB (call_repr T.sys hg hr.units) (by rfl) T.n_repr (by decide +kernel) (pa_cons (pe_lamgive (t := fun E => tKw0 2 (spFrac 3 (He.ga K "BadNumber")) swp E (tCons (tVar 4) (tCons (tVar 3) tNil))) (T := tabs K) (g := He.ga K "_law_told") (c := (He.cT K pM).1) (P := (He.cT K pM).2) rfl T.g_law_told T.f_law_told.kp lk hcg hbT sc_law_told rfl (.inl rfl) (told_ok T) (TB _ (by simp)) rfl (List.mem_cons_of_mem _ List.mem_cons_self) hupM (k := 10) (hr.mono (by decide)) (show LamS (defScope s_law) _ from lamS_by (by decide +kernel)) rfl (fun _ _ _ _ _ => rfl) (fun A outer s H E f c' r => (pe_kw0 (ks := ["bottom", "top"]) (g := swp) (gV := swp) G_fraction (r.mono (by decide)) rfl T.g_fraction T.f_fraction.kp (bk_fraction T) swp_rel (passes_call (takes_of rfl rfl rfl rfl) (fun _ _ _ _ h => h)) (pk_cons (pv 4) (pk_cons (pv 3) pk_nil))))) pa_nil)) (pe_callB (call_repr T.sys hg hr.units) (by rfl) T.n_repr (by decide +kernel) (pa_cons (pv 5) pa_nil)) (nomark _)) (pw_or1 (pt_cmpR (op_neD hr.units) (pe_call G_fraction (hr.mono (by decide)) rfl T.g_fraction T.f_fraction.kp bF1 vF1 passF (pa_cons (pv 3) pa_nil)) (pe_tup (pa_cons (pv 3) (pa_cons pe_int pa_nil))) (nomark _)))))
  (pss_one (ps_ret pe_bl))
  pss_nil)
  (pss_cons (ps_set (i := 6) sc_law.nd rfl (.inr rfl) (pe_call G_law_pick (hr.mono (by decide)) rfl T.g_law_pick T.f_law_pick.kp (b_law_pick T) .nil pass0 (pa_cons (pv 1) (pa_cons (pe_lst (pa_cons pe_bl (pa_cons pe_non (pa_cons pe_str (pa_cons (pe_tup (pa_cons pe_int (pa_cons pe_int pa_nil))) (pa_cons (pe_lst pa_nil) (pa_cons pe_dnewK (pa_cons pe_bl pa_nil)))))))) pa_nil))))
  (pss_cons (ps_set (i := 7) sc_law.nd rfl (.inl rfl) (pe_lst (pa_cons (pe_lamgive (T := tabs K) (g := He.ga K "_law_told") (c := (He.cT K pM).1) (P := (He.cT K pM).2) rfl T.g_law_told T.f_law_told.kp lk hcg hbT sc_law_told rfl (.inl rfl) (told_ok T) (TB _ (by simp)) rfl (List.mem_cons_of_mem _ List.mem_cons_self) hupM (k := 10) (hr.mono (by decide)) (show LamS (defScope s_law) _ from lamS_by (by decide +kernel)) rfl (fun _ _ _ _ _ => rfl) (fun A outer s H E f c' r => (pe_call G_fraction (r.mono (by decide)) rfl T.g_fraction T.f_fraction.kp bF .nil (passes_call (takes_of rfl rfl rfl rfl) (fun _ _ _ _ h => h)) (pa_cons (pv 6) (pa_cons pe_int pa_nil))))) pa_nil)))
  (pss_cons (ps_expr (pe_bm PySem.F.plainAttrs_list PySem.F.slot_list_append PySem.F.type_list_append mt_append (pv 7) (pa_cons (pe_lamgive (T := tabs K) (g := He.ga K "_law_told") (c := (He.cT K pM).1) (P := (He.cT K pM).2) rfl T.g_law_told T.f_law_told.kp lk hcg hbT sc_law_told rfl (.inl rfl) (told_ok T) (TB _ (by simp)) rfl (List.mem_cons_of_mem _ List.mem_cons_self) hupM (k := 10) (hr.mono (by decide)) (show LamS (defScope s_law) _ from lamS_by (by decide +kernel)) rfl (fun _ _ _ _ _ => rfl) (fun A outer s H E f c' r => (pe_call G_fraction (r.mono (by decide)) rfl T.g_fraction T.f_fraction.kp bF .nil (passes_call (takes_of rfl rfl rfl rfl) (fun _ _ _ _ h => h)) (pa_cons pe_int (pa_cons (pv 6) pa_nil))))) pa_nil)))
  (pss_cons (ps_if (pt_cmpR op_ne (pe_callB (call_repr T.sys hg hr.units) (by rfl) T.n_repr (by decide +kernel) (pa_cons (pv 7) pa_nil)) (pe_callB (call_repr T.sys hg hr.units) (by rfl) T.n_repr (by decide +kernel) (pa_cons (pe_op op_rep (pe_lst (pa_cons (pe_lst (pa_cons (pv 6) pa_nil)) pa_nil)) pe_int) pa_nil)) (nomark _))
  (pss_one (ps_ret pe_bl))
  pss_nil)
  (pss_cons (ps_set (i := 8) sc_law.nd rfl (.inl rfl) (pe_call G_law_divided (hr.mono (by decide)) rfl T.g_law_divided T.f_law_divided.kp (b_law_divided T) .nil pass0 (pa_cons (pv 3) (pa_cons (pe_callB (call_max2 rfl) (by rfl) T.n_max (by decide +kernel) (pa_cons pe_int (pa_cons (pv 4) pa_nil))) pa_nil))))
  (pss_cons (ps_set (i := 9) sc_law.nd rfl (.inl rfl) (pe_call G_law_near (hr.mono (by decide)) rfl T.g_law_near T.f_law_near.kp (b_law_near T) .nil pass0 (pa_cons (pv 1) (pa_cons (pv 8) pa_nil))))
  (pss_cons (ps_if (pt_cmpR op_ne (pe_callB (call_repr T.sys hg hr.units) (by rfl) T.n_repr (by decide +kernel) (pa_cons (pe_lst (pa_cons (pe_call G_is_fraction (hr.mono (by decide)) rfl T.g_is_fraction T.f_is_fraction.kp (b_is_fraction T) .nil pass0 (pa_cons (pv 9) pa_nil)) (pa_cons (pe_kw0 (ks := ["thing"]) (g := fun ws => ws) (gV := fun zs => zs) G_is_fraction (hr.mono (by decide)) rfl T.g_is_fraction T.f_is_fraction.kp (bk_is_fraction T) (fun h => h) pass0 (pk_cons (pv 8) pk_nil)) pa_nil))) pa_nil)) (pe_callB (call_repr T.sys hg hr.units) (by rfl) T.n_repr (by decide +kernel) (pa_cons (pe_lst (pa_cons (pe_call G_law_is_good (hr.mono (by decide)) rfl T.g_law_is_good T.f_law_is_good.kp (b_law_is_good T) .nil pass0 (pa_cons (pv 9) pa_nil)) (pa_cons pe_bl pa_nil))) pa_nil)) (nomark _))
  (pss_one (ps_ret pe_bl))
  pss_nil)
  (pss_cons (ps_setLc (i := 10) (own := [("k", 11)]) (tt := tYes) rfl sc_law.nd rfl rfl (sw_true rfl rfl rfl (by decide +kernel)) (pi_range1 (by rfl) T.n_range (pa_cons (pe_call G_law_take (hr.mono (by decide)) rfl T.g_law_take T.f_law_take.kp (b_law_take T) .nil pass0 (pa_cons (pv 1) (pa_cons pe_int pa_nil))) pa_nil)) (blkOk_by (N := N_law) (sc := defScope s_law) (by decide +kernel)) (fun _ _ _ _ _ => (pg_name (i := 11) sc_law.nd rfl (.inl rfl))) (fun _ _ _ _ _ => pts_nil) (fun _ _ _ _ _ => (pe_call G_law_divided (hr.mono (by decide)) rfl T.g_law_divided T.f_law_divided.kp (b_law_divided T) .nil pass0 (pa_cons (pe_call G_law_number (hr.mono (by decide)) rfl T.g_law_number T.f_law_number.kp (b_law_number T) .nil pass0 (pa_cons (pv 1) pa_nil)) (pa_cons (pe_op op_add pe_int (pe_callB call_abs (by rfl) T.n_abs (by decide +kernel) (pa_cons (pe_call G_law_number (hr.mono (by decide)) rfl T.g_law_number T.f_law_number.kp (b_law_number T) .nil pass0 (pa_cons (pv 1) pa_nil)) pa_nil))) pa_nil)))))
  (pss_cons (ps_if (PW.pt (pw_or (pt_not (pt_val (pe_callG G_right (hr.mono (by decide)) hg rfl T.g_law_lists_right T.f_law_lists_right.kp (b_law_lists_right T) .nil pass0 (pa_cons (pv 1) (pa_cons (pv 10) pa_nil))))) (pw_or (pt_cmpR (op_neD hr.units) (pe_call G_added (hr.mono (by decide)) rfl T.g_added T.f_added.kp (b_added T) .nil passF (pa_cons (pe_lst pa_nil) pa_nil)) (pe_tup (pa_cons pe_int (pa_cons pe_int pa_nil))) (nomark _)) (pw_or1 (pt_cmpR (op_neD hr.units) (pe_call G_multiplied (hr.mono (by decide)) rfl T.g_multiplied T.f_multiplied.kp (b_multiplied T) .nil passF (pa_cons (pe_tup pa_nil) pa_nil)) (pe_tup (pa_cons pe_int (pa_cons pe_int pa_nil))) (nomark _))))))
  (pss_one (ps_ret pe_bl))
  pss_nil)
  (pss_cons (ps_setLc (i := 12) (own := [("one", 3)]) (tt := tYes) rfl sc_law.nd rfl rfl (sw_true rfl rfl rfl (by decide +kernel)) (pi_list (pv 10)) (blkOk_by (N := N_law) (sc := defScope s_law) (by decide +kernel)) (fun _ _ _ _ _ => (pg_name (i := 3) sc_law.nd rfl (.inl rfl))) (fun _ _ _ _ _ => pts_nil) (fun _ _ _ _ _ => (pe_lock (pe_ifExp (pt_cmpR op_eq (pe_call G_law_take (hr.mono (by decide)) rfl T.g_law_take T.f_law_take.kp (b_law_take T) .nil pass0 (pa_cons (pv 1) (pa_cons pe_int pa_nil))) pe_int (nomark _)) (pe_call G_law_near (hr.mono (by decide)) rfl T.g_law_near T.f_law_near.kp (b_law_near T) .nil pass0 (pa_cons (pv 1) (pa_cons (pv 3) pa_nil))) (pv 3)))))
  (pss_cons (ps_if (pt_not (pt_val (pe_callG G_right (hr.mono (by decide)) hg rfl T.g_law_lists_right T.f_law_lists_right.kp (b_law_lists_right T) .nil pass0 (pa_cons (pv 1) (pa_cons (pv 12) pa_nil)))))
  (pss_one (ps_ret pe_bl))
  pss_nil)
  (pss_cons (ps_set (i := 13) sc_law.nd rfl (.inr rfl) (pe_call G_law_pick (hr.mono (by decide)) rfl T.g_law_pick T.f_law_pick.kp (b_law_pick T) .nil pass0 (pa_cons (pv 1) (pa_cons (pe_lst (pa_cons pe_non (pa_cons pe_int (pa_cons pe_bl (pa_cons pe_str (pa_cons pe_str (pa_cons pe_dnewK (pa_cons (pe_dispT (Nat.lt_of_le_of_lt (Nat.le_add_right _ _) hu) (pe_tup (pa_cons pe_int (pa_cons pe_int pa_nil))) pe_int) pa_nil)))))))) pa_nil))))
  (pss_cons (ps_set (i := 7) sc_law.nd rfl (.inl rfl) (pe_lst (pa_cons (pe_lamgive (T := tabs K) (g := He.ga K "_law_told") (c := (He.cT K pM).1) (P := (He.cT K pM).2) rfl T.g_law_told T.f_law_told.kp lk hcg hbT sc_law_told rfl (.inl rfl) (told_ok T) (TB _ (by simp)) rfl (List.mem_cons_of_mem _ List.mem_cons_self) hupM (k := 10) (hr.mono (by decide)) (show LamS (defScope s_law) _ from lamS_by (by decide +kernel)) rfl (fun _ _ _ _ _ => rfl) (fun A outer s H E f c' r => (pe_call G_added (r.mono (by decide)) rfl T.g_added T.f_added.kp (b_added T) .nil (passes_call (takes_of rfl rfl rfl rfl) (fun _ _ _ _ h => h)) (pa_cons (pv 13) pa_nil)))) pa_nil)))
  (pss_cons (ps_expr (pe_bm PySem.F.plainAttrs_list PySem.F.slot_list_append PySem.F.type_list_append mt_append (pv 7) (pa_cons (pe_lamgive (T := tabs K) (g := He.ga K "_law_told") (c := (He.cT K pM).1) (P := (He.cT K pM).2) rfl T.g_law_told T.f_law_told.kp lk hcg hbT sc_law_told rfl (.inl rfl) (told_ok T) (TB _ (by simp)) rfl (List.mem_cons_of_mem _ List.mem_cons_self) hupM (k := 10) (hr.mono (by decide)) (show LamS (defScope s_law) _ from lamS_by (by decide +kernel)) rfl (fun _ _ _ _ _ => rfl) (fun A outer s H E f c' r => (pe_call G_multiplied (r.mono (by decide)) rfl T.g_multiplied T.f_multiplied.kp (b_multiplied T) .nil (passes_call (takes_of rfl rfl rfl rfl) (fun _ _ _ _ h => h)) (pa_cons (pv 13) pa_nil)))) pa_nil)))
  (pss_one (ps_if (pt_cmpR op_ne (pe_callB (call_repr T.sys hg hr.units) (by rfl) T.n_repr (by decide +kernel) (pa_cons (pv 7) pa_nil)) (pe_callB (call_repr T.sys hg hr.units) (by rfl) T.n_repr (by decide +kernel) (pa_cons (pe_op op_rep (pe_lst (pa_cons (pe_lst (pa_cons (pv 13) pa_nil)) pa_nil)) pe_int) pa_nil)) (nomark _))
  (pss_one (ps_ret pe_bl))
  pss_nil)))))))))))))))))))))
  (pss_one (ps_ret pe_bl)))), ?_⟩
    refine ⟨_, rfl, a, ns, rfl, hS, hl, fun d W C H1 D s1 => ?_⟩
    have hS1 : SqL K H1 a (ns.map V.int) := s1.seq hS
    have tb1 : Tabs (tabs K) H1 := tb.ext s1
    refine ⟨_, rfl, _, ns.length, rfl, .inl ⟨_, hS1, by rw [List.length_map]⟩, _, _, rfl, _, _, rfl, rfl, _, rfl, by split <;> omega, by split <;> omega, ?_⟩
    generalize hj : (4 + if (12 : Int) < (ns.length : Int) then (12 : Int) else (ns.length : Int)) = j
    have hj16 : j.toNat ≤ 16 := by
      rw [← hj]
      split <;> omega
    refine for_it walk_range (fun i σ H => ∃ x2 x3 x4 x5 x6 x7 x8 x9 x10 x11 x12 x13, σ = [some (.ref a), some (.ref d), x2, x3, x4, x5, x6, x7, x8, x9, x10, x11, x12, x13] ∧ Drw H d W C (3200 - 200 * i) ∧ Tabs (tabs K) H) ?h0 (fun _ _ _ _ _ => trivial) ?hs ?hd
    case h0 => exact ⟨_, _, _, _, _, _, _, _, _, _, _, _, rfl, D.mono (by decide), tb1⟩
    case hd =>
      rintro σ H2 ⟨x2, x3, x4, x5, x6, x7, x8, x9, x10, x11, x12, x13, rfl, D2, tb2⟩
      exact q _
    case hs =>
      rintro i x σ H2 H2' hi ⟨x2, x3, x4, x5, x6, x7, x8, x9, x10, x11, x12, x13, rfl, D2, tb2⟩ ⟨rfl, rfl⟩
      have hi16 : i < 16 := by omega
      refine ⟨_, rfl, d, W, C, 3196 - 200 * i, rfl, D2.mono (by omega), fun o H3 ob D3 sd3 => ⟨_, rfl, d, W, C, 3192 - 200 * i, rfl, D3.mono (by omega), fun ot H4 otb D4 sd4 => ?_⟩⟩
      have tb4 : Tabs (tabs K) H4 := Tabs.sd D3 (Tabs.sd D2 tb2 sd3) sd4
      refine ⟨le_line (by simp), fun p5 h5 => allocN h5 fun H5 s5 l5 => ?_⟩
      refine ⟨p5, _, rfl, SqT.of l5, rfl, _, _, rfl, _, _, rfl, rfl, ?_⟩
      have p70 : (10 : Nat) ^ 70 ≤ 2 ^ 233 := by decide
      have bt8 : ot.natAbs < 2 ^ 8000 := Nat.lt_of_lt_of_le otb (Nat.le_trans p70 (pow_le (by decide)))
      have shF := (shw_fr ob otb).rep (by decide) (by decide)
      refine due_ok rfl rfl bt8 fun pd H6 s6 d6 => ?_
      have tb6 := (tb4.ext s5).ext s6
      refine ne_told tb6 rfl d6 shF (fun H2 Q2 E2 e2 t2 out => ⟨_, rfl, _, rfl, .int o, .int ot, .int o, .int ot, rfl, by simp only [Dt], by simp only [Dt], rfl, rfl, (fun b e => by cases e; exact bt8), out⟩) fun H7 e7 tb7 => ?_
      refine ite2 (fun z => absurd z (by decide)) (fun _ => ?_)
      refine ne_told tb7 rfl (Dt.extn e7 _ _ d6) shF (fun H2 Q2 E2 e2 t2 out => ⟨_, rfl, _, rfl, rfl, .int o, .int ot, .int o, .int ot, rfl, by simp only [Dt], by simp only [Dt], rfl, rfl, (fun b e => by cases e; exact bt8), out⟩) fun H8 e8 tb8 => ?_
      refine ite2 (fun z => absurd z (by decide)) (fun _ => ?_)
      refine ⟨_, rfl, .int o, .int 1, .int o, .int 1, rfl, by simp only [Dt], by simp only [Dt], rfl, rfl, (fun b e => by cases e; decide), out_pair (fr_one o) fun t9 H9 n9 s9 l9 => ?_⟩
      refine ⟨_, rfl, le_line (by simp), fun p10 h10 => allocN h10 fun H10 s10 l10 => ?_⟩
      refine ne_pair (s10 _ _ l9) l10 ?_
      refine ite2 (fun z => absurd z (by decide)) (fun _ => ?_)
      have x10 : ExtN H4 H10 := ExtN.trans (ExtN.trans (ExtN.trans (ExtN.same (s5.trans s6)) e7) e8) (ExtN.same (s9.trans s10))
      have tb10 := (tb8.ext s9).ext s10
      have D10 := D4.extn x10
      have R10 : Rn d W C (3188 - 200 * i + 1) H10 H10 [] := ⟨D10.mono (by omega), Sd.refl _, fun q hq => nomatch hq⟩
      refine ⟨_, rfl, le_line (by simp), fun p1 h1 => alloc h1 R10 fun J1 R11 => ⟨le_line (by simp), fun p2 h2 => alloc h2 R11 fun J2 R12 => fun p3 h3 => alloc h3 R12 fun J3 R13 => ⟨le_line (by simp), fun p4 h4 => alloc h4 R13 fun J4 R14 => ?_⟩⟩⟩
      refine ⟨d, W, C, 3188 - 200 * i, p4, _, rfl, R14.dr, R14.at_ (q := (p4, _)) (List.mem_cons_self ..), by simp, by simp, fun ix od J5 hix D15 sd15 => ?_⟩
      have R15 := R14.call D15 sd15
      obtain ⟨dd, hdd, udd⟩ : ∃ dd, dd ∈ oddL ∧ Dt J5 dd od := by
        suffices all : DtL (Hid d W J5) oddL _ by
          obtain ⟨dd, e1, e2⟩ := DtL.at_ all hix
          exact ⟨dd, List.mem_of_getElem? e1, Dt.same (Hid.sub d W J5) _ _ e2⟩
        simp only [oddL, DtL, Dt, DtK]
        walk_at "data"
      have tb15 := Tabs.sd D10 tb10 R15.sd
      obtain ⟨oc, o1, o2, o3⟩ := oddL_ok dd hdd
      refine tk_of (r := .inl dd) tb15 (fun H2 Q2 E2 e2 t2 out => ⟨_, rfl, od, .int 0, dd, .int 0, rfl, Dt.extn e2 _ _ udd, by simp only [Dt], oc, rfl, (fun b e => by cases e; decide), by rw [o1]; exact out⟩) fun q1 G1 e1 t1 d1 => ?_
      refine ⟨le_line (by simp), fun tl htl => ?_⟩
      refine ⟨_, rfl, .inl ⟨rfl, _, SqL.of upd_same⟩, ?_⟩
      have ext1 : ∀ {H2 : Hp} {its : List V}, ExtN (upd G1 tl (.lst its)) H2 → ExtN J5 H2 := fun e => ExtN.trans (ExtN.trans e1 (ExtN.same (same_upd htl))) e
      refine app_step (r := .inl dd) htl (t1.ext (same_upd htl)) (fun H2 Q2 E2 e2 t2 out => ⟨_, rfl, .int 1, od, .int 1, dd, rfl, by simp only [Dt], Dt.extn (ext1 e2) _ _ udd, rfl, oc, (fun b e => absurd e (o3 b)), by rw [o2]; exact out⟩) fun q2 G2 e2 n2 t2 d2 => ?_
      refine ⟨tl, _, _, rfl, rfl, upd_same, small1000 (by simp), ?_⟩
      rw [upd_upd]
      refine allocN n2 fun F0 sF0 lF0 => ?_
      have xF0 : ExtN J5 F0 := ExtN.trans (ExtN.trans e1 e2) (ExtN.same sF0)
      have tbF0 := (tabs_off t2).ext sF0
      have told : Dt F0 (.list [.list [dd], .list [dd]]) (.ref tl) := Dt.lst lF0 (DtL.cons (Dt.extn (ExtN.trans e2 (ExtN.same sF0)) _ _ (Dt.same nwE_le _ _ d1)) (DtL.cons (Dt.same sF0 _ _ d2) DtL.nil))
      refine ne_rep rfl rfl told (Dt.extn xF0 _ _ udd) (oddL_shw dd hdd) fun F1 sF1 => ite2 (fun z => absurd z (by decide)) (fun _ => ?_)
      have xF1 := ExtN.trans xF0 (ExtN.same sF1)
      have tbF1 := tbF0.ext sF1
      have DF1 := D15.extn xF1
      have q1 : 1 ≤ (if ot > (1 : Int) then ot else 1) := by split <;> omega
      have q3 : (if ot > (1 : Int) then ot else 1).natAbs < 2 ^ 233 := by
        split
        · exact Nat.lt_of_lt_of_le otb p70
        · decide
      have bd8 : Bd 233 (nrm o (if ot > (1 : Int) then ot else 1)) := nrm_bd q1 (Nat.lt_of_lt_of_le ob p70) q3
      have fr8 := nrm_fr o q1
      refine ⟨_, rfl, _, rfl, _, _, rfl, _, _, rfl, q1, Nat.lt_of_lt_of_le q3 (pow_le (by decide)), fun p8 F2 sF2 l8 => ?_⟩
      generalize nrm o (if ot > (1 : Int) then ot else 1) = P8 at l8 bd8 fr8
      have DF2 := DF1.same sF2
      have hid8 := hid_tup DF2 l8
      refine ⟨_, rfl, _, rfl, d, W, C, 3186 - 200 * i, p8, P8.1, P8.2, rfl, DF2.mono (by omega), hid8, bd8, fun dn vn F3 nd3 DF3 sd3' u3 => ?_⟩
      have tbF3 := Tabs.sd DF2 (tbF1.ext sF2) sd3'
      refine ne_near rfl rfl rfl (Dt.same (Hid.sub d W F3) _ _ u3) nd3 (Hid.sub d W F3 _ _ (sd3' _ _ hid8)) fr8 fun F4 sF4 => ite2 (fun z => absurd z (by decide)) (fun _ => ?_)
      have tbF4 := tbF3.ext sF4
      have DF4 := DF3.same sF4
      refine ⟨_, rfl, d, W, C, 3185 - 200 * i, 9, rfl, DF4.mono (by omega), by decide, by decide, fun k F5 k0 k1 D5 sd5 => ?_⟩
      have tb5' := Tabs.sd DF4 tbF4 sd5
      refine ⟨_, rfl, by omega, by omega, fun DD hDD => ?_⟩
      have neD := drw_nes D5 hDD
      refine lc_it walk_range (fun j H' => ∃ acc, H' DD = some (.lst acc) ∧ acc.length ≤ j ∧ (∀ x ∈ acc, FrAt (Hid d W H') x) ∧ Drw H' d W C (3185 - 200 * i - 8 * j) ∧ Tabs (tabs K) H') ⟨[], upd_same, Nat.le_refl _, (fun _ z => nomatch z), D5.same (same_upd hDD), tb5'.ext (same_upd hDD)⟩ (fun _ _ _ _ => trivial) ?_ ?_
      · rintro j x G0 G0' hj9 ⟨acc, hacc, lacc, frs, DG0, tbG0⟩ ⟨rfl, rfl⟩
        have j9 : j < 9 := by omega
        refine ⟨rfl, ?_⟩
        unfold tYes
        refine iteT ?_
        refine ⟨_, rfl, d, W, C, 3181 - 200 * i - 8 * j, rfl, DG0.mono (by omega), fun t1 G1 bt1 DG1 sg1 => ⟨_, rfl, d, W, C, 3177 - 200 * i - 8 * j, rfl, DG1.mono (by omega), fun b1 G2 bb1 DG2 sg2 => ?_⟩⟩
        have p71 : 10 ^ 70 + 1 ≤ 2 ^ 233 := by decide
        have ab : (1 + if b1 < 0 then -b1 else b1).natAbs < 2 ^ 233 := by
          refine Nat.lt_of_lt_of_le ?_ p71
          split <;> omega
        have a1 : 1 ≤ (1 + if b1 < 0 then -b1 else b1) := by split <;> omega
        have bdn := nrm_bd a1 (Nat.lt_of_lt_of_le bt1 p70) ab
        have frn := nrm_fr t1 a1
        refine ⟨_, rfl, _, _, rfl, rfl, _, _, rfl, a1, Nat.lt_of_lt_of_le ab (pow_le (by decide)), fun tt G3 sg3 l3 => ?_⟩
        have DG3 := DG2.same sg3
        have hacc3 : G3 DD = some (.lst acc) := by
          have z0 : Hid d W G0' DD = some (.lst acc) := by rw [Hid.at_ neD.1 neD.2.1]; exact hacc
          exact sg3 _ _ (Hid.sub d W G2 _ _ (sg2 _ _ (sg1 _ _ z0)))
        have frs3 : ∀ x ∈ acc, FrAt (Hid d W G3) x := fun x hx => (((frs x hx).same sg1).same sg2).same (Sd.of sg3)
        have tbG3 := (Tabs.sd DG1 (Tabs.sd DG0 tbG0 sg1) sg2).ext sg3
        refine ⟨acc, hacc3, small1000 (by omega), acc ++ [.ref tt], upd_same, by rw [List.length_append]; exact Nat.add_le_add_right lacc 1, fun x hx => ?_, drw_off (DG3.mono (by omega)) neD, tabs_lst tbG3 hacc3⟩
        rcases List.mem_append.mp hx with hx | hx
        · exact (frs3 x hx).off hacc3
        · rw [List.mem_singleton.mp hx]
          exact FrAt.off ⟨tt, _, rfl, hid_tup DG3 l3, bdn, frn⟩ hacc3
      · rintro G0 ⟨acc, hacc, lacc, frs, DG0, tbG0⟩
        have k8 : k.toNat ≤ 8 := by omega
        obtain ⟨ds, dl, lds, nds, _⟩ := frs_data fun x hx => (frs x hx).same (Hid.sub d W G0)
        refine ⟨_, rfl, _, rfl, d, DD, acc, ds, rfl, hacc, dl, by omega, nds, tbG0, fun B0 eB tB0 => ⟨_, rfl, ?_⟩⟩
        refine ite2 (fun z => absurd z (by decide)) (fun _ => ?_)
        refine ⟨le_line (by simp), fun b1 hb1 => allocN hb1 fun B1 sB1 lB1 => ?_⟩
        refine ⟨.ref b1, .list [], rfl, Dt.lst lB1 DtL.nil, rfl, (fun _ z => nomatch z), ⟨by decide, fun _ z => nomatch z⟩, out_pair (p := (0, 1)) rfl fun b2 B2 _ sB2 lB2 => ?_⟩
        refine ⟨le_line (by simp), fun b3 hb3 => allocN hb3 fun B3 sB3 lB3 => ne_pair (sB3 _ _ lB2) lB3 (ite2 (fun z => absurd z (by decide)) (fun _ => ?_))⟩
        refine ⟨le_line (by simp), fun b4 hb4 => allocN hb4 fun B4 sB4 lB4 => ?_⟩
        refine ⟨.ref b4, .tuple [], rfl, by simp only [Dt, DtL]; exact ⟨b4, _, rfl, lB4, rfl⟩, rfl, (fun _ z => nomatch z), ⟨by decide, fun _ z => nomatch z⟩, out_pair (p := (1, 1)) rfl fun b5 B5 _ sB5 lB5 => ?_⟩
        refine ⟨le_line (by simp), fun b6 hb6 => allocN hb6 fun B6 sB6 lB6 => ne_pair (sB6 _ _ lB5) lB6 (ite2 (fun z => absurd z (by decide)) (fun _ => ?_))⟩
        have eB6 : ExtN G0 B6 := ExtN.trans eB (ExtN.same (((((sB1.trans sB2).trans sB3).trans sB4).trans sB5).trans sB6))
        have tB6 := ((((((tB0.ext sB1).ext sB2).ext sB3).ext sB4).ext sB5).ext sB6)
        have DB6 := DG0.extn eB6
        have haccB : B6 DD = some (.lst acc) := eB6 _ _ hacc (fun _ z => nomatch z)
        have frsB : ∀ x ∈ acc, FrAt (Hid d W B6) x := fun x hx => by
          obtain ⟨t, p, e, g1, g2, g3⟩ := frs x hx
          exact ⟨t, p, e, hid_tup DB6 (eB6 _ _ (Hid.sub d W G0 _ _ g1) (fun _ z => nomatch z)), g2, g3⟩
        have nDD : B6 DD ≠ none := by rw [haccB]; exact nofun
        refine ⟨_, rfl, DD, rfl, ⟨_, SqL.of haccB⟩, fun DE hDE => ?_⟩
        have neE := drw_nes DB6 hDE
        have neED : DE ≠ DD := fun z => nDD (z ▸ hDE)
        refine lc_it (walk_list (xs := acc)) (fun j H' => ∃ acc2, H' DE = some (.lst acc2) ∧ acc2.length ≤ j ∧ (∀ x ∈ acc2, NrAt (Hid d W (del H' DE)) x) ∧ H' DD = some (.lst acc) ∧ (∀ x ∈ acc, FrAt (Hid d W H') x) ∧ Drw H' d W C (3100 - 200 * i - 3 * j) ∧ Tabs (tabs K) H')
          ⟨[], upd_same, Nat.le_refl _, (fun _ z => nomatch z), same_upd hDE _ _ haccB, (fun x hx => (frsB x hx).same (Sd.of (same_upd hDE))), (DB6.mono (by omega)).same (same_upd hDE), tB6.ext (same_upd hDE)⟩ (fun j H' _ z => by obtain ⟨_, _, _, _, z, _⟩ := z; exact SqL.of z) ?_ ?_
        · rintro j x G0 G0' hj ⟨acc2, hacc2, lacc2, nrs, hd0, frs0, DG0, tbG0⟩ ⟨rfl, ex⟩
          have j8 : j < 8 := by omega
          have fx := frs0 x (List.mem_of_getElem? ex)
          refine ⟨rfl, ?_⟩
          unfold tYes
          refine iteT ?_
          refine ⟨DE, .lst acc2, hacc2, trivial, fun od => ?_⟩
          have DGf := drw_off (o := .frz od (.lst acc2)) DG0 neE
          have tbGf := tabs_lst (o := .frz od (.lst acc2)) tbG0 hacc2
          have fxf := fx.off (o := .frz od (.lst acc2)) hacc2
          refine ⟨_, rfl, d, W, C, 3099 - 200 * i - 3 * j, 4, rfl, DGf.mono (by omega), by decide, by decide, fun zz G1 _ _ DG1 sg1 => ⟨rfl, _, rfl, ?_⟩⟩
          have tb1' := Tabs.sd DGf tbGf sg1
          have f1 := fxf.same sg1
          obtain ⟨t1, p1, rfl, g1, g2, g3⟩ := f1
          refine ite2 (fun _ => ?_) (fun _ => ?_)
          · refine ⟨_, rfl, _, rfl, d, W, C, 3097 - 200 * i - 3 * j, t1, p1.1, p1.2, rfl, DG1.mono (by omega), g1, g2, fun dn vn2 G2 nd2 DG2 sg2 u2 => ?_⟩
            obtain ⟨b1, b2⟩ := bent_fin (m := 3100 - 200 * i - 3 * (j + 1)) neE neD neED hd0 nrs (fun x hx => (frs0 x hx).off hacc2) DG2 (by omega) (sg1.trans sg2) nd2 u2 (Tabs.sd DG1 tb1' sg2)
            obtain ⟨c1, c2, c3, c4, c5⟩ := b2 (.lst acc2) (.lst (acc2 ++ [vn2]))
            exact ⟨b1, acc2, upd_same, small1000 (by omega), acc2 ++ [vn2], upd_same, by rw [List.length_append]; exact Nat.add_le_add_right lacc2 1, c1, c2, c3, c4, c5⟩
          · have dt1 : Dt (Hid d W G1) (.tuple [.int p1.1, .int p1.2]) (.ref t1) := by
              simp only [Dt, DtL]
              exact ⟨t1, _, rfl, g1, _, _, rfl, rfl, _, _, rfl, rfl, rfl⟩
            obtain ⟨b1, b2⟩ := bent_fin (m := 3100 - 200 * i - 3 * (j + 1)) neE neD neED hd0 nrs (fun x hx => (frs0 x hx).off hacc2) DG1 (by omega) sg1 (fr_near g2 g3) dt1 tb1'
            obtain ⟨c1, c2, c3, c4, c5⟩ := b2 (.lst acc2) (.lst (acc2 ++ [.ref t1]))
            exact ⟨_, rfl, b1, acc2, upd_same, small1000 (by omega), acc2 ++ [.ref t1], upd_same, by rw [List.length_append]; exact Nat.add_le_add_right lacc2 1, c1, c2, c3, c4, c5⟩
        · rintro G0 ⟨acc2, hacc2, lacc2, nrs, hd0, frs0, DG0, tbG0⟩
          have del_le : Same (Hid d W (del G0 DE)) G0 := fun b o e => (Hid.sub d W _ _ _ (hid_del e).2)
          obtain ⟨ds2, dl2, lds2, nds2⟩ := nrs_data nrs
          refine ⟨_, rfl, _, rfl, d, DE, acc2, ds2, rfl, hacc2, DtL.same del_le _ _ dl2, by omega, nds2, tbG0, fun B7 eB7 tB7 => ⟨_, rfl, ?_⟩⟩
          refine ite2 (fun z => absurd z (by decide)) (fun _ => ?_)
          have DB7 := DG0.extn eB7
          have R20 : Rn d W C (3000 - 200 * i + 1) B7 B7 [] := ⟨DB7.mono (by omega), Sd.refl _, fun q hq => nomatch hq⟩
          refine ⟨_, rfl, fun y1 k1 => alloc k1 R20 fun J1 R21 => fun y2 k2 => ⟨le_line (by simp), fun y3 k3 => dispT_ok R21 k2 k3 fun J2 R22 => ⟨le_line (by simp), fun y4 k4 => alloc k4 R22 fun J4 R24 => ?_⟩⟩⟩
          refine ⟨d, W, C, 3000 - 200 * i, y4, _, rfl, R24.dr, R24.at_ (q := (y4, _)) (List.mem_cons_self ..), by simp, by simp, fun ix nn J5 hix D25 sd25 => ?_⟩
          have R25 := R24.call D25 sd25
          obtain ⟨dd, hdd, udd⟩ : ∃ dd, dd ∈ noneL ∧ Dt J5 dd nn := by
            suffices all : DtL (Hid d W J5) noneL _ by
              obtain ⟨dd, e1, e2⟩ := DtL.at_ all hix
              exact ⟨dd, List.mem_of_getElem? e1, Dt.same (Hid.sub d W J5) _ _ e2⟩
            simp only [noneL, DtL, Dt, DtK, DtT]
            refine ex_cons rfl (ex_cons rfl (ex_cons rfl (ex_cons rfl (ex_cons rfl (ex_cons (ex_dk (R25.hid (by walk_at "mem")) rfl) (ex_cons (ex_dt (R25.hid (by walk_at "mem")) ⟨_, _, _, rfl, rfl, rfl, rfl⟩) rfl))))))
          have tb25 := Tabs.sd DB7 tB7 R25.sd
          obtain ⟨oc, o1, o2⟩ := noneL_ok dd hdd
          have oI : ItB dd := ⟨by rw [o1]; decide, fun _ z => by rw [o1] at z; cases z⟩
          have oJ : ∀ x ∈ itemsD dd, cpB 4 x = true := fun _ z => by rw [o1] at z; cases z
          refine tk_of (r := .inl dd) tb25 (fun H2 Q2 E2 e2 t2 out => ⟨_, rfl, nn, dd, rfl, Dt.extn e2 _ _ udd, oc, oJ, oI, by rw [o2]; exact out⟩) fun q1 G1 e1 t1 d1 => ?_
          refine ⟨le_line (by simp), fun tl2 htl => ?_⟩
          refine ⟨_, rfl, .inl ⟨rfl, _, SqL.of upd_same⟩, ?_⟩
          have ext1 : ∀ {H2 : Hp} {its : List V}, ExtN (upd G1 tl2 (.lst its)) H2 → ExtN J5 H2 := fun e => ExtN.trans (ExtN.trans e1 (ExtN.same (same_upd htl))) e
          refine app_step (r := .inl dd) htl (t1.ext (same_upd htl)) (fun H2 Q2 E2 e2 t2 out => ⟨_, rfl, nn, dd, rfl, Dt.extn (ext1 e2) _ _ udd, oc, oJ, oI, by rw [o2]; exact out⟩) fun q2 G2 e2 n2 t2 d2 => ?_
          refine ⟨tl2, _, _, rfl, rfl, upd_same, small1000 (by simp), ?_⟩
          rw [upd_upd]
          refine allocN n2 fun F10 sF10 lF10 => ?_
          have xF10 : ExtN J5 F10 := ExtN.trans (ExtN.trans e1 e2) (ExtN.same sF10)
          have tbF10 := (tabs_off t2).ext sF10
          have told2 : Dt F10 (.list [.list [dd], .list [dd]]) (.ref tl2) := Dt.lst lF10 (DtL.cons (Dt.extn (ExtN.trans e2 (ExtN.same sF10)) _ _ (Dt.same nwE_le _ _ d1)) (DtL.cons (Dt.same sF10 _ _ d2) DtL.nil))
          refine ne_rep rfl rfl told2 (Dt.extn xF10 _ _ udd) (noneL_shw dd hdd) fun F11 sF11 => ite2 (fun z => absurd z (by decide)) (fun _ => ?_)
          exact ⟨_, _, _, _, _, _, _, _, _, _, _, _, rfl, (D25.extn (ExtN.trans xF10 (ExtN.same sF11))).mono (by omega), tbF10.ext sF11⟩
end
end G02
set_option Elab.async false
set_option linter.all false
set_option maxRecDepth 100000
set_option maxHeartbeats 8000000
namespace G02
open PySem PySem.Spec PyProof.Rows L2 Mw LamX
abbrev R : PySem.W.OpenRow := PySem.W.OpenLaw.row PySem.Challenge.rw_meanways_k02_fractions
abbrev tf : List He.Defn := [pL, pM]
abbrev hk : PySem.W.Hook := hookMT 5 fa fn tf
def ob (s : PySem.W.SharedT) : He.AlD × Bool := obsMT 5 fa fn tf (HandSHeadRun.getT s)
theorem ob_eq (s : PySem.W.SharedT) : ob s = hk.obs s.abs := obsMT_eq (HandSHeadRun.getT_eq s)
abbrev others : List Str := ["gcd", "_copied", "MeanError", "BadNumber", "NoTable", "is_number", "is_fraction", "fraction", "_check_fractions", "added", "multiplied", "_law_begun", "_law_mixed", "_law_take", "_law_pick", "_law_odd", "_law_divided", "_law_plus", "_law_by", "_law_number", "_law_near", "_law_is_good", "_law_told", "_law_lists_right"]
theorem run (w : World) : HandSHeadRun.RunEqI R (PySem.W.view R.prog [27]) hk ob 9000 others w := by
  unfold HandSHeadRun.RunEqI
  kernel_rfl
theorem facts {P : Program} {w : World} {K : PySem.W.Frag} {h : Heap} {mg : Str → Option Value} {f : Addr} (X : K.In h) (G : h.Ns mainGlobals mg) (hfa : mg ("law" : Str) = some (.ref f)) (c : SaysM fa fn K) :
    ∃ fd : FuncData, (∀ (s : Shared) (v : Value), BindsTo s fd ⟨[v], []⟩ [("script", v)]) ∧ ∀ base : Heap, K.In base → base.Ns mainGlobals mg → (∀ p ∈ [pL, pM], TabB base mg (He.cT K p).1 (He.cT K p).2) → FnG P w K mg base CX0 14 f fd ["script"] (spLaw K) := by
  have T := txt_of X G c
  have e := hfa.symm.trans T.g_law
  cases e
  have b := FunD.bindsA (ps := ["script"]) T.f_law fun _ _ _ _ _ _ us hl => match us, hl with | [_], _ => rfl
  exact ⟨_, fun s v => b s [v] rfl, fun base _ _ tb => ok_law T tb⟩
end G02
open PySem PySem.W PySem.Calls PyProof.Rows
theorem PySem.Challenge.cw_meanways_k02_fractions_holds : PySem.Challenge.rw_meanways_k02_fractions.Holds := by
  w_on; o_law
  refine HandSHeadRun.head_imp (r := OpenLaw.row PySem.Challenge.rw_meanways_k02_fractions) (q := view (OpenLaw.row PySem.Challenge.rw_meanways_k02_fractions).prog [27]) (H := G02.hk) (ob := G02.ob) (M := 9000) (loose := G02.others) (d := HandSHeadRun.topDef (OpenLaw.row PySem.Challenge.rw_meanways_k02_fractions).prog 27) (kwd := []) G02.ob_eq
    G02.run (by kernel_rfl) (by kernel_rfl) (by kernel_rfl) (by rfl) (by first | assumption | decide +kernel) (by decide +kernel) ⟨rfl, rfl, rfl, rfl, rfl, by decide +kernel⟩ ?hw ?hc
  case hw => w_witness2
  case hc =>
    refine Mw.walk_ofGT (l := PySem.Challenge.rw_meanways_k02_fractions) (n := 63) (k := 14) (x := "script") (CX := L2.CX0) rfl (by decide) (by kernel_rfl) ⟨rfl, by decide, by decide⟩ ?F (fun _ _ _ _ z => z)
    intro w mg f h Y G hmg0
    obtain ⟨K, KX, c⟩ := Y
    have hmg : mg ("law" : PySem.Str) = some (.ref f) := by
      have e : (HandSHeadRun.topDef (OpenLaw.row PySem.Challenge.rw_meanways_k02_fractions).prog 27).name = ("law" : PySem.Str) := by kernel_rfl
      rw [← e]
      exact hmg0
    obtain ⟨fd, hb, hF⟩ := G02.facts (P := (PySem.Challenge.rw_meanways_k02_fractions).prog) (w := w) KX G hmg c.m
    refine ⟨K, fd, G02.spLaw K, [He.cT K G02.pL, He.cT K G02.pM], KX, ?_, hb, ?_, ?_⟩
    · intro p hp
      simp only [List.mem_cons, List.not_mem_nil, or_false] at hp
      rcases hp with rfl | rfl
      · exact ⟨c.hd _ (by simp), c.out _ (by simp), c.empty _ (by simp)⟩
      · exact ⟨c.hd _ (by simp), c.out _ (by simp), c.empty _ (by simp)⟩
    · intro H a ns hl hbits ht hS
      refine ⟨a, ns, rfl, hS, hl, ?_, fun _ => rfl⟩
      intro p hp
      simp only [G02.tabs, List.mem_cons, List.not_mem_nil, or_false] at hp
      rcases hp with rfl | rfl
      · exact ⟨#[], ht _ (by simp), by trivial, fun pos cv hc => by cases hc⟩
      · exact ⟨#[], ht _ (by simp), by trivial, fun pos cv hc => by cases hc⟩
    · intro base h1 h2 h3
      refine hF base h1 h2 fun p hp => ?_
      simp only [List.mem_cons, List.not_mem_nil, or_false] at hp
      rcases hp with rfl | rfl
      · exact h3 _ (by simp)
      · exact h3 _ (by simp)

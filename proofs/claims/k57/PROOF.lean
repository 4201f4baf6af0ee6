import PyProof.Rows.All
import Wide.All
import OpenK.AllK
import Wide.FinOn
import HandS.ForMost
import HandS.Evl
import HandS.ExcInit
import HandS.ExcValue
import HandS.ExcIs
import HandS.ExcField
import HandS.IsInst
import PyProof.ReprRoads
import HandS.Head0
import HandS.Head1
import HandS.Head2
import HandS.HeadEnd
import HandS.HeadHook1
import HandS.HeadHook2
import HandS.Lambda
import HandS.TryOnly
import HandS.CallLocal
import HandS.ForExc
import HandS.Style
import HandS.StrMore
import HandS.FStr
import HandS.Wide
import PyProof.ReprLen
import PyProof.Rows.StrNews2
import PyProof.StrLawsIn
import PyProof.StrBlock2
import HandS.Zip
import HandS.Walk
import KE.GoesZip
import KE.GoesMore
import HandS.HeadHook4
import HandS.More
import KE.KDictZip
import KE.KDictDisplayH
import HandS.Dict
import KE.SortKeyHeap
import HandS.SortKw
import KE.IntTextLaws
import HandS.Star
import HandS.DictComp
import HandS.TupAny
import HandS.SetKeys
import HandS.Rev
import PyProof.EnumMake
import HandS.EndTab
import PyProof.NeKinds
import PySem.Challenge.RW_stopanywhere_k57_least_spans_by_prices
set_option Elab.async false
set_option linter.all false
set_option maxRecDepth 100000
set_option maxHeartbeats 4000000
/-! ### exceptions held as values: isinstance, fields, made with their own __init__; repr of data -/
namespace SA
section
open PySem PySem.Spec PySem.Calls PyProof.Rows PySem.W
variable {prog : Program} {w : World} {A : Around} {E : Value → Shared → Prop} {s : Shared} {K : Frag} {x D : Addr} {ox : Obj} {od : Option Obj}
/-- a data descriptor of the class is found first, whatever the object's own dict holds -/
theorem find_data {name : Str} {a g : Value} (hc : (clsIn K D).isSome = true) (ha : findIn K (.ref D) name = some (some a)) (hg : specialIn K a "__get__" = some (some g))
    (ht : takesIn K a = some true) : findObj K D od name = some (.bind g a) := by
  obtain ⟨cd, e⟩ := Option.isSome_iff_exists.mp hc
  unfold findObj
  rw [e, Option.bind_some, ha, Option.bind_some]
  simp [hg, ht]
/-- e.__class__ of an exception object of the class at D -/
theorem exc_class {Q : Option Value → Shared → Prop} (C : L2.ExcC K D) (X : K.In s.heap) (I : InstAt s.heap x ox D od) (h : Q (some (.ref D)) { s with toks := s.toks + 1 }) :
    wpAny (model prog w) A (getAttr? (.ref x) "__class__") Q E s := by
  have hcd : (clsIn K D).isSome = true := by
    obtain ⟨cd, hc, _⟩ := any_some C.hd
    rw [hc] <;> rfl
  have hf : findObj K D od "__class__" = some (.bind (.builtin "getset_descriptor.__get__") (.builtin "object.__class__")) := find_data hcd C.ha C.hn C.ht
  obtain ⟨hp, g, d, t, os⟩ := s
  have t0 := I.type (M := model prog w)
  have t1 := looks_findIn (M := model prog w) X C.hg
  have t2 := looks_findIn (M := model prog w) X C.hk
  have t3 := looks_find (M := model prog w) X I hf
  have sub : Looks (model prog w) hp (isInstance (.ref x) (.type "BaseException")) true := t0.andThen (looks_subIn X C.hs)
  have n0 : (false && onTheHeap (Value.builtin "BaseException.__getattribute__")) = false := rfl
  have n2 : (Value.builtin "BaseException.__getattribute__" == Value.builtin "object.__getattribute__") = false := by decide +kernel
  have n1 : (onTheHeap (Value.ref D) && Value.builtin "BaseException.__getattribute__" == Value.builtin "object.__getattribute__") = false := by rw [n2] <;> rfl
  unfold getAttr? getAttrBy? getAttrBy
  refine wpAny_bind (wpAny_mkText (wpAny_bind (wpAny_attempt (wpAny_holding (wpAny_bind (t0.at (wpAny_bind (t1.at ?_))))))))
  show wpAny _ _ (if (onTheHeap (Value.ref D) && Value.builtin "BaseException.__getattribute__" == Value.builtin "object.__getattribute__") = true then _ else _) _ _ _
  rw [n1, if_neg Bool.false_ne_true]
  unfold getAttrByItsOwn hookBefore
  refine wpAny_bind ?_
  rw [if_pos (show onTheHeap (Value.ref D) = true from rfl)]
  refine t2.at ?_
  refine wpAny_bind (wpAny_attempt (wpAny_holding ?_))
  unfold callGetattribute
  rw [n0, if_neg Bool.false_ne_true]
  unfold boundAndCalled
  rw [PySem.F.excAttr_ValueError.ga.bind (.ref x)]
  refine wpAny_bind (wpAny_pure ?_)
  show wpAny _ _ (call (.builtin "BaseException.__getattribute__") [.ref x, .str "__class__" t]) _ _ _
  refine wpAny_call (codeAny_call_builtin PySem.F.excAttr_ValueError.ga.plain PySem.F.entry_bexc_ga ?_)
  refine @check_slot (model prog w) _ _ ⟨hp, g, d, t + 1, os⟩ "BaseException.__getattribute__" "BaseException" "__getattribute__" (.ref x) [.str "__class__" t] [] _ (by decide +kernel) (by decide +kernel) sub (PySem.F.args_bexc_ga (.ref x) (.str "__class__" t)) ?_
  unfold Builtin.«object.__getattribute__»
  refine wpAny_bind (wpAny_of_eq (a := ((Value.ref x : Value), [Value.str "__class__" t])) (by first | rfl | (simp only [slotArgs]; rfl)) ?_)
  refine wpAny_bind (wpAny_pure (wpAny_bind (t0.at (wpAny_bind (t3.at ?_)))))
  show wpAny _ _ (holding [Value.builtin "object.__class__"] (call (.builtin "getset_descriptor.__get__") [.builtin "object.__class__", .ref x, .ref D]) >>= ret) _ _ _
  refine wpAny_bind (wpAny_holding (wpAny_call (class_get (s := ⟨hp, g, d, t + 1, os⟩) (ox := ox) (od := od) X I C.hm ?_)))
  refine wpAny_pure ?_
  show wpAny _ _ (handedOut (.ref D)) _ _ _
  rw [handedOut_of (v := .ref D) rfl]
  first
    | exact wpAny_pure (wpAny_pure h)
    | exact wpAny_pure h
    | exact wpAny_pure (wpAny_bind (wpAny_pure (wpAny_pure h)))
theorem is_class {c : Addr} (h : hasDictIn K c = true) : ∃ oc od cd sl, K.lookup c = some ⟨oc, od, .cls cd, sl⟩ := by
  obtain ⟨cd, hc, _⟩ := any_some h
  unfold clsIn at hc
  split at hc
  · rename_i c' d' cd' sl' ho
    exact ⟨_, _, _, _, ho⟩
  · cases hc
theorem kit_exc (C : L2.ExcC K D) : KitX K (.ref x) (.ref D) (fun h => InstAt h x ox D od) where
  ty := fun _ _ _ I => I.type
  it := fun _ _ X _ => by
    obtain ⟨oc, dd, cd, sl, ho⟩ := is_class C.hd
    intro A' Q' E' s' k q
    unfold isType loadHead
    exact wpAny_bind (wpAny_loadPart (k _ _ (X _ _ ho)) (wpAny_pure q))
  ne := fun h tp dd its n sl X htp => Bool.eq_false_iff.mpr fun q => by
    obtain ⟨oc, d2, cd, sl2, ho⟩ := is_class C.hd
    have e : D = tp := Value.ref.inj (beq_iff_eq.mp q)
    subst e
    have z := (X _ _ ho).symm.trans htp
    cases z
  ca := fun X I k => exc_class C X I k
end
section
open PySem PySem.Spec PyProof.Rows L2
/-- at a stands an exception of the class at C, not raised: without a dict | with its dict at d -/
def XAt (H : Hp) (a C : Addr) : Prop := H a = some (ExO (.ref C) a) ∨ ∃ (d : Addr) (fs : List (Str × V)), H a = some (exo a C (some d)) ∧ H d = some (exd d fs)
variable {X : Cx}
theorem XAt.inst {pins : List (Addr × Obj)} {σ : L2.St} {H : Hp} {s : Shared} {a C : Addr} (I : Inv X pins σ H s) (h : XAt H a C) : ∃ ox od, PySem.W.InstAt s.heap a ox C od := by
  rcases h with h | ⟨d, fs, h1, h2⟩
  · obtain ⟨⟨oe, vs, e, z, dt, _⟩, _⟩ := I.hok a _ h
    refine ⟨oe, none, e, z.1, ?_, ?_⟩
    · unfold PySem.W.notCls
      rw [dt] <;> rfl
    · rw [z.2]
      trivial
  · obtain ⟨t1, e⟩ := exo_at I.hok h1
    obtain ⟨mA, hn, _⟩ := exd_at I.hok h2
    obtain ⟨od, ho, _⟩ := lookIn_ns hn
    exact ⟨_, some od, e, rfl, rfl, ho⟩
/-- isinstance(e, c), e an exception held as a value -/
def rIsX (K : PySem.W.Frag) : List V → Hp → VK → Prop := fun xs H Q => ∃ (a D : Addr) (c : V) (cv : Value) (b : Bool), xs = [.ref a, c] ∧ ClsV c cv ∧ XAt H a D ∧ ExcC K D ∧ PySem.W.kitOne K (.ref D) cv = some b ∧ Q (.bl b) H
theorem call_isX : CallR X (.builtin "isinstance") (rIsX X.K) := by
  intro pins s σ H xs us Q I r h
  obtain ⟨a, D, c, cv, b, rfl, k, hx, hC, e, q⟩ := h
  obtain ⟨u1, u2, rfl, r1, r2⟩ := vals2 r
  have e2 := k.eq r2
  subst e2
  obtain rfl : u1 = Value.ref a := r1
  obtain ⟨ox, od, J⟩ := hx.inst I
  exact PySem.W.kia_one (kit_exc hC) I.kIn J e (fun z => nomatch z) fun tk => ⟨.bl b, H, I.kept (t' := tk) fun _ _ z => z, rfl, q⟩
/-- e.f, e an exception held as a value -/
def tXfld (K : PySem.W.Frag) (te : TE) (f : Str) : TE := fun σ H Q => te σ H fun x H1 => ∃ (a C d : Addr) (fs : List (Str × V)) (v : V), x = .ref a ∧ H1 a = some (exo a C (some d)) ∧ H1 d = some (exd d fs) ∧ XfC K C ∧
  PySem.W.findIn K (.ref C) f = some none ∧ fs.lookup f = some v ∧ Q v H1
theorem pe_xfld {e : Expr} {te : TE} {f : Str} {pos : Pos} (he : PE X e te) (hb : attributeBase e f X.env (eval e X.env) = eval e X.env := by rfl) : PE X (.Attribute e f pos) (tXfld X.K te f) := by
  refine ⟨fun pins s σ H Q I h => ?_⟩
  refine attr_of hb (thn (he.run pins s σ H _ I h) fun u s1 hh => ?_)
  obtain ⟨x, H1, I1, rx, a, C, d, fs, v, ex, h1, h2, T, hno, hl, q⟩ := hh
  subst ex
  obtain rfl : u = Value.ref a := rx
  obtain ⟨t1, ha⟩ := exo_at I1.hok h1
  obtain ⟨mA, hns, hr⟩ := exd_at I1.hok h2
  obtain ⟨od, ho, hlk⟩ := lookIn_ns hns
  obtain ⟨u, hu, ru⟩ := RelO.some_of (v := v) (o := mA f) (by rw [← hl]; exact hr f)
  have J : PySem.W.InstAt s1.heap a _ C (some od) := ⟨ha, rfl, rfl, ho⟩
  exact HandSPX.exc_get I1.kIn J T.ga T.gg T.exC (PySem.W.findObj_own T.hdC hno rfl (by rw [hlk, hu])) (handed_of ru) ⟨v, H1, I1.tok _, ru, q⟩
end
end SA

set_option Elab.async false
set_option linter.all false
set_option maxRecDepth 100000
set_option maxHeartbeats 4000000
namespace SA
open PySem PySem.Spec PyProof.Rows L2
/-! ### data of any depth, dicts too, and its repr -/
def keyD : Key → PyData
  | .inl i => .int i
  | .inr x => .str x
mutual
inductive Dx (K : PySem.W.Frag) (H : Hp) : V → PyData → Prop
  | non : Dx K H .non .none
  | bl (b : Bool) : Dx K H (.bl b) (.bool b)
  | int (i : Int) : Dx K H (.int i) (.int i)
  | str (x : Str) : Dx K H (.str x) (.str x)
  | lst {a : Addr} {xs : List V} {ds : List PyData} : SqL K H a xs → DxAll K H xs ds → Dx K H (.ref a) (.list ds)
  | tup {a : Addr} {xs : List V} {ds : List PyData} : SqT K H a xs → DxAll K H xs ds → Dx K H (.ref a) (.tuple ds)
  | dct {a : Addr} {kvs : List (Key × V)} {ds : List (PyData × PyData)} : H a = some (.dK kvs) → kvs.map (fun p => keyD p.1) = ds.map (·.1) → DxAll K H (kvs.map (·.2)) (ds.map (·.2)) → Dx K H (.ref a) (.dict ds)
inductive DxAll (K : PySem.W.Frag) (H : Hp) : List V → List PyData → Prop
  | nil : DxAll K H [] []
  | cons {v : V} {vs : List V} {d : PyData} {ds : List PyData} : Dx K H v d → DxAll K H vs ds → DxAll K H (v :: vs) (d :: ds)
end
/-- the written part knows sys.modules, a dict -/
def SysK (K : PySem.W.Frag) : Prop := ∃ o, K.lookup sysModules = some o ∧ o.cls = .type "dict"
section
variable {X : Cx} {pins : List (Addr × Obj)} {σ : L2.St} {H : Hp} {s : Shared}
theorem SysK.trk (S : SysK X.K) (I : Inv X pins σ H s) {a : Addr} {o : HO} (h : H a = some o) : sysModules ≠ a := fun e => by
  obtain ⟨ob, h1, _⟩ := S
  obtain ⟨_, z⟩ := I.bs sysModules ob (I.mod.kin _ _ h1)
  rw [e, h] at z
  cases z
theorem SysK.seqL (S : SysK X.K) (I : Inv X pins σ H s) {a : Addr} {xs : List V} (h : SqL X.K H a xs) : sysModules ≠ a := by
  rcases h with (h | ⟨o, h⟩) | ⟨o, its, n, h, hc, _⟩
  · exact S.trk I h
  · exact S.trk I h
  · intro e
    obtain ⟨ob, h1, h2⟩ := S
    rw [e, h] at h1
    cases h1
    rw [hc] at h2
    exact absurd (Value.type.inj h2) (by decide)
theorem pairs_keys {P : Program} {w : World} : ∀ {es : List DictEntry} {vs : List (Key × Value)}, Pairs (mixKind P w) es vs → ∃ as, ReadsAll s.heap (es.map (·.key)) (vs.map fun p => keyD p.1) as ∧ as = []
  | _, _, .nil => ⟨[], .nil, rfl⟩
  | _, _, .cons (e := e) (kv := kv) h1 h2 t => by
    obtain ⟨as, r, rfl⟩ := pairs_keys t
    have hk : Reads s.heap e.key (keyD kv.1) [] := by
      rcases keyIs_shape (k := kv.1) (v := e.key) h1 with ⟨i, t, e1, e2⟩ | ⟨x, t, e1, e2⟩
      · rw [e1, e2]
        exact .int i t
      · rw [e1, e2]
        exact .str x t
    exact ⟨[] ++ [], .cons hk r, rfl⟩
theorem pairs_vals {P : Program} {w : World} : ∀ {es : List DictEntry} {vs : List (Key × Value)}, Pairs (mixKind P w) es vs → es.map (·.val) = vs.map (·.2)
  | _, _, .nil => rfl
  | _, _, .cons h1 h2 t => by
    rw [List.map_cons, List.map_cons, pairs_vals t, h2]
theorem kv_keys : ∀ {kvs : List (Key × V)} {vs : List (Key × Value)}, KV kvs vs → kvs.map (fun p => keyD p.1) = vs.map (fun p => keyD p.1) ∧ Vals (kvs.map (·.2)) (vs.map (·.2))
  | _, _, .nil => ⟨rfl, .nil⟩
  | _, _, .cons r t => by
    obtain ⟨h1, h2⟩ := kv_keys t
    obtain ⟨q1, q2⟩ := r
    exact ⟨by rw [List.map_cons, List.map_cons, h1, q1], .cons q2 h2⟩
mutual
theorem Dx.reads (S : SysK X.K) (I : Inv X pins σ H s) : ∀ {d : PyData} {v : V} {u : Value}, Dx X.K H v d → RelV v u → ∃ as, Reads s.heap u d as ∧ sysModules ∉ as
  | _, _, u, .non, r => ⟨[], by obtain rfl : u = Value.none := r; exact .none, by simp⟩
  | _, _, u, .bl b, r => ⟨[], by obtain rfl : u = Value.bool b := r; exact .bool b, by simp⟩
  | _, _, u, .int i, r => by
    obtain ⟨t, rfl⟩ := r
    exact ⟨[], .int i t, by simp⟩
  | _, _, u, .str x, r => by
    obtain ⟨t, rfl⟩ := r
    exact ⟨[], .str x t, by simp⟩
  | _, _, u, .lst (a := a) hs ha, r => by
    obtain rfl : u = Value.ref a := r
    obtain ⟨its, rv, ⟨o, n, ho, hc, _, hd⟩, _⟩ := I.list hs
    obtain ⟨as, hr, hn⟩ := DxAll.reads S I ha rv
    exact ⟨_, .list ho hc hd hr, fun m => (List.mem_cons.mp m).elim (S.seqL I hs) hn⟩
  | _, _, u, .tup (a := a) hs ha, r => by
    obtain rfl : u = Value.ref a := r
    obtain ⟨its, rv, ⟨o, ho, hc, n, hd⟩, _⟩ := I.tuple hs
    obtain ⟨as, hr, hn⟩ := DxAll.reads S I ha rv
    exact ⟨_, .tuple ho hc hd hr, hn⟩
  | _, _, u, .dct (a := a) (kvs := kvs) (ds := ds) h1 hk ha, r => by
    obtain rfl : u = Value.ref a := r
    obtain ⟨_, hsm, vs, kv, o, es, ep, ho, hx, hd, _, hp, _⟩ := (show ObjOk X.prog X.w H s.heap a (.dK kvs) from I.hok a _ h1)
    obtain ⟨e1, e2⟩ := kv_keys kv
    obtain ⟨bs, hr, hn⟩ := DxAll.reads S I ha e2
    obtain ⟨as, hr2, rfl⟩ := pairs_keys (s := s) hp
    refine ⟨a :: [] ++ bs, .dict ho hx.1 hd (by rw [← hk, e1]; exact hr2) (by rw [pairs_vals hp]; exact hr), fun m => ?_⟩
    have m2 : sysModules ∈ a :: bs := m
    exact (List.mem_cons.mp m2).elim (S.trk I h1) hn
theorem DxAll.reads (S : SysK X.K) (I : Inv X pins σ H s) : ∀ {ds : List PyData} {vs : List V} {us : List Value}, DxAll X.K H vs ds → Vals vs us → ∃ as, ReadsAll s.heap us ds as ∧ sysModules ∉ as
  | _, _, _, .nil, .nil => ⟨[], .nil, by simp⟩
  | _, _, _, .cons h1 h2, .cons r1 r2 => by
    obtain ⟨as, q1, n1⟩ := Dx.reads S I h1 r1
    obtain ⟨bs, q2, n2⟩ := DxAll.reads S I h2 r2
    exact ⟨_, .cons q1 q2, fun m => (List.mem_append.mp m).elim n1 n2⟩
end
end
/-- repr of a list, a tuple, a dict -/
def rRepr (K : PySem.W.Frag) : List V → Hp → VK → Prop := fun xs H Q => ∃ (a : Addr) (d : PyData), xs = [.ref a] ∧ Dx K H (.ref a) d ∧ d.showable = true ∧ d.shown.length ≤ sizeLine ∧ d.depth ≤ 60 ∧ Q (.str d.shown) H
theorem call_repr {X : Cx} (S : SysK X.K) (hg : X.A.guards = some []) (hu : X.A.units + 64 < cLine) : CallR X (.builtin "repr") (rRepr X.K) := by
  intro pins s σ H xs us Q I r h
  obtain ⟨a, d, rfl, hd, hs, hz, hp, q⟩ := h
  obtain ⟨u, rfl, ru⟩ := vals1 r
  obtain rfl : u = Value.ref a := ru
  obtain ⟨as, hr, hn⟩ := Dx.reads S I hd (u := .ref a) rfl
  exact repr_of_reads' hr hs (fun _ => hn) hg (by omega) (fun _ _ e => e) (fun h' u tk hk => ⟨.str d.shown, H, I.kept (t' := tk) hk, ⟨u, rfl⟩, q⟩) hz
/-! ### X(e, ..) by its own __init__, as a value -/
def tOex (C : Addr) (sp : Sp) (dvs : List V) (ta : TA) : TE := fun σ H Q => ta σ H fun vs H1 => vs.length ≤ 1000 ∧ ∀ a, H1 a = none → sp (.ref a :: (vs ++ dvs)) (upd H1 a (exo a C none)) (fun v H2 => v = .non ∧ Q (.ref a) H2) (fun _ _ _ => False)
theorem pe_oex {X : Cx} {CX : CXT} {x : Str} {C fI : Addr} {k : Nat} {fd : FuncData} {ps : List Str} {sp : Sp} {ds : List Value} {dvs : List V} {e : Expr} {es : List Expr} {ta : TA} {p pos : Pos}
    (T : OexC X.K C) (iC : PySem.W.findIn X.K (.ref C) "__init__" = some (some (.ref fI))) (tI : PySem.W.typeIn X.K (.ref fI) = some (.type "function"))
    (F1 : FnOk X.prog X.w X.K X.mg X.base CX k fI fd ps sp) (hr : Room (k + 1) X.A) (hb : L2.Binds X.K fd ps ds) (hd : Vals dvs ds) (hx : Passes CX X (fun _ _ _ => False)) (hg : Gl X x) (hm : X.mg x = some (.ref C)) (ha : PA X (e :: es) ta)
    (hdb : (x == ("__debug__" : Str)) = false := by decide) (he : starEach (e :: es) X.env = (false, eval e X.env) :: starEach es X.env := by rfl) (hpl : (backTo pos (starEach es X.env)).any (·.1) = false := by rfl) :
    PE X (.Call (.Name x p) (e :: es) [] pos) (tOex C sp dvs ta) := by
  refine ⟨fun pins s σ H Q I h => ?_⟩
  obtain ⟨nm, q, N, bs, bm, sn, sub, ab, col, dd, k0, k1, k2, k3, k5, hC, hbm⟩ := T.cls
  refine wpAny_Call_Name_kw (ld_glob I hg hm ?_ hdb)
  refine PySem.W.callWith_K (h₀ := X.base) I.ok.mod.kin T.kC (thn (ha.run pos pins s σ H _ I h) fun us s1 ⟨vs, H1, I1, r1, hz, q1⟩ => ⟨I1.kIn, ?_⟩) he hpl
  show wpAny _ _ (call (.ref C) us) _ _ _
  obtain ⟨hp, g, dr, tk, os⟩ := s1
  have hsz : hp.objs.size ≤ hp.objs.size + 1 := Nat.le_succ _
  have hn : H1 (hp.objs.size + 1) = none := I1.hok.fresh hsz
  have hq := q1 (hp.objs.size + 1) hn
  have hget : ((hp.push (PySem.W.kdv_tup us)).push (PySem.HandSPX.excO C hp.objs.size)).get? (hp.objs.size + 1) = some (PySem.HandSPX.excO C hp.objs.size) := by heap_get
  have I2 : Inv X pins σ (upd H1 (hp.objs.size + 1) (exo (hp.objs.size + 1) C none)) ⟨(hp.push (PySem.W.kdv_tup us)).push (PySem.HandSPX.excO C hp.objs.size), g, dr, tk, os⟩ :=
    I1.laid (t' := tk) (fun b o z => Heap.get?_push_of_some _ (Heap.get?_push_of_some _ z)) hsz (exo_ok hget)
  have r2 : Vals (V.ref (hp.objs.size + 1) :: (vs ++ dvs)) (Value.ref (hp.objs.size + 1) :: (us ++ ds)) := .cons rfl (r1.append hd)
  have hl : (Value.ref (hp.objs.size + 1) :: us ++ ds).length = ps.length := r2.length.symm.trans (F1.len _ _ _ _ hq)
  have hus : us.length ≤ sizeLine := by
    have z := Paired.length r1
    rw [sizeLine_eq]
    omega
  refine wpAny_call (PySem.HandSPX.call_own F.excBase_ValueError (fun Y => PySem.HandSPX.refsVE_contains Y bm hbm) (I1.kIn _ _ hC) (PySem.W.looks_findIn I1.kIn iC) (fun self => PySem.W.bind_fn I1.kIn self tI) hus
    (codeAny_mono (F1.run _ X.stack _ _ ⟨Value.ref (hp.objs.size + 1) :: us, []⟩ (Value.ref (hp.objs.size + 1) :: (us ++ ds)) _ _ (fun _ _ _ => False) (hr.make C us []) (I2.env0.make C us []) (hb _ (Value.ref (hp.objs.size + 1) :: us) I2.kIn hl) r2 hq) fun r s' hq' => ?_))
  cases r with
  | error er => exact hx pins σ _ _ er s' I2 hq'
  | ok fl =>
    cases fl with
    | ret u =>
      obtain ⟨v, H2, J, rv, ev, q2⟩ := I2.after hq'
      subst ev
      exact ⟨rv, .ref (hp.objs.size + 1), H2, J, rfl, q2⟩
    | next => exact False.elim hq'
    | brk => exact False.elim hq'
    | cont => exact False.elim hq'
end SA

set_option Elab.async false
set_option linter.all false
set_option maxRecDepth 100000
set_option maxHeartbeats 4000000
namespace SA
open PySem PySem.Spec PyProof.Rows L2
/-! ### the law's def, entered where no repr is under way -/
/-- what the law's def does when the claim's caller calls it -/
def LawRun (P : Program) (w : World) (K : PySem.W.Frag) (mg : Str → Option Value) (base : Heap) (fa : Addr) (n : Nat) : Prop :=
  ∀ (s : Shared) (H : Hp) (a : Addr) (ns : List Int), Env0 P w K mg base callerA [] s H → SqL K H a (ns.map V.int) → ns.length ≤ n →
    codeAny (model P w) callerA (.call (.ref fa) ⟨[.ref a], []⟩) (CR CX0 [] P w H s (fun v _ => v = .bl true) E0) s
section
variable {P : Program} {w : World} {K : PySem.W.Frag} {mg mb : Str → Option Value} {fa a : Addr} {s : Shared} {vs : List Value} {ns : List Int} {n : Nat}
abbrev Done (s : Shared) : Result → Shared → Prop := fun r s' => r = .ok (.ret (.bool true)) ∧ OldK s.heap s'.heap ∧ s'.os = s.os ∧ AllBare s'.gens
/-- from an abstract heap in which at most the script is tracked -/
theorem law_from (KX : K.In s.heap) (hns : s.heap.Ns mainGlobals mg) (hb : s.heap.Ns builtinsNs mb) (hbb : ∀ x : Str, x ≠ "__name__" → mb x = bootBuiltins x) (hlim : s.heap.NoLimit) (hg : s.gens = #[])
    (ha : s.heap.get? a = some { cls := .type "list", data := .seq vs.toArray }) (hn : ns.length ≤ n) (F : ∀ base : Heap, K.In base → base.Ns mainGlobals mg → LawRun P w K mg base fa n)
    (H : Hp) (hO : Only H) (hS : SqL K H a (ns.map V.int)) (hok : HOk P w H s.heap) (hA : ∀ b, H b ≠ none → b = a) (hK : H a ≠ none → K.lookup a = none) : codeAny (model P w) callerA (.call (.ref fa) ⟨[.ref a], []⟩) (Done s) s := by
  have only : ∀ {b : Addr}, b ≠ a → H b = none := fun {b} nb => by
    cases q : H b with
    | none => rfl
    | some u => exact absurd (hA b (by rw [q]; simp)) nb
  have nsd : ∀ {b : Addr} {m : Str → Option Value}, s.heap.Ns b m → (hidT s.heap H).Ns b m := fun {b m} z => by
    obtain ⟨o, es, ep, e, d, r⟩ := z
    refine ⟨o, es, ep, hidT_get e (only fun eb => ?_), d, r⟩
    rw [eb, ha] at e
    cases e
    cases d
  have kin : K.In (hidT s.heap H) := fun b o e => hidT_get (KX b o e) (by
    by_cases eb : b = a
    · cases q : H b with
      | none => rfl
      | some u =>
        have z := hK (by rw [← eb, q]; simp)
        rw [← eb, e] at z
        cases z
    · exact only eb)
  have env : Env0 P w K mg (hidT s.heap H) callerA [] s H :=
    ⟨rfl, ⟨kin, nsd hns, ⟨mb, nsd hb, hbb⟩, let ⟨mc, h1, h2⟩ := hlim; ⟨mc, nsd h1, h2⟩⟩, fun b o e => of_hidT e, Nat.le_of_eq (hidT_size _ _), trivial, fun b z => absurd (show b ∈ ([] : List Addr) from z) (by simp), hok, .of_eq hg⟩
  refine codeAny_mono (F _ kin (nsd hns) s H a ns env hS hn) fun r s' h => ?_
  match r, h with
  | .error _, h => exact False.elim h
  | .ok .next, h => exact False.elim h
  | .ok .brk, h => exact False.elim h
  | .ok .cont, h => exact False.elim h
  | .ok (.ret u), ⟨v, H', os, bare, un, hok', rv, q⟩ =>
    have ev : v = .bl true := q
    subst ev
    obtain rfl : u = Value.bool true := rv
    refine ⟨rfl, OldK.of_keep fun b o e => ?_, os, bare⟩
    rcases hO b with z | ⟨ob, xs, z⟩
    · exact un.keep b o e z (fun y => absurd (show b ∈ ([] : List Addr) from y) (by simp)) (by simp)
    · obtain ⟨e1, _⟩ := hok b _ z
      obtain ⟨e2, _⟩ := hok' b _ (un.frzs b ob _ z)
      rw [e] at e1
      cases e1
      exact e2
theorem law_callG (KX : K.In s.heap) (hns : s.heap.Ns mainGlobals mg) (hb : s.heap.Ns builtinsNs mb) (hbb : ∀ x : Str, x ≠ "__name__" → mb x = bootBuiltins x) (hlim : s.heap.NoLimit) (hg : s.gens = #[])
    (ha : s.heap.get? a = some { cls := .type "list", data := .seq vs.toArray }) (hi : IntsAre vs ns) (hl : ns.length ≤ sizeLine) (hn : ns.length ≤ n) (F : ∀ base : Heap, K.In base → base.Ns mainGlobals mg → LawRun P w K mg base fa n) :
    codeAny (model P w) callerA (.call (.ref fa) ⟨[.ref a], []⟩) (Done s) s := by
  have rv := vals_ints hi
  cases hk : K.lookup a with
  | some o =>
    have e := KX a o hk
    rw [ha] at e
    cases e
    exact law_from KX hns hb hbb hlim hg ha hn F (fun _ => none) (fun _ => .inl rfl) (.inr ⟨_, vs.toArray, _, hk, rfl, rfl, rfl, by rw [List.size_toArray, hi.length]; exact hl, by simpa using rv⟩)
      (fun b u z => absurd (show (none : Option HO) = some u from z) (by simp)) (fun b z => absurd rfl z) fun z => absurd rfl z
  | none =>
    have at_ : ∀ b, (fun b => if b = a then some (HO.frz { cls := .type "list", data := .seq vs.toArray } (.lst (ns.map V.int))) else none : Hp) b ≠ none → b = a := fun b z => by
      by_cases hb : b = a
      · exact hb
      · exact absurd (if_neg hb) z
    refine law_from KX hns hb hbb hlim hg ha hn F (fun b => if b = a then some (.frz { cls := .type "list", data := .seq vs.toArray } (.lst (ns.map V.int))) else none) (fun b => ?_) (.inl (.inr ⟨_, if_pos rfl⟩)) (fun b u z => ?_) at_ fun _ => hk
    · by_cases hb : b = a
      · exact .inr ⟨_, _, if_pos hb⟩
      · exact .inl (if_neg hb)
    · have eb := at_ b (by rw [z]; simp)
      subst eb
      have z2 := (if_pos rfl).symm.trans z
      cases z2
      exact ⟨ha, by rw [List.length_map]; exact hl, vs, _, rv, ha⟩
end
/-- the goal that the head leaves, from what the law's def does -/
theorem walk_G {l : PySem.W.OpenLaw} {n : Nat} {q : Program} {loose : List Str} {XP : (Str → Option Value) → Heap → Prop} {YP : World → Heap → Prop} {d : DefRec} (hn : l.most = some n) (hn2 : n ≤ sizeLine) (hdf : d.params.defaults = [])
    (F : ∀ (w : World) (mg : Str → Option Value) (fa : Addr) (h : Heap), YP w h → h.Ns mainGlobals mg → mg d.name = some (.ref fa) →
      ∃ K : PySem.W.Frag, K.In h ∧ ∀ base : Heap, K.In base → base.Ns mainGlobals mg → LawRun l.prog w K mg base fa n) :
    PySem.W.WalkO q loose XP YP l.row.toRowW d [] (fun f vs => PySem.call f vs) := by
  refine Att.attach_call hn hdf fun w s₀ s₁ mg mb fa o pm cd doc a vs ns G Y ho hd hcd hmg hobj hints hlen hg => ?_
  obtain ⟨K, KX, hF⟩ := F w mg fa _ Y G.T.g hmg
  exact law_callG KX G.T.g G.T.b G.T.builtins G.T.nolimit hg hobj hints (Nat.le_trans hlen hn2) hlen hF
/-- LawRun from the body of the law's def -/
theorem law_run {P : Program} {w : World} {K : PySem.W.Frag} {mg : Str → Option Value} {base : Heap} {fa : Addr} {fd : FuncData} {st : Stmt} {N : List Str} {x : Str} {n k : Nat} (F : Fun K "law" "law" st fa fd) (S : FnScope N [x] (defScope st))
    (hb : ∀ (s : Shared) (u : Value), BindsTo s fd ⟨[u], []⟩ [(x, u)]) (hr : Room (k + 1) callerA)
    (body : ∀ (cdv : Value) (s : Shared) (H : Hp) (a : Addr) (ns : List Int), Room k (callerA.deeper (envOfC "law" (defScope st) s.heap.objs.size fa cdv)) → SqL K H a (ns.map V.int) → ns.length ≤ n →
      ∃ t, PSs (cxOf CX0 P w K mg base N "law" (defScope st) fa cdv callerA [] s H E0).nox (defBody st) t ∧ t { nx := fun _ _ => V.non = V.bl true, rt := fun v _ => v = .bl true } (start N [.ref a]) H) :
    LawRun P w K mg base fa n := by
  intro s H a ns env hS hn
  obtain ⟨oc, od, kV, doc, pm, an, cdv, ct, osl, rfl, lk, hcd⟩ := F.ex
  refine LamX.run_ofS (k := k) (N := N) (ps := [x]) (us := [.ref a]) (vs := [.ref a]) (Q := fun v _ => v = .bl true) (E := E0) lk hcd S hr env (hb s (.ref a)) (.cons rfl .nil) rfl fun hr' => ?_
  obtain ⟨t, h1, h2⟩ := body cdv s H a ns hr' hS hn
  exact ⟨t, h1.nox, h2⟩
theorem FunD.toFun {K : PySem.W.Frag} {x qual : Str} {st : Stmt} {f : Addr} {fd : FuncData} (F : FunD K x qual (defArgs st) (defBody st) (defScope st) [] [] f fd) : Fun K x qual st f fd := by
  obtain ⟨⟨oc, od, dV, kV, doc, pm, an, cdv, ct, osl, e, l, c, hD, hK⟩, kp⟩ := F
  rcases hD with ⟨_, rfl⟩ | ⟨z, _⟩
  · exact ⟨⟨oc, od, kV, doc, pm, an, cdv, ct, osl, e, l, c⟩, kp⟩
  · exact absurd rfl z
end SA

set_option Elab.async false
set_option linter.all false
set_option maxRecDepth 100000
set_option maxHeartbeats 4000000
/-! ### a caught exception that outlives its except suite -/
namespace SA
open PySem PySem.Spec PyProof.Rows L2
/-- at a stands an exception of the class cls, its dict at d, that was caught -/
def HX (cls : Value) (d : Option Addr) (a : Addr) : HO := .ext fun h => ∃ (oe : Obj) (vs : Array Value), h.get? a = some oe ∧ Zc cls d oe ∧ oe.data = .fields vs
theorem hx_ok {P : Program} {w : World} {H : Hp} {h : Heap} {a : Addr} {cls : Value} {d : Option Addr} {oe : Obj} {vs : Array Value} (e : h.get? a = some oe) (z : Zc cls d oe) (q : oe.data = .fields vs) : ObjOk P w H h a (HX cls d a) :=
  ⟨⟨oe, vs, e, z, q⟩, ⟨oe, e⟩, fun _ _ ⟨o, v, q, r⟩ k => ⟨o, v, k o q, r⟩⟩
section
variable {X : Cx} {pins : List (Addr × Obj)} {σ : L2.St} {H : Hp} {s : Shared}
theorem Inv.track {a : Addr} {o : HO} (I : Inv X pins σ H s) (hn : H a = none) (h0 : X.s_0.heap.get? a = none) (nL : a ≠ X.env.locals) (nC : ∀ x c, X.env.cells.lookup x = some c → c ≠ a) (nP : ∀ p ∈ X.pn ++ pins, p.1 ≠ a) (new : ObjOk X.prog X.w (upd H a o) s.heap a o) :
    Inv X pins σ (upd H a o) s := by
  have up : ∀ {b : Addr} {u : HO}, H b = some u → upd H a o b = some u := fun {b u} e => by
    rw [upd_ne (ne_of_none e hn)]
    exact e
  refine ⟨I.ok, I.os, I.bare, ⟨I.base.keep, I.base.slot, fun b u e n hx => ?_, I.base.there, fun b xs e => up (I.base.tups b xs e), fun b u v e => up (I.base.frzs b u v e), fun b ps e => ?_⟩, I.loc, I.cell, ?_, fun x c e => ?_, fun p hp => ?_, ?_, I.len⟩
  · rw [upd_ne (fun z => by rw [z, h0] at e; cases e)]
    exact I.base.free b u e n hx
  · obtain ⟨more, q⟩ := I.base.tbls b ps e
    exact ⟨more, up q⟩
  · rw [upd_ne nL.symm]
    exact I.free
  · rw [upd_ne (nC x c e)]
    exact I.freeC x c e
  · obtain ⟨e, n, q⟩ := I.pin p hp
    refine ⟨e, ?_, q⟩
    rw [upd_ne (nP p hp)]
    exact n
  · exact I.hok.laidN (fun _ _ e => e) hn new
/-- an object of fields is no frame -/
theorem fields_noframe {B h : Heap} {l : List Env} {a : Addr} {o : Obj} {vs : Array Value} (ff : h.FunFrames B l) (e : h.get? a = some o) (d : o.data = .fields vs) : a ∉ frs l := fun m => by
  obtain ⟨_, o2, e2, z⟩ := ff.mem m
  cases e.symm.trans e2
  exact z _ d
/-- an exception that came up within is new to the def: no frame, no pin, nothing that stood at the entry -/
structure NewX (X : Cx) (pins : List (Addr × Obj)) (a : Addr) : Prop where
  nloc : a ≠ X.env.locals
  nfs : a ∉ X.fs
  old : X.s_0.heap.get? a = none
  npin : ∀ p ∈ X.pn ++ pins, p.1 ≠ a
theorem newX {B h : Heap} {a : Addr} {o : Obj} {vs : Array Value} {sI : Shared} (hs : X.stack = X.env :: X.outer) (hf : X.env.frame = some X.env.locals) (hex : X.ex = []) (J : Inv X pins σ H sI)
    (nb : ∀ b u, sI.heap.get? b = some u → b ∉ frs X.stack → B.get? b = some u) (hB : B.get? a = none) (ff : h.FunFrames B (X.env :: X.outer)) (e : h.get? a = some o) (d : o.data = .fields vs) : NewX X pins a := by
  have nf := fields_noframe ff e d
  have gone : ∀ u, sI.heap.get? a ≠ some u := fun u q => by
    have z := nb a u q (hs ▸ nf)
    rw [hB] at z
    cases z
  refine ⟨fun z => nf (List.mem_filterMap.mpr ⟨X.env, List.mem_cons_self, z ▸ hf⟩), fun m => ?_, ?_, fun p hp z => gone _ (z ▸ (J.pin p hp).1)⟩
  · obtain ⟨v, hv, q⟩ := List.mem_filterMap.mp m
    exact nf (List.mem_filterMap.mpr ⟨v, List.mem_cons_of_mem _ hv, q⟩)
  · match q : X.s_0.heap.get? a with
    | none => rfl
    | some u =>
      obtain ⟨u', q'⟩ := J.base.there a u q (hex ▸ List.not_mem_nil)
      exact (gone u' q').elim
/-- what the clause 'except x as n' wishes whose suite keeps the exception: behind the suite it stands at a, told by HX -/
def wHold (K : PySem.W.Frag) (c : Value) (m i : Nat) (ts : Addr → Value → Option Addr → TS) (Wout : WX) (D : Ends) : WX := fun cls d σ H =>
  ∃ b, PySem.W.exmOne K cls c = some b ∧ (b = false → Wout cls d σ H) ∧
    (b = true → σ.length = m → ∀ a, H a = none → ts a cls d { nx := fun σ1 H1 => D.nx (σ1.set i none) (upd H1 a (HX cls d a)), rt := fun _ _ => False, bk := fun _ _ => False, ct := fun _ _ => False } (σ.set i (some (.ref a))) H)
end
section
variable {X : Cx} {x n : Str} {c : Value} {i : Nat} {body suite : List Stmt} {b₀ : Stmt} {np p1 p2 : Pos} {tb : WX → TS} {ts : Addr → Value → Option Addr → TS} {Wout : WX}
/-- try: body / except x as n: suite, the suite neither returning nor leaving a loop: the exception may be kept under another name -/
theorem ps_try_hold (hs : X.stack = X.env :: X.outer) (hf : X.env.frame = some X.env.locals) (hex : X.ex = []) (hN : X.N.Nodup) (hi : X.N[i]? = some n) (hln : X.env.kindOf n = some .local) (hc : Names X x c) (tk : Takes X Wout)
    (hb : ∀ (W : WX) (pn : List (Addr × Obj)) (xe : Value → Shared → Prop), Takes (X.tr pn xe) W → PassesOwn (model X.prog X.w) X.A X.env xe → PSs (X.tr pn xe) body (tb W))
    (hsu : ∀ (a : Addr) (oe : Obj) (cls : Value) (d : Option Addr) (pn : List (Addr × Obj)), Zc cls d oe → (∃ vs, oe.data = .fields vs) → PSs (X.suite a ((a, oe) :: pn)) (b₀ :: suite) (ts a cls d)) :
    PS X (.Try body [.ExceptHandler (some (.Name x np)) (some n) (b₀ :: suite) p1] [] [] p2) (fun D σ H => tb (wHold X.K c X.N.length i ts Wout D) D σ H) := ⟨fun pins s σ H D I hw => by
  have ok := I.ok
  have fr : X.A.frames = some (X.env :: X.outer) := hs ▸ ok.frames
  -- what is done with an exception that the body lets out
  let caught : Value → Shared → Prop := fun e t1 => wpAny (model X.prog X.w) X.A (noteFrame e X.env) (fun _ t2 => wpAny (model X.prog X.w) X.A (setFlight e none) (fun _ t3 => wpAny (model X.prog X.w) X.A (handleBy e X.env [.ExceptHandler (some (.Name x np)) (some n) (b₀ :: suite) p1]) (SP X pins D) X.xe t3) X.xe t2) X.xe t1
  have takes : Takes (X.tr (X.pn ++ pins) caught) (wHold X.K c X.N.length i ts Wout D) := fun u t ⟨a, B, sI, _, σ1, H1, cls, d, eu, I1, nb, up, sky, na, os, ag, b, hcls, hno, hyes⟩ => by
    subst eu
    have J : Inv X pins σ1 H1 sI := I1.ofTry ok
    refine Sky.land Zc.steady fr hf (show Sky B (X.env :: X.outer) a (Zc cls d) X.env.locals t.heap from hs ▸ sky) fun h3 fl3 up3 => ?_
    obtain ⟨o3, v3, g3, z3, d3⟩ := fl3.there
    have nx := newX hs hf hex J nb fl3.2.1 fl3.2.2.1 g3 d3
    have J3 : Inv X pins σ1 H1 { t with heap := h3 } := J.landed nb fl3.1 (up.trans up3) os ag
    have T3 := J3.suite g3 d3 na nx.nloc nx.nfs
    have cl : PySem.W.Looks (model X.prog X.w) h3 (typeOf (.ref a)) cls := fun _ _ _ t' k q => wpAny_typeOf_ref (k _ _ g3) (z3.1.symm ▸ q)
    refine wpAny_handleBy_cons (codeAny_handlers_test ?_) (fun q => nomatch q)
    have named : ∀ {Q E : Value → Shared → Prop}, Q c { t with heap := h3 } → wpAny (model X.prog X.w) (X.A.mark (some (.ref a))) (eval (.Name x np) X.env) Q E { t with heap := h3 } := fun q => by
      obtain ⟨hg, hdb, hm⟩ := hc
      rcases hm with hm | ⟨hm, hv, hnn⟩
      · exact ld_glob (X := X.suite a ((a, o3) :: (X.pn ++ pins))) T3 hg hm q hdb
      · exact ld_blt (X := X.suite a ((a, o3) :: (X.pn ++ pins))) T3 hg hm hv q hnn hdb
    refine named ((PySem.W.exm_one (M := model X.prog X.w) J3.kIn cl hcls).here ?_)
    match b, hno, hyes with
    | false, hno, _ =>
      show wpAny _ X.A (handleBy (.ref a) X.env []) _ _ _
      obtain ⟨_, _, _, oe, vs, T, _, _, g, _, dd, h1, _⟩ := id fl3
      have out : wpAny (model X.prog X.w) X.A (setFlight (.ref a) X.env.frame) (fun _ t4 => wpAny (model X.prog X.w) X.A (throw (.ref a) : Sem Flow) (SP X pins D) X.xe t4) X.xe { t with heap := h3 } := by
        rw [hf]
        refine HandSPX.setFlight_upZ fl3 fun h4 k4 up4 => wpAny_throw (tk _ _ ⟨a, B, sI, pins, σ1, H1, cls, d, rfl, J, nb, (up.trans up3).trans up4, .inr (.inr (hs ▸ k4)), na, os, ag, hno rfl⟩)
      refine wpAny_handleBy_nil ?_
      unfold PySem.passOn
      refine wpAny_bind (wpAny_field g dd h1 ?_)
      rw [if_neg (show ¬ ((Value.ref T == Value.none) = true) from by simp)]
      first
        | exact wpAny_bind out
        | exact wpAny_bind (wpAny_pure (wpAny_bind out))
    | true, _, hyes =>
      refine codeAny_handlers_suite_as (HandSPX.lands_againZ fl3 fun h4 fl4 up4 => ?_)
      obtain ⟨o4, v4, g4, z4, d4⟩ := fl4.there
      have J4 : Inv X pins σ1 H1 { t with heap := h4 } := J.landed nb fl4.1 ((up.trans up3).trans up4) os ag
      refine store_ok (X := X.suite a ((a, o4) :: (X.pn ++ pins))) (v := .ref a) (J4.suite g4 d4 na nx.nloc nx.nfs) hN hi (.inl hln) rfl (fun s5 T5 => ?_) (.inr hln)
      refine wpAny_mono ((hsu a o4 cls d (X.pn ++ pins) z4 ⟨_, d4⟩).run [] s5 _ H1 _ T5 (hyes rfl J.len a na)) (fun f s6 q => ?_) (fun _ _ z => z.elim)
      match f, q with
      | .brk, ⟨_, _, _, z⟩ => exact z.elim
      | .cont, ⟨_, _, _, z⟩ => exact z.elim
      | .ret _, ⟨_, _, _, _, _, z⟩ => exact z.elim
      | .next, ⟨σ6, H6, T6, q6⟩ =>
        refine gone_ok (X := X.suite a ((a, o4) :: (X.pn ++ pins))) T6 hN hi hln fun s7 T7 => ?_
        obtain ⟨g7, n7, _, _, c7⟩ := T7.pin (a, o4) (by rw [List.append_nil]; exact List.mem_cons_self)
        have J7 : Inv X pins (σ6.set i none) H6 s7 := T7.unsuite ok
        refine ⟨_, _, Inv.track J7 n7 nx.old nx.nloc (fun y c' e z => ?_) nx.npin (hx_ok g7 z4 d4), q6⟩
        obtain ⟨v, o, ho, hd⟩ := J7.cell y c' e
        rw [z] at ho
        cases g7.symm.trans ho
        exact c7 v hd
  refine wpAny_Try_except (wpAny_mono ((hb _ (X.pn ++ pins) caught takes PassesOwn.looking).run [] s σ H D (I.toTry _) hw) (fun f s1 q => ?_) fun e s1 q => q)
  match f, q with
  | .next, ⟨_, _, T, q⟩ => exact wpAny_execs_nil ⟨_, _, T.ofTry ok, q⟩
  | .brk, ⟨_, _, T, q⟩ => exact ⟨_, _, T.ofTry ok, q⟩
  | .cont, ⟨_, _, T, q⟩ => exact ⟨_, _, T.ofTry ok, q⟩
  | .ret _, ⟨_, _, _, T, r, q⟩ => exact ⟨_, _, _, T.ofTry ok, r, q⟩⟩
end
section
variable {X : Cx}
/-- it is an instance of its class -/
theorem HX.inst {pins : List (Addr × Obj)} {σ : L2.St} {H : Hp} {s : Shared} {a C : Addr} {d : Option Addr} (I : Inv X pins σ H s) (h : H a = some (HX (.ref C) d a)) (hd : ∀ dx, d = some dx → ∃ fs, H dx = some (.xd fs)) : ∃ ox od, PySem.W.InstAt s.heap a ox C od ∧
    (∀ dx fs, d = some dx → H dx = some (.xd fs) → ∃ o mA, od = some o ∧ s.heap.Ns1 dx mA ∧ s.heap.get? dx = some o ∧ ∀ f, RelO (fs.lookup f) (mA f)) := by
  obtain ⟨⟨oe, vs, e, z, dt⟩, _⟩ := I.hok a _ h
  have hnc : PySem.W.notCls oe = true := by
    unfold PySem.W.notCls
    rw [dt] <;> rfl
  cases d with
  | none =>
    refine ⟨oe, none, ⟨e, z.1, hnc, ?_⟩, fun dx fs q => by cases q⟩
    rw [z.2]
    trivial
  | some dx =>
    obtain ⟨fs, hx⟩ := hd dx rfl
    obtain ⟨mA, hns, hr⟩ := I.hok dx _ hx
    obtain ⟨od, ho, hlk⟩ := lookIn_ns hns
    refine ⟨oe, some od, ⟨e, z.1, hnc, ?_⟩, fun dx' fs' q hx' => ?_⟩
    · rw [z.2]
      exact ho
    · cases q
      rw [hx] at hx'
      cases hx'
      exact ⟨od, mA, rfl, hns, ho, hr⟩
end
end SA

set_option Elab.async false
set_option linter.all false
set_option maxRecDepth 100000
set_option maxHeartbeats 4000000
/-! ### what is asked of a caught exception -/
namespace SA
open PySem PySem.Spec PyProof.Rows L2
section
variable {X : Cx}
/-- isinstance(e, c), e a caught exception -/
def rIsH (K : PySem.W.Frag) : List V → Hp → VK → Prop := fun xs H Q => ∃ (a D : Addr) (d : Option Addr) (c : V) (cv : Value) (b : Bool), xs = [.ref a, c] ∧ ClsV c cv ∧ H a = some (HX (.ref D) d a) ∧ (∀ dx, d = some dx → ∃ fs, H dx = some (.xd fs)) ∧ ExcC K D ∧ PySem.W.kitOne K (.ref D) cv = some b ∧ Q (.bl b) H
theorem call_isH : CallR X (.builtin "isinstance") (rIsH X.K) := by
  intro pins s σ H xs us Q I r h
  obtain ⟨a, D, d, c, cv, b, rfl, k, hx, hd, hC, e, q⟩ := h
  obtain ⟨u1, u2, rfl, r1, r2⟩ := vals2 r
  have e2 := k.eq r2
  subst e2
  obtain rfl : u1 = Value.ref a := r1
  obtain ⟨ox, od, J, _⟩ := HX.inst I hx hd
  exact PySem.W.kia_one (kit_exc hC) I.kIn J e (fun z => nomatch z) fun tk => ⟨.bl b, H, I.kept (t' := tk) fun _ _ z => z, rfl, q⟩
/-- e.f, e a caught exception whose dict is told -/
def tHfld (K : PySem.W.Frag) (te : TE) (f : Str) : TE := fun σ H Q => te σ H fun x H1 => ∃ (a C dx : Addr) (fs : List (Str × V)) (v : V), x = .ref a ∧ H1 a = some (HX (.ref C) (some dx) a) ∧ H1 dx = some (.xd fs) ∧ XfC K C ∧
  PySem.W.findIn K (.ref C) f = some none ∧ fs.lookup f = some v ∧ Q v H1
theorem pe_hfld {e : Expr} {te : TE} {f : Str} {pos : Pos} (he : PE X e te) (hb : attributeBase e f X.env (eval e X.env) = eval e X.env := by rfl) : PE X (.Attribute e f pos) (tHfld X.K te f) := by
  refine ⟨fun pins s σ H Q I h => ?_⟩
  refine attr_of hb (thn (he.run pins s σ H _ I h) fun u s1 hh => ?_)
  obtain ⟨x, H1, I1, rx, a, C, dx, fs, v, ex, h1, h2, T, hno, hl, q⟩ := hh
  subst ex
  obtain rfl : u = Value.ref a := rx
  obtain ⟨ox, od, J, g⟩ := HX.inst I1 h1 fun dx' e => ⟨fs, by cases e; exact h2⟩
  obtain ⟨o, mA, eo, hns, ho, hr⟩ := g dx fs rfl h2
  obtain ⟨o', ho', hlk⟩ := lookIn_ns hns
  rw [ho] at ho'
  cases ho'
  subst eo
  obtain ⟨w, hw, rw'⟩ := RelO.some_of (v := v) (o := mA f) (by rw [← hl]; exact hr f)
  exact HandSPX.exc_get I1.kIn J T.ga T.gg T.exC (PySem.W.findObj_own T.hdC hno rfl (by rw [hlk, hw])) (handed_of rw') ⟨v, H1, I1.tok _, rw', q⟩
end
end SA

set_option Elab.async false
set_option linter.all false
set_option maxRecDepth 100000
set_option maxHeartbeats 4000000
namespace SA
open PySem PySem.Spec PyProof.Rows L2
/-! ### a def of the module, all that a call of it needs -/
structure Dq (P : Program) (w : World) (K : PySem.W.Frag) (mg : Str → Option Value) (base : Heap) (CX : CXT) (k : Nat) (x : Str) (ps : List Str) (sp : Sp) : Prop where
  ex : ∃ (f : Addr) (fd : FuncData), FnOk P w K mg base CX k f fd ps sp ∧ mg x = some (.ref f) ∧ PySem.W.keepIn K (.ref f) = true ∧ L2.Binds K fd ps []
/-- .. called by keywords -/
structure Dk (P : Program) (w : World) (K : PySem.W.Frag) (mg : Str → Option Value) (base : Heap) (CX : CXT) (k : Nat) (x : Str) (ps ks : List Str) (gV : List V → List V → List V) (sp : Sp) : Prop where
  ex : ∃ (f : Addr) (fd : FuncData) (g : List Value → List Value → List Value), FnOk P w K mg base CX k f fd ps sp ∧ mg x = some (.ref f) ∧ PySem.W.keepIn K (.ref f) = true ∧ KBinds K fd ps ks g gV
/-- what raises nothing passes -/
theorem passN {P : Program} {w : World} {X : Cx} : Passes (L2.CX P w) X (fun _ _ _ => False) := fun _ _ _ _ _ _ _ ⟨_, _, _, _, _, _, _, _, _, _, _, _, h⟩ => h.elim
section
variable {X : Cx} {CX : CXT} {k j : Nat} {x : Str} {p pos : Pos} {e : Expr} {es : List Expr} {t tk : TA} {sp : Sp} {ps ks : List Str} {E : XK} {kws : List Keyword} {gV : List V → List V → List V}
theorem pe_qX (c : Dq X.prog X.w X.K X.mg X.base CX k x ps sp) (hr : Room j X.A) (hk : k ≤ j) (hg : Gl X x) (hx : Passes CX X E) (ha : PA X (e :: es) t)
    (hdb : (x == ("__debug__" : Str)) = false := by decide) (he : starEach (e :: es) X.env = (false, eval e X.env) :: starEach es X.env := by rfl) (hpl : (backTo pos (starEach es X.env)).any (·.1) = false := by rfl) :
    PE X (.Call (.Name x p) (e :: es) [] pos) (tCall sp [] E t) := by
  obtain ⟨f, fd, F, hm, kp, b⟩ := c.ex
  exact pe_call F (hr.mono hk) hg hm kp b .nil hx ha hdb he hpl
theorem pe_q (c : Dq X.prog X.w X.K X.mg X.base CX0 k x ps sp) (hr : Room j X.A) (hk : k ≤ j) (hg : Gl X x) (ha : PA X (e :: es) t)
    (hdb : (x == ("__debug__" : Str)) = false := by decide) (he : starEach (e :: es) X.env = (false, eval e X.env) :: starEach es X.env := by rfl) (hpl : (backTo pos (starEach es X.env)).any (·.1) = false := by rfl) :
    PE X (.Call (.Name x p) (e :: es) [] pos) (tCall sp [] (fun _ _ _ => False) t) := pe_qX c hr hk hg pass0 ha hdb he hpl
/-- f(a, k = b) -/
theorem pe_qK (c : Dk X.prog X.w X.K X.mg X.base CX k x ps ks gV sp) (hr : Room j X.A) (hk : k ≤ j) (hg : Gl X x) (hx : Passes CX X E) (ha : PA X (e :: es) t) (hkw : PK X kws tk)
    (hall : (backToKw pos (keywordEach kws X.env)).all (·.1.isSome) = true := by rfl) (hks : (backToKw pos (keywordEach kws X.env)).filterMap (·.1) = ks := by rfl)
    (hdb : (x == ("__debug__" : Str)) = false := by decide) (he : starEach (e :: es) X.env = (false, eval e X.env) :: starEach es X.env := by rfl)
    (hpl : ((backTo pos (starEach (e :: es) X.env)).any (·.1) || (backToKw pos (keywordEach kws X.env)).any (·.1.isNone)) = false := by rfl) :
    PE X (.Call (.Name x p) (e :: es) kws pos) (tCallK sp gV E t tk) := by
  obtain ⟨f, fd, g, F, hm, kp, b⟩ := c.ex
  exact pe_callK F (hr.mono hk) hg hm kp b hx ha hkw hall hks hdb he hpl
/-- f(k = b) -/
theorem pe_qK0 (c : Dk X.prog X.w X.K X.mg X.base CX k x ps ks gV sp) (hr : Room j X.A) (hk : k ≤ j) (hg : Gl X x) (hx : Passes CX X E) (hkw : PK X kws tk)
    (hall : (backToKw pos (keywordEach kws X.env)).all (·.1.isSome) = true := by rfl) (hks : (backToKw pos (keywordEach kws X.env)).filterMap (·.1) = ks := by rfl)
    (hdb : (x == ("__debug__" : Str)) = false := by decide) (hpl : ((backTo pos (starEach [] X.env)).any (·.1) || (backToKw pos (keywordEach kws X.env)).any (·.1.isNone)) = false := by rfl) :
    PE X (.Call (.Name x p) [] kws pos) (tCallK sp gV E tNil tk) := by
  obtain ⟨f, fd, g, F, hm, kp, b⟩ := c.ex
  refine ⟨fun pins s σ H Q I h => wpAny_Call_Name_kw (ld_glob I hg hm ?_ hdb)⟩
  refine PySem.W.callWith_KW0 (h₀ := X.base) I.ok.mod.kin kp hall (thn (hkw.run pos pins s σ H _ I h) fun ws s2 ⟨zs, H2, I2, rz, q⟩ => ⟨I2.kIn, ?_⟩) hpl
  rw [hks]
  exact run_fnk (us := []) (vs := []) F (hr.mono hk) b hx I2 .nil rz q
end
/-- what is None where the module's names are: the built-in names that a text uses -/
structure Bn (mg : Str → Option Value) : Prop where
  isinstance : mg "isinstance" = none
  int : mg "int" = none
  bool : mg "bool" = none
  str : mg "str" = none
  len : mg "len" = none
  abs : mg "abs" = none
  range : mg "range" = none
  repr : mg "repr" = none
end SA

set_option Elab.async false
set_option linter.all false
set_option maxRecDepth 100000
set_option maxHeartbeats 4000000
namespace SA
open PySem PySem.Spec PyProof.Rows L2
/-! ### errors -/
theorem small1000' {n : Nat} (h : n ≤ 1000) : n ≤ sizeLine := by
  have := sizeLine_eq
  omega
theorem small5 {n : Nat} (h : n ≤ 100000) : n ≤ sizeLine := by
  have := sizeLine_eq
  omega
structure Own24 (K : PySem.W.Frag) (C f : Addr) (fs : List Str) : Prop where
  oex : OexC K C
  init : PySem.W.findIn K (.ref C) "__init__" = some (some (.ref f))
  fn : PySem.W.typeIn K (.ref f) = some (.type "function")
  no : ∀ x ∈ fs, PySem.W.findIn K (.ref C) x = some none
/-- __init__'s promise: the field holds the argument -/
def spInit1 (C : Addr) (fl : Str) : Sp := fun vs H Q _ => ∃ (a : Addr) (x : V), vs = [.ref a, x] ∧ H a = some (exo a C none) ∧
  ∀ (dx : Addr) (H' : Hp), H dx = none → dx ≠ a → H' a = some (exo a C (some dx)) → H' dx = some (exd dx [(fl, x)]) → (∀ b o, H b = some o → b ≠ a → H' b = some o) → Q .non H'
/-- a class of errors without __init__ -/
structure Cl0 (K : PySem.W.Frag) (mg : Str → Option Value) (x : Str) (C : Addr) : Prop where
  g : mg x = some (.ref C)
  x : PySem.W.excIn K C [.type "ValueError", .type "Exception", .type "BaseException", .type "object"] "ValueError.__new__" = true
  k : PySem.W.keepIn K (.ref C) = true
  b : PySem.W.subIn K (.ref C) (.type "BaseException") = some true
  t : PySem.W.typeIn K (.ref C) = some (.type "type")
/-- a class of errors with one field -/
structure Cl1 (P : Program) (w : World) (K : PySem.W.Frag) (mg : Str → Option Value) (base : Heap) (x fl : Str) (C : Addr) (f : Addr) (fd : FuncData) : Prop where
  g : mg x = some (.ref C)
  o : Own24 K C f [fl]
  G : FnOk P w K mg base CX0 1 f fd ["self", fl] (spInit1 C fl)
  b : L2.Binds K fd ["self", fl] []
/-- an error of the class C with this field is raised, nothing else changed -/
def RaiseF (C : Addr) (fl : Str) (v : V) (H : Hp) (E : XK) : Prop := ∀ (d : Addr) (H' : Hp), Same H H' → H d = none → H' d = some (.xd [(fl, v)]) → E (.ref C) (some d) H'
theorem RaiseF.of {C : Addr} {fl : Str} {v : V} {H H1 : Hp} {E : XK} (s : Same H H1) (h : RaiseF C fl v H E) : RaiseF C fl v H1 E := fun d H' s1 hd e => h d H' (s.trans s1) (s.free hd) e
section
variable {P : Program} {w0 : World} {K : PySem.W.Frag} {mg : Str → Option Value} {base : Heap} {C f : Addr} {fd : FuncData}
/-- from the raising of such an error, its argument worked out, to RaiseF -/
theorem raiseF {fl : Str} {te : TE} {x : V} {σ : L2.St} {H1 : Hp} {E : XK} (ht : ∀ R : V → Hp → Prop, R x H1 → te σ H1 R) (hb : RaiseF C fl x H1 E) : tMkO C (spInit1 C fl) [] (tCons te tNil) σ H1 fun cls d H' => E cls d H' := by
  refine ht _ ⟨(by show 1 ≤ 1000; decide), fun a ha => ⟨a, x, rfl, upd_same, fun dx H' hdx ne e1 e2 kp => ⟨rfl, dx, _, e1, e2, ?_, ?_⟩⟩⟩
  · rw [upd_ne ne] at hdx
    exact hdx
  · have hdx : H1 dx = none := by
      rw [upd_ne ne] at hdx
      exact hdx
    refine hb dx _ (fun b o e => ?_) hdx upd_same
    have nb := ne_of_none e ha
    rw [upd_ne (ne_of_none e hdx), L2.del_ne nb]
    exact kp b o (by rw [upd_ne nb]; exact e) nb
end
/-! ### values of all kinds, by their class -/
inductive Kd (K : PySem.W.Frag) (H : Hp) : V → String → Prop
  | non : Kd K H .non "NoneType"
  | bl (b : Bool) : Kd K H (.bl b) "bool"
  | int (i : Int) : Kd K H (.int i) "int"
  | str (z : Str) : Kd K H (.str z) "str"
  | tup {a : Addr} (h : TyX K H (.ref a) (.type "tuple")) : Kd K H (.ref a) "tuple"
  | lst {a : Addr} (h : TyX K H (.ref a) (.type "list")) : Kd K H (.ref a) "list"
  | dct {a : Addr} (h : TyX K H (.ref a) (.type "dict")) : Kd K H (.ref a) "dict"
theorem Kd.ty {K : PySem.W.Frag} {H : Hp} {x : V} {t : String} (h : Kd K H x t) : TyX K H x (.type t) := by
  cases h with
  | non => exact .base .non
  | bl b => exact .base (.bl b)
  | int i => exact .base (.int i)
  | str z => exact .base (.str z)
  | tup h => exact h
  | lst h => exact h
  | dct h => exact h
theorem Kd.int_of {K : PySem.W.Frag} {H : Hp} {x : V} {t : String} (h : Kd K H x t) (e : t = "int") : ∃ i, x = .int i := by
  cases h <;> first | exact ⟨_, rfl⟩ | exact absurd e (by decide)
theorem Kd.str_of {K : PySem.W.Frag} {H : Hp} {x : V} {t : String} (h : Kd K H x t) (e : t = "str") : ∃ z, x = .str z := by
  cases h <;> first | exact ⟨_, rfl⟩ | exact absurd e (by decide)
/-- isinstance(x, c) of such a value -/
theorem isi_kd {K : PySem.W.Frag} {H : Hp} {x : V} {t c : String} {b : Bool} {Q : VK} (h : Kd K H x t) (hb : PySem.W.kitOne K (.type t) (.type c) = some b) (q : Q (.bl b) H) : rIsi K [x, .ty c] H Q :=
  ⟨x, .ty c, .type t, .type c, b, rfl, .ty _, h.ty, hb, q⟩
end SA

set_option Elab.async false
set_option linter.all false
set_option maxRecDepth 100000
set_option maxHeartbeats 4000000
namespace SA
open PySem PySem.Spec PyProof.Rows L2
def topS (i : Nat) : Stmt := PySem.Challenge.pw_stopanywhere_k57_least_spans_by_prices.main.body.getD i (.Pass ⟨0, 0, 0, 0⟩)
def clsB : Stmt → List Stmt
  | .ClassDef _ _ _ b .. => b
  | _ => []
def inClass (s : Stmt) (i : Nat) : Stmt := (clsB s).getD i (.Pass ⟨0, 0, 0, 0⟩)
abbrev s_is_number : Stmt := topS 1
abbrev n_is_number : List Str := ["thing"]
theorem sc_is_number : FnScope n_is_number ["thing"] (defScope s_is_number) := ⟨rfl, rfl, rfl, by decide +kernel, rfl, by decide +kernel, by decide +kernel⟩
abbrev s_is_number_between : Stmt := topS 2
abbrev n_is_number_between : List Str := ["thing", "low", "high"]
theorem sc_is_number_between : FnScope n_is_number_between ["thing", "low", "high"] (defScope s_is_number_between) := ⟨rfl, rfl, rfl, by decide +kernel, rfl, by decide +kernel, by decide +kernel⟩
abbrev s_is_tuple_of : Stmt := topS 3
abbrev n_is_tuple_of : List Str := ["thing", "many"]
theorem sc_is_tuple_of : FnScope n_is_tuple_of ["thing", "many"] (defScope s_is_tuple_of) := ⟨rfl, rfl, rfl, by decide +kernel, rfl, by decide +kernel, by decide +kernel⟩
abbrev s_is_list : Stmt := topS 4
abbrev n_is_list : List Str := ["thing"]
theorem sc_is_list : FnScope n_is_list ["thing"] (defScope s_is_list) := ⟨rfl, rfl, rfl, by decide +kernel, rfl, by decide +kernel, by decide +kernel⟩
abbrev s_BadSpans___init__ : Stmt := inClass (topS 7) 0
abbrev n_BadSpans___init__ : List Str := ["self", "at"]
theorem sc_BadSpans___init__ : FnScope n_BadSpans___init__ ["self", "at"] (defScope s_BadSpans___init__) := ⟨rfl, rfl, rfl, by decide +kernel, rfl, by decide +kernel, by decide +kernel⟩
abbrev s_Keeping___init__ : Stmt := inClass (topS 11) 0
abbrev n_Keeping___init__ : List Str := ["self", "spans", "_", "last", "at", "first"]
theorem sc_Keeping___init__ : FnScope n_Keeping___init__ ["self", "spans"] (defScope s_Keeping___init__) := ⟨rfl, rfl, rfl, by decide +kernel, rfl, by decide +kernel, by decide +kernel⟩
abbrev s_Keeping_add_way : Stmt := inClass (topS 11) 1
abbrev n_Keeping_add_way : List Str := ["self", "_", "steps", "node", "ahead", "span"]
theorem sc_Keeping_add_way : FnScope n_Keeping_add_way ["self"] (defScope s_Keeping_add_way) := ⟨rfl, rfl, rfl, by decide +kernel, rfl, by decide +kernel, by decide +kernel⟩
abbrev s_Keeping_prices : Stmt := inClass (topS 11) 2
abbrev n_Keeping_prices : List Str := ["self", "far", "_", "at"]
theorem sc_Keeping_prices : FnScope n_Keeping_prices ["self"] (defScope s_Keeping_prices) := ⟨rfl, rfl, rfl, by decide +kernel, rfl, by decide +kernel, by decide +kernel⟩
abbrev s_Keeping__shortest : Stmt := inClass (topS 11) 3
abbrev n_Keeping__shortest : List Str := ["self", "far", "steps", "is_changed", "node", "_"]
theorem sc_Keeping__shortest : FnScope n_Keeping__shortest ["self"] (defScope s_Keeping__shortest) := ⟨rfl, rfl, rfl, by decide +kernel, rfl, by decide +kernel, by decide +kernel⟩
abbrev s_Keeping__go_on : Stmt := inClass (topS 11) 4
abbrev n_Keeping__go_on : List Str := ["self", "node", "far", "steps", "span", "_", "last", "cost"]
theorem sc_Keeping__go_on : FnScope n_Keeping__go_on ["self", "node", "far", "steps"] (defScope s_Keeping__go_on) := ⟨rfl, rfl, rfl, by decide +kernel, rfl, by decide +kernel, by decide +kernel⟩
abbrev s_Keeping__goes_back : Stmt := inClass (topS 11) 5
abbrev n_Keeping__goes_back : List Str := ["self", "node", "far", "steps", "is_nearer", "span", "first", "_", "cost"]
theorem sc_Keeping__goes_back : FnScope n_Keeping__goes_back ["self", "node", "far", "steps"] (defScope s_Keeping__goes_back) := ⟨rfl, rfl, rfl, by decide +kernel, rfl, by decide +kernel, by decide +kernel⟩
abbrev s__step : Stmt := topS 12
abbrev n__step : List Str := ["node", "other", "span", "length", "far", "steps"]
theorem sc__step : FnScope n__step ["node", "other", "span", "length", "far", "steps"] (defScope s__step) := ⟨rfl, rfl, rfl, by decide +kernel, rfl, by decide +kernel, by decide +kernel⟩
abbrev s_least_left : Stmt := topS 13
abbrev n_least_left : List Str := ["spans", "room", "keeping", "_"]
theorem sc_least_left : FnScope n_least_left ["spans", "room"] (defScope s_least_left) := ⟨rfl, rfl, rfl, by decide +kernel, rfl, by decide +kernel, by decide +kernel⟩
abbrev s__left_beside : Stmt := topS 14
abbrev n__left_beside : List Str := ["spans", "room", "is_kept", "_", "last", "counts", "first", "is_one", "found", "at"]
theorem sc__left_beside : FnScope n__left_beside ["spans", "room", "is_kept"] (defScope s__left_beside) := ⟨rfl, rfl, rfl, by decide +kernel, rfl, by decide +kernel, by decide +kernel⟩
abbrev s__cover : Stmt := topS 15
abbrev n__cover : List Str := ["counts", "first", "last", "at"]
theorem sc__cover : FnScope n__cover ["counts", "first", "last"] (defScope s__cover) := ⟨rfl, rfl, rfl, by decide +kernel, rfl, by decide +kernel, by decide +kernel⟩
abbrev s_worth_of : Stmt := topS 16
abbrev n_worth_of : List Str := ["spans", "room", "prices", "found", "first", "last", "cost", "price"]
theorem sc_worth_of : FnScope n_worth_of ["spans", "room", "prices"] (defScope s_worth_of) := ⟨rfl, rfl, rfl, by decide +kernel, rfl, by decide +kernel, by decide +kernel⟩
abbrev s_least : Stmt := topS 20
abbrev n_least : List Str := ["spans", "room"]
theorem sc_least : FnScope n_least ["spans", "room"] (defScope s_least) := ⟨rfl, rfl, rfl, by decide +kernel, rfl, by decide +kernel, by decide +kernel⟩
abbrev s_worth : Stmt := topS 21
abbrev n_worth : List Str := ["spans", "room", "prices", "price"]
theorem sc_worth : FnScope n_worth ["spans", "room", "prices"] (defScope s_worth) := ⟨rfl, rfl, rfl, by decide +kernel, rfl, by decide +kernel, by decide +kernel⟩
abbrev s__check_spans : Stmt := topS 22
abbrev n__check_spans : List Str := ["spans", "at", "span"]
theorem sc__check_spans : FnScope n__check_spans ["spans"] (defScope s__check_spans) := ⟨rfl, rfl, rfl, by decide +kernel, rfl, by decide +kernel, by decide +kernel⟩
abbrev s__check_room : Stmt := topS 23
abbrev n__check_room : List Str := ["room", "low"]
theorem sc__check_room : FnScope n__check_room ["room", "low"] (defScope s__check_room) := ⟨rfl, rfl, rfl, by decide +kernel, rfl, by decide +kernel, by decide +kernel⟩
abbrev s__law_begun : Stmt := topS 25
abbrev n__law_begun : List Str := ["script", "wide", "cell"]
theorem sc__law_begun : FnScope n__law_begun ["script"] (defScope s__law_begun) := ⟨rfl, rfl, rfl, by decide +kernel, rfl, by decide +kernel, by decide +kernel⟩
abbrev s__law_mixed : Stmt := topS 26
abbrev n__law_mixed : List Str := ["draw", "turn", "found", "prime", "blend", "cell"]
theorem sc__law_mixed : FnScope n__law_mixed ["draw"] (defScope s__law_mixed) := ⟨rfl, rfl, rfl, by decide +kernel, rfl, by decide +kernel, by decide +kernel⟩
abbrev s__law_take : Stmt := topS 27
abbrev n__law_take : List Str := ["draw", "many", "found"]
theorem sc__law_take : FnScope n__law_take ["draw", "many"] (defScope s__law_take) := ⟨rfl, rfl, rfl, by decide +kernel, rfl, by decide +kernel, by decide +kernel⟩
abbrev s__law_pick : Stmt := topS 28
abbrev n__law_pick : List Str := ["draw", "some"]
theorem sc__law_pick : FnScope n__law_pick ["draw", "some"] (defScope s__law_pick) := ⟨rfl, rfl, rfl, by decide +kernel, rfl, by decide +kernel, by decide +kernel⟩
abbrev s__law_span : Stmt := topS 29
abbrev n__law_span : List Str := ["draw", "wide", "is_far", "first", "last"]
theorem sc__law_span : FnScope n__law_span ["draw", "wide", "is_far"] (defScope s__law_span) := ⟨rfl, rfl, rfl, by decide +kernel, rfl, by decide +kernel, by decide +kernel⟩
abbrev s__law_spans : Stmt := topS 30
abbrev n__law_spans : List Str := ["draw", "found", "wide", "is_far", "k", "again"]
theorem sc__law_spans : FnScope n__law_spans ["draw"] (defScope s__law_spans) := ⟨rfl, rfl, rfl, by decide +kernel, rfl, by decide +kernel, by decide +kernel⟩
abbrev s__law_cover : Stmt := topS 31
abbrev n__law_cover : List Str := ["spans", "at", "span"]
theorem sc__law_cover : FnScope n__law_cover ["spans", "at"] (defScope s__law_cover) := ⟨rfl, rfl, rfl, by decide +kernel, rfl, by decide +kernel, by decide +kernel⟩
abbrev s__law_value : Stmt := topS 32
abbrev n__law_value : List Str := ["spans", "room", "prices", "total", "at", "first", "last", "cost"]
theorem sc__law_value : FnScope n__law_value ["spans", "room", "prices"] (defScope s__law_value) := ⟨rfl, rfl, rfl, by decide +kernel, rfl, by decide +kernel, by decide +kernel⟩
abbrev s__law_numbers : Stmt := topS 33
abbrev n__law_numbers : List Str := ["some", "low", "one"]
theorem sc__law_numbers : FnScope n__law_numbers ["some", "low"] (defScope s__law_numbers) := ⟨rfl, rfl, rfl, by decide +kernel, rfl, by decide +kernel, by decide +kernel⟩
abbrev s__law_left_right : Stmt := topS 34
abbrev n__law_left_right : List Str := ["spans", "room", "left", "k", "kept", "span", "first", "last", "spots", "at"]
theorem sc__law_left_right : FnScope n__law_left_right ["spans", "room", "left"] (defScope s__law_left_right) := ⟨rfl, rfl, rfl, by decide +kernel, rfl, by decide +kernel, by decide +kernel⟩
abbrev s__law_right : Stmt := topS 35
abbrev n__law_right : List Str := ["spans", "room", "handed", "told", "left", "prices", "cost", "good", "k", "span"]
theorem sc__law_right : FnScope n__law_right ["spans", "room"] (defScope s__law_right) := ⟨rfl, rfl, rfl, by decide +kernel, rfl, by decide +kernel, by decide +kernel⟩
abbrev s__law_prices : Stmt := topS 36
abbrev n__law_prices : List Str := ["draw", "spans", "found", "k"]
theorem sc__law_prices : FnScope n__law_prices ["draw", "spans"] (defScope s__law_prices) := ⟨rfl, rfl, rfl, by decide +kernel, rfl, by decide +kernel, by decide +kernel⟩
abbrev s__law_refused : Stmt := topS 37
abbrev n__law_refused : List Str := ["spans", "room", "prices", "found", "k", "word", "error"]
theorem sc__law_refused : FnScope n__law_refused ["spans", "room", "prices"] (defScope s__law_refused) := ⟨rfl, rfl, rfl, by decide +kernel, rfl, by decide +kernel, by decide +kernel⟩
abbrev s__law_refusals_right : Stmt := topS 38
abbrev n__law_refusals_right : List Str := ["draw", "spans", "room", "prices", "at", "odd", "wrong", "bad_room", "bad_prices", "many", "k"]
theorem sc__law_refusals_right : FnScope n__law_refusals_right ["draw", "spans", "room", "prices"] (defScope s__law_refusals_right) := ⟨rfl, rfl, rfl, by decide +kernel, rfl, by decide +kernel, by decide +kernel⟩
abbrev s_law : Stmt := topS 39
abbrev n_law : List Str := ["script", "draw", "turn", "spans", "room", "good", "cost", "prices", "told"]
theorem sc_law : FnScope n_law ["script"] (defScope s_law) := ⟨rfl, rfl, rfl, by decide +kernel, rfl, by decide +kernel, by decide +kernel⟩
end SA

set_option Elab.async false
set_option linter.all false
set_option maxRecDepth 100000
set_option maxHeartbeats 4000000
namespace SA
open PySem PySem.Spec PyProof.Rows L2
/-! ### the draw -/
abbrev kW : Key := Sum.inr "wide"
abbrev kC : Key := Sum.inr "cells"
abbrev kR : Key := Sum.inr "rest"
abbrev kT : Key := Sum.inr "turn"
theorem kWC : ¬ kW = kC := by decide +kernel
theorem kWR : ¬ kW = kR := by decide +kernel
theorem kWT : ¬ kW = kT := by decide +kernel
theorem kCR : ¬ kC = kR := by decide +kernel
theorem kCT : ¬ kC = kT := by decide +kernel
theorem kRT : ¬ kR = kT := by decide +kernel
def dkv (w c : Addr) (r t : Int) : List (Key × V) := [(kW, .ref w), (kC, .ref c), (kR, .int r), (kT, .int t)]
theorem dkv_w (w c : Addr) (r t : Int) : valV (dkv w c r t) kW = some (.ref w) := valV_pos rfl
theorem dkv_c (w c : Addr) (r t : Int) : valV (dkv w c r t) kC = some (.ref c) := (valV_neg kWC).trans (valV_pos rfl)
theorem dkv_r (w c : Addr) (r t : Int) : valV (dkv w c r t) kR = some (.int r) := (valV_neg kWR).trans ((valV_neg kCR).trans (valV_pos rfl))
theorem dkv_t (w c : Addr) (r t : Int) : valV (dkv w c r t) kT = some (.int t) := (valV_neg kWT).trans ((valV_neg kCT).trans ((valV_neg kRT).trans (valV_pos rfl)))
theorem get_w {H : Hp} {d w c : Addr} {r t : Int} (e : H d = some (.dK (dkv w c r t))) : DGet H d (.str "wide") (some (.ref w)) := dkv_w w c r t ▸ DGet.k (k := kW) e
theorem get_c {H : Hp} {d w c : Addr} {r t : Int} (e : H d = some (.dK (dkv w c r t))) : DGet H d (.str "cells") (some (.ref c)) := dkv_c w c r t ▸ DGet.k (k := kC) e
theorem get_r {H : Hp} {d w c : Addr} {r t : Int} (e : H d = some (.dK (dkv w c r t))) : DGet H d (.str "rest") (some (.int r)) := dkv_r w c r t ▸ DGet.k (k := kR) e
theorem get_t {H : Hp} {d w c : Addr} {r t : Int} (e : H d = some (.dK (dkv w c r t))) : DGet H d (.str "turn") (some (.int t)) := dkv_t w c r t ▸ DGet.k (k := kT) e
theorem put3 {a b c d : Key} {va vb vc vd x : V} (h1 : ¬ a = c) (h2 : ¬ b = c) (h3 : ¬ c = d) : putK [(a, va), (b, vb), (c, vc), (d, vd)] c x = [(a, va), (b, vb), (c, x), (d, vd)] := by
  have h4 : ¬ d = c := fun e => h3 e.symm
  simp [putK, h1, h2, h4]
theorem put4 {a b c d : Key} {va vb vc vd x : V} (h1 : ¬ a = d) (h2 : ¬ b = d) (h3 : ¬ c = d) : putK [(a, va), (b, vb), (c, vc), (d, vd)] d x = [(a, va), (b, vb), (c, vc), (d, x)] := by
  simp [putK, h1, h2, h3]
theorem dkv_putR (w c : Addr) (r t x : Int) : putK (dkv w c r t) kR (.int x) = dkv w c x t := put3 kWR kCR kRT
theorem dkv_putT (w c : Addr) (r t x : Int) : putK (dkv w c r t) kT (.int x) = dkv w c r x := put4 kWT kCT kRT
theorem merge4 (a b c d : V) : mergeK [] [(kW, a), (kC, b), (kR, c), (kT, d)] = [(kW, a), (kC, b), (kR, c), (kT, d)] := by
  have h1 := kWC
  have h2 := kWR
  have h3 := kWT
  have h4 := kCR
  have h5 := kCT
  have h6 := kRT
  generalize kW = k1 at *
  generalize kC = k2 at *
  generalize kR = k3 at *
  generalize kT = k4 at *
  simp [mergeK, putK, h1, h2, h3, h4, h5, h6]
/-- the draw's dict at d, its lists at w and c; at most n turns so far -/
structure DrawAt (H : Hp) (d w c : Addr) (n : Nat) : Prop where
  dict : ∃ r t : Int, 0 ≤ t ∧ t ≤ n ∧ H d = some (.dK (dkv w c r t))
  wide : ∃ ws : List Int, H w = some (.lst (ws.map V.int))
  cells : ∃ cs : List Int, H c = some (.lst (cs.map V.int))
  ne : w ≠ c
theorem Same.new {H : Hp} {p : Addr} {o : HO} (h : H p = none) : Same H (upd H p o) := fun b x e => by
  rw [upd_ne (ne_of_none e h)]
  exact e
/-- a comprehension without an if -/
theorem yes {σ : L2.St} {H : Hp} {A B : Hp → Prop} (h : A H) : tYes σ H fun b H' => if b = true then A H' else B H' := by
  show (if true = true then A H else B H)
  rw [if_pos rfl]
  exact h
/-- all but d and w stand as they stood -/
def But2 (d w : Addr) (H H' : Hp) : Prop := ∀ b o, H b = some o → b ≠ d → b ≠ w → H' b = some o
theorem But2.refl (d w : Addr) (H : Hp) : But2 d w H H := fun _ _ e _ _ => e
theorem But2.trans {d w : Addr} {H H1 H2 : Hp} (a : But2 d w H H1) (b : But2 d w H1 H2) : But2 d w H H2 := fun x o e h1 h2 => b x o (a x o e h1 h2) h1 h2
theorem But2.d {d w : Addr} {H H' : Hp} {o : HO} (a : But2 d w H H') : But2 d w H (upd H' d o) := fun x u e h1 h2 => by rw [upd_ne h1]; exact a x u e h1 h2
theorem But2.w {d w : Addr} {H H' : Hp} {o : HO} (a : But2 d w H H') : But2 d w H (upd H' w o) := fun x u e h1 h2 => by rw [upd_ne h2]; exact a x u e h1 h2
theorem But2.new {d w p : Addr} {H H' : Hp} {o : HO} (a : But2 d w H H') (h : H' p = none) : But2 d w H (upd H' p o) := fun x u e h1 h2 => by
  have q := a x u e h1 h2
  rw [upd_ne (ne_of_none q h)]; exact q
theorem DrawAt.dw {H : Hp} {d w c : Addr} {n : Nat} (h : DrawAt H d w c n) : d ≠ w := by
  obtain ⟨⟨r, t, _, _, e⟩, ⟨ws, e2⟩, _, _⟩ := h
  exact ne_of e e2 (by intro z; cases z)
theorem DrawAt.dc {H : Hp} {d w c : Addr} {n : Nat} (h : DrawAt H d w c n) : d ≠ c := by
  obtain ⟨⟨r, t, _, _, e⟩, _, ⟨cs, e2⟩, _⟩ := h
  exact ne_of e e2 (by intro z; cases z)
/-- what is new is none of the three -/
theorem DrawAt.new {H : Hp} {d w c p : Addr} {n : Nat} {o : HO} (h : DrawAt H d w c n) (hp : H p = none) : DrawAt (upd H p o) d w c n := by
  obtain ⟨⟨r, t, a1, a2, e⟩, ⟨ws, e2⟩, ⟨cs, e3⟩, ne⟩ := h
  exact ⟨⟨r, t, a1, a2, by rw [upd_ne (ne_of_none e hp)]; exact e⟩, ⟨ws, by rw [upd_ne (ne_of_none e2 hp)]; exact e2⟩, ⟨cs, by rw [upd_ne (ne_of_none e3 hp)]; exact e3⟩, ne⟩
theorem DrawAt.mono {H : Hp} {d w c : Addr} {n m : Nat} (h : DrawAt H d w c n) (hn : n ≤ m) : DrawAt H d w c m := by
  obtain ⟨⟨r, t, a1, a2, e⟩, h2, h3, ne⟩ := h
  exact ⟨⟨r, t, a1, by omega, e⟩, h2, h3, ne⟩
theorem dp_ints {K : PySem.W.Frag} {H : Hp} : ∀ ns : List Int, DpAll K H (ns.map V.int) (ns.map PyData.int)
  | [] => .nil
  | n :: ns => .cons (.int n) (dp_ints ns)
theorem canLay_ints : ∀ ns : List Int, PyData.canLayAll0 (ns.map PyData.int) = true
  | [] => rfl
  | n :: ns => by
    rw [List.map_cons]
    simp only [PyData.canLayAll0, PyData.canLay0, canLay_ints ns, Bool.and_self]
theorem depth_ints : ∀ ns : List Int, (PyData.list (ns.map PyData.int)).depth ≤ 2 := by
  intro ns
  have h : ∀ l : List Int, PyData.depthAll (l.map PyData.int) = 0 := by
    intro l
    induction l with
    | nil => rfl
    | cons n l ih => rw [List.map_cons]; simp only [PyData.depthAll, PyData.depth, ih]; rfl
  simp only [PyData.depth, h]
  decide
theorem shaped_ints (ns : List Int) : SeqAt.shaped (.list (ns.map PyData.int)) = true := by
  show (PyData.canLay0 _ && decide _) = true
  rw [Bool.and_eq_true]
  refine ⟨?_, decide_eq_true (Nat.le_trans (depth_ints ns) (by decide))⟩
  simp only [PyData.canLay0, canLay_ints]
theorem seq0 {α : Type} (x : α) (xs : List α) : seqIndex? 0 (x :: xs).length = some 0 := by
  unfold seqIndex?
  simp
theorem DrawAt.setR {H : Hp} {d w c : Addr} {n : Nat} {r t x : Int} (h : DrawAt H d w c n) (e : H d = some (.dK (dkv w c r t))) : DrawAt (upd H d (.dK (dkv w c x t))) d w c n := by
  have h1 := h.dw
  have h2 := h.dc
  obtain ⟨⟨r', t', a1, a2, e'⟩, ⟨ws, e2⟩, ⟨cs, e3⟩, ne⟩ := h
  have et : t = t' := by
    rw [e] at e'
    injection e' with e'
    injection e' with e'
    have := congrArg (fun l => valV l kT) e'
    simp only [dkv_t] at this
    injection this with this
    injection this
  exact ⟨⟨x, t, by omega, by omega, upd_same⟩, ⟨ws, by rw [upd_ne h1.symm]; exact e2⟩, ⟨cs, by rw [upd_ne h2.symm]; exact e3⟩, ne⟩
/-- one more long number -/
def spMixed : Sp := fun vs H Q _ => ∃ (d w c : Addr) (n : Nat), vs = [.ref d] ∧ DrawAt H d w c n ∧ n < 2 ^ 40 ∧ ∀ (i : Int) (H' : Hp), DrawAt H' d w c (n + 1) → But2 d w H H' → Q (.int i) H'
/-- a number from 0 to many - 1 -/
def spTake : Sp := fun vs H Q _ => ∃ (d w c : Addr) (n : Nat) (m : Int), vs = [.ref d, .int m] ∧ DrawAt H d w c n ∧ n < 2 ^ 40 ∧ 0 < m ∧ m < 2 ^ 62 ∧ ∀ (i : Int) (H' : Hp), 0 ≤ i → i < m → DrawAt H' d w c (n + 1) → But2 d w H H' → Q (.int i) H'
section
variable {P : Program} {w0 : World} {K : PySem.W.Frag} {mg : Str → Option Value} {base : Heap}
theorem ok_take {f fM : Addr} {fd fdM : FuncData} (F : Fun K "_law_take" "_law_take" s__law_take f fd) (FM : Fun K "_law_mixed" "_law_mixed" s__law_mixed fM fdM) (bM : Binds K fdM ["draw"] []) (gM : mg "_law_mixed" = some (.ref fM)) (gi : mg "int" = none)
    (GM : FnOk P w0 K mg base CX0 1 fM fdM ["draw"] spMixed) : FnOk P w0 K mg base CX0 2 f fd ["draw", "many"] spTake := by
  refine F.ok sc__law_take (fun vs H Q E h => ?_) (fun cdv A outer s H vs Q E hr h => ?_)
  · obtain ⟨d, w, c, n, m, rfl, _⟩ := h
    rfl
  · obtain ⟨d, w, c, n, m, rfl, hD, hn, hm0, hm, k⟩ := h
    have hu := hu_of hr
    refine ⟨_, Evl.pss_cut (ps_if (pt_cmpR op_eq (pe_dget hu (pv 0) pe_str (fun _ _ => rfl)) pe_int (nomark _))
        (pss_one (ps_dput hu (pv 0) pe_str (pe_ifExp (pt_cmpR (op_neD hr.units) (pe_dget hu (pv 0) pe_str (fun _ _ => rfl)) (pe_lst pa_nil) (nomark _))
          (pe_bm PySem.F.plainAttrs_list PySem.F.slot_list_pop PySem.F.type_list_pop mt_popAt (pe_dget hu (pv 0) pe_str (fun _ _ => rfl)) (pa_cons pe_int pa_nil))
          (pe_call GM hr (by rfl) gM FM.kp bM .nil pass0 (pa_cons (pv 0) pa_nil))) rfl)) pss_nil)
      (pss_cons (ps_set (i := 2) sc__law_take.nd rfl (.inl rfl) (pe_op op_mod (pe_callTy call_int1 (by rfl) gi PySem.Pv.boot_int (pa_cons (pe_dget hu (pv 0) pe_str (fun _ _ => rfl)) pa_nil)) (pv 1)))
      (pss_cons (ps_dput hu (pv 0) pe_str (pe_op op_fdivW (pe_dget hu (pv 0) pe_str (fun _ _ => rfl)) (pv 1)) rfl)
      (pss_one (ps_ret (pv 2))))), ?_⟩
    obtain ⟨⟨r, t, ht0, htn, hd⟩, ⟨ws, hw⟩, ⟨cs, hc⟩, ne⟩ := id hD
    have hdw : d ≠ w := hD.dw
    refine ⟨fun σ H1 => σ = [some (.ref d), some (.int m), none] ∧ DrawAt H1 d w c (n + 1) ∧ But2 d w H H1, ?_, ?_⟩
    · refine ⟨_, rfl, d, _, rfl, get_r hd, rfl, _, rfl, ?_⟩
      refine ite2 (fun _ => ?_) (fun _ => ?_)
      · -- draw['wide'] != []
        refine ⟨_, rfl, d, _, rfl, get_w hd, Nat.zero_le _, fun p hp => ?_⟩
        have hd1 : (upd H p (.lst [])) d = some (.dK (dkv w c r t)) := by rw [upd_ne (ne_of_none hd hp)]; exact hd
        have hw1 : (upd H p (.lst [])) w = some (.lst (ws.map V.int)) := by rw [upd_ne (ne_of_none hw hp)]; exact hw
        have hD1 : DrawAt (upd H p (.lst [])) d w c n := hD.new hp
        refine ⟨_, _, .lst (SqL.of hw1) (dp_ints ws), .lst (SqL.of upd_same) .nil, shaped_ints ws, rfl, _, rfl, ?_⟩
        cases ws with
        | nil =>
          refine iteF ?_
          refine ⟨_, rfl, d, w, c, n, rfl, hD1, hn, fun i H2 hD2 b2 => ?_⟩
          obtain ⟨⟨r2, t2, a1, a2, e2⟩, q2, q3, q4⟩ := id hD2
          refine ⟨_, rfl, d, _, rfl, DPut.k (k := kR) e2 (by show 4 < sizeLine; decide), ?_⟩
          rw [dkv_putR]
          exact ⟨rfl, hD2.setR e2, ((But2.refl d w H).new hp |>.trans b2).d⟩
        | cons x ws =>
          refine iteT ?_
          refine ⟨_, rfl, d, _, rfl, get_w hd1, Or.inl ⟨rfl, _, SqL.of hw1⟩, w, _, 0, 0, _, rfl, rfl, hw1, by decide, by decide, seq0 _ _, rfl, ?_⟩
          have hd2 : ∀ o, (upd (upd H p (.lst [])) w o) d = some (.dK (dkv w c r t)) := fun o => by rw [upd_ne hdw]; exact hd1
          refine ⟨_, rfl, d, _, rfl, DPut.k (k := kR) (hd2 _) (by show 4 < sizeLine; decide), ?_⟩
          rw [dkv_putR]
          refine ⟨rfl, ⟨⟨x, t, ht0, by omega, upd_same⟩, ⟨ws, ?_⟩, ⟨cs, ?_⟩, ne⟩, (((But2.refl d w H).new hp).w).d⟩
          · rw [upd_ne hdw.symm, upd_same]
            rfl
          · rw [upd_ne hD.dc.symm, upd_ne ne.symm, upd_ne (ne_of_none hc hp)]
            exact hc
      · exact ⟨rfl, hD.mono (Nat.le_succ n), But2.refl d w H⟩
    · rintro σ H1 ⟨rfl, hD1, b1⟩
      obtain ⟨⟨r1, t1, a1, a2, e1⟩, q2, q3, q4⟩ := id hD1
      refine ⟨_, rfl, d, _, rfl, get_r e1, .inl ⟨r1, rfl, _, rfl, r1, m, rfl, rfl, hm0, ?_⟩⟩
      refine ⟨_, rfl, d, _, rfl, get_r e1, _, rfl, r1, m, rfl, rfl, wide_div (b := 62) hm0 (by omega) (by decide) (by decide), _, rfl, d, _, rfl, DPut.k (k := kR) e1 (by show 4 < sizeLine; decide), ?_⟩
      rw [dkv_putR]
      exact ⟨_, rfl, k _ _ (Int.emod_nonneg _ (by omega)) (Int.emod_lt_of_pos _ hm0) (hD1.setR e1) b1.d⟩
def primes : List Int := [2147483629, 2147483587, 2147483579, 2147483563]
theorem prime_bd {i : Nat} {x : V} (h : (primes.map V.int)[i]? = some x) : ∃ p : Int, x = .int p ∧ 2147483563 ≤ p ∧ p ≤ 2147483629 := by
  have hx : x ∈ primes.map V.int := List.mem_of_getElem? h
  obtain ⟨p, hp, rfl⟩ := List.mem_map.mp hx
  refine ⟨p, rfl, ?_⟩
  simp [primes] at hp
  omega
theorem ok_mixed {f : Addr} {fd : FuncData} (F : Fun K "_law_mixed" "_law_mixed" s__law_mixed f fd) (gi : mg "int" = none) : FnOk P w0 K mg base CX0 1 f fd ["draw"] spMixed := by
  refine F.ok sc__law_mixed (fun vs H Q E h => ?_) (fun cdv A outer s H vs Q E hr h => ?_)
  · obtain ⟨d, w, c, n, rfl, _⟩ := h
    rfl
  · obtain ⟨d, w, c, n, rfl, hD, hn, k⟩ := h
    have hu := hu_of hr
    refine ⟨_, pss_cons (ps_par (i := 1) (j := 2) rfl sc__law_mixed.nd rfl rfl (by decide) rfl rfl (pa_cons (pe_op op_add (pe_dget hu (pv 0) pe_str (fun _ _ => rfl)) pe_int) (pa_cons pe_int pa_nil)) rfl)
      (pss_cons (ps_dput hu (pv 0) pe_str (pv 1) rfl)
      (pss_cons (ps_for PassesOwn.never rfl (pi_list (pe_lst (pa_cons pe_int (pa_cons pe_int (pa_cons pe_int (pa_cons pe_int pa_nil)))))) (pg_name (i := 3) sc__law_mixed.nd rfl (.inl rfl))
        (pss_cons (ps_set (i := 4) sc__law_mixed.nd rfl (.inl rfl) (pe_op op_add (pe_op op_mul pe_int (pv 1)) (pe_op op_fdiv (pv 3) pe_int)))
        (pss_cons (ps_for PassesOwn.never rfl (pi_list (pe_dget hu (pv 0) pe_str (fun _ _ => rfl))) (pg_name (i := 5) sc__law_mixed.nd rfl (.inl rfl))
          (pss_one (ps_set (i := 4) sc__law_mixed.nd rfl (.inl rfl) (pe_op op_mod (pe_callTy call_int1 (by rfl) gi PySem.Pv.boot_int (pa_cons (pe_op op_add (pe_op op_add (pe_op op_mul (pv 4) pe_int) (pv 5)) (pv 1)) pa_nil)) (pv 3)))))
        (pss_one (ps_set (i := 2) sc__law_mixed.nd rfl (.inl rfl) (pe_op op_add (pe_op op_mul (pv 2) pe_int) (pe_op op_mod (pe_callTy call_int1 (by rfl) gi PySem.Pv.boot_int (pa_cons (pe_op op_pow (pv 4) pe_int) pa_nil)) (pv 3))))))))
      (pss_one (ps_ret (pv 2))))), ?_⟩
    obtain ⟨⟨r, t, ht0, htn, hd⟩, ⟨ws, hw⟩, ⟨cs, hc⟩, ne⟩ := id hD
    refine ⟨_, rfl, d, _, rfl, get_t hd, _, _, rfl, rfl, _, _, rfl, ?_⟩
    refine ⟨_, rfl, _, rfl, d, _, rfl, DPut.k (k := kT) hd (by show 4 < sizeLine; decide), ?_⟩
    rw [dkv_putT]
    have hD1 : DrawAt (upd H d (.dK (dkv w c r (t + 1)))) d w c (n + 1) := ⟨⟨r, t + 1, by omega, by omega, upd_same⟩, ⟨ws, by rw [upd_ne hD.dw.symm]; exact hw⟩, ⟨cs, by rw [upd_ne hD.dc.symm]; exact hc⟩, ne⟩
    have b1 : But2 d w H (upd H d (.dK (dkv w c r (t + 1)))) := (But2.refl d w H).d
    refine ⟨by show 4 ≤ sizeLine; decide, fun p hp => ?_⟩
    have hD2 := hD1.new (o := HO.lst (primes.map V.int)) hp
    have b2 := b1.new (o := HO.lst (primes.map V.int)) hp
    have hd2 : (upd (upd H d (.dK (dkv w c r (t + 1)))) p (.lst (primes.map V.int))) d = some (.dK (dkv w c r (t + 1))) := by
      rw [upd_ne (ne_of_none (upd_same (o := HO.dK (dkv w c r (t + 1)))) hp), upd_same]
    have hc2 : (upd (upd H d (.dK (dkv w c r (t + 1)))) p (.lst (primes.map V.int))) c = some (.lst (cs.map V.int)) := by
      have hc1 : (upd H d (.dK (dkv w c r (t + 1)))) c = some (.lst (cs.map V.int)) := by rw [upd_ne hD.dc.symm]; exact hc
      rw [upd_ne (ne_of_none hc1 hp)]
      exact hc1
    have hp2 : (upd (upd H d (.dK (dkv w c r (t + 1)))) p (.lst (primes.map V.int))) p = some (.lst (primes.map V.int)) := upd_same
    refine ⟨p, rfl, ⟨_, SqL.of hp2⟩, for_list (K := K) (a := p) (xs := primes.map V.int) (fun i σ H' => H' = upd (upd H d (.dK (dkv w c r (t + 1)))) p (.lst (primes.map V.int)) ∧ ∃ (f : Int) (x y z : Option V), σ = [some (.ref d), some (.int (t + 1)), some (.int f), x, y, z])
      ⟨rfl, 0, none, none, none, rfl⟩ (fun i σ H' _ ⟨e, _⟩ => e ▸ SqL.of hp2) ?_ ?_⟩
    · rintro i x σ H' hx ⟨rfl, f, y3, y4, y5, rfl⟩
      obtain ⟨q, rfl, q1, q2⟩ := prime_bd hx
      refine ⟨_, rfl, _, _, rfl, rfl, .inl ⟨by decide, by decide⟩, _, rfl, _, _, rfl, rfl, ⟨by decide, by decide⟩, _, _, rfl, rfl, ?_⟩
      -- the inner loop: blend is never far
      refine ⟨_, rfl, d, _, rfl, get_c hd2, c, rfl, ⟨_, SqL.of hc2⟩, for_list (K := K) (a := c) (xs := cs.map V.int) (fun i σ H' => H' = upd (upd H d (.dK (dkv w c r (t + 1)))) p (.lst (primes.map V.int)) ∧ ∃ (b : Int) (z : Option V), 0 ≤ b ∧ b < 2 ^ 62 ∧ σ = [some (.ref d), some (.int (t + 1)), some (.int f), some (.int q), some (.int b), z])
        ⟨rfl, _, y5, ?_, ?_, rfl⟩ (fun i σ H' _ ⟨e, _⟩ => e ▸ SqL.of hc2) ?_ ?_⟩
      · omega
      · omega
      · rintro i x σ H' hx ⟨rfl, b, z, hb0, hb, rfl⟩
        obtain ⟨v, hv⟩ : ∃ v : Int, x = .int v := by
          have hm : x ∈ cs.map V.int := List.mem_of_getElem? hx
          obtain ⟨v, _, e⟩ := List.mem_map.mp hm
          exact ⟨v, e.symm⟩
        subst hv
        refine ⟨_, rfl, _, _, rfl, rfl, .inr ⟨by decide, by decide⟩, _, rfl, _, _, rfl, rfl, _, rfl, _, _, rfl, rfl, .inl ⟨_, rfl, _, rfl, _, _, rfl, rfl, (show (0 : Int) < q by omega), ?_⟩⟩
        exact ⟨rfl, _, _, Int.emod_nonneg _ (by omega), Int.lt_of_lt_of_le (Int.emod_lt_of_pos _ (by omega)) (by omega), rfl⟩
      · rintro σ H' ⟨rfl, b, z, hb0, hb, rfl⟩
        refine ⟨_, rfl, _, _, rfl, rfl, .inr ⟨by decide, by decide⟩, _, rfl, _, _, rfl, rfl, ⟨by decide, by decide, by omega⟩, .inl ⟨_, rfl, _, rfl, _, _, rfl, rfl, (show (0 : Int) < q by omega), _, _, rfl, rfl, ?_⟩⟩
        exact ⟨rfl, _, _, _, _, rfl⟩
    · rintro σ H' ⟨rfl, f, x, y, z, rfl⟩
      exact ⟨_, rfl, k _ _ hD2 b2⟩
/-- one of a list's items -/
def spPick (K : PySem.W.Frag) : Sp := fun vs H Q _ => ∃ (d w c a : Addr) (n : Nat) (xs : List V), vs = [.ref d, .ref a] ∧ DrawAt H d w c n ∧ n < 2 ^ 40 ∧ a ≠ d ∧ a ≠ w ∧ SqL K H a xs ∧ xs ≠ [] ∧ xs.length < 2 ^ 29 ∧
  ∀ (x : V) (H' : Hp), x ∈ xs → DrawAt H' d w c (n + 1) → But2 d w H H' → Q x H'
theorem But2.seq {d w a : Addr} {H H' : Hp} {xs : List V} (b : But2 d w H H') (h1 : a ≠ d) (h2 : a ≠ w) (h : SqL K H a xs) : SqL K H' a xs := by
  rcases h with (h | ⟨o, h⟩) | h
  · exact .inl (.inl (b _ _ h h1 h2))
  · exact .inl (.inr ⟨o, b _ _ h h1 h2⟩)
  · exact .inr h
theorem ok_pick {f fT : Addr} {fd fdT : FuncData} (F : Fun K "_law_pick" "_law_pick" s__law_pick f fd) (FT : Fun K "_law_take" "_law_take" s__law_take fT fdT) (bT : Binds K fdT ["draw", "many"] []) (gT : mg "_law_take" = some (.ref fT)) (gl : mg "len" = none)
    (GT : FnOk P w0 K mg base CX0 2 fT fdT ["draw", "many"] spTake) : FnOk P w0 K mg base CX0 3 f fd ["draw", "some"] (spPick K) := by
  refine F.ok sc__law_pick (fun vs H Q E h => ?_) (fun cdv A outer s H vs Q E hr h => ?_)
  · obtain ⟨d, w, c, a, n, xs, rfl, _⟩ := h
    rfl
  · obtain ⟨d, w, c, a, n, xs, rfl, hD, hn, ad, aw, hS, hx, hl, k⟩ := h
    refine ⟨_, pss_one (ps_ret (pe_ix ix_list (pv 1) (pe_call GT hr (by rfl) gT FT.kp bT .nil pass0 (pa_cons (pv 0) (pa_cons (pe_callB call_len_seq (by rfl) gl PySem.boot_len (pa_cons (pv 1) pa_nil)) pa_nil))) (fun _ _ => rfl))), ?_⟩
    have h0 : 0 < xs.length := List.length_pos_iff.mpr hx
    refine ⟨_, rfl, _, rfl, _, rfl, a, xs, rfl, .inl hS, d, w, c, n, xs.length, rfl, hD, hn, by omega, by omega, fun i H1 i0 i1 hD1 b1 => ?_⟩
    have hi : i.toNat < xs.length := by omega
    refine ⟨a, xs, i, xs[i.toNat], rfl, rfl, b1.seq ad aw hS, ?_, k _ _ (List.getElem_mem hi) hD1 b1⟩
    obtain ⟨j, rfl⟩ := Int.eq_ofNat_of_zero_le i0
    exact atI_nat (List.getElem?_eq_getElem (by omega))
/-- the state of all draws -/
def spBegun (K : PySem.W.Frag) : Sp := fun vs H Q _ => ∃ (a : Addr) (ns : List Int), vs = [.ref a] ∧ SqL K H a (ns.map V.int) ∧ ns.length ≤ 63 ∧ ∀ (d w c : Addr) (H' : Hp), H d = none → H w = none → H c = none → DrawAt H' d w c 0 → Same H H' → Q (.ref d) H'
theorem ok_begun {f : Addr} {fd : FuncData} (F : Fun K "_law_begun" "_law_begun" s__law_begun f fd) (gi : mg "int" = none) (ga : mg "abs" = none) : FnOk P w0 K mg base CX0 1 f fd ["script"] (spBegun K) := by
  refine F.ok sc__law_begun (fun vs H Q E h => ?_) (fun cdv A outer s H vs Q E hr h => ?_)
  · obtain ⟨a, ns, rfl, _⟩ := h
    rfl
  · obtain ⟨a, ns, rfl, hS, hl, k⟩ := h
    have hu := hu_of hr
    refine ⟨_, pss_cons (ps_setLc (i := 1) (own := [("cell", 2)]) (g := gName 2) (tt := _) (by rfl) sc__law_begun.nd rfl rfl (sw_true rfl rfl rfl (by decide +kernel)) (pi_list (pv 0)) (blkOk_by (N := n__law_begun) (sc := defScope s__law_begun) (by decide +kernel))
        (fun _ _ _ _ _ => pg_name (i := 2) sc__law_begun.nd rfl (Or.inl rfl))
        (fun _ _ _ _ _ => pts_one (pt_cmpR op_ge (pe_callB call_abs (by rfl) ga (by decide +kernel) (pa_cons (pv 2) pa_nil)) (pe_op op_pow pe_int pe_int) (nomark _)))
        (fun _ _ _ _ _ => pe_op op_sub (pe_callB call_abs (by rfl) ga (by decide +kernel) (pa_cons (pv 2) pa_nil)) (pe_op op_pow pe_int pe_int)))
      (pss_one (ps_ret (pe_disp (pps_cons pe_str (pv 1) (pps_cons pe_str (pe_lc (own := [("cell", 2)]) (g := gName 2) (tt := tYes) (by rfl) sc__law_begun.nd (pi_list (pv 0)) (blkOk_by (N := n__law_begun) (sc := defScope s__law_begun) (by decide +kernel))
          (fun _ _ _ _ _ => pg_name (i := 2) sc__law_begun.nd rfl (Or.inl rfl)) (fun _ _ _ _ _ => pts_nil)
          (fun _ _ _ _ _ => pe_op op_mod (pe_callTy call_int1 (by rfl) gi PySem.Pv.boot_int (pa_cons (pe_callB call_abs (by rfl) ga (by decide +kernel) (pa_cons (pv 2) pa_nil)) pa_nil)) pe_int))
        (pps_cons pe_str pe_int (pps_cons pe_str pe_int pps_nil)))) (by rfl) (by rfl) (fun z => by cases z) (by decide)))), ?_⟩
    have h18 : CPow 10 18 := ⟨by decide, by decide, by decide⟩
    have hint : ∀ (i : Nat) (x : V), (ns.map V.int)[i]? = some x → ∃ v : Int, x = .int v := fun i x hx => by
      obtain ⟨v, _, e⟩ := List.mem_map.mp (List.mem_of_getElem? hx)
      exact ⟨v, e.symm⟩
    refine ⟨_, rfl, a, rfl, ⟨_, hS⟩, fun w hw => lc_list (K := K) (a := a) (xs := ns.map V.int) (fun i H' => Same H H' ∧ ∃ ws : List Int, H' w = some (.lst (ws.map V.int)) ∧ ws.length ≤ i)
      ⟨Same.new hw, [], upd_same, Nat.le_refl _⟩ (fun i H' _ ⟨e, _⟩ => e.seq hS) ?_ ?_⟩
    · rintro i x H' hx ⟨s1, ws, hw1, hwl⟩
      obtain ⟨v, rfl⟩ := hint i x hx
      have hi : i < ns.length := by
        have := (List.getElem?_eq_some_iff.mp hx).1
        rw [List.length_map] at this
        exact this
      refine ⟨rfl, _, rfl, _, rfl, _, _, rfl, rfl, h18, _, _, rfl, rfl, _, rfl, ite2 (fun _ => ?_) (fun _ => ?_)⟩
      · refine ⟨_, rfl, _, rfl, _, _, rfl, rfl, h18, _, _, rfl, rfl, _, hw1, small1000 (by rw [List.length_map]; omega), fun b o e => ?_, ws ++ [(if v < 0 then -v else v) - 10 ^ 18], ?_, ?_⟩
        · rw [upd_ne (ne_of_none e hw)]
          exact s1 b o e
        · rw [upd_same, List.map_append]
          rfl
        · rw [List.length_append, List.length_singleton]
          omega
      · exact ⟨s1, ws, hw1, by omega⟩
    · rintro H1 ⟨s1, ws, hw1, hwl⟩
      intro d hd
      have nd : d ≠ w := fun z => by rw [z, hw1] at hd; cases hd
      have s2 : Same H (upd H1 d (.dK [])) := s1.trans (Same.new hd)
      have hw2 : (upd H1 d (.dK [])) w = some (.lst (ws.map V.int)) := by rw [upd_ne nd.symm]; exact hw1
      refine ⟨_, rfl, _, rfl, a, rfl, ⟨_, s2.seq hS⟩, fun c hc => lc_list (K := K) (a := a) (xs := ns.map V.int) (fun i H' => Same (upd H1 d (.dK [])) H' ∧ ∃ cs : List Int, H' c = some (.lst (cs.map V.int)) ∧ cs.length ≤ i)
        ⟨Same.new hc, [], upd_same, Nat.le_refl _⟩ (fun i H' _ ⟨e, _⟩ => e.seq (s2.seq hS)) ?_ ?_⟩
      · rintro i x H' hx ⟨s3, cs, hc1, hcl⟩
        obtain ⟨v, rfl⟩ := hint i x hx
        have hi : i < ns.length := by
          have := (List.getElem?_eq_some_iff.mp hx).1
          rw [List.length_map] at this
          exact this
        refine ⟨rfl, yes ?_⟩
        refine ⟨_, rfl, _, rfl, .inl ⟨_, rfl, _, _, rfl, rfl, (by show (0 : Int) < 2147483629; decide), _, hc1, small1000 (by rw [List.length_map]; omega), fun b o e => ?_, cs ++ [(if v < 0 then -v else v) % 2147483629], ?_, ?_⟩⟩
        · rw [upd_ne (ne_of_none e hc)]
          exact s3 b o e
        · rw [upd_same, List.map_append]
          rfl
        · rw [List.length_append, List.length_singleton]
          omega
      · rintro H3 ⟨s3, cs, hc3, hcl⟩
        have hd3 : H3 d = some (.dK []) := s3 _ _ upd_same
        have hw3 : H3 w = some (.lst (ws.map V.int)) := s3 _ _ hw2
        have ndc : c ≠ d := fun z => by rw [z, upd_same] at hc; cases hc
        have nwc : w ≠ c := fun z => by rw [← z, hw2] at hc; cases hc
        refine ⟨hd3, [(kW, .ref w), (kC, .ref c), (kR, .int 0), (kT, .int 0)], rfl, (by show 4 ≤ 15; decide), ?_⟩
        rw [merge4]
        refine k d w c _ (s1.free hd) hw ?_ ⟨⟨0, 0, by decide, by decide, upd_same⟩, ⟨ws, ?_⟩, ⟨cs, ?_⟩, nwc⟩ fun b o e => ?_
        · exact s2.free hc
        · rw [upd_ne nd.symm]
          exact hw3
        · rw [upd_ne ndc]
          exact hc3
        · rw [upd_ne (ne_of_none e (s1.free hd))]
          exact s3 _ _ (s2 _ _ e)
end
end SA

set_option Elab.async false
set_option linter.all false
set_option maxRecDepth 100000
set_option maxHeartbeats 4000000
namespace SA
open PySem PySem.Spec PyProof.Rows L2
/-! ### repr of any data -/
def rReprA (K : PySem.W.Frag) : List V → Hp → VK → Prop := fun xs H Q => ∃ (x : V) (d : PyData), xs = [x] ∧ Dx K H x d ∧ d.showable = true ∧ d.shown.length ≤ sizeLine ∧ d.depth ≤ 60 ∧ Q (.str d.shown) H
theorem call_reprA {X : Cx} (S : SysK X.K) (hg : X.A.guards = some []) (hu : X.A.units + 64 < cLine) : CallR X (.builtin "repr") (rReprA X.K) := by
  intro pins s σ H xs us Q I r h
  obtain ⟨x, d, rfl, hd, hs, hz, hp, q⟩ := h
  obtain ⟨u, rfl, ru⟩ := vals1 r
  cases hd with
  | non =>
    obtain rfl : u = Value.none := ru
    exact PySem.P.repr_of_none ⟨.str "None", H, I.tok _, ⟨_, rfl⟩, q⟩
  | bl b =>
    obtain rfl : u = Value.bool b := ru
    exact PySem.P.repr_of_bool ⟨.str (if b then "True" else "False"), H, I.tok _, ⟨_, rfl⟩, q⟩
  | int i =>
    obtain ⟨t, rfl⟩ := ru
    have hs : i.natAbs.log2 < 1920 := by simpa [PyData.showable] using hs
    refine PySem.P.repr_of_int hs ⟨.str (toString i), H, I.tok _, ⟨_, rfl⟩, q⟩
  | str z =>
    obtain ⟨t, rfl⟩ := ru
    refine PySem.P.repr_of_str ⟨.str (reprText z), H, I.tok _, ⟨_, rfl⟩, q⟩ ?_
    simpa only [PyData.shown] using hz
  | lst h1 h2 => exact call_repr S hg hu pins s σ H _ _ Q I r ⟨_, _, rfl, .lst h1 h2, hs, hz, hp, q⟩
  | tup h1 h2 => exact call_repr S hg hu pins s σ H _ _ Q I r ⟨_, _, rfl, .tup h1 h2, hs, hz, hp, q⟩
  | dct h1 h2 h3 => exact call_repr S hg hu pins s σ H _ _ Q I r ⟨_, _, rfl, .dct h1 h2 h3, hs, hz, hp, q⟩
/-- data that repr shows -/
def Gd (d : PyData) : Prop := d.showable = true ∧ d.shown.length ≤ sizeLine ∧ d.depth ≤ 60
theorem gd_of {d : PyData} (h1 : d.showable = true) (h2 : d.leavesShort 40 = true) (h3 : d.weight ≤ 10000) (h4 : d.depth ≤ 60) : Gd d := by
  refine ⟨h1, ?_, h4⟩
  have := PyData.shown_le 40 (by decide) d h2
  have := sizeLine_eq
  omega
theorem gd_none : Gd .none := gd_of rfl rfl (by decide) (by decide)
theorem gd_str {z : Str} (hl : z.length ≤ 1000) (hc : ∀ c ∈ z.cps.toList, c < 128) : Gd (.str z) := by
  refine gd_of rfl ?_ ?_ (by show 0 ≤ 60; decide)
  · show (z.cps.toList.all fun c => decide (c < 16 ^ 8)) = true
    rw [List.all_eq_true]
    intro c h
    have h1 := hc c h
    have : (128 : Nat) ≤ 16 ^ 8 := by decide
    exact decide_eq_true (by omega)
  · show z.cps.size ≤ 10000
    have hl : z.cps.size ≤ 1000 := hl
    omega
theorem int_leaf {i : Int} (h : i.natAbs < 2 ^ 120) : PyData.leavesShort 40 (.int i) = true ∧ PyData.weight (.int i) ≤ 200 ∧ i.natAbs.log2 < 1920 := by
  have hl : i.natAbs.log2 < 120 := by
    by_cases h0 : i.natAbs = 0
    · rw [h0]
      decide
    · exact (Nat.log2_lt h0).mpr h
  refine ⟨?_, ?_, by omega⟩
  · have e := int_text_length_le10 (a := i) (k := 39) (by decide) (Nat.lt_of_lt_of_le h (by decide))
    show decide ((Str.ofString (toString i)).length ≤ 40) = true
    rw [PySem.ofString_length]
    exact decide_eq_true e
  · show (if i == 0 then 0 else i.natAbs.log2 + 1) ≤ 200
    split <;> omega
theorem gd_int {i : Int} (h : i.natAbs < 2 ^ 120) : Gd (.int i) := by
  obtain ⟨h1, h2, h3⟩ := int_leaf h
  refine gd_of ?_ h1 (by omega) (by show 0 ≤ 60; decide)
  simpa [PyData.showable] using h3
theorem gd_pair {a b : Int} (ha : a.natAbs < 2 ^ 120) (hb : b.natAbs < 2 ^ 120) : Gd (.tuple [.int a, .int b]) := by
  obtain ⟨a1, a2, a3⟩ := int_leaf ha
  obtain ⟨b1, b2, b3⟩ := int_leaf hb
  refine gd_of ?_ ?_ ?_ (by simp [PyData.depth, PyData.depthAll])
  · simp [PyData.showable, PyData.showableAll, a3, b3]
  · simp only [PyData.leavesShort, PyData.leavesShortAll] at a1 b1 ⊢
    simp [a1, b1]
  · simp only [PyData.weight, PyData.weightAll] at a2 b2 ⊢
    omega
/-- a value with its data, so far as repr goes -/
structure Sh (K : PySem.W.Frag) (H : Hp) (x : V) (d : PyData) : Prop where
  dx : Dx K H x d
  gd : Gd d
theorem Sh.rd {K : PySem.W.Frag} {H : Hp} {x : V} {d : PyData} {Q : VK} (h : Sh K H x d) (q : Q (.str d.shown) H) : rReprA K [x] H Q := ⟨x, d, rfl, h.dx, h.gd.1, h.gd.2.1, h.gd.2.2, q⟩
end SA

set_option linter.all false
namespace K82
abbrev L := List Nat
/-- a list of binary digits, as codes -/
def IsB (l : L) : Prop := ∀ c ∈ l, c = 48 ∨ c = 49
def dv (c : Nat) : Nat := c - 48
def bval (l : L) : Nat := l.foldl (fun a c => 2 * a + dv c) 0
/-- binary digits of a number below 2^k, k of them -/
def bdig : Nat → Nat → L
  | 0, _ => []
  | k + 1, n => bdig k (n / 2) ++ [48 + n % 2]
theorem bdig_len : ∀ k n, (bdig k n).length = k
  | 0, _ => rfl
  | k + 1, n => by simp [bdig, bdig_len k]
theorem bdig_isB : ∀ k n, IsB (bdig k n)
  | 0, _ => by intro c h; simp [bdig] at h
  | k + 1, n => by
    intro c h
    simp only [bdig, List.mem_append, List.mem_singleton] at h
    rcases h with h | h
    · exact bdig_isB k _ c h
    · omega
theorem bval_snoc (l : L) (c : Nat) : bval (l ++ [c]) = 2 * bval l + dv c := by
  unfold bval; rw [List.foldl_append]; rfl
theorem bval_bdig : ∀ k n, n < 2 ^ k → bval (bdig k n) = n
  | 0, n, h => by
    simp at h; subst h; rfl
  | k + 1, n, h => by
    rw [bdig, bval_snoc, bval_bdig k (n / 2) (by rw [Nat.pow_succ] at h; omega)]
    unfold dv
    omega
/-- the first digit -/
theorem bdig_head : ∀ k n, 2 ^ k ≤ n → n < 2 ^ (k + 1) → ∃ r, bdig (k + 1) n = 49 :: r
  | 0, n, h1, h2 => by
    have : n = 1 := by simp at h1 h2; omega
    subst this
    exact ⟨[], rfl⟩
  | k + 1, n, h1, h2 => by
    obtain ⟨r, e⟩ := bdig_head k (n / 2) (by rw [Nat.pow_succ] at h1; omega) (by rw [Nat.pow_succ] at h2; omega)
    exact ⟨r ++ [48 + n % 2], by rw [bdig, e]; rfl⟩
/-- the bits of a count -/
def enc (n : Nat) : L := List.replicate (Nat.log2 (n + 1)) 48 ++ bdig (Nat.log2 (n + 1) + 1) (n + 1)
theorem log_le (n : Nat) : 2 ^ Nat.log2 (n + 1) ≤ n + 1 := Nat.log2_self_le (by omega)
theorem log_lt (n : Nat) : n + 1 < 2 ^ (Nat.log2 (n + 1) + 1) := Nat.lt_log2_self
theorem enc_len (n : Nat) : (enc n).length = 2 * Nat.log2 (n + 1) + 1 := by
  simp [enc, bdig_len]; omega
theorem enc_isB (n : Nat) : IsB (enc n) := by
  intro c h
  simp only [enc, List.mem_append] at h
  rcases h with h | h
  · exact .inl (List.eq_of_mem_replicate h)
  · exact bdig_isB _ _ c h
/-- how many 0 stand ahead -/
def zs (l : L) : Nat := (l.takeWhile (· == 48)).length
/-- what is read at the list's beginning: the count and how many signs it has -/
def dec (l : L) : Option (Nat × Nat) := if 2 * zs l + 1 ≤ l.length then some (bval ((l.drop (zs l)).take (zs l + 1)) - 1, 2 * zs l + 1) else none
theorem zs_rep (k : Nat) (r : L) : zs (List.replicate k 48 ++ 49 :: r) = k := by
  unfold zs
  induction k with
  | zero => simp
  | succ k ih => simp [List.replicate_succ]
theorem zs_all (k : Nat) : zs (List.replicate k 48) = k := by
  unfold zs
  induction k with
  | zero => simp
  | succ k ih => simp [List.replicate_succ]
theorem zs_le (l : L) : zs l ≤ l.length := by
  unfold zs
  induction l with
  | nil => simp
  | cons c l ih => rw [List.takeWhile_cons]; split <;> simp <;> omega
theorem dec_enc (n : Nat) (back : L) : dec (enc n ++ back) = some (n, (enc n).length) := by
  obtain ⟨r, e⟩ := bdig_head (Nat.log2 (n + 1)) (n + 1) (log_le n) (log_lt n)
  have h1 : enc n ++ back = List.replicate (Nat.log2 (n + 1)) 48 ++ 49 :: (r ++ back) := by
    unfold enc; rw [e]; simp
  have hz : zs (enc n ++ back) = Nat.log2 (n + 1) := by rw [h1, zs_rep]
  have hr : r.length = Nat.log2 (n + 1) := by
    have := congrArg List.length e
    rw [bdig_len] at this; simp at this; omega
  unfold dec
  rw [hz, if_pos (by rw [List.length_append, enc_len]; omega), enc_len]
  congr 2
  rw [h1, List.drop_left' (by simp)]
  have : (49 :: (r ++ back)).take (Nat.log2 (n + 1) + 1) = 49 :: r := by
    rw [List.take_succ_cons, List.take_left' hr]
  rw [this, ← e, bval_bdig _ _ (log_lt n)]
  rfl
theorem dec_cut (n c : Nat) (h : c < (enc n).length) : dec ((enc n).take c) = none := by
  have hl := enc_len n
  obtain ⟨r, e⟩ := bdig_head (Nat.log2 (n + 1)) (n + 1) (log_le n) (log_lt n)
  unfold dec
  rw [if_neg]
  have hlen : ((enc n).take c).length = c := by rw [List.length_take]; omega
  rw [hlen]
  by_cases hc : c ≤ Nat.log2 (n + 1)
  · have : (enc n).take c = List.replicate c 48 := by
      unfold enc
      rw [List.take_append_of_le_length (by simp; exact hc), List.take_replicate, Nat.min_eq_left hc]
    rw [this, zs_all]; omega
  · have : (enc n).take c = List.replicate (Nat.log2 (n + 1)) 48 ++ 49 :: r.take (c - Nat.log2 (n + 1) - 1) := by
      unfold enc
      rw [e, List.take_append, List.length_replicate, List.take_of_length_le (by simp; omega)]
      congr 1
      obtain ⟨j, hj⟩ : ∃ j, c - Nat.log2 (n + 1) = j + 1 := ⟨c - Nat.log2 (n + 1) - 1, by omega⟩
      rw [hj, List.take_succ_cons]; rfl
    rw [this, zs_rep]; omega
/-- any number's bits -/
def zig (i : Int) : Nat := if 0 ≤ i then (2 * i).toNat else (-2 * i - 1).toNat
def zag (n : Nat) : Int := if n % 2 = 0 then (n / 2 : Nat) else -(((n + 1) / 2 : Nat) : Int)
theorem zag_zig (i : Int) : zag (zig i) = i := by
  unfold zag zig
  split <;> split <;> omega
/-- Python's binary digits -/
theorem toDig : ∀ (k n : Nat), 2 ^ k ≤ n → n < 2 ^ (k + 1) → (Nat.toDigits 2 n).map Char.toNat = bdig (k + 1) n
  | 0, n, h1, h2 => by
    have : n = 1 := by simp at h1 h2; omega
    subst this
    decide
  | k + 1, n, h1, h2 => by
    have hn : 2 ≤ n := by rw [Nat.pow_succ] at h1; have := Nat.one_le_two_pow (n := k); omega
    rw [Nat.toDigits_of_base_le (by decide) hn, List.map_append, toDig k (n / 2) (by rw [Nat.pow_succ] at h1; omega) (by rw [Nat.pow_succ] at h2; omega)]
    rw [bdig]
    congr 1
    rcases (show n % 2 = 0 ∨ n % 2 = 1 by omega) with h | h <;> rw [h] <;> decide
theorem toDig0 : (Nat.toDigits 2 0).map Char.toNat = [48] := by decide
end K82

set_option Elab.async false
set_option linter.all false
set_option maxHeartbeats 4000000
namespace K82
open PySem PySem.Builtin PySem.Builtin.Str
/-! ### one sign's places in a text -/
abbrev one (c : Nat) : Str := ⟨#[c]⟩
abbrev tl (z : Str) : L := z.cps.toList
theorem hit {x : Str} {c i : Nat} : (i + (one c).length ≤ x.length ∧ subAt x (one c) i = true) ↔ (tl x)[i]? = some c := StrLaws.subAt_one x c i
/-- the loop over all places: what is found -/
theorem occ_list (x : Str) (c : Nat) (lim : Nat) : ∀ (n a : Nat) (st : Array Nat × Nat), st.2 ≤ a →
    (forIn (List.range' a n) st (StrLaws.occBody x (one c) x.length lim)).run.fst.toList = st.1.toList ++ (((List.range' a n).filter fun i => decide ((tl x)[i]? = some c)).take (lim - st.1.size))
  | 0, a, st, h => by simp
  | n + 1, a, st, h => by
    rw [List.range'_succ, List.forIn_cons]
    unfold StrLaws.occBody
    by_cases hc : (tl x)[a]? = some c
    · have hh := hit.mpr hc
      by_cases hs : st.fst.size < lim
      · rw [if_pos ⟨⟨⟨hs, h⟩, hh.1⟩, hh.2⟩]
        show (forIn (List.range' (a + 1) n) (st.fst.push a, a + (one c).length) (StrLaws.occBody x (one c) x.length lim)).run.fst.toList = _
        rw [occ_list x c lim n (a + 1) (st.fst.push a, a + (one c).length) (Nat.le_refl _)]
        obtain ⟨k, hk⟩ : ∃ k, lim - st.fst.size = k + 1 := ⟨lim - st.fst.size - 1, by omega⟩
        rw [List.filter_cons_of_pos (by simpa using hc), hk, List.take_succ_cons]
        simp only [Array.toList_push, Array.size_push, List.append_assoc, List.singleton_append]
        congr 3
        omega
      · rw [if_neg (fun z => hs z.1.1.1)]
        show (forIn (List.range' (a + 1) n) (st.fst, st.snd) (StrLaws.occBody x (one c) x.length lim)).run.fst.toList = _
        rw [occ_list x c lim n (a + 1) (st.fst, st.snd) (by show st.snd ≤ a + 1; omega)]
        have : lim - st.fst.size = 0 := by omega
        rw [this]
        simp
    · rw [if_neg (fun z => hc (hit.mp ⟨z.1.2, z.2⟩))]
      show (forIn (List.range' (a + 1) n) (st.fst, st.snd) (StrLaws.occBody x (one c) x.length lim)).run.fst.toList = _
      rw [occ_list x c lim n (a + 1) (st.fst, st.snd) (by show st.snd ≤ a + 1; omega), List.filter_cons_of_neg (by simpa using hc)]
theorem occ_one (x : Str) (c lo lim : Nat) : occurrences x (one c) lo x.length lim = ((List.range' lo (x.length + 1 - lo)).filter fun i => decide ((tl x)[i]? = some c)).take lim := by
  rw [StrLaws.occ_eq, occ_list x c lim (x.length + 1 - lo) lo (#[], lo) (Nat.le_refl _)]
  simp
/-- the places of a sign in a list, from a on -/
theorem filt (l : L) (c : Nat) : ∀ (n a : Nat), (((List.range' a n).filter fun i => decide (l[i]? = some c)).map fun i => i) = (((List.range' a n).filter fun i => decide (l[i]? = some c))) := by intros; simp
theorem cnt_list (c : Nat) : ∀ (l pre : L), ((List.range' pre.length (l.length + 1)).filter fun i => decide ((pre ++ l)[i]? = some c)).length = l.count c
  | [], pre => by simp [List.range'_succ]
  | d :: l, pre => by
    rw [List.length_cons, List.range'_succ]
    have ih := cnt_list c l (pre ++ [d])
    rw [List.length_append, List.length_singleton, List.append_assoc, List.singleton_append] at ih
    by_cases h : d = c
    · subst h
      rw [List.filter_cons_of_pos (by simp), List.length_cons, ih, List.count_cons_self]
    · rw [List.filter_cons_of_neg (by simp [h]), ih, List.count_cons_of_ne h]
theorem count_one (x : Str) (c : Nat) : Txt.count x (one c) = (((tl x).count c : Nat) : Int) := by
  unfold Txt.count
  rw [occ_one, List.take_of_length_le]
  · have := cnt_list c (tl x) []
    simp only [List.length_nil, List.nil_append] at this
    rw [← this]
    rfl
  · refine Nat.le_trans (List.length_filter_le _ _) ?_
    rw [List.length_range']
    omega
theorem first_list (c : Nat) : ∀ (l pre : L), ((List.range' pre.length (l.length + 1)).filter fun i => decide ((pre ++ l)[i]? = some c)).take 1 = if c ∈ l then [pre.length + (l.takeWhile (· != c)).length] else []
  | [], pre => by simp [List.range'_succ]
  | d :: l, pre => by
    rw [List.length_cons, List.range'_succ]
    have ih := first_list c l (pre ++ [d])
    rw [List.length_append, List.length_singleton, List.append_assoc, List.singleton_append] at ih
    by_cases h : d = c
    · subst h
      rw [List.filter_cons_of_pos (by simp)]
      simp
    · rw [List.filter_cons_of_neg (by simp [h]), ih]
      have h2 : ¬ c = d := fun e => h e.symm
      by_cases hm : c ∈ l
      · rw [if_pos hm, if_pos (List.mem_cons_of_mem _ hm), List.takeWhile_cons, if_pos (by simp [h])]
        simp only [List.length_cons]
        congr 1
        omega
      · rw [if_neg hm, if_neg (by simp [h2, hm])]
theorem find_one (x : Str) (c n : Nat) (hn : n ≤ x.length) : Txt.find3 x (one c) (n : Int) = if c ∈ (tl x).drop n then ((n + (((tl x).drop n).takeWhile (· != c)).length : Nat) : Int) else -1 := by
  have h1 : fromIndex x.length (n : Int) = n := by
    unfold fromIndex
    rw [if_neg (by omega)]
    omega
  unfold Txt.find3
  rw [h1, occ_one]
  have hl : ((tl x).take n).length = n := by rw [List.length_take]; exact Nat.min_eq_left hn
  have := first_list c ((tl x).drop n) ((tl x).take n)
  rw [List.take_append_drop, hl, List.length_drop] at this
  have e : (tl x).length - n + 1 = x.length + 1 - n := by show x.length - n + 1 = _; omega
  rw [e] at this
  rw [this]
  by_cases h : c ∈ (tl x).drop n
  · rw [if_pos h, if_pos h]
  · rw [if_neg h, if_neg h]
end K82

set_option linter.all false
namespace K1
abbrev L := List Nat
def inn (c : Nat) : Bool := decide (97 ≤ c ∧ c ≤ 122) || decide (65 ≤ c ∧ c ≤ 90) || decide (48 ≤ c ∧ c ≤ 57) || decide (c = 95)
def digit (c : Nat) : Bool := decide (48 ≤ c ∧ c ≤ 57)
def okc (c : Nat) : Bool := decide (c = 10) || (decide (32 ≤ c ∧ c ≤ 126) && decide (c ≠ 37))
def blank (c : Nat) : Bool := decide (c = 32) || decide (c = 10)
/-- how long the first word is -/
def wl : L → Nat
  | [] => 1
  | c :: r => if inn c then 1 + (r.takeWhile inn).length else match r with
    | [] => 1
    | d :: q => if c = 45 ∧ digit d = true then 2 + (q.takeWhile inn).length else if d = 61 ∧ (c = 60 ∨ c = 61) then 2 else 1
theorem wl_inn {c : Nat} {r : L} (h : inn c = true) : wl (c :: r) = 1 + (r.takeWhile inn).length := by
  show (if inn c = true then _ else _) = _
  rw [if_pos h]
theorem wl_one {c : Nat} (h : ¬ inn c = true) : wl [c] = 1 := by
  show (if inn c = true then _ else 1) = _
  rw [if_neg h]
theorem wl_two {c d : Nat} {q : L} (h : ¬ inn c = true) : wl (c :: d :: q) = if c = 45 ∧ digit d = true then 2 + (q.takeWhile inn).length else if d = 61 ∧ (c = 60 ∨ c = 61) then 2 else 1 := by
  show (if inn c = true then _ else _) = _
  rw [if_neg h]
theorem wl_pos : ∀ t : L, 1 ≤ wl t
  | [] => Nat.le_refl 1
  | c :: r => by
    by_cases h : inn c = true
    · rw [wl_inn h]
      omega
    · cases r with
      | nil => rw [wl_one h]; omega
      | cons d q =>
        rw [wl_two h]
        split
        · omega
        · split <;> omega
theorem tw_le (p : Nat → Bool) : ∀ l : L, (l.takeWhile p).length ≤ l.length
  | [] => Nat.le_refl 0
  | c :: r => by
    rw [List.takeWhile_cons]
    split
    · have := tw_le p r
      simp only [List.length_cons]
      omega
    · simp
theorem wl_le : ∀ (c : Nat) (r : L), wl (c :: r) ≤ r.length + 1 := by
  intro c r
  by_cases h : inn c = true
  · rw [wl_inn h]
    have := tw_le inn r
    omega
  · cases r with
    | nil =>
      rw [wl_one h]
      simp
    | cons d q =>
      rw [wl_two h]
      have := tw_le inn q
      simp only [List.length_cons]
      split
      · omega
      · split <;> omega
/-- the words of a text with lines and columns -/
def cut : L → Int → Int → List (L × Int × Int)
  | [], _, _ => []
  | c :: r, l, k => if c = 10 then cut r (l + 1) 1 else if c = 32 then cut r l (k + 1) else ((c :: r).take (wl (c :: r)), l, k) :: cut ((c :: r).drop (wl (c :: r))) l (k + wl (c :: r))
termination_by t => t.length
decreasing_by
  · simp
  · simp
  · have h := wl_pos (c :: r)
    simp only [List.length_drop, List.length_cons]
    omega
theorem cut_nl {r : L} {l k : Int} : cut (10 :: r) l k = cut r (l + 1) 1 := by
  rw [cut]
  simp
theorem cut_sp {r : L} {l k : Int} : cut (32 :: r) l k = cut r l (k + 1) := by
  rw [cut]
  simp
theorem cut_w {c : Nat} {r : L} {l k : Int} (h : blank c = false) : cut (c :: r) l k = ((c :: r).take (wl (c :: r)), l, k) :: cut ((c :: r).drop (wl (c :: r))) l (k + wl (c :: r)) := by
  unfold blank at h
  simp only [Bool.or_eq_false_iff, decide_eq_false_iff_not] at h
  rw [cut, if_neg h.2, if_neg h.1]
theorem cut_nil {l k : Int} : cut [] l k = [] := by rw [cut]
/-- a word is no longer than the text -/
theorem cut_len : ∀ (t : L) (l k : Int), ∀ x ∈ cut t l k, x.1.length ≤ t.length := by
  intro t l k
  fun_induction cut t l k with
  | case1 l k => simp
  | case2 r l k ih =>
    intro x hx
    have := ih x hx
    simp only [List.length_cons]
    omega
  | case3 r l k h ih =>
    intro x hx
    have := ih x hx
    simp only [List.length_cons]
    omega
  | case4 c r l k h1 h2 ih =>
    intro x hx
    rcases List.mem_cons.mp hx with rfl | hx
    · simp only [List.length_take]
      omega
    · have := ih x hx
      simp only [List.length_drop] at this
      omega
/-- the whole text is one word -/
theorem cut_one (t : L) (w : L) : cut t 1 1 = [(t, 1, 1)] ↔ ∃ c r, t = c :: r ∧ blank c = false ∧ wl (c :: r) = (c :: r).length := by
  cases t with
  | nil =>
    rw [cut_nil]
    simp
  | cons c r =>
    by_cases hb : blank c = true
    · have h0 : ∀ l k, cut r l k = [(c :: r, 1, 1)] → False := fun l k e => by
        have := cut_len r l k (c :: r, 1, 1) (by rw [e]; simp)
        simp at this
        omega
      unfold blank at hb
      simp only [Bool.or_eq_true, decide_eq_true_eq] at hb
      constructor
      · intro e
        rcases hb with rfl | rfl
        · rw [cut_sp] at e
          exact (h0 _ _ e).elim
        · rw [cut_nl] at e
          exact (h0 _ _ e).elim
      · rintro ⟨c', r', e, h1, _⟩
        cases e
        rcases hb with rfl | rfl
        · exact absurd h1 (by decide)
        · exact absurd h1 (by decide)
    · have hb : blank c = false := by simpa using hb
      rw [cut_w hb]
      have h1 := wl_le c r
      constructor
      · intro e
        refine ⟨c, r, rfl, hb, ?_⟩
        have e1 := (List.cons.inj e).1
        have e2 : (c :: r).take (wl (c :: r)) = c :: r := (Prod.mk.inj e1).1
        have := congrArg List.length e2
        rw [List.length_take] at this
        simp only [List.length_cons] at this ⊢
        omega
      · rintro ⟨c', r', e, _, h2⟩
        cases e
        rw [h2, List.take_of_length_le (Nat.le_refl _), List.drop_of_length_le (Nat.le_refl _), cut_nil]
/-- wl of a word is its length -/
theorem tw_all {p : Nat → Bool} : ∀ {l : L}, (∀ c ∈ l, p c = true) → l.takeWhile p = l
  | [], _ => rfl
  | c :: r, h => by
    rw [List.takeWhile_cons, if_pos (h c (by simp)), tw_all fun d hd => h d (by simp [hd])]
theorem tw_mem {p : Nat → Bool} : ∀ {l : L}, ∀ c ∈ l.takeWhile p, p c = true
  | [], c, h => by simp at h
  | d :: r, c, h => by
    rw [List.takeWhile_cons] at h
    split at h
    · rename_i hd
      rcases List.mem_cons.mp h with rfl | h
      · exact hd
      · exact tw_mem c h
    · simp at h
theorem tw_take {p : Nat → Bool} : ∀ (l : L), l.take (l.takeWhile p).length = l.takeWhile p
  | [] => rfl
  | c :: r => by
    rw [List.takeWhile_cons]
    split
    · simp only [List.length_cons, List.take_succ_cons, tw_take r]
    · rfl
theorem wl_word (c : Nat) (r : L) : wl ((c :: r).take (wl (c :: r))) = ((c :: r).take (wl (c :: r))).length := by
  by_cases h1 : inn c = true
  · have e : wl (c :: r) = (r.takeWhile inn).length + 1 := by
      rw [wl_inn h1]
      omega
    rw [e, List.take_succ_cons, tw_take, wl_inn h1, tw_all tw_mem, List.length_cons]
    omega
  · cases r with
    | nil =>
      rw [wl_one h1]
      exact wl_one h1
    | cons d q =>
      by_cases h2 : c = 45 ∧ digit d = true
      · have e : wl (c :: d :: q) = (q.takeWhile inn).length + 1 + 1 := by
          rw [wl_two h1, if_pos h2]
          omega
        rw [e, List.take_succ_cons, List.take_succ_cons, tw_take, wl_two h1, if_pos h2, tw_all tw_mem, List.length_cons, List.length_cons]
        omega
      · by_cases h3 : d = 61 ∧ (c = 60 ∨ c = 61)
        · have e : ∀ q, wl (c :: d :: q) = 2 := fun q => by rw [wl_two h1, if_neg h2, if_pos h3]
          rw [e]
          exact e []
        · have e : wl (c :: d :: q) = 1 := by rw [wl_two h1, if_neg h2, if_neg h3]
          rw [e]
          exact wl_one h1
/-- each word of a text: not empty, its signs are the text's, no blank ahead, one word -/
theorem cut_word : ∀ (t : L) (l k : Int), ∀ x ∈ cut t l k, (∀ c ∈ x.1, c ∈ t) ∧ ∃ c r, x.1 = c :: r ∧ blank c = false ∧ wl (c :: r) = (c :: r).length := by
  intro t l k
  fun_induction cut t l k with
  | case1 l k => simp
  | case2 r l k ih =>
    intro x hx
    exact ⟨fun c hc => List.mem_cons_of_mem _ ((ih x hx).1 c hc), (ih x hx).2⟩
  | case3 r l k h ih =>
    intro x hx
    exact ⟨fun c hc => List.mem_cons_of_mem _ ((ih x hx).1 c hc), (ih x hx).2⟩
  | case4 c r l k h1 h2 ih =>
    intro x hx
    rcases List.mem_cons.mp hx with rfl | hx
    · have h3 := wl_pos (c :: r)
      refine ⟨fun d hd => List.mem_of_mem_take hd, c, r.take (wl (c :: r) - 1), ?_, by unfold blank; simp [h1, h2], ?_⟩
      · obtain ⟨n, e⟩ : ∃ n, wl (c :: r) = n + 1 := ⟨wl (c :: r) - 1, by omega⟩
        show (c :: r).take (wl (c :: r)) = _
        rw [e, List.take_succ_cons]
        rfl
      · have e : c :: r.take (wl (c :: r) - 1) = (c :: r).take (wl (c :: r)) := by
          obtain ⟨n, e⟩ : ∃ n, wl (c :: r) = n + 1 := ⟨wl (c :: r) - 1, by omega⟩
          rw [e, List.take_succ_cons]
          rfl
        rw [e]
        exact wl_word c r
    · exact ⟨fun d hd => List.mem_of_mem_drop ((ih x hx).1 d hd), (ih x hx).2⟩
end K1

set_option Elab.async false
set_option linter.all false
set_option maxRecDepth 100000
set_option maxHeartbeats 4000000
namespace K1
open PySem L2
abbrev tl (z : Str) : L := z.cps.toList
def mk (l : L) : Str := ⟨l.toArray⟩
theorem tl_mk (l : L) : tl (mk l) = l := by simp [mk]
theorem mk_tl (z : Str) : mk (tl z) = z := by simp [mk]
theorem tl_inj {a b : Str} (h : tl a = tl b) : a = b := by rw [← mk_tl a, ← mk_tl b, h]
theorem len_tl (z : Str) : z.length = (tl z).length := rfl
theorem len_mk (l : L) : (mk l).length = l.length := by simp [mk, Str.length]
theorem cut_nn (z : Str) (a b : Nat) : cutS z (some (a : Int)) (some (b : Int)) = mk (((tl z).drop a).take (b - a)) := by
  unfold cutS mk tl
  rw [HT.sIx_nat, HT.sIx_nat, show z.length = z.cps.toList.length from rfl]
  generalize z.cps.toList = l
  congr 1
  by_cases h : a ≤ l.length
  · rw [Nat.min_eq_left h]
    by_cases hb : b ≤ l.length
    · rw [Nat.min_eq_left hb]
    · rw [Nat.min_eq_right (by omega), List.take_of_length_le (by rw [List.length_drop]; omega), List.take_of_length_le (by rw [List.length_drop]; omega)]
  · have e : l.drop (min a l.length) = [] := List.drop_of_length_le (by omega)
    have e2 : l.drop a = [] := List.drop_of_length_le (by omega)
    rw [e, e2]
    simp
theorem cut_n (z : Str) (a : Nat) : cutS z (some (a : Int)) none = mk ((tl z).drop a) := by
  unfold cutS mk tl
  rw [HT.sIx_nat, HT.sIx_none, show z.length = z.cps.toList.length from rfl]
  generalize z.cps.toList = l
  congr 1
  by_cases h : a ≤ l.length
  · rw [Nat.min_eq_left h, List.take_of_length_le (by rw [List.length_drop]; omega)]
  · rw [Nat.min_eq_right (by omega), List.drop_of_length_le (Nat.le_refl _), List.drop_of_length_le (by omega)]
    simp
theorem cut_0n (z : Str) (b : Nat) : cutS z none (some (b : Int)) = mk ((tl z).take b) := by
  unfold cutS mk tl
  rw [HT.sIx_nat, HT.sIx_none, show z.length = z.cps.toList.length from rfl]
  generalize z.cps.toList = l
  congr 1
  rw [List.drop_zero, Nat.sub_zero]
  by_cases h : b ≤ l.length
  · rw [Nat.min_eq_left h]
  · rw [Nat.min_eq_right (by omega), List.take_of_length_le (Nat.le_refl _), List.take_of_length_le (by omega)]
theorem lt1 (a b : Nat) : decide ([a] < [b]) = decide (a < b) := by
  rw [decide_eq_decide]
  constructor
  · intro h
    cases h with
    | rel h => exact h
    | cons h => cases h
  · intro h
    exact List.Lex.rel h
theorem lt_nil (a : L) : decide (a < ([] : L)) = false := by
  rw [decide_eq_false_iff_not]
  intro h
  cases h
theorem nil_lt (a : Nat) : decide (([] : L) < [a]) = true := by
  rw [decide_eq_true_eq]
  exact List.Lex.nil
theorem dig : ∀ c < 128, Unicode.isDigit c = digit c := by decide +kernel
theorem isdigit_mk (l : L) (h : ∀ c ∈ l, c < 128) : Txt.isdigit (mk l) = (!l.isEmpty && l.all digit) := by
  unfold Txt.isdigit
  rw [len_mk]
  have e : (mk l).cps.all Unicode.isDigit = l.all digit := by
    show l.toArray.all Unicode.isDigit = _
    rw [List.all_toArray]
    rw [Bool.eq_iff_iff, List.all_eq_true, List.all_eq_true]
    exact ⟨fun z c hc => by rw [← dig c (h c hc)]; exact z c hc, fun z c hc => by rw [dig c (h c hc)]; exact z c hc⟩
  rw [e]
  cases l <;> simp
theorem inV_str (w : Str) : ∀ l : List Str, inV (.str w) (l.map V.str) = decide (w ∈ l)
  | [] => rfl
  | a :: l => by
    have ih := inV_str w l
    have e : inV (.str w) ((a :: l).map V.str) = ((a == w) || inV (.str w) (l.map V.str)) := rfl
    rw [e, ih, Bool.eq_iff_iff, Bool.or_eq_true, beq_iff_eq, decide_eq_true_eq, decide_eq_true_eq, List.mem_cons]
    exact or_congr ⟨Eq.symm, Eq.symm⟩ Iff.rfl
theorem flat_strs : ∀ l : List Str, (l.map V.str).all flatV = true
  | [] => rfl
  | a :: l => by
    rw [List.map_cons, List.all_cons, flat_strs l]
    rfl
/-! ### the sorts -/
def keptS : List Str := ["and", "at", "choice", "else", "fail", "false", "function", "if", "let", "long", "make", "match", "new", "not", "number", "of", "or", "over", "put", "rest", "return", "row", "set", "show", "true", "truth", "try", "unit", "uses", "while"]
def signsS : List Str := ["(", ")", "{", "}", ",", ":", "=", "|", "+", "-", "*", "<", "<=", "=="]
def small (c : Nat) : Bool := decide (97 ≤ c ∧ c ≤ 122)
def isName (w : Str) : Bool := decide (1 ≤ w.length) && (decide (w.length ≤ 8) && (!decide (w ∈ keptS) && (tl w).all small))
def figs (w : Str) : L := if (tl w).head? = some 45 then (tl w).drop 1 else tl w
def isFig (w : Str) : Bool := decide (w = "0") || (!(figs w).isEmpty && ((figs w).all digit && !decide ((figs w).head? = some 48)))
def sortW (w : Str) : Str := if w ∈ keptS ∨ w ∈ signsS then w else if isName w = true then "name" else if isFig w = true then "figures" else "strange"
end K1

set_option Elab.async false
set_option linter.all false
set_option maxRecDepth 100000
set_option maxHeartbeats 4000000
namespace K83
open PySem PySem.Spec
open K82 (L IsB bval bdig enc dec zig zag one tl)
abbrev mk (l : L) : Str := ⟨l.toArray⟩
theorem tl_mk (l : L) : tl (mk l) = l := by simp [mk, tl]
theorem mk_tl (z : Str) : mk (tl z) = z := by simp [mk, tl]
theorem tl_inj {a b : Str} (h : tl a = tl b) : a = b := by rw [← mk_tl a, ← mk_tl b, h]
abbrev D := PyData
/-- the sorts of parts -/
inductive Lt where
  | p | n | c | x | k | P | l
deriving DecidableEq
def tab : List (Str × List Lt) := [("const", [.p, .n]), ("copy", [.c, .c]), ("plus", [.p, .p, .p]), ("minus", [.p, .p, .p]), ("times", [.p, .p, .p]), ("over", [.p, .p, .p]), ("rest", [.p, .p, .p]), ("less", [.p, .p, .p]), ("atmost", [.p, .p, .p]), ("same", [.p, .p, .p]),
  ("not", [.p, .p]), ("make", [.x, .p, .P]), ("tag", [.p, .p]), ("part", [.x, .k, .p, .p]), ("long", [.x, .p, .p]), ("new", [.x, .p, .p, .p]), ("at", [.x, .p, .p, .p]), ("put", [.x, .p, .p, .p]), ("show", [.p]), ("call", [.l]), ("jump", [.l]), ("branch", [.p, .l]), ("unless", [.p, .l]), ("try", [.l, .l]), ("return", []), ("fail", [.p])]
def digit (c : Nat) : Bool := decide (48 ≤ c ∧ c ≤ 57)
def figsB (l : L) : Bool := !l.isEmpty && (l.all digit && (decide (l.head? ≠ some 48) || decide (l.length = 1)))
def dnum (l : L) : Nat := l.foldl (fun a c => 10 * a + dv10 c) 0
where dv10 (c : Nat) : Nat := c - 48
def regL (r : Nat) : L → Bool
  | [114, c] => digit c && decide (c - 48 < r)
  | _ => false
def slotL : L → Bool
  | 115 :: f => figsB f && decide (f.length ≤ 3)
  | _ => false
def isReg (r : Nat) : D → Bool
  | .str z => regL r (tl z)
  | _ => false
def isSlot : D → Bool
  | .str z => slotL (tl z)
  | _ => false
def isInt : D → Bool
  | .int _ => true
  | _ => false
def isBetw (lo hi : Int) : D → Bool
  | .int i => decide (lo ≤ i ∧ i ≤ hi)
  | _ => false
def isNm : D → Bool
  | .str z => K1.isName z
  | _ => false
def isRegs (r : Nat) : D → Bool
  | .tuple ds => decide (ds.length ≤ 3) && ds.all (isReg r)
  | _ => false
def halfOf (w : Str) : Int := if w = "short" then 128 else 2147483648
def isLeap : D → Bool
  | .tuple [.str w, .int i] => (decide (w = "short") || decide (w = "long")) && decide (-halfOf w ≤ i ∧ i ≤ halfOf w - 1)
  | _ => false
def isPart (r : Nat) : Lt → D → Bool
  | .p, d => isReg r d
  | .n, d => isInt d
  | .c, d => isSlot d || isReg r d
  | .x, d => isNm d
  | .k, d => isBetw 0 2 d
  | .P, d => isRegs r d
  | .l, d => isLeap d
def arePs (r : Nat) : List Lt → List D → Bool
  | [], [] => true
  | c :: cs, d :: ds => isPart r c d && arePs r cs ds
  | _, _ => false
def judged (r : Nat) : D → Bool
  | .tuple (.str w :: ps) => match tab.lookup w with
    | none => false
    | some ls => arePs r ls ps && !(decide (w = "copy") && ps.all isSlot)
  | _ => false
/-! ### written out -/
def encReg : D → L
  | .str z => bdig 4 (dnum ((tl z).drop 1))
  | _ => []
def leapN (m : Nat) (i : Int) : Nat := (if 0 ≤ i then i else i + 2 ^ m).toNat
def encPart : Lt → D → L
  | .p, d => encReg d
  | .n, .int i => enc (zig i)
  | .c, .str z => if (tl z).head? = some 115 then 49 :: enc (dnum ((tl z).drop 1)) else 48 :: encReg (.str z)
  | .x, .str z => (tl z).flatMap (fun c => bdig 5 (c - 96)) ++ [48, 48, 48, 48, 48]
  | .k, .int i => bdig 2 i.toNat
  | .P, .tuple ds => bdig 2 ds.length ++ ds.flatMap encReg
  | .l, .tuple [.str w, .int i] => if w = "short" then 48 :: bdig 8 (leapN 8 i) else 49 :: bdig 32 (leapN 32 i)
  | _, _ => []
def encPs : List Lt → List D → L
  | c :: cs, d :: ds => encPart c d ++ encPs cs ds
  | _, _ => []
def wix (w : Str) : Nat := tab.findIdx fun q => q.1 == w
def encI : D → L
  | .tuple (.str w :: ps) => bdig 5 (wix w) ++ encPs ((tab.lookup w).getD []) ps
  | _ => []
/-! ### read -/
def digAt (l : L) (n m : Nat) : Option (Nat × Nat) := if n + m ≤ l.length then some (bval ((l.drop n).take m), n + m) else none
def natS (v : Nat) : Str := Str.ofString (toString v)
def pl (c v : Nat) : Str := one c ++ natS v
def regAt (l : L) (n : Nat) : Option (D × Nat) := (digAt l n 4).map fun q => (.str (pl 114 q.1), q.2)
def decAt (l : L) (n : Nat) : Option (Nat × Nat) := (dec (l.drop n)).map fun p => (p.1, n + p.2)
def copAt (l : L) (n : Nat) : Option (D × Nat) := if (l.drop n).head? = some 49 then (decAt l (n + 1)).map (fun q => (.str (pl 115 q.1), q.2)) else regAt l (n + 1)
def numAt (l : L) (n : Nat) : Option (D × Nat) := (decAt l n).map fun q => (.int (zag q.1), q.2)
def namAt (l : L) : Nat → Nat → L → Option (D × Nat)
  | 0, _, _ => none
  | f + 1, n, acc => match digAt l n 5 with
    | none => none
    | some (v, b) => if v = 0 then some (.str (mk acc), b) else if v > 26 then none else namAt l f b (acc ++ [96 + v])
def knAt (l : L) (n : Nat) : Option (D × Nat) := (digAt l n 2).map fun q => (.int (q.1 : Nat), q.2)
def regsN (l : L) : Nat → Nat → Option (List D × Nat)
  | 0, b => some ([], b)
  | m + 1, b => (regAt l b).bind fun q => (regsN l m q.2).map fun t => (q.1 :: t.1, t.2)
def rgsAt (l : L) (n : Nat) : Option (D × Nat) := (digAt l n 2).bind fun q => (regsN l q.1 q.2).map fun t => (.tuple t.1, t.2)
def isLong (l : L) (n : Nat) : Bool := decide ((l.drop n).head? = some 49)
def leapV (m : Nat) (v : Nat) : Int := if v < 2 ^ (m - 1) then v else (v : Int) - 2 ^ m
def leapAt (l : L) (n : Nat) : Option (D × Nat) :=
  if isLong l n = true then (digAt l (n + 1) 32).map (fun q => (.tuple [.str "long", .int (leapV 32 q.1)], q.2)) else (digAt l (n + 1) 8).map (fun q => (.tuple [.str "short", .int (leapV 8 q.1)], q.2))
def rdPart (l : L) : Lt → Nat → Option (D × Nat)
  | .p, n => regAt l n
  | .n, n => numAt l n
  | .c, n => copAt l n
  | .x, n => namAt l (l.length + 1) n []
  | .k, n => knAt l n
  | .P, n => rgsAt l n
  | .l, n => leapAt l n
def rdPs (l : L) : List Lt → Nat → Option (List D × Nat)
  | [], n => some ([], n)
  | c :: cs, n => (rdPart l c n).bind fun q => (rdPs l cs q.2).map fun t => (q.1 :: t.1, t.2)
def rdI (r : Nat) (l : L) (n : Nat) : Option (D × Nat) := (digAt l n 5).bind fun q => match tab[q.1]? with
  | none => none
  | some (w, ls) => (rdPs l ls q.2).bind fun t => if judged r (.tuple (.str w :: t.1)) = true then some (.tuple (.str w :: t.1), t.2) else none
/-! ### what was written is read -/
def At (l : L) (n : Nat) (e : L) : Prop := n ≤ l.length ∧ ∃ s, l.drop n = e ++ s
theorem At.len {l : L} {n : Nat} {e : L} (h : At l n e) : n + e.length ≤ l.length := by
  obtain ⟨h1, s, h2⟩ := h
  have := congrArg List.length h2
  rw [List.length_drop, List.length_append] at this
  omega
theorem At.app {l : L} {n : Nat} {a b : L} (h : At l n (a ++ b)) : At l n a ∧ At l (n + a.length) b := by
  have hl := h.len
  rw [List.length_append] at hl
  obtain ⟨h1, s, h2⟩ := h
  refine ⟨⟨h1, b ++ s, by rw [h2, List.append_assoc]⟩, by omega, s, ?_⟩
  rw [← List.drop_drop, h2, List.append_assoc, List.drop_left]
theorem At.cons {l : L} {n c : Nat} {b : L} (h : At l n (c :: b)) : (l.drop n).head? = some c ∧ At l (n + 1) b := by
  have h2 := At.app (a := [c]) h
  obtain ⟨_, s, e⟩ := h
  exact ⟨by rw [e]; rfl, h2.2⟩
theorem digAt_bdig {l : L} {n k v : Nat} (h : At l n (bdig k v)) (hv : v < 2 ^ k) : digAt l n k = some (v, n + k) := by
  have hl := h.len
  rw [K82.bdig_len] at hl
  obtain ⟨_, s, e⟩ := h
  unfold digAt
  rw [if_pos hl, e, List.take_left' (K82.bdig_len k v), K82.bval_bdig k v hv]
theorem decAt_enc {l : L} {n v : Nat} (h : At l n (enc v)) : decAt l n = some (v, n + (enc v).length) := by
  obtain ⟨_, s, e⟩ := h
  unfold decAt
  rw [e, K82.dec_enc]
  rfl
theorem natS1 : ∀ a < 10, tl (natS a) = [48 + a] := by decide +kernel
theorem natS2 : ∀ a < 10, ∀ b < 10, a ≠ 0 → tl (natS (10 * a + b)) = [48 + a, 48 + b] := by decide +kernel
theorem natS3 : ∀ a < 10, ∀ b < 10, ∀ c < 10, a ≠ 0 → tl (natS (10 * (10 * a + b) + c)) = [48 + a, 48 + b, 48 + c] := by decide +kernel
theorem dig_ex {c : Nat} (h : digit c = true) : ∃ a, a < 10 ∧ c = 48 + a := ⟨c - 48, by unfold digit at h; have := of_decide_eq_true h; omega, by unfold digit at h; have := of_decide_eq_true h; omega⟩
theorem natS_fig {f : L} (h : figsB f = true) (h3 : f.length ≤ 3) : tl (natS (dnum f)) = f := by
  unfold figsB at h
  rw [Bool.and_eq_true, Bool.and_eq_true, Bool.or_eq_true, decide_eq_true_eq, decide_eq_true_eq, List.all_eq_true] at h
  obtain ⟨h0, h1, h2⟩ := h
  match f, h0, h1, h2, h3 with
  | [], h0, _, _, _ => cases h0
  | [a], _, h1, _, _ =>
    obtain ⟨a, ha, rfl⟩ := dig_ex (h1 a (by simp))
    rw [show dnum [48 + a] = a by simp [dnum, dnum.dv10], natS1 a ha]
  | [a, b], _, h1, h2, _ =>
    obtain ⟨a, ha, rfl⟩ := dig_ex (h1 a (by simp))
    obtain ⟨b, hb, rfl⟩ := dig_ex (h1 b (by simp))
    have h0 : a ≠ 0 := by
      rcases h2 with h2 | h2
      · simp at h2
        omega
      · simp at h2
    rw [show dnum [48 + a, 48 + b] = 10 * a + b by simp [dnum, dnum.dv10], natS2 a ha b hb h0]
  | [a, b, c], _, h1, h2, _ =>
    obtain ⟨a, ha, rfl⟩ := dig_ex (h1 a (by simp))
    obtain ⟨b, hb, rfl⟩ := dig_ex (h1 b (by simp))
    obtain ⟨c, hc, rfl⟩ := dig_ex (h1 c (by simp))
    have h0 : a ≠ 0 := by
      rcases h2 with h2 | h2
      · simp at h2
        omega
      · simp at h2
    rw [show dnum [48 + a, 48 + b, 48 + c] = 10 * (10 * a + b) + c by simp [dnum, dnum.dv10], natS3 a ha b hb c hc h0]
  | _ :: _ :: _ :: _ :: _, _, _, _, h3 => simp at h3
theorem tl_pl (c v : Nat) : tl (pl c v) = c :: tl (natS v) := by
  unfold pl
  show (Str.append _ _).cps.toList = _
  simp [Str.append, tl, one]
theorem pl_of {z : Str} {c : Nat} {f : L} (e : tl z = c :: f) (h : figsB f = true) (h3 : f.length ≤ 3) : pl c (dnum f) = z := tl_inj (by rw [tl_pl, natS_fig h h3, e])
theorem isReg_ex {r : Nat} {d : D} (h : isReg r d = true) : ∃ z a, d = .str z ∧ a < 10 ∧ a < r ∧ tl z = [114, 48 + a] := by
  match d, h with
  | .str z, h =>
    have h : regL r (tl z) = true := h
    unfold regL at h
    split at h
    · rename_i c e
      rw [Bool.and_eq_true, decide_eq_true_eq] at h
      obtain ⟨a, ha, rfl⟩ := dig_ex h.1
      exact ⟨z, a, rfl, ha, by omega, e⟩
    · cases h
theorem figs1 {a : Nat} (h : a < 10) : figsB [48 + a] = true := by
  have e : digit (48 + a) = true := decide_eq_true (by omega)
  simp [figsB, e]
theorem regAt_enc {r : Nat} {l : L} {n : Nat} {d : D} (hd : isReg r d = true) (h : At l n (encReg d)) : regAt l n = some (d, n + 4) ∧ (encReg d).length = 4 := by
  obtain ⟨z, a, rfl, ha, hr, e⟩ := isReg_ex hd
  have e2 : encReg (.str z) = bdig 4 a := by
    show bdig 4 (dnum ((tl z).drop 1)) = _
    rw [e]
    simp [dnum, dnum.dv10]
  rw [e2] at h ⊢
  refine ⟨?_, K82.bdig_len _ _⟩
  unfold regAt
  rw [digAt_bdig h (by omega)]
  show some (PyData.str (pl 114 a), n + 4) = _
  have e3 := pl_of e (figs1 ha) (by simp)
  rw [show dnum [48 + a] = a by simp [dnum, dnum.dv10]] at e3
  rw [e3]
theorem regsN_enc {r : Nat} {l : L} : ∀ (ds : List D) (n : Nat), ds.all (isReg r) = true → At l n (ds.flatMap encReg) → regsN l ds.length n = some (ds, n + (ds.flatMap encReg).length)
  | [], n, _, _ => rfl
  | d :: ds, n, hd, h => by
    rw [List.all_cons, Bool.and_eq_true] at hd
    rw [List.flatMap_cons] at h ⊢
    obtain ⟨h1, h2⟩ := h.app
    obtain ⟨e1, e2⟩ := regAt_enc hd.1 h1
    have ih := regsN_enc ds (n + 4) hd.2 (e2 ▸ h2)
    show (regAt l n).bind _ = _
    rw [e1]
    show (regsN l ds.length (n + 4)).map _ = _
    rw [ih, List.length_append, e2, Nat.add_assoc]
    rfl
theorem namAt_enc {l : L} : ∀ (z : L) (f n : Nat) (acc : L), z.length < f → z.all K1.small = true → At l n (z.flatMap (fun c => bdig 5 (c - 96)) ++ [48, 48, 48, 48, 48]) → namAt l f n acc = some (.str (mk (acc ++ z)), n + (z.flatMap (fun c => bdig 5 (c - 96)) ++ [48, 48, 48, 48, 48]).length)
  | [], f + 1, n, acc, _, _, h => by
    have e := digAt_bdig (k := 5) (v := 0) h (by decide)
    unfold namAt
    rw [e]
    simp
  | c :: z, f + 1, n, acc, hf, hz, h => by
    rw [List.all_cons, Bool.and_eq_true] at hz
    have hc : 97 ≤ c ∧ c ≤ 122 := of_decide_eq_true hz.1
    rw [List.flatMap_cons, List.append_assoc] at h
    obtain ⟨h1, h2⟩ := h.app
    rw [K82.bdig_len] at h2
    have e := digAt_bdig h1 (show c - 96 < 2 ^ 5 by omega)
    have ih := namAt_enc z f (n + 5) (acc ++ [96 + (c - 96)]) (by simp at hf; omega) hz.2 h2
    unfold namAt
    rw [e]
    show (if c - 96 = 0 then _ else if c - 96 > 26 then none else namAt l f (n + 5) (acc ++ [96 + (c - 96)])) = _
    rw [if_neg (by omega), if_neg (by omega), ih, show 96 + (c - 96) = c by omega, List.append_assoc]
    simp [K82.bdig_len, Nat.add_assoc]
theorem isLeap_ex {d : D} (h : isLeap d = true) : ∃ w i, d = .tuple [.str w, .int i] ∧ ((w = "short" ∧ -128 ≤ i ∧ i ≤ 127) ∨ (w = "long" ∧ -2147483648 ≤ i ∧ i ≤ 2147483647)) := by
  unfold isLeap at h
  split at h
  · rename_i w i
    rw [Bool.and_eq_true, Bool.or_eq_true, decide_eq_true_eq, decide_eq_true_eq, decide_eq_true_eq] at h
    obtain ⟨h1, h2⟩ := h
    refine ⟨w, i, rfl, ?_⟩
    rcases h1 with rfl | rfl
    · rw [show halfOf "short" = 128 from by decide +kernel] at h2
      exact .inl ⟨rfl, by omega, by omega⟩
    · rw [show halfOf "long" = 2147483648 from by decide +kernel] at h2
      exact .inr ⟨rfl, by omega, by omega⟩
  · cases h
theorem leap_back8 {i : Int} (h1 : -128 ≤ i) (h2 : i ≤ 127) : leapN 8 i < 2 ^ 8 ∧ leapV 8 (leapN 8 i) = i := by
  unfold leapN leapV
  rw [show (2 : Nat) ^ (8 - 1) = 128 from rfl, show (2 : Int) ^ 8 = 256 from rfl, show (2 : Nat) ^ 8 = 256 from rfl]
  by_cases h : 0 ≤ i
  · rw [if_pos h]
    refine ⟨by omega, ?_⟩
    rw [if_pos (by omega)]
    omega
  · rw [if_neg h]
    refine ⟨by omega, ?_⟩
    rw [if_neg (by omega)]
    omega
theorem leap_back32 {i : Int} (h1 : -2147483648 ≤ i) (h2 : i ≤ 2147483647) : leapN 32 i < 2 ^ 32 ∧ leapV 32 (leapN 32 i) = i := by
  unfold leapN leapV
  rw [show (2 : Nat) ^ (32 - 1) = 2147483648 from rfl, show (2 : Int) ^ 32 = 4294967296 from rfl, show (2 : Nat) ^ 32 = 4294967296 from rfl]
  by_cases h : 0 ≤ i
  · rw [if_pos h]
    refine ⟨by omega, ?_⟩
    rw [if_pos (by omega)]
    omega
  · rw [if_neg h]
    refine ⟨by omega, ?_⟩
    rw [if_neg (by omega)]
    omega
theorem isSlot_ex {d : D} (h : isSlot d = true) : ∃ z f, d = .str z ∧ tl z = 115 :: f ∧ figsB f = true ∧ f.length ≤ 3 := by
  match d, h with
  | .str z, h =>
    have h : slotL (tl z) = true := h
    unfold slotL at h
    split at h
    · rename_i f e
      rw [Bool.and_eq_true, decide_eq_true_eq] at h
      exact ⟨z, f, rfl, e, h⟩
    · cases h
theorem rdPart_enc {r : Nat} {l : L} {n : Nat} {c : Lt} {d : D} (hd : isPart r c d = true) (h : At l n (encPart c d)) : rdPart l c n = some (d, n + (encPart c d).length) := by
  cases c with
  | p =>
    obtain ⟨e1, e2⟩ := regAt_enc (r := r) hd h
    show regAt l n = some (d, n + (encReg d).length)
    rw [e1, e2]
  | n =>
    match d, hd with
    | .int i, _ =>
      show numAt l n = some (.int i, n + (enc (zig i)).length)
      unfold numAt
      rw [decAt_enc h]
      show some (PyData.int (zag (zig i)), _) = _
      rw [K82.zag_zig]
  | c =>
    by_cases hs : isSlot d = true
    · obtain ⟨z, f, rfl, e, hf, h3⟩ := isSlot_ex hs
      have e2 : encPart .c (.str z) = 49 :: enc (dnum f) := by
        show (if (tl z).head? = some 115 then 49 :: enc (dnum ((tl z).drop 1)) else 48 :: encReg (.str z)) = _
        rw [e]
        rfl
      rw [e2] at h ⊢
      obtain ⟨h1, h2⟩ := h.cons
      show copAt l n = _
      unfold copAt
      rw [if_pos h1, decAt_enc h2]
      show some (PyData.str (pl 115 (dnum f)), _) = _
      rw [pl_of e hf h3, List.length_cons]
      congr 2
      omega
    · have hr : isReg r d = true := by
        have hd : (isSlot d || isReg r d) = true := hd
        rw [Bool.or_eq_true] at hd
        exact hd.resolve_left hs
      obtain ⟨z, a, rfl, _, _, e⟩ := isReg_ex hr
      have e2 : encPart .c (.str z) = 48 :: encReg (.str z) := by
        show (if (tl z).head? = some 115 then 49 :: enc (dnum ((tl z).drop 1)) else 48 :: encReg (.str z)) = _
        rw [e]
        rfl
      rw [e2] at h ⊢
      obtain ⟨h1, h2⟩ := h.cons
      obtain ⟨e3, e4⟩ := regAt_enc hr h2
      show copAt l n = _
      unfold copAt
      rw [if_neg (by rw [h1]; decide), e3, List.length_cons, e4]
  | x =>
    match d, hd with
    | .str z, hd =>
      have hn : K1.isName z = true := hd
      have hs : (tl z).all K1.small = true := by
        unfold K1.isName at hn
        rw [Bool.and_eq_true, Bool.and_eq_true, Bool.and_eq_true] at hn
        exact hn.2.2.2
      have hl : (tl z).length < l.length + 1 := by
        have := h.len
        rw [show encPart .x (.str z) = (tl z).flatMap (fun c => bdig 5 (c - 96)) ++ [48, 48, 48, 48, 48] from rfl, List.length_append, List.length_flatMap, List.map_congr_left (fun c _ => K82.bdig_len 5 (c - 96)), List.map_const', List.sum_replicate_nat] at this
        rw [show (tl z).length = z.cps.size from rfl]
        simp at this
        omega
      show namAt l (l.length + 1) n [] = _
      rw [namAt_enc (tl z) _ n [] hl hs h, List.nil_append, mk_tl]
      rfl
  | k =>
    match d, hd with
    | .int i, hd =>
      have hi : 0 ≤ i ∧ i ≤ 2 := of_decide_eq_true hd
      show knAt l n = some (_, n + (bdig 2 i.toNat).length)
      unfold knAt
      rw [digAt_bdig h (by show i.toNat < 4; omega), K82.bdig_len]
      show some (PyData.int ((i.toNat : Nat) : Int), _) = _
      rw [Int.toNat_of_nonneg hi.1]
  | P =>
    match d, hd with
    | .tuple ds, hd =>
      have hd : (decide (ds.length ≤ 3) && ds.all (isReg r)) = true := hd
      rw [Bool.and_eq_true, decide_eq_true_eq] at hd
      obtain ⟨h1, h2⟩ := At.app (a := bdig 2 ds.length) h
      rw [K82.bdig_len] at h2
      show rgsAt l n = some (_, n + (bdig 2 ds.length ++ ds.flatMap encReg).length)
      unfold rgsAt
      rw [digAt_bdig h1 (by show ds.length < 4; omega)]
      show (regsN l ds.length (n + 2)).map _ = _
      rw [regsN_enc ds (n + 2) hd.2 h2, List.length_append, K82.bdig_len, Nat.add_assoc]
      rfl
  | l =>
    obtain ⟨w, i, rfl, ⟨rfl, h1, h2⟩ | ⟨rfl, h1, h2⟩⟩ := isLeap_ex hd
    · have e2 : encPart .l (.tuple [.str "short", .int i]) = 48 :: bdig 8 (leapN 8 i) := by
        show (if ("short" : Str) = "short" then 48 :: bdig 8 (leapN 8 i) else 49 :: bdig 32 (leapN 32 i)) = _
        rw [if_pos rfl]
      rw [e2] at h ⊢
      obtain ⟨g1, g2⟩ := h.cons
      obtain ⟨b1, b2⟩ := leap_back8 h1 h2
      show leapAt l n = _
      unfold leapAt isLong
      rw [if_neg (by rw [g1]; decide), digAt_bdig g2 b1]
      show some (PyData.tuple [.str "short", .int (leapV 8 (leapN 8 i))], _) = _
      rw [b2, List.length_cons, K82.bdig_len]
    · have e2 : encPart .l (.tuple [.str "long", .int i]) = 49 :: bdig 32 (leapN 32 i) := by
        show (if ("long" : Str) = "short" then 48 :: bdig 8 (leapN 8 i) else 49 :: bdig 32 (leapN 32 i)) = _
        rw [if_neg (by decide +kernel)]
      rw [e2] at h ⊢
      obtain ⟨g1, g2⟩ := h.cons
      obtain ⟨b1, b2⟩ := leap_back32 h1 h2
      show leapAt l n = _
      unfold leapAt isLong
      rw [if_pos (by rw [g1]; decide), digAt_bdig g2 b1]
      show some (PyData.tuple [.str "long", .int (leapV 32 (leapN 32 i))], _) = _
      rw [b2, List.length_cons, K82.bdig_len]
theorem rdPs_enc {r : Nat} {l : L} : ∀ (cs : List Lt) (ds : List D) (n : Nat), arePs r cs ds = true → At l n (encPs cs ds) → rdPs l cs n = some (ds, n + (encPs cs ds).length)
  | [], [], n, _, _ => rfl
  | c :: cs, d :: ds, n, hd, h => by
    have hd : (isPart r c d && arePs r cs ds) = true := hd
    rw [Bool.and_eq_true] at hd
    obtain ⟨h1, h2⟩ := At.app (a := encPart c d) h
    show (rdPart l c n).bind _ = _
    rw [rdPart_enc hd.1 h1]
    show (rdPs l cs (n + (encPart c d).length)).map _ = _
    rw [rdPs_enc cs ds _ hd.2 h2]
    show some (d :: ds, _) = some (d :: ds, n + (encPart c d ++ encPs cs ds).length)
    rw [List.length_append, Nat.add_assoc]
  | [], _ :: _, _, hd, _ => by cases hd
  | _ :: _, [], _, hd, _ => by cases hd
theorem tab_ix : ∀ q ∈ tab, tab[wix q.1]? = some q ∧ wix q.1 < 2 ^ 5 ∧ tab.lookup q.1 = some q.2 := by decide +kernel
theorem lookup_mem {w : Str} {ls : List Lt} : ∀ {t : List (Str × List Lt)}, t.lookup w = some ls → (w, ls) ∈ t
  | [], h => by cases h
  | (b, u) :: r, h => by
    rw [List.lookup_cons] at h
    split at h
    · rename_i e
      rw [eq_of_beq e]
      cases h
      exact List.mem_cons_self
    · exact List.mem_cons_of_mem _ (lookup_mem h)
theorem judged_ex {r : Nat} {d : D} (h : judged r d = true) : ∃ w ps ls, d = .tuple (.str w :: ps) ∧ (w, ls) ∈ tab ∧ tab.lookup w = some ls ∧ arePs r ls ps = true := by
  unfold judged at h
  split at h
  · rename_i w ps
    split at h
    · cases h
    · rename_i ls e
      rw [Bool.and_eq_true] at h
      exact ⟨w, ps, ls, rfl, lookup_mem e, e, h.1⟩
  · cases h
theorem rdI_enc {r : Nat} {l : L} {n : Nat} {d : D} (hd : judged r d = true) (h : At l n (encI d)) : rdI r l n = some (d, n + (encI d).length) := by
  obtain ⟨w, ps, ls, rfl, hm, e, ha⟩ := judged_ex hd
  obtain ⟨t1, t2, t3⟩ := tab_ix _ hm
  have e2 : encI (.tuple (.str w :: ps)) = bdig 5 (wix w) ++ encPs ls ps := by
    show bdig 5 (wix w) ++ encPs ((tab.lookup w).getD []) ps = _
    rw [e]
    rfl
  rw [e2] at h ⊢
  obtain ⟨h1, h2⟩ := h.app
  rw [K82.bdig_len] at h2
  unfold rdI
  rw [digAt_bdig h1 t2]
  show (match tab[wix w]? with | none => none | some (w, ls) => (rdPs l ls (n + 5)).bind _) = _
  rw [t1]
  show (rdPs l ls (n + 5)).bind _ = _
  rw [rdPs_enc ls ps _ ha h2]
  show (if judged r (.tuple (.str w :: ps)) = true then some (PyData.tuple (.str w :: ps), n + 5 + (encPs ls ps).length) else none) = _
  rw [if_pos hd, List.length_append, K82.bdig_len, Nat.add_assoc]
end K83

set_option Elab.async false
set_option linter.all false
set_option maxRecDepth 100000
set_option maxHeartbeats 4000000
namespace SA
open PySem PySem.Spec PyProof.Rows L2
/-! ### data whose objects stay -/
mutual
inductive Dn (n : Addr → Prop) (H : Hp) : V → PyData → Prop
  | non : Dn n H .non .none
  | bl (b : Bool) : Dn n H (.bl b) (.bool b)
  | int (i : Int) : Dn n H (.int i) (.int i)
  | str (x : Str) : Dn n H (.str x) (.str x)
  | lst {a : Addr} {xs : List V} {ds : List PyData} : n a → H a = some (.lst xs) → DnAll n H xs ds → Dn n H (.ref a) (.list ds)
  | tup {a : Addr} {xs : List V} {ds : List PyData} : n a → H a = some (.tup xs) → DnAll n H xs ds → Dn n H (.ref a) (.tuple ds)
  | dct {a : Addr} : n a → H a = some (.dK []) → Dn n H (.ref a) (.dict [])
inductive DnAll (n : Addr → Prop) (H : Hp) : List V → List PyData → Prop
  | nil : DnAll n H [] []
  | cons {v : V} {vs : List V} {d : PyData} {ds : List PyData} : Dn n H v d → DnAll n H vs ds → DnAll n H (v :: vs) (d :: ds)
end
mutual
theorem Dn.dx {K : PySem.W.Frag} {n : Addr → Prop} {H : Hp} : ∀ {v : V} {d : PyData}, Dn n H v d → Dx K H v d
  | _, _, .non => .non
  | _, _, .bl b => .bl b
  | _, _, .int i => .int i
  | _, _, .str x => .str x
  | _, _, .lst _ h2 h3 => .lst (.of h2) h3.dx
  | _, _, .tup _ h2 h3 => .tup (.of h2) h3.dx
  | _, _, .dct _ h2 => .dct h2 rfl .nil
theorem DnAll.dx {K : PySem.W.Frag} {n : Addr → Prop} {H : Hp} : ∀ {vs : List V} {ds : List PyData}, DnAll n H vs ds → DxAll K H vs ds
  | _, _, .nil => .nil
  | _, _, .cons h1 h2 => .cons h1.dx h2.dx
end
mutual
theorem Dn.keep {n m : Addr → Prop} {H H' : Hp} (k : ∀ b o, n b → H b = some o → H' b = some o) (nm : ∀ b, n b → m b) : ∀ {v : V} {d : PyData}, Dn n H v d → Dn m H' v d
  | _, _, .non => .non
  | _, _, .bl b => .bl b
  | _, _, .int i => .int i
  | _, _, .str x => .str x
  | _, _, .lst h1 h2 h3 => .lst (nm _ h1) (k _ _ h1 h2) (DnAll.keep k nm h3)
  | _, _, .tup h1 h2 h3 => .tup (nm _ h1) (k _ _ h1 h2) (DnAll.keep k nm h3)
  | _, _, .dct h1 h2 => .dct (nm _ h1) (k _ _ h1 h2)
theorem DnAll.keep {n m : Addr → Prop} {H H' : Hp} (k : ∀ b o, n b → H b = some o → H' b = some o) (nm : ∀ b, n b → m b) : ∀ {vs : List V} {ds : List PyData}, DnAll n H vs ds → DnAll m H' vs ds
  | _, _, .nil => .nil
  | _, _, .cons h1 h2 => .cons (Dn.keep k nm h1) (DnAll.keep k nm h2)
end
abbrev anyA : Addr → Prop := fun _ => True
abbrev notA (d w : Addr) : Addr → Prop := fun b => b ≠ d ∧ b ≠ w
theorem Dn.same {n : Addr → Prop} {H H' : Hp} {v : V} {d : PyData} (h : Dn n H v d) (s : Same H H') : Dn n H' v d := h.keep (fun b o _ e => s b o e) fun _ h => h
theorem DnAll.same {n : Addr → Prop} {H H' : Hp} {v : List V} {d : List PyData} (h : DnAll n H v d) (s : Same H H') : DnAll n H' v d := h.keep (fun b o _ e => s b o e) fun _ h => h
theorem Dn.any {n : Addr → Prop} {H : Hp} {v : V} {d : PyData} (h : Dn n H v d) : Dn anyA H v d := h.keep (fun _ _ _ e => e) fun _ _ => trivial
theorem DnAll.any {n : Addr → Prop} {H : Hp} {v : List V} {d : List PyData} (h : DnAll n H v d) : DnAll anyA H v d := h.keep (fun _ _ _ e => e) fun _ _ => trivial
theorem DnAll.len {n : Addr → Prop} {H : Hp} : ∀ {vs : List V} {ds : List PyData}, DnAll n H vs ds → vs.length = ds.length
  | _, _, .nil => rfl
  | _, _, .cons _ h => by rw [List.length_cons, List.length_cons, h.len]
theorem DnAll.at {n : Addr → Prop} {H : Hp} : ∀ {vs : List V} {ds : List PyData} {i : Nat} {v : V}, DnAll n H vs ds → vs[i]? = some v → ∃ d, ds[i]? = some d ∧ Dn n H v d
  | _, _, i, _, .nil, e => by simp at e
  | _, _, 0, _, .cons h _, e => by
    obtain rfl := Option.some.inj e
    exact ⟨_, rfl, h⟩
  | _, _, i + 1, _, .cons _ h, e => h.at (i := i) e
theorem DnAll.at' {n : Addr → Prop} {H : Hp} : ∀ {vs : List V} {ds : List PyData} {i : Nat} {d : PyData}, DnAll n H vs ds → ds[i]? = some d → ∃ v, vs[i]? = some v ∧ Dn n H v d
  | _, _, i, _, .nil, e => by simp at e
  | _, _, 0, _, .cons h _, e => by
    obtain rfl := Option.some.inj e
    exact ⟨_, rfl, h⟩
  | _, _, i + 1, _, .cons _ h, e => h.at' (i := i) e
theorem DnAll.app {n : Addr → Prop} {H : Hp} : ∀ {vs vs' : List V} {ds ds' : List PyData}, DnAll n H vs ds → DnAll n H vs' ds' → DnAll n H (vs ++ vs') (ds ++ ds')
  | _, _, _, _, .nil, h => h
  | _, _, _, _, .cons h1 h2, h => .cons h1 (h2.app h)
theorem DnAll.drop {n : Addr → Prop} {H : Hp} : ∀ {vs : List V} {ds : List PyData} (i : Nat), DnAll n H vs ds → DnAll n H (vs.drop i) (ds.drop i)
  | _, _, 0, h => h
  | _, _, _ + 1, .nil => .nil
  | _, _, i + 1, .cons _ h => h.drop i
theorem DnAll.take {n : Addr → Prop} {H : Hp} : ∀ {vs : List V} {ds : List PyData} (i : Nat), DnAll n H vs ds → DnAll n H (vs.take i) (ds.take i)
  | _, _, 0, _ => .nil
  | _, _, _ + 1, .nil => .nil
  | _, _, i + 1, .cons h1 h => .cons h1 (h.take i)
def kindD : PyData → String
  | .none => "NoneType"
  | .bool _ => "bool"
  | .int _ => "int"
  | .str _ => "str"
  | .list _ => "list"
  | .tuple _ => "tuple"
  | .dict _ => "dict"
theorem Dn.kd {K : PySem.W.Frag} {n : Addr → Prop} {H : Hp} {v : V} {d : PyData} (h : Dn n H v d) : Kd K H v (kindD d) := by
  cases h with
  | non => exact .non
  | bl b => exact .bl b
  | int i => exact .int i
  | str x => exact .str x
  | lst _ h _ => exact .lst (.base (.lst h))
  | tup _ h _ => exact .tup (.base (.tup h))
  | dct _ h => exact .dct (.base (.dK h))
theorem Dn.str_of {n : Addr → Prop} {H : Hp} {v : V} {d : PyData} (h : Dn n H v d) (e : kindD d = "str") : ∃ z, v = .str z ∧ d = .str z := by
  cases h <;> first | exact ⟨_, rfl, rfl⟩ | (exfalso; simp [kindD] at e)
theorem Dn.int_of {n : Addr → Prop} {H : Hp} {v : V} {d : PyData} (h : Dn n H v d) (e : kindD d = "int") : ∃ z, v = .int z ∧ d = .int z := by
  cases h <;> first | exact ⟨_, rfl, rfl⟩ | (exfalso; simp [kindD] at e)
theorem Dn.tup_of {n : Addr → Prop} {H : Hp} {v : V} {d : PyData} (h : Dn n H v d) (e : kindD d = "tuple") : ∃ a xs ds, v = .ref a ∧ d = .tuple ds ∧ n a ∧ H a = some (.tup xs) ∧ DnAll n H xs ds := by
  cases h with
  | tup h1 h2 h3 => exact ⟨_, _, _, rfl, rfl, h1, h2, h3⟩
  | _ => simp [kindD] at e
/-- which of the strings the lower levels read -/
def asc (z : Str) : Prop := ∀ c ∈ z.cps.toList, c < 128
end SA

set_option Elab.async false
set_option linter.all false
set_option maxRecDepth 100000
set_option maxHeartbeats 4000000
namespace SA
open PySem PySem.Spec PyProof.Rows L2
/-! ### zip of a list, a tuple or a text with another -/
inductive Sd where
  | lst (a : Addr)
  | tup (a : Addr)
  | txt (x : Str)
def signs (x : Str) : List V := x.cps.toList.map fun c => .str ⟨#[c]⟩
theorem signs_len (x : Str) : (signs x).length = x.cps.size := by simp [signs]
def Sd.v : Sd → V
  | .lst a => .ref a
  | .tup a => .ref a
  | .txt x => .str x
def Sd.has (K : PySem.W.Frag) (H : Hp) : Sd → List V → Prop
  | .lst a, xs => SqL K H a xs
  | .tup a, xs => SqT K H a xs
  | .txt x, xs => xs = signs x
def Sd.src : Sd → Option Addr
  | .lst a => some a
  | .tup a => some a
  | .txt _ => none
def Sd.st (it : Addr) (i : Nat) (h : Heap) : Sd → Prop
  | .lst a => h.IsListIter it a i
  | .tup a => h.IsTupleIter it a i
  | .txt x => ∃ t, h.IsStrIter it (strIterType x) x t i
theorem Sd.st_at {S : Sd} {it : Addr} {i : Nat} {h h' : Heap} (st : S.st it i h) (k : ∀ o, h.get? it = some o → h'.get? it = some o) : S.st it i h' := by
  cases S with
  | lst a => exact Heap.IsListIter.at st k
  | tup a => exact Heap.IsTupleIter.at st k
  | txt x =>
    obtain ⟨t, o, e, r⟩ := st
    exact ⟨t, o, k o e, r⟩
theorem Sd.st_obj {S : Sd} {it : Addr} {i : Nat} {h : Heap} (st : S.st it i h) : ∃ o, h.get? it = some o ∧ ∀ v, o.data ≠ .cell v := by
  cases S with
  | lst a =>
    obtain ⟨o, e, _, d⟩ := st
    exact ⟨o, e, fun v q => by rw [d] at q; cases q⟩
  | tup a =>
    obtain ⟨o, e, _, d⟩ := st
    exact ⟨o, e, fun v q => by rw [d] at q; cases q⟩
  | txt x =>
    obtain ⟨t, o, e, _, d⟩ := st
    exact ⟨o, e, fun v q => by rw [d] at q; cases q⟩
theorem Sd.has_inj {X : Cx} {pins : List (Addr × Obj)} {σ : L2.St} {H : Hp} {s : Shared} (I : Inv X pins σ H s) {S : Sd} {xs ys : List V} (h1 : S.has X.K H xs) (h2 : S.has X.K H ys) : xs = ys := by
  cases S with
  | lst a => exact I.list_inj h1 h2
  | tup a => exact I.tuple_inj h1 h2
  | txt x => exact Eq.trans h1 (Eq.symm h2)
/-- one side of the zip, drawn from -/
theorem Sd.draws {X : Cx} {pins : List (Addr × Obj)} {σ : L2.St} {H : Hp} {s : Shared} (I : Inv X pins σ H s) (hh : X.A.handled = none) {S : Sd} {xs : List V} {it : Addr} {i : Nat} (h : S.has X.K H xs) (st : S.st it i s.heap) (hne : S.src ≠ some it) :
    ∃ (fp : List Addr) (Pt : Nat → Value → Prop) (St : Nat → Heap → Prop), Draws X.prog X.w X.A.in1 it fp xs.length Pt St ∧ St i s.heap ∧ (∀ j u v, Pt j u → xs[j]? = some v → RelV v u) ∧ (∀ j h, St j h → S.st it j h) ∧ it ∈ fp ∧ ∀ c, c ∈ fp → c = it ∨ S.src = some c := by
  cases S with
  | lst a =>
    obtain ⟨its, rv, p, _⟩ := I.list h
    have hn : a ≠ it := fun z => hne (by rw [← z]; rfl)
    have hl := rv.length
    refine ⟨[it, a], fun i v => its.toArray[i]? = some v, fun i h => h.IsListIter it a i ∧ h.IsList a its.toArray, ?_, ⟨st, p.isList⟩, fun j u v hu hv => ?_, fun j h hs => hs.1, by simp, fun c hc => ?_⟩
    · have D := Draws.list (prog := X.prog) (w := X.w) (A := X.A.in1) hh it a hn its.toArray
      rw [List.size_toArray, ← hl] at D
      exact D
    · obtain ⟨u2, hu2, ru⟩ := rv.get hv
      have hu : its.toArray[j]? = some u := hu
      have e : its[j]? = some u := by simpa using hu
      rw [e] at hu2
      rw [Option.some.inj hu2]
      exact ru
    · have hc' : c = it ∨ c = a := by simpa using hc
      exact hc'.imp id fun z => by rw [z]; rfl
  | tup a =>
    obtain ⟨its, rv, p, _⟩ := I.tuple h
    have hn : a ≠ it := fun z => hne (by rw [← z]; rfl)
    have hl := rv.length
    refine ⟨[it, a], fun i v => its.toArray[i]? = some v, fun i h => h.IsTupleIter it a i ∧ h.IsTuple a its.toArray, ?_, ⟨st, p⟩, fun j u v hu hv => ?_, fun j h hs => hs.1, by simp, fun c hc => ?_⟩
    · have D := Draws.tuple (prog := X.prog) (w := X.w) (A := X.A.in1) hh it a hn its.toArray
      rw [List.size_toArray, ← hl] at D
      exact D
    · obtain ⟨u2, hu2, ru⟩ := rv.get hv
      have hu : its.toArray[j]? = some u := hu
      have e : its[j]? = some u := by simpa using hu
      rw [e] at hu2
      rw [Option.some.inj hu2]
      exact ru
    · have hc' : c = it ∨ c = a := by simpa using hc
      exact hc'.imp id fun z => by rw [z]; rfl
  | txt x =>
    obtain ⟨t, st⟩ := st
    obtain rfl : xs = signs x := h
    refine ⟨[it], fun i v => ∃ c u, x.cps[i]? = some c ∧ v = .str ⟨#[c]⟩ u, fun i h => h.IsStrIter it (strIterType x) x t i, ?_, st, fun j u v hu hv => ?_, fun j h hs => ⟨t, hs⟩, by simp, fun c hc => .inl (by simpa using hc)⟩
    · have D := Draws.text (prog := X.prog) (w := X.w) (A := X.A.in1) hh it x t
      rw [← signs_len x] at D
      exact D
    · obtain ⟨c, k, hc, rfl⟩ : ∃ c k, x.cps[j]? = some c ∧ u = .str ⟨#[c]⟩ k := hu
      have e : (signs x)[j]? = some (.str ⟨#[c]⟩) := by
        unfold signs
        rw [List.getElem?_map, Array.getElem?_toList, hc]
        rfl
      rw [e] at hv
      rw [← Option.some.inj hv]
      exact ⟨k, rfl⟩
/-- apart -/
structure Apx (z TI TO i1 i2 : Addr) (S1 S2 : Sd) : Prop where
  TIz : TI ≠ z
  TOz : TO ≠ z
  i1z : i1 ≠ z
  i2z : i2 ≠ z
  TITO : TI ≠ TO
  TIi1 : TI ≠ i1
  TIi2 : TI ≠ i2
  TOi1 : TO ≠ i1
  TOi2 : TO ≠ i2
  i12 : i1 ≠ i2
  s1 : ∀ a, S1.src = some a → a ≠ z ∧ a ≠ TO ∧ a ≠ i1 ∧ a ≠ i2
  s2 : ∀ a, S2.src = some a → a ≠ z ∧ a ≠ TO ∧ a ≠ i1 ∧ a ≠ i2
theorem Apx.sep {z TI TO i1 i2 : Addr} {S1 S2 : Sd} (D : Apx z TI TO i1 i2 S1 S2) {fp1 fp2 : List Addr} (m1 : i1 ∈ fp1) (m2 : i2 ∈ fp2) (k1 : ∀ c, c ∈ fp1 → c = i1 ∨ S1.src = some c) (k2 : ∀ c, c ∈ fp2 → c = i2 ∨ S2.src = some c) : ZipSep2 z TI TO i1 i2 fp1 fp2 where
  TIz := D.TIz
  TOz := D.TOz
  TITO := D.TITO
  TIi1 := D.TIi1
  mem1 := m1
  zf1 := fun h => (k1 _ h).elim (fun e => D.i1z e.symm) fun e => (D.s1 _ e).1 rfl
  Tf1 := fun h => (k1 _ h).elim (fun e => D.TOi1 e) fun e => (D.s1 _ e).2.1 rfl
  TIi2 := D.TIi2
  mem2 := m2
  zf2 := fun h => (k2 _ h).elim (fun e => D.i2z e.symm) fun e => (D.s2 _ e).1 rfl
  Tf2 := fun h => (k2 _ h).elim (fun e => D.TOi2 e) fun e => (D.s2 _ e).2.1 rfl
  sep1_2 := fun h => (k2 _ h).elim (fun e => D.i12 e) fun e => (D.s2 _ e).2.2.1 rfl
  sep2_1 := fun h => (k1 _ h).elim (fun e => D.i12 e.symm) fun e => (D.s1 _ e).2.2.2 rfl
def Itx (K : PySem.W.Frag) (S1 S2 : Sd) : It :=
  ⟨fun i H => ∃ (xs ys : List V) (x y : V), S1.has K H xs ∧ S2.has K H ys ∧ xs[i]? = some x ∧ ys[i]? = some y,
    fun i H v H' => ∃ T x y, v = .ref T ∧ H T = none ∧ H' = upd H T (.tup [x, y]) ∧ (∀ xs, S1.has K H xs → xs[i]? = some x) ∧ ∀ ys, S2.has K H ys → ys[i]? = some y,
    fun i H => ∃ xs ys : List V, S1.has K H xs ∧ S2.has K H ys ∧ i ≤ xs.length ∧ i ≤ ys.length ∧ (i = xs.length ∨ i = ys.length)⟩
theorem turn_zipX {P : Program} {w : World} {K : PySem.W.Frag} {elts : List Expr} {kk : Nat} {tpos : Pos} {S1 S2 : Sd} {z TI TO i1 i2 : Addr} (D : Apx z TI TO i1 i2 S1 S2) :
    Turn P w K (.Tuple elts kk tpos) (Itx K S1 S2) [z, TI, TO, i1, i2] z (fun i h => IsZip h z TI TO .none ∧ IsPair h TI (.ref i1) (.ref i2) ∧ (∃ x y, IsPair h TO x y) ∧ S1.st i1 i h ∧ S2.st i2 i h) where
  mem := by simp
  obj := fun i h st c hc => by
    obtain ⟨hz, hTI, ⟨x, y, hTO⟩, h1, h2⟩ := st
    have e' : c = z ∨ c = TI ∨ c = TO ∨ c = i1 ∨ c = i2 := by simpa using hc
    rcases e' with q | q | q | q | q
    · rw [q]; exact ⟨_, hz, fun v q => nomatch q⟩
    · rw [q]; exact ⟨_, hTI, fun v q => nomatch q⟩
    · rw [q]; exact ⟨_, hTO, fun v q => nomatch q⟩
    · rw [q]; exact Sd.st_obj h1
    · rw [q]; exact Sd.st_obj h2
  keep := fun i h h' st k => by
    obtain ⟨hz, hTI, ⟨x, y, hTO⟩, h1, h2⟩ := st
    exact ⟨k z (by simp) _ hz, k TI (by simp) _ hTI, ⟨x, y, k TO (by simp) _ hTO⟩, Sd.st_at h1 fun o q => k i1 (by simp) o q, Sd.st_at h2 fun o q => k i2 (by simp) o q⟩
  item := by
    intro X hP hw hK hc i pins s σ H E I hf st hg
    subst hP hw hK
    obtain ⟨hz, hTI, ⟨x0, y0, hTO⟩, h1, h2⟩ := st
    obtain ⟨xs, ys, x, y, hqx, hqy, hx, hy⟩ := hg
    obtain ⟨fp1, P1, St1, D1, t1, r1, b1, m1, k1⟩ := Sd.draws I (I.ok.hd hc) hqx h1 fun e => (D.s1 _ e).2.2.1 rfl
    obtain ⟨fp2, P2, St2, D2, t2, r2, b2, m2, k2⟩ := Sd.draws I (I.ok.hd hc) hqy h2 fun e => (D.s2 _ e).2.2.2 rfl
    have hzl : z < s.heap.objs.size := Heap.lt_size hz
    have lx : i < xs.length := (List.getElem?_eq_some_iff.mp hx).1
    have ly : i < ys.length := (List.getElem?_eq_some_iff.mp hy).1
    refine wpAny_pyNext_zipD2_item (D.sep m1 m2 k1 k2) D1 D2 hz hTI hTO t1 t2 lx ly fun u u2 h' tk p1 p2 z' TO' h1' h2' hT hsz hk => ?_
    have ru := r1 _ _ _ p1 hx
    have ru2 := r2 _ _ _ p2 hy
    have h1' := b1 _ _ h1'
    have h2' := b2 _ _ h2'
    refine ⟨_, rfl, wpAny_letOwnedTupleGo_zip (s := { s with heap := h', toks := tk }) z' fun h'' z'' sb => ?_⟩
    have hT2 : h''.get? s.heap.objs.size = some { cls := .type "tuple", data := .seq #[u, u2] } := (sb.2 _ (Nat.ne_of_gt hzl)).trans hT
    have new : ObjOk X.prog X.w (upd H s.heap.objs.size (.tup [x, y])) h'' s.heap.objs.size (.tup [x, y]) :=
      ⟨by show 2 ≤ sizeLine; decide, [u, u2], .cons ru (.cons ru2 .nil), ⟨_, hT2, rfl, _, rfl⟩⟩
    have I1 : Inv X pins σ (upd H s.heap.objs.size (.tup [x, y])) { s with heap := h'', toks := tk } :=
      I.turnedNew (t' := tk) (ch := [z, TI, TO, i1, i2]) (fun c o hb q => (sb.2 c (fun q' => hb (by simp [q']))).trans (hk c o (fun q' => hb (by simp [q'])) (fun q' => hb (by simp [q'])) (fun q' => hb (by simp [q'])) (fun q' => hb (by simp [q'])) q)) hf (Nat.le_refl _) new
    have l1 : i1 < s.heap.objs.size := by
      obtain ⟨o, e, _⟩ := Sd.st_obj h1
      exact Heap.lt_size e
    have l2 : i2 < s.heap.objs.size := by
      obtain ⟨o, e, _⟩ := Sd.st_obj h2
      exact Heap.lt_size e
    refine ⟨.ref s.heap.objs.size, _, I1, rfl, ⟨_, x, y, rfl, I.hok.fresh (Nat.le_refl _), rfl, fun l hl => by rw [Sd.has_inj I hl hqx]; exact hx, fun l hl => by rw [Sd.has_inj I hl hqy]; exact hy⟩, ⟨z'', ?_, ⟨u, u2, ?_⟩, ?_, ?_⟩, fun c hcm => ?_⟩
    · exact (sb.2 _ D.TIz).trans (hk _ _ D.TIz D.TITO D.TIi1 D.TIi2 hTI)
    · exact (sb.2 _ D.TOz).trans TO'
    · exact Sd.st_at h1' fun o q => (sb.2 _ D.i1z).trans q
    · exact Sd.st_at h2' fun o q => (sb.2 _ D.i2z).trans q
    · have hlt : c < s.heap.objs.size := by
        have e' : c = z ∨ c = TI ∨ c = TO ∨ c = i1 ∨ c = i2 := by simpa using hcm
        rcases e' with q | q | q | q | q
        · rw [q]; exact hzl
        · rw [q]; exact Heap.lt_size hTI
        · rw [q]; exact Heap.lt_size hTO
        · rw [q]; exact l1
        · rw [q]; exact l2
      rw [upd_ne (Nat.ne_of_lt hlt)]
      exact (hf c hcm).1
  done := by
    intro X hP hw hK hc i pins s σ H E I hf st hg
    subst hP hw hK
    obtain ⟨hz, hTI, ⟨x0, y0, hTO⟩, h1, h2⟩ := st
    obtain ⟨xs, ys, hqx, hqy, hl1, hl2, hend⟩ := hg
    obtain ⟨fp1, P1, St1, D1, t1, r1, b1, m1, k1⟩ := Sd.draws I (I.ok.hd hc) hqx h1 fun e => (D.s1 _ e).2.2.1 rfl
    obtain ⟨fp2, P2, St2, D2, t2, r2, b2, m2, k2⟩ := Sd.draws I (I.ok.hd hc) hqy h2 fun e => (D.s2 _ e).2.2.2 rfl
    exact wpAny_pyNext_zipD2_end (D.sep m1 m2 k1 k2) D1 D2 hz hTI hTO t1 t2 hl1 hl2 hend fun h' tk hk => ⟨rfl, I.turnedL (t' := tk) (ch := [z, TI, TO, i1, i2]) (fun c o hb q =>
      hk c o (fun q' => hb (by simp [q'])) (fun q' => hb (by simp [q'])) (fun q' => hb (by simp [q'])) (fun q' => hb (by simp [q'])) q) hf⟩
  self := fun A i s Q E st h => wpAny_pyIter_zip st.1 h
/-- a side's iterator begins -/
theorem Sd.begins {X : Cx} {pins : List (Addr × Obj)} {σ : L2.St} {H : Hp} {s : Shared} (I : Inv X pins σ H s) {S : Sd} {xs : List V} {u : Value} (h : S.has X.K H xs) (r : RelV S.v u) :
    ∃ (o : Obj) (B : Heap → Prop), Begins u o B ∧ B s.heap ∧ (∀ it h, h.get? it = some o → S.st it 0 h) ∧ ∀ a, S.src = some a → a < s.heap.objs.size := by
  cases S with
  | lst a =>
    obtain rfl : u = .ref a := r
    obtain ⟨its, rv, p, _⟩ := I.list h
    refine ⟨_, _, begins_list a its.toArray, p.isList, fun it h e => ⟨_, e, rfl, rfl⟩, fun b e => ?_⟩
    rw [← Option.some.inj e]
    exact p.lt
  | tup a =>
    obtain rfl : u = .ref a := r
    obtain ⟨its, rv, p, _⟩ := I.tuple h
    refine ⟨_, _, begins_tuple a its.toArray, p, fun it h e => ⟨_, e, rfl, rfl⟩, fun b e => ?_⟩
    rw [← Option.some.inj e]
    obtain ⟨_, e2, _⟩ := p
    exact Heap.lt_size e2
  | txt x =>
    obtain ⟨t, rfl⟩ := r
    exact ⟨_, _, begins_text x t, trivial, fun it h e => ⟨t, _, e, rfl, rfl⟩, fun b e => by cases e⟩
def iZipX (K : PySem.W.Frag) (ta : TA) : TI := fun σ H R => ta σ H fun vs H1 => ∃ (S1 S2 : Sd) (xs ys : List V), vs = [S1.v, S2.v] ∧ S1.has K H1 xs ∧ S2.has K H1 ys ∧ R (Itx K S1 S2) H1
theorem pi_zipX {X : Cx} {e e2 : Expr} {ta : TA} {p pos tpos : Pos} {elts : List Expr} {kk : Nat} (hg : Gl X "zip") (hm : X.mg "zip" = none) (ha : PA X [e, e2] ta)
    (hs : starEach [e, e2] X.env = (false, eval e X.env) :: starEach [e2] X.env := by rfl) (hpl : (backTo pos (starEach [e2] X.env)).any (·.1) = false := by rfl) :
    PI X (.Tuple elts kk tpos) (.Call (.Name "zip" p) [e, e2] [] pos) (iZipX X.K ta) := by
  refine ⟨fun pins s σ H R I h => ?_⟩
  refine Call_ (ld_blt I hg hm PyProof.Rows.boot_zip (PyProof.Rows.callWith_type1 (thn (ha.run pos pins s σ H _ I h) fun us s1 ⟨vs, H1, I1, r1, q1⟩ => ?_) hs hpl))
  obtain ⟨S1, S2, xs, ys, ex, hqx, hqy, q⟩ := q1
  subst ex
  cases r1 with
  | cons r rr =>
    cases rr with
    | cons r' rr =>
      cases rr
      obtain ⟨o1, B1, b1, c1, d1, s1l⟩ := Sd.begins I1 hqx r
      obtain ⟨o2, B2, b2, c2, d2, s2l⟩ := Sd.begins I1 hqy r'
      refine zip_begins2 b1 b2 c1 c2 fun h' hz hTI hTO h1 h2 hsz hk => wpAny_pyIter_zip hz ?_
      have I2 : Inv X pins σ H1 { s1 with heap := h' } := I1.kept (t' := s1.toks) hk
      refine ⟨s1.heap.objs.size + 4, [s1.heap.objs.size + 4, s1.heap.objs.size + 2, s1.heap.objs.size + 3, s1.heap.objs.size, s1.heap.objs.size + 1], _, _, H1, rfl, I2, turn_zipX ?_, ⟨hz, hTI, ⟨_, _, hTO⟩, d1 _ _ h1, d2 _ _ h2⟩, fun c hcm => ?_, q⟩
      · have n : ∀ {a b : Nat}, a ≠ b → (s1.heap.objs.size + a : Addr) ≠ s1.heap.objs.size + b := fun h e => h (Nat.add_left_cancel e)
        have n0 : ∀ {b : Nat}, 0 ≠ b → (s1.heap.objs.size : Addr) ≠ s1.heap.objs.size + b := fun h e => by
          have : s1.heap.objs.size = s1.heap.objs.size + _ := e
          omega
        exact ⟨n (by decide), n (by decide), n0 (by decide), n (by decide), n (by decide), (n0 (by decide)).symm, n (by decide), (n0 (by decide)).symm, n (by decide), n0 (by decide),
          fun a e => ⟨Nat.ne_of_lt (Nat.lt_of_lt_of_le (s1l a e) (Nat.le_add_right _ _)), Nat.ne_of_lt (Nat.lt_of_lt_of_le (s1l a e) (Nat.le_add_right _ _)), Nat.ne_of_lt (s1l a e), Nat.ne_of_lt (Nat.lt_of_lt_of_le (s1l a e) (Nat.le_add_right _ _))⟩,
          fun a e => ⟨Nat.ne_of_lt (Nat.lt_of_lt_of_le (s2l a e) (Nat.le_add_right _ _)), Nat.ne_of_lt (Nat.lt_of_lt_of_le (s2l a e) (Nat.le_add_right _ _)), Nat.ne_of_lt (s2l a e), Nat.ne_of_lt (Nat.lt_of_lt_of_le (s2l a e) (Nat.le_add_right _ _))⟩⟩
      · have e' : c = s1.heap.objs.size + 4 ∨ c = s1.heap.objs.size + 2 ∨ c = s1.heap.objs.size + 3 ∨ c = s1.heap.objs.size ∨ c = s1.heap.objs.size + 1 := by simpa using hcm
        have hle : s1.heap.objs.size ≤ c := by
          rcases e' with z | z | z | z | z
          · rw [z]; exact Nat.le_add_right _ _
          · rw [z]; exact Nat.le_add_right _ _
          · rw [z]; exact Nat.le_add_right _ _
          · rw [z]; exact Nat.le_refl _
          · rw [z]; exact Nat.le_add_right _ _
        exact I1.fpOk hle (I1.hok.fresh hle)
theorem walk_zipX {K : PySem.W.Frag} {S1 S2 : Sd} {xs ys : List V} {n : Nat} (hn : n = min xs.length ys.length) : Walk (Itx K S1 S2) n (fun H => S1.has K H xs ∧ S2.has K H ys) (YPair (fun i => xs[i]?) (fun i => ys[i]?)) := by
  subst hn
  refine ⟨fun i _ hi q => ?_, fun _ q => ⟨xs, ys, q.1, q.2, by omega, by omega, by omega⟩, fun i H v H' _ q y => ?_⟩
  · have h1 : i < xs.length := by omega
    have h2 : i < ys.length := by omega
    exact ⟨xs, ys, xs[i], ys[i], q.1, q.2, by simp [h1], by simp [h2]⟩
  · obtain ⟨T, x, z, h1, h2, h3, h4, h5⟩ := y
    exact ⟨T, x, z, h1, h2, h3, h4 xs q.1, h5 ys q.2⟩
end SA

set_option Elab.async false
set_option linter.all false
set_option maxRecDepth 100000
set_option maxHeartbeats 4000000
namespace SA
open PySem PySem.Spec PyProof.Rows L2
/-! ### a dict of the top, as data -/
structure GDt (K : PySem.W.Frag) (w : World) (d : Addr) (kvs : List (Str × V)) : Prop where
  D : ∃ es n, KDict K w d es n
  no : ∀ z, kvs.lookup z = none → PySem.W.nsIn K d z = some none
  yes : ∀ z v, kvs.lookup z = some v → ∃ u, PySem.W.nsIn K d z = some (some u) ∧ RelV v u
theorem GDt.kd {K : PySem.W.Frag} {w : World} {d : Addr} {kvs : List (Str × V)} (G : GDt K w d kvs) {z : Str} {v : V} (h : kvs.lookup z = some v) : KDct K w d z v := by
  obtain ⟨es, n, D⟩ := G.D
  obtain ⟨u, e, r⟩ := G.yes z v h
  exact ⟨es, n, u, D.at_, D.lit, e, r⟩
theorem GDt.is {K : PySem.W.Frag} {w : World} {d : Addr} {kvs : List (Str × V)} (G : GDt K w d kvs) (z : Str) : ∃ r, PySem.W.nsIn K d z = some r ∧ r.isSome = (kvs.lookup z).isSome := by
  match h : kvs.lookup z with
  | none => exact ⟨none, G.no z h, rfl⟩
  | some v =>
    obtain ⟨u, e, _⟩ := G.yes z v h
    exact ⟨_, e, rfl⟩
theorem keyOf_none {P : Params} {z : Str} : ∀ {l : List DictEntry} {ks : List Str}, l.map He.keyOf = He.keysIn P ks → z ∉ ks → l.find? (·.key.isStr z) = none ∧ l.any (·.refKey) = false
  | [], _, _, _ => ⟨rfl, rfl⟩
  | e :: r, [], h, _ => by cases h
  | e :: r, k :: ks, h, hz => by
    have h1 : He.keyOf e :: r.map He.keyOf = some (k, PyData.keyHash P k) :: He.keysIn P ks := h
    injection h1 with h2 h3
    obtain ⟨i1, i2⟩ := keyOf_none (z := z) h3 fun m => hz (List.mem_cons_of_mem _ m)
    have hk : ∃ t, e.key = .str k t := by
      unfold He.keyOf at h2
      split at h2
      · rename_i x t q
        have h4 := Option.some.inj h2
        obtain ⟨h5, _⟩ := Prod.mk.inj h4
        exact ⟨t, by rw [q, h5]⟩
      · cases h2
    obtain ⟨t, hk⟩ := hk
    have n1 : e.key.isStr z = false := by
      rw [hk]
      show (k == z) = false
      rw [beq_eq_false_iff_ne]
      intro q
      exact hz (by rw [← q]; exact List.mem_cons_self)
    have n2 : e.refKey = false := by
      show e.key.isRef = false
      rw [hk]
      rfl
    rw [List.find?_cons, n1, List.any_cons, n2, i1, i2]
    exact ⟨rfl, rfl⟩
theorem gdt_of {K : PySem.W.Frag} {w : World} {d : Addr} {kvs : List (Str × He.Dv)} (h1 : He.dicW K d = some (He.keysIn w.params (kvs.map Prod.fst))) (h2 : He.valsB K d kvs = true) : GDt K w d (kvs.map fun q => (q.1, q.2.v K)) where
  D := He.dicW_ok h1
  no := fun z hz => by
    obtain ⟨es, n, D⟩ := He.dicW_ok h1
    have hz2 : z ∉ kvs.map Prod.fst := by
      intro m
      clear h1 h2 D
      induction kvs with
      | nil => cases m
      | cons q r ih =>
        rw [List.map_cons, List.lookup_cons] at hz
        rw [List.map_cons, List.mem_cons] at m
        split at hz
        · cases hz
        · rename_i e
          rcases m with rfl | m
          · simp at e
          · exact ih hz m
    unfold He.dicW at h1
    rw [D.at_] at h1
    have e : es.toList.map He.keyOf = He.keysIn w.params (kvs.map Prod.fst) := by
      have h3 : (match decide (("dict" : String) = "dict") && ((#[] : Array (Option Value)).isEmpty && !(d == sysModules)) with
        | true => some (es.toList.map He.keyOf)
        | false => none) = some (He.keysIn w.params (kvs.map Prod.fst)) := h1
      rw [D.low] at h3
      exact Option.some.inj h3
    obtain ⟨a, b⟩ := keyOf_none e hz2
    unfold PySem.W.nsIn
    rw [D.at_]
    show (match es.toList.find? (·.key.isStr z) with | some e => some (some e.val) | none => if es.toList.any (·.refKey) then none else some none) = some none
    rw [a, b]
    rfl
  yes := fun z v hz => by
    have hm : ∃ q ∈ kvs, q.1 = z ∧ q.2.v K = v := by
      clear h1 h2
      induction kvs with
      | nil => cases hz
      | cons q r ih =>
        rw [List.map_cons, List.lookup_cons] at hz
        split at hz
        · rename_i e
          exact ⟨q, List.mem_cons_self, (eq_of_beq e).symm, Option.some.inj hz⟩
        · obtain ⟨q2, m, e⟩ := ih hz
          exact ⟨q2, List.mem_cons_of_mem _ m, e⟩
    obtain ⟨q, m, rfl, rfl⟩ := hm
    exact He.valsB_ok h2 m
end SA

set_option Elab.async false
set_option linter.all false
set_option maxRecDepth 100000
set_option maxHeartbeats 4000000
/-! ### dict(zip(t, u)), t and u tuples -/
namespace SA
open PySem PySem.Spec PyProof.Rows L2
section
variable {prog : Program} {w : World} {A : Around} {E : Value → Shared → Prop} {s : Shared} {z TI TO i1 i2 : Addr} {fp1 fp2 : List Addr} {n1 n2 k : Nat} {P1 P2 : Nat → Value → Prop} {St1 St2 : Nat → Heap → Prop}
theorem zh_item {T : Addr} {f : Bool} {oT : Obj} {Q : Value → Shared → Prop} (S : ZipSep2 z TI TO i1 i2 fp1 fp2) (D1 : Draws prog w A i1 fp1 n1 P1 St1) (D2 : Draws prog w A i2 fp2 n2 P2 St2)
    (ez : IsZipHeld s.heap z TI TO T f) (eT : s.heap.get? T = some oT) (eI : IsTupOf2 s.heap TI (.ref i1) (.ref i2)) (t1 : St1 k s.heap) (t2 : St2 k s.heap) (l1 : k < n1) (l2 : k < n2)
    (q : ∀ x y h' tk, P1 k x → P2 k y → IsZipHeld h' z TI TO T true → St1 (k + 1) h' → St2 (k + 1) h' → IsTupOf2 h' s.heap.objs.size x y →
      (∀ c o, c ≠ z → c ≠ i1 → c ≠ i2 → s.heap.get? c = some o → h'.get? c = some o) → Q (.ref s.heap.objs.size) { s with heap := h', toks := tk }) :
    wpAny (model prog w) A (Builtin.«zip.__next__» ⟨[.ref z], []⟩) (fun fin s' => ∃ v, fin = .done (.ret v) ∧ Q v s') E s := by
  obtain ⟨hp, g, d, tk0, os⟩ := s
  show wpAny _ _ (field (.ref z) 2 >>= _) _ _ _
  refine wpAny_bind (wpAny_field ez rfl (x := .bool false) rfl ?_)
  show wpAny _ _ (field (.ref z) 3 >>= _) _ _ _
  refine wpAny_bind (wpAny_field ez rfl (x := .ref TI) rfl (wpAny_bind (wpAny_seqItems eI rfl ?_)))
  show wpAny _ _ (Builtin.SmallTypes.ownedTupleIsFree (.ref z) >>= _) _ _ _
  refine wpAny_bind (wpAny_tupleHeld_zip ez eT fun g1 ez1 b1 => ?_)
  simp only [Bool.false_eq_true, if_false]
  refine wpAny_bind ?_
  rw [← Array.forIn_toList]
  simp only [List.forIn_cons, List.forIn_nil]
  have f1 : ∀ b ∈ fp1, b ≠ z := fun b hb e => S.zf1 (by rw [← e]; exact hb)
  have f2 : ∀ b ∈ fp2, b ≠ z := fun b hb e => S.zf2 (by rw [← e]; exact hb)
  have u1 : St1 k g1 := D1.frame _ _ _ t1 fun b hb o e => (b1.2 b (f1 b hb)).trans e
  have u2 : St2 k g1 := D2.frame _ _ _ t2 fun b hb o e => (b1.2 b (f2 b hb)).trans e
  refine wpAny_bind (wpAny_bind (wpAny_holding ?_))
  show wpAny _ _ (Builtin.SmallTypes.nextOf (.ref i1) >>= _) _ _ _
  refine wpAny_bind (D1.item k ⟨g1, g, d, tk0, os⟩ _ _ l1 u1 fun x g2 tk2 px v1 b2 => wpAny_pure (wpAny_pure ?_))
  have u3 : St2 k g2 := D2.frame _ _ _ u2 fun b hb o e => (b2.2 b (fun e' => S.sep1_2 (by rw [← e']; exact hb))).trans e
  refine wpAny_bind (wpAny_bind (wpAny_holding ?_))
  show wpAny _ _ (Builtin.SmallTypes.nextOf (.ref i2) >>= _) _ _ _
  refine wpAny_bind (D2.item k ⟨g2, g, d, tk2, os⟩ _ _ l2 u3 fun y g3 tk3 py v2 b3 => wpAny_pure (wpAny_pure (wpAny_pure ?_)))
  show wpAny _ _ (newTuple [x, y] >>= _) _ _ _
  refine wpAny_bind (wpAny_newTuple ?_)
  have v3 : St1 (k + 1) g3 := D1.frame _ _ _ v1 fun b hb o e => (b3.2 b (fun e' => S.sep2_1 (by rw [← e']; exact hb))).trans e
  have sz : g3.objs.size = hp.objs.size := by rw [b3.1, b2.1, b1.1]
  have kk : ∀ c o, c ≠ z → c ≠ i1 → c ≠ i2 → hp.get? c = some o → g3.get? c = some o := fun c o c1 c2 c3 e => (b3.2 c c3).trans ((b2.2 c c2).trans ((b1.2 c c1).trans e))
  have ez3 : IsZipHeld g3 z TI TO T true := (b3.2 z S.zi2).trans ((b2.2 z S.zi1).trans ez1)
  refine wpAny_pure ⟨_, rfl, ?_⟩
  show Q (.ref g3.objs.size) _
  have np : IsTupOf2 (g3.push { cls := .type "tuple", data := .seq #[x, y] }) g3.objs.size x y := Heap.get?_push_size _ rfl
  rw [sz] at np ⊢
  exact q x y _ _ px py (Heap.get?_push_of_some _ ez3) (D1.frame _ _ _ v3 fun b _ o e => Heap.get?_push_of_some _ e) (D2.frame _ _ _ v2 fun b _ o e => Heap.get?_push_of_some _ e) np fun c o c1 c2 c3 e => Heap.get?_push_of_some _ (kk c o c1 c2 c3 e)
theorem zh_end {T : Addr} {f : Bool} {oT : Obj} {Q : PySem.Fin → Shared → Prop} (S : ZipSep2 z TI TO i1 i2 fp1 fp2) (D1 : Draws prog w A i1 fp1 n1 P1 St1)
    (ez : IsZipHeld s.heap z TI TO T f) (eT : s.heap.get? T = some oT) (eI : IsTupOf2 s.heap TI (.ref i1) (.ref i2)) (t1 : St1 n1 s.heap)
    (q : ∀ h' e, (∀ c o, c ≠ z → c ≠ i1 → c ≠ i2 → s.heap.get? c = some o → h'.get? c = some o) → (∃ o, h'.get? e = some o ∧ o.cls = .type "StopIteration") → E (.ref e) { s with heap := h' }) :
    wpAny (model prog w) A (Builtin.«zip.__next__» ⟨[.ref z], []⟩) Q E s := by
  obtain ⟨hp, g, d, tk0, os⟩ := s
  show wpAny _ _ (field (.ref z) 2 >>= _) _ _ _
  refine wpAny_bind (wpAny_field ez rfl (x := .bool false) rfl ?_)
  show wpAny _ _ (field (.ref z) 3 >>= _) _ _ _
  refine wpAny_bind (wpAny_field ez rfl (x := .ref TI) rfl (wpAny_bind (wpAny_seqItems eI rfl ?_)))
  show wpAny _ _ (Builtin.SmallTypes.ownedTupleIsFree (.ref z) >>= _) _ _ _
  refine wpAny_bind (wpAny_tupleHeld_zip ez eT fun g1 ez1 b1 => ?_)
  simp only [Bool.false_eq_true, if_false]
  refine wpAny_bind ?_
  rw [← Array.forIn_toList]
  simp only [List.forIn_cons, List.forIn_nil]
  have f1 : ∀ b ∈ fp1, b ≠ z := fun b hb e => S.zf1 (by rw [← e]; exact hb)
  have u1 : St1 n1 g1 := D1.frame _ _ _ t1 fun b hb o e => (b1.2 b (f1 b hb)).trans e
  refine wpAny_bind (wpAny_bind (wpAny_holding ?_))
  show wpAny _ _ (Builtin.SmallTypes.nextOf (.ref i1) >>= _) _ _ _
  refine wpAny_bind (D1.done ⟨g1, g, d, tk0, os⟩ _ _ u1 fun h' e hk he => ?_)
  exact q h' e (fun c o c1 c2 _ x => hk _ _ c2 ((b1.2 c c1).trans x)) he
end
/-- zip(t, u) as what dict() takes, both of the same length -/
theorem pairArg_tt {prog : Program} {w : World} {z TI TO i1 i2 t1 t2 : Addr} {us vs : Array Value} (S : ZipSep2 z TI TO i1 i2 [i1, t1] [i2, t2]) (hn1 : t1 ≠ i1) (hn2 : t2 ≠ i2) (hTI : TI ≠ t1 ∧ TI ≠ t2) (hl : us.size = vs.size) :
    PairArg prog w "zip" z [z, TI, TO, i1, i2, t1, t2] [z, TO, i1, i2] us.size (fun i k v => us[i]? = some k ∧ vs[i]? = some v)
      (fun h => IsZip h z TI TO .none ∧ IsTupOf2 h TI (.ref i1) (.ref i2) ∧ (∃ a b, IsTupOf2 h TO a b) ∧ (h.IsTupleIter i1 t1 0 ∧ h.IsTuple t1 us) ∧ h.IsTupleIter i2 t2 0 ∧ h.IsTuple t2 vs) where
  type := fun s ok => ⟨_, ok.1, rfl⟩
  notDict := by decide
  keep := fun h h' ok kp => ⟨kp _ _ ok.1, kp _ _ ok.2.1, ok.2.2.1.elim fun a r => r.elim fun b r => ⟨a, b, kp _ _ r⟩, ⟨ok.2.2.2.1.1.at fun o e => kp _ o e, ok.2.2.2.1.2.at fun o e => kp _ o e⟩, ok.2.2.2.2.1.at fun o e => kp _ o e, ok.2.2.2.2.2.at fun o e => kp _ o e⟩
  there := fun h ok b hb => by
    obtain ⟨k1, k2, ⟨a, c, k3⟩, ⟨⟨o1, k4, _⟩, ⟨o2, k5, _⟩⟩, ⟨o3, k6, _⟩, ⟨o4, k7, _⟩⟩ := ok
    simp only [List.mem_cons, List.not_mem_nil, or_false] at hb
    rcases hb with rfl | rfl | rfl | rfl | rfl | rfl | rfl
    · exact ⟨_, k1⟩
    · exact ⟨_, k2⟩
    · exact ⟨_, k3⟩
    · exact ⟨_, k4⟩
    · exact ⟨_, k6⟩
    · exact ⟨_, k5⟩
    · exact ⟨_, k7⟩
  sub := fun b hb => by
    simp only [List.mem_cons, List.not_mem_nil, or_false] at hb ⊢
    rcases hb with rfl | rfl | rfl | rfl <;> simp
  noKeys := fun A s Q E hA ok q => getAttrOr_miss_zip ok.1 rfl rfl rfl zip_no_keys (by decide +kernel) hA q
  iter := fun A s d Q E hA ok hd hdf q => by
    obtain ⟨k1, k2, ⟨a, c, k3⟩, k4, k5⟩ := ok
    simp only [List.mem_cons, List.not_mem_nil, or_false, not_or] at hdf
    obtain ⟨dz, dI, dO, d1, d2, d3, d4⟩ := hdf
    have D1 : ∀ A : Around, A.handled = none → Draws prog w A i1 [i1, t1] us.size (fun i v => us[i]? = some v) fun i h => h.IsTupleIter i1 t1 i ∧ h.IsTuple t1 us := fun A hh => Draws.tuple hh i1 t1 hn1 us
    have D2 : ∀ A : Around, A.handled = none → Draws prog w A i2 [i2, t2] vs.size (fun i v => vs[i]? = some v) fun i h => h.IsTupleIter i2 t2 i ∧ h.IsTuple t2 vs := fun A hh => Draws.tuple hh i2 t2 hn2 vs
    refine wpAny_pyIter_zip k1 (q z [z, TO, i1, i2] (fun i h => IsTupOf2 h TI (.ref i1) (.ref i2) ∧ (h.IsTupleIter i1 t1 i ∧ h.IsTuple t1 us) ∧ (h.IsTupleIter i2 t2 i ∧ h.IsTuple t2 vs) ∧
      ((IsZip h z TI TO .none ∧ ∃ a b, IsTupOf2 h TO a b) ∨ ∃ T f oT, IsZipHeld h z TI TO T f ∧ h.get? T = some oT ∧ T ≠ z ∧ T ≠ i1 ∧ T ≠ i2 ∧ T ≠ d)) s.heap s.toks ?_ ⟨k2, k4, k5, .inl ⟨k1, a, c, k3⟩⟩ (fun _ _ e => e) fun b hb => .inl hb)
    refine ⟨fun hm => ?_, fun i g1 g2 st kp => ?_, fun i s1 Q1 E1 hi st hds q1 => ?_, fun s1 Q1 E1 st q1 => ?_⟩
    · simp only [List.mem_cons, List.not_mem_nil, or_false] at hm
      rcases hm with e | e | e | e
      · exact dz e
      · exact dO e
      · exact d1 e
      · exact d2 e
    · obtain ⟨k2, k4, k5, kz⟩ := st
      refine ⟨kp _ _ (Ne.symm dI) k2, ⟨k4.1.at fun o e => kp _ o (Ne.symm d1) e, k4.2.at fun o e => kp _ o (Ne.symm d3) e⟩, ⟨k5.1.at fun o e => kp _ o (Ne.symm d2) e, k5.2.at fun o e => kp _ o (Ne.symm d4) e⟩, ?_⟩
      rcases kz with ⟨kz, a, b, kO⟩ | ⟨T, f, oT, kz, kT, r1, r2, r3, r4⟩
      · exact .inl ⟨kp _ _ (Ne.symm dz) kz, a, b, kp _ _ (Ne.symm dO) kO⟩
      · exact .inr ⟨T, f, oT, kp _ _ (Ne.symm dz) kz, kp _ _ r4 kT, r1, r2, r3, r4⟩
    · obtain ⟨k2, k4, k5, kz⟩ := st
      have hi2 : i < vs.size := by omega
      have old : ∀ {c o}, s1.heap.get? c = some o → s1.heap.objs.size ≠ c := fun e => Nat.ne_of_gt (Heap.lt_size e)
      have m1 : s1.heap.objs.size ≠ i1 := let ⟨_, e, _⟩ := k4.1; old e
      have m2 : s1.heap.objs.size ≠ i2 := let ⟨_, e, _⟩ := k5.1; old e
      rcases kz with ⟨kz, a, b, kO⟩ | ⟨T, f, oT, kz, kT, r1, r2, r3, r4⟩
      · refine wpAny_pyNext_zipD2_item S (D1 _ hA) (D2 _ hA) kz k2 kO k4 k5 hi hi2 fun x y h' tk px py b1 b2 b3 b4 b5 b6 hk => ?_
        exact q1 s1.heap.objs.size _ _ h' tk ⟨px, py⟩ (.inl ⟨_, b5, rfl, _, rfl⟩) ⟨hk _ _ S.TIz S.TITO S.TIi1 S.TIi2 k2, b3, b4, .inr ⟨s1.heap.objs.size, false, _, b1, b5, old kz, m1, m2, Nat.ne_of_gt hds⟩⟩
          fun c o hc e => hk c o (fun x => hc (by simp [x])) (fun x => hc (by simp [x])) (fun x => hc (by simp [x])) (fun x => hc (by simp [x])) e
      · unfold pyNext
        have ty : s1.TypeIs (.ref z) "zip" := ⟨_, kz, rfl⟩
        refine wpAny_bind (wpAny_attempt (wpAny_callSpecial?_slot (name := Str.ofString "__next__") ty F.slot_zip_next (wpAny_call_entry F.slot_zip_next ty F.entry_zip_next
          (zh_item (Q := fun v s' => wpAny _ _ _ _ _ s') S (D1 _ hA) (D2 _ hA) kz kT k2 k4 k5 hi hi2 fun x y h' tk px py b1 b3 b4 b5 hk => ?_) (F.args_zip_next_1 _))))
        exact wpAny_pure (q1 s1.heap.objs.size _ _ h' tk ⟨px, py⟩ (.inl ⟨_, b5, rfl, _, rfl⟩) ⟨hk _ _ S.TIz S.TIi1 S.TIi2 k2, b3, b4, .inr ⟨T, true, oT, b1, hk _ _ r1 r2 r3 kT, r1, r2, r3, r4⟩⟩
          fun c o hc e => hk c o (fun x => hc (by simp [x])) (fun x => hc (by simp [x])) (fun x => hc (by simp [x])) e)
    · obtain ⟨k2, k4, k5, kz⟩ := st
      rcases kz with ⟨kz, a, b, kO⟩ | ⟨T, f, oT, kz, kT, r1, r2, r3, r4⟩
      · exact wpAny_pyNext_zipD2_end S (D1 _ hA) (D2 _ hA) kz k2 kO k4 k5 (Nat.le_refl _) (Nat.le_of_eq hl) (.inl rfl) fun h' tk hk => q1 h' tk fun c o hc e => hk c o (fun x => hc (by simp [x])) (fun x => hc (by simp [x])) (fun x => hc (by simp [x])) (fun x => hc (by simp [x])) e
      · unfold pyNext
        have ty : s1.TypeIs (.ref z) "zip" := ⟨_, kz, rfl⟩
        refine wpAny_bind (wpAny_attempt (wpAny_callSpecial?_slot (name := Str.ofString "__next__") ty F.slot_zip_next (wpAny_call_entry F.slot_zip_next ty F.entry_zip_next
          (zh_end S (D1 _ hA) kz kT k2 k4 fun h' e hk he => ?_) (F.args_zip_next_1 _))))
        obtain ⟨o, ho, hc⟩ := he
        exact wpAny_bind (wpAny_isInstance (T := "StopIteration") (b := true) ⟨o, ho, hc⟩ isSubtype_stop (wpAny_pure (q1 h' s1.toks fun c o hc e => hk c o (fun x => hc (by simp [x])) (fun x => hc (by simp [x])) (fun x => hc (by simp [x])) e)))
end SA

set_option Elab.async false
set_option linter.all false
set_option maxRecDepth 100000
set_option maxHeartbeats 4000000
namespace SA
open PySem PySem.Spec PyProof.Rows L2
def tDictZip (K : PySem.W.Frag) (ta : TA) : TE := fun σ H Q => ta σ H fun vs H1 => ∃ (a b : Addr) (ks : List Key) (xs : List V), vs = [.ref a, .ref b] ∧ SqT K H1 a (ks.map kV) ∧ SqT K H1 b xs ∧ ks.length = xs.length ∧ ∀ p, H1 p = none → Q (.ref p) (upd H1 p (.dK (mergeK [] (ks.zip xs))))
theorem vals_at' {i : Nat} : ∀ {xs : List V} {us : List Value} {u : Value}, Vals xs us → us[i]? = some u → ∃ x, xs[i]? = some x ∧ RelV x u := by
  induction i with
  | zero =>
    intro xs us u h e
    cases h with
    | nil => cases e
    | cons a t =>
      simp at e
      subst e
      exact ⟨_, rfl, a⟩
  | succ i ih =>
    intro xs us u h e
    cases h with
    | nil => cases e
    | cons a t =>
      simp at e
      obtain ⟨x, h1, h2⟩ := ih t e
      exact ⟨x, by simpa using h1, h2⟩
theorem kv_zip : ∀ {ks : List Key} {xs : List V} {us : List Value}, ks.length = xs.length → Vals xs us → KV (ks.zip xs) (ks.zip us)
  | [], _, _, _, _ => .nil
  | k :: ks, [], _, h, _ => by cases h
  | k :: ks, x :: xs, _, h, .cons r t => .cons ⟨rfl, r⟩ (kv_zip (by simpa using h) t)
theorem pe_dictZip {X : Cx} {e1 e2 : Expr} {ta : TA} {p p2 pos pos2 : Pos} (hg : Gl X "dict") (hm : X.mg "dict" = none) (hg2 : Gl X "zip") (hm2 : X.mg "zip" = none) (ha : PA X [e1, e2] ta) (hcalm : X.calm = true := by rfl)
    (hs : starEach [e1, e2] X.env = (false, eval e1 X.env) :: starEach [e2] X.env := by rfl) (hpl : (backTo pos2 (starEach [e2] X.env)).any (·.1) = false := by rfl) :
    PE X (.Call (.Name "dict" p) [.Call (.Name "zip" p2) [e1, e2] [] pos2] [] pos) (tDictZip X.K ta) := by
  refine ⟨fun pins s σ H Q I h => ?_⟩
  refine wpAny_Call_Name_kw (ld_blt I hg hm boot_dict ?_ (by decide) (by decide))
  refine PyProof.Rows.callWith_type1 ?_ rfl rfl
  show wpAny _ _ (spliced ((false, eval (.Call (.Name "zip" p2) [e1, e2] [] pos2) X.env) :: [])) _ _ s
  refine Calls.spliced_cons ?_
  refine Call_ (ld_blt I hg2 hm2 PyProof.Rows.boot_zip (PyProof.Rows.callWith_type1 (thn (ha.run pos2 pins s σ H _ I h) fun us s1 ⟨vs, H1, I1, r1, q1⟩ => ?_) hs hpl))
  obtain ⟨a, b, ks, xs, rfl, hka, hxb, hl, q⟩ := q1
  obtain ⟨u1, u2, rfl, ra, rb⟩ := vals2 r1
  obtain rfl : u1 = Value.ref a := ra
  obtain rfl : u2 = Value.ref b := rb
  obtain ⟨ia, va, ta1, za⟩ := I1.tuple hka
  obtain ⟨ib, vb, tb1, zb⟩ := I1.tuple hxb
  have lia := va.length
  have lib := vb.length
  rw [List.length_map] at lia
  refine zip_begins2 (begins_tuple a ia.toArray) (begins_tuple b ib.toArray) ta1 tb1 fun h' hz hTI hTO h1 h2 hsz hk => Calls.spliced_nil ?_
  have I2 : Inv X pins σ H1 { s1 with heap := h' } := I1.kept (t' := s1.toks) hk
  have n : ∀ {x y : Nat}, x ≠ y → (s1.heap.objs.size + x : Addr) ≠ s1.heap.objs.size + y := fun h e => h (Nat.add_left_cancel e)
  have n0 : ∀ {y : Nat}, 0 ≠ y → (s1.heap.objs.size : Addr) ≠ s1.heap.objs.size + y := fun h e => n h e
  have la : a < s1.heap.objs.size := let ⟨_, e, _⟩ := ta1; Heap.lt_size e
  have lb : b < s1.heap.objs.size := let ⟨_, e, _⟩ := tb1; Heap.lt_size e
  have na : ∀ y : Nat, a ≠ s1.heap.objs.size + y := fun y => Nat.ne_of_lt (Nat.lt_of_lt_of_le la (Nat.le_add_right _ _))
  have nb : ∀ y : Nat, b ≠ s1.heap.objs.size + y := fun y => Nat.ne_of_lt (Nat.lt_of_lt_of_le lb (Nat.le_add_right _ _))
  have mem2 : ∀ {c x y : Addr}, c ≠ x → c ≠ y → c ∉ [x, y] := fun h1 h2 hm => by
    simp only [List.mem_cons, List.not_mem_nil, or_false] at hm
    exact hm.elim h1 h2
  have S : ZipSep2 (s1.heap.objs.size + 4) (s1.heap.objs.size + 2) (s1.heap.objs.size + 3) s1.heap.objs.size (s1.heap.objs.size + 1) [s1.heap.objs.size, a] [s1.heap.objs.size + 1, b] :=
    ⟨n (by decide), n (by decide), n (by decide), (n0 (by decide)).symm, by simp, mem2 (n0 (by decide)).symm (na 4).symm, mem2 (n0 (by decide)).symm (na 3).symm, n (by decide), by simp, mem2 (n (by decide)) (nb 4).symm, mem2 (n (by decide)) (nb 3).symm,
      mem2 (n0 (by decide)) (nb 0).symm, mem2 (n0 (by decide)).symm (na 1).symm⟩
  have P := pairArg_tt (prog := X.prog) (w := X.w) (us := ia.toArray) (vs := ib.toArray) S (na 0) (nb 1) ⟨(na 2).symm, (nb 2).symm⟩ (by simp only [List.size_toArray]; omega)
  have kk : ∀ b o, s1.heap.get? b = some o → h'.get? b = some o := hk
  have rel : KV (ks.zip xs) (ks.zip ib) := kv_zip hl vb
  refine PySem.call_dict_pairs (knd := mixKind X.prog X.w) (kvs := ks.zip ib) P (I2.ok.hd hcalm) ⟨hz, hTI, ⟨_, _, hTO⟩, ⟨⟨_, h1, rfl, rfl⟩, ta1.imp fun o e => ⟨kk _ _ e.1, e.2⟩⟩, ⟨_, h2, rfl, rfl⟩, tb1.imp fun o e => ⟨kk _ _ e.1, e.2⟩⟩ ⟨?_, ?_⟩ ?_ fun g tk hd hold => ?_
  · simp only [List.length_zip, List.size_toArray]
    omega
  · rintro i key v ⟨e1, e2⟩
    have e1 : ia[i]? = some key := by simpa using e1
    have e2 : ib[i]? = some v := by simpa using e2
    obtain ⟨x, hx, rx⟩ := vals_at' va e1
    rw [List.getElem?_map] at hx
    obtain ⟨k, hk0, rfl⟩ := Option.map_eq_some_iff.mp hx
    exact ⟨k, by rw [List.getElem?_zip_eq_some]; exact ⟨hk0, e2⟩, kV_is rx⟩
  · simp only [List.size_toArray]
    rw [List.length_map] at za
    omega
  · have hz0 : (mergeK [] (ks.zip xs)).length ≤ sizeLine := by
      have h1 := length_mergeK (ks.zip xs) []
      have h2 : (ks.zip xs).length ≤ ks.length := by rw [List.length_zip]; omega
      rw [List.length_map] at za
      rw [List.length_nil] at h1
      omega
    have hnew : H1 h'.objs.size = none := I2.hok.fresh (Nat.le_refl _)
    refine ⟨.ref h'.objs.size, upd H1 h'.objs.size (.dK (mergeK [] (ks.zip xs))), ?_, rfl, q _ hnew⟩
    refine I2.turnedNew (t' := tk) (ch := [s1.heap.objs.size + 4, s1.heap.objs.size + 3, s1.heap.objs.size, s1.heap.objs.size + 1]) (fun b o hb e => hold b o hb e) (fun c hc => ?_) (Nat.le_refl _) (dk_new hz0 (beq_eq_false_iff_ne.mpr (Nat.ne_of_gt I2.big)) (rel.merge .nil) hd)
    have hle : s1.heap.objs.size ≤ c := by
      simp only [List.mem_cons, List.not_mem_nil, or_false] at hc
      rcases hc with z | z | z | z
      · rw [z]; exact Nat.le_add_right _ _
      · rw [z]; exact Nat.le_add_right _ _
      · rw [z]; exact Nat.le_refl _
      · rw [z]; exact Nat.le_add_right _ _
    exact I1.fpOk hle (I1.hok.fresh hle)
end SA

set_option Elab.async false
set_option linter.all false
set_option maxRecDepth 100000
set_option maxHeartbeats 4000000
/-! ### {t: v}, t a tuple of ints and texts -/
namespace SA
open PySem PySem.Spec PyProof.Rows L2
def tDispT (trs : List (TE × TE)) : TE := fun σ H Q => ∀ p, H p = none → tPairs trs σ (upd H p (.dT [])) fun ps H2 => H2 p = some (.dT []) ∧ ∃ (k : List Key) (b : Addr) (v : V), ps = [(.ref b, v)] ∧ H2 b = some (.tup (k.map kV)) ∧ Q (.ref p) (upd H2 p (.dT [(k, v)]))
theorem pe_dispT {X : Cx} {pos : Pos} {ke ve : Expr} {trs : List (TE × TE)} (h : PPs X pos [some ke] [ve] trs) (hu : X.A.units + 1 < cLine) : PE X (.Dict [some ke] [ve] pos) (tDispT trs) := by
  refine ⟨fun pins s σ H Q I q => ?_⟩
  have hn := I.hok.fresh (Nat.le_refl s.heap.objs.size)
  have I1 := I.laid (a := s.heap.objs.size) (o := .dT []) (h' := s.heap.push { cls := .type "dict", data := .dict #[] }) (t' := s.toks) (fun _ _ q => Heap.get?_push_of_some _ q) (Nat.le_refl _) (dt_empty s.heap I.big)
  have shape := zip_pairTrees [some ke] [ve] X.env pos (by rfl) (by rfl)
  have hlen := pairTrees_length [some ke] [ve] X.env pos (by rfl) (by rfl)
  have h0 : pairTrees [some ke] [ve] X.env pos ≠ [] := fun e => by rw [e] at hlen; cases hlen
  rw [arm_eval_Dict, shape, dictDisplay_pairs _ h0 (by rw [hlen]; show 1 < 17; decide)]
  refine wpAny_bind (wpAny_standAt (wpAny_bind ?_))
  refine wpAny_subDictH (knd := tupleKind (mixKind X.prog X.w)) (show X.A.units < cLine by omega) (by rw [hlen]; show 1 ≤ 15; decide) (thn (h.run pins _ σ _ _ I1 (q _ hn)) fun ws s2 ⟨ps, H2, I2, rel, e, k, b, v, ep, eb, q2⟩ => ?_)
  subst ep
  obtain ⟨u1, u2, rfl, rk, rv⟩ : ∃ u1 u2, ws = [(u1, u2)] ∧ RelV (.ref b) u1 ∧ RelV v u2 := by
    cases rel with
    | cons a t =>
      cases t
      exact ⟨_, _, rfl, a.1, a.2⟩
  obtain rfl : u1 = Value.ref b := rk
  obtain ⟨z, hd, xs, r0, dd⟩ := dt_of I2.hok e
  cases r0
  refine ⟨[(k, b, u2)], ⟨rfl, rfl, key_of I2.hok eb, trivial⟩, dd, fun h' tk dd' hs => wpAny_pure ⟨.ref s.heap.objs.size, _, ?_, rfl, q2⟩⟩
  obtain ⟨o, es, ep, ho, h2, h3, h4, _, h5⟩ := dd'
  refine d_write I2 (by rw [e]; exact True.intro) hs ⟨o, ho⟩ ⟨by show 1 ≤ sizeLine; decide, hd, [(k, b, u2)], .cons ⟨rfl, ?_, rv⟩ .nil, o, es, ep, ho, h2, h3, h4, h5⟩
  rw [upd_ne (ne_of eb e (fun z => nomatch z))]
  exact eb
end SA

set_option Elab.async false
set_option linter.all false
set_option maxRecDepth 100000
set_option maxHeartbeats 4000000
/-! ### sorted(xs, key=lambda x: x[1]) of a list or a tuple -/
namespace SA
open PySem PySem.Spec PySem.W PyProof.Rows L2
section
variable {prog : Program} {w : World} {A : Around} {E : Value → Shared → Prop} {s : Shared}
theorem collect_seq {T : String} (hT : T = "list" ∨ T = "tuple") {l : Addr} {vs : List Value} {o : Obj} {n : Nat} {Q : List Value → Shared → Prop} (ho : s.heap.get? l = some o) (hc : o.cls = .type T) (hd : o.data = .seq vs.toArray n)
    (h : Q vs { s with heap := (s.heap.push (seqObj "list" #[] 0)).update s.heap.objs.size (Obj.mapSeq (· ++ vs.toArray)) }) (hsz : vs.length ≤ sizeLine) :
    wpAny (model prog w) A (collect (.ref l)) Q E s := by
  unfold collect
  refine wpAny_bind (wpAny_runValue (codeAny_builtin entry_proto_collect' ?_))
  show wpAny _ _ (do again (.builtin "list.__iadd__" ⟨[← newList [], .ref l], []⟩)) _ _ s
  refine wpAny_bind (wpAny_newList (wpAny_pure ⟨Code.quiet_builtin _ (by decide +kernel), codeAny_builtin entry_list_iadd' ?_⟩))
  show wpAny _ _ (Builtin.List.listExtendWith (.ref s.heap.objs.size) (.ref l) (.ref s.heap.objs.size)) _ _ { s with heap := s.heap.push (seqObj "list" #[] 0) }
  unfold Builtin.List.listExtendWith
  have ho' : (s.heap.push (seqObj "list" #[] 0)).get? l = some o := Heap.get?_push_of_some _ ho
  refine wpAny_bind (wpAny_typeOf (T := T) ⟨o, ho', hc⟩ ?_)
  have ht : (Value.type T == Value.type "list" || Value.type T == Value.type "tuple") = true := by
    rcases hT with rfl | rfl <;> rfl
  rw [if_pos (by rw [Bool.or_assoc, ht, Bool.or_true])]
  refine wpAny_bind (listItems_at ho' hd ?_)
  refine wpAny_bind (listItems_at (xs := #[]) (n := 0) (Heap.get?_push_size _ rfl) rfl ?_)
  rw [if_neg (by simp)]
  refine wpAny_bind (listUpdate_at (xs := #[]) (n := 0) (Heap.get?_push_size _ rfl) rfl ?_ (Nat.zero_le _) (by show (#[] ++ vs.toArray).size ≤ sizeLine + 1; simp only [Array.size_append, List.size_toArray, List.length_nil]; omega))
  refine wpAny_pure ?_
  show wpAny (model prog w) A (do
      let o ← load s.heap.objs.size
      match o.data with
      | .seq xs _ => pure xs.toList
      | _ => unsupported "internal:collect") Q E { s with heap := (s.heap.push (seqObj "list" #[] 0)).update s.heap.objs.size (Obj.mapSeq (· ++ vs.toArray)) }
  refine wpAny_bind (wpAny_load (get?_update_seq (Heap.get?_push_size _ rfl) _) ?_)
  show wpAny _ _ (pure ((#[] : Array Value) ++ vs.toArray).toList) Q E _
  rw [show ((#[] : Array Value) ++ vs.toArray).toList = vs by simp]
  exact wpAny_pure h
theorem sorted_of_seq {T : String} (hT : T = "list" ∨ T = "tuple") {l : Addr} {vs : List Value} {o : Obj} {n : Nat} {kw : List (Str × Value)} {Q : Value → Shared → Prop} (ho : s.heap.get? l = some o) (hc : o.cls = .type T) (hd : o.data = .seq vs.toArray n) (hL : vs.length ≤ sizeLine)
    (ha1 : argsOk "sorted" ⟨[.ref l], kw⟩) (ha2 : ∀ x, argsOk "list.sort" ⟨[.ref x], kw⟩)
    (body : ∀ E' : Value → Shared → Prop, wpAny (model prog w) A.in1.in1 (Builtin.«list.sort» ⟨[.ref (s.heap.objs.size + 1)], kw⟩) (fun f s' => f = .done (.ret .none) ∧ Q (.ref (s.heap.objs.size + 1)) s') E' { s with heap := copyHeap s.heap vs }) :
    wpAny (model prog w) A (call (.builtin "sorted") [.ref l] kw) Q E s := by
  refine call_function_entry_kw kind_sorted plain_sorted entry_sorted ha1 ?_
  unfold Builtin.«sorted»
  refine wpAny_bind (m := checkCount "sorted" 1 1 _) (wpAny_pure ?_)
  refine wpAny_bind (collect_seq hT ho hc hd ?_ hL)
  refine wpAny_bind (wpAny_newList ?_ hL)
  have hsz : ((s.heap.push (seqObj "list" #[] 0)).update s.heap.objs.size (Obj.mapSeq (· ++ vs.toArray))).objs.size = s.heap.objs.size + 1 := by
    rw [Heap.size_update, size_push']
  show wpAny _ _ _ _ _ { s with heap := copyHeap s.heap vs }
  rw [hsz]
  refine wpAny_bind (wpAny_holding (wpAny_call_entry_kw slot_list_sort ⟨_, copyHeap_at s.heap vs, rfl⟩ entry_list_sort ?body (ha2 _)))
  case body =>
    show wpAny (model prog w) A.in1.in1 (Builtin.«list.sort» ⟨[.ref (s.heap.objs.size + 1)], kw⟩) _ _ _
    refine wpAny_mono (body _) (fun f s' hf => ?_) fun _ _ e => e
    obtain ⟨rfl, hq⟩ := hf
    exact ⟨_, rfl, wpAny_pure ⟨_, rfl, hq⟩⟩
theorem sorted_key_seq {β : Type} {vs : List Value} {bs : List β} {R : Value → β → Prop} {T : String} (hT : T = "list" ∨ T = "tuple") {l : Addr} {o : Obj} {n : Nat} {f : Value} {kw : List (Str × Value)} {b : Bool} {Q : Value → Shared → Prop} (k : β → PyData) (ho : s.heap.get? l = some o) (hc : o.cls = .type T) (hd : o.data = .seq vs.toArray n) (e : EachIs R vs bs)
    (hal : AllAlike (bs.map k)) (hk : Sortable (bs.map k)) (hL : bs.length ≤ sizeLine)
    (hu : ∀ x, x ∈ bs → A.units + 2 + (k x).depth < cLine) (ha1 : argsOk "sorted" ⟨[.ref l], kw⟩) (ha2 : ∀ x, argsOk "list.sort" ⟨[.ref x], kw⟩) (ht : ∀ x, Builtin.«list.sort» ⟨[.ref x], kw⟩ = ksk_tree x f b)
    (turn : ∀ (v : Value) (x : β), R v x → x ∈ bs → ∀ (h : Heap) (tk : Nat), (∀ b o, s.heap.get? b = some o → h.get? b = some o) →
      wpAny (model prog w) A.in1.in1 (call f [v]) (KeyPure (k x) { s with heap := h, toks := tk }) (fun _ _ => False) { s with heap := h, toks := tk })
    (h : ∀ out c h' tk, (∀ b o, s.heap.get? b = some o → h'.get? b = some o) → s.heap.get? (s.heap.objs.size + 1) = none → h'.get? (s.heap.objs.size + 1) = some (seqObj "list" (List.toArray out) c) → out.length = bs.length → EachIs R out (bs.mergeSort (dataLe b k)) →
      Q (.ref (s.heap.objs.size + 1)) { s with heap := h', toks := tk }) :
    wpAny (model prog w) A (call (.builtin "sorted") [.ref l] kw) Q E s := by
  have fresh : s.heap.get? (s.heap.objs.size + 1) = none := Heap.get?_none_of_le (Nat.le_succ _)
  have up : ∀ {g : Heap}, KeepsBut (s.heap.objs.size + 1) (copyHeap s.heap vs) g → ∀ b o, s.heap.get? b = some o → g.get? b = some o := fun {g} kp b o q =>
    kp b o (Nat.ne_of_lt (Nat.lt_succ_of_lt (Heap.lt_size q))) (copyHeap_old q)
  refine sorted_of_seq hT ho hc hd (by rw [e.length]; exact hL) ha1 ha2 fun E' => ?_
  rw [ht]
  refine keyH_tree (kz := bs.map k) (s := { s with heap := copyHeap s.heap vs }) (copyHeap_at s.heap vs) (by rw [List.length_map]; exact e.length.symm) (by rw [e.length]; exact hL) hal hk (bound_map (A := A.in1.in1) hu)
    (keyH_turns (s := { s with heap := copyHeap s.heap vs }) e fun v x hR hx h tk kp => turn v x hR hx h tk (up kp)) fun h' tk out c kp hD ko => ⟨rfl, ?_⟩
  exact h out c h' tk (up kp) fresh hD ((ko.length (by rw [List.length_map]; exact e.length.symm)).trans e.length) (keyedOut_each k ko e)
end
/-- the order of texts -/
def leS (a b : Str) : Bool := decide (a.cps.toList ≤ b.cps.toList)
def tSortKey (K : PySem.W.Frag) (T : List (Addr × Str)) (t : TA) : TE := fun σ H Q => t σ H fun vs H1 => LamX.Tabs T H1 ∧ ∃ (β : Type) (a : Addr) (bs : List β) (ad : β → Addr) (nm : β → Str), vs = [.ref a] ∧
  (SqL K H1 a (bs.map fun b => V.ref (ad b)) ∨ SqT K H1 a (bs.map fun b => V.ref (ad b))) ∧ (∀ b ∈ bs, ∃ x r, H1 (ad b) = some (.tup (x :: .str (nm b) :: r))) ∧
  ∀ H2 p, LamX.ExtN H1 H2 → LamX.Tabs T H2 → H2 p = none → Q (.ref p) (upd H2 p (.lst ((bs.mergeSort fun a b => leS (nm a) (nm b)).map fun b => V.ref (ad b))))
theorem each_refs {β : Type} {ad : β → Addr} : ∀ {bs : List β} {us : List Value}, Vals (bs.map fun b => V.ref (ad b)) us → EachIs (fun v x => v = Value.ref (ad x)) us bs
  | [], _, h => by
    cases h
    exact .nil
  | b :: bs, _, h => by
    rw [List.map_cons] at h
    cases h with
    | cons h t => exact .cons h (each_refs t)
theorem refs_each {β : Type} {ad : β → Addr} : ∀ {bs : List β} {us : List Value}, EachIs (fun v x => v = Value.ref (ad x)) us bs → Vals (bs.map fun b => V.ref (ad b)) us
  | _, _, .nil => .nil
  | _, _, .cons h t => .cons h (refs_each t)
section
variable {X : Cx}
theorem pe_sortKey {T : List (Addr × Str)} {c P : Addr} {k j1 : Nat} {params : Arguments} {kn : Str} {p p1 p2 p3 lpos kpos pos : Pos} {scope : Scope} {e : Expr} {t : TA} (hg : Gl X "sorted") (hm : X.mg "sorted" = none) (ha : PA X [e] t)
    (TB : LamX.TabB X.base X.mg c P) (hcode : X.env.code = .ref c) (hmT : (P, X.env.qual ++ "<lambda>") ∈ T) (hu : ∀ p ∈ T, p.1 = P → p.2 = X.env.qual ++ "<lambda>") (hr : Room (k + 2) X.A) (hsc : scope.kind = .function) (hco : scope.isCoroutine = false) (hgen : scope.isGenerator = false) (hns : scope.names = [(kn, .local)])
    (hdef : defaultsOf params X.env = ([], [])) (hbind : ∀ (q : Str) (body : Expr) (cl : List (Str × Addr)) (pm cv ctv u : Value), bindArgs (PySem.W.kla_fn "<lambda>" q params body scope cl pm cv ctv) ⟨[u], []⟩ = pure [(kn, u)])
    (hkn : (kn == ("__debug__" : Str)) = false := by decide)
    (he : backTo pos (starEach [e] X.env) = (false, eval e X.env) :: backTo pos (starEach [] X.env) := by rfl) (hpl : (backTo pos (starEach [e] X.env)).any (·.1) = false := by rfl) :
    PE X (.Call (.Name "sorted" p) [e] [⟨some "key", .Lambda params (.Subscript (.Name kn p1) (.Constant (.int 1) j1 p2) p3) scope lpos, kpos⟩] pos) (tSortKey X.K T t) := by
  refine ⟨fun pins s σ H Q I h => ?_⟩
  refine wpAny_Call_Name_kw (ld_blt I hg hm PyProof.Rows.Boot.«sorted» ?_)
  refine PyProof.Rows.callWith_kw (thn (ha.run pos pins s σ H _ I h) fun us s1 ⟨vs, H1, I1, r1, hT, β, a, bs, ad, nm, ev, hq, hb, q⟩ => ?_) he hpl (by rfl) (by rfl)
  subst ev
  obtain ⟨u, rfl, ru⟩ := vals1 r1
  obtain rfl : u = Value.ref a := ru
  show wpAny _ _ (evalAll ((do let v ← eval (.Lambda params (.Subscript (.Name kn p1) (.Constant (.int 1) j1 p2) p3) scope lpos) X.env; standAt pos; pure v) :: [])) _ _ s1
  refine wpAny_evalAll_cons (wpAny_bind (LamX.lam_make2 I1 TB hcode hmT hu hT hdef (fun y hy e => by rw [hns] at hy; simp at hy; rw [hy] at e; cases e) fun f c' pm ctv H2 s2 I2 eN T2 hf hfn hfr hco2 => wpAny_bind (wpAny_standAt (wpAny_pure (wpAny_evalAll_nil ?_)))))
  show wpAny _ _ (call (.builtin "sorted") [.ref a] [(Str.ofString "key", .ref f)]) _ _ s2
  have tupS : ∀ b ∈ bs, ∃ (its : List Value) (tk : Nat), IsTup s2.heap (ad b) its.toArray ∧ its[1]? = some (.str (nm b) tk) ∧ its.length ≤ sizeLine := fun b hbm => by
    obtain ⟨x, r, hx⟩ := hb b hbm
    obtain ⟨hz, its, rv, pl⟩ := (show ObjOk X.prog X.w H2 s2.heap (ad b) (.tup _) from I2.hok _ _ (eN _ _ hx fun ps z => nomatch z))
    cases rv with
    | cons h1 t => cases t with
      | cons h2 t =>
        obtain ⟨tk, rfl⟩ := h2
        refine ⟨_, tk, pl, rfl, ?_⟩
        have := Paired.length t
        simp only [List.length_cons] at hz ⊢
        omega
  obtain ⟨Ty, its, o, n, hTy, hv, ho, hc, hd, hz⟩ : ∃ (Ty : String) (its : List Value) (o : Obj) (n : Nat), (Ty = "list" ∨ Ty = "tuple") ∧ Vals (bs.map fun b => V.ref (ad b)) its ∧ s2.heap.get? a = some o ∧ o.cls = .type Ty ∧ o.data = .seq its.toArray n ∧ bs.length ≤ sizeLine := by
    have kT : ∀ {a xs}, SqT X.K H1 a xs → SqT X.K H2 a xs := fun {a xs} h => by
      rcases h with (h | ⟨o, h⟩) | h
      · exact .inl (.inl (eN _ _ h fun ps z => nomatch z))
      · exact .inl (.inr ⟨o, eN _ _ h fun ps z => nomatch z⟩)
      · exact .inr h
    have kL : ∀ {a xs}, SqL X.K H1 a xs → SqL X.K H2 a xs := fun {a xs} h => by
      rcases h with (h | ⟨o, h⟩) | h
      · exact .inl (.inl (eN _ _ h fun ps z => nomatch z))
      · exact .inl (.inr ⟨o, eN _ _ h fun ps z => nomatch z⟩)
      · exact .inr h
    rcases hq with hq | hq
    · obtain ⟨its, rv, ⟨o, n, h1, h2, h3, h4⟩, hz⟩ := I2.list (kL hq)
      exact ⟨"list", its, o, n, .inl rfl, rv, h1, h2, h4, by simpa using hz⟩
    · obtain ⟨its, rv, ⟨o, h1, h2, n, h4⟩, hz⟩ := I2.tuple (kT hq)
      exact ⟨"tuple", its, o, n, .inr rfl, rv, h1, h2, h4, by simpa using hz⟩
  refine sorted_key_seq (b := false) (bs := bs) (R := fun v x => v = Value.ref (ad x)) (f := .ref f) hTy (fun x => .str (nm x)) ho hc hd (each_refs hv) (AllAlike.of fun _ _ => by simp [alike]) (Sortable.others fun _ => ⟨by simp, fun xs z => by simp at z⟩) hz (fun x _ => ?_) (ksk_s1 _ _) (fun _ => ksk_l1 _ _) (fun _ => ksk_t1 _ _)
    (fun v x hR hx h tk kp => ?_) fun out c h' tk kp _ hD hlen eo => ?_
  · have := hr.units
    simp only [PyData.depth]
    have h2 : X.A.units + 64 < cLine := by
      have := hr.units
      omega
    omega
  · subst hR
    obtain ⟨its2, tk2, pl, h1, hz2⟩ := tupS x hx
    obtain ⟨⟨oc, vs2, t2, hoc, hdc, hvc⟩, _, _⟩ := I2.hok c' _ hco2
    refine wpAny_call (codeAny_mono (R := fun r s' => ∃ u, r = .ok (.ret u) ∧ KeyPure (.str (nm x)) { s2 with heap := h, toks := tk } u s') ?_ fun r s' hq => ?_)
    · refine PySem.W.kla_callFunE hr.depth (kp _ _ hf) rfl hco hgen rfl ⟨c', oc, vs2, t2, rfl, kp _ _ hoc, hdc, hvc⟩ ?_
      rw [hbind]
      refine wpAny_pure (wpAny_newFunctionEnv (fun y hy => by show y.2 ≠ .cell; rw [show (PySem.W.kla_fn _ _ _ _ scope _ _ _ _).scope.names = [(kn, .local)] from hns] at hy; simp at hy; rw [hy]; simp) (fun y hy => ?_) (fun h₁ hn1 hsb => ⟨(I2.nolimit.keeps kp).fresh _ hsb, ?_⟩) hsc)
      · simp at hy
        rw [hy]
        show scope.names.lookup kn = some .local
        rw [hns]
        simp
      · have kp1 : ∀ b o, h.get? b = some o → h₁.get? b = some o := fun b o e => hsb.extBut b o (Nat.ne_of_lt (Heap.lt_size e)) (Heap.get?_push_of_some _ e)
        refine PySem.W.kla_codeExpr (Subscript_ (wpAny_Name (wpAny_loadName_local hsc ?_ hn1 (by show List.lookup kn [(kn, Value.ref (ad x))] = some (Value.ref (ad x)); simp [List.lookup]) ?_) hkn))
        · show scope.names.lookup kn = some .local
          rw [hns]
          simp
        · refine wpAny_Constant_int ?_
          obtain ⟨o2, e2, c2, n2, d2⟩ := pl
          refine subscriptTail_builtinR (x := .str (nm x) tk2) (IsTup.typeIs ⟨o2, kp1 _ _ (kp _ _ e2), c2, n2, d2⟩) slot_tuple_getitem.lookup (getItem_tuple (j := 1) (Q := fun r s' => r = .str (nm x) tk2 ∧ ∃ u, (Except.ok (Flow.ret r) : Result) = .ok (.ret u) ∧ KeyPure (.str (nm x)) { s2 with heap := h, toks := tk } u s') ⟨o2, kp1 _ _ (kp _ _ e2), c2, n2, d2⟩ (by decide) (by decide) ?_ (by simpa using h1) ⟨rfl, _, rfl, h₁, _, rfl, kp1, .str _ _⟩)
          have : 1 < its2.length := (List.getElem?_eq_some_iff.mp h1).1
          rw [List.size_toArray]
          unfold seqIndex?
          simp
          omega
    · obtain ⟨u, rfl, hq⟩ := hq
      exact hq
  · rw [dataLe_str] at eo
    have hsz : s2.heap.objs.size ≤ s2.heap.objs.size + 1 := Nat.le_succ _
    have nn : H2 (s2.heap.objs.size + 1) = none := I2.hok.fresh hsz
    refine ⟨.ref _, upd H2 (s2.heap.objs.size + 1) (.lst ((bs.mergeSort fun a b => leS (nm a) (nm b)).map fun b => V.ref (ad b))), I2.laid (t' := tk) kp hsz ⟨?_, out, c, refs_each eo, hD⟩, rfl, q _ _ eN T2 nn⟩
    rw [List.length_map, List.length_mergeSort]
    exact hz
end
end SA

set_option Elab.async false
set_option linter.all false
set_option maxRecDepth 100000
set_option maxHeartbeats 4000000
/-! ### sorted(xs, key=f), f a def of the module that gives a pair of whole numbers -/
namespace SA
open PySem PySem.Spec PySem.W PyProof.Rows L2
def hid1 (h : Heap) (c : Addr) : Heap := h.update c fun o => { o with data := .freed }
theorem hid1_at {h : Heap} {c : Addr} {o : Obj} (e : h.get? c = some o) : (hid1 h c).get? c = none := by
  unfold hid1 Heap.get?
  have hl := Heap.lt_size e
  unfold Heap.update
  obtain ⟨objs, life⟩ := h
  simp only [Array.getElem?_modify]
  have hl : c < objs.size := hl
  simp [hl]
theorem hid1_ne {h : Heap} {b c : Addr} (hb : b ≠ c) : (hid1 h c).get? b = h.get? b := Heap.get?_update_ne _ _ _ _ hb
def leP (x y : β → Int) : β → β → Bool := fun p q => decide (x p < x q ∨ (x p = x q ∧ y p ≤ y q))
def rSortF (K : PySem.W.Frag) (sp : Sp) (f : Addr) : List V → List V → Hp → VK → Prop := fun vs zs H Q => ∃ (β : Type) (a : Addr) (bs : List β) (vl : β → V) (x y : β → Int), vs = [.ref a] ∧ zs = [.ref f] ∧ (SqL K H a (bs.map vl) ∨ SqT K H a (bs.map vl)) ∧
  (∀ b ∈ bs, ∀ (H1 : Hp) (Q1 : VK), Same H H1 → (∀ p H2, Same H1 H2 → H2 p = some (.tup [.int (x b), .int (y b)]) → Q1 (.ref p) H2) → sp [vl b] H1 Q1 (fun _ _ _ => False)) ∧
  ∀ H' p, Same H H' → H p = none → H' p = some (.lst ((bs.mergeSort (leP x y)).map vl)) → Q (.ref p) H'
theorem each_vl {β : Type} {vl : β → V} : ∀ {bs : List β} {us : List Value}, Vals (bs.map vl) us → EachIs (fun v x => RelV (vl x) v) us bs
  | [], _, h => by
    cases h
    exact .nil
  | b :: bs, _, h => by
    rw [List.map_cons] at h
    cases h with
    | cons h t => exact .cons h (each_vl t)
theorem vl_each {β : Type} {vl : β → V} : ∀ {bs : List β} {us : List Value}, EachIs (fun v x => RelV (vl x) v) us bs → Vals (bs.map vl) us
  | _, _, .nil => .nil
  | _, _, .cons h t => .cons h (vl_each t)
theorem vals_snoc : ∀ {xs : List V} {us : List Value} {x : V} {u : Value}, Vals xs us → RelV x u → Vals (xs ++ [x]) (us ++ [u])
  | _, _, _, _, .nil, h => .cons h .nil
  | _, _, _, _, .cons a t, h => .cons a (vals_snoc t h)
theorem vals_at {i : Nat} : ∀ {xs : List V} {us : List Value} {u : Value}, Vals xs us → us[i]? = some u → ∃ x, xs[i]? = some x ∧ RelV x u := by
  induction i with
  | zero =>
    intro xs us u h e
    cases h with
    | nil => cases e
    | cons a t =>
      simp at e
      subst e
      exact ⟨_, rfl, a⟩
  | succ i ih =>
    intro xs us u h e
    cases h with
    | nil => cases e
    | cons a t =>
      simp at e
      obtain ⟨x, h1, h2⟩ := ih t e
      exact ⟨x, by simpa using h1, h2⟩
/-- pairs of ints, told by addresses -/
theorem keys_each {K : PySem.W.Frag} {H : Hp} {X : Cx} {pins : List (Addr × Obj)} {σ : L2.St} {s : Shared} (hX : X.K = K) (I : Inv X pins σ H s) {β : Type} {x y : β → Int} : ∀ {bs : List β} {ps : List Addr} {us : List Value}, Vals (ps.map V.ref) us → ps.length = bs.length →
    (∀ (j : Nat) p b, ps[j]? = some p → bs[j]? = some b → H p = some (.tup [.int (x b), .int (y b)])) → EachIs (fun v d => ∃ as, Reads s.heap v d as) us (bs.map fun b => PyData.tuple [.int (x b), .int (y b)])
  | [], [], _, h, _, _ => by
    cases h
    exact .nil
  | b :: bs, p :: ps, _, h, hl, e => by
    rw [List.map_cons] at h
    cases h with
    | cons h t =>
      refine .cons ?_ (keys_each hX I t (by simpa using hl) fun (j : Nat) p b h1 h2 => e (j + 1) p b (by simpa using h1) (by simpa using h2))
      have q := e 0 p b rfl rfl
      exact Dp.reads I _ (.ref p) _ (.tup (SqT.of q) (.cons (.int _) (.cons (.int _) .nil))) h
theorem alike_ii {a b c d : Int} : alike (PyData.tuple [.int a, .int b]) (.tuple [.int c, .int d]) = true := by
  simp [alike, alikeAll]
section
variable {X : Cx}
theorem cr_sortF {k : Nat} {f : Addr} {fd : FuncData} {ps : List Str} {sp : Sp} (F : FnOk X.prog X.w X.K X.mg X.base CX0 k f fd ps sp) (hr : Room (k + 2) X.A) (hb : L2.Binds X.K fd ps []) : CallRK X (.builtin "sorted") [Str.ofString "key"] (rSortF X.K sp f) := by
  intro pins s σ H vs zs us ws Q I r rz h
  obtain ⟨β, a, bs, vl, x, y, rfl, rfl, hq, hsp, q⟩ := h
  obtain rfl := Vals.ref1 r
  obtain rfl := Vals.ref1 rz
  show wpAny _ _ (call (.builtin "sorted") [.ref a] [(Str.ofString "key", .ref f)]) _ _ s
  obtain ⟨Ty, its, o, n, hTy, hv, ho, hc, hd, hz⟩ : ∃ (Ty : String) (its : List Value) (o : Obj) (n : Nat), (Ty = "list" ∨ Ty = "tuple") ∧ Vals (bs.map vl) its ∧ s.heap.get? a = some o ∧ o.cls = .type Ty ∧ o.data = .seq its.toArray n ∧ bs.length ≤ sizeLine := by
    rcases hq with hq | hq
    · obtain ⟨its, rv, ⟨o, n, h1, h2, h3, h4⟩, hz⟩ := I.list hq
      exact ⟨"list", its, o, n, .inl rfl, rv, h1, h2, h4, by simpa using hz⟩
    · obtain ⟨its, rv, ⟨o, h1, h2, n, h4⟩, hz⟩ := I.tuple hq
      exact ⟨"tuple", its, o, n, .inr rfl, rv, h1, h2, h4, by simpa using hz⟩
  have hlen : its.length = bs.length := by
    have := hv.length
    rw [List.length_map] at this
    exact this.symm
  refine sorted_of_seq hTy ho hc hd (by rw [hlen]; exact hz) (ksk_s1 _ _) (fun _ => ksk_l1 _ _) fun E' => ?_
  rw [ksk_t1]
  generalize hA : s.heap.objs.size + 1 = A0
  have hcp : ({ s with heap := copyHeap s.heap its } : Shared).heap.get? A0 = some (seqObj "list" its.toArray 0) := by
    rw [← hA]
    exact copyHeap_at s.heap its
  have hA0 : s.heap.objs.size ≤ A0 := by omega
  have oldc : ∀ b u, s.heap.get? b = some u → (copyHeap s.heap its).get? b = some u := fun b u e => copyHeap_old e
  generalize copyHeap s.heap its = h1 at hcp oldc ⊢
  have hcp : h1.get? A0 = some (seqObj "list" its.toArray 0) := hcp
  have hz' : its.length ≤ sizeLine := by rw [hlen]; exact hz
  have ha1 : A0 < h1.objs.size := Heap.lt_size hcp
  have hne0 : ∀ b u, s.heap.get? b = some u → b ≠ A0 := fun b u e => Nat.ne_of_lt (Nat.lt_of_lt_of_le (Heap.lt_size e) hA0)
  unfold ksk_tree
  refine wpAny_bind (listItems_at hcp rfl ?_)
  refine wpAny_bind (listUpdate_at hcp rfl ?_ (by rw [List.size_toArray]; exact hz') (Nat.zero_le _))
  have old2 : ∀ b u, s.heap.get? b = some u → (h1.update A0 (Obj.mapSeq fun _ => (#[] : Array Value))).get? b = some u := fun b u e => (Heap.get?_update_ne _ _ _ _ (hne0 b u e)).trans (oldc b u e)
  obtain ⟨e1, ho1⟩ : ∃ e1, (h1.update A0 (Obj.mapSeq fun _ => (#[] : Array Value))).get? A0 = some (seqObj "list" #[] e1) := ⟨_, get?_update_seq hcp fun _ => #[]⟩
  generalize h1.update A0 (Obj.mapSeq fun _ => (#[] : Array Value)) = h2 at old2 ho1 ⊢
  refine wpAny_bind (seqEpoch_at ho1 rfl ?_)
  refine wpAny_bind (wpAny_newTuple ?_ (by show its.length ≤ _; exact hz'))
  have old3 : ∀ b u, s.heap.get? b = some u → (h2.push (seqObj "tuple" its.toArray 0)).get? b = some u := fun b u e => Heap.get?_push_of_some _ (old2 b u e)
  have ho3 : (h2.push (seqObj "tuple" its.toArray 0)).get? A0 = some (seqObj "list" #[] e1) := Heap.get?_push_of_some _ ho1
  generalize h2.push (seqObj "tuple" its.toArray 0) = h3 at old3 ho3 ⊢
  refine wpAny_bind (wpAny_newList ?_ (Nat.zero_le _))
  refine wpAny_holding ?_
  show wpAny _ _ (ksk_rest A0 (.ref f) false its.toArray e1 (.ref h3.objs.size)) _ _ { s with heap := h3.push (seqObj "list" #[] 0) }
  -- what is tracked from here on
  have I1 : Inv X pins σ (upd H A0 (.ext fun h => h.get? A0 = some (seqObj "list" #[] e1))) { s with heap := h3, toks := s.toks } := I.laid old3 hA0 ⟨ho3, ⟨_, ho3⟩, fun g1 g2 h1 h2 => h2 _ h1⟩
  generalize hkS : h3.objs.size = kS at *
  have hk0 : h3.objs.size ≤ kS := by omega
  have hka : kS ≠ A0 := Nat.ne_of_gt (Nat.lt_of_lt_of_le (Heap.lt_size ho3) hk0)
  have hok : (h3.push (seqObj "list" #[] 0)).get? kS = some (seqObj "list" #[] 0) := by
    rw [← hkS]
    exact Heap.get?_push_size _ rfl
  have I2 : Inv X pins σ (upd (upd H A0 (.ext fun h => h.get? A0 = some (seqObj "list" #[] e1))) kS (.lst [])) { s with heap := h3.push (seqObj "list" #[] 0), toks := s.toks } := by
    refine I1.laid (fun b u e => Heap.get?_push_of_some _ e) hk0 ⟨Nat.zero_le _, [], 0, .nil, hok⟩
  have hHa : H A0 = none := I.hok.fresh hA0
  have hsk : s.heap.objs.size ≤ kS := Nat.le_trans hA0 (Nat.le_trans (Nat.le_of_lt (Heap.lt_size ho3)) hk0)
  have hHk : H kS = none := I.hok.fresh hsk
  have I2 : Inv X pins σ (upd (upd H A0 (.ext fun h => h.get? A0 = some (seqObj "list" #[] e1))) kS (.lst [])) { s with heap := h3.push (seqObj "list" #[] 0) } := I2
  have sm0 : Same H (upd (upd H A0 (.ext fun h => h.get? A0 = some (seqObj "list" #[] e1))) kS (.lst [])) := fun b o e => by
    rw [upd_ne (ne_of_none e hHk), upd_ne (ne_of_none e hHa)]
    exact e
  have ea0 : (upd (upd H A0 (.ext fun h => h.get? A0 = some (seqObj "list" #[] e1))) kS (.lst [])) A0 = some (.ext fun h => h.get? A0 = some (seqObj "list" #[] e1)) := by
    rw [upd_ne hka.symm, upd_same]
  have ek0 : (upd (upd H A0 (.ext fun h => h.get? A0 = some (seqObj "list" #[] e1))) kS (.lst [])) kS = some (.lst []) := upd_same
  generalize upd (upd H A0 (.ext fun h => h.get? A0 = some (seqObj "list" #[] e1))) kS (.lst []) = H2 at I2 sm0 ea0 ek0
  generalize h3.push (seqObj "list" #[] 0) = h4 at I2 hok ⊢
  unfold ksk_rest
  refine wpAny_bind (wpAny_rule ?_)
  first
    | rw [List.forIn_toArray]
    | (rw [← Array.forIn_toList]; simp only [List.toList_toArray])
    | rw [← Array.forIn_toList]
  refine wpAny_bind (ksk_fold (fun i s' => ∃ (Hi : Hp) (ps : List Addr), Inv X pins σ Hi s' ∧ Same H Hi ∧ Hi A0 = some (.ext fun h => h.get? A0 = some (seqObj "list" #[] e1)) ∧ Hi kS = some (.lst (ps.map V.ref)) ∧ ps.length = i ∧
      ∀ (j : Nat) p b, ps[j]? = some p → bs[j]? = some b → Hi p = some (.tup [.int (x b), .int (y b)])) its 0 { s with heap := h4 } ⟨H2, [], I2, sm0, ea0, ek0, rfl, fun j p b e => by simp at e⟩ ?step ?done)
  case step =>
    rintro j u s' hu ⟨Hi, as, Ii, si, ea, ek, el, et⟩
    rw [Nat.zero_add] at el ⊢
    obtain ⟨v0, hv0, ru⟩ := vals_at hv hu
    rw [List.getElem?_map] at hv0
    obtain ⟨b, hb0, rfl⟩ := Option.map_eq_some_iff.mp hv0
    have hbm : b ∈ bs := List.mem_of_getElem? hb0
    have hjl : j < bs.length := (List.getElem?_eq_some_iff.mp hb0).1
    have spb := hsp b hbm Hi (fun v H' => ∃ p, v = .ref p ∧ Same Hi H' ∧ H' p = some (.tup [.int (x b), .int (y b)])) si fun p H2 s2 e2 => ⟨p, rfl, s2, e2⟩
    have hl1 : ([u] ++ [] : List Value).length = ps.length := by
      have := F.len _ _ _ _ spb
      simpa using this
    have bt := hb s' [u] Ii.kIn hl1
    refine wpAny_bind (wpAny_attempt (wpAny_call (codeAny_mono (F.run X.A.in1.in1 X.stack s' Hi ⟨[u], []⟩ ([u] ++ []) [vl b] _ _ hr.in1.in1 Ii.env0.in1.in1 bt (show Vals [vl b] [u] from .cons ru .nil) spb) fun r s'' hq => ?_)))
    match r, hq with
    | .error e, hq => exact hq.elim
    | .ok .next, hq => exact hq.elim
    | .ok .brk, hq => exact hq.elim
    | .ok .cont, hq => exact hq.elim
    | .ok (.ret w), hq =>
      obtain ⟨v1, H3, I3, r3, p, rfl, s3, e3⟩ := Ii.after hq
      obtain rfl : w = Value.ref p := r3
      have ek3 := s3 _ _ ek
      obtain ⟨its3, n3, rv3, ho3, hz3⟩ := I3.lst ek3
      have hl3 : its3.length = j := by
        have := rv3.length
        rw [List.length_map] at this
        omega
      refine wpAny_bind (listUpdate_at ho3 rfl ?_ (by rw [List.size_toArray]; omega) (by simp; omega))
      obtain ⟨c2, hc2⟩ : ∃ c2, (s''.heap.update kS (Obj.mapSeq (·.push (Value.ref p)))).get? kS = some (seqObj "list" (its3.toArray.push (.ref p)) c2) := ⟨_, get?_update_seq ho3 (·.push (Value.ref p))⟩
      refine wpAny_pure ⟨rfl, upd H3 kS (.lst ((as ++ [p]).map V.ref)), as ++ [p], ?_, ?_, ?_, upd_same, by simp [el], ?_⟩
      · refine I3.write (x := kS) (e := kS) (t' := s''.toks) (by rw [ek3]; trivial) (.inl rfl) (fun b u hb hu => (Heap.get?_update_ne _ _ _ _ hb).trans hu) ⟨_, hc2⟩ ⟨by simp; omega, its3 ++ [.ref p], c2, ?_, ?_⟩
        · rw [List.map_append]
          exact vals_snoc rv3 rfl
        · rw [hc2]
          simp [seqObj]
      · intro b o e
        rw [upd_ne (ne_of_none e hHk)]
        exact s3 _ _ (si _ _ e)
      · rw [upd_ne hka.symm]
        exact s3 _ _ ea
      · intro i q b' h1 h2
        have h3 : H3 q = some (.tup [.int (x b'), .int (y b')]) := by
          by_cases hi : i < as.length
          · rw [List.getElem?_append_left hi] at h1
            exact s3 _ _ (et i q b' h1 h2)
          · have hi2 : i = as.length := by
              have := (List.getElem?_eq_some_iff.mp h1).1
              simp at this
              omega
            subst hi2
            simp at h1
            subst h1
            rw [el, hb0] at h2
            cases h2
            exact e3
        rw [upd_ne (ne_of h3 ek3 (by intro z; cases z))]
        exact h3
  case done =>
    rintro s' ⟨Hi, as, Ii, si, ea, ek, el, et⟩
    have el : as.length = bs.length := by omega
    obtain ⟨its3, n3, rv3, ho3, hz3⟩ := Ii.lst ek
    have hl3 : its3.length = bs.length := by
      have := rv3.length
      rw [List.length_map] at this
      omega
    refine wpAny_bind (listItems_at ho3 rfl ?_)
    have hka3 := keys_each rfl Ii (x := x) (y := y) rv3 el et
    obtain ⟨hoa, _⟩ := Ii.hok _ _ ea
    have hoa : s'.heap.get? A0 = some (seqObj "list" #[] e1) := hoa
    have hal : AllAlike (bs.map fun b => PyData.tuple [.int (x b), .int (y b)]) := AllAlike.of fun p q => by simp [alike, alikeAll]
    have hrt : Sortable (bs.map fun b => PyData.tuple [.int (x b), .int (y b)]) := Sortable.tuples fun b => ⟨_, _, rfl⟩
    refine keyH_end (h₁ := hid1 s'.heap kS) (κ := dataKind s'.heap (bs.map fun b => PyData.tuple [.int (x b), .int (y b)])) (keys := its3.toArray) (fun b o hb e => ?_) (hid1_at ho3) ho3 hoa hka
      (SortsAt.data (s := s') (by simpa using hka3) hal hrt (fun d hd => ?_)) (by rw [List.size_toArray]; omega) hz' fun g tk c kp hD => ⟨rfl, ?_⟩
    · by_cases hbk : b = kS
      · rw [hbk, hid1_at ho3] at e
        cases e
      · rw [hid1_ne hbk] at e
        exact e
    · obtain ⟨b, hb, rfl⟩ := List.mem_map.mp hd
      have := hr.un
      show X.A.in1.in1.units + _ < cLine
      have h2 : (PyData.tuple [.int (x b), .int (y b)]).depth ≤ 4 := by simp [PyData.depth, PyData.depthAll]
      have h3 : X.A.in1.in1.units = X.A.units + 2 := rfl
      omega
    have eo := keyedOut_each (rev := false) (fun b : β => PyData.tuple [.int (x b), .int (y b)]) ⟨s'.heap, its3, hal, rfl, hka3⟩ (each_vl hv)
    rw [dataLe_ii] at eo
    have hD : g.get? A0 = some (seqObj "list" (sortVals (dataKind s'.heap (bs.map fun b => PyData.tuple [.int (x b), .int (y b)])) false its3 its).toArray c) := by simpa using hD
    have eo' : Vals ((bs.mergeSort (leP x y)).map vl) _ := vl_each eo
    generalize sortVals (dataKind s'.heap (bs.map fun b => PyData.tuple [.int (x b), .int (y b)])) false its3 its = out at hD eo eo'
    have kp' : ∀ b o, b ≠ kS → b ≠ A0 → s'.heap.get? b = some o → g.get? b = some o := fun b o h1 h2 e => kp b o h2 (by rw [hid1_ne h1]; exact e)
    have hkn : ∀ b xs, Hi b = some (.tup xs) → b ≠ kS := fun b xs e => ne_of e ek (by intro z; cases z)
    have han : ∀ b u, Hi b = some u → (∀ φ, u ≠ .ext φ) → b ≠ A0 := fun b u e hu z => by
      subst z
      rw [ea] at e
      cases e
      exact hu _ rfl
    have hok' : HOk X.prog X.w (fun b => if b = kS then none else upd Hi A0 (.lst ((bs.mergeSort (leP x y)).map vl)) b) g := by
      intro b u e
      have hbk : b ≠ kS := fun z => by
        simp [z] at e
      have e : upd Hi A0 (.lst ((bs.mergeSort (leP x y)).map vl)) b = some u := by simpa [hbk] using e
      by_cases hba : b = A0
      · subst hba
        rw [upd_same] at e
        cases e
        exact ⟨by rw [List.length_map, List.length_mergeSort]; exact hz, out, c, eo', hD⟩
      · rw [upd_ne hba] at e
        refine (Ii.hok b u e).stay (fun c v hc q => ?_) (fun c q => ?_) fun c xs q => ?_
        · rcases hc with z | z
          · rw [z] at q ⊢
            exact kp' _ _ hbk hba q
          · exact kp' c v (ne_of z ek (by intro z; cases z)) (han c _ z fun φ z => by cases z) q
        · have h1 := ne_of q ek (by intro z; cases z)
          have h2 := han c _ q fun φ z => by cases z
          simp only [h1, if_false]
          rw [upd_ne h2]
          exact q
        · have h1 := hkn c xs q
          have h2 := han c _ q fun φ z => by cases z
          simp only [h1, if_false]
          rw [upd_ne h2]
          exact q
    have chk : ∀ b ∈ [kS, A0], b ≠ X.env.locals ∧ (X.s_0.heap.objs.size ≤ b) ∧ (∃ u, Hi b = some u) ∧ s.heap.objs.size ≤ b := by
      intro b hb
      simp only [List.mem_cons, List.not_mem_nil, or_false] at hb
      rcases hb with rfl | rfl
      · exact ⟨Nat.ne_of_gt (Nat.lt_of_lt_of_le I.lt hsk), Nat.le_trans I.sz hsk, ⟨_, ek⟩, hsk⟩
      · exact ⟨Nat.ne_of_gt (Nat.lt_of_lt_of_le I.lt hA0), Nat.le_trans I.sz hA0, ⟨_, ea⟩, hA0⟩
    have out2 : ∀ b, b ∉ [kS, A0] → b ≠ kS ∧ b ≠ A0 := fun b hb => ⟨fun z => hb (by simp [z]), fun z => hb (by simp [z])⟩
    have hH' : ∀ b, b ≠ kS → b ≠ A0 → (fun b => if b = kS then none else upd Hi A0 (.lst ((bs.mergeSort (leP x y)).map vl)) b) b = Hi b := fun b h1 h2 => by
      simp only [h1, if_false]
      exact upd_ne h2
    have In : Inv X pins σ (fun b => if b = kS then none else upd Hi A0 (.lst ((bs.mergeSort (leP x y)).map vl)) b) { s' with heap := g, gens := s'.gens, drawn := s'.drawn, toks := tk } := by
      refine Ii.step (ch := [kS, A0]) (fun b hb => ?_) (fun b o _ _ hc e _ => kp' b o (out2 b hc).1 (out2 b hc).2 e) (fun b o _ _ hc e _ => ⟨o.slots, kp' b o (out2 b hc).1 (out2 b hc).2 e⟩)
        (fun b o hc _ n => (hH' b (out2 b hc).1 (out2 b hc).2).trans n) (fun b o hc e => ⟨o, kp' b o (out2 b hc).1 (out2 b hc).2 e⟩) (fun b xs e => ?_) (fun b o u e => ?_) (fun b qs e => ⟨#[], ?_⟩) (fun m hm => ?_) hok' Ii.bare
      · obtain ⟨c1, c2, ⟨u, c3⟩, c4⟩ := chk b hb
        refine ⟨.inr c2, c1, fun y c e z => ?_, fun p hp z => ?_⟩
        · have := Ii.freeC y c e
          rw [z, c3] at this
          cases this
        · have := (Ii.pin p hp).2.1
          rw [z, c3] at this
          cases this
      · exact (hH' b (hkn b xs e) (han b _ e fun φ z => by cases z)).trans e
      · exact (hH' b (ne_of e ek (by intro z; cases z)) (han b _ e fun φ z => by cases z)).trans e
      · have := (hH' b (ne_of e ek (by intro z; cases z)) (han b _ e fun φ z => by cases z)).trans e
        simpa using this
      · obtain ⟨o, es, ep, ho, r⟩ := hm
        exact ⟨o, es, ep, kp' _ o (fun z => (chk kS (by simp)).1 z.symm) (fun z => (chk A0 (by simp)).1 z.symm) ho, r⟩
    refine ⟨.ref A0, _, In, rfl, q _ _ (fun b o e => ?_) hHa ?_⟩
    · have h1 := ne_of_none e hHk
      have h2 := ne_of_none e hHa
      exact (hH' b h1 h2).trans (si _ _ e)
    · simp only [hka.symm, if_false]
      exact upd_same
end
end SA

set_option Elab.async false
set_option linter.all false
set_option maxRecDepth 100000
set_option maxHeartbeats 4000000
namespace SA
open PySem PySem.Spec PyProof.Rows L2
theorem Same.upd' {H H' : Hp} {p : Addr} {o : HO} (s : Same H H') (h : H p = none) : Same H (upd H' p o) := fun b u e => by
  rw [upd_ne (ne_of_none e h)]
  exact s b u e
theorem DrawAt.knowD {H : Hp} {d w c p : Addr} {n : Nat} (h : DrawAt H d w c n) (hp : H p = none) : p ≠ d ∧ p ≠ w ∧ p ≠ c := by
  obtain ⟨⟨r, t, _, _, e1⟩, ⟨ws, e2⟩, ⟨cs, e3⟩, _⟩ := h
  exact ⟨(ne_of_none e1 hp).symm, (ne_of_none e2 hp).symm, (ne_of_none e3 hp).symm⟩
/-- something of one's own is changed -/
theorem DrawAt.upd {H : Hp} {d w c p : Addr} {n : Nat} {o : HO} (h : DrawAt H d w c n) (h1 : p ≠ d) (h2 : p ≠ w) (h3 : p ≠ c) : DrawAt (upd H p o) d w c n := by
  obtain ⟨⟨r, t, a1, a2, e⟩, ⟨ws, e2⟩, ⟨cs, e3⟩, ne⟩ := h
  exact ⟨⟨r, t, a1, a2, by rw [upd_ne h1.symm]; exact e⟩, ⟨ws, by rw [upd_ne h2.symm]; exact e2⟩, ⟨cs, by rw [upd_ne h3.symm]; exact e3⟩, ne⟩
theorem But2.mut {d w p : Addr} {H H' : Hp} {o : HO} (b : But2 d w H H') (h : H p = none) : But2 d w H (L2.upd H' p o) := fun x u e h1 h2 => by
  rw [upd_ne (ne_of_none e h)]
  exact b x u e h1 h2
theorem But2.free {d w p : Addr} {H H' : Hp} (b : But2 d w H H') (h : H' p = none) (h1 : p ≠ d) (h2 : p ≠ w) : H p = none := by
  match e : H p with
  | none => rfl
  | some o =>
    have := b p o e h1 h2
    rw [h] at this
    cases this
theorem Same.but2 {d w : Addr} {H H' : Hp} (s : Same H H') : But2 d w H H' := fun b o e _ _ => s b o e
theorem DrawAt.same {H H' : Hp} {d w c : Addr} {n : Nat} (h : DrawAt H d w c n) (s : Same H H') : DrawAt H' d w c n := by
  obtain ⟨⟨r, t, a1, a2, e⟩, ⟨ws, e2⟩, ⟨cs, e3⟩, ne⟩ := h
  exact ⟨⟨r, t, a1, a2, s _ _ e⟩, ⟨ws, s _ _ e2⟩, ⟨cs, s _ _ e3⟩, ne⟩
end SA

set_option Elab.async false
set_option linter.all false
set_option maxRecDepth 100000
set_option maxHeartbeats 4000000
namespace SA
open PySem PySem.Spec PyProof.Rows L2 K83
/-! ### xs[i] += e, xs a list of whole numbers -/
theorem get_listA {X : Cx} : PGet X (fun x y H Q => ∃ p xs j v, x = .ref p ∧ y = .int (j : Nat) ∧ SqL X.K H p xs ∧ xs[j]? = some v ∧ Q v H) := by
  intro pins s σ H x y ov iv Q I rx ry h
  obtain ⟨p, xs, j, z, rfl, rfl, hq, he, q⟩ := h
  cases rx
  obtain ⟨t, rfl⟩ := ry
  obtain ⟨its, r, pl, hz⟩ := I.list hq
  obtain ⟨w, ew, rw'⟩ := r.get he
  have hl := r.length
  have hn := line63
  have hj : j < xs.length := (List.getElem?_eq_some_iff.mp he).1
  exact getItem_listL pl.isList (by omega) (by omega) (by rw [Int.toNat_natCast]; exact ew) ⟨z, H, I, rw', q⟩
end SA

set_option Elab.async false
set_option linter.all false
set_option maxRecDepth 100000
set_option maxHeartbeats 4000000
namespace PySem
open AutoSeq1 (wpAny_loadPart')
theorem meets_enumerate_newT (l : Addr) (items : Array Value) (n : Nat) (dct : Option Addr) (sl : Array (Option Value)) :
    Meets (Builtin.«enumerate.__new__» ⟨[.type "enumerate", .ref l], []⟩) (fun _ R s => s.heap.get? l = some { cls := .type "tuple", dict := dct, data := .seq items n, slots := sl } ∧
      R (.ok (.ret (.ref (s.heap.push { cls := .type "tuple_iterator", data := .fields #[.ref l, .int 0 0] }).objs.size)))
        { s with heap := (s.heap.push { cls := .type "tuple_iterator", data := .fields #[.ref l, .int 0 0] }).push { cls := .type "enumerate", data := .fields #[.none, .bool false, .ref s.heap.objs.size, rawInt 0, .none, .none] } }) :=
  .of_wp fun prog w A R s h => by
    obtain ⟨hp, g, d, tk, os⟩ := s; obtain ⟨hl, h⟩ := h
    have hsub := sub_enumerate
    have hL : Heap.IsTuple (Shared.heap ⟨hp, g, d, tk, os⟩) l items := ⟨_, hl, rfl, n, rfl⟩
    wp_walk using wpAny_loadPart' hl
    refine wpAny_stack_any fun st => wpAny_pure ?_
    split
    · rename_i c _ _ _ _ _
      cases (c == Value.type "enumerate")
      · wp_walk using wpAny_loadPart' hl, wpAny_pyIter_tuple hL
        exact ⟨_, rfl, h⟩
      · wp_walk using wpAny_loadPart' hl, wpAny_pyIter_tuple hL
        exact ⟨_, rfl, h⟩
    · wp_walk using wpAny_loadPart' hl, wpAny_pyIter_tuple hL
      exact ⟨_, rfl, h⟩
section
variable {prog : Program} {w : World} {A : Around} {E : Value → Shared → Prop} {s : Shared}
theorem call_enumerate_tuple {l : Addr} {items : Array Value} {Q : Value → Shared → Prop} (hL : s.heap.IsTuple l items)
    (h : ∀ h', IsEnum h' (s.heap.objs.size + 1) s.heap.objs.size 0 .none → h'.IsTupleIter s.heap.objs.size l 0 → h'.objs.size = s.heap.objs.size + 2 →
      (∀ b o, s.heap.get? b = some o → h'.get? b = some o) → Q (.ref (s.heap.objs.size + 1)) { s with heap := h' }) :
    wpAny (model prog w) A (call (.type "enumerate") [.ref l]) Q E s := by
  obtain ⟨⟨c, dct, dt, sl⟩, hl, hc, n, hd⟩ := hL
  replace hc : c = .type "tuple" := hc
  replace hd : dt = .seq items n := hd
  subst hc hd
  refine callType_new F.called_enumerate (by decide) (F.typeCall_enumerate_1 _) (F.newCall_enumerate_1 _) (fun obj => F.args_object_init_2 obj _) F.entry_enumerate_new
    (meets_enumerate_newT l items n dct sl) ⟨hl, ?_⟩
  have hz : (s.heap.push { cls := .type "tuple_iterator", data := .fields #[.ref l, .int 0 0] }).objs.size = s.heap.objs.size + 1 := Heap.size_push ..
  show _ ∧ _
  rw [hz]
  have he : IsEnum ((s.heap.push { cls := .type "tuple_iterator", data := .fields #[.ref l, .int 0 0] }).push
      { cls := .type "enumerate", data := .fields #[.none, .bool false, .ref s.heap.objs.size, rawInt 0, .none, .none] }) (s.heap.objs.size + 1) s.heap.objs.size 0 .none := by
    have := Heap.get?_push_size (s.heap.push { cls := .type "tuple_iterator", data := .fields #[.ref l, .int 0 0] })
      (o := { cls := .type "enumerate", data := .fields #[.none, .bool false, .ref s.heap.objs.size, rawInt 0, .none, .none] }) rfl
    rw [hz] at this; exact this
  refine ⟨⟨_, he, rfl⟩, h _ he ⟨_, Heap.get?_push_of_some _ (Heap.get?_push_size _ rfl), rfl, rfl⟩ (by rw [Heap.size_push, hz]) fun b o x => Heap.get?_push_of_some _ (Heap.get?_push_of_some _ x)⟩
end
end PySem

set_option Elab.async false
set_option linter.all false
set_option maxRecDepth 100000
set_option maxHeartbeats 4000000
namespace SA
open PySem PySem.Spec PyProof.Rows L2
/-! ### enumerate(tuple) -/
def IteT (K : PySem.W.Frag) (a : Addr) : It :=
  ⟨fun i H => ∃ (xs : List V) (x : V), SqT K H a xs ∧ xs[i]? = some x, fun i H v H' => ∃ T x, v = .ref T ∧ H T = none ∧ H' = upd H T (.tup [.int (i : Nat), x]) ∧ ∀ xs, SqT K H a xs → xs[i]? = some x, fun i H => ∃ xs : List V, SqT K H a xs ∧ xs.length = i⟩
theorem turn_enumT {P : Program} {w : World} {K : PySem.W.Frag} {elts : List Expr} {kk : Nat} {tpos : Pos} (a e it : Addr) (hae : a ≠ e) (hai : a ≠ it) :
    Turn P w K (.Tuple elts kk tpos) (IteT K a) [e, it] e (fun i h => (∃ old, IsEnum h e it ((i : Nat) : Int) old) ∧ h.IsTupleIter it a i ∧ e ≠ it) where
  mem := by simp
  obj := fun i h st b hb => by
    obtain ⟨⟨old, he⟩, ⟨o, ho, hc, hd⟩, _⟩ := st
    have e' : b = e ∨ b = it := by simpa using hb
    rcases e' with z | z
    · rw [z]; exact ⟨_, he, fun v q => nomatch q⟩
    · rw [z]; exact ⟨o, ho, fun v q => by rw [hd] at q; cases q⟩
  keep := fun i h h' st k => let ⟨⟨old, he⟩, hi, hne⟩ := st; ⟨⟨old, k e (by simp) _ he⟩, hi.at fun o q => k it (by simp) o q, hne⟩
  item := by
    intro X hP hw hK hc i pins s σ H E I hf st hg
    subst hP hw hK
    obtain ⟨⟨old, he⟩, hit, hne⟩ := st
    obtain ⟨xs, x, hq, hx⟩ := hg
    obtain ⟨its, rv, p, hz⟩ := I.tuple hq
    obtain ⟨u0, hu0, ru0⟩ := rv.get hx
    have hel : e < s.heap.objs.size := Heap.lt_size he
    have hil : it < s.heap.objs.size := by obtain ⟨_, q, _⟩ := hit; exact Heap.lt_size q
    have hlt : i < its.toArray.size := by rw [List.size_toArray, ← rv.length]; exact (List.getElem?_eq_some_iff.mp hx).1
    refine wpAny_pyNext_enum_itemD (Draws.tuple (prog := X.prog) (w := X.w) (A := X.A.in1) (I.ok.hd hc) it a hai its.toArray) he ⟨hit, p⟩ hlt hne (by simp [hne, hae.symm]) fun u h' tk hpu ho hst hT hsz hk => ?_
    have hu : its.toArray[i]? = some u := hpu
    have hui : its[i]? = some u := by simpa using hu
    rw [hui] at hu0
    have ru : RelV x u := by rw [Option.some.inj hu0]; exact ru0
    have hit' := hst.1
    refine ⟨_, rfl, wpAny_letOwnedTupleGo_enum (s := { s with heap := h', toks := tk + 1 }) ho fun h'' he' sb => ?_⟩
    have hT2 : h''.get? s.heap.objs.size = some { cls := .type "tuple", data := .seq #[.int i tk, u] } := (sb.2 _ (Nat.ne_of_gt hel)).trans hT
    have new : ObjOk X.prog X.w (upd H s.heap.objs.size (.tup [.int (i : Nat), x])) h'' s.heap.objs.size (.tup [.int (i : Nat), x]) :=
      ⟨by show 2 ≤ sizeLine; decide, [.int i tk, u], .cons ⟨_, rfl⟩ (.cons ru .nil), ⟨_, hT2, rfl, _, rfl⟩⟩
    have I1 : Inv X pins σ (upd H s.heap.objs.size (.tup [.int (i : Nat), x])) { s with heap := h'', toks := tk + 1 } :=
      I.turnedNew (t' := tk + 1) (ch := [e, it]) (fun b ob hb q => (sb.2 b (fun z => hb (by simp [z]))).trans (hk b ob (fun z => hb (by simp [z])) (fun z => hb (by simp [z])) q)) hf (Nat.le_refl _) new
    refine ⟨.ref s.heap.objs.size, _, I1, rfl, ⟨_, x, rfl, I.hok.fresh (Nat.le_refl _), rfl, fun ys hy => by rw [I.tuple_inj hy hq]; exact hx⟩, ⟨⟨u, ?_⟩, hit'.at fun o q => (sb.2 it (Ne.symm hne)).trans q, hne⟩, fun b hb => ?_⟩
    · have e1 : ((i + 1 : Nat) : Int) = (i : Int) + 1 := by omega
      rw [e1]; exact he'
    · have hb' : b < s.heap.objs.size := by
        have e' : b = e ∨ b = it := by simpa using hb
        rcases e' with z | z
        · rw [z]; exact hel
        · rw [z]; exact hil
      rw [upd_ne (Nat.ne_of_lt hb')]
      exact (hf b hb).1
  done := by
    intro X hP hw hK hc i pins s σ H E I hf st hg
    subst hP hw hK
    obtain ⟨⟨old, he⟩, hit, hne⟩ := st
    obtain ⟨xs, hq, rfl⟩ := hg
    obtain ⟨its, rv, p, hz⟩ := I.tuple hq
    obtain ⟨f0, f1, f2, f3, f4, f5⟩ := hf it (by simp)
    have hl : its.toArray.size = xs.length := by rw [List.size_toArray, ← rv.length]
    exact wpAny_pyNext_enum_endD (Draws.tuple (prog := X.prog) (w := X.w) (A := X.A.in1) (I.ok.hd hc) it a hai its.toArray) he (by rw [hl]; exact ⟨hit, p⟩) fun h' eb => ⟨rfl, I.turned (t' := s.toks) (fun b o hb q => eb b o hb q) f0 f1 f3 f4 f5⟩
  self := fun A i s Q E st h => let ⟨⟨_, he⟩, _⟩ := st; wpAny_pyIter_enum he h
def iEnumT (K : PySem.W.Frag) (ta : TA) : TI := fun σ H R => ta σ H fun vs H1 => ∃ a xs, vs = [.ref a] ∧ SqT K H1 a xs ∧ R (IteT K a) H1
theorem pi_enumT {X : Cx} {e : Expr} {ta : TA} {p pos tpos : Pos} {elts : List Expr} {kk : Nat} (hg : Gl X "enumerate") (hm : X.mg "enumerate" = none) (ha : PA X [e] ta) (hs : starEach [e] X.env = [(false, eval e X.env)] := by rfl) :
    PI X (.Tuple elts kk tpos) (.Call (.Name "enumerate" p) [e] [] pos) (iEnumT X.K ta) := by
  refine ⟨fun pins s σ H R I h => ?_⟩
  refine Call_ (ld_blt I hg hm PyProof.Rows.boot_enumerate (PyProof.Rows.callWith_type1 (thn (ha.run pos pins s σ H _ I h) fun us s1 ⟨vs, H1, I1, r1, q1⟩ => ?_) hs rfl))
  obtain ⟨a, xs, ex, hq, q⟩ := q1
  subst ex
  cases r1 with
  | cons r rr =>
    cases rr
    cases r
    obtain ⟨its, rv, p', hz⟩ := I1.tuple hq
    have hal : a < s1.heap.objs.size := by obtain ⟨_, e2, _⟩ := id p'; exact Heap.lt_size e2
    refine call_enumerate_tuple p' fun h' he hit hsz hk => wpAny_pyIter_enum he ?_
    have I2 : Inv X pins σ H1 { s1 with heap := h' } := I1.kept (t' := s1.toks) hk
    refine ⟨s1.heap.objs.size + 1, [s1.heap.objs.size + 1, s1.heap.objs.size], _, _, H1, rfl, I2, turn_enumT a (s1.heap.objs.size + 1) s1.heap.objs.size (Nat.ne_of_lt (Nat.lt_succ_of_lt hal)) (Nat.ne_of_lt hal), ⟨⟨.none, he⟩, hit, Nat.succ_ne_self _⟩, fun b hb => ?_, q⟩
    have e' : b = s1.heap.objs.size + 1 ∨ b = s1.heap.objs.size := by simpa using hb
    have hle : s1.heap.objs.size ≤ b := by
      rcases e' with z | z
      · rw [z]; exact Nat.le_add_right _ _
      · rw [z]; exact Nat.le_refl _
    exact I1.fpOk hle (I1.hok.fresh hle)
theorem walk_enumT {K : PySem.W.Frag} {a : Addr} {xs : List V} : Walk (IteT K a) xs.length (fun H => SqT K H a xs) (YPair (fun i => some (.int (i : Nat))) (fun i => xs[i]?)) := by
  refine ⟨fun i _ hi q => ⟨xs, xs[i], q, by simp [hi]⟩, fun _ q => ⟨xs, q, rfl⟩, fun i H v H' _ q y => ?_⟩
  obtain ⟨T, x, h1, h2, h3, h4⟩ := y
  exact ⟨T, .int (i : Nat), x, h1, h2, h3, rfl, h4 xs q⟩
end SA

set_option Elab.async false
set_option linter.all false
set_option maxRecDepth 100000
set_option maxHeartbeats 4000000
/-! spans by prices: ways of least length, over numbers -/
namespace M57
/-- a span: first, last, cost -/
structure Spn where
  f : Nat
  l : Nat
  c : Int
def up {α : Type} (g : Nat → α) (i : Nat) (v : α) : Nat → α := fun x => if x = i then v else g x
theorem up_same {α : Type} {g : Nat → α} {i : Nat} {v : α} : up g i v i = v := if_pos rfl
theorem up_ne {α : Type} {g : Nat → α} {i j : Nat} {v : α} (h : j ≠ i) : up g i v j = g j := if_neg h
/-- an arc: from u to v, by which span, how long -/
structure Arc where
  u : Nat
  v : Nat
  s : Option Nat
  len : Int
deriving DecidableEq
/-- how far, and by which step -/
structure Sta where
  far : Nat → Option Int
  st : Nat → Option (Nat × Option Nat)
def relax (s : Sta) (a : Arc) : Bool × Sta :=
  match s.far a.u with
  | none => (false, s)
  | some du => match s.far a.v with
    | some dv => if dv ≤ du + a.len then (false, s) else (true, ⟨up s.far a.v (some (du + a.len)), up s.st a.v (some (a.u, a.s))⟩)
    | none => (true, ⟨up s.far a.v (some (du + a.len)), up s.st a.v (some (a.u, a.s))⟩)
def run : List Arc → Sta → Bool × Sta
  | [], s => (false, s)
  | a :: l, s => let r := relax s a; let q := run l r.2; (r.1 || q.1, q.2)
theorem run_append : ∀ (l m : List Arc) (s : Sta), run (l ++ m) s = ((run l s).1 || (run m (run l s).2).1, (run m (run l s).2).2)
  | [], m, s => by simp [run]
  | a :: l, m, s => by
    have ih := run_append l m (relax s a).2
    have e : run (a :: (l ++ m)) s = ((relax s a).1 || (run (l ++ m) (relax s a).2).1, (run (l ++ m) (relax s a).2).2) := rfl
    rw [List.cons_append, e, ih]
    have e2 : run (a :: l) s = ((relax s a).1 || (run l (relax s a).2).1, (run l (relax s a).2).2) := rfl
    rw [e2, Bool.or_assoc]
/-- what a relaxing does -/
inductive Rel (s : Sta) (a : Arc) : Bool × Sta → Prop
  | no {du : Int} (hu : s.far a.u = some du) {dv : Int} (hv : s.far a.v = some dv) (h : dv ≤ du + a.len) : Rel s a (false, s)
  | yes {du : Int} (hu : s.far a.u = some du) (h : ∀ dv, s.far a.v = some dv → du + a.len < dv) : Rel s a (true, ⟨up s.far a.v (some (du + a.len)), up s.st a.v (some (a.u, a.s))⟩)
theorem relax_rel {s : Sta} {a : Arc} {du : Int} (hu : s.far a.u = some du) : Rel s a (relax s a) := by
  unfold relax
  rw [hu]
  cases hv : s.far a.v with
  | none => exact .yes hu (fun dv h => by rw [hv] at h; cases h)
  | some dv =>
    show Rel s a (if dv ≤ du + a.len then _ else _)
    split
    · exact .no hu hv (by assumption)
    · exact .yes hu (fun dv' h => by rw [hv] at h; cases h; omega)
/-- a potential of the arcs -/
def Pot (A : List Arc) (φ : Nat → Int) : Prop := ∀ a ∈ A, φ a.v ≤ φ a.u + a.len
/-- the steps lead back to 0 -/
inductive Rt (st : Nat → Option (Nat × Option Nat)) : Nat → Prop
  | zero : Rt st 0
  | step {v u : Nat} {s : Option Nat} (h : st v = some (u, s)) (r : Rt st u) : Rt st v
inductive Anc (st : Nat → Option (Nat × Option Nat)) (v : Nat) : Nat → Prop
  | refl : Anc st v v
  | step {x u : Nat} {s : Option Nat} (h : st x = some (u, s)) (r : Anc st v u) : Anc st v x
structure Inv (A : List Arc) (φ : Nat → Int) (s : Sta) : Prop where
  far0 : s.far 0 = some 0
  st0 : s.st 0 = none
  low : ∀ v d, s.far v = some d → φ v - φ 0 ≤ d
  stp : ∀ v u sp, s.st v = some (u, sp) → ∃ a ∈ A, a.u = u ∧ a.v = v ∧ a.s = sp ∧ ∃ du dv, s.far u = some du ∧ s.far v = some dv ∧ du + a.len ≤ dv
  root : ∀ v d, s.far v = some d → Rt s.st v
theorem Inv.anc {A : List Arc} {φ : Nat → Int} {s : Sta} (hp : Pot A φ) (I : Inv A φ s) {v u : Nat} (h : Anc s.st v u) : ∀ du, s.far u = some du → ∃ dv, s.far v = some dv ∧ dv - φ v ≤ du - φ u := by
  induction h with
  | refl => exact fun du h => ⟨du, h, Int.le_refl _⟩
  | @step x w sp hx r ih =>
    intro dx hdx
    obtain ⟨a, ha, rfl, rfl, rfl, dw, dx', e1, e2, e3⟩ := I.stp x w sp hx
    rw [hdx] at e2
    cases e2
    obtain ⟨dv, h1, h2⟩ := ih dw e1
    have := hp a ha
    exact ⟨dv, h1, by omega⟩
theorem Rt.up_off {st : Nat → Option (Nat × Option Nat)} {v : Nat} {q : Nat × Option Nat} : ∀ {u : Nat}, Rt st u → ¬ Anc st v u → Rt (up st v (some q)) u := by
  intro u h
  induction h with
  | zero => exact fun _ => .zero
  | @step x w sp hx r ih =>
    intro na
    refine .step (u := w) (s := sp) ?_ (ih fun z => na (.step hx z))
    rw [up_ne (fun z => na (by rw [z]; exact .refl))]
    exact hx
theorem Rt.up_on {st : Nat → Option (Nat × Option Nat)} {v : Nat} {q : Nat × Option Nat} (hv : Rt (up st v (some q)) v) : ∀ {x : Nat}, Rt st x → Rt (up st v (some q)) x := by
  intro x h
  induction h with
  | zero => exact .zero
  | @step y w sp hy r ih =>
    by_cases e : y = v
    · exact e ▸ hv
    · exact .step (by rw [up_ne e]; exact hy) ih
theorem Inv.relax {A : List Arc} {φ : Nat → Int} {s : Sta} (hp : Pot A φ) (I : Inv A φ s) {a : Arc} (ha : a ∈ A) (hu : ∃ du, s.far a.u = some du) : Inv A φ (relax s a).2 := by
  obtain ⟨du, hu⟩ := hu
  have R := relax_rel (a := a) hu
  generalize M57.relax s a = r at R
  cases R with
  | no hu hv h => exact I
  | @yes du' hu' h =>
    rw [hu] at hu'
    cases hu'
    have hpa := hp a ha
    have lowu := I.low a.u du hu
    have nanc : ¬ Anc s.st a.v a.u := fun z => by
      obtain ⟨dv, h1, h2⟩ := I.anc hp z du hu
      have := h dv h1
      omega
    have v0 : a.v ≠ 0 := fun z => by
      have := h 0 (by rw [z]; exact I.far0)
      rw [z] at hpa
      omega
    have uv : a.u ≠ a.v := fun z => nanc (by rw [z]; exact .refl)
    have ru := (I.root a.u du hu).up_off (q := (a.u, a.s)) nanc
    have rv : Rt (up s.st a.v (some (a.u, a.s))) a.v := .step up_same ru
    refine ⟨by rw [show (0 : Nat) = 0 from rfl]; exact (up_ne v0.symm).trans I.far0, (up_ne v0.symm).trans I.st0, fun v d hd => ?_, fun v u sp hst => ?_, fun v d hd => ?_⟩
    · by_cases e : v = a.v
      · subst e
        have hd : some (du + a.len) = some d := by rw [← hd]; exact up_same.symm
        cases hd
        omega
      · exact I.low v d ((up_ne e).symm.trans hd)
    · by_cases e : v = a.v
      · subst e
        have hst : some (a.u, a.s) = some (u, sp) := by rw [← hst]; exact up_same.symm
        cases hst
        exact ⟨a, ha, rfl, rfl, rfl, du, du + a.len, (up_ne uv).trans hu, up_same, Int.le_refl _⟩
      · obtain ⟨b, hb, b1, b2, b3, dw, dv, e1, e2, e3⟩ := I.stp v u sp ((up_ne e).symm.trans hst)
        by_cases ew : u = a.v
        · have := h dw (ew ▸ e1)
          exact ⟨b, hb, b1, b2, b3, du + a.len, dv, by rw [ew]; exact up_same, (up_ne e).trans e2, by omega⟩
        · exact ⟨b, hb, b1, b2, b3, dw, dv, (up_ne ew).trans e1, (up_ne e).trans e2, e3⟩
    · by_cases e : v = a.v
      · exact e ▸ rv
      · exact Rt.up_on rv (I.root v d ((up_ne e).symm.trans hd))
/-- far only comes nearer -/
def Le (s t : Sta) : Prop := ∀ v d, s.far v = some d → ∃ d', t.far v = some d' ∧ d' ≤ d
theorem Le.refl (s : Sta) : Le s s := fun v d h => ⟨d, h, Int.le_refl _⟩
theorem Le.trans {s t r : Sta} (a : Le s t) (b : Le t r) : Le s r := fun v d h => by
  obtain ⟨d1, h1, l1⟩ := a v d h
  obtain ⟨d2, h2, l2⟩ := b v d1 h1
  exact ⟨d2, h2, by omega⟩
theorem relax_le (s : Sta) (a : Arc) : Le s (relax s a).2 := by
  cases hu : s.far a.u with
  | none =>
    unfold relax
    rw [hu]
    exact Le.refl s
  | some du =>
    have R := relax_rel (a := a) hu
    generalize relax s a = r at R
    cases R with
    | no _ _ _ => exact Le.refl s
    | @yes du' hu' h =>
      intro v d hd
      by_cases e : v = a.v
      · subst e
        exact ⟨_, up_same, by have := h d hd; omega⟩
      · exact ⟨d, (up_ne e).trans hd, Int.le_refl _⟩
theorem run_le : ∀ (l : List Arc) (s : Sta), Le s (run l s).2
  | [], s => Le.refl s
  | a :: l, s => (relax_le s a).trans (run_le l _)
theorem relax_no {s : Sta} {a : Arc} {du : Int} (hu : s.far a.u = some du) (h : (relax s a).1 = false) : (relax s a).2 = s ∧ ∃ dv, s.far a.v = some dv ∧ dv ≤ du + a.len := by
  have R := relax_rel (a := a) hu
  generalize relax s a = r at R h
  cases R with
  | @no du' hu' dv hv hle =>
    rw [hu] at hu'
    cases hu'
    exact ⟨rfl, dv, hv, hle⟩
  | yes _ _ => cases h
theorem relax_far {s : Sta} {a : Arc} {x : Nat} (h : x ≠ a.v) : (relax s a).2.far x = s.far x := by
  cases hu : s.far a.u with
  | none =>
    unfold relax
    rw [hu]
  | some du =>
    have R := relax_rel (a := a) hu
    generalize relax s a = r at R
    cases R with
    | no _ _ _ => rfl
    | yes _ _ => exact up_ne h
theorem run_far : ∀ (l : List Arc) (s : Sta) (x : Nat), (∀ a ∈ l, x ≠ a.v) → (run l s).2.far x = s.far x
  | [], s, x, _ => rfl
  | a :: l, s, x, h => by
    show (run l (relax s a).2).2.far x = s.far x
    rw [run_far l _ x fun b hb => h b (List.mem_cons_of_mem _ hb), relax_far (h a List.mem_cons_self)]
theorem run_no : ∀ (l : List Arc) (s : Sta), (∀ a ∈ l, ∃ d, s.far a.u = some d) → (run l s).1 = false → (run l s).2 = s ∧ ∀ a ∈ l, ∃ du dv, s.far a.u = some du ∧ s.far a.v = some dv ∧ dv ≤ du + a.len
  | [], s, _, _ => ⟨rfl, fun a h => by cases h⟩
  | a :: l, s, hf, h => by
    have h : ((relax s a).1 || (run l (relax s a).2).1) = false := h
    rw [Bool.or_eq_false_iff] at h
    obtain ⟨du, hu⟩ := hf a List.mem_cons_self
    obtain ⟨e1, dv, hv, hle⟩ := relax_no hu h.1
    rw [e1] at h
    obtain ⟨e2, q⟩ := run_no l s (fun b hb => hf b (List.mem_cons_of_mem _ hb)) h.2
    refine ⟨?_, fun b hb => ?_⟩
    · show (run l (relax s a).2).2 = s
      rw [e1, e2]
    · rcases List.mem_cons.mp hb with rfl | hb
      · exact ⟨du, dv, hu, hv, hle⟩
      · exact q b hb
/-- an arc that goes by is in order -/
def Ok (s : Sta) (a : Arc) : Prop := ∃ du dv, s.far a.u = some du ∧ s.far a.v = some dv ∧ dv ≤ du + a.len
theorem relax_ok {s : Sta} {a : Arc} {du : Int} (hu : s.far a.u = some du) (uv : a.u ≠ a.v) : Ok (relax s a).2 a := by
  have R := relax_rel (a := a) hu
  generalize relax s a = r at R
  cases R with
  | @no du' hu' dv hv hle =>
    rw [hu] at hu'
    cases hu'
    exact ⟨du, dv, hu, hv, hle⟩
  | @yes du' hu' h =>
    rw [hu] at hu'
    cases hu'
    exact ⟨du, du + a.len, (up_ne uv).trans hu, up_same, Int.le_refl _⟩
/-- whenever an arc is looked at, its place is known -/
def Gd : Sta → List Arc → Prop
  | _, [] => True
  | s, a :: l => (∃ d, s.far a.u = some d) ∧ Gd (relax s a).2 l
theorem Gd.append : ∀ {l m : List Arc} {s : Sta}, Gd s l → Gd (run l s).2 m → Gd s (l ++ m)
  | [], _, _, _, h => h
  | _ :: _, _, _, g, h => ⟨g.1, Gd.append g.2 h⟩
theorem Le.gd {s t : Sta} (h : Le s t) {x : Nat} (d : ∃ d, s.far x = some d) : ∃ d, t.far x = some d := by
  obtain ⟨d, e⟩ := d
  obtain ⟨d', e', _⟩ := h x d e
  exact ⟨d', e'⟩
theorem Gd.of : ∀ {l : List Arc} {s : Sta}, (∀ a ∈ l, ∃ d, s.far a.u = some d) → Gd s l
  | [], _, _ => trivial
  | a :: _, s, h => ⟨h a List.mem_cons_self, Gd.of fun b hb => (relax_le s a).gd (h b (List.mem_cons_of_mem _ hb))⟩
/-- a pass over arcs of which no later one leads back: all are in order behind it -/
theorem run_ok : ∀ (l : List Arc) (s : Sta), (∀ a ∈ l, a.u ≠ a.v) → l.Pairwise (fun a b => a.u ≠ b.v) → Gd s l → ∀ a ∈ l, Ok (run l s).2 a
  | [], s, _, _, _ => fun a h => by cases h
  | a :: l, s, hne, hp, hf => fun b hb => by
    obtain ⟨p1, p2⟩ := List.pairwise_cons.mp hp
    show Ok (run l (relax s a).2).2 b
    obtain ⟨du, hu⟩ := hf.1
    rcases List.mem_cons.mp hb with rfl | hb
    · obtain ⟨du', dv, e1, e2, e3⟩ := relax_ok hu (hne b List.mem_cons_self)
      obtain ⟨dv', e4, e5⟩ := run_le l (relax s b).2 b.v dv e2
      refine ⟨du', dv', ?_, e4, by omega⟩
      rw [run_far l _ _ p1]
      exact e1
    · exact run_ok l _ (fun x hx => hne x (List.mem_cons_of_mem _ hx)) p2 hf.2 b hb
theorem Inv.run {A : List Arc} {φ : Nat → Int} (hp : Pot A φ) : ∀ (l : List Arc) (s : Sta), Inv A φ s → (∀ a ∈ l, a ∈ A) → Gd s l → Inv A φ (run l s).2
  | [], s, I, _, _ => I
  | a :: l, s, I, hA, hf => by
    show Inv A φ (M57.run l (M57.relax s a).2).2
    exact Inv.run hp l _ (I.relax hp (hA a List.mem_cons_self) hf.1) (fun b hb => hA b (List.mem_cons_of_mem _ hb)) hf.2
/-! ### sums -/
def sumTo (g : Nat → Int) : Nat → Int
  | 0 => 0
  | n + 1 => sumTo g n + g n
theorem sumTo_congr {g h : Nat → Int} : ∀ {n : Nat}, (∀ i, i < n → g i = h i) → sumTo g n = sumTo h n
  | 0, _ => rfl
  | n + 1, e => by
    unfold sumTo
    rw [sumTo_congr fun i hi => e i (Nat.lt_succ_of_lt hi), e n (Nat.lt_succ_self n)]
theorem sumTo_up {g h : Nat → Int} {i : Nat} : ∀ {n : Nat}, (∀ j, j < n → j ≠ i → h j = g j) → i < n → sumTo h n = sumTo g n + (h i - g i)
  | 0, _, hi => absurd hi (Nat.not_lt_zero _)
  | n + 1, e, hi => by
    unfold sumTo
    by_cases c : i = n
    · subst c
      rw [sumTo_congr fun j hj => e j (Nat.lt_succ_of_lt hj) (Nat.ne_of_lt hj)]
      omega
    · rw [sumTo_up (fun j hj hne => e j (Nat.lt_succ_of_lt hj) hne) (by omega), e n (Nat.lt_succ_self n) (fun z => c z.symm)]
      omega
theorem sumTo_nonneg {g : Nat → Int} : ∀ {n : Nat}, (∀ i, i < n → 0 ≤ g i) → 0 ≤ sumTo g n
  | 0, _ => Int.le_refl _
  | n + 1, h => by
    unfold sumTo
    have := sumTo_nonneg fun i hi => h i (Nat.lt_succ_of_lt hi)
    have := h n (Nat.lt_succ_self n)
    omega
theorem sumTo_le {g h : Nat → Int} : ∀ {n : Nat}, (∀ i, i < n → g i ≤ h i) → sumTo g n ≤ sumTo h n
  | 0, _ => Int.le_refl _
  | n + 1, e => by
    unfold sumTo
    have := sumTo_le fun i hi => e i (Nat.lt_succ_of_lt hi)
    have := e n (Nat.lt_succ_self n)
    omega
theorem sumTo_lt {g h : Nat → Int} {v : Nat} : ∀ {n : Nat}, (∀ i, i < n → g i ≤ h i) → v < n → g v < h v → sumTo g n < sumTo h n
  | 0, _, hv, _ => absurd hv (Nat.not_lt_zero _)
  | n + 1, e, hv, l => by
    unfold sumTo
    by_cases c : v = n
    · subst c
      have := sumTo_le fun i hi => e i (Nat.lt_succ_of_lt hi)
      omega
    · have := sumTo_lt (fun i hi => e i (Nat.lt_succ_of_lt hi)) (show v < n by omega) l
      have := e n (Nat.lt_succ_self n)
      omega
/-- a run that changes something comes nearer somewhere -/
theorem run_yes : ∀ (l : List Arc) (s : Sta), (∀ a ∈ l, ∃ d, s.far a.u = some d) → (∀ a ∈ l, ∃ d, s.far a.v = some d) → (run l s).1 = true → ∃ a ∈ l, ∃ d d', s.far a.v = some d ∧ (run l s).2.far a.v = some d' ∧ d' < d
  | [], s, _, _, h => by cases h
  | a :: l, s, hu, hv, h => by
    obtain ⟨du, eu⟩ := hu a List.mem_cons_self
    obtain ⟨dv, ev⟩ := hv a List.mem_cons_self
    have R := relax_rel (a := a) eu
    have h : ((relax s a).1 || (run l (relax s a).2).1) = true := h
    show ∃ b ∈ a :: l, ∃ d d', s.far b.v = some d ∧ (run l (relax s a).2).2.far b.v = some d' ∧ d' < d
    generalize relax s a = r at R h
    cases R with
    | no _ _ _ =>
      obtain ⟨b, hb, d, d', e1, e2, e3⟩ := run_yes l s (fun x hx => hu x (List.mem_cons_of_mem _ hx)) (fun x hx => hv x (List.mem_cons_of_mem _ hx)) (by simpa using h)
      exact ⟨b, List.mem_cons_of_mem _ hb, d, d', e1, e2, e3⟩
    | @yes du' hu' hlt =>
      have h1 := hlt dv ev
      have e1 : up s.far a.v (some (du' + a.len)) a.v = some (du' + a.len) := up_same
      obtain ⟨d', e2, e3⟩ := run_le l ⟨up s.far a.v (some (du' + a.len)), up s.st a.v (some (a.u, a.s))⟩ a.v _ e1
      exact ⟨a, List.mem_cons_self, dv, d', ev, e2, by omega⟩
/-- how far all is from the least that can be -/
def far0 (s : Sta) (v : Nat) : Int := (s.far v).getD 0
def rest (φ : Nat → Int) (L : Nat) (s : Sta) : Int := sumTo (fun v => far0 s v - (φ v - φ 0)) (L + 1)
theorem rest_nonneg {A : List Arc} {φ : Nat → Int} {L : Nat} {s : Sta} (I : Inv A φ s) (hd : ∀ v, v ≤ L → ∃ d, s.far v = some d) : 0 ≤ rest φ L s := by
  refine sumTo_nonneg fun v hv => ?_
  obtain ⟨d, e⟩ := hd v (by omega)
  have := I.low v d e
  unfold far0
  rw [e]
  show 0 ≤ d - _
  omega
theorem rest_lt {φ : Nat → Int} {L : Nat} {s t : Sta} (hd : ∀ v, v ≤ L → ∃ d, s.far v = some d) (le : Le s t) {v : Nat} (hv : v ≤ L) {d d' : Int} (e : s.far v = some d) (e' : t.far v = some d') (h : d' < d) : rest φ L t < rest φ L s := by
  refine sumTo_lt (v := v) (fun i hi => ?_) (by omega) ?_
  · obtain ⟨x, ex⟩ := hd i (by omega)
    obtain ⟨y, ey, hxy⟩ := le i x ex
    unfold far0
    rw [ex, ey]
    show y - _ ≤ x - _
    omega
  · unfold far0
    rw [e, e']
    show d' - _ < d - _
    omega
theorem rest_le {φ : Nat → Int} {L : Nat} {s t : Sta} (hd : ∀ v, v ≤ L → ∃ d, s.far v = some d) (le : Le s t) : rest φ L t ≤ rest φ L s := by
  refine sumTo_le fun i hi => ?_
  obtain ⟨x, ex⟩ := hd i (by omega)
  obtain ⟨y, ey, hxy⟩ := le i x ex
  unfold far0
  rw [ex, ey]
  show y - _ ≤ x - _
  omega
end M57

set_option Elab.async false
set_option linter.all false
set_option maxRecDepth 100000
set_option maxHeartbeats 4000000
namespace M57
/-- n spans over the spots 0 to L - 1 -/
structure Pb where
  n : Nat
  L : Nat
  f : Nat → Nat
  l : Nat → Nat
  c : Nat → Int
structure Pb.Ok (p : Pb) : Prop where
  fl : ∀ i, i < p.n → p.f i ≤ p.l i
  lL : ∀ i, i < p.n → p.l i < p.L
  c0 : ∀ i, i < p.n → 0 ≤ p.c i
section
variable (p : Pb)
def chain (v : Nat) : Arc := ⟨v, v + 1, none, 0⟩
def ahead (i : Nat) : Arc := ⟨p.f i, p.l i + 1, some i, 0 - p.c i⟩
def back (i : Nat) : Arc := ⟨p.l i + 1, p.f i, some i, p.c i⟩
def chainB (v : Nat) : Arc := ⟨v, v - 1, none, 0⟩
def beg (v : Nat) : List Nat := (List.range p.n).filter fun i => p.f i == v
def end_ (v : Nat) : List Nat := (List.range p.n).filter fun i => p.l i + 1 == v
def fwd (k : Nat → Bool) (v : Nat) : List Arc := chain v :: ((beg p v).filter fun i => !k i).map (ahead p)
def bwd (k : Nat → Bool) (e : Nat → Int) (v : Nat) : List Arc := (if 0 < e (v - 1) then [chainB v] else []) ++ ((end_ p v).filter k).map (back p)
def fwds (k : Nat → Bool) : List Arc := (List.range p.L).flatMap (fwd p k)
def downs (L : Nat) : List Nat := (List.range L).map fun j => L - j
def bwds (k : Nat → Bool) (e : Nat → Int) : List Arc := (downs p.L).flatMap (bwd p k e)
def arcs (k : Nat → Bool) (e : Nat → Int) : List Arc := fwds p k ++ bwds p k e
end
section
variable {p : Pb} {k : Nat → Bool} {e : Nat → Int}
theorem mem_fwds {a : Arc} : a ∈ fwds p k ↔ (∃ v, v < p.L ∧ a = chain v) ∨ ∃ i, i < p.n ∧ p.f i < p.L ∧ k i = false ∧ a = ahead p i := by
  unfold fwds fwd beg
  rw [List.mem_flatMap]
  constructor
  · rintro ⟨v, hv, ha⟩
    rw [List.mem_range] at hv
    rcases List.mem_cons.mp ha with rfl | ha
    · exact .inl ⟨v, hv, rfl⟩
    · obtain ⟨i, hi, rfl⟩ := List.mem_map.mp ha
      rw [List.mem_filter, List.mem_filter, List.mem_range] at hi
      obtain ⟨⟨h1, h2⟩, h3⟩ := hi
      have h2 : p.f i = v := by simpa using h2
      exact .inr ⟨i, h1, h2 ▸ hv, by simpa using h3, rfl⟩
  · rintro (⟨v, hv, rfl⟩ | ⟨i, hi, hf, hk, rfl⟩)
    · exact ⟨v, List.mem_range.mpr hv, List.mem_cons_self⟩
    · refine ⟨p.f i, List.mem_range.mpr hf, List.mem_cons_of_mem _ (List.mem_map.mpr ⟨i, ?_, rfl⟩)⟩
      rw [List.mem_filter, List.mem_filter, List.mem_range]
      exact ⟨⟨hi, by simp⟩, by simp [hk]⟩
theorem mem_downs {L v : Nat} : v ∈ downs L ↔ 1 ≤ v ∧ v ≤ L := by
  unfold downs
  rw [List.mem_map]
  constructor
  · rintro ⟨j, hj, rfl⟩
    rw [List.mem_range] at hj
    omega
  · rintro ⟨h1, h2⟩
    exact ⟨L - v, List.mem_range.mpr (by omega), by omega⟩
theorem mem_bwds {a : Arc} : a ∈ bwds p k e ↔ (∃ v, v < p.L ∧ 0 < e v ∧ a = chainB (v + 1)) ∨ ∃ i, i < p.n ∧ p.l i < p.L ∧ k i = true ∧ a = back p i := by
  unfold bwds bwd end_
  rw [List.mem_flatMap]
  constructor
  · rintro ⟨v, hv, ha⟩
    rw [mem_downs] at hv
    rcases List.mem_append.mp ha with ha | ha
    · split at ha
      · rw [List.mem_singleton] at ha
        exact .inl ⟨v - 1, by omega, by assumption, by rw [ha, Nat.sub_add_cancel hv.1]⟩
      · cases ha
    · obtain ⟨i, hi, rfl⟩ := List.mem_map.mp ha
      rw [List.mem_filter, List.mem_filter, List.mem_range] at hi
      obtain ⟨⟨h1, h2⟩, h3⟩ := hi
      have h2 : p.l i + 1 = v := by simpa using h2
      exact .inr ⟨i, h1, by omega, h3, rfl⟩
  · rintro (⟨v, hv, he, rfl⟩ | ⟨i, hi, hl, hk, rfl⟩)
    · refine ⟨v + 1, mem_downs.mpr ⟨by omega, by omega⟩, List.mem_append_left _ ?_⟩
      rw [Nat.add_sub_cancel, if_pos he]
      exact List.mem_cons_self
    · refine ⟨p.l i + 1, mem_downs.mpr ⟨by omega, by omega⟩, List.mem_append_right _ (List.mem_map.mpr ⟨i, ?_, rfl⟩)⟩
      rw [List.mem_filter, List.mem_filter, List.mem_range]
      exact ⟨⟨hi, by simp⟩, hk⟩
theorem fwds_lt (h : p.Ok) {a : Arc} (ha : a ∈ fwds p k) : a.u < a.v ∧ a.v ≤ p.L := by
  rcases mem_fwds.mp ha with ⟨v, hv, rfl⟩ | ⟨i, hi, hf, hk, rfl⟩
  · exact ⟨Nat.lt_succ_self _, hv⟩
  · have := h.fl i hi
    have := h.lL i hi
    exact ⟨show p.f i < p.l i + 1 by omega, show p.l i + 1 ≤ p.L by omega⟩
theorem bwds_lt (h : p.Ok) {a : Arc} (ha : a ∈ bwds p k e) : a.u ≤ p.L ∧ a.v ≤ p.L := by
  rcases mem_bwds.mp ha with ⟨v, hv, he, rfl⟩ | ⟨i, hi, hf, hk, rfl⟩
  · exact ⟨show v + 1 ≤ p.L by omega, show v + 1 - 1 ≤ p.L by omega⟩
  · have := h.fl i hi
    have := h.lL i hi
    exact ⟨show p.l i + 1 ≤ p.L by omega, show p.f i ≤ p.L by omega⟩
theorem fwd_u {v : Nat} {a : Arc} (ha : a ∈ fwd p k v) : a.u = v := by
  unfold fwd beg at ha
  rcases List.mem_cons.mp ha with rfl | ha
  · rfl
  · obtain ⟨i, hi, rfl⟩ := List.mem_map.mp ha
    rw [List.mem_filter, List.mem_filter] at hi
    show p.f i = v
    simpa using hi.1.2
theorem fwd_v (h : p.Ok) {v : Nat} {a : Arc} (ha : a ∈ fwd p k v) : v < a.v := by
  have hu := fwd_u ha
  unfold fwd beg at ha
  rcases List.mem_cons.mp ha with rfl | ha
  · exact Nat.lt_succ_self v
  · obtain ⟨i, hi, rfl⟩ := List.mem_map.mp ha
    rw [List.mem_filter, List.mem_filter, List.mem_range] at hi
    have := h.fl i hi.1.1
    have hu : p.f i = v := hu
    show v < p.l i + 1
    omega
theorem pw_all {α : Type} {R : α → α → Prop} : ∀ {l : List α}, (∀ a ∈ l, ∀ b ∈ l, R a b) → l.Pairwise R
  | [], _ => .nil
  | x :: l, h => List.pairwise_cons.mpr ⟨fun b hb => h x List.mem_cons_self b (List.mem_cons_of_mem _ hb), pw_all fun a ha b hb => h a (List.mem_cons_of_mem _ ha) b (List.mem_cons_of_mem _ hb)⟩
/-- the forward arcs, node by node: no later one leads back -/
theorem fwds_pw (h : p.Ok) : (fwds p k).Pairwise fun a b => a.u ≠ b.v := by
  unfold fwds
  rw [List.pairwise_flatMap]
  refine ⟨fun v _ => ?_, ?_⟩
  · refine pw_all fun a ha b hb => ?_
    have := fwd_u ha
    have := fwd_v h hb
    omega
  · refine List.pairwise_lt_range.imp fun {v w} hvw a ha b hb => ?_
    have := fwd_u ha
    have := fwd_v h hb
    omega
/-- all places up to a node are known -/
def Upto (s : Sta) (v : Nat) : Prop := ∀ x, x ≤ v → ∃ d, s.far x = some d
theorem Upto.le {s t : Sta} {v : Nat} (h : Upto s v) (l : Le s t) : Upto t v := fun x hx => l.gd (h x hx)
theorem fwd_run {s : Sta} {v : Nat} (h : Upto s v) : Gd s (fwd p k v) ∧ Upto (run (fwd p k v) s).2 (v + 1) := by
  have g : Gd s (fwd p k v) := Gd.of fun a ha => by
    rw [fwd_u ha]
    exact h v (Nat.le_refl _)
  refine ⟨g, fun x hx => ?_⟩
  by_cases c : x ≤ v
  · exact (run_le _ _).gd (h x c)
  · have : x = v + 1 := by omega
    subst this
    obtain ⟨d, hd⟩ := h v (Nat.le_refl _)
    have R := relax_rel (a := chain v) hd
    have r1 : ∃ d, (relax s (chain v)).2.far (v + 1) = some d := by
      generalize relax s (chain v) = r at R
      cases R with
      | no _ hv _ => exact ⟨_, hv⟩
      | yes _ _ => exact ⟨_, up_same⟩
    exact (run_le _ (relax s (chain v)).2).gd r1
theorem fwds_run {s : Sta} (h : Upto s 0) : ∀ m : Nat, Gd s ((List.range m).flatMap (fwd p k)) ∧ Upto (run ((List.range m).flatMap (fwd p k)) s).2 m
  | 0 => ⟨trivial, h⟩
  | m + 1 => by
    obtain ⟨g, u⟩ := fwds_run h m
    rw [List.range_succ, List.flatMap_append, List.flatMap_singleton]
    obtain ⟨g2, u2⟩ := fwd_run (p := p) (k := k) u
    refine ⟨g.append g2, ?_⟩
    rw [run_append]
    exact u2
theorem bwds_gd (h : p.Ok) {s : Sta} (u : Upto s p.L) : Gd s (bwds p k e) := Gd.of fun a ha => u _ (bwds_lt h ha).1
/-- where a round changes nothing behind the forward pass, all arcs are in order -/
theorem round_end (h : p.Ok) {s : Sta} (u : Upto s 0) (hf : (run (bwds p k e) (run (fwds p k) s).2).1 = false) : (run (bwds p k e) (run (fwds p k) s).2).2 = (run (fwds p k) s).2 ∧ Upto (run (fwds p k) s).2 p.L ∧ ∀ a ∈ arcs p k e, Ok (run (fwds p k) s).2 a := by
  obtain ⟨g, u2⟩ := fwds_run (p := p) (k := k) u p.L
  have fo := run_ok (fwds p k) s (fun a ha => Nat.ne_of_lt (fwds_lt h ha).1) (fwds_pw h) g
  have bn := run_no (bwds p k e) (run (fwds p k) s).2 (fun a ha => u2 _ (bwds_lt h ha).1) hf
  refine ⟨bn.1, u2, fun a ha => ?_⟩
  rcases List.mem_append.mp ha with ha | ha
  · exact fo a ha
  · exact bn.2 a ha
end
end M57

set_option Elab.async false
set_option linter.all false
set_option maxRecDepth 100000
set_option maxHeartbeats 4000000
namespace M57
/-- the way that the steps tell, from its end back to 0 -/
inductive Pth (A : List Arc) (s : Sta) : Nat → List Arc → Prop
  | nil : Pth A s 0 []
  | cons {a : Arc} {l : List Arc} (ha : a ∈ A) (hs : s.st a.v = some (a.u, a.s)) (le : ∃ du dv, s.far a.u = some du ∧ s.far a.v = some dv ∧ du + a.len ≤ dv) (r : Pth A s a.u l) : Pth A s a.v (a :: l)
theorem Inv.pth {A : List Arc} {φ : Nat → Int} {s : Sta} (I : Inv A φ s) {v : Nat} (h : Rt s.st v) : ∃ l, Pth A s v l := by
  induction h with
  | zero => exact ⟨[], .nil⟩
  | @step v u sp hv r ih =>
    obtain ⟨l, hl⟩ := ih
    obtain ⟨a, ha, rfl, rfl, rfl, le⟩ := I.stp v u sp hv
    exact ⟨a :: l, .cons ha hv le hl⟩
theorem Pth.len {A : List Arc} {s : Sta} (h0 : s.st 0 = none) {v : Nat} {l : List Arc} (h : Pth A s v l) : ∀ {w : Nat} {m : List Arc}, w = v → Pth A s w m → l.length = m.length := by
  induction h with
  | nil =>
    intro w m e h2
    cases h2 with
    | nil => rfl
    | cons ha hs le r =>
      rw [e, h0] at hs
      cases hs
  | @cons a l ha hs le r ih =>
    intro w m e h2
    cases h2 with
    | nil =>
      rw [← e, h0] at hs
      cases hs
    | @cons b m hb hs2 le2 r2 =>
      rw [e, hs] at hs2
      injection hs2 with hs2
      injection hs2 with e1 e2
      rw [List.length_cons, List.length_cons, ih e1.symm r2]
theorem Pth.suf {A : List Arc} {s : Sta} {v : Nat} {l : List Arc} (h : Pth A s v l) : ∀ b ∈ l, ∃ m, Pth A s b.v (b :: m) ∧ (b :: m).length ≤ l.length := by
  induction h with
  | nil => exact fun b hb => by cases hb
  | @cons a l ha hs le r ih =>
    intro b hb
    rcases List.mem_cons.mp hb with rfl | hb
    · exact ⟨l, .cons ha hs le r, Nat.le_refl _⟩
    · obtain ⟨m, h1, h2⟩ := ih b hb
      exact ⟨m, h1, Nat.le_trans h2 (by rw [List.length_cons]; omega)⟩
theorem Pth.pw {A : List Arc} {s : Sta} (h0 : s.st 0 = none) {v : Nat} {l : List Arc} (h : Pth A s v l) : l.Pairwise fun a b => a.v ≠ b.v := by
  induction h with
  | nil => exact .nil
  | @cons a l ha hs le r ih =>
    refine List.pairwise_cons.mpr ⟨fun b hb e => ?_, ih⟩
    obtain ⟨m, h1, h2⟩ := r.suf b hb
    have := Pth.len h0 (Pth.cons ha hs le r) e.symm h1
    rw [List.length_cons] at this
    omega
theorem Pth.mem {A : List Arc} {s : Sta} {v : Nat} {l : List Arc} (h : Pth A s v l) : ∀ a ∈ l, a ∈ A ∧ ∃ du dv, s.far a.u = some du ∧ s.far a.v = some dv ∧ du + a.len ≤ dv := by
  induction h with
  | nil => exact fun b hb => by cases hb
  | @cons a l ha hs le r ih =>
    intro b hb
    rcases List.mem_cons.mp hb with rfl | hb
    · exact ⟨ha, le⟩
    · exact ih b hb
/-! ### one more way -/
abbrev Flow := (Nat → Bool) × (Nat → Int)
def aug (x : Flow) (a : Arc) : Flow := match a.s with
  | some i => (up x.1 i (decide (a.u < a.v)), x.2)
  | none => if a.u < a.v then (x.1, up x.2 a.u (x.2 a.u + 1)) else (x.1, up x.2 a.v (x.2 a.v - 1))
def cov (p : Pb) (k : Nat → Bool) (x : Nat) : Int := sumTo (fun i => if k i = true ∧ p.f i ≤ x ∧ x ≤ p.l i then 1 else 0) p.n
section
variable {p : Pb}
/-- an arc that may be gone at this flow -/
inductive RA (p : Pb) (x : Flow) : Arc → Prop
  | ahead {i : Nat} (hi : i < p.n) (hk : x.1 i = false) : RA p x (ahead p i)
  | back {i : Nat} (hi : i < p.n) (hk : x.1 i = true) : RA p x (back p i)
  | chain {w : Nat} (hw : w < p.L) : RA p x (chain w)
  | chainB {w : Nat} (hw : w < p.L) : RA p x (chainB (w + 1))
theorem RA.of {k : Nat → Bool} {e : Nat → Int} {a : Arc} (ha : a ∈ arcs p k e) : RA p (k, e) a := by
  rcases List.mem_append.mp ha with ha | ha
  · rcases mem_fwds.mp ha with ⟨v, hv, rfl⟩ | ⟨i, hi, hf, hk, rfl⟩
    · exact .chain hv
    · exact .ahead hi hk
  · rcases mem_bwds.mp ha with ⟨v, hv, he, rfl⟩ | ⟨i, hi, hf, hk, rfl⟩
    · exact .chainB hv
    · exact .back hi hk
theorem cov_up (k : Nat → Bool) {i : Nat} (hi : i < p.n) (b : Bool) (x : Nat) : cov p (up k i b) x = cov p k x + ((if b = true ∧ p.f i ≤ x ∧ x ≤ p.l i then 1 else 0) - (if k i = true ∧ p.f i ≤ x ∧ x ≤ p.l i then 1 else 0)) := by
  unfold cov
  rw [sumTo_up (g := fun j => if k j = true ∧ p.f j ≤ x ∧ x ≤ p.l j then (1 : Int) else 0) (i := i) (fun j _ hj => ?_) hi]
  · rw [up_same]
  · rw [up_ne hj]
/-- what one arc changes at a cut -/
theorem aug_cut (h : p.Ok) {x : Flow} {a : Arc} (r : RA p x a) (y : Nat) : (aug x a).2 y + cov p (aug x a).1 y = x.2 y + cov p x.1 y + ((if y < a.v then 1 else 0) - (if y < a.u then 1 else 0)) := by
  cases r with
  | @ahead i hi hk =>
    have hfl := h.fl i hi
    show x.2 y + cov p (up x.1 i (decide (p.f i < p.l i + 1))) y = x.2 y + cov p x.1 y + ((if y < p.l i + 1 then 1 else 0) - (if y < p.f i then 1 else 0))
    rw [cov_up x.1 hi, hk, decide_eq_true (by omega)]
    simp only [true_and, Bool.false_eq_true, false_and, if_false]
    by_cases c1 : p.f i ≤ y <;> by_cases c2 : y ≤ p.l i
    · rw [if_pos ⟨c1, c2⟩, if_pos (by omega), if_neg (by omega)]; omega
    · rw [if_neg (fun z => c2 z.2), if_neg (by omega), if_neg (by omega)]; omega
    · rw [if_neg (fun z => c1 z.1), if_pos (by omega), if_pos (by omega)]; omega
    · omega
  | @back i hi hk =>
    have hfl := h.fl i hi
    show x.2 y + cov p (up x.1 i (decide (p.l i + 1 < p.f i))) y = x.2 y + cov p x.1 y + ((if y < p.f i then 1 else 0) - (if y < p.l i + 1 then 1 else 0))
    rw [cov_up x.1 hi, hk, decide_eq_false (by omega)]
    simp only [true_and, Bool.false_eq_true, false_and, if_false]
    by_cases c1 : p.f i ≤ y <;> by_cases c2 : y ≤ p.l i
    · rw [if_pos ⟨c1, c2⟩, if_neg (by omega), if_pos (by omega)]; omega
    · rw [if_neg (fun z => c2 z.2), if_neg (by omega), if_neg (by omega)]; omega
    · rw [if_neg (fun z => c1 z.1), if_pos (by omega), if_pos (by omega)]; omega
    · omega
  | @chain w hw =>
    show (if w < w + 1 then (x.1, up x.2 w (x.2 w + 1)) else (x.1, up x.2 (w + 1) (x.2 (w + 1) - 1))).2 y + cov p (if w < w + 1 then (x.1, up x.2 w (x.2 w + 1)) else (x.1, up x.2 (w + 1) (x.2 (w + 1) - 1))).1 y = x.2 y + cov p x.1 y + ((if y < w + 1 then 1 else 0) - (if y < w then 1 else 0))
    rw [if_pos (Nat.lt_succ_self w)]
    show up x.2 w (x.2 w + 1) y + cov p x.1 y = _
    by_cases c : y = w
    · subst c
      rw [up_same, if_pos (Nat.lt_succ_self y), if_neg (Nat.lt_irrefl y)]
      omega
    · rw [up_ne c]
      by_cases c1 : y < w
      · rw [if_pos (by omega), if_pos c1]; omega
      · rw [if_neg (by omega), if_neg c1]; omega
  | @chainB w hw =>
    show (if w + 1 < w then (x.1, up x.2 (w + 1) (x.2 (w + 1) + 1)) else (x.1, up x.2 w (x.2 w - 1))).2 y + cov p (if w + 1 < w then (x.1, up x.2 (w + 1) (x.2 (w + 1) + 1)) else (x.1, up x.2 w (x.2 w - 1))).1 y = x.2 y + cov p x.1 y + ((if y < w then 1 else 0) - (if y < w + 1 then 1 else 0))
    rw [if_neg (by omega)]
    show up x.2 w (x.2 w - 1) y + cov p x.1 y = _
    by_cases c : y = w
    · subst c
      rw [up_same, if_pos (Nat.lt_succ_self y), if_neg (Nat.lt_irrefl y)]
      omega
    · rw [up_ne c]
      by_cases c1 : y < w
      · rw [if_pos c1, if_pos (by omega)]; omega
      · rw [if_neg c1, if_neg (by omega)]; omega
/-- an arc's own span alone is changed -/
theorem aug_k {x : Flow} {a : Arc} {i : Nat} (h : a.s ≠ some i) : (aug x a).1 i = x.1 i := by
  unfold aug
  split
  · rename_i j e
    refine up_ne fun z => h ?_
    rw [e, z]
  · split <;> rfl
theorem RA.same {x : Flow} {a b : Arc} {i : Nat} (ha : RA p x a) (hb : RA p x b) (ea : a.s = some i) (eb : b.s = some i) : a = b := by
  cases ha with
  | ahead hi hk =>
    cases ea
    cases hb with
    | ahead hj hk2 => cases eb; rfl
    | back hj hk2 =>
      cases eb
      rw [hk] at hk2
      cases hk2
    | chain _ => cases eb
    | chainB _ => cases eb
  | back hi hk =>
    cases ea
    cases hb with
    | back hj hk2 => cases eb; rfl
    | ahead hj hk2 =>
      cases eb
      rw [hk] at hk2
      cases hk2
    | chain _ => cases eb
    | chainB _ => cases eb
  | chain _ => cases ea
  | chainB _ => cases ea
theorem RA.keep {x : Flow} {a b : Arc} (ha : RA p x a) (hb : RA p x b) (hv : a.v ≠ b.v) : RA p (aug x a) b := by
  have ns : ∀ i, b.s = some i → a.s ≠ some i := fun i eb ea => hv (by rw [ha.same hb ea eb])
  cases hb with
  | ahead hj hk => exact .ahead hj ((aug_k (ns _ rfl)).trans hk)
  | back hj hk => exact .back hj ((aug_k (ns _ rfl)).trans hk)
  | chain hw => exact .chain hw
  | chainB hw => exact .chainB hw
/-- a whole way -/
theorem augs_cut (h : p.Ok) {A : List Arc} {s : Sta} {v : Nat} {l : List Arc} (hp : Pth A s v l) : ∀ (x : Flow), l.Pairwise (fun a b => a.v ≠ b.v) → (∀ a ∈ l, RA p x a) → ∀ y, (l.foldl aug x).2 y + cov p (l.foldl aug x).1 y = x.2 y + cov p x.1 y + (if y < v then 1 else 0) := by
  induction hp with
  | nil =>
    intro x _ _ y
    rw [if_neg (Nat.not_lt_zero y), Int.add_zero]
    rfl
  | @cons a l ha hs le r ih =>
    intro x pw hr y
    obtain ⟨p1, p2⟩ := List.pairwise_cons.mp pw
    have ra := hr a List.mem_cons_self
    rw [List.foldl_cons, ih (aug x a) p2 (fun b hb => ra.keep (hr b (List.mem_cons_of_mem _ hb)) (p1 b hb)) y, aug_cut h ra]
    omega
theorem aug_e {x : Flow} {a : Arc} (ra : RA p x a) (w : Nat) : (aug x a).2 w = x.2 w + ((if a = chain w then 1 else 0) - (if a = chainB (w + 1) then 1 else 0)) := by
  cases ra with
  | @ahead i hi hk =>
    have n1 : ahead p i ≠ chain w := fun z => by
      have : some _ = none := congrArg Arc.s z
      cases this
    have n2 : ahead p i ≠ chainB (w + 1) := fun z => by
      have : some _ = none := congrArg Arc.s z
      cases this
    rw [if_neg n1, if_neg n2]
    show x.2 w = _
    omega
  | @back i hi hk =>
    have n1 : back p i ≠ chain w := fun z => by
      have : some _ = none := congrArg Arc.s z
      cases this
    have n2 : back p i ≠ chainB (w + 1) := fun z => by
      have : some _ = none := congrArg Arc.s z
      cases this
    rw [if_neg n1, if_neg n2]
    show x.2 w = _
    omega
  | @chain u hu =>
    have nb : chain u ≠ chainB (w + 1) := fun z => by
      have z1 : u = w + 1 := congrArg Arc.u z
      have z2 : u + 1 = w + 1 - 1 := congrArg Arc.v z
      omega
    rw [if_neg nb]
    show (if u < u + 1 then (x.1, up x.2 u (x.2 u + 1)) else (x.1, up x.2 (u + 1) (x.2 (u + 1) - 1))).2 w = _
    rw [if_pos (Nat.lt_succ_self u)]
    show up x.2 u (x.2 u + 1) w = _
    by_cases c : w = u
    · subst c
      rw [up_same, if_pos rfl]
      omega
    · rw [up_ne c, if_neg (fun z => c (congrArg Arc.u z).symm)]
      omega
  | @chainB u hu =>
    have nb : chainB (u + 1) ≠ chain w := fun z => by
      have z1 : u + 1 = w := congrArg Arc.u z
      have z2 : u + 1 - 1 = w + 1 := congrArg Arc.v z
      omega
    rw [if_neg nb]
    show (if u + 1 < u then (x.1, up x.2 (u + 1) (x.2 (u + 1) + 1)) else (x.1, up x.2 u (x.2 u - 1))).2 w = _
    rw [if_neg (by omega)]
    show up x.2 u (x.2 u - 1) w = _
    by_cases c : w = u
    · subst c
      rw [up_same, if_pos rfl]
      omega
    · rw [up_ne c, if_neg (fun z => c (by have := congrArg Arc.u z; have : u + 1 = w + 1 := this; omega))]
      omega
/-- nothing goes below 0 -/
theorem augs_nonneg : ∀ (l : List Arc) (x : Flow), l.Pairwise (fun a b => a.v ≠ b.v) → (∀ a ∈ l, RA p x a) → (∀ w, 0 ≤ x.2 w) → (∀ w, chainB (w + 1) ∈ l → 0 < x.2 w) → ∀ w, 0 ≤ (l.foldl aug x).2 w
  | [], x, _, _, h, _ => h
  | a :: l, x, pw, hr, h, hb => by
    obtain ⟨p1, p2⟩ := List.pairwise_cons.mp pw
    have ra := hr a List.mem_cons_self
    refine augs_nonneg l (aug x a) p2 (fun b hb => ra.keep (hr b (List.mem_cons_of_mem _ hb)) (p1 b hb)) (fun w => ?_) fun w hw => ?_
    · rw [aug_e ra]
      by_cases c : a = chainB (w + 1)
      · have := hb w (c ▸ List.mem_cons_self)
        rw [if_pos c]
        split <;> omega
      · have := h w
        rw [if_neg c]
        split <;> omega
    · have := hb w (List.mem_cons_of_mem _ hw)
      have ne : a ≠ chainB (w + 1) := fun z => p1 _ hw (by rw [z])
      rw [aug_e ra, if_neg ne]
      split <;> omega
/-- a span's keeping changes by an arc of its own alone -/
theorem augs_k {i : Nat} : ∀ (l : List Arc) (x : Flow), (∀ a ∈ l, a.s ≠ some i) → (l.foldl aug x).1 i = x.1 i
  | [], x, _ => rfl
  | a :: l, x, h => by
    rw [List.foldl_cons, augs_k l _ fun b hb => h b (List.mem_cons_of_mem _ hb), aug_k (h a List.mem_cons_self)]
theorem augs_e {w : Nat} : ∀ (l : List Arc) (x : Flow), l.Pairwise (fun a b => a.v ≠ b.v) → (∀ a ∈ l, RA p x a) → chain w ∉ l → (l.foldl aug x).2 w ≤ x.2 w
  | [], x, _, _, _ => Int.le_refl _
  | a :: l, x, pw, hr, h => by
    obtain ⟨p1, p2⟩ := List.pairwise_cons.mp pw
    have ra := hr a List.mem_cons_self
    have ih := augs_e (w := w) l (aug x a) p2 (fun b hb => ra.keep (hr b (List.mem_cons_of_mem _ hb)) (p1 b hb)) fun z => h (List.mem_cons_of_mem _ z)
    rw [aug_e ra, if_neg (show a ≠ chain w from fun z => h (by rw [z]; exact List.mem_cons_self))] at ih
    rw [List.foldl_cons]
    split at ih <;> omega
end
end M57

set_option Elab.async false
set_option linter.all false
set_option maxRecDepth 100000
set_option maxHeartbeats 4000000
namespace M57
section
variable {p : Pb}
/-- a flow of m ways: none shorter can be had by going round -/
structure FlowOk (p : Pb) (m : Nat) (x : Flow) : Prop where
  pot : ∃ φ, Pot (arcs p x.1 x.2) φ
  nn : ∀ w, 0 ≤ x.2 w
  cut : ∀ y, y < p.L → x.2 y + cov p x.1 y = m
theorem sumTo_zero {g : Nat → Int} {n : Nat} (h : ∀ i, i < n → g i = 0) : sumTo g n = 0 := by
  rw [sumTo_congr (h := fun _ => 0) h]
  clear h
  induction n with
  | zero => rfl
  | succ n ih =>
    unfold sumTo
    omega
theorem le_sumTo {g : Nat → Int} {n i : Nat} (h : ∀ j, j < n → 0 ≤ g j) (hi : i < n) : g i ≤ sumTo g n := by
  have := sumTo_up (g := fun j => if j = i then 0 else g j) (h := g) (i := i) (n := n) (fun j _ hj => by rw [if_neg hj]) hi
  have h2 : 0 ≤ sumTo (fun j => if j = i then 0 else g j) n := sumTo_nonneg fun j hj => by
    by_cases c : j = i
    · rw [if_pos c]
      exact Int.le_refl _
    · rw [if_neg c]
      exact h j hj
  rw [if_pos rfl] at this
  omega
theorem FlowOk.start (h : p.Ok) : FlowOk p 0 (fun _ => false, fun _ => 0) := by
  refine ⟨⟨fun v => 0 - (v : Int) * sumTo p.c p.n, fun a ha => ?_⟩, fun w => Int.le_refl _, fun y hy => ?_⟩
  · have hC := sumTo_nonneg h.c0
    rcases List.mem_append.mp ha with ha | ha
    · rcases mem_fwds.mp ha with ⟨v, hv, rfl⟩ | ⟨i, hi, hf, hk, rfl⟩
      · show 0 - ((v + 1 : Nat) : Int) * sumTo p.c p.n ≤ 0 - (v : Int) * sumTo p.c p.n + 0
        rw [Int.natCast_add, Int.add_mul]
        omega
      · have hc := le_sumTo h.c0 hi
        have hfl := h.fl i hi
        show 0 - ((p.l i + 1 : Nat) : Int) * sumTo p.c p.n ≤ 0 - (p.f i : Int) * sumTo p.c p.n + (0 - p.c i)
        obtain ⟨d, hd⟩ : ∃ d : Nat, p.l i + 1 = p.f i + 1 + d := ⟨p.l i - p.f i, by omega⟩
        have hm : 0 ≤ (d : Int) * sumTo p.c p.n := Int.mul_nonneg (by omega) hC
        rw [hd, Int.natCast_add, Int.natCast_add, Int.add_mul, Int.add_mul]
        omega
    · rcases mem_bwds.mp ha with ⟨v, hv, he, rfl⟩ | ⟨i, hi, hf, hk, rfl⟩
      · exact absurd he (Int.lt_irrefl _)
      · cases hk
  · show (0 : Int) + cov p (fun _ => false) y = ((0 : Nat) : Int)
    unfold cov
    rw [sumTo_zero fun i hi => by simp]
    rfl
theorem Ok.far0 {s : Sta} {a : Arc} (h : M57.Ok s a) : far0 s a.v ≤ far0 s a.u + a.len := by
  obtain ⟨du, dv, e1, e2, e3⟩ := h
  unfold M57.far0
  rw [e1, e2]
  exact e3
/-- one more way of least length -/
theorem FlowOk.next (h : p.Ok) {m : Nat} {x : Flow} (F : FlowOk p m x) {φ : Nat → Int} {s : Sta} (hp : Pot (arcs p x.1 x.2) φ) (I : Inv (arcs p x.1 x.2) φ s) (ok : ∀ a ∈ arcs p x.1 x.2, M57.Ok s a) {l : List Arc} (hl : Pth (arcs p x.1 x.2) s p.L l) : FlowOk p (m + 1) (l.foldl aug x) := by
  have pw := hl.pw I.st0
  have ra : ∀ a ∈ l, RA p x a := fun a ha => RA.of (hl.mem a ha).1
  have tight : ∀ a ∈ l, far0 s a.u + a.len ≤ far0 s a.v := fun a ha => by
    obtain ⟨_, du, dv, e1, e2, e3⟩ := hl.mem a ha
    unfold far0
    rw [e1, e2]
    exact e3
  refine ⟨⟨far0 s, fun a ha => ?_⟩, augs_nonneg l x pw ra F.nn fun w hw => ?_, fun y hy => ?_⟩
  · have same : ∀ i, (l.foldl aug x).1 i = x.1 i ∨ ∃ b ∈ l, b.s = some i := fun i => by
      by_cases c : ∃ b ∈ l, b.s = some i
      · exact .inr c
      · exact .inl (augs_k l x fun b hb e => c ⟨b, hb, e⟩)
    rcases List.mem_append.mp ha with ha | ha
    · rcases mem_fwds.mp ha with ⟨v, hv, rfl⟩ | ⟨i, hi, hf, hk, rfl⟩
      · exact (ok _ (List.mem_append_left _ (mem_fwds.mpr (.inl ⟨v, hv, rfl⟩)))).far0
      · cases hk0 : x.1 i with
        | false => exact (ok _ (List.mem_append_left _ (mem_fwds.mpr (.inr ⟨i, hi, hf, hk0, rfl⟩)))).far0
        | true =>
          rcases same i with e | ⟨b, hb, e⟩
          · rw [hk, hk0] at e
            cases e
          · have eb : b = back p i := (ra b hb).same (.back hi hk0) e rfl
            have t : far0 s (p.l i + 1) + p.c i ≤ far0 s (p.f i) := by
              have := tight b hb
              rw [eb] at this
              exact this
            show far0 s (p.l i + 1) ≤ far0 s (p.f i) + (0 - p.c i)
            omega
    · rcases mem_bwds.mp ha with ⟨v, hv, he, rfl⟩ | ⟨i, hi, hf, hk, rfl⟩
      · by_cases c : 0 < x.2 v
        · exact (ok _ (List.mem_append_right _ (mem_bwds.mpr (.inl ⟨v, hv, c, rfl⟩)))).far0
        · have hc : chain v ∈ l := Classical.byContradiction fun z => by
            have := augs_e l x pw ra z
            omega
          have t : far0 s v + 0 ≤ far0 s (v + 1) := tight _ hc
          show far0 s (v + 1 - 1) ≤ far0 s (v + 1) + 0
          rw [Nat.add_sub_cancel]
          omega
      · cases hk0 : x.1 i with
        | true => exact (ok _ (List.mem_append_right _ (mem_bwds.mpr (.inr ⟨i, hi, hf, hk0, rfl⟩)))).far0
        | false =>
          rcases same i with e | ⟨b, hb, e⟩
          · rw [hk, hk0] at e
            cases e
          · have eb : b = ahead p i := (ra b hb).same (.ahead hi hk0) e rfl
            have t : far0 s (p.f i) + (0 - p.c i) ≤ far0 s (p.l i + 1) := by
              have := tight b hb
              rw [eb] at this
              exact this
            show far0 s (p.f i) ≤ far0 s (p.l i + 1) + p.c i
            omega
  · rcases List.mem_append.mp (hl.mem _ hw).1 with ha | ha
    · have := (fwds_lt h ha).1
      have this : w + 1 < w + 1 - 1 := this
      omega
    · rcases mem_bwds.mp ha with ⟨v, hv, he, e⟩ | ⟨i, hi, hf, hk, e⟩
      · have : w + 1 = v + 1 := congrArg Arc.u e
        have : w = v := by omega
        rw [this]
        exact he
      · have : none = some i := congrArg Arc.s e
        cases this
  · have := augs_cut h hl x pw ra y
    rw [if_pos hy] at this
    have := F.cut y hy
    omega
/-! ### the prices -/
def price (s : Sta) (y : Nat) : Int := far0 s y - far0 s (y + 1)
/-- the prices from f to l -/
def Sm (P : Nat → Int) (L f l : Nat) : Int := sumTo (fun y => if f ≤ y ∧ y ≤ l then P y else 0) L
theorem Sm_far {g : Nat → Int} {f l : Nat} (hfl : f ≤ l) : ∀ {L : Nat}, l < L → Sm (fun y => g y - g (y + 1)) L f l = g f - g (l + 1) := by
  have below : ∀ L, L ≤ f → Sm (fun y => g y - g (y + 1)) L f l = 0 := fun L hL => sumTo_zero fun i hi => if_neg (by omega)
  have upto : ∀ d, f + d ≤ l + 1 → Sm (fun y => g y - g (y + 1)) (f + d) f l = g f - g (f + d) := by
    intro d
    induction d with
    | zero =>
      intro _
      rw [Nat.add_zero, below f (Nat.le_refl _)]
      omega
    | succ d ih =>
      intro hd
      have := ih (by omega)
      unfold Sm at this ⊢
      rw [← Nat.add_assoc]
      show sumTo _ (f + d) + (if f ≤ f + d ∧ f + d ≤ l then g (f + d) - g (f + d + 1) else 0) = _
      rw [this, if_pos (by omega)]
      omega
  intro L hL
  have hl1 := upto (l + 1 - f) (by omega)
  rw [show f + (l + 1 - f) = l + 1 by omega] at hl1
  have above : ∀ d, Sm (fun y => g y - g (y + 1)) (l + 1 + d) f l = Sm (fun y => g y - g (y + 1)) (l + 1) f l := by
    intro d
    induction d with
    | zero => rfl
    | succ d ih =>
      unfold Sm at ih ⊢
      rw [← Nat.add_assoc]
      show sumTo _ (l + 1 + d) + (if f ≤ l + 1 + d ∧ l + 1 + d ≤ l then _ else 0) = _
      rw [ih, if_neg (by omega)]
      omega
  have := above (L - (l + 1))
  rw [show l + 1 + (L - (l + 1)) = L by omega] at this
  rw [this, hl1]
/-- the prices that fit the spans kept -/
structure Fit (p : Pb) (x : Flow) (P : Nat → Int) : Prop where
  nn : ∀ y, y < p.L → 0 ≤ P y
  left : ∀ i, i < p.n → x.1 i = false → p.c i ≤ Sm P p.L (p.f i) (p.l i)
  kept : ∀ i, i < p.n → x.1 i = true → Sm P p.L (p.f i) (p.l i) ≤ p.c i
  free : ∀ y, y < p.L → 0 < x.2 y → P y = 0
theorem fit_of (h : p.Ok) {x : Flow} {s : Sta} (ok : ∀ a ∈ arcs p x.1 x.2, M57.Ok s a) : Fit p x (price s) := by
  have nn : ∀ y, y < p.L → 0 ≤ price s y := fun y hy => by
    have : far0 s (y + 1) ≤ far0 s y + 0 := (ok (chain y) (List.mem_append_left _ (mem_fwds.mpr (.inl ⟨y, hy, rfl⟩)))).far0
    unfold price
    omega
  have sm : ∀ i, i < p.n → Sm (price s) p.L (p.f i) (p.l i) = far0 s (p.f i) - far0 s (p.l i + 1) := fun i hi => Sm_far (g := far0 s) (h.fl i hi) (h.lL i hi)
  refine ⟨nn, fun i hi hk => ?_, fun i hi hk => ?_, fun y hy he => ?_⟩
  · have hf := h.fl i hi
    have hl := h.lL i hi
    have : far0 s (p.l i + 1) ≤ far0 s (p.f i) + (0 - p.c i) := (ok (ahead p i) (List.mem_append_left _ (mem_fwds.mpr (.inr ⟨i, hi, by omega, hk, rfl⟩)))).far0
    rw [sm i hi]
    omega
  · have : far0 s (p.f i) ≤ far0 s (p.l i + 1) + p.c i := (ok (back p i) (List.mem_append_right _ (mem_bwds.mpr (.inr ⟨i, hi, h.lL i hi, hk, rfl⟩)))).far0
    rw [sm i hi]
    omega
  · have t : far0 s (y + 1 - 1) ≤ far0 s (y + 1) + 0 := (ok (chainB (y + 1)) (List.mem_append_right _ (mem_bwds.mpr (.inl ⟨y, hy, he, rfl⟩)))).far0
    rw [Nat.add_sub_cancel] at t
    have := nn y hy
    unfold price at this ⊢
    omega
end
end M57

set_option Elab.async false
set_option linter.all false
set_option maxRecDepth 100000
set_option maxHeartbeats 4000000
namespace M57
theorem sumTo_add {g h : Nat → Int} : ∀ {n : Nat}, sumTo (fun i => g i + h i) n = sumTo g n + sumTo h n
  | 0 => rfl
  | n + 1 => by
    unfold sumTo
    rw [sumTo_add]
    omega
theorem sumTo_sub {g h : Nat → Int} : ∀ {n : Nat}, sumTo (fun i => g i - h i) n = sumTo g n - sumTo h n
  | 0 => rfl
  | n + 1 => by
    unfold sumTo
    rw [sumTo_sub]
    omega
theorem sumTo_mul {g : Nat → Int} (a : Int) : ∀ {n : Nat}, sumTo (fun i => g i * a) n = sumTo g n * a
  | 0 => by simp [sumTo]
  | n + 1 => by
    unfold sumTo
    rw [sumTo_mul a, Int.add_mul]
theorem sumTo_swap {g : Nat → Nat → Int} {L : Nat} : ∀ {n : Nat}, sumTo (fun y => sumTo (fun i => g i y) n) L = sumTo (fun i => sumTo (fun y => g i y) L) n
  | 0 => sumTo_zero fun _ _ => rfl
  | n + 1 => by
    have : (fun y => sumTo (fun i => g i y) (n + 1)) = fun y => sumTo (fun i => g i y) n + g n y := rfl
    rw [this, sumTo_add, sumTo_swap]
    rfl
section
variable {p : Pb}
theorem mul_sumTo {g : Nat → Int} (a : Int) {n : Nat} : a * sumTo g n = sumTo (fun i => a * g i) n := by
  rw [Int.mul_comm, ← sumTo_mul]
  exact sumTo_congr fun i _ => Int.mul_comm _ _
/-- prices by cover: span by span -/
theorem by_spans (P : Nat → Int) (k : Nat → Bool) (L : Nat) : sumTo (fun y => P y * cov p k y) L = sumTo (fun i => if k i = true then Sm P L (p.f i) (p.l i) else 0) p.n := by
  have e1 : ∀ y, P y * cov p k y = sumTo (fun i => P y * (if k i = true ∧ p.f i ≤ y ∧ y ≤ p.l i then 1 else 0)) p.n := fun y => mul_sumTo _
  rw [sumTo_congr fun y _ => e1 y, sumTo_swap]
  refine sumTo_congr fun i _ => ?_
  by_cases c : k i = true
  · rw [if_pos c]
    unfold Sm
    refine sumTo_congr fun y _ => ?_
    by_cases c2 : p.f i ≤ y ∧ y ≤ p.l i
    · rw [if_pos ⟨c, c2⟩, if_pos c2, Int.mul_one]
    · rw [if_neg (fun z => c2 z.2), if_neg c2, Int.mul_zero]
  · rw [if_neg c]
    refine sumTo_zero fun y _ => ?_
    rw [if_neg (fun z => c z.1), Int.mul_zero]
def worth (p : Pb) (P : Nat → Int) (L : Nat) (R : Int) : Int := sumTo (fun i => min (Sm P L (p.f i) (p.l i)) (p.c i)) p.n - R * sumTo P L
def value (p : Pb) (P : Nat → Int) (L : Nat) (R : Int) : Int := sumTo (fun y => P y * (cov p (fun _ => true) y - R)) L - sumTo (fun i => max 0 (Sm P L (p.f i) (p.l i) - p.c i)) p.n
def leftCost (p : Pb) (k : Nat → Bool) : Int := sumTo (fun i => if k i = true then 0 else p.c i) p.n
theorem value_worth (P : Nat → Int) (L : Nat) (R : Int) : value p P L R = worth p P L R := by
  unfold value worth
  have e1 : sumTo (fun y => P y * (cov p (fun _ => true) y - R)) L = sumTo (fun i => Sm P L (p.f i) (p.l i)) p.n - sumTo P L * R := by
    rw [sumTo_congr (h := fun y => P y * cov p (fun _ => true) y - P y * R) fun y _ => Int.mul_sub _ _ _, sumTo_sub, by_spans, sumTo_mul]
    rw [sumTo_congr (g := fun i => if (fun _ => true) i = true then Sm P L (p.f i) (p.l i) else 0) (h := fun i => Sm P L (p.f i) (p.l i)) fun i _ => if_pos rfl]
  have e2 : sumTo (fun i => min (Sm P L (p.f i) (p.l i)) (p.c i)) p.n = sumTo (fun i => Sm P L (p.f i) (p.l i) - max 0 (Sm P L (p.f i) (p.l i) - p.c i)) p.n := sumTo_congr fun i _ => by omega
  rw [e1, e2, sumTo_sub, Int.mul_comm R]
  omega
/-- no prices are worth more than what is left -/
theorem worth_le {P : Nat → Int} {L : Nat} {R : Int} {k : Nat → Bool} (nn : ∀ y, y < L → 0 ≤ P y) (hc : ∀ y, y < L → cov p k y ≤ R) : worth p P L R ≤ leftCost p k := by
  unfold worth leftCost
  have e1 : sumTo (fun y => P y * cov p k y) L ≤ sumTo P L * R := by
    rw [← sumTo_mul]
    exact sumTo_le fun y hy => Int.mul_le_mul_of_nonneg_left (hc y hy) (nn y hy)
  rw [by_spans] at e1
  have e2 : sumTo (fun i => min (Sm P L (p.f i) (p.l i)) (p.c i)) p.n ≤ sumTo (fun i => (if k i = true then Sm P L (p.f i) (p.l i) else 0) + (if k i = true then 0 else p.c i)) p.n := sumTo_le fun i _ => by
    by_cases c : k i = true
    · rw [if_pos c, if_pos c]
      omega
    · rw [if_neg c, if_neg c]
      omega
  rw [sumTo_add] at e2
  rw [Int.mul_comm R]
  omega
/-- prices that fit are worth what is left -/
theorem worth_fit {x : Flow} {P : Nat → Int} {R : Int} (F : Fit p x P) (nn : ∀ w, 0 ≤ x.2 w) (cut : ∀ y, y < p.L → x.2 y + cov p x.1 y = R) : worth p P p.L R = leftCost p x.1 := by
  unfold worth leftCost
  have e1 : sumTo (fun y => P y * cov p x.1 y) p.L = sumTo P p.L * R := by
    rw [← sumTo_mul]
    refine sumTo_congr fun y hy => ?_
    have := cut y hy
    by_cases c : 0 < x.2 y
    · rw [F.free y hy c, Int.zero_mul, Int.zero_mul]
    · have := nn y
      rw [show cov p x.1 y = R by omega]
  rw [by_spans] at e1
  have e2 : sumTo (fun i => min (Sm P p.L (p.f i) (p.l i)) (p.c i)) p.n = sumTo (fun i => (if x.1 i = true then Sm P p.L (p.f i) (p.l i) else 0) + (if x.1 i = true then 0 else p.c i)) p.n := sumTo_congr fun i hi => by
    cases c : x.1 i with
    | true =>
      have := F.kept i hi c
      rw [if_pos rfl, if_pos rfl]
      omega
    | false =>
      have := F.left i hi c
      rw [if_neg (by simp), if_neg (by simp)]
      omega
  rw [sumTo_add, e1] at e2
  rw [Int.mul_comm R]
  omega
/-! ### the spans that go beside for nothing -/
/-- what is kept beside the flow's: bs the first j of the spans that fit in their turn -/
structure Bes (p : Pb) (x : Flow) (R : Int) (b : Nat → Bool) (j : Nat) : Prop where
  sub : ∀ i, b i = true → i < j ∧ i < p.n ∧ x.1 i = false ∧ ∀ y, p.f i ≤ y → y ≤ p.l i → 0 < x.2 y
  room : ∀ y, y < p.L → cov p (fun i => x.1 i || b i) y ≤ R
  full : ∀ i, i < j → i < p.n → x.1 i = false → b i = false → ∃ y, p.f i ≤ y ∧ y ≤ p.l i ∧ R ≤ cov p (fun i => x.1 i || b i) y
theorem cov_mono {k k' : Nat → Bool} (h : ∀ i, k i = true → k' i = true) (y : Nat) : cov p k y ≤ cov p k' y := sumTo_le fun i _ => by
  by_cases c : k i = true ∧ p.f i ≤ y ∧ y ≤ p.l i
  · rw [if_pos c, if_pos ⟨h i c.1, c.2⟩]
    exact Int.le_refl _
  · rw [if_neg c]
    split <;> omega
theorem Bes.start {x : Flow} {R : Int} (nn : ∀ w, 0 ≤ x.2 w) (cut : ∀ y, y < p.L → x.2 y + cov p x.1 y = R) : Bes p x R (fun _ => false) 0 := by
  refine ⟨fun i h => (by cases h), fun y hy => ?_, fun i h => absurd h (Nat.not_lt_zero _)⟩
  have e : (fun i => x.1 i || false) = x.1 := funext fun i => Bool.or_false _
  rw [e]
  have := cut y hy
  have := nn y
  omega
theorem Bes.skip {x : Flow} {R : Int} {b : Nat → Bool} {j : Nat} (B : Bes p x R b j) (h : x.1 j = true ∨ ∃ y, p.f j ≤ y ∧ y ≤ p.l j ∧ R ≤ cov p (fun i => x.1 i || b i) y) : Bes p x R b (j + 1) := by
  refine ⟨fun i hb => ?_, B.room, fun i hi hn hk hb => ?_⟩
  · obtain ⟨h1, h2⟩ := B.sub i hb
    exact ⟨by omega, h2⟩
  · by_cases c : i = j
    · subst c
      rcases h with h | h
      · rw [hk] at h
        cases h
      · exact h
    · exact B.full i (by omega) hn hk hb
theorem Bes.add {x : Flow} {R : Int} {b : Nat → Bool} {j : Nat} (hp : p.Ok) (cut : ∀ y, y < p.L → x.2 y + cov p x.1 y = R) (B : Bes p x R b j) (hj : j < p.n) (hk : x.1 j = false) (h : ∀ y, p.f j ≤ y → y ≤ p.l j → cov p (fun i => x.1 i || b i) y < R) : Bes p x R (up b j true) (j + 1) := by
  have bj : b j = false := by
    cases e : b j with
    | false => rfl
    | true =>
      have := (B.sub j e).1
      omega
  have eq : (fun i => x.1 i || up b j true i) = up (fun i => x.1 i || b i) j true := funext fun i => by
    by_cases c : i = j
    · subst c
      rw [up_same, up_same, Bool.or_true]
    · rw [up_ne c, up_ne c]
  have ec : ∀ y, cov p (fun i => x.1 i || up b j true i) y = cov p (fun i => x.1 i || b i) y + (if p.f j ≤ y ∧ y ≤ p.l j then 1 else 0) := fun y => by
    rw [eq, cov_up _ hj, hk, bj]
    simp
  refine ⟨fun i hb => ?_, fun y hy => ?_, fun i hi hn hk' hb => ?_⟩
  · by_cases c : i = j
    · subst c
      refine ⟨Nat.lt_succ_self _, hj, hk, fun y h1 h2 => ?_⟩
      have hl := hp.lL i hj
      have h3 := h y h1 h2
      have h4 : cov p x.1 y ≤ cov p (fun i => x.1 i || b i) y := cov_mono (fun i hi => by show (x.1 i || b i) = true; rw [hi]; rfl) y
      have := cut y (by omega)
      omega
    · rw [up_ne c] at hb
      obtain ⟨h1, h2⟩ := B.sub i hb
      exact ⟨by omega, h2⟩
  · rw [ec]
    by_cases c : p.f j ≤ y ∧ y ≤ p.l j
    · have := h y c.1 c.2
      rw [if_pos c]
      omega
    · have := B.room y hy
      rw [if_neg c]
      omega
  · have c : i ≠ j := fun z => by
      rw [z, up_same] at hb
      cases hb
    rw [up_ne c] at hb
    obtain ⟨y, h1, h2, h3⟩ := B.full i (by omega) hn hk' hb
    refine ⟨y, h1, h2, ?_⟩
    rw [ec]
    split <;> omega
/-- what goes beside costs nothing -/
theorem Bes.cost {x : Flow} {R : Int} {b : Nat → Bool} {j : Nat} {P : Nat → Int} (hp : p.Ok) (B : Bes p x R b j) (F : Fit p x P) : leftCost p (fun i => x.1 i || b i) = leftCost p x.1 := by
  refine sumTo_congr fun i hi => ?_
  show (if (x.1 i || b i) = true then 0 else p.c i) = if x.1 i = true then 0 else p.c i
  cases hk : x.1 i with
  | true => rw [Bool.true_or]
  | false =>
    rw [Bool.false_or]
    cases hb : b i with
    | false => rfl
    | true =>
      obtain ⟨_, _, _, hy⟩ := B.sub i hb
      have h1 := F.left i hi hk
      have h2 := hp.c0 i hi
      have hl := hp.lL i hi
      have h3 : Sm P p.L (p.f i) (p.l i) = 0 := sumTo_zero fun y hy' => by
        by_cases c : p.f i ≤ y ∧ y ≤ p.l i
        · rw [if_pos c, F.free y hy' (hy y c.1 c.2)]
        · rw [if_neg c]
      show (if true = true then 0 else p.c i) = if false = true then 0 else p.c i
      rw [if_pos rfl, if_neg (by simp)]
      omega
/-- where a span is covered to the full, it is so at its first spot or where a kept span begins -/
theorem spot {k : Nat → Bool} {f y : Nat} (hf : f ≤ y) : ∃ z, f ≤ z ∧ z ≤ y ∧ (z = f ∨ ∃ i, i < p.n ∧ k i = true ∧ p.f i = z) ∧ cov p k y ≤ cov p k z := by
  suffices H : ∀ d y, y = f + d → ∃ z, f ≤ z ∧ z ≤ y ∧ (z = f ∨ ∃ i, i < p.n ∧ k i = true ∧ p.f i = z) ∧ cov p k y ≤ cov p k z from H (y - f) y (by omega)
  intro d
  induction d with
  | zero =>
    intro y e
    exact ⟨y, by omega, Nat.le_refl _, .inl (by omega), Int.le_refl _⟩
  | succ d ih =>
    intro y e
    by_cases c : ∃ i, i < p.n ∧ k i = true ∧ p.f i = y
    · exact ⟨y, by omega, Nat.le_refl _, .inr c, Int.le_refl _⟩
    · obtain ⟨z, h1, h2, h3, h4⟩ := ih (y - 1) (by omega)
      refine ⟨z, h1, by omega, h3, Int.le_trans (sumTo_le fun i hi => ?_) h4⟩
      by_cases c2 : k i = true ∧ p.f i ≤ y ∧ y ≤ p.l i
      · have : p.f i ≠ y := fun z => c ⟨i, hi, c2.1, z⟩
        rw [if_pos c2, if_pos ⟨c2.1, by omega, by omega⟩]
        exact Int.le_refl _
      · rw [if_neg c2]
        split <;> omega
end
end M57

set_option Elab.async false
set_option linter.all false
set_option maxRecDepth 100000
set_option maxHeartbeats 4000000
namespace SA
open PySem PySem.Spec PyProof.Rows L2 K83
/-- the built-in names that the text uses -/
structure Bn7 (mg : Str → Option Value) : Prop where
  isinstance : mg "isinstance" = none
  int : mg "int" = none
  bool : mg "bool" = none
  str : mg "str" = none
  len : mg "len" = none
  range : mg "range" = none
  tuple : mg "tuple" = none
  list : mg "list" = none
  all : mg "all" = none
  any : mg "any" = none
  zip : mg "zip" = none
  enumerate : mg "enumerate" = none
  sorted : mg "sorted" = none
  max : mg "max" = none
  min : mg "min" = none
  sum : mg "sum" = none
  set : mg "set" = none
  dict : mg "dict" = none
def spTupOf (K : PySem.W.Frag) : Sp := fun vs H Q _ => ∃ (x : V) (m : Int), vs = [x, .int m] ∧ ((∃ (a : Addr) (xs : List V), x = .ref a ∧ H a = some (.tup xs) ∧ Q (.bl (decide ((xs.length : Int) = m))) H) ∨ (∃ t, Kd K H x t ∧ t ≠ "tuple" ∧ Q (.bl false) H))
def spIsList (K : PySem.W.Frag) : Sp := fun vs H Q _ => ∃ (x : V) (t : String), vs = [x] ∧ ∀ H', Same H H' → Kd K H' x t ∧ Q (.bl (decide (t = "list") || decide (t = "tuple"))) H'
def spIsNum (K : PySem.W.Frag) : Sp := fun vs H Q _ => ∃ x t, vs = [x] ∧ Kd K H x t ∧ Q (.bl (decide (t = "int"))) H
def spNumB (K : PySem.W.Frag) : Sp := fun vs H Q _ => ∃ x t lo hi, vs = [x, .int lo, .int hi] ∧ Kd K H x t ∧ (∀ i, x = .int i → Q (.bl (decide (lo ≤ i ∧ i ≤ hi))) H) ∧ (t ≠ "int" → Q (.bl false) H)
section
variable {P : Program} {w0 : World} {K : PySem.W.Frag} {mg : Str → Option Value} {base : Heap} 
theorem kd_no {H : Hp} {x : V} {t c : String} (hk : Kd K H x t) (hc : c = "tuple" ∨ c = "str" ∨ c = "list") (ht : t ≠ c) : PySem.W.kitOne K (.type t) (.type c) = some false := by
  rcases hc with rfl | rfl | rfl <;> cases hk <;> first | exact absurd rfl ht | exact kit_ty (by decide +kernel)
theorem kitLT {H : Hp} {x : V} {t : String} (hk : Kd K H x t) : PySem.W.kitAny K (.type t) [.type "list", .type "tuple"] = some (decide (t = "list") || decide (t = "tuple")) := by
  have k : ∀ {a b : Bool}, PySem.W.kitOne K (.type t) (.type "list") = some a → PySem.W.kitOne K (.type t) (.type "tuple") = some b → PySem.W.kitAny K (.type t) [.type "list", .type "tuple"] = some (a || b) := by
    intro a b h1 h2
    unfold PySem.W.kitAny
    rw [h1]
    cases a with
    | true => rfl
    | false =>
      unfold PySem.W.kitAny
      rw [h2]
      cases b <;> rfl
  cases hk <;> exact k (kit_ty (by decide +kernel)) (kit_ty (by decide +kernel))
theorem ok_is_tuple_of {f : Addr} {fd : FuncData} (F : Fun K "is_tuple_of" "is_tuple_of" s_is_tuple_of f fd) (B : Bn7 mg) : FnOk P w0 K mg base CX0 1 f fd ["thing", "many"] (spTupOf K) := by
  refine F.ok sc_is_tuple_of (fun vs H Q E h => ?_) (fun cdv A outer s H vs Q E hr h => ?_)
  · obtain ⟨x, m, rfl, _⟩ := h
    rfl
  · obtain ⟨x, m, rfl, h⟩ := h
    refine ⟨_, (pss_one (ps_ret (pe_and (pe_callB call_isi (by rfl) B.isinstance (by decide +kernel) (pa_cons (pv 0) (pa_cons (pe_bltn (v := .ty "tuple") (by rfl) B.tuple (by decide +kernel) rfl) pa_nil))) (pe_one (pe_cmpR op_eq (pe_callB call_len_seq (by rfl) B.len PySem.boot_len (pa_cons (pv 0) pa_nil)) (pv 1) (nomark _)))))), ?_⟩
    rcases h with ⟨a, xs, rfl, e, q⟩ | ⟨t, hk, ht, q⟩
    · exact ⟨_, rfl, _, .ty "tuple", .type "tuple", .type "tuple", true, rfl, .ty _, Kd.ty (.tup (.base (.tup e))), kit_ty (by decide +kernel), true, rfl, _, rfl, _, _, rfl, .inr (SqT.of e), _, rfl, rfl, (show Q (.bl (decide (V.int (xs.length : Nat) = V.int m))) H by rw [show decide (V.int (xs.length : Nat) = V.int m) = decide ((xs.length : Int) = m) from by rw [decide_eq_decide]; exact ⟨fun h => V.int.inj h, fun h => by rw [h]⟩]; exact q)⟩
    · exact ⟨_, rfl, _, .ty "tuple", .type _, .type "tuple", false, rfl, .ty _, Kd.ty (hk), kd_no (hk) (by simp) ht, false, rfl, q⟩
theorem ok_is_list {f : Addr} {fd : FuncData} (F : Fun K "is_list" "is_list" s_is_list f fd) (B : Bn7 mg) : FnOk P w0 K mg base CX0 1 f fd ["thing"] (spIsList K) := by
  refine F.ok sc_is_list (fun vs H Q E h => ?_) (fun cdv A outer s H vs Q E hr h => ?_)
  · obtain ⟨x, t, rfl, _⟩ := h
    rfl
  · obtain ⟨x, t, rfl, q⟩ := h
    refine ⟨_, (pss_one (ps_ret (pe_callB call_isiT (by rfl) B.isinstance (by decide +kernel) (pa_cons (pv 0) (pa_cons (pe_tup (pa_cons (pe_bltn (v := .ty "list") (by rfl) B.list (by decide +kernel) rfl) (pa_cons (pe_bltn (v := .ty "tuple") (by rfl) B.tuple (by decide +kernel) rfl) pa_nil))) pa_nil))))), ?_⟩
    refine ⟨_, rfl, (by show 2 ≤ sizeLine; decide), fun p hp => ?_⟩
    obtain ⟨hk2, q2⟩ := q _ (Same.new hp (o := .tup [.ty "list", .ty "tuple"]))
    exact ⟨x, p, _, .type t, [.type "list", .type "tuple"], _, rfl, upd_same, .cons (.ty _) (.cons (.ty _) .nil), hk2.ty, kitLT hk2, q2⟩
theorem ok_is_number {f : Addr} {fd : FuncData} (F : Fun K "is_number" "is_number" s_is_number f fd) (B : Bn7 mg) : FnOk P w0 K mg base CX0 1 f fd ["thing"] (spIsNum K) := by
  refine F.ok sc_is_number (fun vs H Q E h => ?_) (fun cdv A outer s H vs Q E hr h => ?_)
  · obtain ⟨x, t, rfl, _⟩ := h
    rfl
  · obtain ⟨x, t, rfl, hk, q⟩ := h
    refine ⟨_, (pss_one (ps_ret (pe_and (pe_callB call_isi (by rfl) B.isinstance (by decide +kernel) (pa_cons (pv 0) (pa_cons (pe_bltn (v := .ty "int") (by rfl) B.int (by decide +kernel) rfl) pa_nil))) (pe_one (pe_not (pe_callB call_isi (by rfl) B.isinstance (by decide +kernel) (pa_cons (pv 0) (pa_cons (pe_bltn (v := .ty "bool") (by rfl) B.bool (by decide +kernel) rfl) pa_nil)))))))), ?_⟩
    cases hk with
    | non => exact ⟨_, rfl, _, .ty "int", .type "NoneType", .type "int", false, rfl, .ty _, Kd.ty (.non), kit_ty (by decide +kernel), false, rfl, q⟩
    | bl b => exact ⟨_, rfl, _, .ty "int", .type "bool", .type "int", true, rfl, .ty _, Kd.ty (.bl b), kit_ty (by decide +kernel), true, rfl, _, rfl, _, .ty "bool", .type "bool", .type "bool", true, rfl, .ty _, Kd.ty (.bl b), kit_ty (by decide +kernel), true, rfl, q⟩
    | int i => exact ⟨_, rfl, _, .ty "int", .type "int", .type "int", true, rfl, .ty _, Kd.ty (.int i), kit_ty (by decide +kernel), true, rfl, _, rfl, _, .ty "bool", .type "int", .type "bool", false, rfl, .ty _, Kd.ty (.int i), kit_ty (by decide +kernel), false, rfl, q⟩
    | str z => exact ⟨_, rfl, _, .ty "int", .type "str", .type "int", false, rfl, .ty _, Kd.ty (.str z), kit_ty (by decide +kernel), false, rfl, q⟩
    | tup h => exact ⟨_, rfl, _, .ty "int", .type "tuple", .type "int", false, rfl, .ty _, Kd.ty (.tup h), kit_ty (by decide +kernel), false, rfl, q⟩
    | lst h => exact ⟨_, rfl, _, .ty "int", .type "list", .type "int", false, rfl, .ty _, Kd.ty (.lst h), kit_ty (by decide +kernel), false, rfl, q⟩
    | dct h => exact ⟨_, rfl, _, .ty "int", .type "dict", .type "int", false, rfl, .ty _, Kd.ty (.dct h), kit_ty (by decide +kernel), false, rfl, q⟩
theorem ok_is_number_between {f : Addr} {fd : FuncData} (F : Fun K "is_number_between" "is_number_between" s_is_number_between f fd) (c_is_number : Dq P w0 K mg base CX0 1 "is_number" ["thing"] (spIsNum K)) : FnOk P w0 K mg base CX0 2 f fd ["thing", "low", "high"] (spNumB K) := by
  refine F.ok sc_is_number_between (fun vs H Q E h => ?_) (fun cdv A outer s H vs Q E hr h => ?_)
  · obtain ⟨x, t, lo, hi, rfl, _⟩ := h
    rfl
  · obtain ⟨x, t, lo, hi, rfl, hk, q1, q2⟩ := h
    refine ⟨_, (pss_one (ps_ret (pe_and (pe_q c_is_number hr (by decide) (by rfl) (pa_cons (pv 0) pa_nil)) (pe_one (pe_chain op_le op_le (pv 1) (pv 0) (pv 2)))))), ?_⟩
    refine ⟨_, rfl, x, t, rfl, hk, _, rfl, ?_⟩
    by_cases ht : t = "int"
    · obtain ⟨i, rfl⟩ := hk.int_of ht
      rw [decide_eq_true ht]
      refine iteT ⟨_, rfl, _, rfl, _, _, rfl, rfl, _, rfl, ?_⟩
      have q := q1 i rfl
      by_cases h1 : lo ≤ i
      · rw [decide_eq_true h1]
        refine iteT ⟨_, rfl, _, _, rfl, rfl, ?_⟩
        rw [show decide (lo ≤ i ∧ i ≤ hi) = decide (i ≤ hi) by rw [decide_eq_decide]; exact ⟨fun h => h.2, fun h => ⟨h1, h⟩⟩] at q
        exact q
      · rw [decide_eq_false h1]
        refine iteF ?_
        rw [show decide (lo ≤ i ∧ i ≤ hi) = false by rw [decide_eq_false_iff_not]; exact fun h => h1 h.1] at q
        exact q
    · rw [decide_eq_false ht]
      exact q2 ht
end
/-! ### methods of the module's class, its making -/
structure Dm (P : Program) (w : World) (K : PySem.W.Frag) (mg : Str → Option Value) (base : Heap) (C : Addr) (k : Nat) (m : Str) (ps : List Str) (sp : Sp) : Prop where
  ex : ∃ (f : Addr) (fd : FuncData), FnOk P w K mg base CX0 k f fd ps sp ∧ Meth K C m f ∧ L2.Binds K fd ps []
structure DmK (P : Program) (w : World) (K : PySem.W.Frag) (mg : Str → Option Value) (base : Heap) (C : Addr) (k : Nat) (x : Str) (ps : List Str) (sp : Sp) : Prop where
  ex : ∃ (f : Addr) (fd : FuncData), FnOk P w K mg base CX0 k f fd ps sp ∧ Mk K C f ∧ mg x = some (.ref C) ∧ L2.Binds K fd ps []
section
variable {X : Cx} {k j : Nat} {x m : Str} {C : Addr} {p pos apos : Pos} {o e : Expr} {es : List Expr} {t : TA} {ta : TE} {sp : Sp} {ps : List Str}
theorem pe_mq {pl : Sem Bool} (c : Dm X.prog X.w X.K X.mg X.base C k m ps sp) (cC : Cls X.K C) (hr : Room j X.A) (hk : k ≤ j) (ho : PE X o ta) (ha : PA X (e :: es) t)
    (hst : starEach (e :: es) X.env = (false, eval e X.env) :: starEach es X.env := by rfl) (hpl : (backTo pos (starEach es X.env)).any (·.1) = false := by rfl)
    (ht : eval (.Call (.Attribute o m apos) (e :: es) [] pos) X.env = (do
      let ov ← eval o X.env
      standAt apos.atName
      let (f, first) ← holding [ov] (getMethod ov m pl)
      callWith pos f first (backTo pos (starEach (e :: es) X.env)) (backToKw pos (keywordEach [] X.env))) := by rfl) :
    PE X (.Call (.Attribute o m apos) (e :: es) [] pos) (tMeth C m sp [] (fun _ _ _ => False) ta t) := by
  obtain ⟨f, fd, F, mt, b⟩ := c.ex
  exact pe_meth ho cC mt F (hr.mono hk) b .nil pass0 ha hst hpl ht
theorem pe_m0q {pl : Sem Bool} (c : Dm X.prog X.w X.K X.mg X.base C k m ps sp) (cC : Cls X.K C) (hr : Room j X.A) (hk : k ≤ j) (ho : PE X o ta)
    (ht : eval (.Call (.Attribute o m apos) [] [] pos) X.env = (do
      let ov ← eval o X.env
      standAt apos.atName
      let (f, first) ← holding [ov] (getMethod ov m pl)
      callWith pos f first (backTo pos (starEach [] X.env)) (backToKw pos (keywordEach [] X.env))) := by rfl) :
    PE X (.Call (.Attribute o m apos) [] [] pos) (tMeth C m sp [] (fun _ _ _ => False) ta tNil) := by
  obtain ⟨f, fd, F, mt, b⟩ := c.ex
  exact pe_meth0 ho cC mt F (hr.mono hk) b .nil pass0 ht
theorem pe_mkq (c : DmK X.prog X.w X.K X.mg X.base C k x ps sp) (hr : Room j X.A) (hk : k + 1 ≤ j) (hg : Gl X x) (ha : PA X (e :: es) t)
    (hdb : (x == ("__debug__" : Str)) = false := by decide) (he : starEach (e :: es) X.env = (false, eval e X.env) :: starEach es X.env := by rfl) (hpl : (backTo pos (starEach es X.env)).any (·.1) = false := by rfl) :
    PE X (.Call (.Name x p) (e :: es) [] pos) (tMake C sp [] (fun _ _ _ => False) t) := by
  obtain ⟨f, fd, F, M, hm, b⟩ := c.ex
  exact pe_make M F (hr.mono hk) hg hm b .nil pass0 ha hdb he hpl
theorem pe_fldK {K : PySem.W.Frag} {f : Str} (hK : X.K = K) (he : PE X o ta) (hb : attributeBase o f X.env (eval o X.env) = eval o X.env := by rfl) : PE X (.Attribute o f pos) (tFld K ta f) := hK ▸ pe_fld he hb
end
/-! ### lists of objects -/
structure Objs {β : Type} (g : β → HO) (H : Hp) (as : List Addr) (xs : List β) : Prop where
  len : as.length = xs.length
  at_ : ∀ (i : Nat) (x : β) (b : Addr), xs[i]? = some x → as[i]? = some b → H b = some (g x)
theorem Objs.nil {β : Type} {g : β → HO} {H : Hp} : Objs g H [] [] := ⟨rfl, fun i x b h => by simp at h⟩
theorem Objs.mono {β : Type} {g : β → HO} {H H' : Hp} {as : List Addr} {xs : List β} (h : Objs g H as xs) (k : ∀ b x, H b = some (g x) → H' b = some (g x)) : Objs g H' as xs := ⟨h.len, fun i x b h1 h2 => k b x (h.at_ i x b h1 h2)⟩
theorem Objs.same {β : Type} {g : β → HO} {H H' : Hp} {as : List Addr} {xs : List β} (h : Objs g H as xs) (s : Same H H') : Objs g H' as xs := h.mono fun b x e => s b _ e
theorem Objs.snoc {β : Type} {g : β → HO} {H : Hp} {as : List Addr} {xs : List β} {b : Addr} {x : β} (h : Objs g H as xs) (e : H b = some (g x)) : Objs g H (as ++ [b]) (xs ++ [x]) := by
  refine ⟨by simp [h.len], fun i y c h1 h2 => ?_⟩
  by_cases hi : i < xs.length
  · rw [List.getElem?_append_left hi] at h1
    rw [List.getElem?_append_left (by rw [h.len]; exact hi)] at h2
    exact h.at_ i y c h1 h2
  · have hl := (List.getElem?_eq_some_iff.mp h1).1
    rw [List.length_append, List.length_singleton] at hl
    have ei : i = xs.length := by omega
    subst ei
    rw [List.getElem?_append_right (Nat.le_refl _)] at h1
    rw [List.getElem?_append_right (by rw [h.len]; exact Nat.le_refl _)] at h2
    rw [h.len] at h2
    simp at h1 h2
    subst h1 h2
    exact e
theorem Objs.get {β : Type} {g : β → HO} {H : Hp} {as : List Addr} {xs : List β} (h : Objs g H as xs) {i : Nat} {x : β} (hx : xs[i]? = some x) : ∃ b, as[i]? = some b ∧ H b = some (g x) := by
  have hi : i < as.length := by rw [h.len]; exact (List.getElem?_eq_some_iff.mp hx).1
  exact ⟨as[i], List.getElem?_eq_getElem hi, h.at_ i x _ hx (List.getElem?_eq_getElem hi)⟩
theorem Objs.get' {β : Type} {g : β → HO} {H : Hp} {as : List Addr} {xs : List β} (h : Objs g H as xs) {i : Nat} {v : V} (hv : (as.map V.ref)[i]? = some v) : ∃ x b, xs[i]? = some x ∧ v = .ref b ∧ as[i]? = some b ∧ H b = some (g x) := by
  rw [List.getElem?_map] at hv
  obtain ⟨b, hb, rfl⟩ := Option.map_eq_some_iff.mp hv
  have hi : i < xs.length := by rw [← h.len]; exact (List.getElem?_eq_some_iff.mp hb).1
  exact ⟨xs[i], b, List.getElem?_eq_getElem hi, rfl, hb, h.at_ i _ b (List.getElem?_eq_getElem hi) hb⟩
theorem iteTd {b : Bool} {p q : Prop} (h : b = true) (x : p) : if b = true then p else q := (if_pos h).mpr x
theorem iteFd {b : Bool} {p q : Prop} (h : b = false) (x : q) : if b = true then p else q := (if_neg (by rw [h]; decide)).mpr x
/-! ### a list or a tuple, told by a sign -/
section
variable {K : PySem.W.Frag}
def Jq (K : PySem.W.Frag) (tt : Bool) (a : Addr) : It := if tt = true then Itt K a else Itl K a
def Sq (K : PySem.W.Frag) (tt : Bool) (H : Hp) (a : Addr) (xs : List V) : Prop := if tt = true then SqT K H a xs else SqL K H a xs
def iSq (K : PySem.W.Frag) (tt : Bool) (te : TE) : TI := if tt = true then iTup K te else iList K te
def sqO (tt : Bool) (xs : List V) : HO := if tt = true then .tup xs else .lst xs
theorem Sq.of {tt : Bool} {H : Hp} {a : Addr} {xs : List V} (e : H a = some (sqO tt xs)) : Sq K tt H a xs := by
  cases tt with
  | true => exact SqT.of e
  | false => exact SqL.of e
theorem Sq.or {tt : Bool} {H : Hp} {a : Addr} {xs : List V} (e : H a = some (sqO tt xs)) : SqL K H a xs ∨ SqT K H a xs := by
  cases tt with
  | true => exact .inr (SqT.of e)
  | false => exact .inl (SqL.of e)
theorem pi_sq {X : Cx} {g e : Expr} {te : TE} (tt : Bool) (h : PE X e te) : PI X g e (iSq X.K tt te) := by
  cases tt with
  | true => exact pi_tup h
  | false => exact pi_list h
theorem iSq_v {tt : Bool} {i : Nat} {a : Addr} {xs : List V} {σ : L2.St} {H : Hp} {R : It → Hp → Prop} (e : σ[i]? = some (some (.ref a))) (h : H a = some (sqO tt xs)) (r : R (Jq K tt a) H) : iSq K tt (tVar i) σ H R := by
  cases tt with
  | true => exact ⟨_, e, a, rfl, ⟨_, SqT.of h⟩, r⟩
  | false => exact ⟨_, e, a, rfl, ⟨_, SqL.of h⟩, r⟩
theorem walk_sq {tt : Bool} {a : Addr} {xs : List V} : Walk (Jq K tt a) xs.length (fun H => H a = some (sqO tt xs)) (YAt xs) := by
  cases tt with
  | true => exact ⟨fun i H hi q => walk_tup.goes i H hi (SqT.of q), fun H q => walk_tup.stops H (SqT.of q), fun i H x H' hi q y => walk_tup.yields i H x H' hi (SqT.of q) y⟩
  | false => exact ⟨fun i H hi q => walk_list.goes i H hi (SqL.of q), fun H q => walk_list.stops H (SqL.of q), fun i H x H' hi q y => walk_list.yields i H x H' hi (SqL.of q) y⟩
end
end SA

set_option Elab.async false
set_option linter.all false
set_option maxRecDepth 100000
set_option maxHeartbeats 4000000
namespace SA
open PySem PySem.Spec PyProof.Rows L2
/-! ### defs that are called where no repr is under way -/
structure FnG (P : Program) (w : World) (K : PySem.W.Frag) (mg : Str → Option Value) (base : Heap) (k : Nat) (f : Addr) (fd : FuncData) (ps : List Str) (sp : Sp) : Prop where
  many : ∀ vs H Q E, sp vs H Q E → vs.length = ps.length
  goes : ∀ (A : Around) (outer : List Env) (s : Shared) (H : Hp) (args : Args) (us : List Value) (vs : List V) (Q : VK) (E : XK), A.guards = some [] → Room k A → Env0 P w K mg base A outer s H → BindsTo s fd args (ps.zip us) → Vals vs us → sp vs H Q E →
    codeAny (model P w) A (.call (.ref f) args) (CR CX0 outer P w H s Q E) s
section
variable {P : Program} {w : World} {K : PySem.W.Frag} {mg : Str → Option Value} {base : Heap}
theorem Fun.okG {x qual : Str} {st : Stmt} {f : Addr} {fd : FuncData} {N ps : List Str} {k : Nat} {sp : Sp} (F : Fun K x qual st f fd) (S : FnScope N ps (defScope st)) (hl : ∀ vs H Q E, sp vs H Q E → vs.length = ps.length)
    (body : ∀ (cdv : Value) (A : Around) (outer : List Env) (s : Shared) (H : Hp) (vs : List V) (Q : VK) (E : XK), (A.deeper (envOfC qual (defScope st) s.heap.objs.size f cdv)).guards = some [] → Room k (A.deeper (envOfC qual (defScope st) s.heap.objs.size f cdv)) → sp vs H Q E →
      ∃ t, PSs (cxOf CX0 P w K mg base N qual (defScope st) f cdv A outer s H E).nox (defBody st) t ∧ t { nx := fun _ H' => Q .non H', rt := Q } (L2.start N vs) H) : FnG P w K mg base (k + 1) f fd ps sp := by
  obtain ⟨oc, od, kV, doc, pm, an, cdv, ct, osl, rfl, lk, hcd⟩ := F.ex
  refine ⟨hl, fun A outer s H args us vs Q E hg rm env hb r hs => ?_⟩
  refine LamX.run_ofS (k := k) (N := N) (ps := ps) (us := us) (vs := vs) (Q := Q) (E := E) lk hcd S rm env hb r (hl _ _ _ _ hs) fun rm' => ?_
  obtain ⟨t, h1, h2⟩ := body cdv A outer s H vs Q E hg rm' hs
  exact ⟨t, h1.nox, h2⟩
/-- a def of the module that is called so -/
structure Gq (P : Program) (w : World) (K : PySem.W.Frag) (mg : Str → Option Value) (base : Heap) (k : Nat) (x : Str) (ps : List Str) (sp : Sp) : Prop where
  ex : ∃ (f : Addr) (fd : FuncData), FnG P w K mg base k f fd ps sp ∧ mg x = some (.ref f) ∧ PySem.W.keepIn K (.ref f) = true ∧ L2.Binds K fd ps []
end
section
variable {X : Cx} {k j : Nat} {x : Str} {p pos : Pos} {e : Expr} {es : List Expr} {t : TA} {sp : Sp} {ps : List Str}
theorem run_g {pins : List (Addr × Obj)} {σ : L2.St} {H : Hp} {s : Shared} {Q : VK} {us : List Value} {vs : List V} {f : Addr} {fd : FuncData} (G : FnG X.prog X.w X.K X.mg X.base k f fd ps sp) (hg : X.A.guards = some []) (rm : Room k X.A) (hb : L2.Binds X.K fd ps [])
    (I : Inv X pins σ H s) (r : Vals vs us) (h : sp vs H Q fun _ _ _ => False) : wpAny (model X.prog X.w) X.A (call (.ref f) us) (EP X pins σ Q) X.xe s := by
  have hl : (us ++ []).length = ps.length := by
    rw [List.append_nil, ← r.length]
    exact G.many _ _ _ _ h
  have bt := hb s us I.kIn hl
  rw [List.append_nil] at bt
  refine wpAny_call (codeAny_mono (G.goes X.A X.stack s H ⟨us, []⟩ us vs Q _ hg rm I.env0 bt r h) fun o s' q => ?_)
  match o, q with
  | .error e, q => exact q.elim
  | .ok (.ret u), q => exact I.after q
  | .ok .next, q => exact q.elim
  | .ok .brk, q => exact q.elim
  | .ok .cont, q => exact q.elim
theorem pe_g (c : Gq X.prog X.w X.K X.mg X.base k x ps sp) (hg : X.A.guards = some []) (hr : Room j X.A) (hk : k ≤ j) (hgl : Gl X x) (ha : PA X (e :: es) t)
    (hdb : (x == ("__debug__" : Str)) = false := by decide) (he : starEach (e :: es) X.env = (false, eval e X.env) :: starEach es X.env := by rfl) (hpl : (backTo pos (starEach es X.env)).any (·.1) = false := by rfl) :
    PE X (.Call (.Name x p) (e :: es) [] pos) (fun σ H Q => t σ H fun vs H1 => sp vs H1 Q fun _ _ _ => False) := by
  obtain ⟨f, fd, G, hm, kp, b⟩ := c.ex
  refine ⟨fun pins s σ H Q I h => ?_⟩
  refine wpAny_Call_Name_kw (ld_glob I hgl hm ?_ hdb)
  refine PySem.W.callWith_K (h₀ := X.base) I.ok.mod.kin kp (thn (ha.run pos pins s σ H _ I h) fun us s1 ⟨vs, H1, I1, r, q⟩ => ⟨I1.kIn, ?_⟩) he hpl
  exact run_g G hg (hr.mono hk) b I1 r q
end
/-- what the law's def promises -/
def spLawT (K : PySem.W.Frag) : Sp := fun vs H Q _ => ∃ (a : Addr) (ns : List Int), vs = [.ref a] ∧ SqL K H a (ns.map V.int) ∧ ns.length ≤ 63 ∧ ∀ H', Q (.bl true) H'
theorem lawRun_of {P : Program} {w : World} {K : PySem.W.Frag} {mg : Str → Option Value} {base : Heap} {fa : Addr} {fd : FuncData} {x : Str} {k : Nat} (G : FnG P w K mg base k fa fd [x] (spLawT K)) (hr : Room k callerA) (hb : ∀ (s : Shared) (u : Value), BindsTo s fd ⟨[u], []⟩ [(x, u)]) :
    LawRun P w K mg base fa 63 := by
  intro s H a ns env hS hn
  exact G.goes callerA [] s H ⟨[.ref a], []⟩ [.ref a] [.ref a] _ _ rfl hr env (hb s (.ref a)) (.cons rfl .nil) ⟨a, ns, rfl, hS, hn, fun _ => rfl⟩
end SA

set_option Elab.async false
set_option linter.all false
set_option maxRecDepth 100000
set_option maxHeartbeats 0
namespace SA
open PySem PySem.Spec PyProof.Rows L2
abbrev cat1 {α : Type} : List α → List α → List α := fun us ws => us ++ ws
/-! ### what the top has left -/
abbrev fIs (K : PySem.W.Frag) (C : Addr) (x : Str) (v : Option Value) : Bool := decide (PySem.W.findIn K (.ref C) x = some v)
def excB (K : PySem.W.Frag) (C : Addr) : Bool :=
  fIs K C "__getattribute__" (some (.builtin "BaseException.__getattribute__")) && (fIs K C "__getattr__" none && (decide (PySem.W.subIn K (.ref C) (.type "BaseException") = some true) && (PySem.W.hasDictIn K C && (fIs K C "__class__" (some (.builtin "object.__class__")) &&
    (decide (PySem.W.specialIn K (.builtin "object.__class__") "__get__" = some (some (.builtin "getset_descriptor.__get__"))) && (decide (PySem.W.takesIn K (.builtin "object.__class__") = some true) && decide (PySem.W.mroIn K C (.type "object") = some true)))))))
theorem excB_ok {K : PySem.W.Frag} {C : Addr} (h : excB K C = true) : ExcC K C ∧ XfC K C := by
  unfold excB at h
  simp only [Bool.and_eq_true, decide_eq_true_eq] at h
  obtain ⟨h1, h2, h3, h4, h5, h6, h7, h8⟩ := h
  exact ⟨⟨h1, h2, h3, h4, h5, h6, h7, h8⟩, ⟨h1, h2, h3, h4⟩⟩
/-- an exception class whose objects have a dict and its own or a base's __init__ -/
def oexB (K : PySem.W.Frag) (C : Addr) : Bool := match K.lookup C with
  | some ⟨.type t, _, .cls cd, sl⟩ => (match cd.mro, sl.toList with
    | .ref C' :: bm, [_, _, _, _, some (.builtin n), _] => decide (t = "type") && (decide (C' = C) && (decide (n = "ValueError.__new__") && (!cd.hasDel && (cd.hasDict && PySem.HandSPX.refsVE bm))))
    | _, _ => false)
  | _ => false
def oexB2 (K : PySem.W.Frag) (C : Addr) : Bool := oexB K C && (fIs K C "__setattr__" (some (.builtin "object.__setattr__")) && (decide (PySem.W.subIn K (.ref C) (.type "BaseException") = some true) && (decide (PySem.W.typeIn K (.ref C) = some (.type "type")) && PySem.W.keepIn K (.ref C))))
theorem oexB_ok {K : PySem.W.Frag} {C : Addr} (h : oexB2 K C = true) : OexC K C := by
  unfold oexB2 at h
  simp only [Bool.and_eq_true, decide_eq_true_eq] at h
  obtain ⟨h0, h1, h2, h3, h4⟩ := h
  refine ⟨?_, h1, h2, h3, h4⟩
  unfold oexB at h0
  split at h0
  · rename_i t dd cd sl e
    split at h0
    · rename_i C' bm k0 k1 k2 k3 n k5 hm hs
      simp only [Bool.and_eq_true, decide_eq_true_eq, Bool.not_eq_true'] at h0
      obtain ⟨rfl, rfl, rfl, hd, hh, hr⟩ := h0
      obtain ⟨nm, bs, mro, ns, qn, hdct, sn, sub, ab, col, del⟩ := cd
      dsimp only at hm hd hh
      subst hm hd hh
      obtain ⟨l⟩ := sl
      dsimp only at hs
      subst hs
      exact ⟨nm, qn, ns, bs, bm, sn, sub, ab, col, dd, k0, k1, k2, k3, k5, e, hr⟩
    · cases h0
  · cases h0
def ownB (K : PySem.W.Frag) (C : Addr) (fs : List Str) : Bool := oexB2 K C && (fIs K C "__init__" (some (.ref (He.ma K C "__init__"))) && (decide (PySem.W.typeIn K (.ref (He.ma K C "__init__")) = some (.type "function")) && fs.all fun x => fIs K C x none))
theorem ownB_ok {K : PySem.W.Frag} {C : Addr} {fs : List Str} (h : ownB K C fs = true) : Own24 K C (He.ma K C "__init__") fs := by
  unfold ownB at h
  simp only [Bool.and_eq_true, decide_eq_true_eq, List.all_eq_true] at h
  obtain ⟨h1, h2, h3, h4⟩ := h
  exact ⟨oexB_ok h1, h2, h3, h4⟩
def sysB (K : PySem.W.Frag) : Bool := match K.lookup sysModules with
  | some o => decide (o.cls = .type "dict")
  | none => false
theorem sysB_ok {K : PySem.W.Frag} (h : sysB K = true) : SysK K := by
  unfold sysB at h
  split at h
  · rename_i o e
    exact ⟨o, e, of_decide_eq_true h⟩
  · cases h
theorem FunD_fun {K : PySem.W.Frag} {x qual : Str} {st : Stmt} {f : Addr} (h : ∃ fd, FunD K x qual (defArgs st) (defBody st) (defScope st) [] [] f fd) : ∃ fd, Fun K x qual st f fd := by
  obtain ⟨fd, F⟩ := h
  exact ⟨fd, SA.FunD.toFun F⟩
theorem kb1 {K : PySem.W.Frag} {x qual p : Str} {st : Stmt} {f : Addr} {fd : FuncData} (F : Fun K x qual st f fd)
    (h1 : ∀ (kV doc pm : Value) (an : Option Addr) (cdv ct u : Value), bindArgs (PySem.W.fnOf x qual (defArgs st) (defBody st) (defScope st) .none kV doc pm an cdv ct) ⟨[u], []⟩ = pure [(p, u)])
    (h2 : ∀ (kV doc pm : Value) (an : Option Addr) (cdv ct u : Value), bindArgs (PySem.W.fnOf x qual (defArgs st) (defBody st) (defScope st) .none kV doc pm an cdv ct) ⟨[], [(p, u)]⟩ = pure [(p, u)]) : KBinds K fd [p] [p] cat1 cat1 := by
  obtain ⟨oc, od, kV, doc, pm, an, cdv, ct, osl, rfl, _, _⟩ := F.ex
  refine ⟨fun s us ws _ hl => ?_, fun r rz => r.append rz⟩
  match us, ws, hl with
  | [u], [], _ => exact .of_eq (h1 kV doc pm an cdv ct u)
  | [], [u], _ => exact .of_eq (h2 kV doc pm an cdv ct u)
  | [], [], hl => cases hl
  | [], _ :: _ :: _, hl => simp at hl
  | _ :: _ :: _, _, hl => simp at hl
  | [_], _ :: _, hl => simp at hl
end SA

set_option Elab.async false
set_option linter.all false
set_option maxRecDepth 100000
set_option maxHeartbeats 0
namespace SA
open PySem PySem.Spec PyProof.Rows L2
def d_is_number : He.DefD := ⟨("is_number", none), "is_number", "is_number", defArgs s_is_number, defBody s_is_number, defScope s_is_number, [], []⟩
def d_is_number_between : He.DefD := ⟨("is_number_between", none), "is_number_between", "is_number_between", defArgs s_is_number_between, defBody s_is_number_between, defScope s_is_number_between, [], []⟩
def d_is_tuple_of : He.DefD := ⟨("is_tuple_of", none), "is_tuple_of", "is_tuple_of", defArgs s_is_tuple_of, defBody s_is_tuple_of, defScope s_is_tuple_of, [], []⟩
def d_is_list : He.DefD := ⟨("is_list", none), "is_list", "is_list", defArgs s_is_list, defBody s_is_list, defScope s_is_list, [], []⟩
def d_BadSpans___init__ : He.DefD := ⟨("BadSpans", some "__init__"), "__init__", "BadSpans.__init__", defArgs s_BadSpans___init__, defBody s_BadSpans___init__, defScope s_BadSpans___init__, [], []⟩
def d_Keeping___init__ : He.DefD := ⟨("Keeping", some "__init__"), "__init__", "Keeping.__init__", defArgs s_Keeping___init__, defBody s_Keeping___init__, defScope s_Keeping___init__, [], []⟩
def d_Keeping_add_way : He.DefD := ⟨("Keeping", some "add_way"), "add_way", "Keeping.add_way", defArgs s_Keeping_add_way, defBody s_Keeping_add_way, defScope s_Keeping_add_way, [], []⟩
def d_Keeping_prices : He.DefD := ⟨("Keeping", some "prices"), "prices", "Keeping.prices", defArgs s_Keeping_prices, defBody s_Keeping_prices, defScope s_Keeping_prices, [], []⟩
def d_Keeping__shortest : He.DefD := ⟨("Keeping", some "_shortest"), "_shortest", "Keeping._shortest", defArgs s_Keeping__shortest, defBody s_Keeping__shortest, defScope s_Keeping__shortest, [], []⟩
def d_Keeping__go_on : He.DefD := ⟨("Keeping", some "_go_on"), "_go_on", "Keeping._go_on", defArgs s_Keeping__go_on, defBody s_Keeping__go_on, defScope s_Keeping__go_on, [], []⟩
def d_Keeping__goes_back : He.DefD := ⟨("Keeping", some "_goes_back"), "_goes_back", "Keeping._goes_back", defArgs s_Keeping__goes_back, defBody s_Keeping__goes_back, defScope s_Keeping__goes_back, [], []⟩
def d__step : He.DefD := ⟨("_step", none), "_step", "_step", defArgs s__step, defBody s__step, defScope s__step, [], []⟩
def d_least_left : He.DefD := ⟨("least_left", none), "least_left", "least_left", defArgs s_least_left, defBody s_least_left, defScope s_least_left, [], []⟩
def d__left_beside : He.DefD := ⟨("_left_beside", none), "_left_beside", "_left_beside", defArgs s__left_beside, defBody s__left_beside, defScope s__left_beside, [], []⟩
def d__cover : He.DefD := ⟨("_cover", none), "_cover", "_cover", defArgs s__cover, defBody s__cover, defScope s__cover, [], []⟩
def d_worth_of : He.DefD := ⟨("worth_of", none), "worth_of", "worth_of", defArgs s_worth_of, defBody s_worth_of, defScope s_worth_of, [], []⟩
def d_least : He.DefD := ⟨("least", none), "least", "least", defArgs s_least, defBody s_least, defScope s_least, [], []⟩
def d_worth : He.DefD := ⟨("worth", none), "worth", "worth", defArgs s_worth, defBody s_worth, defScope s_worth, [], []⟩
def d__check_spans : He.DefD := ⟨("_check_spans", none), "_check_spans", "_check_spans", defArgs s__check_spans, defBody s__check_spans, defScope s__check_spans, [], []⟩
def d__check_room : He.DefD := ⟨("_check_room", none), "_check_room", "_check_room", defArgs s__check_room, defBody s__check_room, defScope s__check_room, [], []⟩
def d__law_begun : He.DefD := ⟨("_law_begun", none), "_law_begun", "_law_begun", defArgs s__law_begun, defBody s__law_begun, defScope s__law_begun, [], []⟩
def d__law_mixed : He.DefD := ⟨("_law_mixed", none), "_law_mixed", "_law_mixed", defArgs s__law_mixed, defBody s__law_mixed, defScope s__law_mixed, [], []⟩
def d__law_take : He.DefD := ⟨("_law_take", none), "_law_take", "_law_take", defArgs s__law_take, defBody s__law_take, defScope s__law_take, [], []⟩
def d__law_pick : He.DefD := ⟨("_law_pick", none), "_law_pick", "_law_pick", defArgs s__law_pick, defBody s__law_pick, defScope s__law_pick, [], []⟩
def d__law_span : He.DefD := ⟨("_law_span", none), "_law_span", "_law_span", defArgs s__law_span, defBody s__law_span, defScope s__law_span, [], []⟩
def d__law_spans : He.DefD := ⟨("_law_spans", none), "_law_spans", "_law_spans", defArgs s__law_spans, defBody s__law_spans, defScope s__law_spans, [], []⟩
def d__law_cover : He.DefD := ⟨("_law_cover", none), "_law_cover", "_law_cover", defArgs s__law_cover, defBody s__law_cover, defScope s__law_cover, [], []⟩
def d__law_value : He.DefD := ⟨("_law_value", none), "_law_value", "_law_value", defArgs s__law_value, defBody s__law_value, defScope s__law_value, [], []⟩
def d__law_numbers : He.DefD := ⟨("_law_numbers", none), "_law_numbers", "_law_numbers", defArgs s__law_numbers, defBody s__law_numbers, defScope s__law_numbers, [], []⟩
def d__law_left_right : He.DefD := ⟨("_law_left_right", none), "_law_left_right", "_law_left_right", defArgs s__law_left_right, defBody s__law_left_right, defScope s__law_left_right, [], []⟩
def d__law_right : He.DefD := ⟨("_law_right", none), "_law_right", "_law_right", defArgs s__law_right, defBody s__law_right, defScope s__law_right, [], []⟩
def d__law_prices : He.DefD := ⟨("_law_prices", none), "_law_prices", "_law_prices", defArgs s__law_prices, defBody s__law_prices, defScope s__law_prices, [], []⟩
def d__law_refused : He.DefD := ⟨("_law_refused", none), "_law_refused", "_law_refused", defArgs s__law_refused, defBody s__law_refused, defScope s__law_refused, [], []⟩
def d__law_refusals_right : He.DefD := ⟨("_law_refusals_right", none), "_law_refusals_right", "_law_refusals_right", defArgs s__law_refusals_right, defBody s__law_refusals_right, defScope s__law_refusals_right, [], []⟩
def d_law : He.DefD := ⟨("law", none), "law", "law", defArgs s_law, defBody s_law, defScope s_law, [], []⟩
def fn57 : List He.DefD := [d_is_number, d_is_number_between, d_is_tuple_of, d_is_list, d_BadSpans___init__, d_Keeping___init__, d_Keeping_add_way, d_Keeping_prices, d_Keeping__shortest, d_Keeping__go_on, d_Keeping__goes_back, d__step, d_least_left, d__left_beside, d__cover, d_worth_of, d_least, d_worth, d__check_spans, d__check_room, d__law_begun, d__law_mixed, d__law_take, d__law_pick, d__law_span, d__law_spans, d__law_cover, d__law_value, d__law_numbers, d__law_left_right, d__law_right, d__law_prices, d__law_refused, d__law_refusals_right, d_law]
def fa57 : List He.Fa := [.glo "is_number", .glo "is_number_between", .glo "is_tuple_of", .glo "is_list", .glo "_step", .glo "least_left", .glo "_left_beside", .glo "_cover", .glo "worth_of", .glo "least", .glo "worth", .glo "_check_spans", .glo "_check_room", .glo "_law_begun", .glo "_law_mixed", .glo "_law_take", .glo "_law_pick", .glo "_law_span", .glo "_law_spans", .glo "_law_cover", .glo "_law_value", .glo "_law_numbers", .glo "_law_left_right", .glo "_law_right", .glo "_law_prices", .glo "_law_refused", .glo "_law_refusals_right", .glo "law", .glo "BadSpans", .glo "BadRoom", .glo "BadPrices", .glo "Keeping", .free "isinstance", .free "int", .free "bool", .free "str", .free "len", .free "range", .free "tuple", .free "list", .free "all", .free "any", .free "zip", .free "enumerate", .free "sorted", .free "max", .free "min", .free "sum", .free "set", .free "dict", .free "abs", .exc "BadRoom", .exc "BadPrices", .exm "BadSpans" "BadSpans" true, .exm "BadRoom" "BadSpans" false, .exm "BadRoom" "BadRoom" true, .exm "BadPrices" "BadSpans" false, .exm "BadPrices" "BadRoom" false, .exm "BadPrices" "BadPrices" true, .int "MOST_SPANS" 400, .int "MOST_POSITION" 999, .cls "Keeping", .mkr "Keeping", .meth "Keeping" "_go_on", .meth "Keeping" "_goes_back", .meth "Keeping" "_shortest", .meth "Keeping" "add_way", .meth "Keeping" "prices", .noat "Keeping" "_spans", .noat "Keeping" "_last", .noat "Keeping" "_empty", .noat "Keeping" "is_kept", .noat "Keeping" "_beginning", .noat "Keeping" "_ending"]
def ts57 : List He.Tab := []
def ex57 (K : PySem.W.Frag) : Bool := sysB K && (excB K (He.ga K "BadRoom") && (excB K (He.ga K "BadPrices") && (excB K (He.ga K "BadSpans") && (ownB K (He.ga K "BadSpans") ["at"]))))
abbrev Al : Type := He.AlT × Bool
def frag57 (g : Addr → Option Obj) : PySem.W.Frag := He.frT g (sysModules :: He.asD g 4)
def obs57 (g : Addr → Option Obj) : Al := (He.obsT fa57 fn57 ts57 (frag57 g), ex57 (frag57 g))
def val57 (w : World) : Al := (He.valT fn57 ts57 w, true)
/-- what the end leans on -/
structure Says57 (w : World) (K : PySem.W.Frag) : Prop where
  t : He.SaysT fa57 fn57 ts57 w K
  more : ex57 K = true
theorem says_of {w : World} {h : Heap} (e : obs57 h.get? = val57 w) : Says57 w (frag57 h.get?) :=
  ⟨congrArg (fun z : Al => z.1) e, congrArg (fun z : Al => z.2) e⟩
def hk57 : PySem.W.Hook where
  α := Al
  obs := fun s => obs57 s.heap.get?
  val := fun w => val57 w
  says := fun w h => ∃ K : PySem.W.Frag, K.In h ∧ Says57 w K
  of := fun _ _ e => ⟨_, He.frT_in, says_of e⟩
  keeps := fun _ _ _ ⟨K, hK, c⟩ k => ⟨K, PySem.W.Frag.In.keeps hK k, c⟩
theorem tab_at {fa : List He.Fa} {fn : List He.DefD} {ts : List He.Tab} {w : World} {K : PySem.W.Frag} (c : He.SaysT fa fn ts w K) {i : Nat} {t : He.Tab} (h : ts[i]? = some t) : He.dicW K (t.1 K) = some (He.keysIn w.params t.2) := by
  have e : ts.map (fun t => He.dicW K (t.1 K)) = ts.map (fun t => some (He.keysIn w.params t.2)) := congrArg (fun z : He.AlT => z.2) c
  have e2 := congrArg (fun l => l[i]?) e
  simp only [List.getElem?_map, h, Option.map_some] at e2
  exact Option.some.inj e2
abbrev R : PySem.W.OpenRow := PySem.W.OpenLaw.row PySem.Challenge.rw_stopanywhere_k57_least_spans_by_prices
def ob57 (s : PySem.W.SharedT) : Al := obs57 (HandSHeadRun.getT s)
theorem ob_eq (s : PySem.W.SharedT) : ob57 s = hk57.obs s.abs := by
  have e : HandSHeadRun.getT s = s.abs.heap.get? := funext (HandSHeadRun.getT_eq s)
  unfold ob57
  rw [e] <;> rfl
end SA

set_option Elab.async false
set_option linter.all false
set_option maxRecDepth 100000
set_option maxHeartbeats 0
namespace SA
open PySem PySem.W PySem.Calls PyProof.Rows
def names : List PySem.Str := [("is_number" : PySem.Str), ("is_number_between" : PySem.Str), ("is_tuple_of" : PySem.Str), ("is_list" : PySem.Str), ("StopError" : PySem.Str), ("BadSpans" : PySem.Str), ("BadRoom" : PySem.Str), ("BadPrices" : PySem.Str), ("Keeping" : PySem.Str), ("_step" : PySem.Str), ("least_left" : PySem.Str), ("_left_beside" : PySem.Str), ("_cover" : PySem.Str), ("worth_of" : PySem.Str), ("MOST_SPANS" : PySem.Str), ("MOST_POSITION" : PySem.Str), ("least" : PySem.Str), ("worth" : PySem.Str), ("_check_spans" : PySem.Str), ("_check_room" : PySem.Str), ("_law_begun" : PySem.Str), ("_law_mixed" : PySem.Str), ("_law_take" : PySem.Str), ("_law_pick" : PySem.Str), ("_law_span" : PySem.Str), ("_law_spans" : PySem.Str), ("_law_cover" : PySem.Str), ("_law_value" : PySem.Str), ("_law_numbers" : PySem.Str), ("_law_left_right" : PySem.Str), ("_law_right" : PySem.Str), ("_law_prices" : PySem.Str), ("_law_refused" : PySem.Str), ("_law_refusals_right" : PySem.Str)]
theorem runF (w : World) : HandSHeadRun.RunEq R (view R.prog [39]) hk57 ob57 16000 names (w.withFollow "special-get-raises" false) := by
  intro os
  kernel_rfl
theorem runT (w : World) : HandSHeadRun.RunEq R (view R.prog [39]) hk57 ob57 16000 names (w.withFollow "special-get-raises" true) := by
  intro os
  kernel_rfl
theorem hrun (w : World) : HandSHeadRun.RunEq R (view R.prog [39]) hk57 ob57 16000 names w := byRow2 "special-get-raises" (P := fun w => HandSHeadRun.RunEq R (view R.prog [39]) hk57 ob57 16000 names w) runF runT w
end SA

set_option Elab.async false
set_option linter.all false
set_option maxRecDepth 100000
set_option maxHeartbeats 4000000
namespace SA
open PySem PySem.Spec PyProof.Rows L2 K83 M57
/-! ### how far, and by which step, in the heap -/
theorem ixN_nat {j n : Nat} (h : j < n) : ixN n (j : Int) = some j := by
  unfold ixN
  rw [if_pos (by omega), if_pos (by omega)]
  rfl
def oI : Option Int → V
  | none => .non
  | some d => .int d
def oN : Option Nat → V
  | none => .non
  | some i => .int (i : Nat)
def farL (L : Nat) (s : Sta) : List V := (List.range (L + 1)).map fun v => oI (s.far v)
def kI (v : Nat) : Key := Sum.inl (v : Int)
theorem kI_inj {a b : Nat} : kI a = kI b ↔ a = b := ⟨fun e => by
  unfold kI at e
  injection e with e
  omega, fun e => by rw [e]⟩
def KeysOk (kvs : List (Key × V)) (L : Nat) : Prop := ∃ ks : List Nat, kvs.map (·.1) = ks.map kI ∧ ks.Nodup ∧ ∀ k ∈ ks, k ≤ L
theorem KeysOk.len {kvs : List (Key × V)} {L : Nat} (h : KeysOk kvs L) : kvs.length ≤ L + 1 := by
  obtain ⟨ks, e, nd, hk⟩ := h
  have h1 : kvs.length = ks.length := by
    have := congrArg List.length e
    rwa [List.length_map, List.length_map] at this
  have h2 := List.Nodup.length_le_of_subset nd (l₂ := List.range (L + 1)) fun k hk' => List.mem_range.mpr (by have := hk k hk'; omega)
  rw [List.length_range] at h2
  omega
theorem KeysOk.put {kvs : List (Key × V)} {L v : Nat} {y : V} (h : KeysOk kvs L) (hv : v ≤ L) : KeysOk (putK kvs (kI v) y) L := by
  obtain ⟨ks, e, nd, hk⟩ := h
  unfold putK
  by_cases c : (kvs.any fun kv => decide (kv.1 = kI v)) = true
  · rw [if_pos c]
    refine ⟨ks, ?_, nd, hk⟩
    rw [← e, List.map_map]
    refine List.map_congr_left fun kv _ => ?_
    show (if kv.1 = kI v then (kv.1, y) else kv).1 = kv.1
    split <;> rfl
  · rw [if_neg c]
    refine ⟨ks ++ [v], ?_, ?_, fun k hk' => ?_⟩
    · rw [List.map_append, List.map_append, e]
      rfl
    · refine List.nodup_append.mpr ⟨nd, by simp, fun a ha b hb z => c ?_⟩
      rw [List.mem_singleton.mp hb] at z
      subst z
      have : kI a ∈ kvs.map (·.1) := by
        rw [e]
        exact List.mem_map_of_mem ha
      obtain ⟨kv, hkv, e2⟩ := List.mem_map.mp this
      exact List.any_eq_true.mpr ⟨kv, hkv, decide_eq_true e2⟩
    · rcases List.mem_append.mp hk' with hk' | hk'
      · exact hk k hk'
      · rw [List.mem_singleton.mp hk']
        exact hv
structure FS (L : Nat) (H : Hp) (fa ta : Addr) (s : Sta) : Prop where
  f : H fa = some (.lst (farL L s))
  t : ∃ kvs, H ta = some (.dK kvs) ∧ KeysOk kvs L ∧ ∀ v, v ≤ L → (s.st v = none → valV kvs (kI v) = none) ∧ ∀ u sp, s.st v = some (u, sp) → ∃ b, valV kvs (kI v) = some (.ref b) ∧ H b = some (.tup [.int (u : Nat), oN sp])
theorem FS.ne {L : Nat} {H : Hp} {fa ta : Addr} {s : Sta} (h : FS L H fa ta s) : fa ≠ ta := by
  obtain ⟨kvs, e, _⟩ := h.t
  exact ne_of h.f e (by intro z; cases z)
theorem FS.but {L : Nat} {H H' : Hp} {fa ta : Addr} {s : Sta} (h : FS L H fa ta s) (k : ∀ b o, H b = some o → H' b = some o) : FS L H' fa ta s := by
  obtain ⟨kvs, e, k1, k2⟩ := h.t
  refine ⟨k _ _ h.f, kvs, k _ _ e, k1, fun v hv => ⟨(k2 v hv).1, fun u sp hs => ?_⟩⟩
  obtain ⟨b, e1, e2⟩ := (k2 v hv).2 u sp hs
  exact ⟨b, e1, k _ _ e2⟩
theorem far_at {L v : Nat} {s : Sta} (hv : v ≤ L) : (farL L s)[v]? = some (oI (s.far v)) := by
  unfold farL
  rw [List.getElem?_map, List.getElem?_range (by omega)]
  rfl
theorem far_len {L : Nat} {s : Sta} : (farL L s).length = L + 1 := by
  unfold farL
  rw [List.length_map, List.length_range]
theorem far_set {L v : Nat} {s : Sta} {d : Int} {st : Nat → Option (Nat × Option Nat)} : (farL L s).set v (.int d) = farL L ⟨up s.far v (some d), st⟩ := by
  refine List.ext_getElem? fun i => ?_
  by_cases c : i < L + 1
  · rw [far_at (show i ≤ L by omega)]
    by_cases e : i = v
    · subst e
      rw [List.getElem?_set_self (by rw [far_len]; exact c)]
      show _ = some (oI (up s.far i (some d) i))
      rw [up_same]
      rfl
    · rw [List.getElem?_set_ne (Ne.symm e), far_at (show i ≤ L by omega)]
      show _ = some (oI (up s.far v (some d) i))
      rw [up_ne e]
  · rw [List.getElem?_eq_none (by rw [List.length_set, far_len]; omega), List.getElem?_eq_none (by rw [far_len]; omega)]
/-- a step is set -/
theorem FS.put {L : Nat} {H : Hp} {fa ta b : Addr} {s : Sta} {u v : Nat} {sp : Option Nat} {d : Int} (h : FS L H fa ta s) (hv : v ≤ L) (hb : H b = none) : ∃ kvs, H ta = some (.dK kvs) ∧ kvs.length ≤ L + 1 ∧
    FS L (upd (upd (upd H fa (.lst ((farL L s).set v (.int d)))) b (.tup [.int (u : Nat), oN sp])) ta (.dK (putK kvs (kI v) (.ref b)))) fa ta ⟨up s.far v (some d), up s.st v (some (u, sp))⟩ := by
  have ne := h.ne
  obtain ⟨kvs, e, k1, k2⟩ := h.t
  have bf : fa ≠ b := ne_of_none h.f hb
  have bt : ta ≠ b := ne_of_none e hb
  refine ⟨kvs, e, k1.len, ?_, _, upd_same, k1.put hv, fun w hw => ?_⟩
  · rw [upd_ne ne, upd_ne bf, upd_same, far_set]
  · rw [valV_put]
    by_cases c : w = v
    · subst c
      refine ⟨fun z => ?_, fun u' sp' z => ?_⟩
      · have z : up s.st w (some (u, sp)) w = none := z
        rw [up_same] at z
        cases z
      · have z : up s.st w (some (u, sp)) w = some (u', sp') := z
        rw [up_same] at z
        cases z
        exact ⟨b, if_pos rfl, by rw [upd_ne bt.symm, upd_same]⟩
    · have hk : kI w ≠ kI v := fun z => c (kI_inj.mp z)
      have es : up s.st v (some (u, sp)) w = s.st w := up_ne c
      refine ⟨fun z => ?_, fun u' sp' z => ?_⟩
      · rw [if_neg hk]
        exact (k2 w hw).1 (es.symm.trans z)
      · obtain ⟨b', e1, e2⟩ := (k2 w hw).2 u' sp' (es.symm.trans z)
        refine ⟨b', by rw [if_neg hk]; exact e1, ?_⟩
        rw [upd_ne (ne_of e2 e (by intro z; cases z)), upd_ne (ne_of_none e2 hb), upd_ne (ne_of e2 h.f (by intro z; cases z))]
        exact e2
section
variable {P : Program} {w0 : World} {K : PySem.W.Frag} {mg : Str → Option Value} {base : Heap}
def spStep : Sp := fun vs H Q _ => ∃ (u v L : Nat) (sp : Option Nat) (ln : Int) (fa ta : Addr) (s : Sta), vs = [.int (u : Nat), .int (v : Nat), oN sp, .int ln, .ref fa, .ref ta] ∧ FS L H fa ta s ∧ u ≤ L ∧ v ≤ L ∧ L ≤ 1000 ∧ (∃ du, s.far u = some du) ∧
  ∀ H', FS L H' fa ta (relax s ⟨u, v, sp, ln⟩).2 → But2 fa ta H H' → Q (.bl (relax s ⟨u, v, sp, ln⟩).1) H'
theorem ok_step {f : Addr} {fd : FuncData} (F : Fun K "_step" "_step" s__step f fd) : FnOk P w0 K mg base CX0 1 f fd ["node", "other", "span", "length", "far", "steps"] spStep := by
  refine F.ok sc__step (fun vs H Q E h => ?_) (fun cdv A outer s H vs Q E hr h => ?_)
  · obtain ⟨u, v, L, sp, ln, fa, ta, t, rfl, _⟩ := h
    rfl
  · obtain ⟨u, v, L, sp, ln, fa, ta, t, rfl, fs, hu, hv, hL, ⟨du, eu⟩, q⟩ := h
    refine ⟨_, (pss_cons (ps_if (PW.pt (pw_and (pt_cmpR op_notN (pe_ix ix_list (pv 4) (pv 1) (fun _ _ => rfl)) pe_non (nomark _)) (pw_and1 (pt_cmpR op_le (pe_ix ix_list (pv 4) (pv 1) (fun _ _ => rfl)) (pe_op op_add (pe_ix ix_list (pv 4) (pv 0) (fun _ _ => rfl)) (pv 3)) (nomark _))))) (pss_one (ps_ret pe_bl)) pss_nil)
      (pss_cons (ps_asg (pe_op op_add (pe_ix ix_list (pv 4) (pv 0) (fun _ _ => rfl)) (pv 3)) (pg_sub (pv 4) (pv 1) set_list))
      (pss_cons (ps_dput (hu_of hr) (pv 5) (pv 1) (pe_tup (pa_cons (pv 0) (pa_cons (pv 2) pa_nil))) rfl)
      (pss_one (ps_ret pe_bl))))), ?_⟩
    have au : (farL L t)[u]? = some (.int du) := by rw [far_at hu, eu]; rfl
    have av := far_at (s := t) hv
    -- a nearer way is set
    have go : ∀ {D : Ends} {y0 : L2.St}, relax t ⟨u, v, sp, ln⟩ = (true, ⟨up t.far v (some (du + ln)), up t.st v (some (u, sp))⟩) →
        ∃ kvs, H ta = some (.dK kvs) ∧ kvs.length ≤ L + 1 ∧ ∀ b, (upd H fa (.lst ((farL L t).set v (.int (du + ln))))) b = none → Q (.bl true) (upd (upd (upd H fa (.lst ((farL L t).set v (.int (du + ln))))) b (.tup [.int (u : Nat), oN sp])) ta (.dK (putK kvs (kI v) (.ref b)))) := fun {D y0} er => by
      obtain ⟨kvs, e, _, _⟩ := fs.t
      refine ⟨kvs, e, ?_, fun b hb => ?_⟩
      · obtain ⟨_, e2, k1, _⟩ := fs.t
        rw [e] at e2
        cases e2
        exact k1.len
      · have hb0 : H b = none := by
          by_cases c : b = fa
          · rw [c, upd_same] at hb
            cases hb
          · rwa [upd_ne c] at hb
        obtain ⟨kvs2, e2, _, fs2⟩ := fs.put (u := u) (sp := sp) (d := du + ln) hv hb0
        rw [e] at e2
        cases e2
        rw [er] at q
        refine q _ fs2 fun x o hx h1 h2 => ?_
        rw [upd_ne h2, upd_ne (ne_of_none hx hb0), upd_ne h1]
        exact hx
    have set_ : relax t ⟨u, v, sp, ln⟩ = (true, ⟨up t.far v (some (du + ln)), up t.st v (some (u, sp))⟩) → tSeq (tAsg (tOp (rI0 fun i j => V.int (i + j)) (tOp (rIxL K) (tVar 4) (tVar 0)) (tVar 3)) (gSub (tVar 4) (tVar 1) rSetL)) (tSeq (sDPut (tVar 5) (tVar 1) (tTup (tCons (tVar 0) (tCons (tVar 2) tNil)))) (tRet (tC (V.bl true)))) { nx := fun x H' => Q V.non H', rt := Q } [some (V.int (u : Nat)), some (V.int (v : Nat)), some (oN sp), some (V.int ln), some (V.ref fa), some (V.ref ta)] H := fun er => by
      obtain ⟨kvs, e, kl, fin⟩ := go (D := ⟨fun _ _ => True, fun _ _ => True, fun _ _ => True, fun _ _ => True⟩) (y0 := []) er
      have fne := fs.ne
      refine ⟨_, rfl, _, rfl, ⟨fa, _, _, _, rfl, rfl, SqL.of fs.f, atI_nat au, ?_⟩⟩
      refine ⟨_, rfl, _, _, rfl, rfl, ?_⟩
      refine ⟨_, rfl, _, rfl, fa, _, _, v, rfl, rfl, fs.f, ixN_nat (by rw [far_len]; omega), ?_⟩
      refine ⟨_, rfl, _, rfl, (by show 2 ≤ sizeLine; decide), fun b hb => ?_⟩
      have hb0 : H b = none := by
        by_cases c : b = fa
        · rw [c, upd_same] at hb
          cases hb
        · rwa [upd_ne c] at hb
      refine ⟨_, rfl, _, rfl, ta, _, rfl, DPut.k (k := kI v) (kvs := kvs) ?_ ?_, fin b hb⟩
      · rw [upd_ne (ne_of_none e hb0), upd_ne fne.symm]
        exact e
      · have := sizeLine_eq
        omega
    refine ⟨_, rfl, _, rfl, ⟨fa, _, _, _, rfl, rfl, SqL.of fs.f, atI_nat av, rfl, _, rfl, ?_⟩⟩
    cases ev : t.far v with
    | none => exact iteFd rfl (iteF (set_ (by unfold relax; simp only [eu, ev])))
    | some dv =>
      refine iteTd rfl ⟨_, rfl, _, rfl, ⟨fa, _, _, _, rfl, rfl, SqL.of fs.f, atI_nat av, ?_⟩⟩
      rw [ev]
      refine ⟨_, rfl, _, rfl, ⟨fa, _, _, _, rfl, rfl, SqL.of fs.f, atI_nat au, _, rfl, _, _, rfl, rfl, _, _, rfl, rfl, _, rfl, ?_⟩⟩
      by_cases c : dv ≤ du + ln
      · have er : relax t ⟨u, v, sp, ln⟩ = (false, t) := by unfold relax; simp only [eu, ev, if_pos c]
        rw [er] at q
        rw [decide_eq_true c]
        exact iteT (q H fs (But2.refl _ _ _))
      · rw [decide_eq_false c]
        exact iteF (set_ (by unfold relax; simp only [eu, ev, if_neg c]))
end
end SA

set_option Elab.async false
set_option linter.all false
set_option maxRecDepth 100000
set_option maxHeartbeats 4000000
namespace SA
open PySem PySem.Spec PyProof.Rows L2 K83 M57
/-! ### what is kept, in the heap -/
abbrev spO (q : Spn) : HO := .tup [.int (q.f : Nat), .int (q.l : Nat), .int q.c]
def pb (ss : List Spn) (L : Nat) : Pb := ⟨ss.length, L, fun i => ((ss[i]?).map Spn.f).getD 0, fun i => ((ss[i]?).map Spn.l).getD 0, fun i => ((ss[i]?).map Spn.c).getD 0⟩
theorem pb_at {ss : List Spn} {L i : Nat} {q : Spn} (h : ss[i]? = some q) : (pb ss L).f i = q.f ∧ (pb ss L).l i = q.l ∧ (pb ss L).c i = q.c := by
  unfold pb
  simp [h]
abbrev lstN (l : List Nat) : HO := .lst (l.map fun i => V.int (i : Nat))
def kpFs (sa : Addr) (L : Nat) (ea ka ba da : Addr) : List (Str × V) := [("_spans", .ref sa), ("_last", .int (L : Nat)), ("_empty", .ref ea), ("is_kept", .ref ka), ("_beginning", .ref ba), ("_ending", .ref da)]
section
variable {sa ea ka ba da : Addr} {L : Nat}
theorem kp1 : (kpFs sa L ea ka ba da).lookup ("_spans" : Str) = some (.ref sa) := rfl
theorem kp2 : (kpFs sa L ea ka ba da).lookup ("_last" : Str) = some (.int (L : Nat)) := by
  unfold kpFs
  simp [List.lookup_cons, show (("_last" : Str) == "_spans") = false from by decide +kernel]
theorem kp3 : (kpFs sa L ea ka ba da).lookup ("_empty" : Str) = some (.ref ea) := by
  unfold kpFs
  simp [List.lookup_cons, show (("_empty" : Str) == "_spans") = false from by decide +kernel, show (("_empty" : Str) == "_last") = false from by decide +kernel]
theorem kp4 : (kpFs sa L ea ka ba da).lookup ("is_kept" : Str) = some (.ref ka) := by
  unfold kpFs
  simp [List.lookup_cons, show (("is_kept" : Str) == "_spans") = false from by decide +kernel, show (("is_kept" : Str) == "_last") = false from by decide +kernel, show (("is_kept" : Str) == "_empty") = false from by decide +kernel]
theorem kp5 : (kpFs sa L ea ka ba da).lookup ("_beginning" : Str) = some (.ref ba) := by
  unfold kpFs
  simp [List.lookup_cons, show (("_beginning" : Str) == "_spans") = false from by decide +kernel, show (("_beginning" : Str) == "_last") = false from by decide +kernel, show (("_beginning" : Str) == "_empty") = false from by decide +kernel, show (("_beginning" : Str) == "is_kept") = false from by decide +kernel]
theorem kp6 : (kpFs sa L ea ka ba da).lookup ("_ending" : Str) = some (.ref da) := by
  unfold kpFs
  simp [List.lookup_cons, show (("_ending" : Str) == "_spans") = false from by decide +kernel, show (("_ending" : Str) == "_last") = false from by decide +kernel, show (("_ending" : Str) == "_empty") = false from by decide +kernel, show (("_ending" : Str) == "is_kept") = false from by decide +kernel, show (("_ending" : Str) == "_beginning") = false from by decide +kernel]
def mthL : List Str := ["_go_on", "_goes_back", "_shortest", "add_way", "prices"]
theorem kpN_all : mthL.all (fun m => !(["_spans", "_last", "_empty", "is_kept", "_beginning", "_ending"] : List Str).any fun x => m == x) = true := by decide +kernel
theorem kpN {m : Str} (h : m ∈ mthL) : (kpFs sa L ea ka ba da).lookup m = none := by
  have h1 := List.all_eq_true.mp kpN_all m h
  simp only [List.any_cons, List.any_nil, Bool.or_false, Bool.not_eq_true', Bool.or_eq_false_iff] at h1
  obtain ⟨a1, a2, a3, a4, a5, a6⟩ := h1
  unfold kpFs
  simp [List.lookup_cons, a1, a2, a3, a4, a5, a6]
end
def NoA (K : PySem.W.Frag) (C : Addr) : Prop := ∀ x ∈ ["_spans", "_last", "_empty", "is_kept", "_beginning", "_ending"], NoAttr K C (Str.ofString x)
section
variable {K : PySem.W.Frag} {C : Addr}
theorem NoA.n1 (n : NoA K C) : NoAttr K C "_spans" := n "_spans" (by simp)
theorem NoA.n2 (n : NoA K C) : NoAttr K C "_last" := n "_last" (by simp)
theorem NoA.n3 (n : NoA K C) : NoAttr K C "_empty" := n "_empty" (by simp)
theorem NoA.n4 (n : NoA K C) : NoAttr K C "is_kept" := n "is_kept" (by simp)
theorem NoA.n5 (n : NoA K C) : NoAttr K C "_beginning" := n "_beginning" (by simp)
theorem NoA.n6 (n : NoA K C) : NoAttr K C "_ending" := n "_ending" (by simp)
end
/-- where it all stands -/
structure Kp where
  x : Addr
  dx : Addr
  sa : Addr
  ea : Addr
  ka : Addr
  ba : Addr
  da : Addr
  sas : List Addr
  bas : List Addr
  das : List Addr
structure KpAt (C : Addr) (H : Hp) (o : Kp) (tt : Bool) (ss : List Spn) (L : Nat) (z : M57.Flow) : Prop where
  ins : H o.x = some (.ins C o.dx (kpFs o.sa L o.ea o.ka o.ba o.da))
  sp : H o.sa = some (sqO tt (o.sas.map V.ref))
  so : Objs spO H o.sas ss
  em : H o.ea = some (.lst ((List.range L).map fun y => V.int (z.2 y)))
  kp : H o.ka = some (.lst ((List.range ss.length).map fun i => V.bl (z.1 i)))
  bg : H o.ba = some (.lst (o.bas.map V.ref))
  bo : Objs (fun v => lstN (beg (pb ss L) v)) H o.bas (List.range L)
  en : H o.da = some (.lst (o.das.map V.ref))
  eo : Objs (fun v => lstN (end_ (pb ss L) v)) H o.das (List.range (L + 1))
/-- an address that is none of its lists' -/
structure KpOff (o : Kp) (b : Addr) : Prop where
  sa : o.sa ≠ b
  ea : o.ea ≠ b
  ka : o.ka ≠ b
  ba : o.ba ≠ b
  da : o.da ≠ b
  bas : ∀ c ∈ o.bas, c ≠ b
  das : ∀ c ∈ o.das, c ≠ b
section
variable {C : Addr} {H H' : Hp} {o : Kp} {tt : Bool} {ss : List Spn} {L : Nat} {z : M57.Flow}
theorem Objs.mem {β : Type} {g : β → HO} {H : Hp} {as : List Addr} {xs : List β} (h : Objs g H as xs) {b : Addr} (hb : b ∈ as) : ∃ x ∈ xs, H b = some (g x) := by
  obtain ⟨i, hi⟩ := List.mem_iff_getElem?.mp hb
  have hl : i < xs.length := by
    rw [← h.len]
    exact (List.getElem?_eq_some_iff.mp hi).1
  exact ⟨xs[i], List.getElem_mem hl, h.at_ i _ b (List.getElem?_eq_getElem hl) hi⟩
theorem KpAt.off (h : KpAt C H o tt ss L z) {b : Addr} (hb : H b = none) : KpOff o b := by
  refine ⟨ne_of_none h.sp hb, ne_of_none h.em hb, ne_of_none h.kp hb, ne_of_none h.bg hb, ne_of_none h.en hb, fun c hc => ?_, fun c hc => ?_⟩
  · obtain ⟨x, _, e⟩ := h.bo.mem hc
    exact ne_of_none e hb
  · obtain ⟨x, _, e⟩ := h.eo.mem hc
    exact ne_of_none e hb
theorem KpAt.same (h : KpAt C H o tt ss L z) (s : Same H H') : KpAt C H' o tt ss L z :=
  ⟨s _ _ h.ins, s _ _ h.sp, h.so.same s, s _ _ h.em, s _ _ h.kp, s _ _ h.bg, h.bo.same s, s _ _ h.en, h.eo.same s⟩
theorem sqO_dk {tt : Bool} {xs : List V} {kvs : List (Key × V)} : sqO tt xs ≠ .dK kvs := by
  cases tt <;> intro z <;> cases z
theorem KpAt.but {fa ta : Addr} {kvs : List (Key × V)} (h : KpAt C H o tt ss L z) (f : KpOff o fa) (ef : ∃ xs, H fa = some (.lst xs)) (et : H ta = some (.dK kvs)) (b : But2 fa ta H H') : KpAt C H' o tt ss L z := by
  obtain ⟨xf, ef⟩ := ef
  have k : ∀ {c : Addr} {u : HO}, H c = some u → c ≠ fa → (u ≠ .dK kvs) → H' c = some u := fun {c u} e n d => b c u e n (ne_of e et d)
  refine ⟨k h.ins (ne_of h.ins ef (by intro z; cases z)) (by intro z; cases z), k h.sp f.sa sqO_dk, ⟨h.so.len, fun i x c h1 h2 => ?_⟩, k h.em f.ea (by intro z; cases z), k h.kp f.ka (by intro z; cases z), k h.bg f.ba (by intro z; cases z), ⟨h.bo.len, fun i x c h1 h2 => ?_⟩, k h.en f.da (by intro z; cases z), ⟨h.eo.len, fun i x c h1 h2 => ?_⟩⟩
  · have e := h.so.at_ i x c h1 h2
    exact k e (ne_of e ef (by intro z; cases z)) (by intro z; cases z)
  · exact k (h.bo.at_ i x c h1 h2) (f.bas c (List.mem_of_getElem? h2)) (by intro z; cases z)
  · exact k (h.eo.at_ i x c h1 h2) (f.das c (List.mem_of_getElem? h2)) (by intro z; cases z)
/-- the list at a node -/
theorem KpAt.begAt (h : KpAt C H o tt ss L z) {v : Nat} (hv : v < L) : ∃ b, o.bas[v]? = some b ∧ b ∈ o.bas ∧ (o.bas.map V.ref)[v]? = some (.ref b) ∧ H b = some (lstN (beg (pb ss L) v)) := by
  obtain ⟨b, hb, e⟩ := h.bo.get (i := v) (x := v) (List.getElem?_range hv)
  exact ⟨b, hb, List.mem_of_getElem? hb, by rw [List.getElem?_map, hb]; rfl, e⟩
theorem KpAt.endAt (h : KpAt C H o tt ss L z) {v : Nat} (hv : v ≤ L) : ∃ b, o.das[v]? = some b ∧ b ∈ o.das ∧ (o.das.map V.ref)[v]? = some (.ref b) ∧ H b = some (lstN (end_ (pb ss L) v)) := by
  obtain ⟨b, hb, e⟩ := h.eo.get (i := v) (x := v) (List.getElem?_range (by omega))
  exact ⟨b, hb, List.mem_of_getElem? hb, by rw [List.getElem?_map, hb]; rfl, e⟩
theorem KpAt.spAt (h : KpAt C H o tt ss L z) {i : Nat} (hi : i < ss.length) : ∃ b q, ss[i]? = some q ∧ (o.sas.map V.ref)[i]? = some (.ref b) ∧ H b = some (spO q) ∧ (pb ss L).f i = q.f ∧ (pb ss L).l i = q.l ∧ (pb ss L).c i = q.c := by
  have e := List.getElem?_eq_getElem hi
  obtain ⟨b, hb, eb⟩ := h.so.get e
  obtain ⟨a1, a2, a3⟩ := pb_at (L := L) e
  exact ⟨b, _, e, by rw [List.getElem?_map, hb]; rfl, eb, a1, a2, a3⟩
end
theorem take_filt {α : Type} (f : α → Bool) (l : List α) (i : Nat) (x : α) (h : l[i]? = some x) : (l.take (i + 1)).filter f = (l.take i).filter f ++ if f x = true then [x] else [] := by
  rw [List.take_add_one, h, List.filter_append]
  congr 1
  by_cases hf : f x = true
  · rw [if_pos hf]
    simp [hf]
  · rw [if_neg hf]
    simp [hf]
theorem run_snoc (l : List Arc) (a : Arc) (s : Sta) : run (l ++ [a]) s = ((run l s).1 || (relax (run l s).2 a).1, (relax (run l s).2 a).2) := by
  rw [run_append]
  show (_ || ((relax (run l s).2 a).1 || false), _) = _
  rw [Bool.or_false]
  rfl
end SA

set_option Elab.async false
set_option linter.all false
set_option maxRecDepth 100000
set_option maxHeartbeats 4000000
namespace SA
open PySem PySem.Spec PyProof.Rows L2 K83 M57
section
variable {P : Program} {w0 : World} {K : PySem.W.Frag} {mg : Str → Option Value} {base : Heap} {C : Addr}
theorem rIx_sq {tt : Bool} {H : Hp} {a : Addr} {xs : List V} {j : Nat} {v : V} {Q : VK} (e : H a = some (sqO tt xs)) (h : xs[j]? = some v) (q : Q v H) : rIx K (.ref a) (.int (j : Nat)) H Q := by
  cases tt with
  | true => exact .inr (.inl ⟨a, xs, _, v, rfl, rfl, SqT.of e, atI_nat h, q⟩)
  | false => exact .inl ⟨a, xs, _, v, rfl, rfl, SqL.of e, atI_nat h, q⟩
/-- what both methods are handed -/
structure GoIn (C : Addr) (H : Hp) (o : Kp) (tt : Bool) (ss : List Spn) (L : Nat) (z : M57.Flow) (fa ta : Addr) (s : Sta) (v : Nat) : Prop where
  kp : KpAt C H o tt ss L z
  off : KpOff o fa
  fs : FS L H fa ta s
  ok : (pb ss L).Ok
  small : L ≤ 1000 ∧ ss.length ≤ 1000
  far : ∃ d, s.far v = some d
def spGoOn (C : Addr) : Sp := fun vs H Q _ => ∃ (o : Kp) (tt : Bool) (ss : List Spn) (L v : Nat) (z : M57.Flow) (fa ta : Addr) (s : Sta), vs = [.ref o.x, .int (v : Nat), .ref fa, .ref ta] ∧ GoIn C H o tt ss L z fa ta s v ∧ v < L ∧
  ∀ H', FS L H' fa ta (run (fwd (pb ss L) z.1 v) s).2 → But2 fa ta H H' → Q .non H'
theorem ok_go_on {f : Addr} {fd : FuncData} (F : Fun K "_go_on" "Keeping._go_on" s_Keeping__go_on f fd) (cC : Cls K C) (nA : NoA K C) (c__step : Dq P w0 K mg base CX0 1 "_step" ["node", "other", "span", "length", "far", "steps"] spStep) : FnOk P w0 K mg base CX0 2 f fd ["self", "node", "far", "steps"] (spGoOn C) := by
  refine F.ok sc_Keeping__go_on (fun vs H Q E h => ?_) (fun cdv A outer s H vs Q E hr h => ?_)
  · obtain ⟨o, tt, ss, L, v, z, fa, ta, t, rfl, _⟩ := h
    rfl
  · obtain ⟨o, tt, ss, L, v, z, fa, ta, t, rfl, g, hv, q⟩ := h
    refine ⟨_, (pss_cons (ps_expr (pe_q c__step hr (by decide) (by rfl) (pa_cons (pv 1) (pa_cons (pe_op op_add (pv 1) pe_int) (pa_cons pe_non (pa_cons pe_int (pa_cons (pv 2) (pa_cons (pv 3) pa_nil))))))))
      (pss_one (ps_for PassesOwn.never rfl (pi_list (pe_ix ix_list (pe_fld (pv 0) rfl) (pv 1) (fun _ _ => rfl))) (pg_name (i := 4) sc_Keeping__go_on.nd rfl (Or.inl rfl)) (pss_cons (ps_asg (pe_ix ix_seq (pe_fld (pv 0) rfl) (pv 4) (fun _ _ => rfl)) (pg_tup (by rfl) (pgs_cons (pg_name (i := 5) sc_Keeping__go_on.nd rfl (Or.inl rfl)) (pgs_cons (pg_name (i := 6) sc_Keeping__go_on.nd rfl (Or.inl rfl)) (pgs_cons (pg_name (i := 7) sc_Keeping__go_on.nd rfl (Or.inl rfl)) pgs_nil)))))
      (pss_one (ps_if (pt_not (pt_truth (pe_ix ix_list (pe_fld (pv 0) rfl) (pv 4) (fun _ _ => rfl)) (by intro _; rfl))) (pss_one (ps_expr (pe_q c__step hr (by decide) (by rfl) (pa_cons (pv 1) (pa_cons (pe_op op_add (pv 6) pe_int) (pa_cons (pv 4) (pa_cons (pe_op op_sub pe_int (pv 7)) (pa_cons (pv 2) (pa_cons (pv 3) pa_nil))))))))) pss_nil)))))), ?_⟩
    have hL := g.small.1
    refine ⟨_, rfl, _, rfl, _, _, rfl, rfl, _, rfl, _, rfl, v, v + 1, L, none, 0, fa, ta, t, rfl, g.fs, by omega, by omega, hL, g.far, fun H1 fs1 b1 => ?_⟩
    obtain ⟨kvs, et, _⟩ := g.fs.t
    have kpK : ∀ {H' : Hp}, But2 fa ta H H' → KpAt C H' o tt ss L z := fun b => g.kp.but g.off ⟨_, g.fs.f⟩ et b
    obtain ⟨b, hb, hbm, hbr, eb⟩ := g.kp.begAt hv
    have eb : H b = some (.lst ((beg (pb ss L) v).map fun i => V.int (i : Nat))) := eb
    have ebK : ∀ {H' : Hp}, But2 fa ta H H' → H' b = some (.lst ((beg (pb ss L) v).map fun i => V.int (i : Nat))) := fun b2 => b2 _ _ eb (g.off.bas b hbm) (ne_of eb et (by intro z; cases z))
    have bm : ∀ i ∈ beg (pb ss L) v, i < ss.length ∧ (pb ss L).f i = v := fun i hi => by
      unfold beg at hi
      rw [List.mem_filter, List.mem_range] at hi
      exact ⟨hi.1, by simpa using hi.2⟩
    unfold fwd at q
    clear eb
    generalize beg (pb ss L) v = l at ebK bm q
    have kq1 := kpK b1
    refine ⟨_, rfl, o.x, C, o.dx, _, _, rfl, kq1.ins, cC, nA.n5, kp5, _, rfl, ⟨o.ba, _, _, _, rfl, rfl, SqL.of kq1.bg, atI_nat hbr, b, rfl, ⟨_, SqL.of (ebK b1)⟩, for_list (K := K) (a := b) (xs := l.map fun i => V.int (i : Nat)) (fun j σ H' => (∃ y4 y5 y6 y7, σ = [some (.ref o.x), some (.int (v : Nat)), some (.ref fa), some (.ref ta), y4, y5, y6, y7]) ∧ But2 fa ta H H' ∧ FS L H' fa ta (run (chain v :: ((l.take j).filter fun i => !z.1 i).map (ahead (pb ss L))) t).2) ⟨⟨_, _, _, _, rfl⟩, b1, fs1⟩ (fun j σ H' _ e => SqL.of (ebK e.2.1)) ?_ ?_⟩⟩
    · rintro j w σ H2 hw ⟨⟨y4, y5, y6, y7, rfl⟩, b2, fs2⟩
      obtain ⟨i, hi, rfl⟩ : ∃ i, l[j]? = some i ∧ V.int (i : Nat) = w := by
        rw [List.getElem?_map] at hw
        exact Option.map_eq_some_iff.mp hw
      obtain ⟨hin, hfi⟩ := bm i (List.mem_of_getElem? hi)
      have kp2 := kpK b2
      obtain ⟨c, s3, hs3, hcr, ec, f1, f2, f3⟩ := kp2.spAt hin
      have hlL : s3.l < L := by
        have := g.ok.lL i hin
        rw [f2] at this
        exact this
      refine ⟨_, rfl, o.x, C, o.dx, _, _, rfl, kp2.ins, cC, nA.n1, kp1, _, rfl, rIx_sq kp2.sp hcr ?_⟩
      refine ⟨c, _, rfl, SqT.of ec, rfl, _, _, rfl, _, _, rfl, _, _, rfl, rfl, ?_⟩
      have kk : ((List.range ss.length).map fun i => V.bl (z.1 i))[i]? = some (.bl (z.1 i)) := by
        rw [List.getElem?_map, List.getElem?_range hin]
        rfl
      refine ⟨_, rfl, o.x, C, o.dx, _, _, rfl, kp2.ins, cC, nA.n4, kp4, _, rfl, ⟨o.ka, _, _, _, rfl, rfl, SqL.of kp2.kp, atI_nat kk, z.1 i, rfl, ?_⟩⟩
      cases hk : z.1 i with
      | true =>
        refine iteF ⟨⟨_, _, _, _, rfl⟩, b2, ?_⟩
        rw [take_filt _ _ _ _ hi, if_neg (by simp [hk]), List.append_nil]
        exact fs2
      | false =>
        have fr : ∃ d, (run (chain v :: ((l.take j).filter fun i => !z.1 i).map (ahead (pb ss L))) t).2.far v = some d := (run_le _ t).gd g.far
        refine iteT ⟨_, rfl, _, rfl, _, _, rfl, rfl, _, rfl, _, rfl, _, _, rfl, rfl, _, rfl, _, rfl, v, s3.l + 1, L, some i, 0 - s3.c, fa, ta, _, rfl, fs2, by omega, by omega, hL, fr, fun H3 fs3 b3 => ⟨⟨_, _, _, _, rfl⟩, b2.trans b3, ?_⟩⟩
        have ea : (⟨v, s3.l + 1, some i, 0 - s3.c⟩ : Arc) = ahead (pb ss L) i := by
          unfold M57.ahead
          rw [f2, f3, hfi]
        rw [ea] at fs3
        rw [take_filt _ _ _ _ hi, if_pos (by simp [hk]), List.map_append, ← List.cons_append, List.map_cons, List.map_nil, run_snoc]
        exact fs3
    · rintro σ H2 ⟨⟨y4, y5, y6, y7, rfl⟩, b2, fs2⟩
      rw [List.length_map, List.take_length] at fs2
      exact q H2 fs2 b2
end
end SA

set_option Elab.async false
set_option linter.all false
set_option maxRecDepth 100000
set_option maxHeartbeats 4000000
namespace SA
open PySem PySem.Spec PyProof.Rows L2 K83 M57
section
variable {P : Program} {w0 : World} {K : PySem.W.Frag} {mg : Str → Option Value} {base : Heap} {C : Addr}
def spGoBk (C : Addr) : Sp := fun vs H Q _ => ∃ (o : Kp) (tt : Bool) (ss : List Spn) (L v : Nat) (z : M57.Flow) (fa ta : Addr) (s : Sta), vs = [.ref o.x, .int (v : Nat), .ref fa, .ref ta] ∧ GoIn C H o tt ss L z fa ta s v ∧ 1 ≤ v ∧ v ≤ L ∧
  ∀ H', FS L H' fa ta (run (bwd (pb ss L) z.1 z.2 v) s).2 → But2 fa ta H H' → Q (.bl (run (bwd (pb ss L) z.1 z.2 v) s).1) H'
theorem ok_goes_back {f : Addr} {fd : FuncData} (F : Fun K "_goes_back" "Keeping._goes_back" s_Keeping__goes_back f fd) (cC : Cls K C) (nA : NoA K C) (c__step : Dq P w0 K mg base CX0 1 "_step" ["node", "other", "span", "length", "far", "steps"] spStep) : FnOk P w0 K mg base CX0 2 f fd ["self", "node", "far", "steps"] (spGoBk C) := by
  refine F.ok sc_Keeping__goes_back (fun vs H Q E h => ?_) (fun cdv A outer s H vs Q E hr h => ?_)
  · obtain ⟨o, tt, ss, L, v, z, fa, ta, t, rfl, _⟩ := h
    rfl
  · obtain ⟨o, tt, ss, L, v, z, fa, ta, t, rfl, g, v1, hv, q⟩ := h
    refine ⟨_, (Evl.pss_cut (ps_set (i := 4) sc_Keeping__goes_back.nd rfl (Or.inl rfl) (pe_and (pe_cmpR op_gt (pe_ix ix_list (pe_fld (pv 0) rfl) (pe_op op_sub (pv 1) pe_int) (fun _ _ => rfl)) pe_int (nomark _)) (pe_one (pe_q c__step hr (by decide) (by rfl) (pa_cons (pv 1) (pa_cons (pe_op op_sub (pv 1) pe_int) (pa_cons pe_non (pa_cons pe_int (pa_cons (pv 2) (pa_cons (pv 3) pa_nil))))))))))
      (pss_cons (ps_for PassesOwn.never rfl (pi_list (pe_ix ix_list (pe_fld (pv 0) rfl) (pv 1) (fun _ _ => rfl))) (pg_name (i := 5) sc_Keeping__goes_back.nd rfl (Or.inl rfl)) (pss_cons (ps_asg (pe_ix ix_seq (pe_fld (pv 0) rfl) (pv 5) (fun _ _ => rfl)) (pg_tup (by rfl) (pgs_cons (pg_name (i := 6) sc_Keeping__goes_back.nd rfl (Or.inl rfl)) (pgs_cons (pg_name (i := 7) sc_Keeping__goes_back.nd rfl (Or.inl rfl)) (pgs_cons (pg_name (i := 8) sc_Keeping__goes_back.nd rfl (Or.inl rfl)) pgs_nil)))))
      (pss_one (ps_if (PW.pt (pw_and (pt_truth (pe_ix ix_list (pe_fld (pv 0) rfl) (pv 5) (fun _ _ => rfl)) (by intro _; rfl)) (pw_and1 (pt_val (pe_q c__step hr (by decide) (by rfl) (pa_cons (pv 1) (pa_cons (pv 6) (pa_cons (pv 5) (pa_cons (pv 8) (pa_cons (pv 2) (pa_cons (pv 3) pa_nil))))))))))) (pss_one (ps_set (i := 4) sc_Keeping__goes_back.nd rfl (Or.inl rfl) pe_bl)) pss_nil))))
      (pss_one (ps_ret (pv 4))))), ?_⟩
    have hL := g.small.1
    obtain ⟨kvs, et, _⟩ := g.fs.t
    have kpK : ∀ {H' : Hp}, But2 fa ta H H' → KpAt C H' o tt ss L z := fun b => g.kp.but g.off ⟨_, g.fs.f⟩ et b
    obtain ⟨b, hb, hbm, hbr, eb⟩ := g.kp.endAt hv
    have eb : H b = some (.lst ((end_ (pb ss L) v).map fun i => V.int (i : Nat))) := eb
    have ebK : ∀ {H' : Hp}, But2 fa ta H H' → H' b = some (.lst ((end_ (pb ss L) v).map fun i => V.int (i : Nat))) := fun b2 => b2 _ _ eb (g.off.das b hbm) (ne_of eb et (by intro z; cases z))
    have bm : ∀ i ∈ end_ (pb ss L) v, i < ss.length ∧ (pb ss L).l i + 1 = v := fun i hi => by
      unfold end_ at hi
      rw [List.mem_filter, List.mem_range] at hi
      exact ⟨hi.1, by simpa using hi.2⟩
    unfold bwd at q
    clear eb
    generalize end_ (pb ss L) v = l at ebK bm q
    have ee : ((List.range L).map fun y => V.int (z.2 y))[v - 1]? = some (.int (z.2 (v - 1))) := by
      rw [List.getElem?_map, List.getElem?_range (by omega)]
      rfl
    have vm : ((v : Nat) : Int) - 1 = ((v - 1 : Nat) : Int) := by omega
    refine ⟨fun σ H' => σ = [some (.ref o.x), some (.int (v : Nat)), some (.ref fa), some (.ref ta), some (.bl (run (if 0 < z.2 (v - 1) then [chainB v] else []) t).1), none, none, none, none] ∧ But2 fa ta H H' ∧ FS L H' fa ta (run (if 0 < z.2 (v - 1) then [chainB v] else []) t).2, ?_, ?_⟩
    · refine ⟨_, rfl, o.x, C, o.dx, _, _, rfl, g.kp.ins, cC, nA.n3, kp3, _, rfl, _, _, rfl, rfl, ?_⟩
      show rIxL K (.ref o.ea) (.int (((v : Nat) : Int) - 1)) H _
      rw [vm]
      refine ⟨o.ea, _, _, _, rfl, rfl, SqL.of g.kp.em, atI_nat ee, _, _, rfl, rfl, _, rfl, ?_⟩
      by_cases c : 0 < z.2 (v - 1)
      · rw [if_pos c]
        refine iteTd (decide_eq_true c) ⟨_, rfl, _, rfl, _, _, rfl, rfl, _, rfl, _, rfl, v, v - 1, L, none, 0, fa, ta, t, ?_, g.fs, hv, by omega, hL, g.far, fun H1 fs1 b1 => ⟨?_, b1, ?_⟩⟩
        · show [V.int (v : Nat), V.int (((v : Nat) : Int) - 1), V.non, V.int 0, V.ref fa, V.ref ta] = _
          rw [vm]
          rfl
        · show [some (V.ref o.x), some (V.int (v : Nat)), some (V.ref fa), some (V.ref ta), some (V.bl (relax t (chainB v)).1), none, none, none, none] = [some (V.ref o.x), some (V.int (v : Nat)), some (V.ref fa), some (V.ref ta), some (V.bl ((relax t (chainB v)).1 || false)), none, none, none, none]
          rw [Bool.or_false]
        · exact fs1
      · rw [if_neg c]
        exact iteFd (decide_eq_false c) ⟨rfl, But2.refl _ _ _, g.fs⟩
    rintro σ H1 ⟨rfl, b1, fs1⟩
    have kq1 := kpK b1
    refine ⟨_, rfl, o.x, C, o.dx, _, _, rfl, kq1.ins, cC, nA.n6, kp6, _, rfl, ⟨o.da, _, _, _, rfl, rfl, SqL.of kq1.en, atI_nat hbr, b, rfl, ⟨_, SqL.of (ebK b1)⟩, for_list (K := K) (a := b) (xs := l.map fun i => V.int (i : Nat)) (fun j σ H' => (∃ y5 y6 y7 y8, σ = [some (.ref o.x), some (.int (v : Nat)), some (.ref fa), some (.ref ta), some (.bl (run ((if 0 < z.2 (v - 1) then [chainB v] else []) ++ ((l.take j).filter z.1).map (back (pb ss L))) t).1), y5, y6, y7, y8]) ∧ But2 fa ta H H' ∧ FS L H' fa ta (run ((if 0 < z.2 (v - 1) then [chainB v] else []) ++ ((l.take j).filter z.1).map (back (pb ss L))) t).2) ⟨⟨none, none, none, none, by rw [List.take_zero, List.filter_nil, List.map_nil, List.append_nil]⟩, b1, by rw [List.take_zero, List.filter_nil, List.map_nil, List.append_nil]; exact fs1⟩ (fun j σ H' _ e => SqL.of (ebK e.2.1)) ?_ ?_⟩⟩
    · rintro j w σ H2 hw ⟨⟨y5, y6, y7, y8, rfl⟩, b2, fs2⟩
      obtain ⟨i, hi, rfl⟩ : ∃ i, l[j]? = some i ∧ V.int (i : Nat) = w := by
        rw [List.getElem?_map] at hw
        exact Option.map_eq_some_iff.mp hw
      obtain ⟨hin, hli⟩ := bm i (List.mem_of_getElem? hi)
      have kp2 := kpK b2
      obtain ⟨c, s3, hs3, hcr, ec, f1, f2, f3⟩ := kp2.spAt hin
      have hfL : s3.f ≤ L := by
        have h1 := g.ok.lL i hin
        have h2 := g.ok.fl i hin
        rw [f1] at h2
        have h3 : (pb ss L).l i < L := h1
        omega
      refine ⟨_, rfl, o.x, C, o.dx, _, _, rfl, kp2.ins, cC, nA.n1, kp1, _, rfl, rIx_sq kp2.sp hcr ?_⟩
      refine ⟨c, _, rfl, SqT.of ec, rfl, _, _, rfl, _, _, rfl, _, _, rfl, rfl, ?_⟩
      have kk : ((List.range ss.length).map fun i => V.bl (z.1 i))[i]? = some (.bl (z.1 i)) := by
        rw [List.getElem?_map, List.getElem?_range hin]
        rfl
      refine ⟨_, rfl, o.x, C, o.dx, _, _, rfl, kp2.ins, cC, nA.n4, kp4, _, rfl, ⟨o.ka, _, _, _, rfl, rfl, SqL.of kp2.kp, atI_nat kk, z.1 i, rfl, ?_⟩⟩
      cases hk : z.1 i with
      | false =>
        have e2 : (l.take (j + 1)).filter z.1 = (l.take j).filter z.1 := by
          rw [take_filt _ _ _ _ hi, if_neg (by simp [hk]), List.append_nil]
        refine iteF (iteF ⟨⟨some (.int (i : Nat)), some (.int (s3.f : Nat)), some (.int (s3.l : Nat)), some (.int s3.c), ?_⟩, b2, ?_⟩)
        · rw [e2]
          rfl
        · rw [e2]
          exact fs2
      | true =>
        have e2 : ((l.take (j + 1)).filter z.1).map (back (pb ss L)) = ((l.take j).filter z.1).map (back (pb ss L)) ++ [back (pb ss L) i] := by
          rw [take_filt _ _ _ _ hi, if_pos hk, List.map_append]
          rfl
        have ea : (⟨v, s3.f, some i, s3.c⟩ : Arc) = back (pb ss L) i := by
          unfold M57.back
          rw [f1, f3, hli]
        have fr : ∃ d, (run ((if 0 < z.2 (v - 1) then [chainB v] else []) ++ ((l.take j).filter z.1).map (back (pb ss L))) t).2.far v = some d := (run_le _ t).gd g.far
        refine iteT ⟨_, rfl, _, rfl, _, rfl, _, rfl, _, rfl, _, rfl, v, s3.f, L, some i, s3.c, fa, ta, _, rfl, fs2, hv, hfL, hL, fr, fun H3 fs3 b3 => ?_⟩
        rw [e2, ← List.append_assoc, run_snoc, ← ea]
        generalize hr3 : relax (run ((if 0 < z.2 (v - 1) then [chainB v] else []) ++ ((l.take j).filter z.1).map (back (pb ss L))) t).2 ⟨v, s3.f, some i, s3.c⟩ = r3 at fs3
        obtain ⟨rb, rs⟩ := r3
        refine ⟨_, rfl, ?_⟩
        cases rb with
        | true =>
          refine iteT ⟨⟨some (.int (i : Nat)), some (.int (s3.f : Nat)), some (.int (s3.l : Nat)), some (.int s3.c), ?_⟩, b2.trans b3, fs3⟩
          rw [Bool.or_true]
          rfl
        | false =>
          refine iteF ⟨⟨some (.int (i : Nat)), some (.int (s3.f : Nat)), some (.int (s3.l : Nat)), some (.int s3.c), ?_⟩, b2.trans b3, fs3⟩
          rw [Bool.or_false]
          rfl
    · rintro σ H2 ⟨⟨y5, y6, y7, y8, rfl⟩, b2, fs2⟩
      rw [List.length_map, List.take_length] at fs2
      refine ⟨_, rfl, ?_⟩
      rw [List.length_map, List.take_length]
      exact q H2 fs2 b2
end
end SA

set_option Elab.async false
set_option linter.all false
set_option maxRecDepth 100000
set_option maxHeartbeats 4000000
namespace M57
section
variable {p : Pb} {k : Nat → Bool} {e : Nat → Int}
def S0 : Sta := ⟨up (fun _ => none) 0 (some 0), fun _ => none⟩
theorem s0_0 : S0.far 0 = some 0 := by
  show up (fun _ => none) 0 (some 0) 0 = some (0 : Int)
  exact up_same
theorem s0_ne {v : Nat} (h : v ≠ 0) : S0.far v = none := by
  show up (fun _ => none) 0 (some 0) v = (none : Option Int)
  exact up_ne h
theorem S0_inv {A : List Arc} {φ : Nat → Int} : Inv A φ S0 := by
  have f0 : ∀ v d, S0.far v = some d → v = 0 ∧ d = 0 := fun v d h => by
    by_cases c : v = 0
    · subst c
      rw [s0_0] at h
      cases h
      exact ⟨rfl, rfl⟩
    · rw [s0_ne c] at h
      cases h
  refine ⟨s0_0, rfl, fun v d h => ?_, (fun v u sp h => by cases h), fun v d h => ?_⟩
  · obtain ⟨rfl, rfl⟩ := f0 v d h
    omega
  · obtain ⟨rfl, rfl⟩ := f0 v d h
    exact .zero
theorem S0_upto : Upto S0 0 := fun x hx => ⟨0, by
  have : x = 0 := by omega
  rw [this]
  exact s0_0⟩
/-- one round: forward, then back -/
def turn (p : Pb) (k : Nat → Bool) (e : Nat → Int) (s : Sta) : Bool × Sta := run (bwds p k e) (run (fwds p k) s).2
theorem turn_inv (h : p.Ok) {φ : Nat → Int} (hp : Pot (arcs p k e) φ) {s : Sta} (I : Inv (arcs p k e) φ s) (u : Upto s 0) : Inv (arcs p k e) φ (turn p k e s).2 ∧ Upto (turn p k e s).2 p.L := by
  obtain ⟨g, u2⟩ := fwds_run (p := p) (k := k) u p.L
  have I1 := I.run hp (fwds p k) s (fun a ha => List.mem_append_left _ ha) g
  exact ⟨I1.run hp (bwds p k e) _ (fun a ha => List.mem_append_right _ ha) (bwds_gd h u2), u2.le (run_le _ _)⟩
theorem turn_end (h : p.Ok) {s : Sta} (u : Upto s 0) (hf : (turn p k e s).1 = false) : Upto (turn p k e s).2 p.L ∧ ∀ a ∈ arcs p k e, Ok (turn p k e s).2 a := by
  obtain ⟨e1, e2, e3⟩ := round_end (e := e) h u hf
  unfold turn
  rw [e1]
  exact ⟨e2, e3⟩
theorem turn_lt (h : p.Ok) {φ : Nat → Int} {s : Sta} (u : Upto s p.L) (hf : (turn p k e s).1 = true) : rest φ p.L (turn p k e s).2 < rest φ p.L s := by
  have u0 : Upto s 0 := fun x hx => u x (by omega)
  have u1 : Upto (run (fwds p k) s).2 p.L := u.le (run_le _ _)
  obtain ⟨a, ha, d, d', e1, e2, e3⟩ := run_yes (bwds p k e) (run (fwds p k) s).2 (fun a ha => u1 _ (bwds_lt h ha).1) (fun a ha => u1 _ (bwds_lt h ha).2) hf
  have h1 := rest_lt (φ := φ) (fun v hv => u1 v hv) (run_le (bwds p k e) _) (bwds_lt h ha).2 e1 e2 e3
  have h2 := rest_le (φ := φ) (fun v hv => u v hv) (run_le (fwds p k) s)
  show rest φ p.L (run (bwds p k e) (run (fwds p k) s).2).2 < _
  omega
/-- what is left of the rounds -/
def Mes (p : Pb) (k : Nat → Bool) (e : Nat → Int) (φ : Nat → Int) (s : Sta) (m : Nat) : Prop := (Upto s p.L ∧ rest φ p.L s < m) ∨ rest φ p.L (turn p k e s).2 + 1 < m
theorem Mes.start (φ : Nat → Int) (s : Sta) : ∃ m, Mes p k e φ s m := ⟨(rest φ p.L (turn p k e s).2 + 1).toNat + 1, .inr (by omega)⟩
theorem Mes.pos (h : p.Ok) {φ : Nat → Int} (hp : Pot (arcs p k e) φ) {s : Sta} (I : Inv (arcs p k e) φ s) (u : Upto s 0) {m : Nat} (M : Mes p k e φ s m) : 0 < m := by
  rcases M with ⟨ul, hm⟩ | hm
  · have := rest_nonneg I fun v hv => ul v hv
    omega
  · obtain ⟨I1, u1⟩ := turn_inv h hp I u
    have := rest_nonneg I1 fun v hv => u1 v hv
    omega
theorem Mes.next (h : p.Ok) {φ : Nat → Int} (hp : Pot (arcs p k e) φ) {s : Sta} (I : Inv (arcs p k e) φ s) (u : Upto s 0) {m : Nat} (M : Mes p k e φ s m) (hf : (turn p k e s).1 = true) : Mes p k e φ (turn p k e s).2 (m - 1) := by
  have hm := M.pos h hp I u
  obtain ⟨I1, u1⟩ := turn_inv h hp I u
  refine .inl ⟨u1, ?_⟩
  rcases M with ⟨ul, hm⟩ | hm
  · have := turn_lt (φ := φ) h ul hf
    omega
  · omega
end
end M57

set_option Elab.async false
set_option linter.all false
set_option maxRecDepth 100000
set_option maxHeartbeats 4000000
namespace SA
open PySem PySem.Spec PyProof.Rows L2 K83 M57
theorem farL_none {L : Nat} {st : Nat → Option (Nat × Option Nat)} : farL L ⟨fun _ => none, st⟩ = List.replicate (L + 1) V.non := by
  refine List.ext_getElem? fun i => ?_
  by_cases c : i < L + 1
  · rw [far_at (show i ≤ L by omega), List.getElem?_replicate, if_pos c]
    rfl
  · rw [List.getElem?_eq_none (by rw [far_len]; omega), List.getElem?_eq_none (by rw [List.length_replicate]; omega)]
theorem flat_snoc {α β : Type} (f : α → List β) (l : List α) (a : α) : (l ++ [a]).flatMap f = l.flatMap f ++ f a := by
  rw [List.flatMap_append]
  simp
theorem downs_snoc (L i : Nat) : ((List.range (i + 1)).map fun j => L - j) = ((List.range i).map fun j => L - j) ++ [L - i] := by
  rw [List.range_succ, List.map_append]
  rfl
theorem FS.lst {L : Nat} {H : Hp} {fa ta D : Addr} {s : Sta} {ys : List V} {x : HO} (h : FS L H fa ta s) (e : H D = some (.lst ys)) (n : D ≠ fa) : FS L (upd H D x) fa ta s := by
  obtain ⟨kvs, et, k1, k2⟩ := h.t
  refine ⟨by rw [upd_ne n.symm]; exact h.f, kvs, by rw [upd_ne (ne_of et e (by intro z; cases z))]; exact et, k1, fun v hv => ⟨(k2 v hv).1, fun u sp hs => ?_⟩⟩
  obtain ⟨b, e1, e2⟩ := (k2 v hv).2 u sp hs
  exact ⟨b, e1, by rw [upd_ne (ne_of e2 e (by intro z; cases z))]; exact e2⟩
section
variable {P : Program} {w0 : World} {K : PySem.W.Frag} {mg : Str → Option Value} {base : Heap} {C : Addr}
def spShort (C : Addr) : Sp := fun vs H Q _ => ∃ (o : Kp) (tt : Bool) (ss : List Spn) (L : Nat) (z : M57.Flow) (φ : Nat → Int), vs = [.ref o.x] ∧ KpAt C H o tt ss L z ∧ (pb ss L).Ok ∧ (L ≤ 1000 ∧ ss.length ≤ 1000) ∧ Pot (arcs (pb ss L) z.1 z.2) φ ∧
  ∀ H' p fa ta s, H' p = some (.tup [.ref fa, .ref ta]) → FS L H' fa ta s → Inv (arcs (pb ss L) z.1 z.2) φ s → Upto s L → (∀ a ∈ arcs (pb ss L) z.1 z.2, M57.Ok s a) → H fa = none → Same H H' → Q (.ref p) H'
theorem ok_shortest {f : Addr} {fd : FuncData} (F : Fun K "_shortest" "Keeping._shortest" s_Keeping__shortest f fd) (B : Bn7 mg) (cC : Cls K C) (nA : NoA K C) (m__go_on : Dm P w0 K mg base C 2 "_go_on" ["self", "node", "far", "steps"] (spGoOn C)) (m__goes_back : Dm P w0 K mg base C 2 "_goes_back" ["self", "node", "far", "steps"] (spGoBk C)) : FnOk P w0 K mg base CX0 3 f fd ["self"] (spShort C) := by
  refine F.ok sc_Keeping__shortest (fun vs H Q E h => ?_) (fun cdv A outer s H vs Q E hr h => ?_)
  · obtain ⟨o, tt, ss, L, z, φ, rfl, _⟩ := h
    rfl
  · obtain ⟨o, tt, ss, L, z, φ, rfl, kp, ok, hL, hφ, q⟩ := h
    refine ⟨_, (pss_cons (ps_set (i := 1) sc_Keeping__shortest.nd rfl (Or.inr rfl) (pe_lc (own := [("_", 5)]) (g := (gName 5)) (tt := tYes) (by rfl) sc_Keeping__shortest.nd (pi_range1 (by rfl) B.range (pa_cons (pe_op op_add (pe_fld (pv 0) rfl) pe_int) pa_nil)) (blkOk_by (N := n_Keeping__shortest) (sc := defScope s_Keeping__shortest) (by decide +kernel)) (fun _ _ _ _ _ => (pg_name (i := 5) sc_Keeping__shortest.nd rfl (Or.inl rfl))) (fun _ _ _ _ _ => pts_nil) (fun _ _ _ _ _ => pe_non)))
      (pss_cons (ps_asg pe_int (pg_sub (pv 1) pe_int set_list))
      (pss_cons (ps_set (i := 2) sc_Keeping__shortest.nd rfl (Or.inr rfl) pe_dnewK)
      (pss_cons (ps_set (i := 3) sc_Keeping__shortest.nd rfl (Or.inl rfl) pe_bl)
      (pss_cons (ps_while PassesOwn.never (pt_val (pv 3)) (pss_cons (ps_for PassesOwn.never rfl (pi_range1 (by rfl) B.range (pa_cons (pe_fld (pv 0) rfl) pa_nil)) (pg_name (i := 4) sc_Keeping__shortest.nd rfl (Or.inl rfl)) (pss_one (ps_expr (pe_mq m__go_on cC hr (by decide) (pv 0) (pa_cons (pv 4) (pa_cons (pv 1) (pa_cons (pv 2) pa_nil)))))))
      (pss_one (ps_set (i := 3) sc_Keeping__shortest.nd rfl (Or.inl rfl) (pe_callB (cr_any rfl) (by rfl) B.any (by decide +kernel) (pa_cons (pe_lc (own := [("node", 4)]) (g := (gName 4)) (tt := tYes) (by rfl) sc_Keeping__shortest.nd (pi_range3 (by rfl) B.range (pa_cons (pe_fld (pv 0) rfl) (pa_cons pe_int (pa_cons (pe_un un_neg pe_int) pa_nil)))) (blkOk_by (N := n_Keeping__shortest) (sc := defScope s_Keeping__shortest) (by decide +kernel)) (fun _ _ _ _ _ => (pg_name (i := 4) sc_Keeping__shortest.nd rfl (Or.inl rfl))) (fun _ _ _ _ _ => pts_nil) (fun _ _ _ _ _ => (pe_mq m__goes_back cC hr (by decide) (pv 0) (pa_cons (pv 4) (pa_cons (pv 1) (pa_cons (pv 2) pa_nil)))))) pa_nil))))))
      (pss_one (ps_ret (pe_tup (pa_cons (pv 1) (pa_cons (pv 2) pa_nil)))))))))), ?_⟩
    have hs63 := sizeLine_eq
    refine ⟨_, rfl, o.x, C, o.dx, _, _, rfl, kp.ins, cC, nA.n2, kp2, _, _, rfl, rfl, _, rfl, (by omega), (by omega), fun fa hfa => ?_⟩
    have eL : (((L : Nat) : Int) + 1).toNat = L + 1 := by omega
    rw [eL]
    refine lc_range (lo := 0) (n := L + 1) (fun i H' => Same H H' ∧ H' fa = some (.lst (List.replicate i V.non))) ⟨Same.new hfa, upd_same⟩ ?_ ?_
    · rintro i H' hi ⟨s1, e1⟩
      refine ⟨rfl, _, e1, (by rw [List.length_replicate]; omega), ⟨Same.upd' s1 hfa, ?_⟩⟩
      rw [upd_same, List.replicate_succ']
    rintro H1 ⟨s1, e1⟩
    refine ⟨_, rfl, fa, _, 0, 0, rfl, rfl, e1, (show ixN _ ((0 : Nat) : Int) = some 0 from ixN_nat (by rw [List.length_replicate]; exact Nat.succ_pos L)), ?_⟩
    rw [← farL_none (st := fun _ => none), far_set (st := fun _ => none)]
    have fa1 : ∀ {b : Addr} {x : HO}, H b = some x → b ≠ fa := fun e z => by
      rw [z, hfa] at e
      cases e
    have sA : Same H (upd H1 fa (.lst (farL L S0))) := fun b x e => by
      rw [upd_ne (fa1 e)]
      exact s1 b x e
    have fA : (upd H1 fa (.lst (farL L S0))) fa = some (.lst (farL L S0)) := upd_same
    change tSeq _ _ _ _ (upd H1 fa (.lst (farL L S0)))
    generalize upd H1 fa (.lst (farL L S0)) = H2 at sA fA
    refine fun ta hta => ?_
    have ft : FS L (upd H2 ta (.dK [])) fa ta S0 := by
      refine ⟨?_, [], upd_same, ⟨[], rfl, List.nodup_nil, by simp⟩, fun v hv => ⟨fun _ => rfl, (fun u sp h => by cases h)⟩⟩
      rw [upd_ne (ne_of_none fA hta)]
      exact fA
    have hta0 : H ta = none := sA.free hta
    have sB : Same H (upd H2 ta (.dK [])) := Same.upd' sA hta0
    have et : (upd H2 ta (.dK [])) ta = some (.dK []) := upd_same
    change tSeq _ _ _ _ (upd H2 ta (.dK []))
    generalize upd H2 ta (.dK []) = H3 at ft sB et
    have kp3' := kp.same sB
    have off := kp.off hfa
    have kpK : ∀ {H' : Hp}, But2 fa ta H3 H' → KpAt C H' o tt ss L z := fun b => kp3'.but off ⟨_, ft.f⟩ et b
    have sK : ∀ {H' : Hp}, But2 fa ta H3 H' → Same H H' := fun b c x e => b _ _ (sB _ _ e) (fa1 e) (ne_of_none e hta0)
    obtain ⟨m0, hm0⟩ := Mes.start (p := pb ss L) (k := z.1) (e := z.2) φ S0
    refine ⟨fun m σ H' => ∃ (b : Bool) (y4 : Option V) (t : Sta), σ = [some (.ref o.x), some (.ref fa), some (.ref ta), some (.bl b), y4, none] ∧ FS L H' fa ta t ∧ But2 fa ta H3 H' ∧ Inv (arcs (pb ss L) z.1 z.2) φ t ∧ Upto t 0 ∧ (b = true → Mes (pb ss L) z.1 z.2 φ t m) ∧ (b = false → Upto t L ∧ ∀ a ∈ arcs (pb ss L) z.1 z.2, M57.Ok t a), ⟨m0, true, none, S0, rfl, ft, But2.refl _ _ _, S0_inv, S0_upto, fun _ => hm0, (fun h => by cases h)⟩, ?_⟩
    rintro m σ H4 ⟨b, y4, t, rfl, f4, b4, I, u0, hb1, hb2⟩
    refine ⟨_, rfl, b, rfl, ?_⟩
    cases b with
    | false =>
      obtain ⟨uL, ok4⟩ := hb2 rfl
      refine iteF ⟨_, rfl, _, rfl, (by show 2 ≤ sizeLine; omega), fun p hp => ?_⟩
      refine q _ p fa ta t upd_same (f4.but fun c x e => ?_) I uL ok4 hfa (Same.upd' (sK b4) ((sK b4).free hp))
      rw [upd_ne (ne_of_none e hp)]
      exact e
    | true =>
      have hm := hb1 rfl
      refine iteT ⟨fun σ H' => ∃ (b : Bool) (y4 : Option V) (t : Sta), σ = [some (.ref o.x), some (.ref fa), some (.ref ta), some (.bl b), y4, none] ∧ FS L H' fa ta t ∧ But2 fa ta H3 H' ∧ Inv (arcs (pb ss L) z.1 z.2) φ t ∧ Upto t 0 ∧ (b = true → Mes (pb ss L) z.1 z.2 φ t (m - 1)) ∧ (b = false → Upto t L ∧ ∀ a ∈ arcs (pb ss L) z.1 z.2, M57.Ok t a), ?_, ?_⟩
      · rintro σ H' h
        exact ⟨m - 1, by have := hm.pos ok hφ I u0; omega, h⟩
      have k4 := kpK b4
      refine ⟨_, rfl, o.x, C, o.dx, _, _, rfl, k4.ins, cC, nA.n2, kp2, _, rfl, (by omega), (by omega), ?_⟩
      rw [show (((L : Nat) : Int)).toNat = L from rfl]
      refine for_range (lo := 0) (n := L) (fun j σ H' => (∃ y4, σ = [some (.ref o.x), some (.ref fa), some (.ref ta), some (.bl true), y4, none]) ∧ But2 fa ta H3 H' ∧ FS L H' fa ta (run ((List.range j).flatMap (fwd (pb ss L) z.1)) t).2) ⟨⟨_, rfl⟩, b4, f4⟩ ?_ ?_
      · rintro j σ H5 hj ⟨⟨y, rfl⟩, b5, f5⟩
        have uj := (fwds_run (p := pb ss L) (k := z.1) u0 j).2
        rw [show (0 : Int) + (j : Nat) = ((j : Nat) : Int) by omega]
        refine ⟨_, rfl, o.x, o.dx, _, rfl, (kpK b5).ins, kpN (by simp [mthL]), _, rfl, _, rfl, _, rfl, o, tt, ss, L, j, z, fa, ta, _, rfl, ⟨kpK b5, off, f5, ok, hL, uj j (Nat.le_refl _)⟩, hj, fun H6 f6 b6 => ⟨⟨_, rfl⟩, b5.trans b6, ?_⟩⟩
        rw [List.range_succ, flat_snoc, run_append]
        exact f6
      rintro σ H5 ⟨⟨y, rfl⟩, b5, f5⟩
      have f5 : FS L H5 fa ta (run (fwds (pb ss L) z.1) t).2 := f5
      have uL : Upto (run (fwds (pb ss L) z.1) t).2 L := (fwds_run (p := pb ss L) (k := z.1) u0 L).2
      obtain ⟨It, ut⟩ := turn_inv ok hφ I u0
      have tl := turn_end (k := z.1) (e := z.2) ok u0
      have tm := hm.next ok hφ I u0
      unfold turn at It ut tl tm
      generalize run (fwds (pb ss L) z.1) t = r1 at f5 uL It ut tl tm
      have k5 := kpK b5
      refine ⟨_, rfl, o.x, C, o.dx, _, _, rfl, k5.ins, cC, nA.n2, kp2, _, rfl, _, _, _, _, rfl, RgC.neg (by omega) (by omega) (by omega) (by omega), fun D hD => ?_⟩
      rw [show ((L : Nat) - (0 : Int)).toNat = L by omega]
      have nD1 : D ≠ fa := fun z => by
        rw [z, f5.f] at hD
        cases hD
      have nD2 : D ≠ ta := fun z => by
        obtain ⟨_, e, _⟩ := f5.t
        rw [z, e] at hD
        cases hD
      have hD3 : H3 D = none := by
        cases e : H3 D with
        | none => rfl
        | some x =>
          rw [b5 _ _ e nD1 nD2] at hD
          cases hD
      refine lc_it walk_rangeC (fun i H' => But2 fa ta H3 H' ∧ FS L H' fa ta (run (((List.range i).map fun j => L - j).flatMap (bwd (pb ss L) z.1 z.2)) r1.2).2 ∧ ∃ bs : List Bool, H' D = some (.lst (bs.map V.bl)) ∧ bs.length = i ∧ bs.any id = (run (((List.range i).map fun j => L - j).flatMap (bwd (pb ss L) z.1 z.2)) r1.2).1) ?_ (fun _ _ _ _ => trivial) ?_ ?_
      · refine ⟨fun b x e h1 h2 => (Same.new hD) _ _ (b5 b x e h1 h2), f5.but (Same.new hD), [], upd_same, rfl, rfl⟩
      · rintro i x H6 H7 hi ⟨b6, f6, bs, e6, l6, a6⟩ ⟨rfl, rfl⟩
        refine ⟨rfl, _, rfl, o.x, o.dx, _, rfl, (kpK b6).ins, kpN (by simp [mthL]), _, rfl, _, rfl, _, rfl, o, tt, ss, L, L - i, z, fa, ta, _, ?_, ⟨kpK b6, off, f6, ok, hL, ?_⟩, by omega, by omega, fun H8 f8 b8 => ?_⟩
        · show [V.ref o.x, V.int ((L : Nat) + (i : Nat) * -1), V.ref fa, V.ref ta] = _
          rw [show ((L : Nat) : Int) + (i : Nat) * -1 = ((L - i : Nat) : Int) by omega]
        · exact (run_le _ _).gd (uL (L - i) (Nat.sub_le _ _))
        · refine ⟨_, b8 _ _ e6 nD1 nD2, by rw [List.length_map, l6]; omega, ?_⟩
          refine ⟨fun b x e h1 h2 => ?_, ?_, bs ++ [(run (bwd (pb ss L) z.1 z.2 (L - i)) (run (((List.range i).map fun j => L - j).flatMap (bwd (pb ss L) z.1 z.2)) r1.2).2).1], ?_, ?_, ?_⟩
          · rw [upd_ne (ne_of_none e hD3)]
            exact b8 _ _ (b6 _ _ e h1 h2) h1 h2
          · rw [downs_snoc, flat_snoc, run_append]
            exact f8.lst (b8 _ _ e6 nD1 nD2) nD1
          · rw [upd_same, List.map_append]
            rfl
          · rw [List.length_append, l6]
            rfl
          · rw [downs_snoc, flat_snoc, run_append, List.any_append, a6]
            show (_ || (_ || false)) = (_ || _)
            rw [Bool.or_false]
            rfl
      · rintro H6 ⟨b6, f6, bs, e6, l6, a6⟩
        refine ⟨_, bs, rfl, SqL.of e6, bs.any id, _, _, rfl, f6, b6, It, fun x hx => ut x (by omega), fun h => tm (a6 ▸ h), fun h => tl (a6 ▸ h)⟩
end
end SA

set_option Elab.async false
set_option linter.all false
set_option maxRecDepth 100000
set_option maxHeartbeats 4000000
namespace M57
theorem arc_in {p : Pb} (h : p.Ok) {k : Nat → Bool} {e : Nat → Int} {a : Arc} (ha : a ∈ arcs p k e) : a.u ≤ p.L ∧ a.v ≤ p.L ∧ (∀ i, a.s = some i → i < p.n) ∧ (a.s = none → ¬ a.u < a.v → a.v < p.L) := by
  rcases List.mem_append.mp ha with hf | hb
  · obtain ⟨h1, h2⟩ := fwds_lt h hf
    refine ⟨by omega, h2, fun i hi => ?_, fun _ hn => absurd h1 hn⟩
    rcases mem_fwds.mp hf with ⟨v, _, rfl⟩ | ⟨j, hj, _, _, rfl⟩
    · cases hi
    · cases hi
      exact hj
  · obtain ⟨h1, h2⟩ := bwds_lt h hb
    refine ⟨h1, h2, fun i hi => ?_, fun hs hn => ?_⟩
    · rcases mem_bwds.mp hb with ⟨v, _, _, rfl⟩ | ⟨j, hj, _, _, rfl⟩
      · cases hi
      · cases hi
        exact hj
    · rcases mem_bwds.mp hb with ⟨v, hv, _, rfl⟩ | ⟨j, hj, _, _, rfl⟩
      · exact hv
      · cases hs
end M57
namespace SA
open PySem PySem.Spec PyProof.Rows L2 K83 M57
theorem ix_listK {X : Cx} {K : PySem.W.Frag} (hK : X.K = K) : IxR X (rIxL K) := hK ▸ ix_list
theorem sl_listK {X : Cx} {K : PySem.W.Frag} (hK : X.K = K) : SlR X (rSlL K) := hK ▸ sl_list
theorem set_range {n i : Nat} {g g' : Nat → V} {w : V} (h1 : g' i = w) (h2 : ∀ j, j ≠ i → g' j = g j) : ((List.range n).map g).set i w = (List.range n).map g' := by
  refine List.ext_getElem? fun j => ?_
  by_cases c : j < n
  · rw [List.getElem?_map, List.getElem?_range c]
    by_cases e : j = i
    · subst e
      rw [List.getElem?_set_self (by simpa using c), ← h1]
      rfl
    · rw [List.getElem?_set_ne (Ne.symm e), List.getElem?_map, List.getElem?_range c]
      show some (g j) = some (g' j)
      rw [h2 j e]
  · rw [List.getElem?_eq_none (by simp; omega), List.getElem?_eq_none (by simp; omega)]
structure KpSep (o : Kp) : Prop where
  e1 : o.sa ≠ o.ea
  e2 : o.ka ≠ o.ea
  e3 : o.ba ≠ o.ea
  e4 : o.da ≠ o.ea
  e5 : ∀ c ∈ o.bas, c ≠ o.ea
  e6 : ∀ c ∈ o.das, c ≠ o.ea
  k1 : o.sa ≠ o.ka
  k3 : o.ba ≠ o.ka
  k4 : o.da ≠ o.ka
  k5 : ∀ c ∈ o.bas, c ≠ o.ka
  k6 : ∀ c ∈ o.das, c ≠ o.ka
section
variable {C : Addr} {H H' : Hp} {o : Kp} {tt : Bool} {ss : List Spn} {L : Nat} {z : M57.Flow}
theorem KpAt.setE (h : KpAt C H o tt ss L z) (s : KpSep o) {i : Nat} {d : Int} : KpAt C (upd H o.ea (.lst (((List.range L).map fun y => V.int (z.2 y)).set i (.int d)))) o tt ss L (z.1, up z.2 i d) := by
  have ne : ∀ {b : Addr} {x : HO}, H b = some x → b ≠ o.ea → (upd H o.ea (.lst (((List.range L).map fun y => V.int (z.2 y)).set i (.int d)))) b = some x := fun e n => by rw [upd_ne n]; exact e
  refine ⟨ne h.ins (ne_of h.ins h.em (by intro z; cases z)), ne h.sp s.e1, h.so.mono fun b x e => ne e (ne_of e h.em (by intro z; cases z)), ?_, ne h.kp s.e2, ne h.bg s.e3, ⟨h.bo.len, fun i x b h1 h2 => ne (h.bo.at_ i x b h1 h2) (s.e5 b (List.mem_of_getElem? h2))⟩, ne h.en s.e4, ⟨h.eo.len, fun i x b h1 h2 => ne (h.eo.at_ i x b h1 h2) (s.e6 b (List.mem_of_getElem? h2))⟩⟩
  rw [upd_same]
  congr 2
  exact set_range (by show V.int (up z.2 i d i) = _; rw [up_same]) fun j hj => by
    show V.int (up z.2 i d j) = _
    rw [up_ne hj]
theorem KpAt.setK (h : KpAt C H o tt ss L z) (s : KpSep o) {i : Nat} {d : Bool} : KpAt C (upd H o.ka (.lst (((List.range ss.length).map fun y => V.bl (z.1 y)).set i (.bl d)))) o tt ss L (up z.1 i d, z.2) := by
  have ne : ∀ {b : Addr} {x : HO}, H b = some x → b ≠ o.ka → (upd H o.ka (.lst (((List.range ss.length).map fun y => V.bl (z.1 y)).set i (.bl d)))) b = some x := fun e n => by rw [upd_ne n]; exact e
  refine ⟨ne h.ins (ne_of h.ins h.kp (by intro z; cases z)), ne h.sp s.k1, h.so.mono fun b x e => ne e (ne_of e h.kp (by intro z; cases z)), ne h.em s.e2.symm, ?_, ne h.bg s.k3, ⟨h.bo.len, fun i x b h1 h2 => ne (h.bo.at_ i x b h1 h2) (s.k5 b (List.mem_of_getElem? h2))⟩, ne h.en s.k4, ⟨h.eo.len, fun i x b h1 h2 => ne (h.eo.at_ i x b h1 h2) (s.k6 b (List.mem_of_getElem? h2))⟩⟩
  rw [upd_same]
  congr 2
  exact set_range (by show V.bl (up z.1 i d i) = _; rw [up_same]) fun j hj => by
    show V.bl (up z.1 i d j) = _
    rw [up_ne hj]
end
section
variable {P : Program} {w0 : World} {K : PySem.W.Frag} {mg : Str → Option Value} {base : Heap} {C : Addr}
def spPrices (C : Addr) : Sp := fun vs H Q _ => ∃ (o : Kp) (tt : Bool) (ss : List Spn) (L : Nat) (z : M57.Flow) (φ : Nat → Int), vs = [.ref o.x] ∧ KpAt C H o tt ss L z ∧ (pb ss L).Ok ∧ (L ≤ 1000 ∧ ss.length ≤ 1000) ∧ Pot (arcs (pb ss L) z.1 z.2) φ ∧
  ∀ H' p s, H' p = some (.lst (((List.range L).map (price s)).map V.int)) → (∀ a ∈ arcs (pb ss L) z.1 z.2, M57.Ok s a) → Same H H' → Q (.ref p) H'
theorem ok_prices {f : Addr} {fd : FuncData} (F : Fun K "prices" "Keeping.prices" s_Keeping_prices f fd) (B : Bn7 mg) (cC : Cls K C) (nA : NoA K C) (m__shortest : Dm P w0 K mg base C 3 "_shortest" ["self"] (spShort C)) : FnOk P w0 K mg base CX0 4 f fd ["self"] (spPrices C) := by
  refine F.ok sc_Keeping_prices (fun vs H Q E h => ?_) (fun cdv A outer s H vs Q E hr h => ?_)
  · obtain ⟨o, tt, ss, L, z, φ, rfl, _⟩ := h
    rfl
  · obtain ⟨o, tt, ss, L, z, φ, rfl, kp, ok, hL, hφ, q⟩ := h
    refine ⟨_, (pss_cons (ps_asg (pe_m0q m__shortest cC hr (by decide) (pv 0)) (pg_tup (by rfl) (pgs_cons (pg_name (i := 1) sc_Keeping_prices.nd rfl (Or.inr rfl)) (pgs_cons (pg_name (i := 2) sc_Keeping_prices.nd rfl (Or.inl rfl)) pgs_nil))))
      (pss_one (ps_ret (pe_lc (own := [("at", 3)]) (g := (gName 3)) (tt := tYes) (by rfl) sc_Keeping_prices.nd (pi_range1 (by rfl) B.range (pa_cons (pe_fld (pv 0) rfl) pa_nil)) (blkOk_by (N := n_Keeping_prices) (sc := defScope s_Keeping_prices) (by decide +kernel)) (fun _ _ _ _ _ => (pg_name (i := 3) sc_Keeping_prices.nd rfl (Or.inl rfl))) (fun _ _ _ _ _ => pts_nil) (fun _ _ _ _ _ => (pe_op op_sub (pe_ix (ix_listK (K := K) rfl) (pv 1) (pv 3) (fun _ _ => rfl)) (pe_ix (ix_listK (K := K) rfl) (pv 1) (pe_op op_add (pv 3) pe_int) (fun _ _ => rfl)))))))), ?_⟩
    have hs63 := sizeLine_eq
    refine ⟨_, rfl, o.x, o.dx, _, rfl, kp.ins, kpN (by simp [mthL]), o, tt, ss, L, z, φ, rfl, kp, ok, hL, hφ, fun H1 p fa ta t e1 f1 I u ok1 hfa s1 => ?_⟩
    refine ⟨p, _, rfl, SqT.of e1, rfl, _, _, rfl, _, _, rfl, rfl, ?_⟩
    have k1 := kp.same s1
    refine ⟨_, rfl, o.x, C, o.dx, _, _, rfl, k1.ins, cC, nA.n2, kp2, _, rfl, (by omega), (by omega), fun D hD => ?_⟩
    rw [show (((L : Nat) : Int)).toNat = L from rfl]
    refine lc_range (lo := 0) (n := L) (fun i H' => Same H1 H' ∧ H' D = some (.lst (((List.range i).map (price t)).map V.int))) ⟨Same.new hD, upd_same⟩ ?_ ?_
    · rintro i H2 hi ⟨s2, e2⟩
      rw [show (0 : Int) + (i : Nat) = ((i : Nat) : Int) by omega]
      obtain ⟨d1, ed1⟩ := u i (by omega)
      obtain ⟨d2, ed2⟩ := u (i + 1) (by omega)
      have a1 : (farL L t)[i]? = some (.int d1) := by rw [far_at (by omega), ed1]; rfl
      have a2 : (farL L t)[i + 1]? = some (.int d2) := by rw [far_at (by omega), ed2]; rfl
      refine ⟨rfl, _, rfl, _, rfl, ⟨fa, _, _, _, rfl, rfl, SqL.of (s2 _ _ f1.f), atI_nat a1, ?_⟩⟩
      refine ⟨_, rfl, _, rfl, _, _, rfl, rfl, ⟨fa, _, _, _, rfl, rfl, SqL.of (s2 _ _ f1.f), atI_nat a2, _, _, rfl, rfl, ?_⟩⟩
      refine ⟨_, e2, by rw [List.length_map, List.length_map, List.length_range]; omega, Same.upd' s2 hD, ?_⟩
      rw [upd_same, List.range_succ, List.map_append, List.map_append]
      show _ = some (HO.lst (_ ++ [V.int (far0 t i - far0 t (i + 1))]))
      rw [show far0 t i = d1 by unfold far0; rw [ed1]; rfl, show far0 t (i + 1) = d2 by unfold far0; rw [ed2]; rfl]
    · rintro H2 ⟨s2, e2⟩
      exact q H2 D t e2 ok1 (s1.trans s2)
def spAdd (C : Addr) : Sp := fun vs H Q _ => ∃ (o : Kp) (tt : Bool) (ss : List Spn) (L : Nat) (z : M57.Flow) (φ : Nat → Int), vs = [.ref o.x] ∧ KpAt C H o tt ss L z ∧ KpSep o ∧ (pb ss L).Ok ∧ (L ≤ 1000 ∧ ss.length ≤ 1000) ∧ Pot (arcs (pb ss L) z.1 z.2) φ ∧
  ∀ H' s l, Inv (arcs (pb ss L) z.1 z.2) φ s → (∀ a ∈ arcs (pb ss L) z.1 z.2, M57.Ok s a) → Pth (arcs (pb ss L) z.1 z.2) s L l → KpAt C H' o tt ss L (l.foldl aug z) → But2 o.ea o.ka H H' → Q .non H'
theorem ok_add_way {f : Addr} {fd : FuncData} (F : Fun K "add_way" "Keeping.add_way" s_Keeping_add_way f fd) (B : Bn7 mg) (cC : Cls K C) (nA : NoA K C) (m__shortest : Dm P w0 K mg base C 3 "_shortest" ["self"] (spShort C)) : FnOk P w0 K mg base CX0 4 f fd ["self"] (spAdd C) := by
  refine F.ok sc_Keeping_add_way (fun vs H Q E h => ?_) (fun cdv A outer s H vs Q E hr h => ?_)
  · obtain ⟨o, tt, ss, L, z, φ, rfl, _⟩ := h
    rfl
  · obtain ⟨o, tt, ss, L, z, φ, rfl, kp, sep, ok, hL, hφ, q⟩ := h
    refine ⟨_, (pss_cons (ps_asg (pe_m0q m__shortest cC hr (by decide) (pv 0)) (pg_tup (by rfl) (pgs_cons (pg_name (i := 1) sc_Keeping_add_way.nd rfl (Or.inl rfl)) (pgs_cons (pg_name (i := 2) sc_Keeping_add_way.nd rfl (Or.inl rfl)) pgs_nil))))
      (pss_cons (ps_set (i := 3) sc_Keeping_add_way.nd rfl (Or.inl rfl) (pe_fld (pv 0) rfl))
      (pss_one (ps_while PassesOwn.never (pt_cmpR op_ne (pv 3) pe_int (nomark _)) (pss_cons (ps_asg (pe_dget (hu_of hr) (pv 2) (pv 3) (fun _ _ => rfl)) (pg_tup (by rfl) (pgs_cons (pg_name (i := 4) sc_Keeping_add_way.nd rfl (Or.inl rfl)) (pgs_cons (pg_name (i := 5) sc_Keeping_add_way.nd rfl (Or.inl rfl)) pgs_nil))))
      (pss_cons (ps_if (pt_cmpR op_notN (pv 5) pe_non (nomark _)) (pss_one (ps_asg (pe_cmpR op_gt (pv 3) (pv 4) (nomark _)) (pg_sub (pe_fld (pv 0) rfl) (pv 5) set_list))) (pss_one (ps_if (pt_cmpR op_gt (pv 3) (pv 4) (nomark _)) (pss_one (ps_augS (pe_fld (pv 0) rfl) (pv 4) get_listA pe_int ip_add set_list)) (pss_one (ps_augS (pe_fld (pv 0) rfl) (pv 3) get_listA pe_int ip_sub set_list)))))
      (pss_one (ps_set (i := 3) sc_Keeping_add_way.nd rfl (Or.inl rfl) (pv 4))))))))), ?_⟩
    refine ⟨_, rfl, o.x, o.dx, _, rfl, kp.ins, kpN (by simp [mthL]), o, tt, ss, L, z, φ, rfl, kp, ok, hL, hφ, fun H1 p fa ta t e1 f1 I u ok1 hfa s1 => ?_⟩
    refine ⟨p, _, rfl, SqT.of e1, rfl, _, _, rfl, _, _, rfl, rfl, ?_⟩
    have k1 := kp.same s1
    have off : KpOff o fa := kp.off hfa
    refine ⟨_, rfl, o.x, C, o.dx, _, _, rfl, k1.ins, cC, nA.n2, kp2, ?_⟩
    obtain ⟨l, hl⟩ := I.pth (let ⟨d, e⟩ := u L (Nat.le_refl _); I.root L d e)
    have ins := fun {a} (h : a ∈ arcs (pb ss L) z.1 z.2) => arc_in ok h
    generalize arcs (pb ss L) z.1 z.2 = A at hφ q I ok1 hl ins
    refine ⟨fun m σ H' => ∃ (v : Nat) (rs dn : List Arc) (y4 y5 : Option V), m = rs.length ∧ σ = [some (.ref o.x), some (.ref fa), some (.ref ta), some (.int (v : Nat)), y4, y5] ∧ v ≤ L ∧ Pth A t v rs ∧ l = dn ++ rs ∧ KpAt C H' o tt ss L (dn.foldl aug z) ∧ FS L H' fa ta t ∧ But2 o.ea o.ka H1 H', ⟨l.length, L, l, [], none, none, rfl, rfl, Nat.le_refl _, hl, rfl, k1, f1, But2.refl _ _ _⟩, ?_⟩
    rintro m σ H2 ⟨v, rs, dn, y4, y5, rfl, rfl, hv, hr2, hd, k2, f2, b2⟩
    refine ⟨_, rfl, rfl, _, rfl, ?_⟩
    cases hr2 with
    | nil =>
      rw [List.append_nil] at hd
      refine iteFd (by simp) (q H2 t l I ok1 hl (hd ▸ k2) fun c x e n1 n2 => b2 _ _ (s1 _ _ e) n1 n2)
    | @cons a rs ha hs le r =>
      obtain ⟨a1, a2, a3, a4⟩ := ins ha
      have v0 : a.v ≠ 0 := fun z' => by
        rw [z', I.st0] at hs
        cases hs
      have hb : (!decide (V.int (a.v : Nat) = V.int 0)) = true := by
        rw [Bool.not_eq_true', decide_eq_false_iff_not]
        intro h
        have := V.int.inj h
        omega
      refine iteTd hb ⟨fun σ H' => ∃ (v : Nat) (rs' dn : List Arc) (y4 y5 : Option V), rs.length = rs'.length ∧ σ = [some (.ref o.x), some (.ref fa), some (.ref ta), some (.int (v : Nat)), y4, y5] ∧ v ≤ L ∧ Pth A t v rs' ∧ l = dn ++ rs' ∧ KpAt C H' o tt ss L (dn.foldl aug z) ∧ FS L H' fa ta t ∧ But2 o.ea o.ka H1 H', fun σ' H' h => ⟨rs.length, Nat.lt_succ_self _, h⟩, ?_⟩
      obtain ⟨kvs, et, _, kt⟩ := f2.t
      obtain ⟨b, e3, e4⟩ := (kt a.v hv).2 _ _ hs
      refine ⟨_, rfl, _, rfl, ta, _, rfl, .inl ⟨kvs, kI a.v, .inl et, rfl, e3.symm⟩, ?_⟩
      refine ⟨b, _, rfl, SqT.of e4, rfl, _, _, rfl, _, _, rfl, rfl, ?_⟩
      have hd2 : l = (dn ++ [a]) ++ rs := by rw [hd, List.append_assoc]; rfl
      have fin : ∀ (H' : Hp) (y5 : Option V), KpAt C H' o tt ss L ((dn ++ [a]).foldl aug z) → FS L H' fa ta t → But2 o.ea o.ka H1 H' → ∃ (v : Nat) (rs' dn : List Arc) (y4 y5' : Option V), rs.length = rs'.length ∧ [some (.ref o.x), some (.ref fa), some (.ref ta), some (.int (a.u : Nat)), some (.int (a.u : Nat)), y5] = [some (V.ref o.x), some (.ref fa), some (.ref ta), some (.int (v : Nat)), y4, y5'] ∧ v ≤ L ∧ Pth A t v rs' ∧ l = dn ++ rs' ∧ KpAt C H' o tt ss L (dn.foldl aug z) ∧ FS L H' fa ta t ∧ But2 o.ea o.ka H1 H' := fun H' y5 h1 h2 h3 => ⟨a.u, rs, dn ++ [a], _, y5, rfl, rfl, a1, r, hd2, h1, h2, h3⟩
      rw [List.foldl_append, show [a].foldl aug (dn.foldl aug z) = aug (dn.foldl aug z) a from rfl] at fin
      generalize dn.foldl aug z = zz at k2 fin
      cases has : a.s with
      | some i =>
        have ea : aug zz a = (up zz.1 i (decide (a.u < a.v)), zz.2) := by unfold aug; rw [has]
        rw [ea] at fin
        have hi : i < ss.length := a3 i has
        refine ⟨_, rfl, rfl, _, rfl, iteTd (by simp [oN]) ⟨_, rfl, _, rfl, _, _, rfl, rfl, ?_⟩⟩
        refine ⟨_, rfl, o.x, C, o.dx, _, _, rfl, k2.ins, cC, nA.n4, kp4, _, rfl, o.ka, _, (i : Nat), i, rfl, rfl, k2.kp, ixN_nat (by simpa using hi), ?_⟩
        refine ⟨_, rfl, fin _ _ ?_ (f2.lst k2.kp off.ka) fun c x e n1 n2 => by rw [upd_ne n2]; exact b2 c x e n1 n2⟩
        have := k2.setK sep (i := i) (d := decide (a.u < a.v))
        show KpAt C (upd H2 o.ka (.lst (((List.range ss.length).map fun y => V.bl (zz.1 y)).set i (.bl (decide (((a.u : Nat) : Int) < ((a.v : Nat) : Int))))))) o tt ss L _
        rw [show decide (((a.u : Nat) : Int) < ((a.v : Nat) : Int)) = decide (a.u < a.v) by rw [decide_eq_decide]; omega]
        exact this
      | none =>
        have ea : aug zz a = if a.u < a.v then (zz.1, up zz.2 a.u (zz.2 a.u + 1)) else (zz.1, up zz.2 a.v (zz.2 a.v - 1)) := by unfold aug; rw [has]
        rw [ea] at fin
        refine ⟨_, rfl, rfl, _, rfl, iteFd (by simp [oN]) ⟨_, rfl, _, rfl, _, _, rfl, rfl, _, rfl, ?_⟩⟩
        by_cases c : a.u < a.v
        · rw [if_pos c] at fin
          refine iteTd (decide_eq_true (by omega)) ?_
          have ee : ((List.range L).map fun y => V.int (zz.2 y))[a.u]? = some (.int (zz.2 a.u)) := by
            rw [List.getElem?_map, List.getElem?_range (by omega)]
            rfl
          refine ⟨_, rfl, o.x, C, o.dx, _, _, rfl, k2.ins, cC, nA.n3, kp3, _, rfl, o.ea, _, a.u, _, rfl, rfl, SqL.of k2.em, ee, _, _, rfl, rfl, ?_⟩
          refine ⟨o.ea, _, (a.u : Nat), a.u, rfl, rfl, k2.em, ixN_nat (by simp; omega), ?_⟩
          refine ⟨_, rfl, fin _ _ (k2.setE sep (i := a.u)) (f2.lst k2.em off.ea) fun c x e n1 n2 => by rw [upd_ne n1]; exact b2 c x e n1 n2⟩
        · rw [if_neg c] at fin
          refine iteFd (decide_eq_false (by omega)) ?_
          have hvL : a.v < L := a4 has c
          have ee : ((List.range L).map fun y => V.int (zz.2 y))[a.v]? = some (.int (zz.2 a.v)) := by
            rw [List.getElem?_map, List.getElem?_range hvL]
            rfl
          refine ⟨_, rfl, o.x, C, o.dx, _, _, rfl, k2.ins, cC, nA.n3, kp3, _, rfl, o.ea, _, a.v, _, rfl, rfl, SqL.of k2.em, ee, _, _, rfl, rfl, ?_⟩
          refine ⟨o.ea, _, (a.v : Nat), a.v, rfl, rfl, k2.em, ixN_nat (by simpa using hvL), ?_⟩
          refine ⟨_, rfl, fin _ _ (k2.setE sep (i := a.v)) (f2.lst k2.em off.ea) fun c x e n1 n2 => by rw [upd_ne n1]; exact b2 c x e n1 n2⟩
end
end SA

set_option Elab.async false
set_option linter.all false
set_option maxRecDepth 100000
set_option maxHeartbeats 4000000
namespace SA
open PySem PySem.Spec PyProof.Rows L2 K83 M57
/-! ### a list or a tuple with its numbers -/
section
variable {K : PySem.W.Frag}
def Jeq (K : PySem.W.Frag) (tt : Bool) (a : Addr) : It := if tt = true then IteT K a else Ite K a
def iEnumQ (K : PySem.W.Frag) (tt : Bool) (ta : TA) : TI := if tt = true then iEnumT K ta else iEnum K ta
theorem pi_enumQ {X : Cx} {e : Expr} {ta : TA} {p pos tpos : Pos} {elts : List Expr} {kk : Nat} (tt : Bool) (hg : Gl X "enumerate") (hm : X.mg "enumerate" = none) (ha : PA X [e] ta) (hs : starEach [e] X.env = [(false, eval e X.env)] := by rfl) :
    PI X (.Tuple elts kk tpos) (.Call (.Name "enumerate" p) [e] [] pos) (iEnumQ X.K tt ta) := by
  cases tt with
  | true => exact pi_enumT hg hm ha hs
  | false => exact pi_enum hg hm ha hs
theorem iEnumQ_v {tt : Bool} {i : Nat} {a : Addr} {xs : List V} {σ : L2.St} {H : Hp} {R : It → Hp → Prop} (e : σ[i]? = some (some (.ref a))) (h : H a = some (sqO tt xs)) (r : R (Jeq K tt a) H) : iEnumQ K tt (tCons (tVar i) tNil) σ H R := by
  cases tt with
  | true => exact ⟨_, e, a, _, rfl, SqT.of h, r⟩
  | false => exact ⟨_, e, a, _, rfl, SqL.of h, r⟩
theorem walk_enumQ {tt : Bool} {a : Addr} {xs : List V} : Walk (Jeq K tt a) xs.length (fun H => H a = some (sqO tt xs)) (YPair (fun i => some (.int (i : Nat))) (fun i => xs[i]?)) := by
  cases tt with
  | true => exact ⟨fun i H hi q => walk_enumT.goes i H hi (SqT.of q), fun H q => walk_enumT.stops H (SqT.of q), fun i H x H' hi q y => walk_enumT.yields i H x H' hi (SqT.of q) y⟩
  | false => exact ⟨fun i H hi q => walk_enum.goes i H hi (SqL.of q), fun H q => walk_enum.stops H (SqL.of q), fun i H x H' hi q y => walk_enum.yields i H x H' hi (SqL.of q) y⟩
end
/-- behind the last spot -/
def LL : List Spn → Nat
  | [] => 0
  | q :: l => max (q.l + 1) (LL l)
theorem LL_lt : ∀ {ss : List Spn}, ∀ q ∈ ss, q.l < LL ss
  | [], _, h => by cases h
  | a :: l, q, h => by
    unfold LL
    rcases List.mem_cons.mp h with rfl | h
    · omega
    · have := LL_lt (ss := l) q h
      omega
theorem LL_at : ∀ {ss : List Spn}, ss ≠ [] → ∃ q ∈ ss, q.l + 1 = LL ss
  | [], h => absurd rfl h
  | [a], _ => ⟨a, by simp, by unfold LL LL; omega⟩
  | a :: b :: l, _ => by
    obtain ⟨q, hq, e⟩ := LL_at (ss := b :: l) (by simp)
    have e2 : LL (a :: b :: l) = max (a.l + 1) (LL (b :: l)) := rfl
    by_cases c : LL (b :: l) ≤ a.l + 1
    · exact ⟨a, by simp, by omega⟩
    · exact ⟨q, List.mem_cons_of_mem _ hq, by omega⟩
theorem LL_max {ss : List Spn} {m : Int} (hm : m ∈ ss.map fun q => ((q.l : Nat) : Int)) (hx : ∀ y ∈ ss.map (fun q => ((q.l : Nat) : Int)), y ≤ m) : m + 1 = (LL ss : Nat) := by
  obtain ⟨q, hq, rfl⟩ := List.mem_map.mp hm
  obtain ⟨r, hr, e⟩ := LL_at (ss := ss) (by rintro rfl; cases hq)
  have h1 := LL_lt q hq
  have h2 := hx _ (List.mem_map_of_mem (f := fun q : Spn => ((q.l : Nat) : Int)) hr)
  omega
theorem Objs.setN {g g' : Nat → HO} {H : Hp} {as : List Addr} {n v : Nat} {b : Addr} {x : HO} (h : Objs g H as (List.range n)) (nd : as.Nodup) (hb : as[v]? = some b) (hx : g' v = x) (hg : ∀ j, j ≠ v → g' j = g j) : Objs g' (upd H b x) as (List.range n) := by
  refine ⟨h.len, fun i y c h1 h2 => ?_⟩
  have ey : y = i := by
    have h3 := (List.getElem?_eq_some_iff.mp h1).1
    rw [List.length_range] at h3
    rw [List.getElem?_range h3] at h1
    exact (Option.some.inj h1).symm
  subst ey
  by_cases e : y = v
  · subst e
    rw [hb] at h2
    cases h2
    rw [upd_same, hx]
  · have ne : c ≠ b := fun z => by
      subst z
      obtain ⟨l2, e2⟩ := List.getElem?_eq_some_iff.mp h2
      exact e ((List.getElem?_inj l2 nd).mp (h2.trans hb.symm))
    rw [upd_ne ne, hg y e]
    exact h.at_ y y c h1 h2
theorem Objs.off {β : Type} {g : β → HO} {H : Hp} {as : List Addr} {xs : List β} {b : Addr} {x : HO} (h : Objs g H as xs) (n : b ∉ as) : Objs g (upd H b x) as xs :=
  ⟨h.len, fun i y c h1 h2 => by rw [upd_ne (fun z => n (by rw [← z]; exact List.mem_of_getElem? h2))]; exact h.at_ i y c h1 h2⟩
section
variable {sa ea ka ba da : Addr} {L : Nat}
abbrev qs1 (sa : Addr) : List (Str × V) := [("_spans", .ref sa)]
abbrev qs2 (sa : Addr) (L : Nat) : List (Str × V) := [("_spans", .ref sa), ("_last", .int (L : Nat))]
abbrev qs3 (sa : Addr) (L : Nat) (ea : Addr) : List (Str × V) := [("_spans", .ref sa), ("_last", .int (L : Nat)), ("_empty", .ref ea)]
abbrev qs4 (sa : Addr) (L : Nat) (ea ka : Addr) : List (Str × V) := [("_spans", .ref sa), ("_last", .int (L : Nat)), ("_empty", .ref ea), ("is_kept", .ref ka)]
abbrev qs5 (sa : Addr) (L : Nat) (ea ka ba : Addr) : List (Str × V) := [("_spans", .ref sa), ("_last", .int (L : Nat)), ("_empty", .ref ea), ("is_kept", .ref ka), ("_beginning", .ref ba)]
theorem pq1 : putF "_spans" (.ref sa) [] = qs1 sa := rfl
theorem pq2 : putF "_last" (.int (L : Nat)) (qs1 sa) = qs2 sa L := by
  simp only [putF, show ¬ (("_spans" : Str) = "_last") from by decide +kernel, if_false]
theorem pq3 : putF "_empty" (.ref ea) (qs2 sa L) = qs3 sa L ea := by
  simp only [putF, show ¬ (("_spans" : Str) = "_empty") from by decide +kernel, show ¬ (("_last" : Str) = "_empty") from by decide +kernel, if_false]
theorem pq4 : putF "is_kept" (.ref ka) (qs3 sa L ea) = qs4 sa L ea ka := by
  simp only [putF, show ¬ (("_spans" : Str) = "is_kept") from by decide +kernel, show ¬ (("_last" : Str) = "is_kept") from by decide +kernel, show ¬ (("_empty" : Str) = "is_kept") from by decide +kernel, if_false]
theorem pq5 : putF "_beginning" (.ref ba) (qs4 sa L ea ka) = qs5 sa L ea ka ba := by
  simp only [putF, show ¬ (("_spans" : Str) = "_beginning") from by decide +kernel, show ¬ (("_last" : Str) = "_beginning") from by decide +kernel, show ¬ (("_empty" : Str) = "_beginning") from by decide +kernel, show ¬ (("is_kept" : Str) = "_beginning") from by decide +kernel, if_false]
theorem pq6 : putF "_ending" (.ref da) (qs5 sa L ea ka ba) = kpFs sa L ea ka ba da := by
  simp only [putF, show ¬ (("_spans" : Str) = "_ending") from by decide +kernel, show ¬ (("_last" : Str) = "_ending") from by decide +kernel, show ¬ (("_empty" : Str) = "_ending") from by decide +kernel, show ¬ (("is_kept" : Str) = "_ending") from by decide +kernel, show ¬ (("_beginning" : Str) = "_ending") from by decide +kernel, if_false]
  rfl
theorem lkL {y : V} {r : List (Str × V)} : (("_spans", .ref sa) :: ("_last", y) :: r : List (Str × V)).lookup ("_last" : Str) = some y := by
  simp [List.lookup_cons, show (("_last" : Str) == "_spans") = false from by decide +kernel]
end
def Kb (x : Addr) (H H' : Hp) : Prop := ∀ b o, H b = some o → b ≠ x → H' b = some o
theorem Kb.self {x : Addr} {H H' : Hp} {o : HO} (a : Kb x H H') : Kb x H (upd H' x o) := fun c u e h => by rw [upd_ne h]; exact a c u e h
theorem Kb.same {x : Addr} {H H1 H2 : Hp} (a : Kb x H H1) (s : Same H1 H2) : Kb x H H2 := fun c u e hc => s c u (a c u e hc)
theorem Kb.trans {x : Addr} {H H1 H2 : Hp} (a : Kb x H H1) (b : Kb x H1 H2) : Kb x H H2 := fun c o e h => b c o (a c o e h) h
theorem Kb.free {x p : Addr} {H H' : Hp} (a : Kb x H H') (h : H' p = none) (hx : p ≠ x) : H p = none := by
  cases e : H p with
  | none => rfl
  | some o =>
    rw [a _ _ e hx] at h
    cases h
section
variable {P : Program} {w0 : World} {K : PySem.W.Frag} {mg : Str → Option Value} {base : Heap} {C : Addr}
def spInit (C : Addr) : Sp := fun vs H Q _ => ∃ (x dx sa : Addr) (tt : Bool) (ss : List Spn) (sas : List Addr), vs = [.ref x, .ref sa] ∧ H x = some (.ins C dx []) ∧ H sa = some (sqO tt (sas.map V.ref)) ∧ Objs spO H sas ss ∧ (0 < ss.length ∧ ss.length ≤ 1000 ∧ LL ss ≤ 1000 ∧ ∀ q ∈ ss, q.f ≤ q.l) ∧
  ∀ H' (o : Kp), o.x = x → o.sa = sa → o.sas = sas → KpAt C H' o tt ss (LL ss) (fun _ => false, fun _ => 0) → KpSep o → Kb x H H' → H o.ea = none → H o.ka = none → Q .non H'
theorem ok_init {f : Addr} {fd : FuncData} (F : Fun K "__init__" "Keeping.__init__" s_Keeping___init__ f fd) (B : Bn7 mg) (cC : Cls K C) (nA : NoA K C) : FnOk P w0 K mg base CX0 1 f fd ["self", "spans"] (spInit C) := by
  refine F.ok sc_Keeping___init__ (fun vs H Q E h => ?_) (fun cdv A outer s H vs Q E hr h => ?_)
  · obtain ⟨x, dx, sa, tt, ss, sas, rfl, _⟩ := h
    rfl
  · obtain ⟨x, dx, sa, tt, ss, sas, rfl, ins, esa, so, ⟨hn, hn2, hL, hfl⟩, q⟩ := h
    refine ⟨_, (pss_cons (ps_fld (pv 0) (pv 1) rfl)
      (pss_cons (ps_fld (pv 0) (pe_op op_add (pe_callB (cr_max rfl) (by rfl) B.max (by decide +kernel) (pa_cons (pe_lc (own := [("_", 2), ("last", 3), ("_", 2)]) (g := (gTup K 3 (gCons (gName 2) (gCons (gName 3) (gCons (gName 2) gNil))))) (tt := tYes) (by rfl) sc_Keeping___init__.nd (pi_sq tt (pv 1)) (blkOk_by (N := n_Keeping___init__) (sc := defScope s_Keeping___init__) (by decide +kernel)) (fun _ _ _ _ _ => (pg_tup (by rfl) (pgs_cons (pg_name (i := 2) sc_Keeping___init__.nd rfl (Or.inl rfl)) (pgs_cons (pg_name (i := 3) sc_Keeping___init__.nd rfl (Or.inl rfl)) (pgs_cons (pg_name (i := 2) sc_Keeping___init__.nd rfl (Or.inl rfl)) pgs_nil))))) (fun _ _ _ _ _ => pts_nil) (fun _ _ _ _ _ => (pv 3))) pa_nil)) pe_int) rfl)
      (pss_cons (ps_fld (pv 0) (pe_lc (own := [("_", 2)]) (g := (gName 2)) (tt := tYes) (by rfl) sc_Keeping___init__.nd (pi_range1 (by rfl) B.range (pa_cons (pe_fld (pv 0) rfl) pa_nil)) (blkOk_by (N := n_Keeping___init__) (sc := defScope s_Keeping___init__) (by decide +kernel)) (fun _ _ _ _ _ => (pg_name (i := 2) sc_Keeping___init__.nd rfl (Or.inl rfl))) (fun _ _ _ _ _ => pts_nil) (fun _ _ _ _ _ => pe_int)) rfl)
      (pss_cons (ps_fld (pv 0) (pe_lc (own := [("_", 2)]) (g := (gName 2)) (tt := tYes) (by rfl) sc_Keeping___init__.nd (pi_sq tt (pv 1)) (blkOk_by (N := n_Keeping___init__) (sc := defScope s_Keeping___init__) (by decide +kernel)) (fun _ _ _ _ _ => (pg_name (i := 2) sc_Keeping___init__.nd rfl (Or.inl rfl))) (fun _ _ _ _ _ => pts_nil) (fun _ _ _ _ _ => pe_bl)) rfl)
      (pss_cons (ps_fld (pv 0) (pe_lc (own := [("_", 2)]) (g := (gName 2)) (tt := tYes) (by rfl) sc_Keeping___init__.nd (pi_range1 (by rfl) B.range (pa_cons (pe_fld (pv 0) rfl) pa_nil)) (blkOk_by (N := n_Keeping___init__) (sc := defScope s_Keeping___init__) (by decide +kernel)) (fun _ _ _ _ _ => (pg_name (i := 2) sc_Keeping___init__.nd rfl (Or.inl rfl))) (fun _ _ _ _ _ => pts_nil) (fun _ _ _ _ _ => (pe_lst pa_nil))) rfl)
      (pss_cons (ps_fld (pv 0) (pe_lc (own := [("_", 2)]) (g := (gName 2)) (tt := tYes) (by rfl) sc_Keeping___init__.nd (pi_range1 (by rfl) B.range (pa_cons (pe_op op_add (pe_fld (pv 0) rfl) pe_int) pa_nil)) (blkOk_by (N := n_Keeping___init__) (sc := defScope s_Keeping___init__) (by decide +kernel)) (fun _ _ _ _ _ => (pg_name (i := 2) sc_Keeping___init__.nd rfl (Or.inl rfl))) (fun _ _ _ _ _ => pts_nil) (fun _ _ _ _ _ => (pe_lst pa_nil))) rfl)
      (pss_one (ps_for PassesOwn.never rfl (pi_enumQ tt (by rfl) B.enumerate (pa_cons (pv 1) pa_nil)) (pg_tup (by rfl) (pgs_cons (pg_name (i := 4) sc_Keeping___init__.nd rfl (Or.inl rfl)) (pgs_cons (pg_tup (by rfl) (pgs_cons (pg_name (i := 5) sc_Keeping___init__.nd rfl (Or.inl rfl)) (pgs_cons (pg_name (i := 3) sc_Keeping___init__.nd rfl (Or.inl rfl)) (pgs_cons (pg_name (i := 2) sc_Keeping___init__.nd rfl (Or.inl rfl)) pgs_nil)))) pgs_nil))) (pss_cons (ps_expr (pe_bm PySem.F.plainAttrs_list PySem.F.slot_list_append PySem.F.type_list_append mt_append (pe_ix ix_list (pe_fld (pv 0) rfl) (pv 5) (fun _ _ => rfl)) (pa_cons (pv 4) pa_nil)))
      (pss_one (ps_expr (pe_bm PySem.F.plainAttrs_list PySem.F.slot_list_append PySem.F.type_list_append mt_append (pe_ix ix_list (pe_fld (pv 0) rfl) (pe_op op_add (pv 3) pe_int) (fun _ _ => rfl)) (pa_cons (pv 4) pa_nil))))))))))))), ?_⟩
    have hs63 := sizeLine_eq
    refine ⟨_, rfl, _, rfl, x, C, dx, _, rfl, ins, cC, nA.n1, (by show 0 < 1000; decide), ?_⟩
    rw [pq1]
    have kb : Kb x H (upd H x (.ins C dx (qs1 sa))) := fun b y e n => by rw [upd_ne n]; exact e
    have is1 : (upd H x (.ins C dx (qs1 sa))) x = some (.ins C dx (qs1 sa)) := upd_same
    have sx : sa ≠ x := fun z => by
      rw [z, ins] at esa
      cases tt <;> cases esa
    have es := fun {H' : Hp} (k : Kb x H H') => k _ _ esa sx
    have os : ∀ {H' : Hp}, Kb x H H' → Objs spO H' sas ss := fun k => so.mono fun b y e => k _ _ e (ne_of e ins (by intro z; cases z))
    generalize upd H x (.ins C dx (qs1 sa)) = H1 at kb is1
    -- the last spot
    refine iSq_v rfl (es kb) (fun D hD => lc_it walk_sq (fun i H' => Same H1 H' ∧ H' D = some (.lst (((ss.take i).map fun q => ((q.l : Nat) : Int)).map V.int))) ⟨Same.new hD, upd_same⟩ (fun i H' _ h => h.1 _ _ (es kb)) ?_ ?_)
    · rintro i v H2 H3 hi ⟨s2, e2⟩ ⟨rfl, hv⟩
      obtain ⟨y, b, hy, rfl, hb, eb⟩ := (os (kb.same s2)).get' hv
      refine ⟨b, _, rfl, SqT.of eb, rfl, _, _, rfl, _, _, rfl, _, _, rfl, rfl, rfl, _, rfl, _, e2, ?_, Same.upd' s2 hD, ?_⟩
      · have := List.length_take_le' i ss
        rw [List.length_map, List.length_map]
        omega
      · rw [upd_same, List.take_add_one, hy, List.map_append, List.map_append]
        rfl
    rintro H2 ⟨s2, e2⟩
    have el : (sas.map V.ref).length = ss.length := by rw [List.length_map, so.len]
    rw [el, List.take_length] at e2
    refine ⟨D, _, rfl, SqL.of e2, by rw [List.length_map]; exact hn, fun m hm hmx => ⟨_, _, rfl, rfl, _, rfl, x, C, dx, _, rfl, s2 _ _ is1, cC, nA.n2, (by show 1 < 1000; decide), ?_⟩⟩
    change (_ : Hp → Prop) (upd H2 x (HO.ins C dx (putF ("_last" : Str) (V.int (m + 1)) (qs1 sa))))
    rw [show m + 1 = ((LL ss : Nat) : Int) from LL_max hm hmx, pq2]
    have kb2 : Kb x H (upd H2 x (.ins C dx (qs2 sa (LL ss)))) := (kb.same s2).self
    have is2 : (upd H2 x (.ins C dx (qs2 sa (LL ss)))) x = some (.ins C dx (qs2 sa (LL ss))) := upd_same
    generalize upd H2 x (.ins C dx (qs2 sa (LL ss))) = H3 at kb2 is2
    have hL0 : 0 < LL ss := by
      have := LL_lt _ (List.getElem_mem hn)
      omega
    generalize hLL : LL ss = L at hL hL0 is2 q
    -- no ways go beside yet
    refine ⟨_, rfl, x, C, dx, _, _, rfl, is2, cC, nA.n2, lkL, _, rfl, (by omega), (by omega), fun ea hea => ?_⟩
    rw [show (((L : Nat) : Int)).toNat = L from rfl]
    refine lc_range (lo := 0) (n := L) (fun i H' => Same H3 H' ∧ H' ea = some (.lst ((List.range i).map fun _ => V.int 0))) ⟨Same.new hea, upd_same⟩ ?_ ?_
    · rintro i H' hi ⟨s4, e4⟩
      refine ⟨rfl, _, e4, (by rw [List.length_map, List.length_range]; omega), ⟨Same.upd' s4 hea, ?_⟩⟩
      rw [upd_same, List.range_succ, List.map_append]
      rfl
    rintro H4 ⟨s4, e4⟩
    have xea : ea ≠ x := (ne_of_none is2 hea).symm
    refine ⟨_, rfl, x, C, dx, _, rfl, s4 _ _ is2, cC, nA.n3, (by show 2 < 1000; decide), ?_⟩
    rw [pq3]
    have kb5 : Kb x H (upd H4 x (.ins C dx (qs3 sa L ea))) := (kb2.same s4).self
    have is5 : (upd H4 x (.ins C dx (qs3 sa L ea))) x = some (.ins C dx (qs3 sa L ea)) := upd_same
    have ee5 : (upd H4 x (.ins C dx (qs3 sa L ea))) ea = some (.lst ((List.range L).map fun _ => V.int 0)) := by rw [upd_ne xea]; exact e4
    generalize upd H4 x (.ins C dx (qs3 sa L ea)) = H5 at kb5 is5 ee5
    -- none is kept
    refine iSq_v rfl (es kb5) (fun ka hka => lc_it walk_sq (fun i H' => Same H5 H' ∧ H' ka = some (.lst ((List.range i).map fun _ => V.bl false))) ⟨Same.new hka, upd_same⟩ (fun i H' _ h => h.1 _ _ (es kb5)) ?_ ?_)
    · rintro i v H6 H7 hi ⟨s6, e6⟩ ⟨rfl, hv⟩
      refine ⟨rfl, _, e6, ?_, Same.upd' s6 hka, ?_⟩
      · rw [List.length_map, List.length_range]
        omega
      · rw [upd_same, List.range_succ, List.map_append]
        rfl
    rintro H6 ⟨s6, e6⟩
    rw [el] at e6
    have xka : ka ≠ x := (ne_of_none is5 hka).symm
    have eka : ka ≠ ea := (ne_of_none ee5 hka).symm
    refine ⟨_, rfl, x, C, dx, _, rfl, s6 _ _ is5, cC, nA.n4, (by show 3 < 1000; decide), ?_⟩
    rw [pq4]
    have kb7 : Kb x H (upd H6 x (.ins C dx (qs4 sa L ea ka))) := (kb5.same s6).self
    have is7 : (upd H6 x (.ins C dx (qs4 sa L ea ka))) x = some (.ins C dx (qs4 sa L ea ka)) := upd_same
    have ee7 : (upd H6 x (.ins C dx (qs4 sa L ea ka))) ea = some (.lst ((List.range L).map fun _ => V.int 0)) := by rw [upd_ne xea]; exact s6 _ _ ee5
    have ek7 : (upd H6 x (.ins C dx (qs4 sa L ea ka))) ka = some (.lst ((List.range ss.length).map fun _ => V.bl false)) := by rw [upd_ne xka]; exact e6
    generalize upd H6 x (.ins C dx (qs4 sa L ea ka)) = H7 at kb7 is7 ee7 ek7
    refine ⟨_, rfl, x, C, dx, _, _, rfl, is7, cC, nA.n2, lkL, _, rfl, (by omega), (by omega), fun ba hba => ?_⟩
    rw [show (((L : Nat) : Int)).toNat = L from rfl]
    refine lc_range (lo := 0) (n := L) (fun i H' => Same H7 H' ∧ ∃ as : List Addr, H' ba = some (.lst (as.map V.ref)) ∧ as.length = i ∧ as.Nodup ∧ ∀ c ∈ as, H' c = some (.lst []) ∧ H7 c = none ∧ c ≠ ba) ⟨Same.new hba, [], upd_same, rfl, List.nodup_nil, by simp⟩ ?_ ?_
    · rintro i H' hi ⟨s8, as, e8, l8, n8, m8⟩
      refine ⟨rfl, (by show 0 ≤ sizeLine; exact Nat.zero_le _), fun p hp => ?_⟩
      have np : p ≠ ba := (ne_of_none e8 hp).symm
      refine ⟨as.map V.ref, by rw [upd_ne np.symm]; exact e8, by rw [List.length_map]; omega, ?_, as ++ [p], ?_, ?_, ?_, ?_⟩
      · exact Same.upd' (Same.upd' s8 (s8.free hp)) hba
      · rw [upd_same, List.map_append]
        rfl
      · rw [List.length_append, l8]
        rfl
      · refine List.nodup_append.mpr ⟨n8, by simp, fun a ha b hb z => ?_⟩
        rw [List.mem_singleton.mp hb] at z
        subst z
        rw [(m8 _ ha).1] at hp
        cases hp
      · intro c hc
        rcases List.mem_append.mp hc with hc | hc
        · obtain ⟨h1, h2, h3⟩ := m8 c hc
          exact ⟨by rw [upd_ne h3, upd_ne (ne_of_none h1 hp)]; exact h1, h2, h3⟩
        · rw [List.mem_singleton.mp hc]
          exact ⟨by rw [upd_ne np, upd_same], s8.free hp, np⟩
    rintro H8 ⟨s8, bas, eb8, lb8, nb8, mb8⟩
    have xba : ba ≠ x := (ne_of_none is7 hba).symm
    refine ⟨_, rfl, x, C, dx, _, rfl, s8 _ _ is7, cC, nA.n5, (by show 4 < 1000; decide), ?_⟩
    rw [pq5]
    have kb9 : Kb x H (upd H8 x (.ins C dx (qs5 sa L ea ka ba))) := (kb7.same s8).self
    have is9 : (upd H8 x (.ins C dx (qs5 sa L ea ka ba))) x = some (.ins C dx (qs5 sa L ea ka ba)) := upd_same
    have kb79 : Kb x H7 (upd H8 x (.ins C dx (qs5 sa L ea ka ba))) := Kb.self fun b y e _ => s8 b y e
    have eb9 : (upd H8 x (.ins C dx (qs5 sa L ea ka ba))) ba = some (.lst (bas.map V.ref)) := by rw [upd_ne xba]; exact eb8
    have mb9 : ∀ c ∈ bas, (upd H8 x (.ins C dx (qs5 sa L ea ka ba))) c = some (.lst []) := fun c hc => by
      obtain ⟨h1, h2, h3⟩ := mb8 c hc
      rw [upd_ne (fun z => by rw [z, is7] at h2; cases h2)]
      exact h1
    generalize upd H8 x (.ins C dx (qs5 sa L ea ka ba)) = H9 at kb9 is9 kb79 eb9 mb9
    refine ⟨_, rfl, x, C, dx, _, _, rfl, is9, cC, nA.n2, lkL, _, _, rfl, rfl, _, rfl, (by omega), (by omega), fun da hda => ?_⟩
    rw [show (((L : Nat) : Int) + 1).toNat = L + 1 by omega]
    refine lc_range (lo := 0) (n := L + 1) (fun i H' => Same H9 H' ∧ ∃ as : List Addr, H' da = some (.lst (as.map V.ref)) ∧ as.length = i ∧ as.Nodup ∧ ∀ c ∈ as, H' c = some (.lst []) ∧ H9 c = none ∧ c ≠ da) ⟨Same.new hda, [], upd_same, rfl, List.nodup_nil, by simp⟩ ?_ ?_
    · rintro i H' hi ⟨s8, as, e8, l8, n8, m8⟩
      refine ⟨rfl, (by show 0 ≤ sizeLine; exact Nat.zero_le _), fun p hp => ?_⟩
      have np : p ≠ da := (ne_of_none e8 hp).symm
      refine ⟨as.map V.ref, by rw [upd_ne np.symm]; exact e8, by rw [List.length_map]; omega, ?_, as ++ [p], ?_, ?_, ?_, ?_⟩
      · exact Same.upd' (Same.upd' s8 (s8.free hp)) hda
      · rw [upd_same, List.map_append]
        rfl
      · rw [List.length_append, l8]
        rfl
      · refine List.nodup_append.mpr ⟨n8, by simp, fun a ha b hb z => ?_⟩
        rw [List.mem_singleton.mp hb] at z
        subst z
        rw [(m8 _ ha).1] at hp
        cases hp
      · intro c hc
        rcases List.mem_append.mp hc with hc | hc
        · obtain ⟨h1, h2, h3⟩ := m8 c hc
          exact ⟨by rw [upd_ne h3, upd_ne (ne_of_none h1 hp)]; exact h1, h2, h3⟩
        · rw [List.mem_singleton.mp hc]
          exact ⟨by rw [upd_ne np, upd_same], s8.free hp, np⟩
    rintro H10 ⟨s10, das, ed10, ld10, nd10, md10⟩
    have xda : da ≠ x := (ne_of_none is9 hda).symm
    refine ⟨_, rfl, x, C, dx, _, rfl, s10 _ _ is9, cC, nA.n6, (by show 5 < 1000; decide), ?_⟩
    rw [pq6]
    have kb11 : Kb x H (upd H10 x (.ins C dx (kpFs sa L ea ka ba da))) := (kb9.same s10).self
    have is11 : (upd H10 x (.ins C dx (kpFs sa L ea ka ba da))) x = some (.ins C dx (kpFs sa L ea ka ba da)) := upd_same
    have kb911 : Kb x H9 (upd H10 x (.ins C dx (kpFs sa L ea ka ba da))) := Kb.self fun b y e _ => s10 b y e
    have ed11 : (upd H10 x (.ins C dx (kpFs sa L ea ka ba da))) da = some (.lst (das.map V.ref)) := by rw [upd_ne xda]; exact ed10
    have md11 : ∀ c ∈ das, (upd H10 x (.ins C dx (kpFs sa L ea ka ba da))) c = some (.lst []) := fun c hc => by
      obtain ⟨h1, h2, h3⟩ := md10 c hc
      rw [upd_ne (fun z => by rw [z, is9] at h2; cases h2)]
      exact h1
    generalize upd H10 x (.ins C dx (kpFs sa L ea ka ba da)) = H11 at kb11 is11 kb911 ed11 md11
    have nb7 : ∀ c ∈ bas, H7 c = none := fun c hc => (mb8 c hc).2.1
    have nd9 : ∀ c ∈ das, H9 c = none := fun c hc => (md10 c hc).2.1
    have xb : ∀ c ∈ bas, c ≠ x := fun c hc z => by
      have := nb7 c hc
      rw [z, is7] at this
      cases this
    have xd : ∀ c ∈ das, c ≠ x := fun c hc z => by
      have := nd9 c hc
      rw [z, is9] at this
      cases this
    -- what stood before the lists were made
    have old7 : ∀ {b : Addr} {y : HO}, H7 b = some y → b ∉ bas ∧ (b ≠ x → b ∉ das) := fun e => by
      refine ⟨fun h => ?_, fun hx h => ?_⟩
      · have := nb7 _ h
        rw [e] at this
        cases this
      · have := nd9 _ h
        rw [kb79 _ _ e hx] at this
        cases this
    have dis : ∀ c ∈ bas, c ∉ das := fun c hc h => by
      have := nd9 _ h
      rw [mb9 c hc] at this
      cases this
    have ea11 : H11 ea = some (.lst ((List.range L).map fun _ => V.int 0)) := kb911 _ _ (kb79 _ _ ee7 xea) xea
    have ka11 : H11 ka = some (.lst ((List.range ss.length).map fun _ => V.bl false)) := kb911 _ _ (kb79 _ _ ek7 xka) xka
    have ba11 : H11 ba = some (.lst (bas.map V.ref)) := kb911 _ _ eb9 xba
    have oea := old7 ee7
    have oka := old7 ek7
    have osa := old7 (es kb7)
    have nba : ba ∉ bas := fun h => (mb8 _ h).2.2 rfl
    have nbd : ba ∉ das := fun h => by
      have := nd9 _ h
      rw [eb9] at this
      cases this
    have ndb : da ∉ bas := fun h => by
      rw [mb9 _ h] at hda
      cases hda
    have ndd : da ∉ das := fun h => (md10 _ h).2.2 rfl
    have pL : ∀ i, (pb ss L).l i = ((ss[i]?).map Spn.l).getD 0 := fun i => rfl
    refine iEnumQ_v rfl (es kb11) (for_it (walk_enumQ (xs := sas.map V.ref)) (fun i σ H' => (∃ y2 y3 y4 y5, σ = [some (.ref x), some (.ref sa), y2, y3, y4, y5]) ∧ (∀ b y, H11 b = some y → b ∉ bas → b ∉ das → H' b = some y) ∧ Objs (fun v => lstN ((List.range i).filter fun j => (pb ss L).f j == v)) H' bas (List.range L) ∧ Objs (fun v => lstN ((List.range i).filter fun j => (pb ss L).l j + 1 == v)) H' das (List.range (L + 1))) ?_ ?_ ?_ ?_)
    · refine ⟨⟨_, _, _, _, rfl⟩, fun b y e _ _ => e, ⟨by rw [lb8, List.length_range], fun i v c _ h2 => ?_⟩, ⟨by rw [ld10, List.length_range], fun i v c _ h2 => md11 c (List.mem_of_getElem? h2)⟩⟩
      have hm := List.mem_of_getElem? h2
      exact kb911 _ _ (mb9 c hm) (xb c hm)
    · exact fun i σ H' _ h => h.2.1 _ _ (es kb11) osa.1 (osa.2 sx)
    · rintro i v σ H12 H13 hi ⟨⟨y2, y3, y4, y5, rfl⟩, k12, ob, od⟩ ⟨T, w1, w2, rfl, hT, rfl, e1, e2⟩
      cases e1
      have hxb : x ∉ bas := fun h => xb x h rfl
      have hxd : x ∉ das := fun h => xd x h rfl
      have k13 : ∀ b y, H11 b = some y → b ∉ bas → b ∉ das → (upd H12 T (.tup [.int (i : Nat), w2])) b = some y := fun b y e h1 h2 => Same.new hT _ _ (k12 b y e h1 h2)
      have ob3 := ob.same (Same.new (o := .tup [.int (i : Nat), w2]) hT)
      have od3 := od.same (Same.new (o := .tup [.int (i : Nat), w2]) hT)
      have eT : (upd H12 T (.tup [.int (i : Nat), w2])) T = some (.tup [.int (i : Nat), w2]) := upd_same
      generalize upd H12 T (.tup [.int (i : Nat), w2]) = H13 at k13 ob3 od3 eT
      have so3 : Objs spO H13 sas ss := ⟨so.len, fun i y b h1 h2 => by
        have e7 := (os kb7).at_ i y b h1 h2
        exact k13 b _ ((os kb11).at_ i y b h1 h2) (old7 e7).1 ((old7 e7).2 (ne_of e7 is7 (by intro z; cases z)))⟩
      obtain ⟨g, b, hg, rfl, hb, eb⟩ := so3.get' e2
      refine ⟨T, _, rfl, SqT.of eT, rfl, _, _, rfl, _, _, rfl, ⟨b, _, rfl, SqT.of eb, rfl, _, _, rfl, _, _, rfl, _, _, rfl, rfl, rfl, ?_⟩⟩
      have hgm := List.mem_of_getElem? hg
      have fl := hfl g hgm
      have lL := LL_lt g hgm
      rw [hLL] at lL
      obtain ⟨p1, p2, _⟩ := pb_at (L := L) hg
      have ix : H13 x = some (.ins C dx (kpFs sa L ea ka ba da)) := k13 _ _ is11 hxb hxd
      have lbL := ob3.len
      have ldL := od3.len
      rw [List.length_range] at lbL ldL
      obtain ⟨c1, hc1, ec1⟩ := ob3.get (i := g.f) (List.getElem?_range (by omega))
      obtain ⟨c2, hc2, ec2⟩ := od3.get (i := g.l + 1) (List.getElem?_range (by omega))
      have m1 := List.mem_of_getElem? hc1
      have m2 := List.mem_of_getElem? hc2
      have fl1 : ∀ (f : Nat → Bool), ((List.range i).filter f).length ≤ 1000 := fun f => by
        have h1 := List.length_filter_le f (List.range i)
        rw [List.length_range] at h1
        omega
      have snoc : ∀ (f : Nat → Bool), (List.range (i + 1)).filter f = (List.range i).filter f ++ if f i = true then [i] else [] := fun f => by
        rw [List.range_succ, List.filter_append]
        congr 1
        by_cases hf : f i = true
        · rw [if_pos hf]
          simp [hf]
        · rw [if_neg hf]
          simp [hf]
      refine ⟨_, rfl, x, C, dx, _, _, rfl, ix, cC, nA.n5, kp5, _, rfl, ⟨ba, _, _, _, rfl, rfl, SqL.of (k13 _ _ ba11 nba nbd), atI_nat (by rw [List.getElem?_map, hc1]; rfl), ?_⟩⟩
      refine ⟨.inl ⟨rfl, _, SqL.of ec1⟩, _, rfl, c1, _, _, rfl, rfl, ec1, by rw [List.length_map]; have := fl1 fun j => (pb ss L).f j == g.f; omega, ?_⟩
      have c12 : c1 ∉ das := dis _ m1
      have c21 : c2 ∉ bas := fun h => dis _ h m2
      have c2n : c2 ≠ c1 := fun z => c12 (z ▸ m2)
      have eda : ∀ y, (upd H13 c1 y) da = some (.lst (das.map V.ref)) := fun y => by
        rw [upd_ne (show da ≠ c1 from fun z => ndb (by rw [z]; exact m1))]
        exact k13 _ _ ed11 ndb ndd
      have ec3 : ∀ y, (upd H13 c1 y) c2 = some (.lst (((List.range i).filter fun j => (pb ss L).l j + 1 == g.l + 1).map fun i => V.int (i : Nat))) := fun y => (upd_ne c2n).trans ec2
      refine ⟨_, rfl, x, C, dx, _, _, rfl, (show (upd H13 c1 _) x = some (.ins C dx (kpFs sa L ea ka ba da)) by rw [upd_ne (xb _ m1).symm]; exact ix), cC, nA.n6, kp6, _, rfl, _, _, rfl, rfl, ⟨da, _, _, _, rfl, rfl, SqL.of (eda _), atI_nat (show (das.map V.ref)[g.l + 1]? = some (.ref c2) by rw [List.getElem?_map, hc2]; rfl), .inl ⟨rfl, _, SqL.of (ec3 _)⟩, _, rfl, c2, _, _, rfl, rfl, ec3 _, ?_, ⟨_, _, _, _, rfl⟩, ?_, ?_, ?_⟩⟩
      · rw [List.length_map]
        have := fl1 fun j => (pb ss L).l j + 1 == g.l + 1
        omega
      · intro b' y e h1 h2
        rw [upd_ne (fun z => h2 (by rw [z]; exact m2)), upd_ne (fun z => h1 (by rw [z]; exact m1))]
        exact k13 _ _ e h1 h2
      · refine Objs.off (Objs.setN ob3 ?_ hc1 ?_ fun j hj => ?_) c21
        · exact nb8
        · show lstN _ = _
          rw [snoc, if_pos (by simp [p1]), lstN, List.map_append]
          rfl
        · show lstN _ = lstN _
          rw [snoc, if_neg (by rw [p1]; simp; omega), List.append_nil]
      · refine Objs.setN (Objs.off od3 c12) ?_ hc2 ?_ fun j hj => ?_
        · exact nd10
        · show lstN _ = _
          rw [snoc, if_pos (by simp [p2]), lstN, List.map_append]
          rfl
        · show lstN _ = lstN _
          rw [snoc, if_neg (by rw [p2]; simp; omega), List.append_nil]
    · rintro σ H12 ⟨⟨y2, y3, y4, y5, rfl⟩, k12, ob, od⟩
      rw [el] at ob od
      refine q H12 ⟨x, dx, sa, ea, ka, ba, da, sas, bas, das⟩ rfl rfl rfl ⟨k12 _ _ is11 ?_ ?_, k12 _ _ (es kb11) osa.1 (osa.2 sx), ?_, k12 _ _ ea11 oea.1 (oea.2 xea), k12 _ _ ka11 oka.1 (oka.2 xka), k12 _ _ ba11 nba nbd, ob, k12 _ _ ed11 ndb ndd, od⟩ ?_ ?_ ?_ ?_
      · exact fun h => xb x h rfl
      · exact fun h => xd x h rfl
      · exact ⟨so.len, fun i y b h1 h2 => by
          have e7 := (os kb7).at_ i y b h1 h2
          exact k12 b _ ((os kb11).at_ i y b h1 h2) (old7 e7).1 ((old7 e7).2 (ne_of e7 is7 (by intro z; cases z)))⟩
      · have nn : ∀ {b c : Addr} {l : List Addr}, b ∉ l → c ∈ l → c ≠ b := fun h hc z => h (by rw [← z]; exact hc)
        exact ⟨ne_of_none (es kb2) hea, eka, (ne_of_none ee7 hba).symm, (ne_of_none (kb79 _ _ ee7 xea) hda).symm, fun c hc => nn oea.1 hc, fun c hc => nn (oea.2 xea) hc, ne_of_none (es kb5) hka, (ne_of_none ek7 hba).symm, (ne_of_none (kb79 _ _ ek7 xka) hda).symm, fun c hc => nn oka.1 hc, fun c hc => nn (oka.2 xka) hc⟩
      · intro b y e n
        have e7 := kb7 _ _ e n
        exact k12 _ _ (kb11 _ _ e n) (old7 e7).1 ((old7 e7).2 n)
      · exact kb2.free hea xea
      · exact kb5.free hka xka
end
end SA

set_option Elab.async false
set_option linter.all false
set_option maxRecDepth 100000
set_option maxHeartbeats 4000000
namespace SA
open PySem PySem.Spec PyProof.Rows L2 K83 M57
abbrev lstI (L : Nat) (g : Nat → Int) : HO := .lst ((List.range L).map fun y => V.int (g y))
theorem lstI_congr {L : Nat} {g h : Nat → Int} (e : ∀ y, y < L → g y = h y) : lstI L g = lstI L h := by
  unfold lstI
  congr 1
  exact List.map_congr_left fun y hy => by rw [e y (List.mem_range.mp hy)]
theorem sIx_nat {n d k : Nat} (hk : k ≤ n) : HT.sIx n d (some (k : Int)) = k := by
  rw [HT.sIx_nat]
  omega
theorem cutV_mid {xs : List V} {f h : Nat} (h1 : f ≤ h) (h2 : h ≤ xs.length) : cutV xs (some (f : Int)) (some (h : Int)) = (xs.drop f).take (h - f) := by
  unfold cutV
  rw [sIx_nat h2, sIx_nat (show f ≤ xs.length by omega)]
theorem cut_range {L f h : Nat} {g : Nat → Int} (h1 : f ≤ h) (h2 : h ≤ L) : cutV ((List.range L).map fun y => V.int (g y)) (some (f : Int)) (some (h : Int)) = ((List.range (h - f)).map fun i => g (f + i)).map V.int := by
  rw [cutV_mid h1 (by simpa using h2)]
  refine List.ext_getElem? fun i => ?_
  by_cases c : i < h - f
  · rw [List.getElem?_take_of_lt c, List.getElem?_drop, List.getElem?_map, List.getElem?_range (by omega), List.getElem?_map, List.getElem?_map, List.getElem?_range c]
    rfl
  · rw [List.getElem?_eq_none (by simp; omega), List.getElem?_eq_none (by simp; omega)]
section
variable {P : Program} {w0 : World} {K : PySem.W.Frag} {mg : Str → Option Value} {base : Heap} {C : Addr}
def spCover : Sp := fun vs H Q _ => ∃ (ca : Addr) (f l L : Nat) (g : Nat → Int), vs = [.ref ca, .int (f : Nat), .int (l : Nat)] ∧ H ca = some (lstI L g) ∧ l < L ∧ L ≤ 1000 ∧ (f ≤ l) ∧
  ∀ H', H' ca = some (lstI L fun y => g y + if f ≤ y ∧ y ≤ l then 1 else 0) → Kb ca H H' → Q .non H'
theorem ok_cover {f : Addr} {fd : FuncData} (F : Fun K "_cover" "_cover" s__cover f fd) (B : Bn7 mg) : FnOk P w0 K mg base CX0 1 f fd ["counts", "first", "last"] spCover := by
  refine F.ok sc__cover (fun vs H Q E h => ?_) (fun cdv A outer s H vs Q E hr h => ?_)
  · obtain ⟨ca, f, l, L, g, rfl, _⟩ := h
    rfl
  · obtain ⟨ca, f, l, L, g, rfl, ec, hl, hL, hfl, q⟩ := h
    refine ⟨_, (pss_one (ps_for PassesOwn.never rfl (pi_range2 (by rfl) B.range (pa_cons (pv 1) (pa_cons (pe_op op_add (pv 2) pe_int) pa_nil))) (pg_name (i := 3) sc__cover.nd rfl (Or.inl rfl)) (pss_one (ps_augS (pv 0) (pv 3) get_listA pe_int ip_add set_list)))), ?_⟩
    refine ⟨_, rfl, _, rfl, _, _, rfl, rfl, _, _, rfl, ⟨by omega, by omega, by omega, by omega⟩, ?_⟩
    rw [show (((l : Nat) : Int) + 1 - (f : Nat)).toNat = l + 1 - f by omega]
    refine for_range (lo := (f : Nat)) (n := l + 1 - f) (fun i σ H' => (∃ y3, σ = [some (.ref ca), some (.int (f : Nat)), some (.int (l : Nat)), y3]) ∧ H' ca = some (lstI L fun y => g y + if f ≤ y ∧ y < f + i then 1 else 0) ∧ Kb ca H H') ⟨⟨_, rfl⟩, ?_, fun b y e _ => e⟩ ?_ ?_
    · rw [ec]
      exact congrArg some (lstI_congr fun y _ => by rw [if_neg (by omega)]; omega)
    · rintro i σ H1 hi ⟨⟨y3, rfl⟩, e1, k1⟩
      rw [show ((f : Nat) : Int) + (i : Nat) = ((f + i : Nat) : Int) by omega]
      refine ⟨_, rfl, _, rfl, ca, _, f + i, _, rfl, rfl, SqL.of e1, by rw [List.getElem?_map, List.getElem?_range (by omega)]; rfl, _, _, rfl, rfl, ?_⟩
      refine ⟨ca, _, (f + i : Nat), f + i, rfl, rfl, e1, ixN_nat (by simp; omega), ⟨_, rfl⟩, ?_, k1.self⟩
      rw [upd_same]
      congr 2
      refine set_range ?_ fun j hj => ?_
      · show V.int (g (f + i) + if f ≤ f + i ∧ f + i < f + (i + 1) then 1 else 0) = V.int (g (f + i) + (if f ≤ f + i ∧ f + i < f + i then 1 else 0) + 1)
        rw [if_pos (by omega), if_neg (by omega)]
        congr 1
        omega
      · show V.int (g j + if f ≤ j ∧ j < f + (i + 1) then 1 else 0) = V.int (g j + if f ≤ j ∧ j < f + i then 1 else 0)
        congr 2
        by_cases c : f ≤ j ∧ j < f + i
        · rw [if_pos c, if_pos (by omega)]
        · rw [if_neg c, if_neg (by omega)]
    · rintro σ H1 ⟨⟨y3, rfl⟩, e1, k1⟩
      refine q H1 ?_ k1
      rw [e1]
      refine congrArg some (lstI_congr fun y _ => ?_)
      congr 1
      by_cases c : f ≤ y ∧ y ≤ l
      · rw [if_pos c, if_pos (by omega)]
      · rw [if_neg c, if_neg (by omega)]
def spLeft : Sp := fun vs H Q _ => ∃ (sa ka : Addr) (R : Nat) (tt : Bool) (ss : List Spn) (sas : List Addr) (z : M57.Flow), vs = [.ref sa, .int (R : Nat), .ref ka] ∧ H sa = some (sqO tt (sas.map V.ref)) ∧ Objs spO H sas ss ∧ H ka = some (.lst ((List.range ss.length).map fun i => V.bl (z.1 i))) ∧ (0 < ss.length ∧ ss.length ≤ 1000 ∧ LL ss ≤ 1000 ∧ ∀ q ∈ ss, q.f ≤ q.l) ∧ (pb ss (LL ss)).Ok ∧ (∀ w, 0 ≤ z.2 w) ∧ (∀ y, y < LL ss → z.2 y + cov (pb ss (LL ss)) z.1 y = R) ∧
  ∀ H' r b, Bes (pb ss (LL ss)) z R b ss.length → H' r = some (.lst (((List.range ss.length).filter fun i => !(z.1 i || b i)).map fun i => V.int (i : Nat))) → Same H H' → Q (.ref r) H'
def sqS (tt : Bool) (a : Addr) : Sd := if tt = true then .tup a else .lst a
theorem sqS_v (tt : Bool) (a : Addr) : (sqS tt a).v = .ref a := by cases tt <;> rfl
theorem sqS_has {tt : Bool} {a : Addr} {xs : List V} {H : Hp} (e : H a = some (sqO tt xs)) : Sd.has K H (sqS tt a) xs := by
  cases tt with
  | true => exact SqT.of e
  | false => exact SqL.of e
theorem ok_left_beside {f : Addr} {fd : FuncData} (F : Fun K "_left_beside" "_left_beside" s__left_beside f fd) (B : Bn7 mg) (c__cover : Dq P w0 K mg base CX0 1 "_cover" ["counts", "first", "last"] spCover) : FnOk P w0 K mg base CX0 2 f fd ["spans", "room", "is_kept"] spLeft := by
  refine F.ok sc__left_beside (fun vs H Q E h => ?_) (fun cdv A outer s H vs Q E hr h => ?_)
  · obtain ⟨sa, ka, R, tt, ss, sas, z, rfl, _⟩ := h
    rfl
  · obtain ⟨sa, ka, R, tt, ss, sas, z, rfl, esa, so, eka, ⟨hn, hn2, hL, hfl⟩, ok, nn, cut, q⟩ := h
    refine ⟨_, (pss_cons (ps_setLc (i := 5) (own := [("_", 3)]) (g := (gName 3)) (tt := tYes) (by rfl) sc__left_beside.nd rfl rfl (sw_true rfl rfl rfl (by decide +kernel)) (pi_range1 (by rfl) B.range (pa_cons (pe_op op_add (pe_callB (cr_max rfl) (by rfl) B.max (by decide +kernel) (pa_cons (pe_lc (own := [("_", 3), ("last", 4), ("_", 3)]) (g := (gTup K 3 (gCons (gName 3) (gCons (gName 4) (gCons (gName 3) gNil))))) (tt := tYes) (by rfl) sc__left_beside.nd (pi_sq tt (pv 0)) (blkOk_by (N := n__left_beside) (sc := defScope s__left_beside) (by decide +kernel)) (fun _ _ _ _ _ => (pg_tup (by rfl) (pgs_cons (pg_name (i := 3) sc__left_beside.nd rfl (Or.inl rfl)) (pgs_cons (pg_name (i := 4) sc__left_beside.nd rfl (Or.inl rfl)) (pgs_cons (pg_name (i := 3) sc__left_beside.nd rfl (Or.inl rfl)) pgs_nil))))) (fun _ _ _ _ _ => pts_nil) (fun _ _ _ _ _ => (pv 4))) pa_nil)) pe_int) pa_nil)) (blkOk_by (N := n__left_beside) (sc := defScope s__left_beside) (by decide +kernel)) (fun _ _ _ _ _ => (pg_name (i := 3) sc__left_beside.nd rfl (Or.inl rfl))) (fun _ _ _ _ _ => pts_nil) (fun _ _ _ _ _ => pe_int))
      (pss_cons (ps_for PassesOwn.never rfl (pi_zipX (by rfl) B.zip (pa_cons (pv 0) (pa_cons (pv 2) pa_nil))) (pg_tup (by rfl) (pgs_cons (pg_tup (by rfl) (pgs_cons (pg_name (i := 6) sc__left_beside.nd rfl (Or.inl rfl)) (pgs_cons (pg_name (i := 4) sc__left_beside.nd rfl (Or.inl rfl)) (pgs_cons (pg_name (i := 3) sc__left_beside.nd rfl (Or.inl rfl)) pgs_nil)))) (pgs_cons (pg_name (i := 7) sc__left_beside.nd rfl (Or.inl rfl)) pgs_nil))) (pss_one (ps_if (pt_val (pv 7)) (pss_one (ps_expr (pe_q c__cover hr (by decide) (by rfl) (pa_cons (pv 5) (pa_cons (pv 6) (pa_cons (pv 4) pa_nil)))))) pss_nil)))
      (pss_cons (ps_set (i := 8) sc__left_beside.nd rfl (Or.inl rfl) (pe_lst pa_nil))
      (pss_cons (ps_for PassesOwn.never rfl (pi_enumQ tt (by rfl) B.enumerate (pa_cons (pv 0) pa_nil)) (pg_tup (by rfl) (pgs_cons (pg_name (i := 9) sc__left_beside.nd rfl (Or.inl rfl)) (pgs_cons (pg_tup (by rfl) (pgs_cons (pg_name (i := 6) sc__left_beside.nd rfl (Or.inl rfl)) (pgs_cons (pg_name (i := 4) sc__left_beside.nd rfl (Or.inl rfl)) (pgs_cons (pg_name (i := 3) sc__left_beside.nd rfl (Or.inl rfl)) pgs_nil)))) pgs_nil))) (pss_one (ps_if (PW.pt (pw_and (pt_not (pt_truth (pe_ix ix_list (pv 2) (pv 9) (fun _ _ => rfl)) (by intro _; rfl))) (pw_and1 (pt_cmpR op_lt (pe_callB (cr_max rfl) (by rfl) B.max (by decide +kernel) (pa_cons (pe_slice sl_list (pv 5) (po_some (pv 6)) (po_some (pe_op op_add (pv 4) pe_int))) pa_nil)) (pv 1) (nomark _))))) (pss_one (ps_expr (pe_q c__cover hr (by decide) (by rfl) (pa_cons (pv 5) (pa_cons (pv 6) (pa_cons (pv 4) pa_nil)))))) (pss_one (ps_if (pt_not (pt_truth (pe_ix ix_list (pv 2) (pv 9) (fun _ _ => rfl)) (by intro _; rfl))) (pss_one (ps_expr (pe_bm PySem.F.plainAttrs_list PySem.F.slot_list_append PySem.F.type_list_append mt_append (pv 8) (pa_cons (pv 9) pa_nil)))) pss_nil)))))
      (pss_one (ps_ret (pv 8))))))), ?_⟩
    have hs63 := sizeLine_eq
    have el : (sas.map V.ref).length = ss.length := by rw [List.length_map, so.len]
    refine iSq_v rfl esa (fun D hD => lc_it walk_sq (fun i H' => Same H H' ∧ H' D = some (.lst (((ss.take i).map fun q => ((q.l : Nat) : Int)).map V.int))) ⟨Same.new hD, upd_same⟩ (fun i H' _ h => h.1 _ _ esa) ?_ ?_)
    · rintro i v H2 H3 hi ⟨s2, e2⟩ ⟨rfl, hv⟩
      obtain ⟨y, b, hy, rfl, hb, eb⟩ := (so.same s2).get' hv
      refine ⟨b, _, rfl, SqT.of eb, rfl, _, _, rfl, _, _, rfl, _, _, rfl, rfl, rfl, _, rfl, _, e2, ?_, Same.upd' s2 hD, ?_⟩
      · have := List.length_take_le' i ss
        rw [List.length_map, List.length_map]
        omega
      · rw [upd_same, List.take_add_one, hy, List.map_append, List.map_append]
        rfl
    rintro H2 ⟨s2, e2⟩
    rw [el, List.take_length] at e2
    refine ⟨D, _, rfl, SqL.of e2, by rw [List.length_map]; exact hn, fun m hm hmx => ?_⟩
    have hmL := LL_max hm hmx
    refine ⟨_, _, rfl, rfl, _, rfl, by omega, by omega, fun ca hca => ?_⟩
    rw [show (m + 1).toNat = LL ss by omega]
    have lt : ∀ q ∈ ss, q.l < LL ss := LL_lt
    generalize LL ss = L at hL ok cut q lt
    clear hmL
    refine lc_range (lo := 0) (n := L) (fun i H' => Same H2 H' ∧ H' ca = some (.lst ((List.range i).map fun _ => V.int 0))) ⟨Same.new hca, upd_same⟩ ?_ ?_
    · rintro i H' hi ⟨s4, e4⟩
      refine ⟨rfl, _, e4, (by rw [List.length_map, List.length_range]; omega), ⟨Same.upd' s4 hca, ?_⟩⟩
      rw [upd_same, List.range_succ, List.map_append]
      rfl
    rintro H4 ⟨s4, e4⟩
    have hca0 := s2.free hca
    have sH4 := s2.trans s4
    -- a span's place
    have atS : ∀ {H' : Hp} {i : Nat} {v : V}, (∀ b y, H b = some y → H' b = some y) → (sas.map V.ref)[i]? = some v → ∃ g b, i < ss.length ∧ v = .ref b ∧ H' b = some (spO g) ∧ g.f ≤ g.l ∧ g.l < L ∧ (pb ss L).f i = g.f ∧ (pb ss L).l i = g.l ∧ (pb ss L).c i = g.c := fun k hv => by
      obtain ⟨g, b, hg, rfl, hb, eb⟩ := so.get' hv
      obtain ⟨p1, p2, p3⟩ := pb_at (L := L) hg
      exact ⟨g, b, (List.getElem?_eq_some_iff.mp hg).1, rfl, k _ _ eb, hfl g (List.mem_of_getElem? hg), lt g (List.mem_of_getElem? hg), p1, p2, p3⟩
    refine ⟨_, rfl, _, rfl, sqS tt sa, .lst ka, _, _, by rw [sqS_v]; rfl, sqS_has (sH4 _ _ esa), SqL.of (sH4 _ _ eka), ?_⟩
    refine for_it (walk_zipX (n := ss.length) (xs := sas.map V.ref) (ys := (List.range ss.length).map fun i => V.bl (z.1 i)) (S1 := sqS tt sa) (S2 := .lst ka) (by rw [el]; simp)) (fun i σ H' => (∃ y3 y4 y6 y7 y8 y9, σ = [some (.ref sa), some (.int (R : Nat)), some (.ref ka), y3, y4, some (.ref ca), y6, y7, y8, y9]) ∧ H' ca = some (lstI L fun y => sumTo (fun i => if z.1 i = true ∧ (pb ss L).f i ≤ y ∧ y ≤ (pb ss L).l i then 1 else 0) i) ∧ Kb ca H4 H') ?_ ?_ ?_ ?_
    · refine ⟨⟨_, _, _, _, _, _, rfl⟩, ?_, fun b y e _ => e⟩
      rw [e4]
      rfl
    · rintro i σ H5 _ ⟨_, _, k5⟩
      exact ⟨sqS_has (k5 _ _ (sH4 _ _ esa) (ne_of_none esa hca0)), SqL.of (k5 _ _ (sH4 _ _ eka) (ne_of_none eka hca0))⟩
    · rintro i v σ H5 H6 hi ⟨⟨y3, y4, y6, y7, y8, y9, rfl⟩, e5, k5⟩ ⟨T, w1, w2, rfl, hT, rfl, h1, h2⟩
      have kT : ∀ b y, H b = some y → (upd H5 T (.tup [w1, w2])) b = some y := fun b y e => Same.new hT _ _ (k5 _ _ (sH4 _ _ e) (ne_of_none e hca0))
      obtain ⟨g, b, hin, rfl, eb, f1, f2, p1, p2, p3⟩ := atS kT h1
      have h2 : w2 = .bl (z.1 i) := by
        have h2 : ((List.range ss.length).map fun i => V.bl (z.1 i))[i]? = some w2 := h2
        rw [List.getElem?_map, List.getElem?_range hin] at h2
        exact (Option.some.inj h2).symm
      subst h2
      have eT : (upd H5 T (.tup [.ref b, .bl (z.1 i)])) T = some (.tup [.ref b, .bl (z.1 i)]) := upd_same
      have eca : (upd H5 T (.tup [.ref b, .bl (z.1 i)])) ca = _ := (upd_ne (ne_of_none e5 hT)).trans e5
      have kb6 : Kb ca H4 (upd H5 T (.tup [.ref b, .bl (z.1 i)])) := Kb.same k5 (Same.new hT)
      generalize upd H5 T (.tup [.ref b, .bl (z.1 i)]) = H6 at eT eb eca kb6
      refine ⟨T, _, rfl, SqT.of eT, rfl, _, _, rfl, ⟨b, _, rfl, SqT.of eb, rfl, _, _, rfl, _, _, rfl, _, _, rfl, rfl, _, _, rfl, rfl, ?_⟩⟩
      refine ⟨_, rfl, z.1 i, rfl, ?_⟩
      cases hk : z.1 i with
      | true =>
        refine iteT ⟨_, rfl, _, rfl, _, rfl, ca, g.f, g.l, L, _, rfl, eca, f2, hL, f1, fun H7 e7 k7 => ⟨⟨_, _, _, _, _, _, rfl⟩, ?_, kb6.trans k7⟩⟩
        rw [e7]
        refine congrArg some (lstI_congr fun y _ => ?_)
        show _ = sumTo _ i + (if z.1 i = true ∧ (pb ss L).f i ≤ y ∧ y ≤ (pb ss L).l i then 1 else 0)
        rw [p1, p2]
        congr 1
        simp only [hk, true_and]
      | false =>
        refine iteF ⟨⟨_, _, _, _, _, _, rfl⟩, ?_, kb6⟩
        rw [eca]
        refine congrArg some (lstI_congr fun y _ => ?_)
        show _ = sumTo _ i + (if z.1 i = true ∧ (pb ss L).f i ≤ y ∧ y ≤ (pb ss L).l i then 1 else 0)
        rw [if_neg (by simp [hk])]
        omega
    rintro σ H5 ⟨⟨y3, y4, y6, y7, y8, y9, rfl⟩, e5, k5⟩
    refine ⟨Nat.zero_le _, fun fo hfo => ?_⟩
    have nca : ca ≠ fo := ne_of_none e5 hfo
    have k6 : ∀ b y, H b = some y → (upd H5 fo (.lst [])) b = some y := fun b y e => Same.new hfo _ _ (k5 _ _ (sH4 _ _ e) (ne_of_none e hca0))
    have ef6 : (upd H5 fo (.lst [])) fo = some (.lst []) := upd_same
    have ec6 : (upd H5 fo (.lst [])) ca = _ := (upd_ne nca).trans e5
    have hfo0 : H fo = none := by
      cases e : H fo with
      | none => rfl
      | some y =>
        rw [k5 _ _ (sH4 _ _ e) (ne_of_none e hca0)] at hfo
        cases hfo
    change tSeq _ _ _ _ (upd H5 fo (.lst []))
    generalize upd H5 fo (.lst []) = H6 at k6 ef6 ec6
    refine iEnumQ_v rfl (k6 _ _ esa) (for_it (walk_enumQ (xs := sas.map V.ref)) (fun j σ H' => (∃ y3 y4 y6 y7 y9, σ = [some (.ref sa), some (.int (R : Nat)), some (.ref ka), y3, y4, some (.ref ca), y6, y7, some (.ref fo), y9]) ∧ But2 ca fo H6 H' ∧ ∃ b, Bes (pb ss L) z R b j ∧ H' ca = some (lstI L (cov (pb ss L) fun i => z.1 i || b i)) ∧ H' fo = some (.lst (((List.range j).filter fun i => !(z.1 i || b i)).map fun i => V.int (i : Nat)))) ?_ ?_ ?_ ?_)
    · refine ⟨⟨_, _, _, _, _, rfl⟩, But2.refl _ _ _, fun _ => false, Bes.start nn cut, ?_, ef6⟩
      rw [ec6]
      refine congrArg some (lstI_congr fun y _ => ?_)
      show _ = sumTo (fun i => if (z.1 i || false) = true ∧ _ then 1 else 0) _
      simp only [Bool.or_false]
      rfl
    · exact fun i σ H' _ h => h.2.1 _ _ (k6 _ _ esa) (ne_of_none esa hca0) (ne_of_none esa hfo0)
    · rintro i v σ H7 H8 hi ⟨⟨y3, y4, y6, y7, y9, rfl⟩, b7, bs, Bb, e7, f7⟩ ⟨T, w1, w2, rfl, hT, rfl, h1, h2⟩
      cases h1
      have kT : ∀ b y, H b = some y → (upd H7 T (.tup [.int (i : Nat), w2])) b = some y := fun b y e => Same.new hT _ _ (b7 _ _ (k6 _ _ e) (ne_of_none e hca0) (ne_of_none e hfo0))
      obtain ⟨g, b, hin, rfl, eb, g1, g2, p1, p2, p3⟩ := atS kT h2
      have eT : (upd H7 T (.tup [.int (i : Nat), .ref b])) T = some (.tup [.int (i : Nat), .ref b]) := upd_same
      have eca : (upd H7 T (.tup [.int (i : Nat), .ref b])) ca = _ := (upd_ne (ne_of_none e7 hT)).trans e7
      have efo : (upd H7 T (.tup [.int (i : Nat), .ref b])) fo = _ := (upd_ne (ne_of_none f7 hT)).trans f7
      have b8 : But2 ca fo H6 (upd H7 T (.tup [.int (i : Nat), .ref b])) := fun c y e n1 n2 => Same.new hT _ _ (b7 _ _ e n1 n2)
      generalize upd H7 T (.tup [.int (i : Nat), .ref b]) = H8 at eT eb eca efo b8
      have eka8 : H8 ka = some (.lst ((List.range ss.length).map fun i => V.bl (z.1 i))) := b8 _ _ (k6 _ _ eka) (ne_of_none eka hca0) (ne_of_none eka hfo0)
      have aka : ((List.range ss.length).map fun i => V.bl (z.1 i))[i]? = some (.bl (z.1 i)) := by
        rw [List.getElem?_map, List.getElem?_range hin]
        rfl
      refine ⟨T, _, rfl, SqT.of eT, rfl, _, _, rfl, _, _, rfl, ⟨b, _, rfl, SqT.of eb, rfl, _, _, rfl, _, _, rfl, _, _, rfl, rfl, rfl, ?_⟩⟩
      refine ⟨_, rfl, _, rfl, ⟨ka, _, _, _, rfl, rfl, SqL.of eka8, atI_nat aka, z.1 i, rfl, ?_⟩⟩
      have snoc : ∀ (f : Nat → Bool), (List.range (i + 1)).filter f = (List.range i).filter f ++ if f i = true then [i] else [] := fun f => by
        rw [List.range_succ, List.filter_append]
        congr 1
        by_cases hf : f i = true
        · rw [if_pos hf]
          simp [hf]
        · rw [if_neg hf]
          simp [hf]
      have bi : bs i = false := by
        cases e : bs i with
        | false => rfl
        | true => exact absurd (Bb.sub i e).1 (Nat.lt_irrefl i)
      cases hk : z.1 i with
      | true =>
        refine iteF (iteF ⟨_, rfl, _, rfl, ⟨ka, _, _, _, rfl, rfl, SqL.of eka8, atI_nat aka, z.1 i, rfl, ?_⟩⟩)
        rw [hk]
        refine iteF ⟨⟨_, _, _, _, _, rfl⟩, b8, bs, Bb.skip (.inl hk), eca, ?_⟩
        rw [efo, snoc, if_neg (by simp [hk]), List.append_nil]
      | false =>
        refine iteT ⟨_, rfl, _, rfl, _, rfl, _, rfl, _, _, rfl, rfl, _, rfl, ca, _, rfl, SqL.of eca, fun ma hma => ?_⟩
        have nmc : ca ≠ ma := ne_of_none eca hma
        have nmf : fo ≠ ma := ne_of_none efo hma
        rw [show ((g.l : Nat) : Int) + 1 = ((g.l + 1 : Nat) : Int) by omega, cut_range (by omega) (by omega)]
        refine ⟨ma, _, rfl, SqL.of upd_same, by rw [List.length_map, List.length_range]; omega, fun m hm hmx => ?_⟩
        have ek9 : ∀ y, (upd H8 ma y) ka = _ := fun y => (upd_ne (ne_of_none eka8 hma)).trans eka8
        have ec9 : ∀ y, (upd H8 ma y) ca = _ := fun y => (upd_ne nmc).trans eca
        have ef9 : ∀ y, (upd H8 ma y) fo = _ := fun y => (upd_ne nmf).trans efo
        have b9 : ∀ y, But2 ca fo H6 (upd H8 ma y) := fun y c u e n1 n2 => Same.new hma _ _ (b8 _ _ e n1 n2)
        refine ⟨_, rfl, _, _, rfl, rfl, _, rfl, ?_⟩
        generalize hH9 : upd H8 ma (HO.lst _) = H9
        have ek9 := hH9 ▸ ek9 _
        have ec9 := hH9 ▸ ec9 _
        have ef9 := hH9 ▸ ef9 _
        have b9 := hH9 ▸ b9 _
        obtain ⟨t, ht, hmt⟩ := List.mem_map.mp hm
        rw [List.mem_range] at ht
        by_cases c : m < (R : Int)
        · have hL' : (pb ss L).L = L := rfl
          have ek : (fun j => z.1 j || up bs i true j) = up (fun j => z.1 j || bs j) i true := funext fun j => by
            by_cases e : j = i
            · subst e
              rw [up_same, up_same, Bool.or_true]
            · rw [up_ne e, up_ne e]
          have low : ∀ y, (pb ss L).f i ≤ y → y ≤ (pb ss L).l i → cov (pb ss L) (fun i => z.1 i || bs i) y < (R : Int) := fun y h1 h2 => by
            rw [p1] at h1
            rw [p2] at h2
            have := hmx (cov (pb ss L) (fun i => z.1 i || bs i) y) (List.mem_map.mpr ⟨y - g.f, List.mem_range.mpr (by omega), by rw [show g.f + (y - g.f) = y by omega]⟩)
            omega
          refine iteTd (decide_eq_true c) ⟨_, rfl, _, rfl, _, rfl, ca, g.f, g.l, L, _, rfl, ec9, g2, hL, g1, fun H10 e10 k10 => ⟨⟨_, _, _, _, _, rfl⟩, fun c u e n1 n2 => k10 _ _ (b9 c u e n1 n2) n1, up bs i true, Bb.add ok cut hin hk low, ?_, ?_⟩⟩
          · rw [e10, ek]
            refine congrArg some (lstI_congr fun y _ => ?_)
            rw [cov_up (p := pb ss L) (fun j => z.1 j || bs j) hin, p1, p2]
            simp only [hk, bi, Bool.or_false, true_and]
            simp
          · rw [k10 _ _ ef9 (nca.symm), snoc, if_neg (by rw [up_same]; simp), List.append_nil]
            congr 3
            refine List.filter_congr fun j hj => ?_
            rw [up_ne (show j ≠ i by have := List.mem_range.mp hj; omega)]
        · refine iteFd (decide_eq_false c) ⟨_, rfl, _, rfl, ⟨ka, _, _, _, rfl, rfl, SqL.of ek9, atI_nat aka, z.1 i, rfl, ?_⟩⟩
          rw [hk]
          refine iteT ⟨_, rfl, .inl ⟨rfl, _, SqL.of ef9⟩, _, rfl, fo, _, _, rfl, rfl, ef9, ?_, ⟨_, _, _, _, _, rfl⟩, fun c u e n1 n2 => by rw [upd_ne n2]; exact b9 c u e n1 n2, bs, Bb.skip (.inr ⟨g.f + t, by omega, by omega, by omega⟩), ?_, ?_⟩
          · rw [List.length_map]
            have h1 := List.length_filter_le (fun i => !(z.1 i || bs i)) (List.range i)
            rw [List.length_range] at h1
            omega
          · rw [upd_ne nca]
            exact ec9
          · rw [upd_same, snoc, if_pos (by simp [hk, bi]), List.map_append]
            rfl
    · rintro σ H7 ⟨⟨y3, y4, y6, y7, y9, rfl⟩, b7, bs, Bb, e7, f7⟩
      rw [el] at Bb f7
      exact ⟨_, rfl, q H7 fo bs Bb f7 fun c y e => b7 _ _ (k6 _ _ e) (ne_of_none e hca0) (ne_of_none e hfo0)⟩
end
end SA

set_option Elab.async false
set_option linter.all false
set_option maxRecDepth 100000
set_option maxHeartbeats 4000000
namespace SA
open PySem PySem.Spec PyProof.Rows L2 K83 M57
/-- what least tells -/
structure LeftOk (p : Pb) (R : Int) (k : Nat → Bool) (P : Nat → Int) : Prop where
  nn : ∀ y, y < p.L → 0 ≤ P y
  room : ∀ y, y < p.L → cov p k y ≤ R
  full : ∀ i, i < p.n → k i = false → ∃ y, p.f i ≤ y ∧ y ≤ p.l i ∧ R ≤ cov p k y
  eq : worth p P p.L R = leftCost p k
structure SsOk (ss : List Spn) : Prop where
  n : ss.length ≤ 1000
  L : LL ss ≤ 1000
  fl : ∀ q ∈ ss, q.f ≤ q.l
  c : ∀ q ∈ ss, 0 ≤ q.c
theorem SsOk.ok {ss : List Spn} (h : SsOk ss) : (pb ss (LL ss)).Ok := by
  have at_ : ∀ i, i < (pb ss (LL ss)).n → ∃ q ∈ ss, (pb ss (LL ss)).f i = q.f ∧ (pb ss (LL ss)).l i = q.l ∧ (pb ss (LL ss)).c i = q.c := fun i hi => by
    have hi : i < ss.length := hi
    exact ⟨ss[i], List.getElem_mem hi, pb_at (List.getElem?_eq_getElem hi)⟩
  refine ⟨fun i hi => ?_, fun i hi => ?_, fun i hi => ?_⟩
  · obtain ⟨q, hq, h1, h2, h3⟩ := at_ i hi
    rw [h1, h2]
    exact h.fl q hq
  · obtain ⟨q, hq, h1, h2, h3⟩ := at_ i hi
    rw [h2]
    exact LL_lt q hq
  · obtain ⟨q, hq, h1, h2, h3⟩ := at_ i hi
    rw [h3]
    exact h.c q hq
section
variable {P : Program} {w0 : World} {K : PySem.W.Frag} {mg : Str → Option Value} {base : Heap} {C : Addr}
def spLL : Sp := fun vs H Q _ => ∃ (sa : Addr) (R : Nat) (tt : Bool) (ss : List Spn) (sas : List Addr), vs = [.ref sa, .int (R : Nat)] ∧ H sa = some (sqO tt (sas.map V.ref)) ∧ Objs spO H sas ss ∧ SsOk ss ∧ R ≤ 20 ∧
  ∀ H' t la pa k p, H' t = some (.tup [.ref la, .ref pa]) → H' la = some (.lst (((List.range ss.length).filter fun i => !k i).map fun i => V.int (i : Nat))) → H' pa = some (.lst (((List.range (LL ss)).map p).map V.int)) → LeftOk (pb ss (LL ss)) R k p → Same H H' → Q (.ref t) H'
theorem ok_least_left {f : Addr} {fd : FuncData} (F : Fun K "least_left" "least_left" s_least_left f fd) (B : Bn7 mg) (cC : Cls K C) (nA : NoA K C) (c__left_beside : Dq P w0 K mg base CX0 2 "_left_beside" ["spans", "room", "is_kept"] spLeft) (mkK : DmK P w0 K mg base C 1 "Keeping" ["self", "spans"] (spInit C)) (m_add_way : Dm P w0 K mg base C 4 "add_way" ["self"] (spAdd C)) (m_prices : Dm P w0 K mg base C 4 "prices" ["self"] (spPrices C)) : FnOk P w0 K mg base CX0 5 f fd ["spans", "room"] spLL := by
  refine F.ok sc_least_left (fun vs H Q E h => ?_) (fun cdv A outer s H vs Q E hr h => ?_)
  · obtain ⟨sa, R, tt, ss, sas, rfl, _⟩ := h
    rfl
  · obtain ⟨sa, R, tt, ss, sas, rfl, esa, so, ok, hR, q⟩ := h
    refine ⟨_, (pss_cons (ps_if (pt_cmpR op_eq (pe_callB call_len_seq (by rfl) B.len PySem.boot_len (pa_cons (pv 0) pa_nil)) pe_int (nomark _)) (pss_one (ps_ret (pe_tup (pa_cons (pe_lst pa_nil) (pa_cons (pe_lst pa_nil) pa_nil))))) pss_nil)
      (pss_cons (ps_set (i := 2) sc_least_left.nd rfl (Or.inl rfl) (pe_mkq mkK hr (by decide) (by rfl) (pa_cons (pv 0) pa_nil)))
      (pss_cons (ps_for PassesOwn.never rfl (pi_range1 (by rfl) B.range (pa_cons (pv 1) pa_nil)) (pg_name (i := 3) sc_least_left.nd rfl (Or.inl rfl)) (pss_one (ps_expr (pe_m0q m_add_way cC hr (by decide) (pv 2)))))
      (pss_one (ps_ret (pe_tup (pa_cons (pe_q c__left_beside hr (by decide) (by rfl) (pa_cons (pv 0) (pa_cons (pv 1) (pa_cons (pe_fld (pv 2) rfl) pa_nil)))) (pa_cons (pe_m0q m_prices cC hr (by decide) (pv 2)) pa_nil)))))))), ?_⟩
    have hs63 := sizeLine_eq
    have el : (sas.map V.ref).length = ss.length := by rw [List.length_map, so.len]
    refine ⟨_, rfl, sa, _, rfl, Sq.or esa, rfl, _, rfl, ?_⟩
    by_cases hn : ss.length = 0
    · refine iteTd ?_ ?_
      · rw [el, hn]
        rfl
      · have e0 : ss = [] := List.length_eq_zero_iff.mp hn
        subst e0
        refine ⟨Nat.zero_le _, fun la hla => ⟨Nat.zero_le _, fun pa hpa => ⟨(by show 2 ≤ sizeLine; omega), fun t ht => ?_⟩⟩⟩
        have n1 : la ≠ pa := fun z => by
          rw [← z, upd_same] at hpa
          cases hpa
        have n2 : la ≠ t := ne_of_none (show (upd (upd H la (.lst [])) pa (.lst [])) la = some (.lst []) by rw [upd_ne n1, upd_same]) ht
        have n3 : pa ≠ t := ne_of_none (show (upd (upd H la (.lst [])) pa (.lst [])) pa = some (.lst []) by rw [upd_same]) ht
        refine q _ t la pa (fun _ => false) (fun _ => 0) upd_same ?_ ?_ ⟨fun _ _ => Int.le_refl _, fun y hy => absurd hy (Nat.not_lt_zero _), fun i hi => absurd hi (Nat.not_lt_zero _), ?_⟩ ?_
        · rw [upd_ne n2, upd_ne n1, upd_same]
          rfl
        · rw [upd_ne n3, upd_same]
          rfl
        · show M57.sumTo _ 0 - (R : Int) * M57.sumTo _ 0 = M57.sumTo _ 0
          simp [M57.sumTo]
        · have s1 : Same H (upd H la (.lst [])) := Same.new hla
          have s2 := Same.upd' (o := .lst []) s1 (s1.free hpa)
          exact Same.upd' s2 (s2.free ht)
    · refine iteFd ?_ ?_
      · rw [el, decide_eq_false_iff_not]
        intro h
        have := V.int.inj h
        omega
      · refine ⟨_, rfl, fun x dx hx hdx ne => ?_⟩
        have sM : Same H (upd (upd H dx (.own x)) x (.ins C dx [])) := Same.upd' (Same.new hdx) hx
        have iM : (upd (upd H dx (.own x)) x (.ins C dx [])) x = some (.ins C dx []) := upd_same
        generalize upd (upd H dx (.own x)) x (.ins C dx []) = H1 at sM iM
        refine ⟨x, dx, sa, tt, ss, sas, rfl, iM, sM _ _ esa, so.same sM, ⟨by omega, ok.n, ok.L, ok.fl⟩, fun H2 o ox os oss kp sep kb hea hka => ⟨rfl, ?_⟩⟩
        subst ox os oss
        have pok := ok.ok
        generalize hLL : LL ss = L at kp pok q
        have hL : L ≤ 1000 := hLL ▸ ok.L
        have kbH : ∀ b y, H b = some y → H2 b = some y := fun b y e => kb _ _ (sM _ _ e) (ne_of_none e hx)
        refine ⟨_, rfl, _, rfl, by omega, by omega, ?_⟩
        rw [show (((R : Nat) : Int)).toNat = R from rfl]
        refine for_range (lo := 0) (n := R) (fun m σ H' => (∃ y3, σ = [some (.ref o.sa), some (.int (R : Nat)), some (.ref o.x), y3]) ∧ But2 o.ea o.ka H2 H' ∧ ∃ z, KpAt C H' o tt ss L z ∧ FlowOk (pb ss L) m z) ⟨⟨_, rfl⟩, But2.refl _ _ _, _, kp, FlowOk.start pok⟩ ?_ ?_
        · rintro m σ H3 hm ⟨⟨y3, rfl⟩, b3, z, k3, fo⟩
          obtain ⟨φ, hφ⟩ := fo.pot
          refine ⟨_, rfl, o.x, o.dx, _, rfl, k3.ins, kpN (by simp [mthL]), o, tt, ss, L, z, φ, rfl, k3, sep, pok, ⟨hL, ok.n⟩, hφ, fun H4 t l I okA pth k4 b4 => ⟨⟨_, rfl⟩, b3.trans b4, _, k4, fo.next pok hφ I okA pth⟩⟩
        rintro σ H3 ⟨⟨y3, rfl⟩, b3, z, k3, fo⟩
        have s3 : Same H H3 := fun b y e => b3 _ _ (kbH _ _ e) (ne_of_none (sM _ _ e) hea) (ne_of_none (sM _ _ e) hka)
        have cut : ∀ y, y < L → z.2 y + cov (pb ss L) z.1 y = (R : Int) := fo.cut
        refine ⟨_, rfl, _, rfl, _, rfl, o.x, C, o.dx, _, _, rfl, k3.ins, cC, nA.n4, kp4, o.sa, o.ka, R, tt, ss, o.sas, z, rfl, k3.sp, k3.so, k3.kp, ⟨by omega, ok.n, ok.L, ok.fl⟩, hLL.symm ▸ pok, fo.nn, hLL.symm ▸ cut, fun H4 la bs Bb e4 s4 => ?_⟩
        rw [hLL] at Bb
        obtain ⟨φ, hφ⟩ := fo.pot
        have k4 := k3.same s4
        refine ⟨_, rfl, o.x, o.dx, _, rfl, k4.ins, kpN (by simp [mthL]), o, tt, ss, L, z, φ, rfl, k4, pok, ⟨hL, ok.n⟩, hφ, fun H5 pa t e5 okA s5 => ⟨(by show 2 ≤ sizeLine; omega), fun T hT => ?_⟩⟩
        have F := fit_of pok okA
        have s35 := (s3.trans s4).trans s5
        refine q _ T la pa (fun i => z.1 i || bs i) (price t) upd_same ?_ ?_ ⟨F.nn, Bb.room, fun i hi hk => ?_, ?_⟩ (Same.upd' s35 (s35.free hT))
        · rw [upd_ne (ne_of_none (s5 _ _ e4) hT)]
          exact s5 _ _ e4
        · rw [upd_ne (ne_of_none e5 hT)]
          exact e5
        · rw [Bool.or_eq_false_iff] at hk
          exact Bb.full i hi hi hk.1 hk.2
        · rw [Bb.cost pok F]
          exact worth_fit F fo.nn cut
end
end SA

set_option Elab.async false
set_option linter.all false
set_option maxRecDepth 100000
set_option maxHeartbeats 4000000
namespace SA
open PySem PySem.Spec PyProof.Rows L2 K83 M57
/-! ### sums and slices of a list or a tuple -/
theorem sum_tup {prog : Program} {w : World} {A : Around} {E : Value → Shared → Prop} {s : Shared} {l : Addr} {its : List Value} {ns : List Int} {Q : Value → Shared → Prop} (hh : A.handled = none) (hl : s.heap.IsTuple l its.toArray) (hi : IntsAre its ns)
    (h : ∀ (h' : Heap) (tk : Nat) (t' : Tok), (∀ (b : Addr) (o : Obj), s.heap.get? b = some o → h'.get? b = some o) → Q (.int ns.sum t') { heap := h', gens := s.gens, drawn := s.drawn, toks := tk, os := s.os }) :
    wpAny (model prog w) A (call (.builtin "sum") [.ref l]) Q E s := by
  obtain ⟨xs, e⟩ := hi.allInts.items
  have hn : numsOf its.toArray.toList = ns := hi.numsOf
  rw [e] at hn
  have hl := e ▸ hl
  have hlt : l < s.heap.objs.size := by
    obtain ⟨w, e, _⟩ := hl
    exact Heap.lt_size e
  refine call_sum_walkG (wpAny_pyIter_tuple hl ?_)
  refine ⟨s.heap.objs.size, [s.heap.objs.size, l], [s.heap.objs.size], _, _, _, numAt xs, rfl, Walks.tuple (A := A.in1) hh s.heap.objs.size l (Nat.ne_of_lt hlt) (intItems xs), ⟨?_, hl.push _⟩, ?_, fun i v => intItems_at, fun h' tk t' hk => ?_⟩
  · exact ⟨_, Heap.get?_push_size s.1 rfl, rfl, rfl⟩
  · intro b hb
    show b < (s.heap.push _).objs.size
    rw [Heap.size_push]
    rcases List.mem_cons.mp hb with rfl | hb
    · exact Nat.lt_succ_self _
    · rw [List.mem_singleton.mp hb]
      exact Nat.lt_succ_of_lt hlt
  · have := h h' tk t' (fun b o e => hk b o (by simp; exact Nat.ne_of_lt (Heap.lt_size e)) (Heap.get?_push_of_some _ e))
    have es : (intItems xs).size = xs.size := Array.size_map
    rw [es, preSum_eq, List.take_of_length_le (by rw [List.length_map]; exact Nat.le_refl _), ← nums_intItems, hn]
    exact this
def rSumQ (K : PySem.W.Frag) : List V → Hp → VK → Prop := fun vs H Q => ∃ (a : Addr) (ns : List Int), vs = [.ref a] ∧ (SqL K H a (ns.map V.int) ∨ SqT K H a (ns.map V.int)) ∧ Q (.int ns.sum) H
theorem cr_sumQ {X : Cx} (hc : X.calm = true) : CallR X (.builtin "sum") (rSumQ X.K) := by
  intro pins s σ H vs us Q I r h
  obtain ⟨a, ns, rfl, hs, q⟩ := h
  rcases hs with hs | hs
  · exact cr_sum hc pins s σ H _ us Q I r ⟨a, ns, rfl, hs, q⟩
  · obtain ⟨its, rv, hl, _⟩ := I.tuple hs
    rw [Vals.ref1 r]
    exact sum_tup (I.ok.hd hc) hl rv.ints fun h' tk t' hk => ⟨.int ns.sum, H, I.kept hk, ⟨t', rfl⟩, q⟩
def rSlQ (K : PySem.W.Frag) : V → Option Int → Option Int → Hp → VK → Prop := fun x lo hi H Q => ∃ (tt : Bool) (a : Addr) (xs : List V), x = .ref a ∧ H a = some (sqO tt xs) ∧ ∀ (p : Addr) (H' : Hp), H' p = some (sqO tt (cutV xs lo hi)) → Same H H' → Q (.ref p) H'
theorem cut_all {xs : List V} {lo hi : Option Int} (h1 : HT.sIx xs.length 0 lo = 0) (h2 : HT.sIx xs.length xs.length hi = xs.length) : cutV xs lo hi = xs := by
  unfold cutV
  rw [h1, h2]
  simp
theorem sl_seq {X : Cx} : SlR X (rSlQ X.K) := by
  intro pins s σ H x v vl vu lo hi sl Q I rx hs pl pu h
  obtain ⟨tt, a, xs, rfl, e, q⟩ := h
  cases tt with
  | true =>
    refine sl_tupA pins s σ H _ v vl vu lo hi sl Q I rx hs pl pu ⟨a, xs, rfl, SqT.of e, fun h => ?_, fun _ p hp => q p _ upd_same (Same.new hp)⟩
    exact q a H (by rw [cut_all h.1 h.2]; exact e) fun b o e => e
  | false => exact sl_list pins s σ H _ v vl vu lo hi sl Q I rx hs pl pu ⟨a, xs, rfl, SqL.of e, fun p hp => q p _ upd_same (Same.new hp)⟩
end SA

set_option Elab.async false
set_option linter.all false
set_option maxRecDepth 100000
set_option maxHeartbeats 4000000
namespace M57
/-! ### prices in a list -/
def PL (ps : List Int) (y : Nat) : Int := (ps[y]?).getD 0
theorem sum_take (ps : List Int) : ∀ m : Nat, (ps.take m).sum = sumTo (PL ps) m
  | 0 => rfl
  | m + 1 => by
    rw [List.take_add_one, List.sum_append, sum_take ps m]
    show _ = sumTo (PL ps) m + PL ps m
    unfold PL
    cases ps[m]? <;> simp
theorem Sm_diff (P : Nat → Int) {f l : Nat} (h : f ≤ l + 1) : ∀ n : Nat, Sm P n f l = sumTo P (min (l + 1) n) - sumTo P (min f n)
  | 0 => by simp [Sm, sumTo]
  | n + 1 => by
    have ih := Sm_diff P h n
    show Sm P n f l + (if f ≤ n ∧ n ≤ l then P n else 0) = _
    rw [ih]
    by_cases c1 : n < f
    · rw [if_neg (by omega), show min (l + 1) (n + 1) = min f (n + 1) by omega, show min (l + 1) n = min f n by omega]
      omega
    · by_cases c2 : n ≤ l
      · rw [if_pos (by omega), show min (l + 1) (n + 1) = n + 1 by omega, show min f (n + 1) = f by omega, show min (l + 1) n = n by omega, show min f n = f by omega]
        show _ = sumTo P n + P n - _
        omega
      · rw [if_neg (by omega), show min (l + 1) (n + 1) = min (l + 1) n by omega, show min f (n + 1) = min f n by omega]
        omega
theorem sum_cut (ps : List Int) {f l : Nat} (h : f ≤ l + 1) : ((ps.drop (min f ps.length)).take (min (l + 1) ps.length - min f ps.length)).sum = Sm (PL ps) ps.length f l := by
  rw [Sm_diff _ h, ← sum_take, ← sum_take]
  have e : min (l + 1) ps.length = min f ps.length + (min (l + 1) ps.length - min f ps.length) := by omega
  have e2 : (ps.take (min (l + 1) ps.length)).sum = (ps.take (min f ps.length)).sum + ((ps.drop (min f ps.length)).take (min (l + 1) ps.length - min f ps.length)).sum := by
    rw [← List.sum_append, ← List.take_add, ← e]
  omega
theorem sum_all (ps : List Int) : ps.sum = sumTo (PL ps) ps.length := by
  rw [← sum_take, List.take_length]
end M57
namespace SA
open PySem PySem.Spec PyProof.Rows L2 K83 M57
theorem cutV_ints (ps : List Int) (f h : Nat) : cutV (ps.map V.int) (some (f : Int)) (some (h : Int)) = ((ps.drop (min f ps.length)).take (min h ps.length - min f ps.length)).map V.int := by
  unfold cutV
  rw [HT.sIx_nat, HT.sIx_nat, List.length_map, List.map_take, List.map_drop]
section
variable {P : Program} {w0 : World} {K : PySem.W.Frag} {mg : Str → Option Value} {base : Heap} {C : Addr}
def spWorthOf : Sp := fun vs H Q _ => ∃ (sa pa : Addr) (R : Nat) (tt tp : Bool) (ss : List Spn) (sas : List Addr) (ps : List Int), vs = [.ref sa, .int (R : Nat), .ref pa] ∧ H sa = some (sqO tt (sas.map V.ref)) ∧ Objs spO H sas ss ∧ (∀ q ∈ ss, q.f ≤ q.l) ∧ H pa = some (sqO tp (ps.map V.int)) ∧ R ≤ 20 ∧
  ∀ H', Same H H' → Q (.int (M57.worth (pb ss (LL ss)) (PL ps) ps.length R)) H'
theorem ok_worth_of {f : Addr} {fd : FuncData} (F : Fun K "worth_of" "worth_of" s_worth_of f fd) (B : Bn7 mg) : FnOk P w0 K mg base CX0 1 f fd ["spans", "room", "prices"] spWorthOf := by
  refine F.ok sc_worth_of (fun vs H Q E h => ?_) (fun cdv A outer s H vs Q E hr h => ?_)
  · obtain ⟨sa, pa, R, tt, tp, ss, sas, ps, rfl, _⟩ := h
    rfl
  · obtain ⟨sa, pa, R, tt, tp, ss, sas, ps, rfl, esa, so, hfl, epa, hR, q⟩ := h
    refine ⟨_, (pss_cons (ps_set (i := 3) sc_worth_of.nd rfl (Or.inl rfl) (pe_op op_sub pe_int (pe_op op_mul (pv 1) (pe_callB (cr_sumQ rfl) (by rfl) B.sum (by decide +kernel) (pa_cons (pv 2) pa_nil)))))
      (pss_cons (ps_for PassesOwn.never rfl (pi_sq tt (pv 0)) (pg_tup (by rfl) (pgs_cons (pg_name (i := 4) sc_worth_of.nd rfl (Or.inl rfl)) (pgs_cons (pg_name (i := 5) sc_worth_of.nd rfl (Or.inl rfl)) (pgs_cons (pg_name (i := 6) sc_worth_of.nd rfl (Or.inl rfl)) pgs_nil)))) (pss_cons (ps_set (i := 7) sc_worth_of.nd rfl (Or.inl rfl) (pe_callB (cr_sumQ rfl) (by rfl) B.sum (by decide +kernel) (pa_cons (pe_slice sl_seq (pv 2) (po_some (pv 4)) (po_some (pe_op op_add (pv 5) pe_int))) pa_nil)))
      (pss_one (ps_aug (i := 3) sc_worth_of.nd rfl (Or.inl rfl) (pe_callB (call_min2 rfl) (by rfl) B.min (by decide +kernel) (pa_cons (pv 7) (pa_cons (pv 6) pa_nil))) ip_add))))
      (pss_one (ps_ret (pv 3))))), ?_⟩
    have el : (sas.map V.ref).length = ss.length := by rw [List.length_map, so.len]
    refine ⟨_, rfl, _, rfl, pa, ps, rfl, Sq.or epa, _, _, rfl, rfl, .inl ⟨by omega, by omega⟩, _, _, rfl, rfl, ?_⟩
    refine iSq_v rfl esa (for_it (walk_sq (xs := sas.map V.ref)) (fun i σ H' => (∃ y4 y5 y6 y7, σ = [some (.ref sa), some (.int (R : Nat)), some (.ref pa), some (.int (0 - (R : Nat) * ps.sum + sumTo (fun i => min (Sm (PL ps) ps.length ((pb ss (LL ss)).f i) ((pb ss (LL ss)).l i)) ((pb ss (LL ss)).c i)) i)), y4, y5, y6, y7]) ∧ Same H H') ⟨⟨none, none, none, none, ?_⟩, fun b y e => e⟩ (fun i σ H' _ h => h.2 _ _ esa) ?_ ?_)
    · show [some (V.ref sa), some (.int (R : Nat)), some (.ref pa), some (.int (0 - (R : Nat) * ps.sum)), none, none, none, none] = [some (V.ref sa), some (.int (R : Nat)), some (.ref pa), some (.int (0 - (R : Nat) * ps.sum + 0)), none, none, none, none]
      rw [Int.add_zero]
    · rintro i v σ H2 H3 hi ⟨⟨y4, y5, y6, y7, rfl⟩, s2⟩ ⟨rfl, hv⟩
      obtain ⟨g, b, hg, rfl, hb, eb⟩ := (so.same s2).get' hv
      obtain ⟨p1, p2, p3⟩ := pb_at (L := LL ss) hg
      have fl := hfl g (List.mem_of_getElem? hg)
      refine ⟨b, _, rfl, SqT.of eb, rfl, _, _, rfl, _, _, rfl, _, _, rfl, rfl, _, rfl, _, rfl, _, rfl, _, rfl, _, _, rfl, rfl, _, rfl, tp, pa, _, rfl, s2 _ _ epa, fun d H4 e4 s4 => ?_⟩
      rw [show ((g.l : Nat) : Int) + 1 = ((g.l + 1 : Nat) : Int) by omega, cutV_ints] at e4
      have es := sum_cut ps (show g.f ≤ g.l + 1 by omega)
      refine ⟨d, _, rfl, Sq.or e4, _, rfl, _, rfl, _, rfl, _, _, rfl, _, _, rfl, rfl, ⟨some (.int (g.f : Nat)), some (.int (g.l : Nat)), some (.int g.c), some (.int (Sm (PL ps) ps.length g.f g.l)), ?_⟩, s2.trans s4⟩
      rw [es]
      show [some (V.ref sa), some (.int (R : Nat)), some (.ref pa), some (.int (_ + (if g.c < Sm (PL ps) ps.length g.f g.l then g.c else Sm (PL ps) ps.length g.f g.l))), some (.int (g.f : Nat)), some (.int (g.l : Nat)), some (.int g.c), some (.int (Sm (PL ps) ps.length g.f g.l))] = [some (V.ref sa), some (.int (R : Nat)), some (.ref pa), some (.int (_ + (_ + min (Sm (PL ps) ps.length ((pb ss (LL ss)).f i) ((pb ss (LL ss)).l i)) ((pb ss (LL ss)).c i)))), some (.int (g.f : Nat)), some (.int (g.l : Nat)), some (.int g.c), some (.int (Sm (PL ps) ps.length g.f g.l))]
      rw [p1, p2, p3, ← Int.add_assoc, show min (Sm (PL ps) ps.length g.f g.l) g.c = if g.c < Sm (PL ps) ps.length g.f g.l then g.c else Sm (PL ps) ps.length g.f g.l by split <;> omega]
    · rintro σ H2 ⟨⟨y4, y5, y6, y7, rfl⟩, s2⟩
      refine ⟨_, rfl, ?_⟩
      have := q H2 s2
      unfold M57.worth at this
      rw [← sum_all, show (pb ss (LL ss)).n = ss.length from rfl] at this
      rw [el, show ∀ a : Int, 0 - (R : Int) * ps.sum + a = a - (R : Int) * ps.sum from fun a => by omega]
      exact this
end
end SA

set_option Elab.async false
set_option linter.all false
set_option maxRecDepth 100000
set_option maxHeartbeats 4000000
namespace SA
open PySem PySem.Spec PyProof.Rows L2 K83 M57
/-- a value's kind, that stays -/
def KdS (K : PySem.W.Frag) (H : Hp) (x : V) (t : String) : Prop := ∀ H', Same H H' → Kd K H' x t
theorem KdS.now {K : PySem.W.Frag} {H : Hp} {x : V} {t : String} (h : KdS K H x t) : Kd K H x t := h H (Same.refl H)
theorem KdS.same {K : PySem.W.Frag} {H H' : Hp} (s : Same H H') {x : V} {t : String} (h : KdS K H x t) : KdS K H' x t := fun H2 s2 => h H2 (s.trans s2)
/-- no span -/
inductive BadS (K : PySem.W.Frag) (H : Hp) : V → Prop
  | kind {x : V} {t : String} (hk : KdS K H x t) (ht : t ≠ "tuple") : BadS K H x
  | len {b : Addr} {ys : List V} (h : H b = some (.tup ys)) (hn : ys.length ≠ 3) : BadS K H (.ref b)
  | m1 {b : Addr} {u m c : V} {t : String} (h : H b = some (.tup [u, m, c])) (hk : KdS K H m t) (ht : t ≠ "int") : BadS K H (.ref b)
  | m2 {b : Addr} {u c : V} {m : Int} (h : H b = some (.tup [u, .int m, c])) (hm : ¬ (0 ≤ m ∧ m ≤ 999)) : BadS K H (.ref b)
  | f1 {b : Addr} {u c : V} {m : Int} {t : String} (h : H b = some (.tup [u, .int m, c])) (hm : 0 ≤ m ∧ m ≤ 999) (hk : KdS K H u t) (ht : t ≠ "int") : BadS K H (.ref b)
  | f2 {b : Addr} {c : V} {u m : Int} (h : H b = some (.tup [.int u, .int m, c])) (hm : 0 ≤ m ∧ m ≤ 999) (hu : ¬ (0 ≤ u ∧ u ≤ m)) : BadS K H (.ref b)
  | c1 {b : Addr} {c : V} {u m : Int} {t : String} (h : H b = some (.tup [.int u, .int m, c])) (hm : 0 ≤ m ∧ m ≤ 999) (hu : 0 ≤ u ∧ u ≤ m) (hk : KdS K H c t) (ht : t ≠ "int") : BadS K H (.ref b)
  | c2 {b : Addr} {c u m : Int} (h : H b = some (.tup [.int u, .int m, .int c])) (hm : 0 ≤ m ∧ m ≤ 999) (hu : 0 ≤ u ∧ u ≤ m) (hc : c < 0) : BadS K H (.ref b)
theorem BadS.same {K : PySem.W.Frag} {H H' : Hp} (s : Same H H') {x : V} (h : BadS K H x) : BadS K H' x := by
  cases h with
  | kind hk ht => exact .kind (hk.same s) ht
  | len h hn => exact .len (s _ _ h) hn
  | m1 h hk ht => exact .m1 (s _ _ h) (hk.same s) ht
  | m2 h hm => exact .m2 (s _ _ h) hm
  | f1 h hm hk ht => exact .f1 (s _ _ h) hm (hk.same s) ht
  | f2 h hm hu => exact .f2 (s _ _ h) hm hu
  | c1 h hm hu hk ht => exact .c1 (s _ _ h) hm hu (hk.same s) ht
  | c2 h hm hu hc => exact .c2 (s _ _ h) hm hu hc
def GoodS (q : Spn) : Prop := q.f ≤ q.l ∧ q.l ≤ 999 ∧ 0 ≤ q.c
section
variable {P : Program} {w0 : World} {K : PySem.W.Frag} {mg : Str → Option Value} {base : Heap} {C : Addr} {BS fI : Addr} {fdI : FuncData}
def spCkS (K : PySem.W.Frag) (BS : Addr) : Sp := fun vs H Q E => ∃ (x : V), vs = [x] ∧
  ((∃ t, KdS K H x t ∧ t ≠ "list" ∧ t ≠ "tuple" ∧ RaiseF BS "at" .non H E) ∨ (∃ (a : Addr) (xs : List V), x = .ref a ∧ H a = some (.lst xs) ∧ 400 < xs.length ∧ RaiseF BS "at" .non H E) ∨
  ∃ (a : Addr) (tt : Bool) (xs : List V) (ss : List Spn) (sas : List Addr), x = .ref a ∧ H a = some (sqO tt xs) ∧ xs.length ≤ 400 ∧ xs.take ss.length = sas.map V.ref ∧ Objs spO H sas ss ∧ (∀ q ∈ ss, GoodS q) ∧
    ((xs.length = ss.length ∧ ∀ H', Same H H' → Q .non H') ∨ (∃ v, xs[ss.length]? = some v ∧ BadS K H v ∧ RaiseF BS "at" (.int (ss.length : Nat)) H E)))
theorem ok_check_spans {f : Addr} {fd : FuncData} (F : Fun K "_check_spans" "_check_spans" s__check_spans f fd) (B : Bn7 mg) (SP : Cl1 P w0 K mg base "BadSpans" "at" BS fI fdI) (mS : ∃ t, mg "MOST_SPANS" = some (.int 400 t)) (mP : ∃ t, mg "MOST_POSITION" = some (.int 999 t)) (c_is_list : Dq P w0 K mg base CX0 1 "is_list" ["thing"] (spIsList K))
    (c_is_tuple_of : Dq P w0 K mg base CX0 1 "is_tuple_of" ["thing", "many"] (spTupOf K)) (c_is_number : Dq P w0 K mg base CX0 1 "is_number" ["thing"] (spIsNum K)) (c_is_number_between : Dq P w0 K mg base CX0 2 "is_number_between" ["thing", "low", "high"] (spNumB K)) :
    FnOk P w0 K mg base (L2.CX P w0) 3 f fd ["spans"] (spCkS K BS) := by
  obtain ⟨tS, mS⟩ := mS
  obtain ⟨tP, mP⟩ := mP
  refine F.okX sc__check_spans (fun vs H Q E h => ?_) (fun cdv A outer s H vs Q E hr hh => ?_)
  · obtain ⟨x, rfl, _⟩ := h
    rfl
  · obtain ⟨x, rfl, hh⟩ := hh
    rcases hh with ⟨t, hk, n1, n2, q⟩ | ⟨a, xs, rfl, ea, hl, q⟩ | ⟨a, tt, xs, ss, sas, rfl, ea, hl, htk, so, good, qq⟩
    · let tt := false
      refine ⟨_, (pss_cons (ps_if (PW.pt (pw_or (pt_not (pt_val (pe_q c_is_list hr (by decide) (by rfl) (pa_cons (pv 0) pa_nil)))) (pw_or1 (pt_cmpR op_gt (pe_callB call_len_seq (by rfl) B.len PySem.boot_len (pa_cons (pv 0) pa_nil)) (pe_glob (v := .int 400) (by rfl) mS ⟨_, rfl⟩) (nomark _))))) (pss_one (ps_raise rfl (takes_of rfl rfl rfl rfl) (pmk_oex SP.o.oex SP.o.init SP.o.fn SP.G hr SP.b .nil pass0 (by rfl) SP.g (pa_cons pe_non pa_nil)))) pss_nil)
      (pss_one (ps_for (passes_of rfl) rfl (pi_enumQ tt (by rfl) B.enumerate (pa_cons (pv 0) pa_nil)) (pg_tup (by rfl) (pgs_cons (pg_name (i := 1) sc__check_spans.nd rfl (Or.inl rfl)) (pgs_cons (pg_name (i := 2) sc__check_spans.nd rfl (Or.inl rfl)) pgs_nil))) (pss_cons (ps_if (PW.pt (pw_or (pt_not (pt_val (pe_q c_is_tuple_of hr (by decide) (by rfl) (pa_cons (pv 2) (pa_cons pe_int pa_nil))))) (pw_or1 (pt_not (pt_val (pe_q c_is_number_between hr (by decide) (by rfl) (pa_cons (pe_ix ix_tup (pv 2) pe_int (fun _ _ => rfl)) (pa_cons pe_int (pa_cons (pe_glob (v := .int 999) (by rfl) mP ⟨_, rfl⟩) pa_nil))))))))) (pss_one (ps_raise rfl (takes_of rfl rfl rfl rfl) (pmk_oex SP.o.oex SP.o.init SP.o.fn SP.G hr SP.b .nil pass0 (by rfl) SP.g (pa_cons (pv 1) pa_nil)))) pss_nil)
      (pss_one (ps_if (PW.pt (pw_or (pt_not (pt_val (pe_q c_is_number_between hr (by decide) (by rfl) (pa_cons (pe_ix ix_tup (pv 2) pe_int (fun _ _ => rfl)) (pa_cons pe_int (pa_cons (pe_ix ix_tup (pv 2) pe_int (fun _ _ => rfl)) pa_nil)))))) (pw_or (pt_not (pt_val (pe_q c_is_number hr (by decide) (by rfl) (pa_cons (pe_ix ix_tup (pv 2) pe_int (fun _ _ => rfl)) pa_nil)))) (pw_or1 (pt_cmpR op_lt (pe_ix ix_tup (pv 2) pe_int (fun _ _ => rfl)) pe_int (nomark _)))))) (pss_one (ps_raise rfl (takes_of rfl rfl rfl rfl) (pmk_oex SP.o.oex SP.o.init SP.o.fn SP.G hr SP.b .nil pass0 (by rfl) SP.g (pa_cons (pv 1) pa_nil)))) pss_nil)))))), ?_⟩
      refine ⟨_, rfl, x, t, rfl, fun H1 s1 => ⟨(hk.same s1).now, _, rfl, iteTd ?_ (iteT (raiseF (fun R r => r) (q.of s1)))⟩⟩
      rw [decide_eq_false n1, decide_eq_false n2]
      rfl
    · let tt := false
      refine ⟨_, (pss_cons (ps_if (PW.pt (pw_or (pt_not (pt_val (pe_q c_is_list hr (by decide) (by rfl) (pa_cons (pv 0) pa_nil)))) (pw_or1 (pt_cmpR op_gt (pe_callB call_len_seq (by rfl) B.len PySem.boot_len (pa_cons (pv 0) pa_nil)) (pe_glob (v := .int 400) (by rfl) mS ⟨_, rfl⟩) (nomark _))))) (pss_one (ps_raise rfl (takes_of rfl rfl rfl rfl) (pmk_oex SP.o.oex SP.o.init SP.o.fn SP.G hr SP.b .nil pass0 (by rfl) SP.g (pa_cons pe_non pa_nil)))) pss_nil)
      (pss_one (ps_for (passes_of rfl) rfl (pi_enumQ tt (by rfl) B.enumerate (pa_cons (pv 0) pa_nil)) (pg_tup (by rfl) (pgs_cons (pg_name (i := 1) sc__check_spans.nd rfl (Or.inl rfl)) (pgs_cons (pg_name (i := 2) sc__check_spans.nd rfl (Or.inl rfl)) pgs_nil))) (pss_cons (ps_if (PW.pt (pw_or (pt_not (pt_val (pe_q c_is_tuple_of hr (by decide) (by rfl) (pa_cons (pv 2) (pa_cons pe_int pa_nil))))) (pw_or1 (pt_not (pt_val (pe_q c_is_number_between hr (by decide) (by rfl) (pa_cons (pe_ix ix_tup (pv 2) pe_int (fun _ _ => rfl)) (pa_cons pe_int (pa_cons (pe_glob (v := .int 999) (by rfl) mP ⟨_, rfl⟩) pa_nil))))))))) (pss_one (ps_raise rfl (takes_of rfl rfl rfl rfl) (pmk_oex SP.o.oex SP.o.init SP.o.fn SP.G hr SP.b .nil pass0 (by rfl) SP.g (pa_cons (pv 1) pa_nil)))) pss_nil)
      (pss_one (ps_if (PW.pt (pw_or (pt_not (pt_val (pe_q c_is_number_between hr (by decide) (by rfl) (pa_cons (pe_ix ix_tup (pv 2) pe_int (fun _ _ => rfl)) (pa_cons pe_int (pa_cons (pe_ix ix_tup (pv 2) pe_int (fun _ _ => rfl)) pa_nil)))))) (pw_or (pt_not (pt_val (pe_q c_is_number hr (by decide) (by rfl) (pa_cons (pe_ix ix_tup (pv 2) pe_int (fun _ _ => rfl)) pa_nil)))) (pw_or1 (pt_cmpR op_lt (pe_ix ix_tup (pv 2) pe_int (fun _ _ => rfl)) pe_int (nomark _)))))) (pss_one (ps_raise rfl (takes_of rfl rfl rfl rfl) (pmk_oex SP.o.oex SP.o.init SP.o.fn SP.G hr SP.b .nil pass0 (by rfl) SP.g (pa_cons (pv 1) pa_nil)))) pss_nil)))))), ?_⟩
      refine ⟨_, rfl, .ref a, "list", rfl, fun H1 s1 => ⟨.lst (.base (.lst (s1 _ _ ea))), _, rfl, iteFd (by decide) ⟨_, rfl, a, _, rfl, .inl (SqL.of (s1 _ _ ea)), _, _, rfl, rfl, _, rfl, ?_⟩⟩⟩
      rw [decide_eq_true (by omega)]
      exact iteT (raiseF (fun R r => r) (q.of s1))
    · refine ⟨_, (pss_cons (ps_if (PW.pt (pw_or (pt_not (pt_val (pe_q c_is_list hr (by decide) (by rfl) (pa_cons (pv 0) pa_nil)))) (pw_or1 (pt_cmpR op_gt (pe_callB call_len_seq (by rfl) B.len PySem.boot_len (pa_cons (pv 0) pa_nil)) (pe_glob (v := .int 400) (by rfl) mS ⟨_, rfl⟩) (nomark _))))) (pss_one (ps_raise rfl (takes_of rfl rfl rfl rfl) (pmk_oex SP.o.oex SP.o.init SP.o.fn SP.G hr SP.b .nil pass0 (by rfl) SP.g (pa_cons pe_non pa_nil)))) pss_nil)
      (pss_one (ps_for (passes_of rfl) rfl (pi_enumQ tt (by rfl) B.enumerate (pa_cons (pv 0) pa_nil)) (pg_tup (by rfl) (pgs_cons (pg_name (i := 1) sc__check_spans.nd rfl (Or.inl rfl)) (pgs_cons (pg_name (i := 2) sc__check_spans.nd rfl (Or.inl rfl)) pgs_nil))) (pss_cons (ps_if (PW.pt (pw_or (pt_not (pt_val (pe_q c_is_tuple_of hr (by decide) (by rfl) (pa_cons (pv 2) (pa_cons pe_int pa_nil))))) (pw_or1 (pt_not (pt_val (pe_q c_is_number_between hr (by decide) (by rfl) (pa_cons (pe_ix ix_tup (pv 2) pe_int (fun _ _ => rfl)) (pa_cons pe_int (pa_cons (pe_glob (v := .int 999) (by rfl) mP ⟨_, rfl⟩) pa_nil))))))))) (pss_one (ps_raise rfl (takes_of rfl rfl rfl rfl) (pmk_oex SP.o.oex SP.o.init SP.o.fn SP.G hr SP.b .nil pass0 (by rfl) SP.g (pa_cons (pv 1) pa_nil)))) pss_nil)
      (pss_one (ps_if (PW.pt (pw_or (pt_not (pt_val (pe_q c_is_number_between hr (by decide) (by rfl) (pa_cons (pe_ix ix_tup (pv 2) pe_int (fun _ _ => rfl)) (pa_cons pe_int (pa_cons (pe_ix ix_tup (pv 2) pe_int (fun _ _ => rfl)) pa_nil)))))) (pw_or (pt_not (pt_val (pe_q c_is_number hr (by decide) (by rfl) (pa_cons (pe_ix ix_tup (pv 2) pe_int (fun _ _ => rfl)) pa_nil)))) (pw_or1 (pt_cmpR op_lt (pe_ix ix_tup (pv 2) pe_int (fun _ _ => rfl)) pe_int (nomark _)))))) (pss_one (ps_raise rfl (takes_of rfl rfl rfl rfl) (pmk_oex SP.o.oex SP.o.init SP.o.fn SP.G hr SP.b .nil pass0 (by rfl) SP.g (pa_cons (pv 1) pa_nil)))) pss_nil)))))), ?_⟩
      refine ⟨_, rfl, .ref a, (if tt then "tuple" else "list"), rfl, fun H1 s1 => ⟨?_, _, rfl, iteFd ?_ ⟨_, rfl, a, _, rfl, Sq.or (s1 _ _ ea), _, _, rfl, rfl, _, rfl, ?_⟩⟩⟩
      · cases tt with
        | true => exact .tup (.base (.tup (s1 _ _ ea)))
        | false => exact .lst (.base (.lst (s1 _ _ ea)))
      · cases tt <;> decide
      rw [decide_eq_false (by omega)]
      refine iteFd rfl ?_
      have hlen : sas.length = ss.length := so.len
      have hle : ss.length ≤ xs.length := by
        have h1 := congrArg List.length htk
        rw [List.length_take, List.length_map] at h1
        omega
      refine iEnumQ_v rfl (s1 _ _ ea) (for_it (walk_enumQ (xs := xs)) (fun i σ H' => (∃ y1 y2, σ = [some (.ref a), y1, y2]) ∧ Same H1 H' ∧ i ≤ ss.length) ⟨⟨_, _, rfl⟩, Same.refl _, Nat.zero_le _⟩ (fun i σ H' _ z => z.2.1 _ _ (s1 _ _ ea)) ?_ ?_)
      · rintro i v σ H2 H3 hi ⟨⟨y1, y2, rfl⟩, s2, hik⟩ ⟨T, y, x, rfl, hT, rfl, hy, hx⟩
        obtain rfl : y = .int (i : Nat) := (Option.some.inj hy).symm
        have s3 : Same H1 (upd H2 T (.tup [.int (i : Nat), x])) := Same.upd' s2 (s2.free hT)
        have hx : xs[i]? = some x := hx
        refine ⟨T, _, rfl, SqT.of upd_same, rfl, _, _, rfl, _, _, rfl, rfl, ?_⟩
        generalize upd H2 T (.tup [.int (i : Nat), x]) = H4 at s3
        have s4 : Same H H4 := s1.trans s3
        by_cases c : i < ss.length
        · have hx2 : (sas.map V.ref)[i]? = some x := by rw [← htk, List.getElem?_take_of_lt c, hx]
          obtain ⟨g, b, hg, rfl, hb, eb⟩ := (so.same s4).get' hx2
          obtain ⟨g1, g2, g3⟩ := good g (List.mem_of_getElem? hg)
          have i0 := atI_nat (xs := [V.int (g.f : Nat), .int (g.l : Nat), .int g.c]) (j := 0) rfl
          have i1 := atI_nat (xs := [V.int (g.f : Nat), .int (g.l : Nat), .int g.c]) (j := 1) rfl
          have i2 := atI_nat (xs := [V.int (g.f : Nat), .int (g.l : Nat), .int g.c]) (j := 2) rfl
          refine ⟨_, rfl, _, 3, rfl, .inl ⟨b, _, rfl, eb, _, rfl, iteFd rfl ?_⟩⟩
          refine ⟨_, rfl, b, _, _, _, rfl, rfl, SqT.of eb, i1, .int (g.l : Nat), "int", 0, 999, rfl, .int _, fun k hk => ?_, fun h => absurd rfl h⟩
          cases hk
          rw [decide_eq_true (by omega)]
          refine ⟨_, rfl, iteFd rfl ?_⟩
          refine ⟨_, rfl, b, _, _, _, rfl, rfl, SqT.of eb, i0, _, rfl, b, _, _, _, rfl, rfl, SqT.of eb, i1, .int (g.f : Nat), "int", 0, (g.l : Nat), rfl, .int _, fun k hk => ?_, fun h => absurd rfl h⟩
          cases hk
          rw [decide_eq_true (by omega)]
          refine ⟨_, rfl, iteFd rfl ?_⟩
          refine ⟨_, rfl, b, _, _, _, rfl, rfl, SqT.of eb, i2, .int g.c, "int", rfl, .int _, _, rfl, iteFd rfl ?_⟩
          refine ⟨_, rfl, b, _, _, _, rfl, rfl, SqT.of eb, i2, _, _, rfl, rfl, _, rfl, ?_⟩
          rw [decide_eq_false (by omega)]
          exact iteFd rfl ⟨⟨_, _, rfl⟩, s3, c⟩
        · have ei : i = ss.length := by omega
          obtain ⟨v, hv, bad, q⟩ : ∃ v, xs[ss.length]? = some v ∧ BadS K H v ∧ RaiseF BS "at" (.int (ss.length : Nat)) H E := by
            rcases qq with ⟨e, _⟩ | h
            · omega
            · exact h
          subst ei
          rw [hx] at hv
          cases hv
          have rz : ∀ {H5 : Hp}, Same H4 H5 → RaiseF BS "at" (.int (ss.length : Nat)) H5 E := fun s5 => q.of (s4.trans s5)
          have ix3 : ∀ {a b c : V}, (([a, b, c] : List V)[0]? = some a) ∧ (([a, b, c] : List V)[1]? = some b) ∧ (([a, b, c] : List V)[2]? = some c) := ⟨rfl, rfl, rfl⟩
          have bad4 := bad.same s4
          cases bad4 with
          | kind hk ht => exact ⟨_, rfl, x, 3, rfl, .inr ⟨_, hk.now, ht, _, rfl, iteTd rfl (iteT (raiseF (fun R r => ⟨_, rfl, r⟩) (rz (Same.refl _))))⟩⟩
          | @len b ys h hn =>
            refine ⟨_, rfl, _, 3, rfl, .inl ⟨b, _, rfl, h, _, rfl, iteTd ?_ (iteT (raiseF (fun R r => ⟨_, rfl, r⟩) (rz (Same.refl _))))⟩⟩
            rw [decide_eq_false (by omega)]
            rfl
          | @m1 b u m c t h hk ht =>
            refine ⟨_, rfl, _, 3, rfl, .inl ⟨b, _, rfl, h, _, rfl, iteFd rfl ?_⟩⟩
            refine ⟨_, rfl, b, _, _, _, rfl, rfl, SqT.of h, atI_nat (j := 1) rfl, m, t, 0, 999, rfl, hk.now, fun k hk2 => ?_, fun _ => ⟨_, rfl, iteTd rfl (raiseF (fun R r => ⟨_, rfl, r⟩) (rz (Same.refl _)))⟩⟩
            subst hk2
            exact absurd (by cases hk.now; rfl) ht
          | @m2 b u c m h hm =>
            refine ⟨_, rfl, _, 3, rfl, .inl ⟨b, _, rfl, h, _, rfl, iteFd rfl ?_⟩⟩
            refine ⟨_, rfl, b, _, _, _, rfl, rfl, SqT.of h, atI_nat (j := 1) rfl, .int m, "int", 0, 999, rfl, .int _, fun k hk => ?_, fun h => absurd rfl h⟩
            cases hk
            rw [decide_eq_false hm]
            exact ⟨_, rfl, iteTd rfl (raiseF (fun R r => ⟨_, rfl, r⟩) (rz (Same.refl _)))⟩
          | @f1 b u c m t h hm hk ht =>
            refine ⟨_, rfl, _, 3, rfl, .inl ⟨b, _, rfl, h, _, rfl, iteFd rfl ?_⟩⟩
            refine ⟨_, rfl, b, _, _, _, rfl, rfl, SqT.of h, atI_nat (j := 1) rfl, .int m, "int", 0, 999, rfl, .int _, fun k hk => ?_, fun h => absurd rfl h⟩
            cases hk
            rw [decide_eq_true hm]
            refine ⟨_, rfl, iteFd rfl ?_⟩
            refine ⟨_, rfl, b, _, _, _, rfl, rfl, SqT.of h, atI_nat (j := 0) rfl, _, rfl, b, _, _, _, rfl, rfl, SqT.of h, atI_nat (j := 1) rfl, u, t, 0, m, rfl, hk.now, fun k hk2 => ?_, fun _ => ⟨_, rfl, iteTd rfl (iteT (raiseF (fun R r => ⟨_, rfl, r⟩) (rz (Same.refl _))))⟩⟩
            subst hk2
            exact absurd (by cases hk.now; rfl) ht
          | @f2 b c u m h hm hu =>
            refine ⟨_, rfl, _, 3, rfl, .inl ⟨b, _, rfl, h, _, rfl, iteFd rfl ?_⟩⟩
            refine ⟨_, rfl, b, _, _, _, rfl, rfl, SqT.of h, atI_nat (j := 1) rfl, .int m, "int", 0, 999, rfl, .int _, fun k hk => ?_, fun h => absurd rfl h⟩
            cases hk
            rw [decide_eq_true hm]
            refine ⟨_, rfl, iteFd rfl ?_⟩
            refine ⟨_, rfl, b, _, _, _, rfl, rfl, SqT.of h, atI_nat (j := 0) rfl, _, rfl, b, _, _, _, rfl, rfl, SqT.of h, atI_nat (j := 1) rfl, .int u, "int", 0, m, rfl, .int _, fun k hk => ?_, fun h => absurd rfl h⟩
            cases hk
            rw [decide_eq_false hu]
            exact ⟨_, rfl, iteTd rfl (iteT (raiseF (fun R r => ⟨_, rfl, r⟩) (rz (Same.refl _))))⟩
          | @c1 b c u m t h hm hu hk ht =>
            refine ⟨_, rfl, _, 3, rfl, .inl ⟨b, _, rfl, h, _, rfl, iteFd rfl ?_⟩⟩
            refine ⟨_, rfl, b, _, _, _, rfl, rfl, SqT.of h, atI_nat (j := 1) rfl, .int m, "int", 0, 999, rfl, .int _, fun k hk => ?_, fun h => absurd rfl h⟩
            cases hk
            rw [decide_eq_true hm]
            refine ⟨_, rfl, iteFd rfl ?_⟩
            refine ⟨_, rfl, b, _, _, _, rfl, rfl, SqT.of h, atI_nat (j := 0) rfl, _, rfl, b, _, _, _, rfl, rfl, SqT.of h, atI_nat (j := 1) rfl, .int u, "int", 0, m, rfl, .int _, fun k hk => ?_, fun h => absurd rfl h⟩
            cases hk
            rw [decide_eq_true hu]
            refine ⟨_, rfl, iteFd rfl ?_⟩
            refine ⟨_, rfl, b, _, _, _, rfl, rfl, SqT.of h, atI_nat (j := 2) rfl, c, t, rfl, hk.now, _, rfl, iteTd ?_ (iteT (raiseF (fun R r => ⟨_, rfl, r⟩) (rz (Same.refl _))))⟩
            rw [decide_eq_false ht]
            rfl
          | @c2 b c u m h hm hu hc =>
            refine ⟨_, rfl, _, 3, rfl, .inl ⟨b, _, rfl, h, _, rfl, iteFd rfl ?_⟩⟩
            refine ⟨_, rfl, b, _, _, _, rfl, rfl, SqT.of h, atI_nat (j := 1) rfl, .int m, "int", 0, 999, rfl, .int _, fun k hk => ?_, fun h => absurd rfl h⟩
            cases hk
            rw [decide_eq_true hm]
            refine ⟨_, rfl, iteFd rfl ?_⟩
            refine ⟨_, rfl, b, _, _, _, rfl, rfl, SqT.of h, atI_nat (j := 0) rfl, _, rfl, b, _, _, _, rfl, rfl, SqT.of h, atI_nat (j := 1) rfl, .int u, "int", 0, m, rfl, .int _, fun k hk => ?_, fun h => absurd rfl h⟩
            cases hk
            rw [decide_eq_true hu]
            refine ⟨_, rfl, iteFd rfl ?_⟩
            refine ⟨_, rfl, b, _, _, _, rfl, rfl, SqT.of h, atI_nat (j := 2) rfl, .int c, "int", rfl, .int _, _, rfl, iteFd rfl ?_⟩
            refine ⟨_, rfl, b, _, _, _, rfl, rfl, SqT.of h, atI_nat (j := 2) rfl, _, _, rfl, rfl, _, rfl, ?_⟩
            rw [decide_eq_true hc]
            exact iteT (raiseF (fun R r => ⟨_, rfl, r⟩) (rz (Same.refl _)))
      · rintro σ H2 ⟨⟨y1, y2, rfl⟩, s2, hik⟩
        rcases qq with ⟨e, q⟩ | ⟨v, hv, _⟩
        · exact q H2 (s1.trans s2)
        · have := (List.getElem?_eq_some_iff.mp hv).1
          omega
end
end SA

set_option Elab.async false
set_option linter.all false
set_option maxRecDepth 100000
set_option maxHeartbeats 4000000
namespace SA
open PySem PySem.Spec PyProof.Rows L2 K83 M57
/-! ### what is handed in -/
def BadSp (K : PySem.W.Frag) (H : Hp) (x v : V) : Prop := (∃ t, KdS K H x t ∧ t ≠ "list" ∧ t ≠ "tuple" ∧ v = .non) ∨ (∃ (a : Addr) (xs : List V), x = .ref a ∧ H a = some (.lst xs) ∧ 400 < xs.length ∧ v = .non) ∨
  ∃ (a : Addr) (tt : Bool) (xs : List V) (ss : List Spn) (sas : List Addr), x = .ref a ∧ H a = some (sqO tt xs) ∧ xs.length ≤ 400 ∧ xs.take ss.length = sas.map V.ref ∧ Objs spO H sas ss ∧ (∀ q ∈ ss, GoodS q) ∧ ∃ y, xs[ss.length]? = some y ∧ BadS K H y ∧ v = .int (ss.length : Nat)
structure SpAt (H : Hp) (sa : Addr) (tt : Bool) (ss : List Spn) (sas : List Addr) : Prop where
  d : H sa = some (sqO tt (sas.map V.ref))
  o : Objs spO H sas ss
  g : ∀ q ∈ ss, GoodS q
  n : ss.length ≤ 400
theorem SpAt.same {H H' : Hp} {sa : Addr} {tt : Bool} {ss : List Spn} {sas : List Addr} (h : SpAt H sa tt ss sas) (s : Same H H') : SpAt H' sa tt ss sas := ⟨s _ _ h.d, h.o.same s, h.g, h.n⟩
theorem LL_le {m : Nat} : ∀ {ss : List Spn}, (∀ q ∈ ss, q.l < m) → LL ss ≤ m
  | [], _ => Nat.zero_le _
  | q :: l, h => by
    unfold LL
    have h1 := h q (by simp)
    have h2 := LL_le (ss := l) fun q hq => h q (List.mem_cons_of_mem _ hq)
    omega
theorem SpAt.ok {H : Hp} {sa : Addr} {tt : Bool} {ss : List Spn} {sas : List Addr} (h : SpAt H sa tt ss sas) : SsOk ss := ⟨by have := h.n; omega, LL_le fun q hq => by have := (h.g q hq).2.1; omega, fun q hq => (h.g q hq).1, fun q hq => (h.g q hq).2.2⟩
theorem ckS_bad {K : PySem.W.Frag} {BS : Addr} {H : Hp} {x v : V} {Q : VK} {E : XK} (h : BadSp K H x v) (r : RaiseF BS "at" v H E) : spCkS K BS [x] H Q E := by
  rcases h with ⟨t, hk, n1, n2, rfl⟩ | ⟨a, xs, rfl, ea, hl, rfl⟩ | ⟨a, tt, xs, ss, sas, rfl, ea, hl, htk, so, good, y, hy, bad, rfl⟩
  · exact ⟨x, rfl, .inl ⟨t, hk, n1, n2, r⟩⟩
  · exact ⟨_, rfl, .inr (.inl ⟨a, xs, rfl, ea, hl, r⟩)⟩
  · exact ⟨_, rfl, .inr (.inr ⟨a, tt, xs, ss, sas, rfl, ea, hl, htk, so, good, .inr ⟨y, hy, bad, r⟩⟩)⟩
theorem ckS_good {K : PySem.W.Frag} {BS : Addr} {H : Hp} {sa : Addr} {tt : Bool} {ss : List Spn} {sas : List Addr} {Q : VK} {E : XK} (h : SpAt H sa tt ss sas) (q : ∀ H', Same H H' → Q .non H') : spCkS K BS [.ref sa] H Q E := by
  have hl : (sas.map V.ref).length = ss.length := by rw [List.length_map, h.o.len]
  exact ⟨_, rfl, .inr (.inr ⟨sa, tt, _, ss, sas, rfl, h.d, by rw [hl]; exact h.n, by rw [← hl, List.take_length], h.o, h.g, .inl ⟨hl, q⟩⟩)⟩
def BadR (K : PySem.W.Frag) (H : Hp) (r : V) : Prop := ∃ t, KdS K H r t ∧ (t ≠ "int" ∨ ∃ i, r = .int i ∧ ¬ (0 ≤ i ∧ i ≤ 20))
theorem BadR.same {K : PySem.W.Frag} {H H' : Hp} {r : V} (h : BadR K H r) (s : Same H H') : BadR K H' r := by
  obtain ⟨t, hk, z⟩ := h
  exact ⟨t, hk.same s, z⟩
inductive PrV (K : PySem.W.Frag) (H : Hp) : V → Bool → Prop
  | num (i : Int) : PrV K H (.int i) (decide (0 ≤ i))
  | no {x : V} {t : String} (hk : KdS K H x t) (ht : t ≠ "int") : PrV K H x false
theorem PrV.same {K : PySem.W.Frag} {H H' : Hp} (s : Same H H') {x : V} {b : Bool} (h : PrV K H x b) : PrV K H' x b := by
  cases h with
  | num i => exact .num i
  | no hk ht => exact .no (hk.same s) ht
structure PrVs (K : PySem.W.Frag) (H : Hp) (xs : List V) (bs : List Bool) : Prop where
  len : xs.length = bs.length
  at_ : ∀ (i : Nat) (x : V) (b : Bool), xs[i]? = some x → bs[i]? = some b → PrV K H x b
inductive BadP (K : PySem.W.Frag) (H : Hp) : V → Prop
  | kind {x : V} {t : String} (hk : KdS K H x t) (n1 : t ≠ "list") (n2 : t ≠ "tuple") : BadP K H x
  | long {a : Addr} {xs : List V} (h : H a = some (.lst xs)) (hl : 1000 < xs.length) : BadP K H (.ref a)
  | item {a : Addr} {xs : List V} {bs : List Bool} (h : H a = some (.lst xs)) (hl : xs.length ≤ 1000) (p : PrVs K H xs bs) (hb : bs.all id = false) : BadP K H (.ref a)
theorem BadP.same {K : PySem.W.Frag} {H H' : Hp} (s : Same H H') {x : V} (h : BadP K H x) : BadP K H' x := by
  cases h with
  | kind hk n1 n2 => exact .kind (hk.same s) n1 n2
  | long h hl => exact .long (s _ _ h) hl
  | item h hl p hb => exact .item (s _ _ h) hl ⟨p.len, fun i x b h1 h2 => (p.at_ i x b h1 h2).same s⟩ hb
section
variable {P : Program} {w0 : World} {K : PySem.W.Frag} {mg : Str → Option Value} {base : Heap} {C : Addr} {BS BR BP fI : Addr} {fdI : FuncData}
def spCkR (K : PySem.W.Frag) (BR : Addr) : Sp := fun vs H Q E => ∃ (r : V), vs = [r, .int 0] ∧ ((BadR K H r ∧ E (.ref BR) none H) ∨ (∃ R : Nat, r = .int (R : Nat) ∧ R ≤ 20 ∧ Q .non H))
theorem ok_check_room {f : Addr} {fd : FuncData} (F : Fun K "_check_room" "_check_room" s__check_room f fd) (RM : Cl0 K mg "BadRoom" BR) (c_is_number_between : Dq P w0 K mg base CX0 2 "is_number_between" ["thing", "low", "high"] (spNumB K)) :
    FnOk P w0 K mg base (L2.CX P w0) 3 f fd ["room", "low"] (spCkR K BR) := by
  refine F.okX sc__check_room (fun vs H Q E h => ?_) (fun cdv A outer s H vs Q E hr hh => ?_)
  · obtain ⟨x, rfl, _⟩ := h
    rfl
  · obtain ⟨r, rfl, hh⟩ := hh
    refine ⟨_, (pss_one (ps_if (pt_not (pt_val (pe_q c_is_number_between hr (by decide) (by rfl) (pa_cons (pv 0) (pa_cons (pv 1) (pa_cons pe_int pa_nil)))))) (pss_one (ps_raise rfl (takes_of rfl rfl rfl rfl) (pmk_own PySem.F.excBase_ValueError RM.x RM.g RM.k (raises_own RM.b RM.t) (by rfl)))) pss_nil)), ?_⟩
    rcases hh with ⟨⟨t, hk, z⟩, q⟩ | ⟨R, rfl, hR, q⟩
    · refine ⟨_, rfl, _, rfl, r, t, 0, 20, rfl, hk.now, fun i hi => ?_, fun _ => ⟨_, rfl, iteTd rfl q⟩⟩
      subst hi
      rcases z with z | ⟨j, e, z⟩
      · exact absurd (by cases hk.now; rfl) z
      · cases e
        rw [decide_eq_false z]
        exact ⟨_, rfl, iteTd rfl q⟩
    · refine ⟨_, rfl, _, rfl, _, "int", 0, 20, rfl, .int _, fun i hi => ?_, fun h => absurd rfl h⟩
      cases hi
      rw [decide_eq_true (by omega)]
      exact ⟨_, rfl, iteFd rfl q⟩
def spLeast (K : PySem.W.Frag) (BS BR : Addr) : Sp := fun vs H Q E => ∃ (x r : V), vs = [x, r] ∧ ((∃ v, BadSp K H x v ∧ RaiseF BS "at" v H E) ∨ (∃ (sa : Addr) (tt : Bool) (ss : List Spn) (sas : List Addr), x = .ref sa ∧ SpAt H sa tt ss sas ∧ ((BadR K H r ∧ ∀ H', Same H H' → E (.ref BR) none H') ∨ ∃ R : Nat, r = .int (R : Nat) ∧ R ≤ 20 ∧
  ∀ H' t la pa k p, H' t = some (.tup [.ref la, .ref pa]) → H' la = some (.lst (((List.range ss.length).filter fun i => !k i).map fun i => V.int (i : Nat))) → H' pa = some (.lst (((List.range (LL ss)).map p).map V.int)) → LeftOk (pb ss (LL ss)) R k p → Same H H' → Q (.ref t) H')))
theorem ok_least {f : Addr} {fd : FuncData} (F : Fun K "least" "least" s_least f fd) (c__check_spans : Dq P w0 K mg base (L2.CX P w0) 3 "_check_spans" ["spans"] (spCkS K BS)) (c__check_room : Dq P w0 K mg base (L2.CX P w0) 3 "_check_room" ["room", "low"] (spCkR K BR)) (c_least_left : Dq P w0 K mg base CX0 5 "least_left" ["spans", "room"] spLL) :
    FnOk P w0 K mg base (L2.CX P w0) 6 f fd ["spans", "room"] (spLeast K BS BR) := by
  refine F.okX sc_least (fun vs H Q E h => ?_) (fun cdv A outer s H vs Q E hr hh => ?_)
  · obtain ⟨x, r, rfl, _⟩ := h
    rfl
  · obtain ⟨x, r, rfl, hh⟩ := hh
    refine ⟨_, (pss_cons (ps_expr (pe_qX c__check_spans hr (by decide) (by rfl) (passes_call (takes_of rfl rfl rfl rfl) fun _ _ _ _ h => h) (pa_cons (pv 0) pa_nil)))
      (pss_cons (ps_expr (pe_qX c__check_room hr (by decide) (by rfl) (passes_call (takes_of rfl rfl rfl rfl) fun _ _ _ _ h => h) (pa_cons (pv 1) (pa_cons pe_int pa_nil))))
      (pss_one (ps_ret (pe_q c_least_left hr (by decide) (by rfl) (pa_cons (pv 0) (pa_cons (pv 1) pa_nil))))))), ?_⟩
    rcases hh with ⟨v, bad, q⟩ | ⟨sa, tt, ss, sas, rfl, sp, hh⟩
    · refine ⟨_, rfl, ?_⟩
      unfold tNil
      exact ckS_bad bad q
    · refine ⟨_, rfl, ?_⟩
      unfold tNil
      refine ckS_good sp fun H1 s1 => ?_
      rcases hh with ⟨bad, q⟩ | ⟨R, rfl, hR, q⟩
      · exact ⟨_, rfl, _, rfl, .inl ⟨bad.same s1, q H1 s1⟩⟩
      · have sp1 := sp.same s1
        exact ⟨_, rfl, _, rfl, .inr ⟨R, rfl, hR, _, rfl, _, rfl, sa, R, tt, ss, sas, rfl, sp1.d, sp1.o, sp1.ok, hR, fun H' t la pa k p e1 e2 e3 lo s2 => q H' t la pa k p e1 e2 e3 lo (s1.trans s2)⟩⟩
def spWorth (K : PySem.W.Frag) (BS BR BP : Addr) : Sp := fun vs H Q E => ∃ (x r y : V), vs = [x, r, y] ∧ ((∃ v, BadSp K H x v ∧ RaiseF BS "at" v H E) ∨ (∃ (sa : Addr) (tt : Bool) (ss : List Spn) (sas : List Addr), x = .ref sa ∧ SpAt H sa tt ss sas ∧ ((BadR K H r ∧ ∀ H', Same H H' → E (.ref BR) none H') ∨ ∃ R : Nat, r = .int (R : Nat) ∧ R ≤ 20 ∧
  ((BadP K H y ∧ ∀ H', Same H H' → E (.ref BP) none H') ∨ ∃ (pa : Addr) (tp : Bool) (ps : List Int), y = .ref pa ∧ H pa = some (sqO tp (ps.map V.int)) ∧ ps.length ≤ 1000 ∧ (∀ q ∈ ps, 0 ≤ q) ∧ ∀ H', Same H H' → Q (.int (M57.worth (pb ss (LL ss)) (PL ps) ps.length R)) H'))))
theorem ok_worth {f : Addr} {fd : FuncData} (F : Fun K "worth" "worth" s_worth f fd) (B : Bn7 mg) (PR : Cl0 K mg "BadPrices" BP) (mP : ∃ t, mg "MOST_POSITION" = some (.int 999 t)) (c__check_spans : Dq P w0 K mg base (L2.CX P w0) 3 "_check_spans" ["spans"] (spCkS K BS)) (c__check_room : Dq P w0 K mg base (L2.CX P w0) 3 "_check_room" ["room", "low"] (spCkR K BR))
    (c_is_list : Dq P w0 K mg base CX0 1 "is_list" ["thing"] (spIsList K)) (c_is_number : Dq P w0 K mg base CX0 1 "is_number" ["thing"] (spIsNum K)) (c_worth_of : Dq P w0 K mg base CX0 1 "worth_of" ["spans", "room", "prices"] spWorthOf) :
    FnOk P w0 K mg base (L2.CX P w0) 6 f fd ["spans", "room", "prices"] (spWorth K BS BR BP) := by
  obtain ⟨tP, mP⟩ := mP
  refine F.okX sc_worth (fun vs H Q E h => ?_) (fun cdv A outer s H vs Q E hr hh => ?_)
  · obtain ⟨x, r, y, rfl, _⟩ := h
    rfl
  · obtain ⟨x, r, y, rfl, hh⟩ := hh
    have hs63 := sizeLine_eq
    rcases hh with ⟨v, bad, q⟩ | ⟨sa, tq, ss, sas, rfl, sp, ⟨bad, q⟩ | ⟨R, rfl, hR, ⟨bad, q⟩ | ⟨pa, tt, ps, rfl, ep, lp, np, q⟩⟩⟩
    · let tt := false
      refine ⟨_, (pss_cons (ps_expr (pe_qX c__check_spans hr (by decide) (by rfl) (passes_call (takes_of rfl rfl rfl rfl) fun _ _ _ _ h => h) (pa_cons (pv 0) pa_nil)))
      (pss_cons (ps_expr (pe_qX c__check_room hr (by decide) (by rfl) (passes_call (takes_of rfl rfl rfl rfl) fun _ _ _ _ h => h) (pa_cons (pv 1) (pa_cons pe_int pa_nil))))
      (pss_cons (ps_if (PW.pt (pw_or (pt_not (pt_val (pe_q c_is_list hr (by decide) (by rfl) (pa_cons (pv 2) pa_nil)))) (pw_or1 (pt_cmpR op_gt (pe_callB call_len_seq (by rfl) B.len PySem.boot_len (pa_cons (pv 2) pa_nil)) (pe_op op_add (pe_glob (v := .int 999) (by rfl) mP ⟨_, rfl⟩) pe_int) (nomark _))))) (pss_one (ps_raise rfl (takes_of rfl rfl rfl rfl) (pmk_own PySem.F.excBase_ValueError PR.x PR.g PR.k (raises_own PR.b PR.t) (by rfl)))) pss_nil)
      (pss_cons (ps_if (pt_not (pt_val (pe_callB (cr_all rfl) (by rfl) B.all (by decide +kernel) (pa_cons (pe_lc (own := [("price", 3)]) (g := (gName 3)) (tt := tYes) (by rfl) sc_worth.nd (pi_sq tt (pv 2)) (blkOk_by (N := n_worth) (sc := defScope s_worth) (by decide +kernel)) (fun _ _ _ _ _ => (pg_name (i := 3) sc_worth.nd rfl (Or.inl rfl))) (fun _ _ _ _ _ => pts_nil) (fun _ _ _ _ _ => (pe_and (pe_q c_is_number hr (by decide) (by rfl) (pa_cons (pv 3) pa_nil)) (pe_one (pe_cmpR op_ge (pv 3) pe_int (nomark _)))))) pa_nil)))) (pss_one (ps_raise rfl (takes_of rfl rfl rfl rfl) (pmk_own PySem.F.excBase_ValueError PR.x PR.g PR.k (raises_own PR.b PR.t) (by rfl)))) pss_nil)
      (pss_one (ps_ret (pe_q c_worth_of hr (by decide) (by rfl) (pa_cons (pv 0) (pa_cons (pv 1) (pa_cons (pv 2) pa_nil)))))))))), ?_⟩
      refine ⟨_, rfl, ?_⟩
      unfold tNil
      exact ckS_bad bad q
    · let tt := false
      refine ⟨_, (pss_cons (ps_expr (pe_qX c__check_spans hr (by decide) (by rfl) (passes_call (takes_of rfl rfl rfl rfl) fun _ _ _ _ h => h) (pa_cons (pv 0) pa_nil)))
      (pss_cons (ps_expr (pe_qX c__check_room hr (by decide) (by rfl) (passes_call (takes_of rfl rfl rfl rfl) fun _ _ _ _ h => h) (pa_cons (pv 1) (pa_cons pe_int pa_nil))))
      (pss_cons (ps_if (PW.pt (pw_or (pt_not (pt_val (pe_q c_is_list hr (by decide) (by rfl) (pa_cons (pv 2) pa_nil)))) (pw_or1 (pt_cmpR op_gt (pe_callB call_len_seq (by rfl) B.len PySem.boot_len (pa_cons (pv 2) pa_nil)) (pe_op op_add (pe_glob (v := .int 999) (by rfl) mP ⟨_, rfl⟩) pe_int) (nomark _))))) (pss_one (ps_raise rfl (takes_of rfl rfl rfl rfl) (pmk_own PySem.F.excBase_ValueError PR.x PR.g PR.k (raises_own PR.b PR.t) (by rfl)))) pss_nil)
      (pss_cons (ps_if (pt_not (pt_val (pe_callB (cr_all rfl) (by rfl) B.all (by decide +kernel) (pa_cons (pe_lc (own := [("price", 3)]) (g := (gName 3)) (tt := tYes) (by rfl) sc_worth.nd (pi_sq tt (pv 2)) (blkOk_by (N := n_worth) (sc := defScope s_worth) (by decide +kernel)) (fun _ _ _ _ _ => (pg_name (i := 3) sc_worth.nd rfl (Or.inl rfl))) (fun _ _ _ _ _ => pts_nil) (fun _ _ _ _ _ => (pe_and (pe_q c_is_number hr (by decide) (by rfl) (pa_cons (pv 3) pa_nil)) (pe_one (pe_cmpR op_ge (pv 3) pe_int (nomark _)))))) pa_nil)))) (pss_one (ps_raise rfl (takes_of rfl rfl rfl rfl) (pmk_own PySem.F.excBase_ValueError PR.x PR.g PR.k (raises_own PR.b PR.t) (by rfl)))) pss_nil)
      (pss_one (ps_ret (pe_q c_worth_of hr (by decide) (by rfl) (pa_cons (pv 0) (pa_cons (pv 1) (pa_cons (pv 2) pa_nil)))))))))), ?_⟩
      refine ⟨_, rfl, ?_⟩
      unfold tNil
      refine ckS_good sp fun H1 s1 => ?_
      exact ⟨_, rfl, _, rfl, .inl ⟨bad.same s1, q H1 s1⟩⟩
    · obtain ⟨tt, htt⟩ : ∃ tt : Bool, tt = false := ⟨_, rfl⟩
      refine ⟨_, (pss_cons (ps_expr (pe_qX c__check_spans hr (by decide) (by rfl) (passes_call (takes_of rfl rfl rfl rfl) fun _ _ _ _ h => h) (pa_cons (pv 0) pa_nil)))
      (pss_cons (ps_expr (pe_qX c__check_room hr (by decide) (by rfl) (passes_call (takes_of rfl rfl rfl rfl) fun _ _ _ _ h => h) (pa_cons (pv 1) (pa_cons pe_int pa_nil))))
      (pss_cons (ps_if (PW.pt (pw_or (pt_not (pt_val (pe_q c_is_list hr (by decide) (by rfl) (pa_cons (pv 2) pa_nil)))) (pw_or1 (pt_cmpR op_gt (pe_callB call_len_seq (by rfl) B.len PySem.boot_len (pa_cons (pv 2) pa_nil)) (pe_op op_add (pe_glob (v := .int 999) (by rfl) mP ⟨_, rfl⟩) pe_int) (nomark _))))) (pss_one (ps_raise rfl (takes_of rfl rfl rfl rfl) (pmk_own PySem.F.excBase_ValueError PR.x PR.g PR.k (raises_own PR.b PR.t) (by rfl)))) pss_nil)
      (pss_cons (ps_if (pt_not (pt_val (pe_callB (cr_all rfl) (by rfl) B.all (by decide +kernel) (pa_cons (pe_lc (own := [("price", 3)]) (g := (gName 3)) (tt := tYes) (by rfl) sc_worth.nd (pi_sq tt (pv 2)) (blkOk_by (N := n_worth) (sc := defScope s_worth) (by decide +kernel)) (fun _ _ _ _ _ => (pg_name (i := 3) sc_worth.nd rfl (Or.inl rfl))) (fun _ _ _ _ _ => pts_nil) (fun _ _ _ _ _ => (pe_and (pe_q c_is_number hr (by decide) (by rfl) (pa_cons (pv 3) pa_nil)) (pe_one (pe_cmpR op_ge (pv 3) pe_int (nomark _)))))) pa_nil)))) (pss_one (ps_raise rfl (takes_of rfl rfl rfl rfl) (pmk_own PySem.F.excBase_ValueError PR.x PR.g PR.k (raises_own PR.b PR.t) (by rfl)))) pss_nil)
      (pss_one (ps_ret (pe_q c_worth_of hr (by decide) (by rfl) (pa_cons (pv 0) (pa_cons (pv 1) (pa_cons (pv 2) pa_nil)))))))))), ?_⟩
      refine ⟨_, rfl, ?_⟩
      unfold tNil
      refine ckS_good sp fun H1 s1 => ?_
      refine ⟨_, rfl, _, rfl, .inr ⟨R, rfl, hR, ?_⟩⟩
      have b1 := bad.same s1
      cases b1 with
      | kind hk n1 n2 =>
        refine ⟨_, rfl, y, _, rfl, fun H2 s2 => ⟨(hk.same s2).now, _, rfl, iteTd ?_ (iteT (q _ (s1.trans s2)))⟩⟩
        rw [decide_eq_false n1, decide_eq_false n2]
        rfl
      | @long a xs h hl =>
        refine ⟨_, rfl, .ref a, "list", rfl, fun H2 s2 => ⟨.lst (.base (.lst (s2 _ _ h))), _, rfl, iteFd (by decide) ⟨_, rfl, a, _, rfl, .inl (SqL.of (s2 _ _ h)), _, _, rfl, rfl, _, _, rfl, rfl, _, rfl, ?_⟩⟩⟩
        rw [decide_eq_true (by omega)]
        exact iteT (q _ (s1.trans s2))
      | @item a xs bs h hl p hb =>
        refine ⟨_, rfl, .ref a, "list", rfl, fun H2 s2 => ⟨.lst (.base (.lst (s2 _ _ h))), _, rfl, iteFd (by decide) ⟨_, rfl, a, _, rfl, .inl (SqL.of (s2 _ _ h)), _, _, rfl, rfl, _, _, rfl, rfl, _, rfl, ?_⟩⟩⟩
        rw [decide_eq_false (by omega)]
        refine iteFd rfl ?_
        have hbl := p.len
        have h0 : H2 a = some (sqO tt xs) := by
          rw [htt]
          exact s2 _ _ h
        refine iSq_v rfl h0 (fun D hD => lc_it walk_sq (fun i H' => Same H2 H' ∧ H' D = some (.lst ((bs.take i).map V.bl))) ⟨Same.new hD, upd_same⟩ (fun i H' _ e => e.1 _ _ h0) ?_ ?_)
        · rintro i v H3 H4 hi ⟨s3, e3⟩ ⟨rfl, hv⟩
          have hib : i < bs.length := by omega
          have hb2 := List.getElem?_eq_getElem hib
          have pv := ((p.at_ i v _ hv hb2).same s2).same s3
          generalize bs[i] = b at hb2 pv
          have fin : ∃ acc, H4 D = some (.lst acc) ∧ acc.length < sizeLine ∧ (Same H2 (upd H4 D (.lst (acc ++ [V.bl b]))) ∧ upd H4 D (.lst (acc ++ [V.bl b])) D = some (.lst ((bs.take (i + 1)).map V.bl))) := by
            refine ⟨_, e3, ?_, Same.upd' s3 hD, ?_⟩
            · rw [List.length_map, List.length_take]
              omega
            · rw [upd_same, List.take_add_one, hb2, List.map_append]
              rfl
          refine ⟨rfl, yes ⟨_, rfl, v, ?_⟩⟩
          cases pv with
          | num j => exact ⟨"int", rfl, .int j, _, rfl, iteTd rfl ⟨_, rfl, _, _, rfl, rfl, fin⟩⟩
          | no hk ht => exact ⟨_, rfl, hk.now, _, rfl, iteFd (decide_eq_false ht) fin⟩
        · rintro H3 ⟨s3, e3⟩
          rw [hbl, List.take_length] at e3
          refine ⟨D, bs, rfl, SqL.of e3, _, rfl, ?_⟩
          rw [hb]
          exact iteTd rfl (q _ (s1.trans (s2.trans s3)))
    · refine ⟨_, (pss_cons (ps_expr (pe_qX c__check_spans hr (by decide) (by rfl) (passes_call (takes_of rfl rfl rfl rfl) fun _ _ _ _ h => h) (pa_cons (pv 0) pa_nil)))
      (pss_cons (ps_expr (pe_qX c__check_room hr (by decide) (by rfl) (passes_call (takes_of rfl rfl rfl rfl) fun _ _ _ _ h => h) (pa_cons (pv 1) (pa_cons pe_int pa_nil))))
      (pss_cons (ps_if (PW.pt (pw_or (pt_not (pt_val (pe_q c_is_list hr (by decide) (by rfl) (pa_cons (pv 2) pa_nil)))) (pw_or1 (pt_cmpR op_gt (pe_callB call_len_seq (by rfl) B.len PySem.boot_len (pa_cons (pv 2) pa_nil)) (pe_op op_add (pe_glob (v := .int 999) (by rfl) mP ⟨_, rfl⟩) pe_int) (nomark _))))) (pss_one (ps_raise rfl (takes_of rfl rfl rfl rfl) (pmk_own PySem.F.excBase_ValueError PR.x PR.g PR.k (raises_own PR.b PR.t) (by rfl)))) pss_nil)
      (pss_cons (ps_if (pt_not (pt_val (pe_callB (cr_all rfl) (by rfl) B.all (by decide +kernel) (pa_cons (pe_lc (own := [("price", 3)]) (g := (gName 3)) (tt := tYes) (by rfl) sc_worth.nd (pi_sq tt (pv 2)) (blkOk_by (N := n_worth) (sc := defScope s_worth) (by decide +kernel)) (fun _ _ _ _ _ => (pg_name (i := 3) sc_worth.nd rfl (Or.inl rfl))) (fun _ _ _ _ _ => pts_nil) (fun _ _ _ _ _ => (pe_and (pe_q c_is_number hr (by decide) (by rfl) (pa_cons (pv 3) pa_nil)) (pe_one (pe_cmpR op_ge (pv 3) pe_int (nomark _)))))) pa_nil)))) (pss_one (ps_raise rfl (takes_of rfl rfl rfl rfl) (pmk_own PySem.F.excBase_ValueError PR.x PR.g PR.k (raises_own PR.b PR.t) (by rfl)))) pss_nil)
      (pss_one (ps_ret (pe_q c_worth_of hr (by decide) (by rfl) (pa_cons (pv 0) (pa_cons (pv 1) (pa_cons (pv 2) pa_nil)))))))))), ?_⟩
      refine ⟨_, rfl, ?_⟩
      unfold tNil
      refine ckS_good sp fun H1 s1 => ?_
      refine ⟨_, rfl, _, rfl, .inr ⟨R, rfl, hR, ?_⟩⟩
      have ep1 := s1 _ _ ep
      refine ⟨_, rfl, .ref pa, (if tt then "tuple" else "list"), rfl, fun H2 s2 => ⟨?_, _, rfl, iteFd ?_ ⟨_, rfl, pa, _, rfl, Sq.or (s2 _ _ ep1), _, _, rfl, rfl, _, _, rfl, rfl, _, rfl, ?_⟩⟩⟩
      · cases tt with
        | true => exact .tup (.base (.tup (s2 _ _ ep1)))
        | false => exact .lst (.base (.lst (s2 _ _ ep1)))
      · cases tt <;> decide
      rw [List.length_map, decide_eq_false (by omega)]
      refine iteFd rfl ?_
      have ep2 := s2 _ _ ep1
      refine iSq_v (tt := tt) rfl ep2 (fun D hD => lc_it (walk_sq (tt := tt)) (fun i H' => Same H2 H' ∧ H' D = some (.lst ((List.replicate i true).map V.bl))) ⟨Same.new hD, upd_same⟩ (fun i H' _ e => e.1 _ _ ep2) ?_ ?_)
      · rintro i v H3 H4 hi ⟨s3, e3⟩ ⟨rfl, hv⟩
        rw [List.getElem?_map] at hv
        obtain ⟨j, hj, rfl⟩ := Option.map_eq_some_iff.mp hv
        have hj0 := np j (List.mem_of_getElem? hj)
        rw [List.length_map] at hi
        refine ⟨rfl, yes ⟨_, rfl, _, "int", rfl, .int j, _, rfl, iteTd rfl ⟨_, rfl, _, _, rfl, rfl, _, e3, ?_, Same.upd' s3 hD, ?_⟩⟩⟩
        · rw [List.length_map, List.length_replicate]
          omega
        · rw [upd_same, List.replicate_succ', List.map_append]
          show some (HO.lst (_ ++ [V.bl (decide (0 ≤ j))])) = _
          rw [decide_eq_true hj0]
          rfl
      · rintro H3 ⟨s3, e3⟩
        refine ⟨D, _, rfl, SqL.of e3, _, rfl, ?_⟩
        rw [show (List.replicate _ true).all id = true by simp]
        refine iteFd rfl ?_
        have sp3 := (((sp.same s1).same s2).same s3)
        exact ⟨_, rfl, _, rfl, _, rfl, sa, pa, R, tq, tt, ss, sas, ps, rfl, sp3.d, sp3.o, fun q hq => (sp.g q hq).1, s3 _ _ ep2, hR, fun H' s4 => q H' (((s1.trans s2).trans s3).trans s4)⟩
end
end SA

set_option Elab.async false
set_option linter.all false
set_option maxRecDepth 100000
set_option maxHeartbeats 4000000
namespace M57
def inS (q : Spn) (y : Nat) : Bool := decide (q.f ≤ y ∧ y ≤ q.l)
def covL (ss : List Spn) (y : Nat) : Int := ((ss.filter fun q => inS q y).length : Nat)
theorem sumTo_count (P : Nat → Bool) : ∀ n : Nat, sumTo (fun i => if P i = true then 1 else 0) n = (((List.range n).filter P).length : Nat)
  | 0 => rfl
  | n + 1 => by
    show sumTo _ n + (if P n = true then 1 else 0) = _
    rw [sumTo_count P n, List.range_succ, List.filter_append, List.length_append]
    by_cases h : P n = true
    · rw [if_pos h]
      simp [h]
    · rw [if_neg h]
      simp [h]
end M57
namespace SA
open PySem PySem.Spec PyProof.Rows L2 K83 M57
/-- the spans that k keeps -/
def keptS (ss : List Spn) (k : Nat → Bool) : List Spn := ((List.range ss.length).filter k).filterMap fun i => ss[i]?
theorem covL_kept (ss : List Spn) (k : Nat → Bool) (L y : Nat) : covL (keptS ss k) y = cov (pb ss L) k y := by
  have h : ∀ l : List Nat, (∀ i ∈ l, i < ss.length) → ((l.filterMap fun i => ss[i]?).filter fun q => inS q y).length = (l.filter fun i => decide ((pb ss L).f i ≤ y ∧ y ≤ (pb ss L).l i)).length := fun l => by
    induction l with
    | nil => exact fun _ => rfl
    | cons i l ih =>
      intro hl
      have hi := hl i (by simp)
      have ih := ih fun j hj => hl j (List.mem_cons_of_mem _ hj)
      have e := List.getElem?_eq_getElem hi
      obtain ⟨p1, p2, _⟩ := pb_at (L := L) e
      rw [List.filterMap_cons, e]
      show ((ss[i] :: _).filter _).length = _
      rw [List.filter_cons, List.filter_cons, p1, p2]
      have ec : decide (ss[i].f ≤ y ∧ y ≤ ss[i].l) = inS ss[i] y := rfl
      rw [ec]
      by_cases c : inS ss[i] y = true
      · rw [if_pos c, if_pos c, List.length_cons, List.length_cons, ih]
      · rw [if_neg c, if_neg c, ih]
  unfold covL keptS cov
  rw [h _ fun i hi => List.mem_range.mp (List.mem_filter.mp hi).1]
  rw [List.filter_filter, show (pb ss L).n = ss.length from rfl]
  have := sumTo_count (fun i => decide ((pb ss L).f i ≤ y ∧ y ≤ (pb ss L).l i) && k i) ss.length
  rw [← this]
  refine sumTo_congr fun i _ => ?_
  simp only [Bool.and_eq_true, decide_eq_true_eq]
  by_cases c : k i = true ∧ (pb ss L).f i ≤ y ∧ y ≤ (pb ss L).l i
  · rw [if_pos ⟨c.2, c.1⟩, if_pos c]
  · rw [if_neg fun z => c ⟨z.2, z.1⟩, if_neg c]
theorem covL_all (ss : List Spn) (L y : Nat) : covL ss y = cov (pb ss L) (fun _ => true) y := by
  rw [← covL_kept]
  congr 1
  unfold keptS
  refine List.ext_getElem? fun i => ?_
  have : (List.range ss.length).filter (fun _ => true) = List.range ss.length := by simp
  rw [this]
  have h : ∀ m : Nat, m ≤ ss.length → ((List.range m).filterMap fun i => ss[i]?) = ss.take m := fun m => by
    induction m with
    | zero => exact fun _ => rfl
    | succ m ih =>
      intro hm
      rw [List.range_succ, List.filterMap_append, ih (by omega), List.take_add_one]
      congr 1
  rw [h _ (Nat.le_refl _), List.take_length]
section
variable {P : Program} {w0 : World} {K : PySem.W.Frag} {mg : Str → Option Value} {base : Heap} {C : Addr}
theorem ix_tupK {X : Cx} {K : PySem.W.Frag} (hK : X.K = K) : IxR X (rIxT K) := hK ▸ ix_tup
theorem call_isiK {X : Cx} {K : PySem.W.Frag} (hK : X.K = K) : CallR X (.builtin "isinstance") (rIsi K) := hK ▸ call_isi
/-- spans in a list -/
structure SpL (H : Hp) (sa : Addr) (ss : List Spn) (sas : List Addr) : Prop where
  d : H sa = some (.lst (sas.map V.ref))
  o : Objs spO H sas ss
theorem SpL.same {H H' : Hp} {sa : Addr} {ss : List Spn} {sas : List Addr} (h : SpL H sa ss sas) (s : Same H H') : SpL H' sa ss sas := ⟨s _ _ h.d, h.o.same s⟩
def spCov : Sp := fun vs H Q _ => ∃ (sa : Addr) (y : Nat) (ss : List Spn) (sas : List Addr), vs = [.ref sa, .int (y : Nat)] ∧ SpL H sa ss sas ∧ ss.length ≤ 1000 ∧ ∀ H', Same H H' → Q (.int (covL ss y)) H'
theorem ok_lcover {f : Addr} {fd : FuncData} (F : Fun K "_law_cover" "_law_cover" s__law_cover f fd) (B : Bn7 mg) : FnOk P w0 K mg base CX0 1 f fd ["spans", "at"] spCov := by
  refine F.ok sc__law_cover (fun vs H Q E h => ?_) (fun cdv A outer s H vs Q E hr h => ?_)
  · obtain ⟨sa, y, ss, sas, rfl, _⟩ := h
    rfl
  · obtain ⟨sa, y, ss, sas, rfl, sp, hn, q⟩ := h
    refine ⟨_, (pss_one (ps_ret (pe_callB call_len_seq (by rfl) B.len PySem.boot_len (pa_cons (pe_lc (own := [("span", 2)]) (g := (gName 2)) (tt := _) (by rfl) sc__law_cover.nd (pi_list (pv 0)) (blkOk_by (N := n__law_cover) (sc := defScope s__law_cover) (by decide +kernel)) (fun _ _ _ _ _ => (pg_name (i := 2) sc__law_cover.nd rfl (Or.inl rfl))) (fun _ _ _ _ _ => (pts_one (PW.pt (pw_and (pt_cmpR op_le (pe_ix (ix_tupK (K := K) rfl) (pv 2) pe_int (fun _ _ => rfl)) (pv 1) (nomark _)) (pw_and1 (pt_cmpR op_le (pv 1) (pe_ix (ix_tupK (K := K) rfl) (pv 2) pe_int (fun _ _ => rfl)) (nomark _))))))) (fun _ _ _ _ _ => (pv 2))) pa_nil)))), ?_⟩
    have hs63 := sizeLine_eq
    have el : (sas.map V.ref).length = ss.length := by rw [List.length_map, sp.o.len]
    refine ⟨_, rfl, sa, rfl, ⟨_, SqL.of sp.d⟩, fun D hD => lc_it walk_list (fun i H' => Same H H' ∧ ∃ vs : List V, H' D = some (.lst vs) ∧ vs.length = ((ss.take i).filter fun q => inS q y).length) ⟨Same.new hD, [], upd_same, rfl⟩ (fun i H' _ h => SqL.of (h.1 _ _ sp.d)) ?_ ?_⟩
    · rintro i v H2 H3 hi ⟨s2, vs, e2, l2⟩ ⟨rfl, hv⟩
      obtain ⟨g, b, hg, rfl, hb, eb⟩ := (sp.o.same s2).get' hv
      have tk : ((ss.take (i + 1)).filter fun q => inS q y) = ((ss.take i).filter fun q => inS q y) ++ if inS g y = true then [g] else [] := take_filt _ _ _ _ hg
      refine ⟨rfl, ?_⟩
      refine ⟨_, rfl, b, _, _, _, rfl, rfl, SqT.of eb, atI_nat (j := 0) rfl, _, rfl, _, _, rfl, rfl, _, rfl, ?_⟩
      by_cases c1 : g.f ≤ y
      · refine iteTd (decide_eq_true (by omega)) ?_
        refine ⟨_, rfl, _, rfl, b, _, _, _, rfl, rfl, SqT.of eb, atI_nat (j := 1) rfl, _, _, rfl, rfl, _, rfl, ?_⟩
        by_cases c2 : y ≤ g.l
        · refine iteTd (decide_eq_true (by omega)) ⟨_, rfl, vs, e2, ?_, Same.upd' s2 hD, vs ++ [V.ref b], upd_same, ?_⟩
          · have := List.length_filter_le (fun q => inS q y) (ss.take i)
            have := List.length_take_le' i ss
            omega
          · rw [tk, if_pos (by unfold inS; exact decide_eq_true ⟨c1, c2⟩), List.length_append, List.length_append, l2]
            rfl
        · refine iteFd (decide_eq_false (by omega)) ⟨s2, vs, e2, ?_⟩
          rw [tk, if_neg (by unfold inS; simp; omega), List.append_nil, l2]
      · refine iteFd (decide_eq_false (by omega)) (iteFd rfl ⟨s2, vs, e2, ?_⟩)
        rw [tk, if_neg (by unfold inS; simp; omega), List.append_nil, l2]
    · rintro H2 ⟨s2, vs, e2, l2⟩
      rw [el, List.take_length] at l2
      refine ⟨D, vs, rfl, .inl (SqL.of e2), ?_⟩
      rw [l2]
      exact q H2 s2
def spVal : Sp := fun vs H Q _ => ∃ (sa pa : Addr) (R : Nat) (ss : List Spn) (sas : List Addr) (ps : List Int), vs = [.ref sa, .int (R : Nat), .ref pa] ∧ SpL H sa ss sas ∧ ss.length ≤ 1000 ∧ (∀ q ∈ ss, q.f ≤ q.l) ∧ H pa = some (.lst (ps.map V.int)) ∧ ps.length ≤ 1000 ∧ R ≤ 20 ∧
  ∀ H', Same H H' → Q (.int (M57.value (pb ss (LL ss)) (PL ps) ps.length R)) H'
theorem ok_lvalue {f : Addr} {fd : FuncData} (F : Fun K "_law_value" "_law_value" s__law_value f fd) (B : Bn7 mg) (c__law_cover : Dq P w0 K mg base CX0 1 "_law_cover" ["spans", "at"] spCov) : FnOk P w0 K mg base CX0 2 f fd ["spans", "room", "prices"] spVal := by
  refine F.ok sc__law_value (fun vs H Q E h => ?_) (fun cdv A outer s H vs Q E hr h => ?_)
  · obtain ⟨sa, pa, R, ss, sas, ps, rfl, _⟩ := h
    rfl
  · obtain ⟨sa, pa, R, ss, sas, ps, rfl, sp, hn, hfl, ep, hp, hR, q⟩ := h
    refine ⟨_, (pss_cons (ps_set (i := 3) sc__law_value.nd rfl (Or.inl rfl) pe_int)
      (pss_cons (ps_for PassesOwn.never rfl (pi_range1 (by rfl) B.range (pa_cons (pe_callB call_len_seq (by rfl) B.len PySem.boot_len (pa_cons (pv 2) pa_nil)) pa_nil)) (pg_name (i := 4) sc__law_value.nd rfl (Or.inl rfl)) (pss_one (ps_if (pt_cmpR op_ne (pe_ix ix_list (pv 2) (pv 4) (fun _ _ => rfl)) pe_int (nomark _)) (pss_one (ps_set (i := 3) sc__law_value.nd rfl (Or.inl rfl) (pe_op op_add (pv 3) (pe_op op_mul (pe_ix ix_list (pv 2) (pv 4) (fun _ _ => rfl)) (pe_op op_sub (pe_q c__law_cover hr (by decide) (by rfl) (pa_cons (pv 0) (pa_cons (pv 4) pa_nil))) (pv 1)))))) pss_nil)))
      (pss_cons (ps_for PassesOwn.never rfl (pi_list (pv 0)) (pg_tup (by rfl) (pgs_cons (pg_name (i := 5) sc__law_value.nd rfl (Or.inl rfl)) (pgs_cons (pg_name (i := 6) sc__law_value.nd rfl (Or.inl rfl)) (pgs_cons (pg_name (i := 7) sc__law_value.nd rfl (Or.inl rfl)) pgs_nil)))) (pss_one (ps_set (i := 3) sc__law_value.nd rfl (Or.inl rfl) (pe_op op_sub (pv 3) (pe_callB (call_max2 rfl) (by rfl) B.max (by decide +kernel) (pa_cons pe_int (pa_cons (pe_op op_sub (pe_callB (cr_sumQ rfl) (by rfl) B.sum (by decide +kernel) (pa_cons (pe_slice sl_list (pv 2) (po_some (pv 5)) (po_some (pe_op op_add (pv 6) pe_int))) pa_nil)) (pv 7)) pa_nil)))))))
      (pss_one (ps_ret (pv 3)))))), ?_⟩
    have hs63 := sizeLine_eq
    have el : (sas.map V.ref).length = ss.length := by rw [List.length_map, sp.o.len]
    refine ⟨_, rfl, pa, _, rfl, .inl (SqL.of ep), _, rfl, (by omega), (by rw [List.length_map]; omega), ?_⟩
    rw [show (((ps.map V.int).length : Nat) : Int).toNat = ps.length by rw [List.length_map]; rfl]
    refine for_range (lo := 0) (n := ps.length) (fun i σ H' => (∃ y4, σ = [some (.ref sa), some (.int (R : Nat)), some (.ref pa), some (.int (sumTo (fun y => PL ps y * (cov (pb ss (LL ss)) (fun _ => true) y - R)) i)), y4, none, none, none]) ∧ Same H H') ⟨⟨_, rfl⟩, Same.refl _⟩ ?_ ?_
    · rintro i σ H1 hi ⟨⟨y4, rfl⟩, s1⟩
      rw [show (0 : Int) + (i : Nat) = ((i : Nat) : Int) by omega]
      have ei : (ps.map V.int)[i]? = some (.int (PL ps i)) := by
        rw [List.getElem?_map, List.getElem?_eq_getElem hi]
        unfold PL
        rw [List.getElem?_eq_getElem hi]
        rfl
      refine ⟨_, rfl, _, rfl, pa, _, _, _, rfl, rfl, SqL.of (s1 _ _ ep), atI_nat ei, rfl, _, rfl, ?_⟩
      by_cases c : PL ps i = 0
      · refine iteFd (by rw [c]; rfl) ⟨⟨some (.int (i : Nat)), ?_⟩, s1⟩
        show _ = [some (V.ref sa), some (.int (R : Nat)), some (.ref pa), some (.int (sumTo _ i + PL ps i * (cov (pb ss (LL ss)) (fun _ => true) i - R))), some (.int (i : Nat)), none, none, none]
        rw [c, Int.zero_mul, Int.add_zero]
        rfl
      · refine iteTd (by rw [Bool.not_eq_true', decide_eq_false_iff_not]; intro h; exact c (V.int.inj h)) ?_
        refine ⟨_, rfl, _, rfl, _, rfl, pa, _, _, _, rfl, rfl, SqL.of (s1 _ _ ep), atI_nat ei, _, rfl, _, rfl, sa, i, ss, sas, rfl, sp.same s1, hn, fun H2 s2 => ?_⟩
        refine ⟨_, rfl, _, _, rfl, rfl, _, _, rfl, rfl, .inr ?_, _, _, rfl, rfl, ⟨some (.int (i : Nat)), ?_⟩, s1.trans s2⟩
        · have h1 : (0 : Int) ≤ covL ss i := by unfold covL; omega
          have h2 : covL ss i ≤ 1000 := by
            have := List.length_filter_le (fun q => inS q i) ss
            unfold covL
            omega
          constructor <;> omega
        · rw [covL_all ss (LL ss) i]
          rfl
    rintro σ H1 ⟨⟨y4, rfl⟩, s1⟩
    have sp1 := sp.same s1
    refine ⟨_, rfl, sa, rfl, ⟨_, SqL.of sp1.d⟩, for_it (walk_list (xs := sas.map V.ref)) (fun i σ H' => (∃ y4 y5 y6 y7, σ = [some (.ref sa), some (.int (R : Nat)), some (.ref pa), some (.int (sumTo (fun y => PL ps y * (cov (pb ss (LL ss)) (fun _ => true) y - R)) ps.length - sumTo (fun i => max 0 (Sm (PL ps) ps.length ((pb ss (LL ss)).f i) ((pb ss (LL ss)).l i) - (pb ss (LL ss)).c i)) i)), y4, y5, y6, y7]) ∧ Same H H') ⟨⟨y4, none, none, none, ?_⟩, s1⟩ (fun i σ H' _ h => SqL.of (h.2 _ _ sp.d)) ?_ ?_⟩
    · show _ = [some (V.ref sa), some (.int (R : Nat)), some (.ref pa), some (.int (_ - 0)), _, _, _, _]
      rw [Int.sub_zero]
    · rintro i v σ H2 H3 hi ⟨⟨z4, z5, z6, z7, rfl⟩, s2⟩ ⟨rfl, hv⟩
      obtain ⟨g, b, hg, rfl, hb, eb⟩ := (sp.o.same s2).get' hv
      obtain ⟨p1, p2, p3⟩ := pb_at (L := LL ss) hg
      have fl := hfl g (List.mem_of_getElem? hg)
      refine ⟨b, _, rfl, SqT.of eb, rfl, _, _, rfl, _, _, rfl, _, _, rfl, rfl, ?_⟩
      refine ⟨_, rfl, _, rfl, _, rfl, _, rfl, _, rfl, _, _, rfl, rfl, _, rfl, pa, _, rfl, SqL.of (s2 _ _ ep), fun d hd => ?_⟩
      rw [show ((g.l : Nat) : Int) + 1 = ((g.l + 1 : Nat) : Int) by omega, cutV_ints]
      have es := sum_cut ps (show g.f ≤ g.l + 1 by omega)
      refine ⟨d, _, rfl, .inl (SqL.of upd_same), _, rfl, _, _, rfl, rfl, _, _, rfl, _, _, rfl, rfl, ⟨z4, some (.int (g.f : Nat)), some (.int (g.l : Nat)), some (.int g.c), ?_⟩, Same.upd' s2 (s2.free hd)⟩
      rw [es]
      show [some (V.ref sa), some (.int (R : Nat)), some (.ref pa), some (.int (_ - (if Sm (PL ps) ps.length g.f g.l - g.c > 0 then Sm (PL ps) ps.length g.f g.l - g.c else 0))), _, _, _, _] = [some (V.ref sa), some (.int (R : Nat)), some (.ref pa), some (.int (_ - (_ + max 0 (Sm (PL ps) ps.length ((pb ss (LL ss)).f i) ((pb ss (LL ss)).l i) - (pb ss (LL ss)).c i)))), _, _, _, _]
      rw [p1, p2, p3, show max 0 (Sm (PL ps) ps.length g.f g.l - g.c) = if Sm (PL ps) ps.length g.f g.l - g.c > 0 then Sm (PL ps) ps.length g.f g.l - g.c else 0 by split <;> omega, Int.sub_sub]
    · rintro σ H2 ⟨⟨z4, z5, z6, z7, rfl⟩, s2⟩
      rw [el]
      exact ⟨_, rfl, q H2 s2⟩
def spNums : Sp := fun vs H Q _ => ∃ (a : Addr) (ns : List Int), vs = [.ref a, .int 0] ∧ H a = some (.lst (ns.map V.int)) ∧ ns.length ≤ 1000 ∧ (∀ n ∈ ns, 0 ≤ n) ∧ ∀ H', Same H H' → Q (.bl true) H'
theorem ok_lnumbers {f : Addr} {fd : FuncData} (F : Fun K "_law_numbers" "_law_numbers" s__law_numbers f fd) (B : Bn7 mg) : FnOk P w0 K mg base CX0 1 f fd ["some", "low"] spNums := by
  refine F.ok sc__law_numbers (fun vs H Q E h => ?_) (fun cdv A outer s H vs Q E hr h => ?_)
  · obtain ⟨a, ns, rfl, _⟩ := h
    rfl
  · obtain ⟨a, ns, rfl, ea, hn, h0, q⟩ := h
    refine ⟨_, (pss_cons (ps_if (pt_not (pt_val (pe_callB (call_isiK (K := K) rfl) (by rfl) B.isinstance (by decide +kernel) (pa_cons (pv 0) (pa_cons (pe_bltn (v := .ty "list") (by rfl) B.list (by decide +kernel) rfl) pa_nil))))) (pss_one (ps_ret pe_bl)) pss_nil)
      (pss_one (ps_ret (pe_callB (cr_all rfl) (by rfl) B.all (by decide +kernel) (pa_cons (pe_lc (own := [("one", 2)]) (g := (gName 2)) (tt := tYes) (by rfl) sc__law_numbers.nd (pi_list (pv 0)) (blkOk_by (N := n__law_numbers) (sc := defScope s__law_numbers) (by decide +kernel)) (fun _ _ _ _ _ => (pg_name (i := 2) sc__law_numbers.nd rfl (Or.inl rfl))) (fun _ _ _ _ _ => pts_nil) (fun _ _ _ _ _ => (pe_and (pe_callB (call_isiK (K := K) rfl) (by rfl) B.isinstance (by decide +kernel) (pa_cons (pv 2) (pa_cons (pe_bltn (v := .ty "int") (by rfl) B.int (by decide +kernel) rfl) pa_nil))) (pe_and (pe_not (pe_callB (call_isiK (K := K) rfl) (by rfl) B.isinstance (by decide +kernel) (pa_cons (pv 2) (pa_cons (pe_bltn (v := .ty "bool") (by rfl) B.bool (by decide +kernel) rfl) pa_nil)))) (pe_one (pe_cmpR op_ge (pv 2) (pv 1) (nomark _))))))) pa_nil))))), ?_⟩
    have hs63 := sizeLine_eq
    refine ⟨_, rfl, _, .ty "list", .type "list", .type "list", true, rfl, .ty _, Kd.ty (.lst (.base (.lst ea))), kit_ty (by decide +kernel), _, rfl, iteFd rfl ?_⟩
    refine ⟨_, rfl, a, rfl, ⟨_, SqL.of ea⟩, fun D hD => lc_it walk_list (fun i H' => Same H H' ∧ H' D = some (.lst ((List.replicate i true).map V.bl))) ⟨Same.new hD, upd_same⟩ (fun i H' _ h => SqL.of (h.1 _ _ ea)) ?_ ?_⟩
    · rintro i v H2 H3 hi ⟨s2, e2⟩ ⟨rfl, hv⟩
      rw [List.getElem?_map] at hv
      obtain ⟨j, hj, rfl⟩ := Option.map_eq_some_iff.mp hv
      have hj0 := h0 j (List.mem_of_getElem? hj)
      rw [List.length_map] at hi
      refine ⟨rfl, yes ?_⟩
      refine ⟨_, rfl, _, .ty "int", .type "int", .type "int", true, rfl, .ty _, Kd.ty (.int j), kit_ty (by decide +kernel), _, rfl, ?_⟩
      refine iteTd rfl ⟨_, rfl, _, .ty "bool", .type "int", .type "bool", false, rfl, .ty _, Kd.ty (.int j), kit_ty (by decide +kernel), _, rfl, _, rfl, iteTd rfl ?_⟩
      refine ⟨_, rfl, _, rfl, _, _, rfl, rfl, _, e2, ?_, Same.upd' s2 hD, ?_⟩
      · rw [List.length_map, List.length_replicate]
        omega
      · rw [upd_same, List.replicate_succ', List.map_append]
        show some (HO.lst (_ ++ [V.bl (decide (0 ≤ j))])) = _
        rw [decide_eq_true hj0]
        rfl
    · rintro H2 ⟨s2, e2⟩
      refine ⟨D, _, rfl, SqL.of e2, ?_⟩
      rw [show (List.replicate _ true).all id = true by simp]
      exact q H2 s2
end
end SA

set_option Elab.async false
set_option linter.all false
set_option maxRecDepth 100000
set_option maxHeartbeats 4000000
namespace SA
open PySem PySem.Spec PyProof.Rows L2 K83 M57
theorem plainL_list {h : Heap} {a : Addr} {its : Array Value} (p : PySem.PlainL h a its) : h.IsList a its := by
  obtain ⟨o, n, h1, h2, _, h4⟩ := p
  exact ⟨o, h1, h2, n, h4⟩
theorem op_ne_nilL {X : Cx} (hu : X.A.units + 64 < cLine) : OpR X (compareOp .NotEq) (fun x y H Q => ∃ (a b : Addr) (xs : List V), x = .ref a ∧ y = .ref b ∧ SqL X.K H a xs ∧ SqL X.K H b [] ∧ Q (.bl (!xs.isEmpty)) H) := by
  intro pins s σ H x y v u Q I rx ry h
  obtain ⟨a, b, xs, rfl, rfl, ha, hb, q⟩ := h
  obtain rfl : v = .ref a := rx
  obtain rfl : u = .ref b := ry
  obtain ⟨its, r1, p1, _⟩ := I.list ha
  obtain ⟨its2, r2, p2, _⟩ := I.list hb
  have e2 : its2 = [] := by
    cases r2
    rfl
  subst e2
  match xs, its, r1, p1, q with
  | [], [], _, p1, q => exact SeqAt.RcNeAt.lists (items := #[]) (items2 := #[]) (e := fun _ => false) (plainL_list p1) (plainL_list p2) rfl (by omega) (fun j h1 _ => absurd h1 (Nat.not_lt_zero j)) _ _ _ _ ⟨.bl false, H, I, rfl, q⟩
  | _ :: _, i :: is, _, p1, q => exact SeqAt.RcNeAt.lists_lengths (items := (i :: is).toArray) (items2 := #[]) (plainL_list p1) (plainL_list p2) (by simp) (by omega) _ _ _ _ ⟨.bl true, H, I, rfl, q⟩
theorem mem_int {js : List Int} {x : V} (h : x ∈ js.map V.int) : ∃ j ∈ js, x = .int j := by
  obtain ⟨j, hj, e⟩ := List.mem_map.mp h
  exact ⟨j, hj, e.symm⟩
section
variable {P : Program} {w0 : World} {K : PySem.W.Frag} {mg : Str → Option Value} {base : Heap} {C : Addr}
def spLSpan : Sp := fun vs H Q _ => ∃ (d w c : Addr) (n wide : Nat) (far : Bool), vs = [.ref d, .int (wide : Nat), .bl far] ∧ DrawAt H d w c n ∧ n < 2 ^ 39 ∧ 0 < wide ∧ wide ≤ 11 ∧
  ∀ H' t q, GoodS q → H' t = some (spO q) → DrawAt H' d w c (n + 4) → But2 d w H H' → Q (.ref t) H'
theorem ok_lspan {f : Addr} {fd : FuncData} (F : Fun K "_law_span" "_law_span" s__law_span f fd) (B : Bn7 mg) (c__law_take : Dq P w0 K mg base CX0 2 "_law_take" ["draw", "many"] spTake) (c__law_pick : Dq P w0 K mg base CX0 3 "_law_pick" ["draw", "some"] (spPick K)) : FnOk P w0 K mg base CX0 4 f fd ["draw", "wide", "is_far"] spLSpan := by
  refine F.ok sc__law_span (fun vs H Q E h => ?_) (fun cdv A outer s H vs Q E hr h => ?_)
  · obtain ⟨d, w, c, n, wide, far, rfl, _⟩ := h
    rfl
  · obtain ⟨d, w, c, n, wide, far, rfl, D0, hn, hw0, hw, q⟩ := h
    refine ⟨_, (Evl.pss_cut (ps_if (PW.pt (pw_and (pt_val (pv 2)) (pw_and1 (pt_cmpR op_eq (pe_q c__law_take hr (by decide) (by rfl) (pa_cons (pv 0) (pa_cons pe_int pa_nil))) pe_int (nomark _))))) (pss_cons (ps_set (i := 3) sc__law_span.nd rfl (Or.inl rfl) (pe_q c__law_pick hr (by decide) (by rfl) (pa_cons (pv 0) (pa_cons (pe_lst (pa_cons pe_int (pa_cons pe_int (pa_cons pe_int pa_nil)))) pa_nil))))
      (pss_one (ps_ret (pe_tup (pa_cons (pv 3) (pa_cons (pe_op op_add (pv 3) (pe_q c__law_pick hr (by decide) (by rfl) (pa_cons (pv 0) (pa_cons (pe_lst (pa_cons pe_int (pa_cons pe_int pa_nil))) pa_nil)))) (pa_cons (pe_q c__law_pick hr (by decide) (by rfl) (pa_cons (pv 0) (pa_cons (pe_lst (pa_cons pe_int (pa_cons pe_int (pa_cons pe_int pa_nil)))) pa_nil))) pa_nil))))))) pss_nil)
      (pss_cons (ps_set (i := 3) sc__law_span.nd rfl (Or.inl rfl) (pe_q c__law_take hr (by decide) (by rfl) (pa_cons (pv 0) (pa_cons (pv 1) pa_nil))))
      (pss_cons (ps_set (i := 4) sc__law_span.nd rfl (Or.inl rfl) (pe_callB (call_min2 rfl) (by rfl) B.min (by decide +kernel) (pa_cons pe_int (pa_cons (pe_op op_add (pv 3) (pe_q c__law_pick hr (by decide) (by rfl) (pa_cons (pv 0) (pa_cons (pe_lst (pa_cons pe_int (pa_cons pe_int (pa_cons pe_int (pa_cons pe_int (pa_cons pe_int (pa_cons pe_int (pa_cons pe_int pa_nil)))))))) pa_nil)))) pa_nil))))
      (pss_one (ps_ret (pe_tup (pa_cons (pv 3) (pa_cons (pv 4) (pa_cons (pe_q c__law_pick hr (by decide) (by rfl) (pa_cons (pv 0) (pa_cons (pe_lst (pa_cons pe_int (pa_cons pe_int (pa_cons pe_int (pa_cons pe_int (pa_cons pe_int (pa_cons pe_int (pa_cons pe_int (pa_cons pe_int (pa_cons pe_int pa_nil)))))))))) pa_nil))) pa_nil))))))))), ?_⟩
    have hs63 := sizeLine_eq
    have big : (2 : Nat) ^ 39 + 100 < 2 ^ 40 := by decide
    refine ⟨fun σ H' => σ = [some (.ref d), some (.int (wide : Nat)), some (.bl far), none, none] ∧ DrawAt H' d w c (n + 1) ∧ But2 d w H H', ?_, ?_⟩
    · refine ⟨_, rfl, far, rfl, ?_⟩
      cases far with
      | false => exact iteF (iteFd rfl ⟨rfl, D0.mono (by omega), But2.refl _ _ _⟩)
      | true =>
        refine iteT ⟨_, rfl, d, w, c, n, 3, rfl, D0, by omega, by decide, by decide, fun i H1 i0 i1 D1 b1 => ⟨rfl, _, rfl, ?_⟩⟩
        by_cases hi : i = 0
        · subst hi
          refine iteTd (by simp) ?_
          refine ⟨_, rfl, (by show 3 ≤ sizeLine; omega), fun a ha => ?_⟩
          have ka := D1.knowD ha
          refine ⟨d, w, c, a, n + 1, _, rfl, D1.new ha, by omega, ka.1, ka.2.1, SqL.of (xs := [0, 500, 990].map V.int) upd_same, by decide, by decide, fun x H2 hx D2 b2 => ?_⟩
          obtain ⟨f, hf, rfl⟩ := mem_int hx
          refine ⟨_, rfl, _, rfl, _, rfl, (by show 2 ≤ sizeLine; omega), fun a2 ha2 => ?_⟩
          have ka2 := D2.knowD ha2
          refine ⟨d, w, c, a2, n + 1 + 1, _, rfl, D2.new ha2, by omega, ka2.1, ka2.2.1, SqL.of (xs := [0, 9].map V.int) upd_same, by decide, by decide, fun x2 H3 hx2 D3 b3 => ?_⟩
          obtain ⟨g, hg, rfl⟩ := mem_int hx2
          refine ⟨_, _, rfl, rfl, _, rfl, (by show 3 ≤ sizeLine; omega), fun a3 ha3 => ?_⟩
          have ka3 := D3.knowD ha3
          refine ⟨d, w, c, a3, n + 1 + 1 + 1, _, rfl, D3.new ha3, by omega, ka3.1, ka3.2.1, SqL.of (xs := [0, 1, 999999999].map V.int) upd_same, by decide, by decide, fun x3 H4 hx3 D4 b4 => ?_⟩
          obtain ⟨e, he, rfl⟩ := mem_int hx3
          refine ⟨(by show 3 ≤ sizeLine; omega), fun t ht => ?_⟩
          simp only [List.mem_cons, List.not_mem_nil, or_false] at hf hg he
          have f0 : 0 ≤ f := by omega
          have g0 : 0 ≤ g := by omega
          obtain ⟨fn, rfl⟩ := Int.eq_ofNat_of_zero_le f0
          obtain ⟨gn, rfl⟩ := Int.eq_ofNat_of_zero_le g0
          refine q _ t ⟨fn, fn + gn, e⟩ ⟨by show fn ≤ fn + gn; omega, by show fn + gn ≤ 999; omega, by show 0 ≤ e; omega⟩ ?_ (D4.new ht) ?_
          · rw [upd_same]
            rfl
          · exact (b1.new ha).trans ((b2.new ha2).trans ((b3.new ha3).trans (b4.new ht)))
        · exact iteFd (by simpa using hi) ⟨rfl, D1, b1⟩
    rintro σ H1 ⟨rfl, D1, b1⟩
    refine ⟨_, rfl, _, rfl, d, w, c, n + 1, (wide : Nat), rfl, D1, by omega, by omega, by omega, fun f H2 f0 f1 D2 b2 => ?_⟩
    obtain ⟨fn, rfl⟩ := Int.eq_ofNat_of_zero_le f0
    refine ⟨_, rfl, _, rfl, (by show 7 ≤ sizeLine; omega), fun a ha => ?_⟩
    have ka := D2.knowD ha
    refine ⟨d, w, c, a, n + 1 + 1, _, rfl, D2.new ha, by omega, ka.1, ka.2.1, SqL.of (xs := [0, 0, 1, 2, 3, 5, 11].map V.int) upd_same, by decide, by decide, fun x H3 hx D3 b3 => ?_⟩
    obtain ⟨g, hg, rfl⟩ := mem_int hx
    refine ⟨_, _, rfl, rfl, _, _, rfl, _, rfl, _, rfl, _, rfl, (by show 9 ≤ sizeLine; omega), fun a3 ha3 => ?_⟩
    have ka3 := D3.knowD ha3
    refine ⟨d, w, c, a3, n + 1 + 1 + 1, _, rfl, D3.new ha3, by omega, ka3.1, ka3.2.1, SqL.of (xs := [0, 1, 1, 2, 2, 3, 4, 6, 100000].map V.int) upd_same, by decide, by decide, fun x3 H4 hx3 D4 b4 => ?_⟩
    obtain ⟨e, he, rfl⟩ := mem_int hx3
    refine ⟨(by show 3 ≤ sizeLine; omega), fun t ht => ?_⟩
    simp only [List.mem_cons, List.not_mem_nil, or_false] at hg he
    have hfn : (fn : Int) < (wide : Int) := f1
    obtain ⟨ln, hln, h1, h2⟩ : ∃ ln : Nat, (if ((fn : Int) + g) < 11 then ((fn : Int) + g) else 11) = (ln : Int) ∧ fn ≤ ln ∧ ln ≤ 999 := by
      split
      · exact ⟨((fn : Int) + g).toNat, by omega, by omega, by omega⟩
      · exact ⟨11, rfl, by omega, by omega⟩
    refine q _ t ⟨fn, ln, e⟩ ⟨h1, h2, by show 0 ≤ e; omega⟩ ?_ (D4.new ht) ?_
    · rw [upd_same]
      show some (HO.tup [.int (fn : Nat), .int (if ((fn : Nat) : Int) + g < 11 then ((fn : Nat) : Int) + g else 11), .int e]) = _
      rw [hln]
    · exact b1.trans ((b2.new ha).trans ((b3.new ha3).trans (b4.new ht)))
end
end SA

set_option Elab.async false
set_option linter.all false
set_option maxRecDepth 100000
set_option maxHeartbeats 4000000
namespace SA
open PySem PySem.Spec PyProof.Rows L2 K83 M57
section
variable {P : Program} {w0 : World} {K : PySem.W.Frag} {mg : Str → Option Value} {base : Heap} {C : Addr}
def spLSpans : Sp := fun vs H Q _ => ∃ (d w c : Addr) (n : Nat), vs = [.ref d] ∧ DrawAt H d w c n ∧ n < 2 ^ 38 ∧
  ∀ H' sa ss sas, SpL H' sa ss sas → (∀ q ∈ ss, GoodS q) → ss.length ≤ 14 → DrawAt H' d w c (n + 100) → But2 d w H H' → H sa = none → Q (.ref sa) H'
theorem ok_lspans {f : Addr} {fd : FuncData} (F : Fun K "_law_spans" "_law_spans" s__law_spans f fd) (B : Bn7 mg) (c__law_take : Dq P w0 K mg base CX0 2 "_law_take" ["draw", "many"] spTake) (c__law_pick : Dq P w0 K mg base CX0 3 "_law_pick" ["draw", "some"] (spPick K)) (c__law_span : Dq P w0 K mg base CX0 4 "_law_span" ["draw", "wide", "is_far"] spLSpan) : FnOk P w0 K mg base CX0 5 f fd ["draw"] spLSpans := by
  refine F.ok sc__law_spans (fun vs H Q E h => ?_) (fun cdv A outer s H vs Q E hr h => ?_)
  · obtain ⟨d, w, c, n, rfl, _⟩ := h
    rfl
  · obtain ⟨d, w, c, n, rfl, D0, hn, q⟩ := h
    refine ⟨_, (pss_cons (ps_set (i := 1) sc__law_spans.nd rfl (Or.inl rfl) (pe_lst pa_nil))
      (pss_cons (ps_par (i := 2) (j := 3) rfl sc__law_spans.nd rfl rfl (by decide) rfl rfl (pa_cons (pe_op op_add pe_int (pe_q c__law_take hr (by decide) (by rfl) (pa_cons (pv 0) (pa_cons pe_int pa_nil)))) (pa_cons (pe_cmpR op_eq (pe_q c__law_take hr (by decide) (by rfl) (pa_cons (pv 0) (pa_cons pe_int pa_nil))) pe_int (nomark _)) pa_nil)) rfl)
      (pss_cons (ps_for PassesOwn.never rfl (pi_range1 (by rfl) B.range (pa_cons (pe_q c__law_take hr (by decide) (by rfl) (pa_cons (pv 0) (pa_cons pe_int pa_nil))) pa_nil)) (pg_name (i := 4) sc__law_spans.nd rfl (Or.inl rfl)) (Evl.pss_cut (ps_set (i := 5) sc__law_spans.nd rfl (Or.inl rfl) (pe_and (pe_cmpR (op_ne_nilL hr.units) (pv 1) (pe_lst pa_nil) (nomark _)) (pe_one (pe_cmpR op_eq (pe_q c__law_take hr (by decide) (by rfl) (pa_cons (pv 0) (pa_cons pe_int pa_nil))) pe_int (nomark _)))))
      (pss_one (ps_expr (pe_bm PySem.F.plainAttrs_list PySem.F.slot_list_append PySem.F.type_list_append mt_append (pv 1) (pa_cons (pe_ifExp (pt_val (pv 5)) (pe_q c__law_pick hr (by decide) (by rfl) (pa_cons (pv 0) (pa_cons (pv 1) pa_nil))) (pe_q c__law_span hr (by decide) (by rfl) (pa_cons (pv 0) (pa_cons (pv 2) (pa_cons (pv 3) pa_nil))))) pa_nil))))))
      (pss_one (ps_ret (pv 1)))))), ?_⟩
    have hs63 := sizeLine_eq
    have big : (2 : Nat) ^ 38 + 1000 < 2 ^ 39 := by decide
    refine ⟨Nat.zero_le _, fun fo hfo => ?_⟩
    have D1 := D0.new (o := .lst []) hfo
    have kfo := D0.knowD hfo
    have b1 : But2 d w H (upd H fo (.lst [])) := (But2.refl _ _ _).new hfo
    have e1 : (upd H fo (.lst [])) fo = some (.lst []) := upd_same
    change tSeq _ _ _ _ (upd H fo (.lst []))
    generalize upd H fo (.lst []) = H1 at D1 b1 e1
    refine ⟨_, rfl, d, w, c, n, 10, rfl, D1, by omega, by decide, by decide, fun i H2 i0 i1 D2 b2 => ?_⟩
    obtain ⟨wn, rfl⟩ := Int.eq_ofNat_of_zero_le i0
    refine ⟨_, _, rfl, rfl, _, rfl, d, w, c, n + 1, 8, rfl, D2, by omega, by decide, by decide, fun j H3 j0 j1 D3 b3 => ⟨rfl, _, _, rfl, ?_⟩⟩
    have e3 := b3 _ _ (b2 _ _ e1 kfo.1 kfo.2.1) kfo.1 kfo.2.1
    have bH3 := (b1.trans b2).trans b3
    refine ⟨_, rfl, d, w, c, n + 2, 15, rfl, D3, by omega, by decide, by decide, fun m H4 m0 m1 D4 b4 => ⟨m, rfl, by omega, by omega, ?_⟩⟩
    obtain ⟨mn, rfl⟩ := Int.eq_ofNat_of_zero_le m0
    have e4 := b4 _ _ e3 kfo.1 kfo.2.1
    have bH4 := bH3.trans b4
    rw [show ((mn : Nat) : Int).toNat = mn from rfl]
    have hwn : (wn : Int) < 10 := i1
    have ew : (2 : Int) + (wn : Nat) = ((2 + wn : Nat) : Int) := by omega
    refine for_range (lo := 0) (n := mn) (fun i σ H' => (∃ y4 y5, σ = [some (.ref d), some (.ref fo), some (.int (2 + (wn : Nat))), some (.bl (decide (V.int j = V.int 0))), y4, y5]) ∧ ∃ ss sas, SpL H' fo ss sas ∧ (∀ q ∈ ss, GoodS q) ∧ ss.length = i ∧ DrawAt H' d w c (n + 3 + 6 * i) ∧ But2 d w H H') ⟨⟨_, _, rfl⟩, [], [], ⟨e4, Objs.nil⟩, by simp, rfl, D4, bH4⟩ ?_ ?_
    · rintro i σ H5 hi ⟨⟨y4, y5, rfl⟩, ss, sas, sp, gd, hl, D5, b5⟩
      have asl : sas.length = ss.length := sp.o.len
      have him : (i : Int) < 14 := by have : (mn : Int) < 15 := m1; omega
      -- what is told of one more
      have app : ∀ {H9 : Hp} {t : Addr} {g : Spn} {y5 : Option V}, GoodS g → H9 t = some (spO g) → SpL H9 fo ss sas → DrawAt H9 d w c (n + 3 + 6 * i + 6) → But2 d w H H9 → ∃ l xs y, V.ref fo = .ref l ∧ [V.ref t] = [y] ∧ H9 l = some (.lst xs) ∧ xs.length < sizeLine ∧ ((∃ y4 y5, [some (V.ref d), some (.ref fo), some (.int (2 + (wn : Nat))), some (.bl (decide (V.int j = V.int 0))), some (.int (0 + (i : Nat))), y5] = [some (V.ref d), some (.ref fo), some (.int (2 + (wn : Nat))), some (.bl (decide (V.int j = V.int 0))), y4, y5]) ∧ ∃ ss sas, SpL (upd H9 l (.lst (xs ++ [y]))) fo ss sas ∧ (∀ q ∈ ss, GoodS q) ∧ ss.length = i + 1 ∧ DrawAt (upd H9 l (.lst (xs ++ [y]))) d w c (n + 3 + 6 * (i + 1)) ∧ But2 d w H (upd H9 l (.lst (xs ++ [y])))) := fun {H9 t g y5} gg et sp9 D9 b9 => by
        refine ⟨fo, _, _, rfl, rfl, sp9.d, by rw [List.length_map, asl]; omega, ⟨_, y5, rfl⟩, ss ++ [g], sas ++ [t], ⟨?_, ?_⟩, ?_, by rw [List.length_append, hl]; rfl, D9.upd kfo.1 kfo.2.1 kfo.2.2, b9.mut hfo⟩
        · rw [upd_same, List.map_append]
          rfl
        · refine Objs.snoc (sp9.o.mono fun b x e => ?_) ?_
          · rw [upd_ne (ne_of e sp9.d (by intro z; cases z))]
            exact e
          · rw [upd_ne (ne_of et sp9.d (by intro z; cases z))]
            exact et
        · intro q hq
          rcases List.mem_append.mp hq with hq | hq
          · exact gd q hq
          · rw [List.mem_singleton.mp hq]
            exact gg
      have keep' : ∀ {H8 H9 : Hp} {nn : Nat}, SpL H8 fo ss sas → DrawAt H8 d w c nn → But2 d w H8 H9 → SpL H9 fo ss sas := fun {H8 H9 nn} sp8 D8 b => by
        obtain ⟨⟨_, _, _, _, ed⟩, ⟨_, ew⟩, _, _⟩ := D8
        exact ⟨b _ _ sp8.d kfo.1 kfo.2.1, sp8.o.mono fun a x e => b _ _ e (ne_of e ed (by intro z; cases z)) (ne_of e ew (by intro z; cases z))⟩
      refine ⟨fun σ H' => ∃ b : Bool, σ = [some (.ref d), some (.ref fo), some (.int (2 + (wn : Nat))), some (.bl (decide (V.int j = V.int 0))), some (.int (0 + (i : Nat))), some (.bl b)] ∧ (b = true → ss ≠ []) ∧ SpL H' fo ss sas ∧ DrawAt H' d w c (n + 3 + 6 * i + 1) ∧ But2 d w H H', ?_, ?_⟩
      · refine ⟨_, rfl, (Nat.zero_le _), fun nl hnl => ?_⟩
        have knl := D5.knowD hnl
        have D6 := D5.new (o := .lst []) hnl
        have sp6 := sp.same (Same.new (o := .lst []) hnl)
        have b6 : But2 d w H (upd H5 nl (.lst [])) := b5.new hnl
        refine ⟨fo, nl, _, rfl, rfl, SqL.of sp6.d, SqL.of upd_same, _, rfl, ?_⟩
        generalize upd H5 nl (.lst []) = H6 at D6 sp6 b6
        cases hs : sas with
        | nil => exact iteFd rfl ⟨false, rfl, (fun h => by cases h), hs ▸ sp6, D6.mono (by omega), b6⟩
        | cons a0 l0 =>
          have sn : ss ≠ [] := fun z => by
            rw [z, hs] at asl
            simp at asl
          refine iteTd rfl ⟨_, rfl, d, w, c, n + 3 + 6 * i, 6, rfl, D6, by omega, by decide, by decide, fun k H7 k0 k1 D7 b7 => ⟨rfl, _, rfl, fun _ => sn, hs ▸ keep' sp6 D6 b7, D7, b6.trans b7⟩⟩
      · rintro σ H7 ⟨b, rfl, hb, sp7, D7, b7⟩
        refine ⟨_, rfl, .inl ⟨rfl, _, SqL.of sp7.d⟩, _, rfl, b, rfl, ?_⟩
        cases b with
        | true =>
          refine iteT ⟨_, rfl, _, rfl, d, w, c, fo, n + 3 + 6 * i + 1, _, rfl, D7, by omega, kfo.1, kfo.2.1, SqL.of sp7.d, ?_, ?_, fun x H9 hx D9 b9 => ?_⟩
          · intro z
            have := congrArg List.length z
            rw [List.length_map, asl] at this
            exact hb rfl (List.length_eq_zero_iff.mp this)
          · rw [List.length_map, asl]
            omega
          · obtain ⟨t, ht, rfl⟩ := List.mem_map.mp hx
            obtain ⟨jj, hjj⟩ := List.mem_iff_getElem?.mp ht
            have hjl : jj < ss.length := by rw [← asl]; exact (List.getElem?_eq_some_iff.mp hjj).1
            have e9 := (keep' sp7 D7 b9).o.at_ jj _ t (List.getElem?_eq_getElem hjl) hjj
            obtain ⟨l, xs, y, h1, h2, h3, h4, h5, h6⟩ := app (y5 := some (.bl true)) (gd _ (List.getElem_mem hjl)) e9 (keep' sp7 D7 b9) (D9.mono (by omega)) (b7.trans b9)
            exact ⟨l, xs, y, h1, h2, h3, h4, ⟨_, _, rfl⟩, h6⟩
        | false =>
          refine iteF ⟨_, rfl, _, rfl, _, rfl, d, w, c, n + 3 + 6 * i + 1, 2 + wn, decide (V.int j = V.int 0), (by show [V.ref d, V.int (2 + (wn : Nat)), V.bl (decide (V.int j = V.int 0))] = _; rw [ew]), D7, by omega, by omega, by omega, fun H9 t g gg et D9 b9 => ?_⟩
          obtain ⟨l, xs, y, h1, h2, h3, h4, h5, h6⟩ := app (y5 := some (.bl false)) gg et (keep' sp7 D7 b9) (D9.mono (by omega)) (b7.trans b9)
          exact ⟨l, xs, y, h1, h2, h3, h4, ⟨_, _, rfl⟩, h6⟩
    · rintro σ H5 ⟨⟨y4, y5, rfl⟩, ss, sas, sp, gd, hl, D5, b5⟩
      have : (mn : Int) < 15 := m1
      exact ⟨_, rfl, q H5 fo ss sas sp gd (by omega) (D5.mono (by omega)) b5 hfo⟩
end
end SA

set_option Elab.async false
set_option linter.all false
set_option maxRecDepth 100000
set_option maxHeartbeats 4000000
namespace SA
open PySem PySem.Spec PyProof.Rows L2 K83 M57
section
variable {P : Program} {w0 : World} {K : PySem.W.Frag} {mg : Str → Option Value} {base : Heap} {C : Addr}
def spLPrices : Sp := fun vs H Q _ => ∃ (d w c : Addr) (n : Nat) (x : V), vs = [.ref d, x] ∧ DrawAt H d w c n ∧ n < 2 ^ 38 ∧
  ∀ (H' : Hp) (pa : Addr) (ps : List Int), H' pa = some (.lst (ps.map V.int)) → (∀ q ∈ ps, 0 ≤ q) → ps.length ≤ 1000 → DrawAt H' d w c (n + 100) → But2 d w H H' → H pa = none → Q (.ref pa) H'
theorem ok_lprices {f : Addr} {fd : FuncData} (F : Fun K "_law_prices" "_law_prices" s__law_prices f fd) (B : Bn7 mg) (c__law_take : Dq P w0 K mg base CX0 2 "_law_take" ["draw", "many"] spTake) (c__law_pick : Dq P w0 K mg base CX0 3 "_law_pick" ["draw", "some"] (spPick K)) : FnOk P w0 K mg base CX0 4 f fd ["draw", "spans"] spLPrices := by
  refine F.ok sc__law_prices (fun vs H Q E h => ?_) (fun cdv A outer s H vs Q E hr h => ?_)
  · obtain ⟨d, w, c, n, x, rfl, _⟩ := h
    rfl
  · obtain ⟨d, w, c, n, x, rfl, D0, hn, q⟩ := h
    refine ⟨_, (pss_cons (ps_setLc (i := 2) (own := [("k", 3)]) (g := (gName 3)) (tt := tYes) (by rfl) sc__law_prices.nd rfl rfl (sw_true rfl rfl rfl (by decide +kernel)) (pi_range1 (by rfl) B.range (pa_cons (pe_q c__law_pick hr (by decide) (by rfl) (pa_cons (pv 0) (pa_cons (pe_lst (pa_cons pe_int (pa_cons pe_int (pa_cons pe_int (pa_cons pe_int pa_nil))))) pa_nil))) pa_nil)) (blkOk_by (N := n__law_prices) (sc := defScope s__law_prices) (by decide +kernel)) (fun _ _ _ _ _ => (pg_name (i := 3) sc__law_prices.nd rfl (Or.inl rfl))) (fun _ _ _ _ _ => pts_nil) (fun _ _ _ _ _ => (pe_q c__law_pick hr (by decide) (by rfl) (pa_cons (pv 0) (pa_cons (pe_lst (pa_cons pe_int (pa_cons pe_int (pa_cons pe_int (pa_cons pe_int (pa_cons pe_int (pa_cons pe_int (pa_cons pe_int pa_nil)))))))) pa_nil)))))
      (pss_one (ps_ret (pe_op op_cat (pv 2) (pe_ifExp (PW.pt (pw_and (pt_cmpR op_eq (pe_q c__law_take hr (by decide) (by rfl) (pa_cons (pv 0) (pa_cons pe_int pa_nil))) pe_int (nomark _)) (pw_and1 (pt_cmpR op_eq (pe_callB call_len_seq (by rfl) B.len PySem.boot_len (pa_cons (pv 2) pa_nil)) pe_int (nomark _))))) (pe_lc (own := [("k", 3)]) (g := (gName 3)) (tt := tYes) (by rfl) sc__law_prices.nd (pi_range1 (by rfl) B.range (pa_cons pe_int pa_nil)) (blkOk_by (N := n__law_prices) (sc := defScope s__law_prices) (by decide +kernel)) (fun _ _ _ _ _ => (pg_name (i := 3) sc__law_prices.nd rfl (Or.inl rfl))) (fun _ _ _ _ _ => pts_nil) (fun _ _ _ _ _ => pe_int)) (pe_lst pa_nil)))))), ?_⟩
    have hs63 := sizeLine_eq
    have big : (2 : Nat) ^ 38 + 1000 < 2 ^ 39 ∧ (2 : Nat) ^ 39 < 2 ^ 40 := by decide
    refine ⟨_, rfl, (by show 4 ≤ sizeLine; omega), fun a ha => ?_⟩
    have ka := D0.knowD ha
    refine ⟨d, w, c, a, n, _, rfl, D0.new ha, by omega, ka.1, ka.2.1, SqL.of (xs := [0, 3, 12, 14].map V.int) upd_same, by decide, by decide, fun x2 H1 hx D1 b1 => ?_⟩
    obtain ⟨m, hm, rfl⟩ := mem_int hx
    simp only [List.mem_cons, List.not_mem_nil, or_false] at hm
    have m0 : 0 ≤ m := by omega
    have m14 : m ≤ 14 := by omega
    obtain ⟨mn, rfl⟩ := Int.eq_ofNat_of_zero_le m0
    have bH1 : But2 d w H H1 := ((But2.refl _ _ _).new ha).trans b1
    refine ⟨_, rfl, by omega, by omega, fun D hD => ?_⟩
    rw [show ((mn : Nat) : Int).toNat = mn from rfl]
    have kD := D1.knowD hD
    refine lc_range (lo := 0) (n := mn) (fun i H' => ∃ ps : List Int, H' D = some (.lst (ps.map V.int)) ∧ ps.length = i ∧ (∀ q ∈ ps, 0 ≤ q) ∧ DrawAt H' d w c (n + 1 + i) ∧ But2 d w H1 H') ⟨[], upd_same, rfl, by simp, D1.new hD, (But2.refl _ _ _).new hD⟩ ?_ ?_
    · rintro i H2 hi ⟨ps, e2, l2, p2, D2, b2⟩
      refine ⟨rfl, yes ?_⟩
      refine ⟨_, rfl, (by show 7 ≤ sizeLine; omega), fun a2 ha2 => ?_⟩
      have ka2 := D2.knowD ha2
      refine ⟨d, w, c, a2, n + 1 + i, _, rfl, D2.new ha2, by omega, ka2.1, ka2.2.1, SqL.of (xs := [0, 0, 0, 1, 2, 3, 5].map V.int) upd_same, by decide, by decide, fun x3 H3 hx3 D3 b3 => ?_⟩
      obtain ⟨j, hj, rfl⟩ := mem_int hx3
      simp only [List.mem_cons, List.not_mem_nil, or_false] at hj
      have e3 := b3 _ _ ((Same.new ha2) _ _ e2) kD.1 kD.2.1
      refine ⟨_, e3, by rw [List.length_map, l2]; omega, ps ++ [j], ?_, by rw [List.length_append, l2]; rfl, ?_, D3.upd kD.1 kD.2.1 kD.2.2, ?_⟩
      · rw [upd_same, List.map_append]
        rfl
      · intro q hq
        rcases List.mem_append.mp hq with hq | hq
        · exact p2 q hq
        · rw [List.mem_singleton.mp hq]
          omega
      · exact ((b2.new ha2).trans b3).mut hD
    rintro H2 ⟨ps, e2, l2, p2, D2, b2⟩
    have hDH : H D = none := bH1.free hD kD.1 kD.2.1
    have bH2 := bH1.trans b2
    refine ⟨_, rfl, _, rfl, d, w, c, n + 1 + mn, 9, rfl, D2, by omega, by decide, by decide, fun j H3 j0 j1 D3 b3 => ⟨rfl, _, rfl, ?_⟩⟩
    have e3 := b3 _ _ e2 kD.1 kD.2.1
    have bH3 := bH2.trans b3
    -- with what else behind it
    have fin : ∀ (H4 : Hp) (z : Addr) (zs : List Int), H4 z = some (.lst (zs.map V.int)) → (∀ q ∈ zs, 0 ≤ q) → ps.length + zs.length ≤ 1000 → Same H3 H4 → rCat (V.ref D) (V.ref z) H4 Q := fun H4 z zs ez hz lz s4 => by
      refine ⟨D, z, _, _, rfl, rfl, s4 _ _ e3, ez, by rw [List.length_map, List.length_map]; omega, fun p hp => ?_⟩
      have D4 := (D3.same s4).new (o := .lst (ps.map V.int ++ zs.map V.int)) hp
      have b4 : But2 d w H H4 := bH3.trans (Same.but2 s4)
      have kp := (D3.same s4).knowD hp
      refine q _ p (ps ++ zs) ?_ ?_ (by rw [List.length_append]; omega) (D4.mono (by omega)) (b4.new hp) (b4.free hp kp.1 kp.2.1)
      · rw [upd_same, List.map_append]
      · intro q hq
        rcases List.mem_append.mp hq with hq | hq
        · exact p2 q hq
        · exact hz q hq
    have none_ : tLst tNil [some (V.ref d), some x, some (V.ref D), none] H3 fun y H4 => rCat (V.ref D) y H4 Q := ⟨Nat.zero_le _, fun z hz => fin _ z [] upd_same (by simp) (by simp; omega) (Same.new hz)⟩
    by_cases hj : j = 0
    · refine iteTd (by rw [hj]; rfl) ?_
      refine ⟨_, rfl, D, _, rfl, .inl (SqL.of e3), rfl, _, rfl, ?_⟩
      by_cases hl : ps.length = 14
      · refine iteTd (by rw [List.length_map, hl]; rfl) ?_
        refine ⟨_, rfl, by decide, by decide, fun z hz => ?_⟩
        refine lc_range (lo := 0) (n := 986) (fun i H' => Same H3 H' ∧ H' z = some (.lst ((List.replicate i (0 : Int)).map V.int))) ⟨Same.new hz, upd_same⟩ ?_ ?_
        · rintro i H4 hi ⟨s4, e4⟩
          refine ⟨rfl, _, e4, by rw [List.length_map, List.length_replicate]; omega, Same.upd' s4 hz, ?_⟩
          rw [upd_same, List.replicate_succ', List.map_append]
          rfl
        · rintro H4 ⟨s4, e4⟩
          exact fin H4 z _ e4 (fun q hq => by rw [(List.mem_replicate.mp hq).2]; exact Int.le_refl _) (by rw [List.length_replicate]; omega) s4
      · refine iteFd ?_ none_
        rw [List.length_map, decide_eq_false_iff_not]
        intro h
        have := V.int.inj h
        omega
    · refine iteFd (by simpa using hj) (iteFd rfl none_)
end
end SA

set_option Elab.async false
set_option linter.all false
set_option maxRecDepth 100000
set_option maxHeartbeats 4000000
namespace SA
open PySem PySem.Spec PyProof.Rows L2 K83 M57
/-- f(a = .., b = ..), the names in their order -/
def kwSame {α : Type} (m : Nat) : List α → List α → List α := fun us zs => if us.length = 0 ∧ zs.length = m then zs else []
def spD (q : Spn) : PyData := .tuple [.int (q.f : Nat), .int (q.l : Nat), .int q.c]
theorem shaped_spans (ss : List Spn) : SeqAt.shaped (.list (ss.map spD)) = true := by
  have h1 : ∀ l : List Spn, PyData.canLayAll0 (l.map spD) = true := fun l => by
    induction l with
    | nil => rfl
    | cons q l ih =>
      rw [List.map_cons]
      simp only [PyData.canLayAll0, ih, Bool.and_true]
      rfl
  have h2 : ∀ l : List Spn, PyData.depthAll (l.map spD) ≤ 2 := fun l => by
    induction l with
    | nil => exact Nat.zero_le _
    | cons q l ih =>
      rw [List.map_cons]
      simp only [PyData.depthAll]
      have : (spD q).depth ≤ 2 := by
        unfold spD
        simp only [PyData.depth, PyData.depthAll]
        decide
      omega
  show (PyData.canLay0 _ && decide _) = true
  rw [Bool.and_eq_true]
  refine ⟨?_, decide_eq_true ?_⟩
  · simp only [PyData.canLay0, h1]
  · simp only [PyData.depth]
    have := h2 ss
    omega
theorem LL_max0 {ss : List Spn} {m : Int} (hm : m ∈ 0 :: ss.map fun q => ((q.l : Nat) : Int) + 1) (hx : ∀ y ∈ 0 :: ss.map (fun q => ((q.l : Nat) : Int) + 1), y ≤ m) : m = (LL ss : Nat) := by
  by_cases hs : ss = []
  · subst hs
    rcases List.mem_cons.mp hm with h | h
    · rw [h]
      rfl
    · cases h
  · obtain ⟨r, hr, e⟩ := LL_at hs
    have h2 := hx _ (List.mem_cons_of_mem _ (List.mem_map_of_mem (f := fun q : Spn => ((q.l : Nat) : Int) + 1) hr))
    rcases List.mem_cons.mp hm with h | h
    · omega
    · obtain ⟨q, hq, rfl⟩ := List.mem_map.mp h
      have h1 := LL_lt q hq
      have h2 : ((r.l : Nat) : Int) + 1 ≤ ((q.l : Nat) : Int) + 1 := h2
      omega
theorem leftCost_sum (p : Pb) (k : Nat → Bool) : leftCost p k = (((List.range p.n).filter fun i => !k i).map p.c).sum := by
  unfold leftCost
  induction p.n with
  | zero => rfl
  | succ n ih =>
    show sumTo _ n + (if k n = true then 0 else p.c n) = _
    rw [ih, List.range_succ, List.filter_append, List.map_append, List.sum_append]
    by_cases h : k n = true
    · rw [if_pos h]
      simp [h]
    · rw [if_neg h]
      simp [h]
theorem PL_range {L y : Nat} {P : Nat → Int} (h : y < L) : PL ((List.range L).map P) y = P y := by
  unfold PL
  rw [List.getElem?_map, List.getElem?_range h]
  rfl
theorem worth_PL (p : Pb) (P : Nat → Int) (L : Nat) (R : Int) : M57.worth p (PL ((List.range L).map P)) ((List.range L).map P).length R = M57.worth p P L R := by
  rw [List.length_map, List.length_range]
  unfold M57.worth
  rw [sumTo_congr (g := PL ((List.range L).map P)) (h := P) fun i hi => PL_range hi]
  congr 1
  refine sumTo_congr fun i _ => ?_
  congr 1
  refine sumTo_congr fun y hy => ?_
  rw [PL_range hy]
theorem SpL.dp {K : PySem.W.Frag} {H : Hp} {sa : Addr} {ss : List Spn} {sas : List Addr} (h : SpL H sa ss sas) : Dp K H (.ref sa) (.list (ss.map spD)) := by
  refine .lst (SqL.of h.d) ?_
  have : ∀ (ss : List Spn) (sas : List Addr), Objs spO H sas ss → DpAll K H (sas.map V.ref) (ss.map spD) := fun ss => by
    induction ss with
    | nil =>
      intro sas o
      have := o.len
      rw [List.length_eq_zero_iff.mp this]
      exact .nil
    | cons q l ih =>
      intro sas o
      cases sas with
      | nil =>
        have := o.len
        simp at this
      | cons a as =>
        refine .cons ?_ (ih as ⟨by have := o.len; simpa using this, fun i x b h1 h2 => o.at_ (i + 1) x b (by simpa using h1) (by simpa using h2)⟩)
        have e := o.at_ 0 q a rfl rfl
        exact .tup (SqT.of e) (.cons (.int _) (.cons (.int _) (.cons (.int _) .nil)))
  exact this ss sas h.o
section
variable {P : Program} {w0 : World} {K : PySem.W.Frag} {mg : Str → Option Value} {base : Heap} {C BS BR BP : Addr}
def spLR : Sp := fun vs H Q _ => ∃ (sa la : Addr) (R : Nat) (ss : List Spn) (sas : List Addr) (k : Nat → Bool), vs = [.ref sa, .int (R : Nat), .ref la] ∧ SpL H sa ss sas ∧ ss.length ≤ 14 ∧ (∀ q ∈ ss, GoodS q) ∧ H la = some (.lst (((List.range ss.length).filter fun i => !k i).map fun i => V.int (i : Nat))) ∧
  (∀ y, y < LL ss → cov (pb ss (LL ss)) k y ≤ R) ∧ (∀ i, i < ss.length → k i = false → ∃ y, (pb ss (LL ss)).f i ≤ y ∧ y ≤ (pb ss (LL ss)).l i ∧ R ≤ cov (pb ss (LL ss)) k y) ∧ ∀ H', Same H H' → Q (.bl true) H'
def spRight : Sp := fun vs H Q _ => ∃ (sa : Addr) (R : Nat) (ss : List Spn) (sas : List Addr), vs = [.ref sa, .int (R : Nat)] ∧ SpL H sa ss sas ∧ ss.length ≤ 14 ∧ (∀ q ∈ ss, GoodS q) ∧ R ≤ 20 ∧
  ∀ (H' : Hp) (t : Addr) (k : Nat → Bool), H' t = some (.tup [.bl true, .int (leftCost (pb ss (LL ss)) k)]) → (∀ y, y < LL ss → cov (pb ss (LL ss)) k y ≤ R) → Same H H' → Q (.ref t) H'
theorem ok_lright {f : Addr} {fd : FuncData} (F : Fun K "_law_right" "_law_right" s__law_right f fd) (B : Bn7 mg) (k_least : Dk P w0 K mg base (L2.CX P w0) 6 "least" ["spans", "room"] ["spans", "room"] (kwSame 2) (spLeast K BS BR)) (k_worth : Dk P w0 K mg base (L2.CX P w0) 6 "worth" ["spans", "room", "prices"] ["spans", "room", "prices"] (kwSame 3) (spWorth K BS BR BP))
    (c__law_left_right : Dq P w0 K mg base CX0 2 "_law_left_right" ["spans", "room", "left"] spLR) (c__law_numbers : Dq P w0 K mg base CX0 1 "_law_numbers" ["some", "low"] spNums) (c__law_value : Dq P w0 K mg base CX0 2 "_law_value" ["spans", "room", "prices"] spVal) : FnOk P w0 K mg base CX0 7 f fd ["spans", "room"] spRight := by
  refine F.ok sc__law_right (fun vs H Q E h => ?_) (fun cdv A outer s H vs Q E hr h => ?_)
  · obtain ⟨sa, R, ss, sas, rfl, _⟩ := h
    rfl
  · obtain ⟨sa, R, ss, sas, rfl, sp, hn, gd, hR, q⟩ := h
    refine ⟨_, (pss_cons (ps_set (i := 2) sc__law_right.nd rfl (Or.inl rfl) (pe_callTy call_list_of (by rfl) B.list (by decide +kernel) (pa_cons (pv 0) pa_nil)))
      (pss_cons (ps_set (i := 3) sc__law_right.nd rfl (Or.inl rfl) (pe_qK0 k_least hr (by decide) (by rfl) passN (pk_cons (pv 2) (pk_cons (pv 1) pk_nil))))
      (pss_cons (ps_if (PW.pt (pw_or (pt_cmpR (op_neD hr.units) (pv 2) (pv 0) (nomark _)) (pw_or (pt_not (pt_val (pe_callB call_isi (by rfl) B.isinstance (by decide +kernel) (pa_cons (pv 3) (pa_cons (pe_bltn (v := .ty "tuple") (by rfl) B.tuple (by decide +kernel) rfl) pa_nil))))) (pw_or1 (pt_cmpR op_ne (pe_callB call_len_seq (by rfl) B.len PySem.boot_len (pa_cons (pv 3) pa_nil)) pe_int (nomark _)))))) (pss_one (ps_ret (pe_tup (pa_cons pe_bl (pa_cons pe_int pa_nil))))) pss_nil)
      (pss_cons (ps_asg (pv 3) (pg_tup (by rfl) (pgs_cons (pg_name (i := 4) sc__law_right.nd rfl (Or.inl rfl)) (pgs_cons (pg_name (i := 5) sc__law_right.nd rfl (Or.inl rfl)) pgs_nil))))
      (pss_cons (ps_if (PW.pt (pw_or (pt_not (pt_val (pe_q c__law_left_right hr (by decide) (by rfl) (pa_cons (pv 0) (pa_cons (pv 1) (pa_cons (pv 4) pa_nil)))))) (pw_or1 (pt_not (pt_val (pe_q c__law_numbers hr (by decide) (by rfl) (pa_cons (pv 5) (pa_cons pe_int pa_nil)))))))) (pss_one (ps_ret (pe_tup (pa_cons pe_bl (pa_cons pe_int pa_nil))))) pss_nil)
      (pss_cons (ps_if (pt_cmpR op_ne (pe_callB call_len_seq (by rfl) B.len PySem.boot_len (pa_cons (pv 5) pa_nil)) (pe_callB (cr_max rfl) (by rfl) B.max (by decide +kernel) (pa_cons (pe_op op_cat (pe_lst (pa_cons pe_int pa_nil)) (pe_lc (own := [("span", 9)]) (g := (gName 9)) (tt := tYes) (by rfl) sc__law_right.nd (pi_list (pv 0)) (blkOk_by (N := n__law_right) (sc := defScope s__law_right) (by decide +kernel)) (fun _ _ _ _ _ => (pg_name (i := 9) sc__law_right.nd rfl (Or.inl rfl))) (fun _ _ _ _ _ => pts_nil) (fun _ _ _ _ _ => (pe_op op_add (pe_ix (ix_tupK (K := K) rfl) (pv 9) pe_int (fun _ _ => rfl)) pe_int)))) pa_nil)) (nomark _)) (pss_one (ps_ret (pe_tup (pa_cons pe_bl (pa_cons pe_int pa_nil))))) pss_nil)
      (pss_cons (ps_set (i := 6) sc__law_right.nd rfl (Or.inl rfl) (pe_callB (cr_sumQ rfl) (by rfl) B.sum (by decide +kernel) (pa_cons (pe_lc (own := [("k", 8)]) (g := (gName 8)) (tt := tYes) (by rfl) sc__law_right.nd (pi_list (pv 4)) (blkOk_by (N := n__law_right) (sc := defScope s__law_right) (by decide +kernel)) (fun _ _ _ _ _ => (pg_name (i := 8) sc__law_right.nd rfl (Or.inl rfl))) (fun _ _ _ _ _ => pts_nil) (fun _ _ _ _ _ => (pe_ix (ix_tupK (K := K) rfl) (pe_ix (ix_listK (K := K) rfl) (pv 0) (pv 8) (fun _ _ => rfl)) pe_int (fun _ _ => rfl)))) pa_nil)))
      (pss_cons (ps_set (i := 7) sc__law_right.nd rfl (Or.inl rfl) (pe_and (pe_cmpR op_eq (pe_q c__law_value hr (by decide) (by rfl) (pa_cons (pv 0) (pa_cons (pv 1) (pa_cons (pv 5) pa_nil)))) (pv 6) (nomark _)) (pe_one (pe_cmpR op_eq (pe_qK0 k_worth hr (by decide) (by rfl) passN (pk_cons (pv 2) (pk_cons (pv 1) (pk_cons (pe_callTy call_list_of (by rfl) B.list (by decide +kernel) (pa_cons (pv 5) pa_nil)) pk_nil)))) (pv 6) (nomark _)))))
      (pss_one (ps_ret (pe_tup (pa_cons (pv 7) (pa_cons (pv 6) pa_nil))))))))))))), ?_⟩
    have hs63 := sizeLine_eq
    have asl : sas.length = ss.length := sp.o.len
    refine ⟨_, rfl, sa, _, rfl, .inl (SqL.of sp.d), fun l hl => ?_⟩
    have s1 : Same H (upd H l (.lst (sas.map V.ref))) := Same.new hl
    have sp1 : SpL (upd H l (.lst (sas.map V.ref))) l ss sas := ⟨upd_same, sp.o.same s1⟩
    generalize upd H l (.lst (sas.map V.ref)) = H1 at s1 sp1
    have sAt1 : ∀ {H' : Hp}, Same H1 H' → SpAt H' l false ss sas := fun s => ⟨s _ _ sp1.d, sp1.o.same s, gd, by omega⟩
    refine ⟨_, rfl, _, rfl, _, _, rfl, .inr ⟨l, false, ss, sas, rfl, sAt1 (Same.refl _), .inr ⟨R, rfl, hR, fun H2 t la pa k p e1 e2 e3 lo s2 => ?_⟩⟩⟩
    have sp2 := sp1.same s2
    have spA := (sp.same s1).same s2
    have s02 := s1.trans s2
    refine ⟨_, rfl, _, rfl, _, _, sp2.dp, spA.dp, shaped_spans ss, shaped_spans ss, ?_⟩
    rw [SeqAt.eqv_refl _ (SeqAt.canLay_of_shaped (shaped_spans ss))]
    refine ⟨_, rfl, iteFd rfl ?_⟩
    refine ⟨_, rfl, _, .ty "tuple", .type "tuple", .type "tuple", true, rfl, .ty _, Kd.ty (.tup (.base (.tup e1))), kit_ty (by decide +kernel), _, rfl, iteFd rfl ?_⟩
    refine ⟨_, rfl, t, _, rfl, .inr (SqT.of e1), rfl, _, rfl, iteFd rfl ?_⟩
    refine ⟨_, rfl, t, _, rfl, SqT.of e1, rfl, _, _, rfl, _, _, rfl, rfl, ?_⟩
    refine ⟨_, rfl, _, rfl, _, rfl, sa, la, R, ss, sas, k, rfl, spA, hn, gd, e2, lo.room, lo.full, fun H3 s3 => ⟨_, rfl, iteFd rfl ?_⟩⟩
    have ok := (sAt1 (Same.refl _)).ok
    refine ⟨_, rfl, pa, _, rfl, s3 _ _ e3, ?_, fun z hz => ?_, fun H4 s4 => ⟨_, rfl, iteFd rfl ?_⟩⟩
    · rw [List.length_map, List.length_range]
      exact ok.L
    · obtain ⟨y, hy, rfl⟩ := List.mem_map.mp hz
      exact lo.nn y (List.mem_range.mp hy)
    have s24 := s3.trans s4
    have e34 := s24 _ _ e3
    refine ⟨_, rfl, pa, _, rfl, .inl (SqL.of e34), ?_⟩
    refine ⟨(by show 1 ≤ sizeLine; omega), fun z hz => ?_⟩
    have s5 : Same H2 (upd H4 z (.lst [.int 0])) := Same.upd' s24 (s24.free hz)
    have ez : (upd H4 z (.lst [.int 0])) z = some (.lst [.int 0]) := upd_same
    change tLc _ _ _ _ _ _ (upd H4 z (.lst [.int 0])) _
    generalize upd H4 z (.lst [.int 0]) = H5 at s5 ez
    have sp5 := spA.same s5
    have el : (sas.map V.ref).length = ss.length := by rw [List.length_map, asl]
    refine ⟨_, rfl, sa, rfl, ⟨_, SqL.of sp5.d⟩, fun D hD => lc_it walk_list (fun i H' => Same H5 H' ∧ H' D = some (.lst (((ss.take i).map fun q => ((q.l : Nat) : Int) + 1).map V.int))) ⟨Same.new hD, upd_same⟩ (fun i H' _ h => SqL.of (h.1 _ _ sp5.d)) ?_ ?_⟩
    · rintro i v H6 H7 hi ⟨s6, e6⟩ ⟨rfl, hv⟩
      obtain ⟨g, b, hg, rfl, hb, eb⟩ := (sp5.o.same s6).get' hv
      refine ⟨rfl, yes ?_⟩
      refine ⟨_, rfl, b, _, _, _, rfl, rfl, SqT.of eb, atI_nat (j := 1) rfl, _, _, rfl, rfl, _, e6, ?_, Same.upd' s6 hD, ?_⟩
      · have := List.length_take_le' i ss
        rw [List.length_map, List.length_map]
        omega
      · rw [upd_same, List.take_add_one, hg, List.map_append, List.map_append]
        rfl
    rintro H6 ⟨s6, e6⟩
    rw [el, List.take_length] at e6
    refine ⟨z, D, _, _, rfl, rfl, s6 _ _ ez, e6, by simp; omega, fun c hc => ?_⟩
    refine ⟨c, 0 :: ss.map (fun q => ((q.l : Nat) : Int) + 1), rfl, SqL.of upd_same, by simp, fun m hm hmx => ⟨rfl, _, rfl, iteFd ?_ ?_⟩⟩
    · rw [LL_max0 hm hmx]
      simp
    have s7 : Same H2 (upd H6 c (.lst (([.int 0] : List V) ++ (ss.map fun q => ((q.l : Nat) : Int) + 1).map V.int))) := Same.upd' (s5.trans s6) ((s5.trans s6).free hc)
    change tSeq _ _ _ _ (upd H6 c (.lst (([.int 0] : List V) ++ (ss.map fun q => ((q.l : Nat) : Int) + 1).map V.int)))
    generalize upd H6 c _ = H7 at s7
    have sp7 := spA.same s7
    have e27 := s7 _ _ e2
    have pn : (pb ss (LL ss)).n = ss.length := rfl
    -- what is left costs
    refine ⟨_, rfl, la, rfl, ⟨_, SqL.of e27⟩, fun D2 hD2 => lc_it walk_list (fun i H' => Same H7 H' ∧ H' D2 = some (.lst (((((List.range ss.length).filter fun i => !k i).take i).map (pb ss (LL ss)).c).map V.int))) ⟨Same.new hD2, upd_same⟩ (fun i H' _ h => SqL.of (h.1 _ _ e27)) ?_ ?_⟩
    · rintro i v H8 H9 hi ⟨s8, e8⟩ ⟨rfl, hv⟩
      rw [List.getElem?_map] at hv
      obtain ⟨j, hj, rfl⟩ := Option.map_eq_some_iff.mp hv
      have hjn : j < ss.length := List.mem_range.mp (List.mem_filter.mp (List.mem_of_getElem? hj)).1
      have hg := List.getElem?_eq_getElem hjn
      obtain ⟨b, hb, eb⟩ := (sp7.o.same s8).get hg
      obtain ⟨_, _, p3⟩ := pb_at (L := LL ss) hg
      refine ⟨rfl, yes ?_⟩
      refine ⟨_, rfl, _, rfl, sa, _, _, _, rfl, rfl, SqL.of (s8 _ _ sp7.d), atI_nat (show (sas.map V.ref)[j]? = some (.ref b) by rw [List.getElem?_map, hb]; rfl), b, _, _, _, rfl, rfl, SqT.of eb, atI_nat (j := 2) rfl, _, e8, ?_, Same.upd' s8 hD2, ?_⟩
      · have h1 := List.length_take_le' i ((List.range ss.length).filter fun i => !k i)
        have h2 := List.length_filter_le (fun i => !k i) (List.range ss.length)
        rw [List.length_range] at h2
        rw [List.length_map, List.length_map]
        omega
      · rw [upd_same, List.take_add_one, hj, List.map_append, List.map_append, ← p3]
        rfl
    rintro H8 ⟨s8, e8⟩
    rw [List.length_map, List.take_length] at e8
    refine ⟨D2, _, rfl, .inl (SqL.of e8), ?_⟩
    have hc := leftCost_sum (pb ss (LL ss)) k
    rw [pn] at hc
    rw [← hc]
    have s28 := s7.trans s8
    have sp8 := spA.same s28
    have e38 := s28 _ _ e3
    have hpl : ((List.range (LL ss)).map p).length ≤ 1000 := by
      rw [List.length_map, List.length_range]
      exact ok.L
    have wE : M57.worth (pb ss (LL ss)) (PL ((List.range (LL ss)).map p)) ((List.range (LL ss)).map p).length R = leftCost (pb ss (LL ss)) k := (worth_PL _ _ _ _).trans lo.eq
    refine ⟨_, rfl, _, rfl, _, rfl, sa, pa, R, ss, sas, _, rfl, sp8, by omega, fun q hq => (gd q hq).1, e38, hpl, hR, fun H9 s9 => ?_⟩
    rw [value_worth, wE]
    refine ⟨_, rfl, rfl, _, rfl, iteTd (by simp) ?_⟩
    have s29 := s28.trans s9
    refine ⟨_, rfl, _, rfl, _, rfl, pa, _, rfl, .inl (SqL.of (s29 _ _ e3)), fun l2 hl2 => ?_⟩
    have s10 : Same H2 (upd H9 l2 (.lst (((List.range (LL ss)).map p).map V.int))) := Same.upd' s29 (s29.free hl2)
    refine ⟨_, _, _, rfl, .inr ⟨l, false, ss, sas, rfl, sAt1 (s2.trans s10), .inr ⟨R, rfl, hR, .inr ⟨l2, false, _, rfl, upd_same, hpl, fun z hz => ?_, fun H11 s11 => ?_⟩⟩⟩⟩
    · obtain ⟨y, hy, rfl⟩ := List.mem_map.mp hz
      exact lo.nn y (List.mem_range.mp hy)
    rw [wE]
    refine ⟨_, rfl, rfl, _, rfl, _, rfl, (by show 2 ≤ sizeLine; omega), fun t2 ht2 => ?_⟩
    have s12 := s02.trans (s10.trans s11)
    refine q _ t2 k ?_ lo.room (Same.upd' s12 (s12.free ht2))
    rw [upd_same]
    simp
end
end SA

set_option Elab.async false
set_option linter.all false
set_option maxRecDepth 100000
set_option maxHeartbeats 4000000
namespace SA
open PySem PySem.Spec PyProof.Rows L2 K83 M57
/-! ### a set of whole numbers, and its sorted list -/
def SetX (w : World) (a : Addr) (S : Int → Bool) (n : Nat) : HO := .ext fun h => SetR w h a S n
theorem setX_get {X : Cx} {pins : List (Addr × Obj)} {σ : L2.St} {H : Hp} {s : Shared} {a : Addr} {S : Int → Bool} {n : Nat} (I : L2.Inv X pins σ H s) (e : H a = some (SetX X.w a S n)) : SetR X.w s.heap a S n := (I.hok a _ e).1
theorem setX_new {P : Program} {w : World} {H : Hp} {h : Heap} {a : Addr} {S : Int → Bool} {n : Nat} (R : SetR w h a S n) : ObjOk P w H h a (SetX w a S n) := by
  obtain ⟨o, es, ep, t, ho, r⟩ := id R
  refine ⟨R, ⟨o, ho⟩, fun h1 h2 p k => ?_⟩
  obtain ⟨o1, es1, ep1, t1, ho1, r1⟩ := p
  exact ⟨o1, es1, ep1, t1, k _ ho1, r1⟩
theorem inv_re {X : Cx} {pins : List (Addr × Obj)} {σ : L2.St} {H : Hp} {s s' : Shared} {d : Drawn} {t : Nat} (J : L2.Inv X pins σ H { heap := s'.heap, gens := s.gens, drawn := d, toks := t, os := s.os }) (hg : s'.gens = s.gens) (ho : s'.os = s.os) : L2.Inv X pins σ H s' :=
  ⟨J.ok, ho.trans J.os, hg ▸ J.bare, J.base, J.loc, J.cell, J.free, J.freeC, J.pin, J.hok, J.len⟩
theorem vals_ints {ns : List Int} {us : List Value} (h : IntsAre us ns) : Vals (ns.map V.int) us := by
  induction h with
  | nil => exact .nil
  | cons _ t h ih => exact .cons ⟨t, rfl⟩ ih
def rSortedX (w : World) : List V → Hp → VK → Prop := fun vs H Q => ∃ (a : Addr) (S : Int → Bool) (n : Nat), vs = [.ref a] ∧ H a = some (SetX w a S n) ∧ n < 64 ∧ ∀ (ns : List Int) (p : Addr), ns.Pairwise (fun x y => x < y) → (∀ k, k ∈ ns ↔ S k = true) → H p = none → Q (.ref p) (upd H p (.lst (ns.map V.int)))
theorem cr_sortedX {X : Cx} (hc : X.calm = true) : CallR X (.builtin "sorted") (rSortedX X.w) := by
  intro pins s σ H vs us Q I r h
  obtain ⟨a, S, n, rfl, e, hn, q⟩ := h
  rw [Vals.ref1 r]
  refine sorted_set (setX_get I e) (I.ok.hd hc) hn fun s' p out c ns hk hg ho hp ep hi pw mem hl => ?_
  have hs63 := sizeLine_eq
  refine ⟨.ref p, upd H p (.lst (ns.map V.int)), inv_re (s := s) (I.laid (t' := 0) hk hp ?_) hg ho, rfl, q ns p pw mem (I.hok.fresh hp)⟩
  refine ⟨by rw [List.length_map]; omega, out.toList, c, vals_ints hi, ?_⟩
  simpa using ep
/-- what a call of set over a list of whole numbers tells -/
def rSetL (w : World) (K : PySem.W.Frag) : List V → Hp → VK → Prop := fun vs H Q => ∃ (a : Addr) (ns : List Int), vs = [.ref a] ∧ SqL K H a (ns.map V.int) ∧ ns.length < 64 ∧ ∀ (p : Addr) (S : Int → Bool) (n : Nat), (∀ k, S k = true ↔ k ∈ ns) → n ≤ ns.length → H p = none → Q (.ref p) (upd H p (SetX w p S n))
/-- two lists in order, of the same numbers, are one -/
theorem sorted_eq : ∀ {l m : List Int}, l.Pairwise (fun x y => x < y) → m.Pairwise (fun x y => x < y) → (∀ k, k ∈ l ↔ k ∈ m) → l = m
  | [], [], _, _, _ => rfl
  | [], b :: m, _, _, h => absurd ((h b).mpr (by simp)) (by simp)
  | a :: l, [], _, _, h => absurd ((h a).mp (by simp)) (by simp)
  | a :: l, b :: m, hl, hm, h => by
    obtain ⟨l1, l2⟩ := List.pairwise_cons.mp hl
    obtain ⟨m1, m2⟩ := List.pairwise_cons.mp hm
    have ab : a = b := by
      have h1 := (h a).mp (by simp)
      have h2 := (h b).mpr (by simp)
      rcases List.mem_cons.mp h1 with e | h1
      · exact e
      · rcases List.mem_cons.mp h2 with e | h2
        · exact e.symm
        · have := l1 b h2
          have := m1 a h1
          omega
    subst ab
    rw [sorted_eq l2 m2 fun k => ⟨fun hk => ?_, fun hk => ?_⟩]
    · rcases List.mem_cons.mp ((h k).mp (List.mem_cons_of_mem _ hk)) with e | hk'
      · have := l1 k hk
        omega
      · exact hk'
    · rcases List.mem_cons.mp ((h k).mpr (List.mem_cons_of_mem _ hk)) with e | hk'
      · have := m1 k hk
        omega
      · exact hk'
theorem left_sorted (n : Nat) (k : Nat → Bool) : (((List.range n).filter fun i => !k i).map fun i => ((i : Nat) : Int)).Pairwise fun x y => x < y := by
  rw [List.pairwise_map]
  refine (List.Pairwise.filter _ List.pairwise_lt_range).imp fun h => ?_
  omega
theorem left_ints (n : Nat) (k : Nat → Bool) : (((List.range n).filter fun i => !k i).map fun i => V.int (i : Nat)) = (((List.range n).filter fun i => !k i).map fun i => ((i : Nat) : Int)).map V.int := by
  rw [List.map_map]
  rfl
/-- the least covered spot a span can have, told by where kept spans begin -/
theorem spot_kept {ss : List Spn} {k : Nat → Bool} {R : Int} {i : Nat} (h : ∃ y, (pb ss (LL ss)).f i ≤ y ∧ y ≤ (pb ss (LL ss)).l i ∧ R ≤ cov (pb ss (LL ss)) k y) :
    ∃ z, (pb ss (LL ss)).f i ≤ z ∧ z ≤ (pb ss (LL ss)).l i ∧ (z = (pb ss (LL ss)).f i ∨ ∃ j, j < ss.length ∧ k j = true ∧ (pb ss (LL ss)).f j = z) ∧ R ≤ cov (pb ss (LL ss)) k z := by
  obtain ⟨y, h1, h2, h3⟩ := h
  obtain ⟨z, z1, z2, z3, z4⟩ := spot (p := pb ss (LL ss)) (k := k) h1
  exact ⟨z, z1, by omega, z3, by omega⟩
end SA

set_option Elab.async false
set_option linter.all false
set_option maxRecDepth 100000
set_option maxHeartbeats 4000000
namespace SA
open PySem PySem.Spec PyProof.Rows L2 K83
theorem loopX {P : Program} {w : World} {A : Around} {E : Value → Shared → Prop} (hh : A.handled = none) {a I l : Addr} {its : List Value} {ns : List Int} (hi : IntsAre its ns) (hla : l ≠ a) (hIa : I ≠ a) (hlI : l ≠ I) (hb : its.length + 1 < scanBound) :
    ∀ (m i : Nat) (s : Shared) (S : Int → Bool) (n : Nat) (Q₁ : Value → Shared → Prop), m = its.length - i → i ≤ its.length → SetR w s.heap a S n → n ≤ i → (∀ k, S k = true ↔ k ∈ ns.take i) → s.heap.IsListIter I l i → s.heap.IsList l its.toArray →
      (∀ (h' : Heap) (tk : Nat) (S : Int → Bool) (n : Nat), SetR w h' a S n → n ≤ its.length → (∀ k, S k = true ↔ k ∈ ns) → (∀ (b : Addr) (o : Obj), b ≠ a → b ≠ I → s.heap.get? b = some o → h'.get? b = some o) → Q₁ .none { heap := h', gens := s.gens, drawn := s.drawn, toks := tk, os := s.os }) →
      codeAny (model P w) A (Code.builtin "set.update.loop" { pos := [.ref a, .ref I] }) (wants Q₁ E) s := by
  intro m
  induction m with
  | zero =>
    intro i s S n Q₁ hm hil R hn hS st hl q
    have ei : i = its.length := by omega
    subst ei
    refine codeAny_builtin PyProof.Rows.F.entry_set_update_loop ?_
    unfold PySem.Builtin.«set.update.loop»
    refine wpAny_bind ?_
    have wk := Walks.list (prog := P) (w := w) (A := A.under (Code.builtin "set.update.loop" { pos := [.ref a, .ref I] })) hh I l hlI its.toArray
    refine wk.done _ _ _ ?_ fun h' tk hk => ?_
    · exact ⟨by simpa using st, hl⟩
    · have R' : SetR w h' a S n := by
        obtain ⟨o1, es1, ep1, t1, ho1, r1⟩ := R
        exact ⟨o1, es1, ep1, t1, hk _ _ (by simpa using hIa.symm) ho1, r1⟩
      have hl2 := hi.length
      exact wpAny_pure (q h' tk S n R' hn (fun k => by rw [hS, List.take_of_length_le (by omega)]) fun b o _ h2 e => hk b o (by simpa using h2) e)
  | succ m ih =>
    intro i s S n Q₁ hm hil R hn hS st hl q
    refine codeAny_builtin PyProof.Rows.F.entry_set_update_loop ?_
    unfold PySem.Builtin.«set.update.loop»
    refine wpAny_bind ?_
    have wk := Walks.list (prog := P) (w := w) (A := A.under (Code.builtin "set.update.loop" { pos := [.ref a, .ref I] })) hh I l hlI its.toArray
    have hlt : i < its.length := by omega
    refine wk.item i _ _ _ (by simpa using hlt) ⟨st, hl⟩ fun v h' tk hv st' hk => ?_
    have R' : SetR w h' a S n := by
      obtain ⟨o1, es1, ep1, t1, ho1, r1⟩ := R
      exact ⟨o1, es1, ep1, t1, hk _ _ (by simpa using hIa.symm) ho1, r1⟩
    obtain ⟨t, rfl⟩ := IntsAre.int_at hi i v (by simpa using hv)
    have hl2 := hi.length
    refine wpAny_bind (wpAny_holding (wpAny_holding (wpAny_bind (wpAny_pyHash_int ?_))))
    refine setR_add_hashed (k := ns.getD i 0) R' (by omega) fun h2 sb R2 => ?_
    refine wpAny_pure ⟨Code.quiet_builtin _ (by decide +kernel), ih (i + 1) _ _ _ Q₁ (by omega) (by omega) R2 ?_ ?_ ?_ ?_ fun h3 tk3 S3 n3 R3 hn3 hS3 hk3 => ?_⟩
    · split <;> omega
    · intro k
      have e : ns[i]? = some (ns.getD i 0) := by
        rw [List.getD_eq_getElem?_getD, List.getElem?_eq_getElem (by omega)]
        rfl
      rw [List.take_add_one, e, List.mem_append, ← hS, Bool.or_eq_true, decide_eq_true_eq]
      simp
    · exact st'.1.at fun o e => by
        show h2.get? I = some o
        rw [sb.2 I hIa]
        exact e
    · exact st'.2.at fun o e => by
        show h2.get? l = some o
        rw [sb.2 l hla]
        exact e
    · refine q h3 tk3 S3 n3 R3 hn3 hS3 fun b o h1 h2' e => hk3 b o h1 h2' ?_
      show h2.get? b = some o
      rw [sb.2 b h1]
      exact hk b o (by simpa using h2') e
end SA

set_option Elab.async false
set_option linter.all false
set_option maxRecDepth 100000
set_option maxHeartbeats 4000000
namespace SA
open PySem PySem.Spec PyProof.Rows L2 K83
theorem code_set_led1 {P : Program} {w : World} {A : Around} {E : Value → Shared → Prop} {s : Shared} {Q₁ : Value → Shared → Prop} (a : Value) (h : Q₁ (.ref s.heap.objs.size) { heap := s.heap.push { cls := .type "set", data := .set #[] 0 (SetTable.fresh 0 0 !w.params.followText "set-order") }, gens := s.gens, drawn := s.drawn, toks := s.toks, os := s.os }) :
    codeAny (model P w) A (Code.call (.builtin "set.__new__") { pos := [.type "set", a] }) (wants Q₁ E) s := by
  refine codeAny_of_tree ?_
  refine wpAny_bind (wpAny_of_eq (PySem.F.newCall_set_1 a) (wpAny_pure ⟨plainId_quiet PySem.F.plain_set_new _, ?_⟩))
  refine codeAny_builtin PySem.F.entry_set_new ?_
  rw [Around.under_plainId PySem.F.plain_set_new]
  have hsub := @sub_set_self
  obtain ⟨hp, g, d, tk, os⟩ := s
  refine wpAny_bind (wpAny_bind (wpAny_pure (wpAny_ite_false rfl (wpAny_bind (wpAny_of_eq hsub (wpAny_ite_false rfl (wpAny_pure ?_)))))))
  refine wpAny_bind (wpAny_bind (wpAny_bind (wpAny_askSetting (wpAny_pure ?_))))
  show wpAny _ _ (newObj (.type "set") (.set #[] 0 (SetTable.fresh 0 0 !w.params.followText "set-order"))) _ _ _
  unfold newObj
  show wpAny _ _ (if (#[] : Array (Int × Value)).size > sizeLine then _ else newObjAsIs (.type "set") (.set #[] 0 (SetTable.fresh 0 0 !w.params.followText "set-order"))) _ _ _
  rw [if_neg (by simp)]
  exact wpAny_bind (wpAny_alloc (wpAny_pure (wpAny_pure h)))
end SA

set_option Elab.async false
set_option linter.all false
set_option maxRecDepth 100000
set_option maxHeartbeats 4000000
namespace SA
open PySem PySem.Spec PyProof.Rows L2 K83
theorem setR_list {P : Program} {w : World} {A : Around} {E : Value → Shared → Prop} {s : Shared} {l : Addr} {its : List Value} {ns : List Int} {Q : Value → Shared → Prop} (hh : A.handled = none) (hl : s.heap.IsList l its.toArray) (hi : IntsAre its ns) (hb : its.length + 1 < scanBound)
    (q : ∀ (h' : Heap) (tk : Nat) (S : Int → Bool) (n : Nat), SetR w h' s.heap.objs.size S n → n ≤ its.length → (∀ k, S k = true ↔ k ∈ ns) → (∀ (b : Addr) (o : Obj), s.heap.get? b = some o → h'.get? b = some o) → Q (.ref s.heap.objs.size) { heap := h', gens := s.gens, drawn := s.drawn, toks := tk, os := s.os }) :
    wpAny (model P w) A (call (.type "set") [.ref l]) Q E s := by
  obtain ⟨c, tl, hmro⟩ := PySem.F.called_set.mro
  have hmade := PySem.F.called_set.made
  have hsub := PySem.F.called_set.sub
  refine wpAny_call (codeAny_of_tree (wpAny_pure ⟨Code.quiet_builtin _ (by decide +kernel), ?_⟩))
  refine codeAny_builtin PySem.F.entry_type_call ?_
  rw [Around.under_plain (weight_type_call_type "set" [.ref l] []) rfl]
  have h1 := PySem.F.called_set.notType
  have h2 := PySem.F.called_set.canCreate
  have hct := PySem.F.typeCall_set_1 (.ref l)
  unfold PySem.Builtin.«type.__call__»
  dsimp only
  refine wpAny_ite_false (by rfl) ?_
  refine wpAny_ite_false (by rfl) ?_
  refine wpAny_bind (wpAny_of_eq hct ?_)
  refine wpAny_bind (wpAny_of_eq hmro ?_)
  refine wpAny_ite_false (by rfl) ?_
  refine wpAny_bind (wpAny_of_eq hmade ?_)
  dsimp only
  refine wpAny_bind (wpAny_pure ?_)
  refine wpAny_bind (wpAny_holding (wpAny_call (codeAny_mono (code_set_led1 (E := fun _ _ => False) (Q₁ := fun v s1 => v = .ref s.heap.objs.size ∧ s1 = { heap := s.heap.push { cls := .type "set", data := .set #[] 0 (SetTable.fresh 0 0 !w.params.followText "set-order") }, gens := s.gens, drawn := s.drawn, toks := s.toks, os := s.os }) (.ref l) ⟨rfl, rfl⟩) fun r s₁ hr => ?_)))
  match r, hr with
  | .ok (.ret v), hr =>
    obtain ⟨rfl, rfl⟩ := hr
    have hS := Heap.get?_push_size s.heap (o := { cls := .type "set", data := .set #[] 0 (SetTable.fresh 0 0 !w.params.followText "set-order") }) rfl
    have hT : Shared.TypeIs { heap := s.heap.push { cls := .type "set", data := .set #[] 0 (SetTable.fresh 0 0 !w.params.followText "set-order") }, gens := s.gens, drawn := s.drawn, toks := s.toks, os := s.os } (.ref s.heap.objs.size) "set" := ⟨_, hS, rfl⟩
    have hli := PySem.F.called_set.init.lookup
    have hbi := PySem.F.called_set.init.bind (.ref s.heap.objs.size)
    refine wpAny_bind (wpAny_isInstance hT hsub ?_)
    refine wpAny_ite_false (by rfl) ?_
    refine wpAny_bind (wpAny_holding ?_)
    unfold callSpecial?
    refine wpAny_bind (wpAny_specialOf hT hli ?_)
    dsimp only
    refine wpAny_holding (wpAny_bind (wpAny_of_eq hbi ?_))
    refine wpAny_bind (wpAny_call (codeAny_call_builtin PySem.F.called_set.init.plain PySem.F.entry_set_init (check_set_init_1 hT ?_)))
    unfold PySem.Builtin.«set.__init__»
    obtain ⟨⟨oc, od, odat, osl⟩, hol, hcl, nl, hdl⟩ := id hl
    obtain rfl : oc = .type "list" := hcl
    obtain rfl : odat = .seq its.toArray nl := hdl
    have hol' := Heap.get?_push_of_some { cls := .type "set", data := .set #[] 0 (SetTable.fresh 0 0 !w.params.followText "set-order") } hol
    have hsls := PySem.F.sub_list_set
    have hslf := PySem.F.sub_list_frozenset
    have hlS := Heap.lt_size hol
    refine wpAny_bind (wpAny_ite_true (by rfl) (wpAny_pure ?_))
    refine wpAny_bind (wpAny_bind (wpAny_bind (wpAny_typeOf hT (wpAny_ite_false (by rfl) (wpAny_pure (wpAny_pure ?_))))))
    refine wpAny_bind ?_
    unfold checkCount
    refine wpAny_ite_false (by rfl) ?_
    refine wpAny_ite_false (by rfl) ?_
    refine wpAny_ite_false (by rfl) (wpAny_pure ?_)
    refine wpAny_bind (wpAny_pure ?_)
    refine wpAny_bind (wpAny_bind (wpAny_bind (wpAny_load' hS (wpAny_ite_false (by rfl) (wpAny_pure (wpAny_pure ?_))))))
    refine wpAny_ite_false (by rfl) ?_
    refine wpAny_bind (wpAny_bind ?_)
    have hT2 : Shared.TypeIs { heap := s.heap.push { cls := .type "set", data := .set #[] 0 (SetTable.fresh 0 0 !w.params.followText "set-order") }, gens := s.gens, drawn := s.drawn, toks := s.toks, os := s.os } (.ref l) "list" := ⟨_, hol', rfl⟩
    unfold Builtin.Frozenset.isAnySet
    refine wpAny_bind (wpAny_isInstance hT2 hsls ?_)
    show wpAny _ _ (isInstance (.ref l) (.type "frozenset")) _ _ _
    refine wpAny_isInstance hT2 hslf ?_
    refine wpAny_ite_false (by rfl) ?_
    refine wpAny_bind (wpAny_typeOf hT2 ?_)
    refine wpAny_ite_false (by rfl) ?_
    have hl1 : (s.heap.push { cls := .type "set", data := .set #[] 0 (SetTable.fresh 0 0 !w.params.followText "set-order") }).IsList l its.toArray := ⟨_, hol', rfl, nl, rfl⟩
    refine wpAny_bind (wpAny_pyIter_list hl1 ?_)
    have sz := Heap.size_push s.heap { cls := .type "set", data := .set #[] 0 (SetTable.fresh 0 0 !w.params.followText "set-order") }
    have hIa : (s.heap.push { cls := .type "set", data := .set #[] 0 (SetTable.fresh 0 0 !w.params.followText "set-order") }).objs.size ≠ s.heap.objs.size := by rw [sz]; exact Nat.succ_ne_self _
    have hlI : l ≠ (s.heap.push { cls := .type "set", data := .set #[] 0 (SetTable.fresh 0 0 !w.params.followText "set-order") }).objs.size := by rw [sz]; exact Nat.ne_of_lt (Nat.lt_succ_of_lt hlS)
    refine wpAny_bind (wpAny_runValue (codeAny_mono (loopX (A := A.in1.in1) (E := fun _ _ => False) (hh := (show A.in1.in1.handled = none from hh)) hi (a := s.heap.objs.size) (l := l) (Nat.ne_of_lt hlS) hIa hlI hb its.length 0 _ (fun _ => false) 0 (fun v s3 => v = .none ∧ ∃ (h' : Heap) (tk : Nat) (S : Int → Bool) (n : Nat), s3 = { heap := h', gens := s.gens, drawn := s.drawn, toks := tk, os := s.os } ∧ SetR w h' s.heap.objs.size S n ∧ n ≤ its.length ∧ (∀ k, S k = true ↔ k ∈ ns) ∧ ∀ (b : Addr) (o : Obj), s.heap.get? b = some o → h'.get? b = some o) (by omega) (Nat.zero_le _) ?_ (Nat.le_refl _) (by simp) ?_ (hl1.push _) fun h' tk S n R hn hS hk => ?_) fun r s3 hr => ?_))
    · obtain ⟨o1, es1, ep1, t1, ho1, r1⟩ := setR_fresh (h := s.heap) w
      exact ⟨o1, es1, ep1, t1, Heap.get?_push_of_some _ ho1, r1⟩
    · exact ⟨_, Heap.get?_push_size _ rfl, rfl, rfl⟩
    · refine ⟨rfl, h', tk, S, n, rfl, R, hn, hS, fun b o e => hk b o (Nat.ne_of_lt (Heap.lt_size e)) (by rw [sz]; exact Nat.ne_of_lt (Nat.lt_succ_of_lt (Heap.lt_size e))) (Heap.get?_push_of_some _ (Heap.get?_push_of_some _ e))⟩
    · match r, hr with
      | .ok (.ret v), hr =>
        obtain ⟨rfl, h', tk, S, n, rfl, R, hn, hS, hk⟩ := hr
        have := q h' tk S n R hn hS hk
        refine wpAny_pure ?_
        refine wpAny_pure ?_
        exact wpAny_pure (wpAny_ite_false (by rfl) (wpAny_pure this))
      | .error e, hr => exact hr.elim
      | .ok .next, hr => exact hr.elim
      | .ok .brk, hr => exact hr.elim
      | .ok .cont, hr => exact hr.elim
  | .error e, hr => exact hr.elim
  | .ok .next, hr => exact hr.elim
  | .ok .brk, hr => exact hr.elim
  | .ok .cont, hr => exact hr.elim
theorem cr_setL {X : Cx} (hc : X.calm = true) : CallR X (.type "set") (rSetL X.w X.K) := by
  intro pins s σ H vs us Q I r h
  obtain ⟨a, ns, rfl, hs, hn, q⟩ := h
  obtain ⟨its, rv, hl, _⟩ := I.list hs
  rw [Vals.ref1 r]
  have hlen := rv.length
  rw [List.length_map] at hlen
  refine setR_list (I.ok.hd hc) hl.isList rv.ints (by have : (100 : Nat) < scanBound := by decide +kernel
                                                      omega) fun h' tk S n R hn' hS hk => ?_
  exact ⟨.ref s.heap.objs.size, upd H s.heap.objs.size (SetX X.w s.heap.objs.size S n), I.laid hk (Nat.le_refl _) (setX_new R), rfl, q _ S n hS (by omega) I.fresh⟩
end SA

set_option Elab.async false
set_option linter.all false
set_option maxRecDepth 100000
set_option maxHeartbeats 4000000
/-! ### try, two clauses: the first names its exception -/
namespace SA
open PySem PySem.Spec PyProof.Rows L2
/-- what leaves by the end alone -/
def outN (D : Ends) (g : L2.St → L2.St) : Ends := { nx := fun σ1 H1 => D.nx (g σ1) H1, rt := fun _ _ => False, bk := fun _ _ => False, ct := fun _ _ => False }
/-- what 'except x as n' and behind it 'except y' wish, slot i is n's -/
def wAsTwo (K : PySem.W.Frag) (c e : Value) (m i : Nat) (ts us : Addr → Value → Option Addr → TS) (Wout : WX) (D : Ends) : WX := fun cls d σ H =>
  ∃ b, PySem.W.exmOne K cls c = some b ∧
    (b = false → ∃ b2, PySem.W.exmOne K cls e = some b2 ∧ (b2 = false → Wout cls d σ H) ∧ (b2 = true → σ.length = m → ∀ a, H a = none → us a cls d (outN D id) σ H)) ∧
    (b = true → σ.length = m → ∀ a, H a = none → ts a cls d (outN D fun σ1 => σ1.set i none) (σ.set i (some (.ref a))) H)
section
variable {X : Cx} {x y n : Str} {c e : Value} {i : Nat} {body suite suite2 : List Stmt} {b₀ b₁ : Stmt} {np np2 p1 p2 p3 : Pos} {tb : WX → TS} {ts us : Addr → Value → Option Addr → TS} {Wout : WX}
theorem ps_try_as_two (hs : X.stack = X.env :: X.outer) (hf : X.env.frame = some X.env.locals) (hex : X.ex = []) (hN : X.N.Nodup) (hi : X.N[i]? = some n) (hln : X.env.kindOf n = some .local) (hc : Names X x c) (hc2 : Names X y e) (tk : Takes X Wout)
    (hb : ∀ (W : WX) (pn : List (Addr × Obj)) (xe : Value → Shared → Prop), Takes (X.tr pn xe) W → PassesOwn (model X.prog X.w) X.A X.env xe → PSs (X.tr pn xe) body (tb W))
    (hsu : ∀ (a : Addr) (oe : Obj) (cls : Value) (d : Option Addr) (pn : List (Addr × Obj)), Zc cls d oe → (∃ vs, oe.data = .fields vs) → PSs (X.suite a ((a, oe) :: pn)) (b₀ :: suite) (ts a cls d))
    (hsu2 : ∀ (a : Addr) (oe : Obj) (cls : Value) (d : Option Addr) (pn : List (Addr × Obj)), Zc cls d oe → (∃ vs, oe.data = .fields vs) → PSs (X.suite a ((a, oe) :: pn)) (b₁ :: suite2) (us a cls d)) :
    PS X (.Try body [.ExceptHandler (some (.Name x np)) (some n) (b₀ :: suite) p1, .ExceptHandler (some (.Name y np2)) none (b₁ :: suite2) p3] [] [] p2) (fun D σ H => tb (wAsTwo X.K c e X.N.length i ts us Wout D) D σ H) := ⟨fun pins s σ H D I hw => by
  have ok := I.ok
  have fr : X.A.frames = some (X.env :: X.outer) := hs ▸ ok.frames
  -- what is done with an exception that the body lets out
  let caught : Value → Shared → Prop := fun v t1 => wpAny (model X.prog X.w) X.A (noteFrame v X.env) (fun _ t2 => wpAny (model X.prog X.w) X.A (setFlight v none) (fun _ t3 => wpAny (model X.prog X.w) X.A (handleBy v X.env [.ExceptHandler (some (.Name x np)) (some n) (b₀ :: suite) p1, .ExceptHandler (some (.Name y np2)) none (b₁ :: suite2) p3]) (SP X pins D) X.xe t3) X.xe t2) X.xe t1
  have takes : Takes (X.tr (X.pn ++ pins) caught) (wAsTwo X.K c e X.N.length i ts us Wout D) := fun u t ⟨a, B, sI, _, σ1, H1, cls, d, eu, I1, nb, up, sky, na, os, ag, b, hcls, hno, hyes⟩ => by
    subst eu
    have J : Inv X pins σ1 H1 sI := I1.ofTry ok
    refine Sky.land Zc.steady fr hf (show Sky B (X.env :: X.outer) a (Zc cls d) X.env.locals t.heap from hs ▸ sky) fun h3 fl3 up3 => ?_
    obtain ⟨o3, v3, g3, z3, d3⟩ := fl3.there
    have nx := newX hs hf hex J nb fl3.2.1 fl3.2.2.1 g3 d3
    have J3 : Inv X pins σ1 H1 { t with heap := h3 } := J.landed nb fl3.1 (up.trans up3) os ag
    have T3 := J3.suite g3 d3 na nx.nloc nx.nfs
    have cl : PySem.W.Looks (model X.prog X.w) h3 (typeOf (.ref a)) cls := fun _ _ _ t' k q => wpAny_typeOf_ref (k _ _ g3) (z3.1.symm ▸ q)
    have named : ∀ {z : Str} {zp : Pos} {w : Value} {Q E : Value → Shared → Prop}, Names X z w → Q w { t with heap := h3 } → wpAny (model X.prog X.w) (X.A.mark (some (.ref a))) (eval (.Name z zp) X.env) Q E { t with heap := h3 } := fun hz q => by
      obtain ⟨hg, hdb, hm⟩ := hz
      rcases hm with hm | ⟨hm, hv, hnn⟩
      · exact ld_glob (X := X.suite a ((a, o3) :: (X.pn ++ pins))) T3 hg hm q hdb
      · exact ld_blt (X := X.suite a ((a, o3) :: (X.pn ++ pins))) T3 hg hm hv q hnn hdb
    refine wpAny_handleBy_cons (codeAny_handlers_test ?_) (fun q => nomatch q)
    refine named hc ((PySem.W.exm_one (M := model X.prog X.w) J3.kIn cl hcls).here ?_)
    match b, hno, hyes with
    | false, hno, _ =>
      obtain ⟨b2, hcls2, hno2, hyes2⟩ := hno rfl
      show wpAny _ X.A (handleBy (.ref a) X.env [.ExceptHandler (some (.Name y np2)) none (b₁ :: suite2) p3]) _ _ _
      refine wpAny_handleBy_cons (codeAny_handlers_test ?_) (fun q => nomatch q)
      refine named hc2 ((PySem.W.exm_one (M := model X.prog X.w) J3.kIn cl hcls2).here ?_)
      match b2, hno2, hyes2 with
      | false, hno2, _ =>
        show wpAny _ X.A (handleBy (.ref a) X.env []) _ _ _
        obtain ⟨_, _, _, oe, vs, T, _, _, g, _, dd, h1, _⟩ := id fl3
        have out : wpAny (model X.prog X.w) X.A (setFlight (.ref a) X.env.frame) (fun _ t4 => wpAny (model X.prog X.w) X.A (throw (.ref a) : Sem Flow) (SP X pins D) X.xe t4) X.xe { t with heap := h3 } := by
          rw [hf]
          refine HandSPX.setFlight_upZ fl3 fun h4 k4 up4 => wpAny_throw (tk _ _ ⟨a, B, sI, pins, σ1, H1, cls, d, rfl, J, nb, (up.trans up3).trans up4, .inr (.inr (hs ▸ k4)), na, os, ag, hno2 rfl⟩)
        refine wpAny_handleBy_nil ?_
        unfold PySem.passOn
        refine wpAny_bind (wpAny_field g dd h1 ?_)
        rw [if_neg (show ¬ ((Value.ref T == Value.none) = true) from by simp)]
        first
          | exact wpAny_bind out
          | exact wpAny_bind (wpAny_pure (wpAny_bind out))
      | true, _, hyes2 =>
        refine codeAny_handlers_suite (HandSPX.lands_againZ fl3 fun h4 fl4 up4 => ?_)
        obtain ⟨o4, v4, g4, z4, d4⟩ := fl4.there
        have J4 : Inv X pins σ1 H1 { t with heap := h4 } := J.landed nb fl4.1 ((up.trans up3).trans up4) os ag
        refine wpAny_mono ((hsu2 a o4 cls d (X.pn ++ pins) z4 ⟨_, d4⟩).run [] _ σ1 H1 _ (J4.suite g4 d4 na nx.nloc nx.nfs) (hyes2 rfl J.len a na)) (fun f s6 q => ?_) (fun _ _ z => z.elim)
        match f, q with
        | .brk, ⟨_, _, _, z⟩ => exact z.elim
        | .cont, ⟨_, _, _, z⟩ => exact z.elim
        | .ret _, ⟨_, _, _, _, _, z⟩ => exact z.elim
        | .next, ⟨σ6, H6, T6, q6⟩ => exact ⟨_, _, T6.unsuite ok, q6⟩
    | true, _, hyes =>
      refine codeAny_handlers_suite_as (HandSPX.lands_againZ fl3 fun h4 fl4 up4 => ?_)
      obtain ⟨o4, v4, g4, z4, d4⟩ := fl4.there
      have J4 : Inv X pins σ1 H1 { t with heap := h4 } := J.landed nb fl4.1 ((up.trans up3).trans up4) os ag
      refine store_ok (X := X.suite a ((a, o4) :: (X.pn ++ pins))) (v := .ref a) (J4.suite g4 d4 na nx.nloc nx.nfs) hN hi (.inl hln) rfl (fun s5 T5 => ?_) (.inr hln)
      refine wpAny_mono ((hsu a o4 cls d (X.pn ++ pins) z4 ⟨_, d4⟩).run [] s5 _ H1 _ T5 (hyes rfl J.len a na)) (fun f s6 q => ?_) (fun _ _ z => z.elim)
      match f, q with
      | .brk, ⟨_, _, _, z⟩ => exact z.elim
      | .cont, ⟨_, _, _, z⟩ => exact z.elim
      | .ret _, ⟨_, _, _, _, _, z⟩ => exact z.elim
      | .next, ⟨σ6, H6, T6, q6⟩ =>
        exact gone_ok (X := X) (T6.unsuite ok) hN hi hln fun s7 J7 => ⟨_, _, J7, q6⟩
  refine wpAny_Try_except (wpAny_mono ((hb _ (X.pn ++ pins) caught takes PassesOwn.looking).run [] s σ H D (I.toTry _) hw) (fun f s1 q => ?_) fun e s1 q => q)
  match f, q with
  | .next, ⟨_, _, T, q⟩ => exact wpAny_execs_nil ⟨_, _, T.ofTry ok, q⟩
  | .brk, ⟨_, _, T, q⟩ => exact ⟨_, _, T.ofTry ok, q⟩
  | .cont, ⟨_, _, T, q⟩ => exact ⟨_, _, T.ofTry ok, q⟩
  | .ret _, ⟨_, _, _, T, r, q⟩ => exact ⟨_, _, _, T.ofTry ok, r, q⟩⟩
end
end SA

set_option Elab.async false
set_option linter.all false
set_option maxRecDepth 100000
set_option maxHeartbeats 4000000
/-! ### try, three clauses: the first names its exception -/
namespace SA
open PySem PySem.Spec PyProof.Rows L2
/-- what 'except x as n' and behind it 'except y' and 'except z' wish, slot i is n's -/
def wAsThree (K : PySem.W.Frag) (c e f : Value) (m i : Nat) (ts us ws : Addr → Value → Option Addr → TS) (Wout : WX) (D : Ends) : WX := fun cls d σ H =>
  ∃ b, PySem.W.exmOne K cls c = some b ∧
    (b = false → ∃ b2, PySem.W.exmOne K cls e = some b2 ∧ (b2 = false → ∃ b3, PySem.W.exmOne K cls f = some b3 ∧ (b3 = false → Wout cls d σ H) ∧ (b3 = true → σ.length = m → ∀ a, H a = none → ws a cls d (outN D id) σ H)) ∧ (b2 = true → σ.length = m → ∀ a, H a = none → us a cls d (outN D id) σ H)) ∧
    (b = true → σ.length = m → ∀ a, H a = none → ts a cls d (outN D fun σ1 => σ1.set i none) (σ.set i (some (.ref a))) H)
section
variable {X : Cx} {x y z n : Str} {c e f : Value} {i : Nat} {body suite suite2 suite3 : List Stmt} {b₀ b₁ b₂ : Stmt} {np np2 np3 p1 p2 p3 p4 : Pos} {tb : WX → TS} {ts us ws : Addr → Value → Option Addr → TS} {Wout : WX}
theorem ps_try_as_three (hs : X.stack = X.env :: X.outer) (hf : X.env.frame = some X.env.locals) (hex : X.ex = []) (hN : X.N.Nodup) (hi : X.N[i]? = some n) (hln : X.env.kindOf n = some .local) (hc : Names X x c) (hc2 : Names X y e) (hc3 : Names X z f) (tk : Takes X Wout)
    (hb : ∀ (W : WX) (pn : List (Addr × Obj)) (xe : Value → Shared → Prop), Takes (X.tr pn xe) W → PassesOwn (model X.prog X.w) X.A X.env xe → PSs (X.tr pn xe) body (tb W))
    (hsu : ∀ (a : Addr) (oe : Obj) (cls : Value) (d : Option Addr) (pn : List (Addr × Obj)), Zc cls d oe → (∃ vs, oe.data = .fields vs) → PSs (X.suite a ((a, oe) :: pn)) (b₀ :: suite) (ts a cls d))
    (hsu2 : ∀ (a : Addr) (oe : Obj) (cls : Value) (d : Option Addr) (pn : List (Addr × Obj)), Zc cls d oe → (∃ vs, oe.data = .fields vs) → PSs (X.suite a ((a, oe) :: pn)) (b₁ :: suite2) (us a cls d))
    (hsu3 : ∀ (a : Addr) (oe : Obj) (cls : Value) (d : Option Addr) (pn : List (Addr × Obj)), Zc cls d oe → (∃ vs, oe.data = .fields vs) → PSs (X.suite a ((a, oe) :: pn)) (b₂ :: suite3) (ws a cls d)) :
    PS X (.Try body [.ExceptHandler (some (.Name x np)) (some n) (b₀ :: suite) p1, .ExceptHandler (some (.Name y np2)) none (b₁ :: suite2) p3, .ExceptHandler (some (.Name z np3)) none (b₂ :: suite3) p4] [] [] p2) (fun D σ H => tb (wAsThree X.K c e f X.N.length i ts us ws Wout D) D σ H) := ⟨fun pins s σ H D I hw => by
  have ok := I.ok
  have fr : X.A.frames = some (X.env :: X.outer) := hs ▸ ok.frames
  -- what is done with an exception that the body lets out
  let caught : Value → Shared → Prop := fun v t1 => wpAny (model X.prog X.w) X.A (noteFrame v X.env) (fun _ t2 => wpAny (model X.prog X.w) X.A (setFlight v none) (fun _ t3 => wpAny (model X.prog X.w) X.A (handleBy v X.env [.ExceptHandler (some (.Name x np)) (some n) (b₀ :: suite) p1, .ExceptHandler (some (.Name y np2)) none (b₁ :: suite2) p3, .ExceptHandler (some (.Name z np3)) none (b₂ :: suite3) p4]) (SP X pins D) X.xe t3) X.xe t2) X.xe t1
  have takes : Takes (X.tr (X.pn ++ pins) caught) (wAsThree X.K c e f X.N.length i ts us ws Wout D) := fun u t ⟨a, B, sI, _, σ1, H1, cls, d, eu, I1, nb, up, sky, na, os, ag, b, hcls, hno, hyes⟩ => by
    subst eu
    have J : Inv X pins σ1 H1 sI := I1.ofTry ok
    refine Sky.land Zc.steady fr hf (show Sky B (X.env :: X.outer) a (Zc cls d) X.env.locals t.heap from hs ▸ sky) fun h3 fl3 up3 => ?_
    obtain ⟨o3, v3, g3, z3, d3⟩ := fl3.there
    have nx := newX hs hf hex J nb fl3.2.1 fl3.2.2.1 g3 d3
    have J3 : Inv X pins σ1 H1 { t with heap := h3 } := J.landed nb fl3.1 (up.trans up3) os ag
    have T3 := J3.suite g3 d3 na nx.nloc nx.nfs
    have cl : PySem.W.Looks (model X.prog X.w) h3 (typeOf (.ref a)) cls := fun _ _ _ t' k q => wpAny_typeOf_ref (k _ _ g3) (z3.1.symm ▸ q)
    have named : ∀ {z : Str} {zp : Pos} {w : Value} {Q E : Value → Shared → Prop}, Names X z w → Q w { t with heap := h3 } → wpAny (model X.prog X.w) (X.A.mark (some (.ref a))) (eval (.Name z zp) X.env) Q E { t with heap := h3 } := fun hz q => by
      obtain ⟨hg, hdb, hm⟩ := hz
      rcases hm with hm | ⟨hm, hv, hnn⟩
      · exact ld_glob (X := X.suite a ((a, o3) :: (X.pn ++ pins))) T3 hg hm q hdb
      · exact ld_blt (X := X.suite a ((a, o3) :: (X.pn ++ pins))) T3 hg hm hv q hnn hdb
    refine wpAny_handleBy_cons (codeAny_handlers_test ?_) (fun q => nomatch q)
    refine named hc ((PySem.W.exm_one (M := model X.prog X.w) J3.kIn cl hcls).here ?_)
    match b, hno, hyes with
    | false, hno, _ =>
      obtain ⟨b2, hcls2, hno2, hyes2⟩ := hno rfl
      show wpAny _ X.A (handleBy (.ref a) X.env [.ExceptHandler (some (.Name y np2)) none (b₁ :: suite2) p3, .ExceptHandler (some (.Name z np3)) none (b₂ :: suite3) p4]) _ _ _
      refine wpAny_handleBy_cons (codeAny_handlers_test ?_) (fun q => nomatch q)
      refine named hc2 ((PySem.W.exm_one (M := model X.prog X.w) J3.kIn cl hcls2).here ?_)
      match b2, hno2, hyes2 with
      | false, hno2, _ =>
       obtain ⟨b3, hcls3, hno3, hyes3⟩ := hno2 rfl
       show wpAny _ X.A (handleBy (.ref a) X.env [.ExceptHandler (some (.Name z np3)) none (b₂ :: suite3) p4]) _ _ _
       refine wpAny_handleBy_cons (codeAny_handlers_test ?_) (fun q => nomatch q)
       refine named hc3 ((PySem.W.exm_one (M := model X.prog X.w) J3.kIn cl hcls3).here ?_)
       match b3, hno3, hyes3 with
       | false, hno3, _ =>
        show wpAny _ X.A (handleBy (.ref a) X.env []) _ _ _
        obtain ⟨_, _, _, oe, vs, T, _, _, g, _, dd, h1, _⟩ := id fl3
        have out : wpAny (model X.prog X.w) X.A (setFlight (.ref a) X.env.frame) (fun _ t4 => wpAny (model X.prog X.w) X.A (throw (.ref a) : Sem Flow) (SP X pins D) X.xe t4) X.xe { t with heap := h3 } := by
          rw [hf]
          refine HandSPX.setFlight_upZ fl3 fun h4 k4 up4 => wpAny_throw (tk _ _ ⟨a, B, sI, pins, σ1, H1, cls, d, rfl, J, nb, (up.trans up3).trans up4, .inr (.inr (hs ▸ k4)), na, os, ag, hno3 rfl⟩)
        refine wpAny_handleBy_nil ?_
        unfold PySem.passOn
        refine wpAny_bind (wpAny_field g dd h1 ?_)
        rw [if_neg (show ¬ ((Value.ref T == Value.none) = true) from by simp)]
        first
          | exact wpAny_bind out
          | exact wpAny_bind (wpAny_pure (wpAny_bind out))
       | true, _, hyes3 =>
         refine codeAny_handlers_suite (HandSPX.lands_againZ fl3 fun h4 fl4 up4 => ?_)
         obtain ⟨o4, v4, g4, z4, d4⟩ := fl4.there
         have J4 : Inv X pins σ1 H1 { t with heap := h4 } := J.landed nb fl4.1 ((up.trans up3).trans up4) os ag
         refine wpAny_mono ((hsu3 a o4 cls d (X.pn ++ pins) z4 ⟨_, d4⟩).run [] _ σ1 H1 _ (J4.suite g4 d4 na nx.nloc nx.nfs) (hyes3 rfl J.len a na)) (fun f s6 q => ?_) (fun _ _ z => z.elim)
         match f, q with
         | .brk, ⟨_, _, _, z⟩ => exact z.elim
         | .cont, ⟨_, _, _, z⟩ => exact z.elim
         | .ret _, ⟨_, _, _, _, _, z⟩ => exact z.elim
         | .next, ⟨σ6, H6, T6, q6⟩ => exact ⟨_, _, T6.unsuite ok, q6⟩
      | true, _, hyes2 =>
        refine codeAny_handlers_suite (HandSPX.lands_againZ fl3 fun h4 fl4 up4 => ?_)
        obtain ⟨o4, v4, g4, z4, d4⟩ := fl4.there
        have J4 : Inv X pins σ1 H1 { t with heap := h4 } := J.landed nb fl4.1 ((up.trans up3).trans up4) os ag
        refine wpAny_mono ((hsu2 a o4 cls d (X.pn ++ pins) z4 ⟨_, d4⟩).run [] _ σ1 H1 _ (J4.suite g4 d4 na nx.nloc nx.nfs) (hyes2 rfl J.len a na)) (fun f s6 q => ?_) (fun _ _ z => z.elim)
        match f, q with
        | .brk, ⟨_, _, _, z⟩ => exact z.elim
        | .cont, ⟨_, _, _, z⟩ => exact z.elim
        | .ret _, ⟨_, _, _, _, _, z⟩ => exact z.elim
        | .next, ⟨σ6, H6, T6, q6⟩ => exact ⟨_, _, T6.unsuite ok, q6⟩
    | true, _, hyes =>
      refine codeAny_handlers_suite_as (HandSPX.lands_againZ fl3 fun h4 fl4 up4 => ?_)
      obtain ⟨o4, v4, g4, z4, d4⟩ := fl4.there
      have J4 : Inv X pins σ1 H1 { t with heap := h4 } := J.landed nb fl4.1 ((up.trans up3).trans up4) os ag
      refine store_ok (X := X.suite a ((a, o4) :: (X.pn ++ pins))) (v := .ref a) (J4.suite g4 d4 na nx.nloc nx.nfs) hN hi (.inl hln) rfl (fun s5 T5 => ?_) (.inr hln)
      refine wpAny_mono ((hsu a o4 cls d (X.pn ++ pins) z4 ⟨_, d4⟩).run [] s5 _ H1 _ T5 (hyes rfl J.len a na)) (fun f s6 q => ?_) (fun _ _ z => z.elim)
      match f, q with
      | .brk, ⟨_, _, _, z⟩ => exact z.elim
      | .cont, ⟨_, _, _, z⟩ => exact z.elim
      | .ret _, ⟨_, _, _, _, _, z⟩ => exact z.elim
      | .next, ⟨σ6, H6, T6, q6⟩ =>
        exact gone_ok (X := X) (T6.unsuite ok) hN hi hln fun s7 J7 => ⟨_, _, J7, q6⟩
  refine wpAny_Try_except (wpAny_mono ((hb _ (X.pn ++ pins) caught takes PassesOwn.looking).run [] s σ H D (I.toTry _) hw) (fun f s1 q => ?_) fun e s1 q => q)
  match f, q with
  | .next, ⟨_, _, T, q⟩ => exact wpAny_execs_nil ⟨_, _, T.ofTry ok, q⟩
  | .brk, ⟨_, _, T, q⟩ => exact ⟨_, _, T.ofTry ok, q⟩
  | .cont, ⟨_, _, T, q⟩ => exact ⟨_, _, T.ofTry ok, q⟩
  | .ret _, ⟨_, _, _, T, r, q⟩ => exact ⟨_, _, _, T.ofTry ok, r, q⟩⟩
end
end SA

set_option Elab.async false
set_option linter.all false
set_option maxRecDepth 100000
set_option maxHeartbeats 4000000
namespace SA
open PySem PySem.Spec PyProof.Rows L2 K83
section
variable {n : Addr → Prop} {H : Hp}
theorem DnAll.mem' : ∀ {vs : List V} {ds : List PyData} {v : V}, DnAll n H vs ds → v ∈ vs → ∃ d, d ∈ ds ∧ Dn n H v d
  | _, _, _, .cons h _, .head _ => ⟨_, List.mem_cons_self, h⟩
  | _, _, _, .cons _ h, .tail _ m => by
    obtain ⟨d, hd, q⟩ := DnAll.mem' h m
    exact ⟨d, List.mem_cons_of_mem _ hd, q⟩
theorem Dn.kds {K : PySem.W.Frag} {x : V} {d : PyData} (h : Dn n H x d) : KdS K H x (kindD d) := fun H' s => (h.same s).kd
end
theorem sIx_at {n d k : Nat} (hk : k ≤ n) : HT.sIx n d (some (k : Int)) = k := by
  rw [HT.sIx_nat]
  omega
theorem cutV_to {xs : List V} {k : Nat} (hk : k ≤ xs.length) : cutV xs none (some (k : Int)) = xs.take k := by
  unfold cutV
  rw [sIx_at hk, HT.sIx_none]
  simp
mutual
theorem Dn.dpP {K : PySem.W.Frag} {n : Addr → Prop} {H : Hp} : ∀ {v : V} {d : PyData}, Dn n H v d → d.canLay0 = true → Dp K H v d
  | _, _, .non, _ => .non
  | _, _, .bl b, _ => .bl b
  | _, _, .int i, _ => .int i
  | _, _, .str x, _ => .str x
  | _, .list ds, .lst _ h2 h3, h => .lst (.of h2) (h3.dpP (by simpa [PyData.canLay0] using h))
  | _, .tuple ds, .tup _ h2 h3, h => .tup (.of h2) (h3.dpP (by simpa [PyData.canLay0] using h))
  | _, _, .dct _ h2, h => nomatch h
theorem DnAll.dpP {K : PySem.W.Frag} {n : Addr → Prop} {H : Hp} : ∀ {vs : List V} {ds : List PyData}, DnAll n H vs ds → PyData.canLayAll0 ds = true → DpAll K H vs ds
  | _, _, .nil, _ => .nil
  | _, d :: ds, .cons h1 h2, h => by
    have h' : d.canLay0 = true ∧ PyData.canLayAll0 ds = true := by simpa [PyData.canLayAll0] using h
    exact .cons (h1.dpP h'.1) (h2.dpP h'.2)
end
/-- not the same data -/
theorem neD_same {K : PySem.W.Frag} {n m : Addr → Prop} {H : Hp} {x y : V} {d : PyData} {Q : VK} (hx : Dn n H x d) (hy : Dn m H y d) (hs : SeqAt.shaped d = true) (q : Q (.bl false) H) : rNeD K x y H Q := by
  have hl := SeqAt.canLay_of_shaped hs
  refine ⟨d, d, hx.dpP hl, hy.dpP hl, hs, hs, ?_⟩
  rw [SeqAt.eqv_refl d hl]
  exact q
theorem eqD_same {K : PySem.W.Frag} {n m : Addr → Prop} {H : Hp} {x y : V} {d : PyData} {Q : VK} (hx : Dn n H x d) (hy : Dn m H y d) (hs : SeqAt.shaped d = true) (q : Q (.bl true) H) : rEqD K x y H Q := by
  have hl := SeqAt.canLay_of_shaped hs
  refine ⟨d, d, hx.dpP hl, hy.dpP hl, hs, hs, ?_⟩
  rw [SeqAt.eqv_refl d hl]
  exact q
/-! ### written data -/
/-- the values that a written one may lean on, told as data; the draw's own objects -/
structure PreR (d w : Addr) (tr : List (V × PyData)) (H : Hp) : Prop where
  t : ∀ q ∈ tr, Dn (notA d w) H q.1 q.2
  dd : ∃ o, H d = some o
  ww : ∃ o, H w = some o
section
variable {d w : Addr} {tr : List (V × PyData)} {σ : L2.St} {K : PySem.W.Frag} {H H' : Hp}
theorem PreR.same (h : PreR d w tr H) (s : Same H H') : PreR d w tr H' := by
  obtain ⟨o1, e1⟩ := h.dd
  obtain ⟨o2, e2⟩ := h.ww
  exact ⟨fun q hq => (h.t q hq).same s, ⟨o1, s _ _ e1⟩, ⟨o2, s _ _ e2⟩⟩
theorem PreR.but {c : Addr} {n : Nat} (h : PreR d w tr H) (b : But2 d w H H') (D : DrawAt H' d w c n) : PreR d w tr H' :=
  ⟨fun q hq => (h.t q hq).keep (fun x o hx e => b x o e hx.1 hx.2) fun _ h => h, D.dict.elim fun _ z => z.elim fun _ z => ⟨_, z.2.2⟩, D.wide.elim fun _ z => ⟨_, z⟩⟩
theorem PreR.add (h : PreR d w tr H) {v : V} {dd : PyData} (hd : Dn (notA d w) H v dd) : PreR d w ((v, dd) :: tr) H := ⟨fun q hq => by
  rcases List.mem_cons.mp hq with rfl | hq
  · exact hd
  · exact h.t q hq, h.dd, h.ww⟩
theorem PreR.off (h : PreR d w tr H) {b : Addr} (hb : H b = none) : b ≠ d ∧ b ≠ w := by
  obtain ⟨o1, e1⟩ := h.dd
  obtain ⟨o2, e2⟩ := h.ww
  exact ⟨(ne_of_none e1 hb).symm, (ne_of_none e2 hb).symm⟩
def MkE (d w : Addr) (tr : List (V × PyData)) (σ : L2.St) (te : TE) (dd : PyData) : Prop := ∀ (H : Hp) (Q : VK), PreR d w tr H → (∀ v H', Same H H' → Dn (notA d w) H' v dd → Q v H') → te σ H Q
def MkA (d w : Addr) (tr : List (V × PyData)) (σ : L2.St) (ta : TA) (ds : List PyData) : Prop := ∀ (H : Hp) (Q : List V → Hp → Prop), PreR d w tr H → (∀ vs H', Same H H' → DnAll (notA d w) H' vs ds → Q vs H') → ta σ H Q
theorem MkE.c {v : V} {dd : PyData} (h : ∀ H, Dn (notA d w) H v dd) : MkE d w tr σ (tC v) dd := fun H Q _ q => q v H (Same.refl H) (h H)
theorem MkE.s {z : Str} : MkE d w tr σ (tC (.str z)) (.str z) := .c fun _ => .str z
theorem MkE.i {z : Int} : MkE d w tr σ (tC (.int z)) (.int z) := .c fun _ => .int z
theorem MkE.n : MkE d w tr σ (tC .non) .none := .c fun _ => .non
theorem MkE.v {i : Nat} {v : V} {dd : PyData} (e : σ[i]? = some (some v)) (h : (v, dd) ∈ tr) : MkE d w tr σ (tVar i) dd := fun H Q p q => ⟨v, e, q v H (Same.refl H) (p.t _ h)⟩
theorem MkE.x {te : TE} {ds : List PyData} {j : Nat} {dd : PyData} (h : MkE d w tr σ te (.tuple ds)) (e : ds[j]? = some dd) : MkE d w tr σ (tOp (rIxT K) te (tC (.int (j : Nat)))) dd := fun H Q p q => h H _ p fun v H1 s1 dn => by
  match v, dn with
  | .ref a, .tup (xs := xs) ha ea da =>
    obtain ⟨u, hu, du⟩ := da.at' e
    exact ⟨a, xs, _, u, rfl, rfl, SqT.of ea, atI_nat hu, q u H1 s1 du⟩
theorem MkE.xl {te : TE} {ds : List PyData} {j : Nat} {dd : PyData} (h : MkE d w tr σ te (.list ds)) (e : ds[j]? = some dd) : MkE d w tr σ (tOp (rIxL K) te (tC (.int (j : Nat)))) dd := fun H Q p q => h H _ p fun v H1 s1 dn => by
  match v, dn with
  | .ref a, .lst (xs := xs) ha ea da =>
    obtain ⟨u, hu, du⟩ := da.at' e
    exact ⟨a, xs, _, u, rfl, rfl, SqL.of ea, atI_nat hu, q u H1 s1 du⟩
theorem MkA.nil : MkA d w tr σ tNil [] := fun H Q _ q => q [] H (Same.refl H) .nil
theorem MkA.cons {te : TE} {ta : TA} {dd : PyData} {ds : List PyData} (h : MkE d w tr σ te dd) (t : MkA d w tr σ ta ds) : MkA d w tr σ (tCons te ta) (dd :: ds) := fun H Q p q =>
  h H _ p fun v H1 s1 d1 => t H1 _ (p.same s1) fun vs H2 s2 d2 => q (v :: vs) H2 (s1.trans s2) (.cons (d1.same s2) d2)
theorem MkA.one {te : TE} {dd : PyData} (h : MkE d w tr σ te dd) : MkA d w tr σ (tCons te tNil) [dd] := .cons h .nil
theorem MkE.t {ta : TA} {ds : List PyData} (h : MkA d w tr σ ta ds) (hl : ds.length ≤ 20 := by simp) : MkE d w tr σ (tTup ta) (.tuple ds) := fun H Q p q => h H _ p fun vs H1 s1 d1 => ⟨by
  rw [d1.len]
  exact Nat.le_trans hl (by decide), fun a ha => q _ _ (s1.trans (Same.new ha)) (.tup ((p.same s1).off ha) upd_same (d1.same (Same.new ha)))⟩
theorem MkE.l {ta : TA} {ds : List PyData} (h : MkA d w tr σ ta ds) (hl : ds.length ≤ 20 := by simp) : MkE d w tr σ (tLst ta) (.list ds) := fun H Q p q => h H _ p fun vs H1 s1 d1 => ⟨by
  rw [d1.len]
  exact Nat.le_trans hl (by decide), fun a ha => q _ _ (s1.trans (Same.new ha)) (.lst ((p.same s1).off ha) upd_same (d1.same (Same.new ha)))⟩
theorem MkE.dict : MkE d w tr σ tDNewK (.dict []) := fun H Q p q => fun a ha => q _ _ (Same.new ha) (.dct (p.off ha) upd_same)
theorem MkE.len {te : TE} {ds : List PyData} (h : MkE d w tr σ te (.list ds)) : MkE d w tr σ (tOp (rI0 fun i j => V.int (i + j)) (tCB (fun xs H Q => ∃ p ys, xs = [.ref p] ∧ (SqL K H p ys ∨ SqT K H p ys) ∧ Q (.int ys.length) H) (tCons te tNil)) (tC (.int 1))) (.int (((ds.length + 1 : Nat)) : Int)) := fun H Q p q => h H _ p fun v H1 s1 dn => by
  match v, dn with
  | .ref a, .lst (xs := xs) ha ea da =>
    refine ⟨a, xs, rfl, .inl (SqL.of ea), _, _, rfl, rfl, ?_⟩
    rw [da.len]
    exact q _ H1 s1 (.int _)
theorem MkE.cat {ta tb : TE} {xs ys : List PyData} (h : MkE d w tr σ ta (.list xs)) (k : MkE d w tr σ tb (.list ys)) (hl : xs.length + ys.length ≤ 1000) : MkE d w tr σ (tOp rCat ta tb) (.list (xs ++ ys)) := fun H Q p q => h H _ p fun v H1 s1 d1 => k H1 _ (p.same s1) fun u H2 s2 d2 => by
  have d1 := d1.same s2
  match v, u, d1, d2 with
  | .ref a, .ref b, .lst (xs := us) ha ea da, .lst (xs := vs) hb eb db =>
    refine ⟨a, b, us, vs, rfl, rfl, ea, eb, ?_, fun z hz => q _ _ ((s1.trans s2).trans (Same.new hz)) (.lst (((p.same s1).same s2).off hz) upd_same ((da.app db).same (Same.new hz)))⟩
    rw [da.len, db.len]
    exact small1000' hl
theorem MkE.catT {ta tb : TE} {xs ys : List PyData} (h : MkE d w tr σ ta (.tuple xs)) (k : MkE d w tr σ tb (.tuple ys)) (hl : xs.length + ys.length ≤ 1000) (hx : xs ≠ []) (hy : ys ≠ []) : MkE d w tr σ (tOp (rCatT K) ta tb) (.tuple (xs ++ ys)) := fun H Q p q => h H _ p fun v H1 s1 d1 => k H1 _ (p.same s1) fun u H2 s2 d2 => by
  have d1 := d1.same s2
  match v, u, d1, d2 with
  | .ref a, .ref b, .tup (xs := us) ha ea da, .tup (xs := vs) hb eb db =>
    refine ⟨a, b, us, vs, rfl, rfl, SqT.of ea, SqT.of eb, fun z => ?_, ?_, fun z => ?_, fun _ z hz => q _ _ ((s1.trans s2).trans (Same.new hz)) (.tup (((p.same s1).same s2).off hz) upd_same ((da.app db).same (Same.new hz)))⟩
    · subst z
      cases da
      exact hx rfl
    · rw [da.len, db.len]
      exact small1000' hl
    · subst z
      cases db
      exact absurd rfl hy
theorem DnAll.take' {n : Addr → Prop} : ∀ {vs : List V} {ds : List PyData} (i : Nat), DnAll n H vs ds → DnAll n H (vs.take i) (ds.take i)
  | _, _, 0, _ => .nil
  | _, _, _ + 1, .nil => .nil
  | _, _, i + 1, .cons h t => .cons h (DnAll.take' i t)
theorem cutV_from {xs : List V} {k : Nat} (hk : k ≤ xs.length) : cutV xs (some (k : Int)) none = xs.drop k := by
  unfold cutV
  rw [sIx_at hk, HT.sIx_none, List.take_of_length_le]
  rw [List.length_drop]
  exact Nat.le_refl _
theorem MkE.to {te : TE} {tu : TE} {ds : List PyData} {k : Nat} (h : MkE d w tr σ te (.list ds)) (hu : ∀ (H : Hp) (Q : VK), Q (.int (k : Nat)) H → tu σ H Q) (hk : k ≤ ds.length) : MkE d w tr σ (tSl (rSlL K) te tNoPart (tPart tu)) (.list (ds.take k)) := fun H Q p q => h H _ p fun v H1 s1 dn => by
  match v, dn with
  | .ref a, .lst (xs := xs) ha ea da =>
    refine hu H1 _ ⟨_, rfl, a, xs, rfl, SqL.of ea, fun z hz => ?_⟩
    rw [cutV_to (by rw [da.len]; exact hk)]
    exact q _ _ (s1.trans (Same.new hz)) (.lst ((p.same s1).off hz) upd_same ((da.take' k).same (Same.new hz)))
theorem MkE.from_ {te : TE} {tu : TE} {ds : List PyData} {k : Nat} (h : MkE d w tr σ te (.list ds)) (hu : ∀ (H : Hp) (Q : VK), Q (.int (k : Nat)) H → tu σ H Q) (hk : k ≤ ds.length) : MkE d w tr σ (tSl (rSlL K) te (tPart tu) tNoPart) (.list (ds.drop k)) := fun H Q p q => h H _ p fun v H1 s1 dn => by
  match v, dn with
  | .ref a, .lst (xs := xs) ha ea da =>
    refine hu H1 _ ⟨_, rfl, a, xs, rfl, SqL.of ea, fun z hz => ?_⟩
    rw [cutV_from (by rw [da.len]; exact hk)]
    exact q _ _ (s1.trans (Same.new hz)) (.lst ((p.same s1).off hz) upd_same ((da.drop k).same (Same.new hz)))
theorem MkE.lo {te : TE} {ds : List PyData} (h : MkE d w tr σ te (.tuple ds)) : MkE d w tr σ (tCB (fun xs H Q => ∃ p ys, xs = [.ref p] ∧ (SqL K H p ys ∨ SqT K H p ys) ∧ ∀ l, H l = none → Q (.ref l) (upd H l (.lst ys))) (tCons te tNil)) (.list ds) := fun H Q p q => h H _ p fun v H1 s1 dn => by
  match v, dn with
  | .ref a, .tup (xs := xs) ha ea da =>
    exact ⟨a, xs, rfl, .inr (SqT.of ea), fun z hz => q _ _ (s1.trans (Same.new hz)) (.lst ((p.same s1).off hz) upd_same (da.same (Same.new hz)))⟩
theorem MkE.to_ {te : TE} {ds : List PyData} (h : MkE d w tr σ te (.list ds)) : MkE d w tr σ (tCB (fun xs H Q => ∃ p ys, xs = [.ref p] ∧ ((SqL K H p ys ∧ ∀ l, H l = none → Q (.ref l) (upd H l (.tup ys))) ∨ (SqT K H p ys ∧ Q (.ref p) H))) (tCons te tNil)) (.tuple ds) := fun H Q p q => h H _ p fun v H1 s1 dn => by
  match v, dn with
  | .ref a, .lst (xs := xs) ha ea da =>
    exact ⟨a, xs, rfl, .inl ⟨SqL.of ea, fun z hz => q _ _ (s1.trans (Same.new hz)) (.tup ((p.same s1).off hz) upd_same (da.same (Same.new hz)))⟩⟩
/-- one of written things is picked -/
theorem pickD {v : V} {cA : Addr} {n : Nat} {ds : List PyData} {Q : VK} {E : XK} (dn : Dn (notA d w) H v (.list ds)) (D : DrawAt H d w cA n) (hn : n < 2 ^ 40) (h1 : ds ≠ []) (h2 : ds.length ≤ 20) (q : ∀ x dd H', dd ∈ ds → Dn (notA d w) H' x dd → DrawAt H' d w cA (n + 1) → But2 d w H H' → Q x H') : spPick K [.ref d, v] H Q E := by
  match v, dn with
  | .ref a, .lst (xs := xs) ha e da =>
    refine ⟨d, w, cA, a, n, xs, rfl, D, hn, ha.1, ha.2, SqL.of e, fun z => ?_, ?_, fun x H' hx D' b => ?_⟩
    · subst z
      cases da
      exact h1 rfl
    · rw [da.len]
      exact Nat.lt_of_le_of_lt h2 (by decide)
    · obtain ⟨dd, hd, dx⟩ := da.mem' hx
      exact q x dd H' hd (dx.keep (fun b' o hb e => b b' o e hb.1 hb.2) fun _ h => h) D' b
end
theorem DnAll.of {n : Addr → Prop} {H : Hp} : ∀ {vs : List V} {ds : List PyData}, vs.length = ds.length → (∀ (i : Nat) (v : V) (d : PyData), vs[i]? = some v → ds[i]? = some d → Dn n H v d) → DnAll n H vs ds
  | [], [], _, _ => .nil
  | [], _ :: _, h, _ => by cases h
  | _ :: _, [], h, _ => by cases h
  | v :: vs, d :: ds, h, k => .cons (k 0 v d rfl rfl) (DnAll.of (Nat.succ.inj h) fun i u e h1 h2 => k (i + 1) u e h1 h2)
theorem Dn.lstOf {n : Addr → Prop} {H : Hp} {v : V} {ds : List PyData} (h : Dn n H v (.list ds)) : ∃ a xs, v = .ref a ∧ H a = some (.lst xs) ∧ DnAll n H xs ds := by
  match v, h with
  | .ref a, .lst _ e da => exact ⟨a, _, rfl, e, da⟩
/-- data that may be compared, so deep -/
def ShK (k : Nat) (d : PyData) : Prop := d.canLay0 = true ∧ d.depth ≤ k
theorem ShK.shaped {k : Nat} {d : PyData} (h : ShK k d) (hk : k ≤ 64) : SeqAt.shaped d = true := by
  unfold SeqAt.shaped
  rw [Bool.and_eq_true, decide_eq_true_eq]
  exact ⟨h.1, Nat.le_trans h.2 hk⟩
theorem ShK.all {k : Nat} : ∀ {ds : List PyData}, (∀ d ∈ ds, ShK k d) → PyData.canLayAll0 ds = true ∧ PyData.depthAll ds ≤ k
  | [], _ => ⟨by simp [PyData.canLayAll0], by simp [PyData.depthAll]⟩
  | d :: ds, h => by
    obtain ⟨a, b⟩ := ShK.all fun x hx => h x (List.mem_cons_of_mem _ hx)
    obtain ⟨c, e⟩ := h d List.mem_cons_self
    refine ⟨by simp [PyData.canLayAll0, a, c], ?_⟩
    simp only [PyData.depthAll]
    omega
theorem ShK.list {k : Nat} {ds : List PyData} (h : ∀ d ∈ ds, ShK k d) : ShK (k + 1) (.list ds) := by
  obtain ⟨a, b⟩ := ShK.all h
  exact ⟨by simpa [PyData.canLay0] using a, by simp only [PyData.depth]; omega⟩
theorem ShK.tup {k : Nat} {ds : List PyData} (h : ∀ d ∈ ds, ShK k d) : ShK (k + 1) (.tuple ds) := by
  obtain ⟨a, b⟩ := ShK.all h
  exact ⟨by simpa [PyData.canLay0] using a, by simp only [PyData.depth]; omega⟩
end SA

set_option Elab.async false
set_option linter.all false
set_option maxRecDepth 100000
set_option maxHeartbeats 4000000
namespace SA
open PySem PySem.Spec PyProof.Rows L2 K83 M57
section
variable {X : Cx} {CX : CXT} {k j : Nat} {x : Str} {p pos : Pos} {e : Expr} {es : List Expr} {t : TA} {sp : Sp} {ps : List Str} {E : L2.St → XK}
theorem pe_qS (c : Dq X.prog X.w X.K X.mg X.base CX k x ps sp) (hr : Room j X.A) (hk : k ≤ j) (hg : Gl X x) (hx : ∀ σ, PassesAt CX X σ (E σ)) (ha : PA X (e :: es) t)
    (hdb : (x == ("__debug__" : Str)) = false := by decide) (he : starEach (e :: es) X.env = (false, eval e X.env) :: starEach es X.env := by rfl) (hpl : (backTo pos (starEach es X.env)).any (·.1) = false := by rfl) :
    PE X (.Call (.Name x p) (e :: es) [] pos) (tCallS sp E t) := by
  obtain ⟨f, fd, F, hm, kp, b⟩ := c.ex
  exact pe_callS F (hr.mono hk) hg hm kp b hx ha hdb he hpl
end
/-- the errors, as the law looks at them -/
structure Ers (K : PySem.W.Frag) (mg : Str → Option Value) (BS BR BP : Addr) : Prop where
  gS : mg "BadSpans" = some (.ref BS)
  gR : mg "BadRoom" = some (.ref BR)
  gP : mg "BadPrices" = some (.ref BP)
  xSS : PySem.W.exmOne K (.ref BS) (.ref BS) = some true
  xRS : PySem.W.exmOne K (.ref BR) (.ref BS) = some false
  xRR : PySem.W.exmOne K (.ref BR) (.ref BR) = some true
  xPS : PySem.W.exmOne K (.ref BP) (.ref BS) = some false
  xPR : PySem.W.exmOne K (.ref BP) (.ref BR) = some false
  xPP : PySem.W.exmOne K (.ref BP) (.ref BP) = some true
  XS : XfC K BS
  nS : PySem.W.findIn K (.ref BS) "at" = some none
/-- what came of a call: nothing, the prices' error, the room's, the spans' and its place -/
inductive Wd
  | non
  | prc
  | rom
  | spn (o : Option Nat)
def oV : Option Nat → V
  | none => .non
  | some i => .int (i : Nat)
def oD : Option Nat → PyData
  | none => .none
  | some i => .int (i : Nat)
def Wd.d : Wd → PyData
  | .non => .none
  | .prc => .str "prices"
  | .rom => .str "room"
  | .spn o => .tuple [.str "spans", oD o]
theorem oDn {n : Addr → Prop} {H : Hp} : ∀ o : Option Nat, Dn n H (oV o) (oD o)
  | none => .non
  | some i => .int _
def EndW (BS BR BP : Addr) : Wd → Hp → VK → XK → Prop
  | .non, H, Q, _ => ∀ v H', Same H H' → Q v H'
  | .prc, H, _, E => ∀ H', Same H H' → E (.ref BP) none H'
  | .rom, H, _, E => ∀ H', Same H H' → E (.ref BR) none H'
  | .spn o, H, _, E => RaiseF BS "at" (oV o) H E
section
variable {P : Program} {w0 : World} {K : PySem.W.Frag} {mg : Str → Option Value} {base : Heap} {BS BR BP : Addr}
def spRefd (K : PySem.W.Frag) (BS BR BP : Addr) : Sp := fun vs H Q _ => ∃ x r y w1 w2, vs = [x, r, y] ∧ (∀ H1 Q1 E1, Same H H1 → EndW BS BR BP w1 H1 Q1 E1 → spWorth K BS BR BP [x, r, y] H1 Q1 E1) ∧ (∀ H1 Q1 E1, Same H H1 → EndW BS BR BP w2 H1 Q1 E1 → spLeast K BS BR [x, r] H1 Q1 E1) ∧
  ∀ H' a, Same H H' → H a = none → Dn anyA H' (.ref a) (.list [w1.d, w2.d]) → Q (.ref a) H'
theorem ok_lrefused {f : Addr} {fd : FuncData} (F : Fun K "_law_refused" "_law_refused" s__law_refused f fd) (B : Bn7 mg) (ER : Ers K mg BS BR BP) (c_worth : Dq P w0 K mg base (L2.CX P w0) 6 "worth" ["spans", "room", "prices"] (spWorth K BS BR BP))
    (c_least : Dq P w0 K mg base (L2.CX P w0) 6 "least" ["spans", "room"] (spLeast K BS BR)) : FnOk P w0 K mg base CX0 7 f fd ["spans", "room", "prices"] (spRefd K BS BR BP) := by
  refine F.ok sc__law_refused (fun vs H Q E h => ?_) (fun cdv A outer s H vs Q E hr hh => ?_)
  · obtain ⟨x, r, y, w1, w2, rfl, _⟩ := h
    rfl
  · obtain ⟨x, r, y, w1, w2, rfl, q1, q2, q⟩ := hh
    refine ⟨_, (pss_cons (ps_set (i := 3) sc__law_refused.nd rfl (Or.inl rfl) (pe_lst pa_nil))
      (pss_cons (ps_for PassesOwn.never rfl (pi_range1 (by rfl) B.range (pa_cons pe_int pa_nil)) (pg_name (i := 4) sc__law_refused.nd rfl (Or.inl rfl)) (pss_cons (ps_set (i := 5) sc__law_refused.nd rfl (Or.inl rfl) pe_non)
      (pss_cons (ps_try_as_three (i := 6) (c := .ref BS) (e := .ref BR) (f := .ref BP) rfl rfl rfl sc__law_refused.nd rfl rfl ⟨rfl, by decide, .inl ER.gS⟩ ⟨rfl, by decide, .inl ER.gR⟩ ⟨rfl, by decide, .inl ER.gP⟩ LamX.takes0
        (fun W pn xe tk _ => pss_one (ps_if (pt_cmpR op_eq (pv 4) pe_int (by rfl)) (pss_one (ps_expr (pe_qS c_worth hr (by decide) (by rfl) (fun σ => passAt tk σ) (pa_cons (pv 0) (pa_cons (pv 1) (pa_cons (pv 2) pa_nil)))))) (pss_one (ps_expr (pe_qS c_least hr (by decide) (by rfl) (fun σ => passAt tk σ) (pa_cons (pv 0) (pa_cons (pv 1) pa_nil)))))))
        (fun a oe cls d pn hz hf => pss_one (ps_set (i := 5) sc__law_refused.nd rfl (.inl rfl) (pe_tup (pa_cons pe_str (pa_cons (pe_xf ER.XS ER.nS hz hf (pv 6)) pa_nil)))))
        (fun a oe cls d pn hz hf => pss_one (ps_set (i := 5) sc__law_refused.nd rfl (.inl rfl) pe_str))
        (fun a oe cls d pn hz hf => pss_one (ps_set (i := 5) sc__law_refused.nd rfl (.inl rfl) pe_str)))
      (pss_one (ps_expr (pe_bm PySem.F.plainAttrs_list PySem.F.slot_list_append PySem.F.type_list_append mt_append (pv 3) (pa_cons (pv 5) pa_nil)))))))
      (pss_one (ps_ret (pv 3))))), ?_⟩
    refine ⟨Nat.zero_le _, fun F hF => ?_⟩
    have s0 := Same.new (o := .lst []) hF
    obtain ⟨ws, ews⟩ : ∃ ws : List Wd, [w1, w2] = ws := ⟨_, rfl⟩
    have wl : ws.length = 2 := by rw [← ews]; rfl
    refine ⟨_, rfl, (by decide), (by decide), for_range (lo := 0) (n := 2) (fun i σ H' => (∃ y3 y4 y5, σ = [some x, some r, some y, some (.ref F), y3, y4, y5]) ∧ Same H H' ∧ ∃ xs, H' F = some (.lst xs) ∧ DnAll (fun b => b ≠ F) H' xs ((ws.take i).map Wd.d)) ⟨⟨_, _, _, rfl⟩, s0, [], upd_same, .nil⟩ ?_ ?_⟩
    · rintro i σ H1 hi ⟨⟨y3, y4, y5, rfl⟩, s1, xs, e1, d1⟩
      have app : ∀ (w : Wd) (H' : Hp) (v : V), Same H1 H' → (ws)[i]? = some w → Dn (fun b => b ≠ F) H' v w.d → Same H (upd H' F (.lst (xs ++ [v]))) ∧ ∃ ys, (upd H' F (.lst (xs ++ [v]))) F = some (.lst ys) ∧ DnAll (fun b => b ≠ F) (upd H' F (.lst (xs ++ [v]))) ys ((ws.take (i + 1)).map Wd.d) := fun w H' v s hw dw => by
        have k : ∀ b o, b ≠ F → H' b = some o → (upd H' F (.lst (xs ++ [v]))) b = some o := fun b o hb e => by
          rw [upd_ne hb]
          exact e
        refine ⟨Same.upd' (s1.trans s) hF, _, upd_same, ?_⟩
        rw [List.take_add_one, hw, List.map_append]
        exact ((d1.same s).keep k fun _ h => h).app (.cons (dw.keep k fun _ h => h) .nil)
      have xl : xs.length ≤ 2 := by
        have := d1.len
        rw [List.length_map, List.length_take] at this
        omega
      have len : xs.length < sizeLine := Nat.lt_of_le_of_lt xl (by decide)
      refine ⟨_, rfl, rfl, _, rfl, ?_⟩
      obtain rfl | rfl : i = 0 ∨ i = 1 := by omega
      · refine iteTd rfl ⟨_, rfl, _, rfl, _, rfl, ?_⟩
        unfold tNil
        show spWorth K BS BR BP [x, r, y] H1 _ _
        cases ew : w1 with
        | non =>
          rw [ew] at q1
          exact q1 H1 _ _ s1 fun v H' s => ⟨_, rfl, .inl ⟨rfl, _, SqL.of (s _ _ e1)⟩, _, rfl, F, xs, _, rfl, rfl, s _ _ e1, len, ⟨_, _, _, rfl⟩, app _ H' _ s (by rw [← ews, ew]; rfl) .non⟩
        | prc =>
          rw [ew] at q1
          exact q1 H1 _ _ s1 fun H' s => ⟨false, ER.xPS, (fun _ => ⟨false, ER.xPR, (fun _ => ⟨true, ER.xPP, (fun z => nomatch z), fun _ _ a ha => ⟨_, rfl, .inl ⟨rfl, _, SqL.of (s _ _ e1)⟩, _, rfl, F, xs, _, rfl, rfl, s _ _ e1, len, ⟨_, _, _, rfl⟩, app _ H' _ s (by rw [← ews, ew]; rfl) (.str _)⟩⟩), (fun z => nomatch z)⟩), fun z => nomatch z⟩
        | rom =>
          rw [ew] at q1
          exact q1 H1 _ _ s1 fun H' s => ⟨false, ER.xRS, (fun _ => ⟨true, ER.xRR, (fun z => nomatch z), fun _ _ a ha => ⟨_, rfl, .inl ⟨rfl, _, SqL.of (s _ _ e1)⟩, _, rfl, F, xs, _, rfl, rfl, s _ _ e1, len, ⟨_, _, _, rfl⟩, app _ H' _ s (by rw [← ews, ew]; rfl) (.str _)⟩⟩), fun z => nomatch z⟩
        | spn o =>
          rw [ew] at q1
          refine q1 H1 _ _ s1 fun d H' s hd e => ⟨true, ER.xSS, (fun z => nomatch z), fun _ _ a ha => ⟨_, rfl, rfl, rfl, d, _, oV o, rfl, e, rfl, (by show 2 ≤ sizeLine; decide), fun p hp => ?_⟩⟩
          have sp := Same.new (o := .tup [V.str "spans", oV o]) hp
          have s2 := s.trans sp
          have hpF : p ≠ F := (ne_of_none (s _ _ e1) hp).symm
          exact ⟨_, rfl, .inl ⟨rfl, _, SqL.of (s2 _ _ e1)⟩, _, rfl, F, xs, _, rfl, rfl, s2 _ _ e1, len, ⟨_, _, _, rfl⟩, app (.spn o) _ _ s2 (by rw [← ews, ew]; rfl) (Dn.tup (n := fun b => b ≠ F) (a := p) hpF upd_same (.cons (.str _) (.cons (oDn o) .nil)))⟩
      · refine iteFd rfl ⟨_, rfl, _, rfl, ?_⟩
        unfold tNil
        show spLeast K BS BR [x, r] H1 _ _
        cases ew : w2 with
        | non =>
          rw [ew] at q2
          exact q2 H1 _ _ s1 fun v H' s => ⟨_, rfl, .inl ⟨rfl, _, SqL.of (s _ _ e1)⟩, _, rfl, F, xs, _, rfl, rfl, s _ _ e1, len, ⟨_, _, _, rfl⟩, app _ H' _ s (by rw [← ews, ew]; rfl) .non⟩
        | prc =>
          rw [ew] at q2
          exact q2 H1 _ _ s1 fun H' s => ⟨false, ER.xPS, (fun _ => ⟨false, ER.xPR, (fun _ => ⟨true, ER.xPP, (fun z => nomatch z), fun _ _ a ha => ⟨_, rfl, .inl ⟨rfl, _, SqL.of (s _ _ e1)⟩, _, rfl, F, xs, _, rfl, rfl, s _ _ e1, len, ⟨_, _, _, rfl⟩, app _ H' _ s (by rw [← ews, ew]; rfl) (.str _)⟩⟩), (fun z => nomatch z)⟩), fun z => nomatch z⟩
        | rom =>
          rw [ew] at q2
          exact q2 H1 _ _ s1 fun H' s => ⟨false, ER.xRS, (fun _ => ⟨true, ER.xRR, (fun z => nomatch z), fun _ _ a ha => ⟨_, rfl, .inl ⟨rfl, _, SqL.of (s _ _ e1)⟩, _, rfl, F, xs, _, rfl, rfl, s _ _ e1, len, ⟨_, _, _, rfl⟩, app _ H' _ s (by rw [← ews, ew]; rfl) (.str _)⟩⟩), fun z => nomatch z⟩
        | spn o =>
          rw [ew] at q2
          refine q2 H1 _ _ s1 fun d H' s hd e => ⟨true, ER.xSS, (fun z => nomatch z), fun _ _ a ha => ⟨_, rfl, rfl, rfl, d, _, oV o, rfl, e, rfl, (by show 2 ≤ sizeLine; decide), fun p hp => ?_⟩⟩
          have sp := Same.new (o := .tup [V.str "spans", oV o]) hp
          have s2 := s.trans sp
          have hpF : p ≠ F := (ne_of_none (s _ _ e1) hp).symm
          exact ⟨_, rfl, .inl ⟨rfl, _, SqL.of (s2 _ _ e1)⟩, _, rfl, F, xs, _, rfl, rfl, s2 _ _ e1, len, ⟨_, _, _, rfl⟩, app (.spn o) _ _ s2 (by rw [← ews, ew]; rfl) (Dn.tup (n := fun b => b ≠ F) (a := p) hpF upd_same (.cons (.str _) (.cons (oDn o) .nil)))⟩
    · rintro σ H1 ⟨⟨y3, y4, y5, rfl⟩, s1, xs, e1, d1⟩
      subst ews
      exact ⟨_, rfl, q _ _ s1 hF (.lst trivial e1 (d1.keep (fun _ _ _ e => e) fun _ _ => trivial))⟩
end
end SA

set_option Elab.async false
set_option linter.all false
set_option maxRecDepth 100000
set_option maxHeartbeats 4000000
namespace SA
open PySem PySem.Spec PyProof.Rows L2 K83 M57
/-! ### what the law hands in, and what it is refused with -/
def badSD : PyData → Bool
  | .tuple [u, m, c] => match m with
    | .int m => !decide (0 ≤ m ∧ m ≤ 999) || match u with
      | .int u => !decide (0 ≤ u ∧ u ≤ m) || match c with
        | .int c => decide (c < 0)
        | _ => true
      | _ => true
    | _ => true
  | _ => true
def badRD : PyData → Bool
  | .int i => !decide (0 ≤ i ∧ i ≤ 20)
  | _ => true
def goodPD : PyData → Bool
  | .int i => decide (0 ≤ i)
  | _ => false
def badPD : PyData → Bool
  | .list l => decide (1000 < l.length) || !(l.map goodPD).all id
  | .tuple _ => false
  | _ => true
def badM : PyData → Bool
  | .list l => decide (400 < l.length)
  | .tuple _ => false
  | _ => true
section
variable {K : PySem.W.Frag} {n : Addr → Prop} {H : Hp}
theorem Dn.nint {x : V} {d : PyData} (h : Dn n H x d) (e : kindD d = "int") : ∃ i, d = .int i := (h.int_of e).elim fun i z => ⟨i, z.2⟩
theorem kindD_int {d : PyData} (h : ∀ i, d ≠ .int i) : kindD d ≠ "int" := by
  cases d <;> first | exact absurd rfl (h _) | (simp [kindD])
theorem DnAll.three {vs : List V} {x y z : PyData} (h : DnAll n H vs [x, y, z]) : ∃ u v w, vs = [u, v, w] ∧ Dn n H u x ∧ Dn n H v y ∧ Dn n H w z := by
  cases h with
  | cons a h => cases h with
    | cons b h => cases h with
      | cons c h =>
        cases h
        exact ⟨_, _, _, rfl, a, b, c⟩
theorem Dn.intV {x : V} {i : Int} (h : Dn n H x (.int i)) : x = .int i := by
  cases h
  rfl
theorem Dn.badS {x : V} {d : PyData} (h : Dn n H x d) (hb : badSD d = true) : BadS K H x := by
  cases h with
  | @tup a xs ds a1 a2 a3 =>
    have hl := a3.len
    by_cases h3 : ds.length = 3
    · match ds, h3 with
      | [x, y, z], _ =>
        obtain ⟨u, m, c, rfl, h1, h2, h3⟩ := a3.three
        by_cases e2 : ∃ i, y = .int i
        · obtain ⟨mi, rfl⟩ := e2
          obtain rfl := h2.intV
          by_cases hm : 0 ≤ mi ∧ mi ≤ 999
          · by_cases e1 : ∃ i, x = .int i
            · obtain ⟨ui, rfl⟩ := e1
              obtain rfl := h1.intV
              by_cases hu : 0 ≤ ui ∧ ui ≤ mi
              · by_cases e3 : ∃ i, z = .int i
                · obtain ⟨ci, rfl⟩ := e3
                  obtain rfl := h3.intV
                  refine .c2 a2 hm hu ?_
                  have hb : (!decide (0 ≤ mi ∧ mi ≤ 999) || (!decide (0 ≤ ui ∧ ui ≤ mi) || decide (ci < 0))) = true := hb
                  rw [decide_eq_true hm, decide_eq_true hu] at hb
                  simpa using hb
                · exact .c1 a2 hm hu h3.kds (kindD_int fun i e => e3 ⟨i, e⟩)
              · exact .f2 a2 hm hu
            · exact .f1 a2 hm h1.kds (kindD_int fun i e => e1 ⟨i, e⟩)
          · exact .m2 a2 hm
        · exact .m1 a2 h2.kds (kindD_int fun i e => e2 ⟨i, e⟩)
    · exact .len a2 (by omega)
  | str z => exact .kind (Dn.kds (n := n) (.str z)) (by simp [kindD])
  | non => exact .kind (Dn.kds (n := n) .non) (by simp [kindD])
  | bl b => exact .kind (Dn.kds (n := n) (.bl b)) (by simp [kindD])
  | int i => exact .kind (Dn.kds (n := n) (.int i)) (by simp [kindD])
  | lst a b c => exact .kind (Dn.kds (.lst a b c)) (by simp [kindD])
  | dct a b => exact .kind (Dn.kds (.dct a b)) (by simp [kindD])
theorem Dn.badR {x : V} {d : PyData} (h : Dn n H x d) (hb : badRD d = true) : BadR K H x := by
  refine ⟨kindD d, h.kds, ?_⟩
  by_cases e : ∃ i, d = .int i
  · obtain ⟨i, rfl⟩ := e
    exact .inr ⟨i, h.intV, by
      have hb := hb
      simp [badRD] at hb
      omega⟩
  · exact .inl (kindD_int fun i e' => e ⟨i, e'⟩)
theorem Dn.prV {x : V} {d : PyData} (h : Dn n H x d) : PrV K H x (goodPD d) := by
  by_cases e : ∃ i, d = .int i
  · obtain ⟨i, rfl⟩ := e
    rw [h.intV]
    exact .num i
  · have : goodPD d = false := by
      cases d <;> first | rfl | exact absurd ⟨_, rfl⟩ e
    rw [this]
    exact .no h.kds (kindD_int fun i e' => e ⟨i, e'⟩)
theorem Dn.badP {x : V} {d : PyData} (h : Dn n H x d) (hb : badPD d = true) : BadP K H x := by
  cases h with
  | @lst a xs ds a1 a2 a3 =>
    have hl := a3.len
    by_cases h1 : 1000 < ds.length
    · exact .long a2 (by omega)
    · have hb : (decide (1000 < ds.length) || !(ds.map goodPD).all id) = true := hb
      rw [decide_eq_false h1, Bool.false_or, Bool.not_eq_true'] at hb
      refine .item a2 (by omega) ⟨by rw [List.length_map, hl], fun i x b hx hb' => ?_⟩ hb
      obtain ⟨d, hd, dx⟩ := a3.at hx
      rw [List.getElem?_map, hd] at hb'
      cases hb'
      exact dx.prV
  | str z => exact .kind (Dn.kds (n := n) (.str z)) (by simp [kindD]) (by simp [kindD])
  | non => exact .kind (Dn.kds (n := n) .non) (by simp [kindD]) (by simp [kindD])
  | bl b => exact .kind (Dn.kds (n := n) (.bl b)) (by simp [kindD]) (by simp [kindD])
  | int i => exact .kind (Dn.kds (n := n) (.int i)) (by simp [kindD]) (by simp [kindD])
  | tup a b c => exact absurd hb (by simp [badPD])
  | dct a b => exact .kind (Dn.kds (.dct a b)) (by simp [kindD]) (by simp [kindD])
theorem Dn.badM {x : V} {d : PyData} (h : Dn n H x d) (hb : badM d = true) : BadSp K H x .non := by
  cases h with
  | @lst a xs ds a1 a2 a3 =>
    have hl := a3.len
    have hb : decide (400 < ds.length) = true := hb
    exact .inr (.inl ⟨a, xs, rfl, a2, by have := of_decide_eq_true hb; omega, rfl⟩)
  | str z => exact .inl ⟨_, Dn.kds (n := n) (.str z), by simp [kindD], by simp [kindD], rfl⟩
  | non => exact .inl ⟨_, Dn.kds (n := n) .non, by simp [kindD], by simp [kindD], rfl⟩
  | bl b => exact .inl ⟨_, Dn.kds (n := n) (.bl b), by simp [kindD], by simp [kindD], rfl⟩
  | int i => exact .inl ⟨_, Dn.kds (n := n) (.int i), by simp [kindD], by simp [kindD], rfl⟩
  | tup a b c => exact absurd hb (by simp [SA.badM])
  | dct a b => exact .inl ⟨_, Dn.kds (.dct a b), by simp [kindD], by simp [kindD], rfl⟩
theorem Dn.spO {v : V} {q : Spn} (h : Dn n H v (spD q)) : ∃ b, v = .ref b ∧ H b = some (SA.spO q) := by
  match v, h with
  | .ref b, .tup _ e (.cons (.int _) (.cons (.int _) (.cons (.int _) .nil))) => exact ⟨b, rfl, e⟩
/-- spans ahead of one that is none -/
theorem DnAll.wrong {dd : PyData} {rest : List PyData} : ∀ {ss : List Spn} {xs : List V}, DnAll n H xs (ss.map spD ++ dd :: rest) → ∃ sas : List Addr, xs.take ss.length = sas.map V.ref ∧ Objs SA.spO H sas ss ∧ ∃ y, xs[ss.length]? = some y ∧ Dn n H y dd
  | [], _, .cons h _ => ⟨[], rfl, Objs.nil, _, rfl, h⟩
  | q :: ss, _, .cons h t => by
    obtain ⟨b, rfl, e⟩ := Dn.spO h
    obtain ⟨sas, e1, o, y, e2, dy⟩ := DnAll.wrong (ss := ss) t
    refine ⟨b :: sas, by rw [List.length_cons, List.take_succ_cons, e1]; rfl, ⟨by simp [o.len], fun i x c hx hc => ?_⟩, y, by rw [List.length_cons, List.getElem?_cons_succ]; exact e2, dy⟩
    match i, hx, hc with
    | 0, hx, hc =>
      cases hx
      cases hc
      exact e
    | i + 1, hx, hc => exact o.at_ i x c hx hc
theorem Dn.wrong {x : V} {ss : List Spn} {dd : PyData} {rest : List PyData} (h : Dn n H x (.list (ss.map spD ++ dd :: rest))) (hb : badSD dd = true) (gd : ∀ q ∈ ss, GoodS q) (hl : ss.length + rest.length < 400) : BadSp K H x (oV (some ss.length)) := by
  match x, h with
  | .ref a, .lst (xs := xs) _ e da =>
    obtain ⟨sas, e1, o, y, e2, dy⟩ := da.wrong
    have hx := da.len
    rw [List.length_append, List.length_map, List.length_cons] at hx
    exact .inr (.inr ⟨a, false, xs, ss, sas, rfl, e, by omega, e1, o, gd, y, e2, dy.badS hb, rfl⟩)
theorem BadSp.same {H' : Hp} (s : Same H H') {x v : V} (h : BadSp K H x v) : BadSp K H' x v := by
  rcases h with ⟨t, hk, h1, h2, rfl⟩ | ⟨a, xs, rfl, ea, hl, rfl⟩ | ⟨a, tt, xs, ss, sas, rfl, ea, hl, e1, o, gd, y, e2, hy, rfl⟩
  · exact .inl ⟨t, hk.same s, h1, h2, rfl⟩
  · exact .inr (.inl ⟨a, xs, rfl, s _ _ ea, hl, rfl⟩)
  · exact .inr (.inr ⟨a, tt, xs, ss, sas, rfl, s _ _ ea, hl, e1, o.same s, gd, y, e2, hy.same s, rfl⟩)
/-- spans, told by data -/
theorem Dn.spans {tt : Bool} {x : V} {ss : List Spn} (h : Dn n H x (if tt = true then .tuple (ss.map spD) else .list (ss.map spD))) (gd : ∀ q ∈ ss, GoodS q) (hl : ss.length ≤ 400) : ∃ sa sas, x = .ref sa ∧ SpAt H sa tt ss sas := by
  have key : ∀ {xs : List V} {ss : List Spn}, DnAll n H xs (ss.map spD) → ∃ sas : List Addr, xs = sas.map V.ref ∧ Objs SA.spO H sas ss := fun {xs ss} h => by
    obtain ⟨sas, e1, o, _⟩ := DnAll.wrong (dd := .none) (rest := []) (h.app (.cons .non .nil))
    have hl := h.len
    rw [List.length_map] at hl
    rw [← hl, List.take_left] at e1
    exact ⟨sas, e1, o⟩
  cases tt with
  | true =>
    match x, h with
    | .ref a, .tup (xs := xs) _ e da =>
      obtain ⟨sas, rfl, o⟩ := key da
      exact ⟨a, sas, rfl, e, o, gd, hl⟩
  | false =>
    match x, h with
    | .ref a, .lst (xs := xs) _ e da =>
      obtain ⟨sas, rfl, o⟩ := key da
      exact ⟨a, sas, rfl, e, o, gd, hl⟩
theorem DnAll.ints : ∀ {ps : List Int} {xs : List V}, DnAll n H xs (ps.map PyData.int) → xs = ps.map V.int
  | [], _, .nil => rfl
  | p :: ps, _, .cons h t => by
    rw [h.intV, DnAll.ints t]
    rfl
theorem dnAll_ints : ∀ (ps : List Int), DnAll n H (ps.map V.int) (ps.map PyData.int)
  | [] => .nil
  | p :: ps => .cons (.int p) (dnAll_ints ps)
end
section
variable {K : PySem.W.Frag} {BS BR BP : Addr} {H H1 : Hp} {Q : VK} {E : XK} {x r y : V}
theorem spn_w {o : Option Nat} (b : BadSp K H x (oV o)) (s : Same H H1) (q : EndW BS BR BP (.spn o) H1 Q E) : spWorth K BS BR BP [x, r, y] H1 Q E := ⟨x, r, y, rfl, .inl ⟨_, b.same s, q⟩⟩
theorem spn_l {o : Option Nat} (b : BadSp K H x (oV o)) (s : Same H H1) (q : EndW BS BR BP (.spn o) H1 Q E) : spLeast K BS BR [x, r] H1 Q E := ⟨x, r, rfl, .inl ⟨_, b.same s, q⟩⟩
section
variable {sa : Addr} {tt : Bool} {ss : List Spn} {sas : List Addr} {R : Nat}
theorem rom_w (a : SpAt H sa tt ss sas) (b : BadR K H r) (s : Same H H1) (q : EndW BS BR BP .rom H1 Q E) : spWorth K BS BR BP [.ref sa, r, y] H1 Q E := ⟨_, r, y, rfl, .inr ⟨sa, tt, ss, sas, rfl, a.same s, .inl ⟨b.same s, q⟩⟩⟩
theorem rom_l (a : SpAt H sa tt ss sas) (b : BadR K H r) (s : Same H H1) (q : EndW BS BR BP .rom H1 Q E) : spLeast K BS BR [.ref sa, r] H1 Q E := ⟨_, r, rfl, .inr ⟨sa, tt, ss, sas, rfl, a.same s, .inl ⟨b.same s, q⟩⟩⟩
theorem prc_w (a : SpAt H sa tt ss sas) (hR : R ≤ 20) (b : BadP K H y) (s : Same H H1) (q : EndW BS BR BP .prc H1 Q E) : spWorth K BS BR BP [.ref sa, .int (R : Nat), y] H1 Q E := ⟨_, _, y, rfl, .inr ⟨sa, tt, ss, sas, rfl, a.same s, .inr ⟨R, rfl, hR, .inl ⟨b.same s, q⟩⟩⟩⟩
theorem non_w {pa : Addr} {tp : Bool} {ps : List Int} (a : SpAt H sa tt ss sas) (hR : R ≤ 20) (e : H pa = some (sqO tp (ps.map V.int))) (hl : ps.length ≤ 1000) (h0 : ∀ q ∈ ps, 0 ≤ q) (s : Same H H1) (q : EndW BS BR BP .non H1 Q E) : spWorth K BS BR BP [.ref sa, .int (R : Nat), .ref pa] H1 Q E := ⟨_, _, _, rfl, .inr ⟨sa, tt, ss, sas, rfl, a.same s, .inr ⟨R, rfl, hR, .inr ⟨pa, tp, ps, rfl, s _ _ e, hl, h0, fun H' s' => q _ _ s'⟩⟩⟩⟩
theorem non_l (a : SpAt H sa tt ss sas) (hR : R ≤ 20) (s : Same H H1) (q : EndW BS BR BP .non H1 Q E) : spLeast K BS BR [.ref sa, .int (R : Nat)] H1 Q E := ⟨_, _, rfl, .inr ⟨sa, tt, ss, sas, rfl, a.same s, .inr ⟨R, rfl, hR, fun H' t la pa k p _ _ _ _ s' => q _ _ s'⟩⟩⟩
end
end
theorem words_shaped (w1 w2 : Wd) : SeqAt.shaped (.list [w1.d, w2.d]) = true := by
  unfold SeqAt.shaped
  have s1 : PyData.strOk (Str.ofString "spans") = true := by decide +kernel
  have s2 : PyData.strOk (Str.ofString "room") = true := by decide +kernel
  have s3 : PyData.strOk (Str.ofString "prices") = true := by decide +kernel
  have key : ∀ w : Wd, w.d.canLay0 = true ∧ w.d.depth ≤ 2 := fun w => by
    cases w with
    | spn o => cases o <;> simp [Wd.d, oD, PyData.canLay0, PyData.canLayAll0, PyData.depth, PyData.depthAll, s1]
    | _ => simp [Wd.d, PyData.canLay0, PyData.depth, s2, s3]
  obtain ⟨a1, b1⟩ := key w1
  obtain ⟨a2, b2⟩ := key w2
  simp only [PyData.canLay0, PyData.canLayAll0, a1, a2, PyData.depth, PyData.depthAll, Bool.and_true, Bool.true_and]
  exact decide_eq_true (by omega)
end SA

set_option Elab.async false
set_option linter.all false
set_option maxRecDepth 100000
set_option maxHeartbeats 4000000
namespace SA
open PySem PySem.Spec PyProof.Rows L2 K83 M57
section
variable {d w : Addr} {tr : List (V × PyData)} {σ : L2.St} {K : PySem.W.Frag}
theorem MkE.neg {z : Int} : MkE d w tr σ (tUn (rU fun i => V.int (-i)) (tC (.int z))) (.int (-z)) := fun H Q _ q => ⟨z, rfl, q _ H (Same.refl H) (.int _)⟩
theorem MkE.b {z : Bool} : MkE d w tr σ (tC (.bl z)) (.bool z) := .c fun _ => .bl z
end
def oddL : List PyData := [.tuple [.int 2, .int 1, .int 0], .tuple [.int 0, .int 1000, .int 1], .tuple [.int (-1), .int 0, .int 1], .tuple [.int 0, .int 1, .int (-1)], .tuple [.int 0, .int 1], .tuple [.int 0, .int 1, .int 2, .int 3], .list [.int 0, .int 1, .int 2], .none, .tuple [.bool true, .int 1, .int 1],
  .tuple [.int 0, .bool true, .int 1], .tuple [.int 0, .int 1, .bool false], .tuple [.str "0", .int 1, .int 1], .tuple [.int 0, .none, .int 1], .int 5, .str ""]
def roomL : List PyData := [.int (-1), .int 21, .bool true, .none, .str "1", .tuple [.int 1]]
def priceL : List PyData := [.none, .int 5, .list [.int (-1)], .list [.int 0, .bool true], .list [.int 0, .none], .list [.str "1"], .dict [], .list (List.replicate 1001 (.int 0)), .str "00"]
def manyL : List PyData := [.none, .int 7, .dict [], .str "", .list (List.replicate 401 (.tuple [.int 0, .int 0, .int 0]))]
theorem odd_bad : oddL.all badSD = true := by decide +kernel
theorem room_bad : roomL.all badRD = true := by decide +kernel
theorem price_bad : priceL.all badPD = true := by decide +kernel
theorem many_bad : manyL.all badM = true := by decide +kernel
section
variable {P : Program} {w0 : World} {K : PySem.W.Frag} {mg : Str → Option Value} {base : Heap} {BS BR BP : Addr}
def spRefR : Sp := fun vs H Q _ => ∃ (d w c sa pa : Addr) (n R : Nat) (ss : List Spn) (sas : List Addr) (ps : List Int), vs = [.ref d, .ref sa, .int (R : Nat), .ref pa] ∧ DrawAt H d w c n ∧ n < 2 ^ 38 ∧ SpL H sa ss sas ∧ (∀ q ∈ ss, GoodS q) ∧ ss.length ≤ 14 ∧ R ≤ 20 ∧ H pa = some (.lst (ps.map V.int)) ∧ ps.length ≤ 1000 ∧ (∀ q ∈ ps, 0 ≤ q) ∧ sa ≠ d ∧ sa ≠ w ∧ pa ≠ d ∧ pa ≠ w ∧
  ∀ H', DrawAt H' d w c (n + 10) → But2 d w H H' → Q (.bl true) H'
theorem ok_lrefr {f : Addr} {fd : FuncData} (F : Fun K "_law_refusals_right" "_law_refusals_right" s__law_refusals_right f fd) (B : Bn7 mg) (c__law_take : Dq P w0 K mg base CX0 2 "_law_take" ["draw", "many"] spTake) (c__law_pick : Dq P w0 K mg base CX0 3 "_law_pick" ["draw", "some"] (spPick K))
    (c__law_refused : Dq P w0 K mg base CX0 7 "_law_refused" ["spans", "room", "prices"] (spRefd K BS BR BP)) : FnOk P w0 K mg base CX0 8 f fd ["draw", "spans", "room", "prices"] spRefR := by
  refine F.ok sc__law_refusals_right (fun vs H Q E h => ?_) (fun cdv A outer s H vs Q E hr hh => ?_)
  · obtain ⟨d, w, c, sa, pa, n, R, ss, sas, ps, rfl, _⟩ := h
    rfl
  · obtain ⟨d, w, c, sa, pa, n, R, ss, sas, ps, rfl, D0, hn, sp, gd, l14, hR, ep, lp, np, nSd, nSw, nPd, nPw, q⟩ := hh
    refine ⟨_, (Evl.pss_cut (ps_set (i := 4) sc__law_refusals_right.nd rfl (Or.inl rfl) (pe_q c__law_take hr (by decide) (by rfl) (pa_cons (pv 0) (pa_cons (pe_op op_add (pe_callB call_len_seq (by rfl) B.len PySem.boot_len (pa_cons (pv 1) pa_nil)) pe_int) pa_nil))))
      (Evl.pss_cut (ps_set (i := 5) sc__law_refusals_right.nd rfl (Or.inl rfl) (pe_q c__law_pick hr (by decide) (by rfl) (pa_cons (pv 0) (pa_cons (pe_lst (pa_cons (pe_tup (pa_cons pe_int (pa_cons pe_int (pa_cons pe_int pa_nil)))) (pa_cons (pe_tup (pa_cons pe_int (pa_cons pe_int (pa_cons pe_int pa_nil)))) (pa_cons (pe_tup (pa_cons (pe_un un_neg pe_int) (pa_cons pe_int (pa_cons pe_int pa_nil)))) (pa_cons (pe_tup (pa_cons pe_int (pa_cons pe_int (pa_cons (pe_un un_neg pe_int) pa_nil)))) (pa_cons (pe_tup (pa_cons pe_int (pa_cons pe_int pa_nil))) (pa_cons (pe_tup (pa_cons pe_int (pa_cons pe_int (pa_cons pe_int (pa_cons pe_int pa_nil))))) (pa_cons (pe_lst (pa_cons pe_int (pa_cons pe_int (pa_cons pe_int pa_nil)))) (pa_cons pe_non (pa_cons (pe_tup (pa_cons pe_bl (pa_cons pe_int (pa_cons pe_int pa_nil)))) (pa_cons (pe_tup (pa_cons pe_int (pa_cons pe_bl (pa_cons pe_int pa_nil)))) (pa_cons (pe_tup (pa_cons pe_int (pa_cons pe_int (pa_cons pe_bl pa_nil)))) (pa_cons (pe_tup (pa_cons pe_str (pa_cons pe_int (pa_cons pe_int pa_nil)))) (pa_cons (pe_tup (pa_cons pe_int (pa_cons pe_non (pa_cons pe_int pa_nil)))) (pa_cons pe_int (pa_cons pe_str pa_nil)))))))))))))))) pa_nil))))
      (Evl.pss_cut (ps_set (i := 6) sc__law_refusals_right.nd rfl (Or.inl rfl) (pe_op op_cat (pe_op op_cat (pe_op op_cat (pe_slice sl_list (pv 1) po_none (po_some (pv 4))) (pe_lst (pa_cons (pv 5) pa_nil))) (pe_slice sl_list (pv 1) (po_some (pv 4)) po_none)) (pe_lst (pa_cons (pe_q c__law_pick hr (by decide) (by rfl) (pa_cons (pv 0) (pa_cons (pe_lst (pa_cons pe_non (pa_cons (pe_tup (pa_cons pe_int (pa_cons pe_int (pa_cons pe_int pa_nil)))) pa_nil))) pa_nil))) pa_nil))))
      (Evl.pss_cut (ps_set (i := 7) sc__law_refusals_right.nd rfl (Or.inl rfl) (pe_q c__law_pick hr (by decide) (by rfl) (pa_cons (pv 0) (pa_cons (pe_lst (pa_cons (pe_un un_neg pe_int) (pa_cons pe_int (pa_cons pe_bl (pa_cons pe_non (pa_cons pe_str (pa_cons (pe_tup (pa_cons pe_int pa_nil)) pa_nil))))))) pa_nil))))
      (Evl.pss_cut (ps_set (i := 8) sc__law_refusals_right.nd rfl (Or.inl rfl) (pe_q c__law_pick hr (by decide) (by rfl) (pa_cons (pv 0) (pa_cons (pe_lst (pa_cons pe_non (pa_cons pe_int (pa_cons (pe_lst (pa_cons (pe_un un_neg pe_int) pa_nil)) (pa_cons (pe_lst (pa_cons pe_int (pa_cons pe_bl pa_nil))) (pa_cons (pe_lst (pa_cons pe_int (pa_cons pe_non pa_nil))) (pa_cons (pe_lst (pa_cons pe_str pa_nil)) (pa_cons pe_dnewK (pa_cons (pe_lc (own := [("k", 10)]) (g := (gName 10)) (tt := tYes) (by rfl) sc__law_refusals_right.nd (pi_range1 (by rfl) B.range (pa_cons pe_int pa_nil)) (blkOk_by (N := n__law_refusals_right) (sc := defScope s__law_refusals_right) (by decide +kernel)) (fun _ _ _ _ _ => (pg_name (i := 10) sc__law_refusals_right.nd rfl (Or.inl rfl))) (fun _ _ _ _ _ => pts_nil) (fun _ _ _ _ _ => pe_int)) (pa_cons pe_str pa_nil)))))))))) pa_nil))))
      (Evl.pss_cut (ps_if (pt_cmpR (op_neD hr.units) (pe_q c__law_refused hr (by decide) (by rfl) (pa_cons (pv 6) (pa_cons (pv 7) (pa_cons (pv 8) pa_nil)))) (pe_lst (pa_cons (pe_tup (pa_cons pe_str (pa_cons (pv 4) pa_nil))) (pa_cons (pe_tup (pa_cons pe_str (pa_cons (pv 4) pa_nil))) pa_nil))) (nomark _)) (pss_one (ps_ret pe_bl)) pss_nil)
      (Evl.pss_cut (ps_set (i := 9) sc__law_refusals_right.nd rfl (Or.inl rfl) (pe_q c__law_pick hr (by decide) (by rfl) (pa_cons (pv 0) (pa_cons (pe_lst (pa_cons pe_non (pa_cons pe_int (pa_cons pe_dnewK (pa_cons pe_str (pa_cons (pe_lc (own := [("k", 10)]) (g := (gName 10)) (tt := tYes) (by rfl) sc__law_refusals_right.nd (pi_range1 (by rfl) B.range (pa_cons pe_int pa_nil)) (blkOk_by (N := n__law_refusals_right) (sc := defScope s__law_refusals_right) (by decide +kernel)) (fun _ _ _ _ _ => (pg_name (i := 10) sc__law_refusals_right.nd rfl (Or.inl rfl))) (fun _ _ _ _ _ => pts_nil) (fun _ _ _ _ _ => (pe_tup (pa_cons pe_int (pa_cons pe_int (pa_cons pe_int pa_nil)))))) pa_nil)))))) pa_nil))))
      (Evl.pss_cut (ps_if (pt_cmpR (op_neD hr.units) (pe_q c__law_refused hr (by decide) (by rfl) (pa_cons (pv 9) (pa_cons (pv 7) (pa_cons (pv 3) pa_nil)))) (pe_lst (pa_cons (pe_tup (pa_cons pe_str (pa_cons pe_non pa_nil))) (pa_cons (pe_tup (pa_cons pe_str (pa_cons pe_non pa_nil))) pa_nil))) (nomark _)) (pss_one (ps_ret pe_bl)) pss_nil)
      (Evl.pss_cut (ps_if (pt_cmpR (op_neD hr.units) (pe_q c__law_refused hr (by decide) (by rfl) (pa_cons (pv 1) (pa_cons (pv 7) (pa_cons (pv 8) pa_nil)))) (pe_lst (pa_cons pe_str (pa_cons pe_str pa_nil))) (nomark _)) (pss_one (ps_ret pe_bl)) pss_nil)
      (Evl.pss_cut (ps_if (pt_cmpR (op_neD hr.units) (pe_q c__law_refused hr (by decide) (by rfl) (pa_cons (pv 1) (pa_cons (pv 2) (pa_cons (pv 8) pa_nil)))) (pe_lst (pa_cons pe_str (pa_cons pe_non pa_nil))) (nomark _)) (pss_one (ps_ret pe_bl)) pss_nil)
      (pss_one (ps_ret (pe_cmpR (op_eqD hr.units) (pe_q c__law_refused hr (by decide) (by rfl) (pa_cons (pe_callTy call_tuple_of (by rfl) B.tuple (by decide +kernel) (pa_cons (pv 1) pa_nil)) (pa_cons (pv 2) (pa_cons (pe_callTy call_tuple_of (by rfl) B.tuple (by decide +kernel) (pa_cons (pv 3) pa_nil)) pa_nil)))) (pe_lst (pa_cons pe_non (pa_cons pe_non pa_nil))) (nomark _)))))))))))))), ?_⟩
    have asl : sas.length = ss.length := sp.o.len
    have hs63 := sizeLine_eq
    have big : (2 : Nat) ^ 38 + 100 < 2 ^ 40 := by decide
    have nas : ∀ b ∈ sas, b ≠ d ∧ b ≠ w := fun b hb => by
      obtain ⟨i, hi⟩ := List.mem_iff_getElem?.mp hb
      have hl : i < ss.length := by
        rw [← asl]
        exact (List.getElem?_eq_some_iff.mp hi).1
      have e := sp.o.at_ i _ b (List.getElem?_eq_getElem hl) hi
      obtain ⟨_, _, _, _, e1⟩ := D0.dict
      obtain ⟨_, e2⟩ := D0.wide
      exact ⟨ne_of e e1 (by intro z; cases z), ne_of e e2 (by intro z; cases z)⟩
    have dsp : Dn (notA d w) H (.ref sa) (.list (ss.map spD)) := .lst ⟨nSd, nSw⟩ sp.d (DnAll.of (by rw [List.length_map, List.length_map, asl]) fun i v dd hv hd => by
      rw [List.getElem?_map] at hv hd
      obtain ⟨b, hb, rfl⟩ := Option.map_eq_some_iff.mp hv
      obtain ⟨g, hg, rfl⟩ := Option.map_eq_some_iff.mp hd
      exact .tup (nas b (List.mem_of_getElem? hb)) (sp.o.at_ i g b hg hb) (.cons (.int _) (.cons (.int _) (.cons (.int _) .nil))))
    have pre0 : PreR d w [(.ref pa, .list (ps.map PyData.int)), (.int (R : Nat), .int (R : Nat)), (.ref sa, .list (ss.map spD))] H := ⟨fun q hq => by
      simp only [List.mem_cons, List.not_mem_nil, or_false] at hq
      rcases hq with rfl | rfl | rfl
      · exact .lst ⟨nPd, nPw⟩ ep (dnAll_ints ps)
      · exact .int _
      · exact dsp, D0.dict.elim fun _ z => z.elim fun _ z => ⟨_, z.2.2⟩, D0.wide.elim fun _ z => ⟨_, z⟩⟩
    -- at
    refine ⟨fun σ H' => ∃ at_ : Nat, σ = [some (.ref d), some (.ref sa), some (.int (R : Nat)), some (.ref pa), some (.int (at_ : Nat)), none, none, none, none, none, none] ∧ at_ ≤ ss.length ∧ PreR d w [(.int (at_ : Nat), .int (at_ : Nat)), (.ref pa, .list (ps.map PyData.int)), (.int (R : Nat), .int (R : Nat)), (.ref sa, .list (ss.map spD))] H' ∧ DrawAt H' d w c (n + 1) ∧ But2 d w H H', ?_, ?_⟩
    · refine ⟨_, rfl, _, rfl, sa, _, rfl, .inl (SqL.of sp.d), _, _, rfl, rfl, d, w, c, n, ss.length + 1, by rw [List.length_map, asl]; rfl, D0, by omega, by omega, by omega, fun i H1 i0 i1 D1 b1 => ?_⟩
      obtain ⟨m, rfl⟩ := Int.eq_ofNat_of_zero_le i0
      exact ⟨m, rfl, by omega, (pre0.but b1 D1).add (.int _), D1, b1⟩
    rintro σ H1 ⟨at_, rfl, hat, pre1, D1, b1⟩
    -- odd
    refine ⟨fun σ H' => ∃ (x : V) (dd : PyData), σ = [some (.ref d), some (.ref sa), some (.int (R : Nat)), some (.ref pa), some (.int (at_ : Nat)), some x, none, none, none, none, none] ∧ badSD dd = true ∧ PreR d w [(x, dd), (.int (at_ : Nat), .int (at_ : Nat)), (.ref pa, .list (ps.map PyData.int)), (.int (R : Nat), .int (R : Nat)), (.ref sa, .list (ss.map spD))] H' ∧ DrawAt H' d w c (n + 2) ∧ But2 d w H H', ?_, ?_⟩
    · refine ⟨_, rfl, ?_⟩
      refine (MkE.l (ds := oddL) (.cons (.t (.cons .i (.cons .i (.one .i)))) (.cons (.t (.cons .i (.cons .i (.one .i)))) (.cons (.t (.cons .neg (.cons .i (.one .i)))) (.cons (.t (.cons .i (.cons .i (.one .neg)))) (.cons (.t (.cons .i (.one .i))) (.cons (.t (.cons .i (.cons .i (.cons .i (.one .i)))))
        (.cons (.l (.cons .i (.cons .i (.one .i)))) (.cons .n (.cons (.t (.cons .b (.cons .i (.one .i)))) (.cons (.t (.cons .i (.cons .b (.one .i)))) (.cons (.t (.cons .i (.cons .i (.one .b)))) (.cons (.t (.cons .s (.cons .i (.one .i)))) (.cons (.t (.cons .i (.cons .n (.one .i)))) (.cons .i (.one .s))))))))))))))) (by show 15 ≤ 20; decide)) _ _ pre1 fun v H2 s2 dn => ?_
      have D2 := D1.same s2
      refine pickD (E := fun _ _ _ => False) dn D2 (by omega) (by simp [oddL]) (by show 15 ≤ 20; decide) fun x dd H3 hd dx D3 b3 => ?_
      exact ⟨x, dd, rfl, List.all_eq_true.mp odd_bad dd hd, ((pre1.same s2).but b3 D3).add dx, D3, b1.trans ((Same.but2 s2).trans b3)⟩
    rintro σ H2 ⟨x, dd, rfl, hdd, pre2, D2, b2⟩
    -- wrong
    refine ⟨fun σ H' => ∃ (wr : V) (dd2 : PyData), σ = [some (.ref d), some (.ref sa), some (.int (R : Nat)), some (.ref pa), some (.int (at_ : Nat)), some x, some wr, none, none, none, none] ∧ PreR d w [(wr, .list ((ss.map spD).take at_ ++ [dd] ++ (ss.map spD).drop at_ ++ [dd2])), (x, dd), (.int (at_ : Nat), .int (at_ : Nat)), (.ref pa, .list (ps.map PyData.int)), (.int (R : Nat), .int (R : Nat)), (.ref sa, .list (ss.map spD))] H' ∧ DrawAt H' d w c (n + 3) ∧ But2 d w H H', ?_, ?_⟩
    · have pv : MkE d w [(x, dd), (.int (at_ : Nat), .int (at_ : Nat)), (.ref pa, .list (ps.map PyData.int)), (.int (R : Nat), .int (R : Nat)), (.ref sa, .list (ss.map spD))] [some (.ref d), some (.ref sa), some (.int (R : Nat)), some (.ref pa), some (.int (at_ : Nat)), some x, none, none, none, none, none] (tVar 1) (.list (ss.map spD)) := .v rfl (.tail _ (.tail _ (.tail _ (.tail _ (.head _)))))
      refine (MkE.cat (.cat (.to pv (fun H Q q => ⟨_, rfl, q⟩) (by simpa using hat)) (.l (.one (.v rfl (.head _)))) ?_) (.from_ pv (fun H Q q => ⟨_, rfl, q⟩) (by simpa using hat)) ?_) _ _ pre2 fun v H3 s3 dn => ?_
      · simp
        omega
      · simp
        omega
      refine ⟨_, rfl, ?_⟩
      refine (MkE.l (ds := [.none, .tuple [.int 0, .int 0, .int 0]]) (.cons .n (.one (.t (.cons .i (.cons .i (.one .i))))))) _ _ (pre2.same s3) fun v2 H4 s4 dn2 => ?_
      have s24 := s3.trans s4
      have D4 := D2.same s24
      refine pickD (E := fun _ _ _ => False) dn2 D4 (by omega) (by simp) (by show 2 ≤ 20; decide) fun x2 dd2 H5 hd dx D5 b5 => ?_
      have pre5 := (pre2.same s24).but b5 D5
      have k5 : ∀ b o, notA d w b → H3 b = some o → H5 b = some o := fun b o hb e => b5 b o (s4 b o e) hb.1 hb.2
      have dn5 : Dn (notA d w) H5 v _ := dn.keep k5 fun _ h => h
      refine ⟨by show 1 ≤ sizeLine; omega, fun z hz => ?_⟩
      have s6 : Same H5 (upd H5 z (.lst [x2])) := Same.new hz
      have dz : Dn (notA d w) (upd H5 z (.lst [x2])) (.ref z) (.list [dd2]) := .lst (pre5.off hz) upd_same (.cons (dx.same s6) .nil)
      have dn6 := dn5.same s6
      have pre6 := pre5.same s6
      have D6 := D5.same s6
      have b6 : But2 d w H (upd H5 z (.lst [x2])) := b2.trans ((Same.but2 s24).trans (b5.trans (Same.but2 s6)))
      generalize upd H5 z (.lst [x2]) = H6 at dz dn6 pre6 D6 b6
      obtain ⟨a1, xs, rfl, ea, da⟩ := Dn.lstOf dn6
      obtain ⟨a2, ys, e2, eb, db⟩ := Dn.lstOf dz
      cases e2
      refine ⟨a1, z, xs, ys, rfl, rfl, ea, eb, ?_, fun p hp => ?_⟩
      · rw [da.len, db.len]
        simp
        omega
      · have s7 : Same H6 (upd H6 p (.lst (xs ++ ys))) := Same.new hp
        exact ⟨.ref p, dd2, rfl, (pre6.same s7).add (.lst (pre6.off hp) upd_same ((da.app db).same s7)), (D6.same s7).mono (by omega), b6.trans (Same.but2 s7)⟩
    rintro σ H3 ⟨wr, dd2, rfl, pre3, D3, b3⟩
    -- the room
    refine ⟨fun σ H' => ∃ (br : V) (rd : PyData), σ = [some (.ref d), some (.ref sa), some (.int (R : Nat)), some (.ref pa), some (.int (at_ : Nat)), some x, some wr, some br, none, none, none] ∧ badRD rd = true ∧ PreR d w [(br, rd), (wr, .list ((ss.map spD).take at_ ++ [dd] ++ (ss.map spD).drop at_ ++ [dd2])), (x, dd), (.int (at_ : Nat), .int (at_ : Nat)), (.ref pa, .list (ps.map PyData.int)), (.int (R : Nat), .int (R : Nat)), (.ref sa, .list (ss.map spD))] H' ∧ DrawAt H' d w c (n + 4) ∧ But2 d w H H', ?_, ?_⟩
    · refine ⟨_, rfl, ?_⟩
      refine (MkE.l (ds := roomL) (.cons .neg (.cons .i (.cons .b (.cons .n (.cons .s (.one (.t (.one .i)))))))) (by show 6 ≤ 20; decide)) _ _ pre3 fun v H4 s4 dn => ?_
      have D4 := D3.same s4
      refine pickD (E := fun _ _ _ => False) dn D4 (by omega) (by simp [roomL]) (by show 6 ≤ 20; decide) fun x3 dd3 H5 hd dx D5 b5 => ?_
      exact ⟨x3, dd3, rfl, List.all_eq_true.mp room_bad dd3 hd, ((pre3.same s4).but b5 D5).add dx, D5, b3.trans ((Same.but2 s4).trans b5)⟩
    rintro σ H4 ⟨br, rd, rfl, hrd, pre4, D4, b4⟩
    -- the prices
    refine ⟨fun σ H' => ∃ (bp : V) (pd : PyData), σ = [some (.ref d), some (.ref sa), some (.int (R : Nat)), some (.ref pa), some (.int (at_ : Nat)), some x, some wr, some br, some bp, none, none] ∧ badPD pd = true ∧ PreR d w [(bp, pd), (br, rd), (wr, .list ((ss.map spD).take at_ ++ [dd] ++ (ss.map spD).drop at_ ++ [dd2])), (x, dd), (.int (at_ : Nat), .int (at_ : Nat)), (.ref pa, .list (ps.map PyData.int)), (.int (R : Nat), .int (R : Nat)), (.ref sa, .list (ss.map spD))] H' ∧ DrawAt H' d w c (n + 5) ∧ But2 d w H H', ?_, ?_⟩
    · refine ⟨_, rfl, ?_⟩
      refine (MkE.l (ds := priceL) (.cons .n (.cons .i (.cons (.l (.one .neg)) (.cons (.l (.cons .i (.one .b))) (.cons (.l (.cons .i (.one .n))) (.cons (.l (.one .s)) (.cons .dict (.cons (fun Hm Qm pm qm => ?_) (.one .s))))))))) (by show 9 ≤ 20; decide)) _ _ pre4 fun v H5 s5 dn => ?_
      · refine ⟨1001, rfl, by decide, by decide, fun D hD => ?_⟩
        have oD := pm.off hD
        refine lc_it walk_range (fun i H' => Same Hm H' ∧ ∃ xs, H' D = some (.lst xs) ∧ DnAll (fun b => notA d w b ∧ b ≠ D) H' xs (List.replicate i (.int 0))) ⟨Same.new hD, [], upd_same, .nil⟩ (fun _ _ _ _ => trivial) ?_ ?_
        · rintro i v H1 H2 hi ⟨s1, xs, e1, d1⟩ ⟨rfl, rfl⟩
          have hi : i < 1001 := hi
          have xl := d1.len
          rw [List.length_replicate] at xl
          refine ⟨rfl, yes ⟨xs, e1, by omega, Same.upd' s1 hD, _, upd_same, ?_⟩⟩
          rw [List.replicate_succ']
          exact (d1.keep (fun b u hb e => by rw [upd_ne hb.2]; exact e) fun _ h => h).app (.cons (.int _) .nil)
        · rintro H1 ⟨s1, xs, e1, d1⟩
          exact qm _ _ s1 (.lst oD e1 (d1.keep (fun _ _ _ e => e) fun _ h => h.1))
      · have D5 := D4.same s5
        refine pickD (E := fun _ _ _ => False) dn D5 (by omega) (by simp [priceL]) (by show 9 ≤ 20; decide) fun x3 dd3 H6 hd dx D6 b6 => ?_
        exact ⟨x3, dd3, rfl, List.all_eq_true.mp price_bad dd3 hd, ((pre4.same s5).but b6 D6).add dx, D6, b4.trans ((Same.but2 s5).trans b6)⟩
    rintro σ H5 ⟨bp, pd, rfl, hpd, pre5, D5, b5⟩
    -- the wrong spans
    refine ⟨fun σ H' => σ = [some (.ref d), some (.ref sa), some (.int (R : Nat)), some (.ref pa), some (.int (at_ : Nat)), some x, some wr, some br, some bp, none, none] ∧ PreR d w [(bp, pd), (br, rd), (wr, .list ((ss.map spD).take at_ ++ [dd] ++ (ss.map spD).drop at_ ++ [dd2])), (x, dd), (.int (at_ : Nat), .int (at_ : Nat)), (.ref pa, .list (ps.map PyData.int)), (.int (R : Nat), .int (R : Nat)), (.ref sa, .list (ss.map spD))] H' ∧ DrawAt H' d w c (n + 5) ∧ But2 d w H H', ?_, ?_⟩
    · refine ⟨_, rfl, _, rfl, _, rfl, ?_⟩
      have ew : (ss.map spD).take at_ ++ [dd] ++ (ss.map spD).drop at_ ++ [dd2] = (ss.take at_).map spD ++ dd :: ((ss.drop at_).map spD ++ [dd2]) := by
        rw [List.map_take, List.map_drop]
        simp
      have dw := pre5.t _ (.tail _ (.tail _ (.head _)))
      rw [ew] at dw
      have lt_ : (ss.take at_).length = at_ := by rw [List.length_take]; omega
      have bad := dw.wrong (K := K) hdd (fun q hq => gd q (List.mem_of_mem_take hq)) (by
        rw [List.length_append, List.length_map, List.length_take, List.length_drop]
        show _ + (_ + 1) < 400
        omega)
      rw [lt_] at bad
      unfold tNil
      refine ⟨wr, br, bp, .spn (some at_), .spn (some at_), rfl, fun H1 Q1 E1 s q => spn_w bad s q, fun H1 Q1 E1 s q => spn_l bad s q, fun H6 r s6 hr dr => ?_⟩
      refine (MkE.l (ds := [(Wd.spn (some at_)).d, (Wd.spn (some at_)).d]) (.cons (.t (.cons .s (.one (.v rfl (.tail _ (.tail _ (.tail _ (.tail _ (.head _))))))))) (.one (.t (.cons .s (.one (.v rfl (.tail _ (.tail _ (.tail _ (.tail _ (.head _)))))))))))) _ _ (pre5.same s6) fun v H7 s7 dv => ?_
      have s57 := s6.trans s7
      exact neD_same (dr.same s7) dv (words_shaped _ _) ⟨_, rfl, iteF ⟨rfl, pre5.same s57, D5.same s57, b5.trans (Same.but2 s57)⟩⟩
    rintro σ H6 ⟨rfl, pre6, D6, b6⟩
    -- many
    refine ⟨fun σ H' => ∃ (mn : V) (md : PyData), σ = [some (.ref d), some (.ref sa), some (.int (R : Nat)), some (.ref pa), some (.int (at_ : Nat)), some x, some wr, some br, some bp, some mn, none] ∧ badM md = true ∧ PreR d w [(mn, md), (bp, pd), (br, rd), (wr, .list ((ss.map spD).take at_ ++ [dd] ++ (ss.map spD).drop at_ ++ [dd2])), (x, dd), (.int (at_ : Nat), .int (at_ : Nat)), (.ref pa, .list (ps.map PyData.int)), (.int (R : Nat), .int (R : Nat)), (.ref sa, .list (ss.map spD))] H' ∧ DrawAt H' d w c (n + 6) ∧ But2 d w H H', ?_, ?_⟩
    · refine ⟨_, rfl, ?_⟩
      refine (MkE.l (ds := manyL) (.cons .n (.cons .i (.cons .dict (.cons .s (.one (fun Hm Qm pm qm => ?_)))))) (by show 5 ≤ 20; decide)) _ _ pre6 fun v H7 s7 dn => ?_
      · refine ⟨401, rfl, by decide, by decide, fun D hD => ?_⟩
        have oD := pm.off hD
        refine lc_it walk_range (fun i H' => Same Hm H' ∧ ∃ xs, H' D = some (.lst xs) ∧ DnAll (fun b => notA d w b ∧ b ≠ D) H' xs (List.replicate i (.tuple [.int 0, .int 0, .int 0]))) ⟨Same.new hD, [], upd_same, .nil⟩ (fun _ _ _ _ => trivial) ?_ ?_
        · rintro i v H1 H2 hi ⟨s1, xs, e1, d1⟩ ⟨rfl, rfl⟩
          have hi : i < 401 := hi
          have xl := d1.len
          rw [List.length_replicate] at xl
          refine ⟨rfl, yes ⟨(by show 3 ≤ sizeLine; omega), fun p hp => ?_⟩⟩
          have hpD : p ≠ D := (ne_of_none e1 hp).symm
          have op := (pm.same s1).off hp
          refine ⟨xs, by rw [upd_ne hpD.symm]; exact e1, by omega, Same.upd' (Same.upd' s1 (s1.free hp)) hD, _, upd_same, ?_⟩
          rw [List.replicate_succ']
          exact ((d1.same (Same.new hp)).keep (fun b u hb e => by rw [upd_ne hb.2]; exact e) fun _ h => h).app (.cons (.tup (a := p) ⟨op, hpD⟩ (by rw [upd_ne hpD, upd_same]) (.cons (.int _) (.cons (.int _) (.cons (.int _) .nil)))) .nil)
        · rintro H1 ⟨s1, xs, e1, d1⟩
          exact qm _ _ s1 (.lst oD e1 (d1.keep (fun _ _ _ e => e) fun _ h => h.1))
      · have D7 := D6.same s7
        refine pickD (E := fun _ _ _ => False) dn D7 (by omega) (by simp [manyL]) (by show 5 ≤ 20; decide) fun x3 dd3 H8 hd dx D8 b8 => ?_
        exact ⟨x3, dd3, rfl, List.all_eq_true.mp many_bad dd3 hd, ((pre6.same s7).but b8 D8).add dx, D8, b6.trans ((Same.but2 s7).trans b8)⟩
    rintro σ H7 ⟨mn, md, rfl, hmd, pre7, D7, b7⟩
    -- no list of spans, or too many
    refine ⟨fun σ H' => σ = [some (.ref d), some (.ref sa), some (.int (R : Nat)), some (.ref pa), some (.int (at_ : Nat)), some x, some wr, some br, some bp, some mn, none] ∧ PreR d w [(mn, md), (bp, pd), (br, rd), (wr, .list ((ss.map spD).take at_ ++ [dd] ++ (ss.map spD).drop at_ ++ [dd2])), (x, dd), (.int (at_ : Nat), .int (at_ : Nat)), (.ref pa, .list (ps.map PyData.int)), (.int (R : Nat), .int (R : Nat)), (.ref sa, .list (ss.map spD))] H' ∧ DrawAt H' d w c (n + 6) ∧ But2 d w H H', ?_, ?_⟩
    · refine ⟨_, rfl, _, rfl, _, rfl, ?_⟩
      have bad := (pre7.t _ (.head _)).badM (K := K) hmd
      unfold tNil
      refine ⟨mn, br, .ref pa, .spn none, .spn none, rfl, fun H1 Q1 E1 s q => spn_w (o := none) bad s q, fun H1 Q1 E1 s q => spn_l (o := none) bad s q, fun H8 r s8 hr dr => ?_⟩
      refine (MkE.l (ds := [(Wd.spn none).d, (Wd.spn none).d]) (.cons (.t (.cons .s (.one .n))) (.one (.t (.cons .s (.one .n)))))) _ _ (pre7.same s8) fun v H9 s9 dv => ?_
      have s79 := s8.trans s9
      exact neD_same (dr.same s9) dv (words_shaped _ _) ⟨_, rfl, iteF ⟨rfl, pre7.same s79, D7.same s79, b7.trans (Same.but2 s79)⟩⟩
    rintro σ H8 ⟨rfl, pre8, D8, b8⟩
    have spn_ : ∀ {H' : Hp}, PreR d w [(mn, md), (bp, pd), (br, rd), (wr, .list ((ss.map spD).take at_ ++ [dd] ++ (ss.map spD).drop at_ ++ [dd2])), (x, dd), (.int (at_ : Nat), .int (at_ : Nat)), (.ref pa, .list (ps.map PyData.int)), (.int (R : Nat), .int (R : Nat)), (.ref sa, .list (ss.map spD))] H' → ∃ sas, SpAt H' sa false ss sas := fun p => by
      obtain ⟨a, sas, e, z⟩ := Dn.spans (tt := false) (p.t _ (.tail _ (.tail _ (.tail _ (.tail _ (.tail _ (.tail _ (.tail _ (.tail _ (.head _)))))))))) gd (by omega)
      cases e
      exact ⟨sas, z⟩
    -- no room
    refine ⟨fun σ H' => σ = [some (.ref d), some (.ref sa), some (.int (R : Nat)), some (.ref pa), some (.int (at_ : Nat)), some x, some wr, some br, some bp, some mn, none] ∧ PreR d w [(mn, md), (bp, pd), (br, rd), (wr, .list ((ss.map spD).take at_ ++ [dd] ++ (ss.map spD).drop at_ ++ [dd2])), (x, dd), (.int (at_ : Nat), .int (at_ : Nat)), (.ref pa, .list (ps.map PyData.int)), (.int (R : Nat), .int (R : Nat)), (.ref sa, .list (ss.map spD))] H' ∧ DrawAt H' d w c (n + 6) ∧ But2 d w H H', ?_, ?_⟩
    · refine ⟨_, rfl, _, rfl, _, rfl, ?_⟩
      have bad := (pre8.t _ (.tail _ (.tail _ (.head _)))).badR (K := K) hrd
      obtain ⟨sas8, sp8⟩ := spn_ pre8
      unfold tNil
      refine ⟨.ref sa, br, bp, .rom, .rom, rfl, fun H1 Q1 E1 s q => rom_w sp8 bad s q, fun H1 Q1 E1 s q => rom_l (BP := BP) sp8 bad s q, fun H9 r s9 hr dr => ?_⟩
      refine (MkE.l (ds := [Wd.rom.d, Wd.rom.d]) (.cons .s (.one .s))) _ _ (pre8.same s9) fun v H10 s10 dv => ?_
      have s810 := s9.trans s10
      exact neD_same (dr.same s10) dv (words_shaped _ _) ⟨_, rfl, iteF ⟨rfl, pre8.same s810, D8.same s810, b8.trans (Same.but2 s810)⟩⟩
    rintro σ H9 ⟨rfl, pre9, D9, b9⟩
    -- no prices
    refine ⟨fun σ H' => σ = [some (.ref d), some (.ref sa), some (.int (R : Nat)), some (.ref pa), some (.int (at_ : Nat)), some x, some wr, some br, some bp, some mn, none] ∧ PreR d w [(mn, md), (bp, pd), (br, rd), (wr, .list ((ss.map spD).take at_ ++ [dd] ++ (ss.map spD).drop at_ ++ [dd2])), (x, dd), (.int (at_ : Nat), .int (at_ : Nat)), (.ref pa, .list (ps.map PyData.int)), (.int (R : Nat), .int (R : Nat)), (.ref sa, .list (ss.map spD))] H' ∧ DrawAt H' d w c (n + 6) ∧ But2 d w H H', ?_, ?_⟩
    · refine ⟨_, rfl, _, rfl, _, rfl, ?_⟩
      have bad := (pre9.t _ (.tail _ (.head _))).badP (K := K) hpd
      obtain ⟨sas9, sp9⟩ := spn_ pre9
      unfold tNil
      refine ⟨.ref sa, .int (R : Nat), bp, .prc, .non, rfl, fun H1 Q1 E1 s q => prc_w sp9 hR bad s q, fun H1 Q1 E1 s q => non_l (BP := BP) sp9 hR s q, fun H10 r s10 hr dr => ?_⟩
      refine (MkE.l (ds := [Wd.prc.d, Wd.non.d]) (.cons .s (.one .n))) _ _ (pre9.same s10) fun v H11 s11 dv => ?_
      have s911 := s10.trans s11
      exact neD_same (dr.same s11) dv (words_shaped _ _) ⟨_, rfl, iteF ⟨rfl, pre9.same s911, D9.same s911, b9.trans (Same.but2 s911)⟩⟩
    rintro σ H10 ⟨rfl, pre10, D10, b10⟩
    -- tuples are let
    have m1 : MkE d w [(mn, md), (bp, pd), (br, rd), (wr, .list ((ss.map spD).take at_ ++ [dd] ++ (ss.map spD).drop at_ ++ [dd2])), (x, dd), (.int (at_ : Nat), .int (at_ : Nat)), (.ref pa, .list (ps.map PyData.int)), (.int (R : Nat), .int (R : Nat)), (.ref sa, .list (ss.map spD))] [some (.ref d), some (.ref sa), some (.int (R : Nat)), some (.ref pa), some (.int (at_ : Nat)), some x, some wr, some br, some bp, some mn, none] (tVar 1) (.list (ss.map spD)) := .v rfl (.tail _ (.tail _ (.tail _ (.tail _ (.tail _ (.tail _ (.tail _ (.tail _ (.head _)))))))))
    have m2 : MkE d w [(mn, md), (bp, pd), (br, rd), (wr, .list ((ss.map spD).take at_ ++ [dd] ++ (ss.map spD).drop at_ ++ [dd2])), (x, dd), (.int (at_ : Nat), .int (at_ : Nat)), (.ref pa, .list (ps.map PyData.int)), (.int (R : Nat), .int (R : Nat)), (.ref sa, .list (ss.map spD))] [some (.ref d), some (.ref sa), some (.int (R : Nat)), some (.ref pa), some (.int (at_ : Nat)), some x, some wr, some br, some bp, some mn, none] (tVar 2) (.int (R : Nat)) := .v rfl (.tail _ (.tail _ (.tail _ (.tail _ (.tail _ (.tail _ (.tail _ (.head _))))))))
    have m3 : MkE d w [(mn, md), (bp, pd), (br, rd), (wr, .list ((ss.map spD).take at_ ++ [dd] ++ (ss.map spD).drop at_ ++ [dd2])), (x, dd), (.int (at_ : Nat), .int (at_ : Nat)), (.ref pa, .list (ps.map PyData.int)), (.int (R : Nat), .int (R : Nat)), (.ref sa, .list (ss.map spD))] [some (.ref d), some (.ref sa), some (.int (R : Nat)), some (.ref pa), some (.int (at_ : Nat)), some x, some wr, some br, some bp, some mn, none] (tVar 3) (.list (ps.map PyData.int)) := .v rfl (.tail _ (.tail _ (.tail _ (.tail _ (.tail _ (.tail _ (.head _)))))))
    unfold tRet tOp tCall
    refine (MkA.cons (MkE.to_ m1) (MkA.cons m2 (MkA.one (MkE.to_ m3)))) _ _ pre10 fun vs2 H12 s12 dts => ?_
    obtain ⟨v1, v3, v2, rfl, d1, d3, d2⟩ := dts.three
    obtain rfl := d3.intV
    obtain ⟨ta, sast, rfl, spT⟩ := Dn.spans (tt := true) d1 gd (by omega)
    obtain ⟨tp, hp2⟩ : ∃ tp, v2 = .ref tp ∧ H12 tp = some (sqO true (ps.map V.int)) := by
      match v2, d2 with
      | .ref tp, .tup (xs := xs) _ e da =>
        obtain rfl := da.ints
        exact ⟨tp, rfl, e⟩
    obtain ⟨rfl, ep2⟩ := hp2
    refine ⟨.ref ta, .int (R : Nat), .ref tp, .non, .non, rfl, fun H1 Q1 E1 s q => non_w spT hR ep2 lp np s q, fun H1 Q1 E1 s q => non_l (BP := BP) spT hR s q, fun H13 r s13 hr dr => ?_⟩
    refine (MkE.l (ds := [Wd.non.d, Wd.non.d]) (.cons .n (.one .n))) _ _ ((pre10.same s12).same s13) fun v H14 s14 dv => ?_
    have s1014 := (s12.trans s13).trans s14
    exact eqD_same (dr.same s14) dv (words_shaped _ _) (q _ ((D10.same s1014).mono (by omega)) (b10.trans (Same.but2 s1014)))
end
end SA

set_option Elab.async false
set_option linter.all false
set_option maxRecDepth 100000
set_option maxHeartbeats 4000000
namespace SA
open PySem PySem.Spec PyProof.Rows L2 K83 M57
theorem op_notIn_seqK {X : Cx} {K : PySem.W.Frag} (hK : X.K = K) : OpR X (compareOp .NotIn) (rIn K true) := hK ▸ op_notIn_seq
theorem objs_sel {H : Hp} {ss : List Spn} {sas : List Addr} (o : Objs spO H sas ss) : ∀ l : List Nat, (∀ i ∈ l, i < ss.length) → Objs spO H (l.filterMap fun i => sas[i]?) (l.filterMap fun i => ss[i]?)
  | [], _ => Objs.nil
  | i :: l, h => by
    have hi := h i (by simp)
    have ih := objs_sel o l fun j hj => h j (List.mem_cons_of_mem _ hj)
    have e := List.getElem?_eq_getElem hi
    obtain ⟨b, hb, eb⟩ := o.get e
    rw [List.filterMap_cons, List.filterMap_cons, hb, e]
    refine ⟨by simp [ih.len], fun j x a h1 h2 => ?_⟩
    match j, h1, h2 with
    | 0, h1, h2 =>
      cases h1
      cases h2
      exact eb
    | j + 1, h1, h2 => exact ih.at_ j x a h1 h2
theorem left_in {n i : Nat} {k : Nat → Bool} (hi : i < n) : inV (.int (0 + (i : Nat))) ((((List.range n).filter fun i => !k i).map fun i => ((i : Nat) : Int)).map V.int) = !k i := by
  rw [Bool.eq_iff_iff]
  unfold inV
  rw [List.any_eq_true]
  constructor
  · rintro ⟨x, hx, he⟩
    obtain ⟨j, hj, rfl⟩ := List.mem_map.mp hx
    obtain ⟨m, hm, rfl⟩ := List.mem_map.mp hj
    have e : (0 : Int) + (i : Nat) = ((m : Nat) : Int) := by
      have := of_decide_eq_true (show decide (((m : Nat) : Int) = 0 + (i : Nat)) = true from by simpa [eqV] using he)
      omega
    have e2 : m = i := by omega
    subst e2
    exact (List.mem_filter.mp hm).2
  · intro h
    refine ⟨.int (i : Nat), List.mem_map_of_mem (List.mem_map_of_mem (f := fun i : Nat => (i : Int)) (List.mem_filter.mpr ⟨List.mem_range.mpr hi, h⟩)), ?_⟩
    simp [eqV]
section
variable {P : Program} {w0 : World} {K : PySem.W.Frag} {mg : Str → Option Value} {base : Heap} {C : Addr}
theorem ok_lleft {f : Addr} {fd : FuncData} (F : Fun K "_law_left_right" "_law_left_right" s__law_left_right f fd) (B : Bn7 mg) (c__law_cover : Dq P w0 K mg base CX0 1 "_law_cover" ["spans", "at"] spCov) (c__law_numbers : Dq P w0 K mg base CX0 1 "_law_numbers" ["some", "low"] spNums) : FnOk P w0 K mg base CX0 2 f fd ["spans", "room", "left"] spLR := by
  refine F.ok sc__law_left_right (fun vs H Q E h => ?_) (fun cdv A outer s H vs Q E hr h => ?_)
  · obtain ⟨sa, la, R, ss, sas, k, rfl, _⟩ := h
    rfl
  · obtain ⟨sa, la, R, ss, sas, k, rfl, sp, hn, gd, el, room, full, q⟩ := h
    refine ⟨_, (Evl.pss_cut (ps_if (PW.pt (pw_or (pt_not (pt_val (pe_q c__law_numbers hr (by decide) (by rfl) (pa_cons (pv 2) (pa_cons pe_int pa_nil))))) (pw_or (pt_cmpR (op_neD hr.units) (pv 2) (pe_callB (cr_sortedX rfl) (by rfl) B.sorted (by decide +kernel) (pa_cons (pe_callTy (cr_setL rfl) (by rfl) B.set (by decide +kernel) (pa_cons (pv 2) pa_nil)) pa_nil)) (nomark _)) (pw_or1 (PW.pt (pw_and (pt_cmpR (op_ne_nilL hr.units) (pv 2) (pe_lst pa_nil) (nomark _)) (pw_and1 (pt_cmpR op_ge (pe_ix (ix_listK (K := K) rfl) (pv 2) (pe_un un_neg pe_int) (fun _ _ => rfl)) (pe_callB call_len_seq (by rfl) B.len PySem.boot_len (pa_cons (pv 0) pa_nil)) (nomark _))))))))) (pss_one (ps_ret pe_bl)) pss_nil)
      (pss_cons (ps_set (i := 4) sc__law_left_right.nd rfl (Or.inr rfl) (pe_lc (own := [("k", 3)]) (g := (gName 3)) (tt := _) (by rfl) sc__law_left_right.nd (pi_range1 (by rfl) B.range (pa_cons (pe_callB call_len_seq (by rfl) B.len PySem.boot_len (pa_cons (pv 0) pa_nil)) pa_nil)) (blkOk_by (N := n__law_left_right) (sc := defScope s__law_left_right) (by decide +kernel)) (fun _ _ _ _ _ => (pg_name (i := 3) sc__law_left_right.nd rfl (Or.inl rfl))) (fun _ _ _ _ _ => (pts_one (pt_cmpR (op_notIn_seqK (K := K) rfl) (pv 3) (pv 2) (by rfl)))) (fun _ _ _ _ _ => (pe_ix (ix_listK (K := K) rfl) (pv 0) (pv 3) (fun _ _ => rfl)))))
      (pss_cons (ps_for PassesOwn.never rfl (pi_list (pv 4)) (pg_name (i := 5) sc__law_left_right.nd rfl (Or.inl rfl)) (pss_one (ps_if (pt_cmpR op_gt (pe_q c__law_cover hr (by decide) (by rfl) (pa_cons (pv 4) (pa_cons (pe_ix (ix_tupK (K := K) rfl) (pv 5) pe_int (fun _ _ => rfl)) pa_nil))) (pv 1) (nomark _)) (pss_one (ps_ret pe_bl)) pss_nil)))
      (pss_cons (ps_for PassesOwn.never rfl (pi_list (pv 2)) (pg_name (i := 3) sc__law_left_right.nd rfl (Or.inl rfl)) (pss_cons (ps_asg (pe_tup (pa_cons (pe_ix (ix_tupK (K := K) rfl) (pe_ix (ix_listK (K := K) rfl) (pv 0) (pv 3) (fun _ _ => rfl)) pe_int (fun _ _ => rfl)) (pa_cons (pe_ix (ix_tupK (K := K) rfl) (pe_ix (ix_listK (K := K) rfl) (pv 0) (pv 3) (fun _ _ => rfl)) pe_int (fun _ _ => rfl)) pa_nil))) (pg_tup (by rfl) (pgs_cons (pg_name (i := 6) sc__law_left_right.nd rfl (Or.inr rfl)) (pgs_cons (pg_name (i := 7) sc__law_left_right.nd rfl (Or.inr rfl)) pgs_nil))))
      (pss_cons (ps_set (i := 8) sc__law_left_right.nd rfl (Or.inl rfl) (pe_op op_cat (pe_lst (pa_cons (pv 6) pa_nil)) (pe_lc (own := [("span", 5)]) (g := (gName 5)) (tt := _) (by rfl) sc__law_left_right.nd (pi_list (pv 4)) (blkOk_by (N := n__law_left_right) (sc := defScope s__law_left_right) (by decide +kernel)) (fun _ _ _ _ _ => (pg_name (i := 5) sc__law_left_right.nd rfl (Or.inl rfl))) (fun _ _ _ _ _ => (pts_one (PW.pt (pw_and (pt_cmpR op_le (pv 6) (pe_ix (ix_tupK (K := K) rfl) (pv 5) pe_int (fun _ _ => rfl)) (nomark _)) (pw_and1 (pt_cmpR op_le (pe_ix (ix_tupK (K := K) rfl) (pv 5) pe_int (fun _ _ => rfl)) (pv 7) (nomark _))))))) (fun _ _ _ _ _ => (pe_ix (ix_tupK (K := K) rfl) (pv 5) pe_int (fun _ _ => rfl))))))
      (pss_one (ps_if (pt_cmpR op_lt (pe_callB (cr_max rfl) (by rfl) B.max (by decide +kernel) (pa_cons (pe_lc (own := [("at", 9)]) (g := (gName 9)) (tt := tYes) (by rfl) sc__law_left_right.nd (pi_list (pv 8)) (blkOk_by (N := n__law_left_right) (sc := defScope s__law_left_right) (by decide +kernel)) (fun _ _ _ _ _ => (pg_name (i := 9) sc__law_left_right.nd rfl (Or.inl rfl))) (fun _ _ _ _ _ => pts_nil) (fun _ _ _ _ _ => (pe_q c__law_cover hr (by decide) (by rfl) (pa_cons (pv 4) (pa_cons (pv 9) pa_nil))))) pa_nil)) (pv 1) (nomark _)) (pss_one (ps_ret pe_bl)) pss_nil)))))
      (pss_one (ps_ret pe_bl)))))), ?_⟩
    have hs63 := sizeLine_eq
    have hfl : ((List.range ss.length).filter fun i => !k i).length ≤ 14 := by
      have := List.length_filter_le (fun i => !k i) (List.range ss.length)
      rw [List.length_range] at this
      omega
    rw [left_ints] at el
    have n0 : ∀ z ∈ (((List.range ss.length).filter fun i => !k i).map fun i => ((i : Nat) : Int)), 0 ≤ z ∧ z < ss.length := fun z hz => by
      obtain ⟨i, hi, rfl⟩ := List.mem_map.mp hz
      have := List.mem_range.mp (List.mem_filter.mp hi).1
      omega
    refine ⟨fun σ H' => σ = [some (.ref sa), some (.int (R : Nat)), some (.ref la), none, none, none, none, none, none, none] ∧ Same H H', ?_, ?_⟩
    · refine ⟨_, rfl, la, _, rfl, el, by rw [List.length_map]; omega, fun z hz => ?_, fun H1 s1 => ⟨_, rfl, iteFd rfl ?_⟩⟩
      · obtain ⟨i, _, rfl⟩ := List.mem_map.mp hz
        omega
      refine ⟨_, rfl, _, rfl, la, _, rfl, SqL.of (s1 _ _ el), by rw [List.length_map]; omega, fun p S n hS hn' hp => ?_⟩
      refine ⟨p, S, n, rfl, upd_same, by rw [List.length_map] at hn'; omega, fun ns p2 pw mem hp2 => ?_⟩
      have ens : ns = ((List.range ss.length).filter fun i => !k i).map fun i => ((i : Nat) : Int) := sorted_eq pw (left_sorted _ _) fun z => (mem z).trans (hS z)
      subst ens
      have s2 : Same H (upd H1 p (SetX (cxOf CX0 P w0 K mg base n__law_left_right "_law_left_right" (defScope s__law_left_right) f cdv A outer s H E).nox.w p S n)) := Same.upd' s1 (s1.free hp)
      have s3 : Same H (upd (upd H1 p (SetX (cxOf CX0 P w0 K mg base n__law_left_right "_law_left_right" (defScope s__law_left_right) f cdv A outer s H E).nox.w p S n)) p2 (.lst ((((List.range ss.length).filter fun i => !k i).map fun i => ((i : Nat) : Int)).map V.int))) := Same.upd' s2 (s2.free hp2)
      refine ⟨_, _, .lst (SqL.of (s3 _ _ el)) (dp_ints _), .lst (SqL.of upd_same) (dp_ints _), shaped_ints _, shaped_ints _, ?_⟩
      rw [SeqAt.eqv_refl _ (SeqAt.canLay_of_shaped (shaped_ints _))]
      refine ⟨_, rfl, iteFd rfl ?_⟩
      generalize upd (upd H1 p (SetX (cxOf CX0 P w0 K mg base n__law_left_right "_law_left_right" (defScope s__law_left_right) f cdv A outer s H E).nox.w p S n)) p2 (.lst ((((List.range ss.length).filter fun i => !k i).map fun i => ((i : Nat) : Int)).map V.int)) = H3 at s3 ⊢
      have sp3 : SpL H3 sa ss sas := sp.same s3
      refine ⟨_, rfl, Nat.zero_le _, fun nl hnl => ?_⟩
      have s4 : Same H (upd H3 nl (.lst [])) := Same.upd' s3 (s3.free hnl)
      have el4 := s4 _ _ el
      refine ⟨la, nl, _, rfl, rfl, SqL.of el4, SqL.of upd_same, _, rfl, ?_⟩
      have sp4 : SpL (upd H3 nl (.lst [])) sa ss sas := sp.same s4
      generalize upd H3 nl (.lst []) = H4 at s4 el4 sp4 ⊢
      rcases List.eq_nil_or_concat (((List.range ss.length).filter fun i => !k i).map fun i => ((i : Nat) : Int)) with e | ⟨l, z, e⟩
      · rw [e]
        exact iteFd rfl (iteFd rfl ⟨rfl, s4⟩)
      · have hz := n0 z (by rw [e]; simp)
        have ez : (l.concat z).map V.int = l.map V.int ++ [V.int z] := by rw [List.concat_eq_append, List.map_append]; rfl
        rw [e, ez] at el4
        rw [e, ez]
        refine iteTd (by simp) ?_
        refine ⟨_, rfl, _, rfl, la, _, _, _, rfl, rfl, SqL.of el4, atI_last _ _, _, rfl, sa, _, rfl, .inl (SqL.of sp4.d), _, _, rfl, rfl, _, rfl, iteFd (decide_eq_false ?_) ⟨rfl, s4⟩⟩
        rw [List.length_map, sp.o.len]
        omega
    rintro σ H4 ⟨rfl, s4⟩
    have sp4 := sp.same s4
    have el4 := s4 _ _ el
    have asl : sas.length = ss.length := sp.o.len
    -- what is kept
    refine ⟨_, rfl, sa, _, rfl, .inl (SqL.of sp4.d), _, rfl, (by omega), (by rw [List.length_map, asl]; omega), fun D hD => ?_⟩
    have en : (((sas.map V.ref).length : Nat) : Int).toNat = ss.length := by rw [List.length_map, asl]; rfl
    rw [en]
    refine lc_range (lo := 0) (n := ss.length) (fun i H' => Same H4 H' ∧ H' D = some (.lst ((((List.range i).filter k).filterMap fun i => sas[i]?).map V.ref))) ⟨Same.new hD, upd_same⟩ ?_ ?_
    · rintro i H5 hi ⟨s5, e5⟩
      refine ⟨rfl, _, rfl, _, rfl, la, _, rfl, .inl (SqL.of (s5 _ _ el4)), rfl, by simp [flatV], _, rfl, ?_⟩
      have il := left_in (k := k) hi
      show if (!inV (.int (0 + (i : Nat))) _) = true then _ else _
      rw [il, List.range_succ, List.filter_append, List.filterMap_append]
      have hg := List.getElem?_eq_getElem hi
      obtain ⟨b, hb, eb⟩ := (sp4.o.same s5).get hg
      cases hk : k i with
      | false =>
        refine iteF ⟨s5, ?_⟩
        simpa [hk] using e5
      | true =>
        have ai : atI (sas.map V.ref) (0 + (i : Nat)) = some (V.ref b) := by
          rw [Int.zero_add]
          exact atI_nat (by rw [List.getElem?_map, hb]; rfl)
        refine iteT ⟨_, rfl, _, rfl, sa, _, _, _, rfl, rfl, SqL.of (s5 _ _ sp4.d), ai, _, e5, ?_, Same.upd' s5 hD, ?_⟩
        · have h1 := List.length_filterMap_le (fun i => sas[i]?) ((List.range i).filter k)
          have h2 := List.length_filter_le k (List.range i)
          rw [List.length_range] at h2
          rw [List.length_map]
          omega
        · rw [upd_same, List.map_append]
          simp [hk, hb]
    rintro H5 ⟨s5, e5⟩
    have sp5 := sp4.same s5
    have el5 := s5 _ _ el4
    have s05 := s4.trans s5
    -- the kept ones
    obtain ⟨ks, kas, eks, ekas⟩ : ∃ ks kas, ks = keptS ss k ∧ kas = ((List.range ss.length).filter k).filterMap fun i => sas[i]? := ⟨_, _, rfl, rfl⟩
    rw [← ekas] at e5
    have kp5 : SpL H5 D ks kas := ⟨e5, by
      rw [eks, ekas]
      exact objs_sel sp5.o _ fun i hi => List.mem_range.mp (List.mem_filter.mp hi).1⟩
    have ckl : kas.length = ks.length := kp5.o.len
    have lks : ks.length ≤ 14 := by
      have h1 := List.length_filterMap_le (fun i => ss[i]?) ((List.range ss.length).filter k)
      have h2 := List.length_filter_le k (List.range ss.length)
      rw [List.length_range] at h2
      rw [eks]
      unfold keptS
      omega
    have kin : ∀ g ∈ ks, ∃ j, j < ss.length ∧ k j = true ∧ ss[j]? = some g := fun g hg => by
      rw [eks] at hg
      obtain ⟨j, hj, e⟩ := List.mem_filterMap.mp hg
      obtain ⟨h1, h2⟩ := List.mem_filter.mp hj
      exact ⟨j, List.mem_range.mp h1, h2, e⟩
    have kin' : ∀ j, j < ss.length → k j = true → ∃ g ∈ ks, ss[j]? = some g := fun j h1 h2 => by
      refine ⟨ss[j], ?_, List.getElem?_eq_getElem h1⟩
      rw [eks]
      exact List.mem_filterMap.mpr ⟨j, List.mem_filter.mpr ⟨List.mem_range.mpr h1, h2⟩, List.getElem?_eq_getElem h1⟩
    have cv : ∀ y, covL ks y = cov (pb ss (LL ss)) k y := fun y => by rw [eks]; exact covL_kept ss k (LL ss) y
    change tSeq _ _ _ _ H5
    -- no more than room
    refine ⟨_, rfl, D, rfl, ⟨_, SqL.of e5⟩, for_it (walk_list (xs := kas.map V.ref)) (fun i σ H' => (∃ y5, σ = [some (.ref sa), some (.int (R : Nat)), some (.ref la), none, some (.ref D), y5, none, none, none, none]) ∧ Same H5 H') ⟨⟨none, rfl⟩, Same.refl _⟩ (fun i σ H' _ h => SqL.of (h.2 _ _ e5)) ?_ ?_⟩
    · rintro i v σ H6 H7 hi ⟨⟨y5, rfl⟩, s6⟩ ⟨rfl, hv⟩
      obtain ⟨g, b, hg, rfl, hb, eb⟩ := (kp5.o.same s6).get' hv
      have gm := List.mem_of_getElem? hg
      obtain ⟨j, hj, hk, ej⟩ := kin g gm
      have hgs := List.mem_of_getElem? ej
      refine ⟨_, rfl, _, rfl, b, _, _, _, rfl, rfl, SqT.of eb, atI_nat (j := 0) rfl, D, g.f, ks, kas, rfl, kp5.same s6, by omega, fun H8 s8 => ⟨_, rfl, _, _, rfl, rfl, _, rfl, iteFd (decide_eq_false ?_) ⟨⟨_, rfl⟩, s6.trans s8⟩⟩⟩
      rw [cv]
      have h1 := room g.f (by have := LL_lt g hgs; have := (gd g hgs).1; omega)
      omega
    rintro σ H6 ⟨⟨y5, rfl⟩, s6⟩
    have el6 := s6 _ _ el5
    have kp6 := kp5.same s6
    have sp6 := sp5.same s6
    -- none could be kept
    refine ⟨_, rfl, la, rfl, ⟨_, SqL.of el6⟩, for_it (walk_list (xs := (((List.range ss.length).filter fun i => !k i).map fun i => ((i : Nat) : Int)).map V.int)) (fun i σ H' => (∃ y3 y5 y6 y7 y8, σ = [some (.ref sa), some (.int (R : Nat)), some (.ref la), y3, some (.ref D), y5, y6, y7, y8, none]) ∧ Same H6 H') ⟨⟨_, _, _, _, _, rfl⟩, Same.refl _⟩ (fun i σ H' _ h => SqL.of (h.2 _ _ el6)) ?_ ?_⟩
    · rintro i v σ H7b H7 hi ⟨⟨y3, y5, y6, y7, y8, rfl⟩, s7⟩ ⟨rfl, hv⟩
      rw [List.getElem?_map, List.getElem?_map] at hv
      obtain ⟨z, hz, rfl⟩ := Option.map_eq_some_iff.mp hv
      obtain ⟨j, hj, rfl⟩ := Option.map_eq_some_iff.mp hz
      obtain ⟨hj1, hj2⟩ := List.mem_filter.mp (List.mem_of_getElem? hj)
      have hjn : j < ss.length := List.mem_range.mp hj1
      have hkj : k j = false := by simpa using hj2
      have hg := List.getElem?_eq_getElem hjn
      have sp7 := sp6.same s7
      have kp7 := kp6.same s7
      obtain ⟨b, hb, eb⟩ := sp7.o.get hg
      obtain ⟨p1, p2, _⟩ := pb_at (L := LL ss) hg
      generalize ss[j] = g at hg eb p1 p2
      have aj : atI (sas.map V.ref) ((j : Nat) : Int) = some (V.ref b) := atI_nat (by rw [List.getElem?_map, hb]; rfl)
      refine ⟨_, rfl, _, rfl, sa, _, _, _, rfl, rfl, SqL.of sp7.d, aj, b, _, _, _, rfl, rfl, SqT.of eb, atI_nat (j := 0) rfl, _, rfl, _, rfl, sa, _, _, _, rfl, rfl, SqL.of sp7.d, aj, b, _, _, _, rfl, rfl, SqT.of eb, atI_nat (j := 1) rfl, (by show 2 ≤ sizeLine; omega), fun t ht => ?_⟩
      refine ⟨t, _, rfl, SqT.of upd_same, rfl, _, _, rfl, _, _, rfl, rfl, ?_⟩
      have s8 : Same H6 (upd H7 t (.tup [.int (g.f : Nat), .int (g.l : Nat)])) := Same.upd' s7 (s7.free ht)
      change tSeq _ _ _ _ (upd H7 t (.tup [.int (g.f : Nat), .int (g.l : Nat)]))
      generalize upd H7 t (.tup [.int (g.f : Nat), .int (g.l : Nat)]) = H8 at s8
      have kp8 := kp6.same s8
      -- the spots
      refine ⟨_, rfl, (by show 1 ≤ sizeLine; omega), fun z hz => ?_⟩
      have s9 : Same H6 (upd H8 z (.lst [.int (g.f : Nat)])) := Same.upd' s8 (s8.free hz)
      have ez : (upd H8 z (.lst [.int (g.f : Nat)])) z = some (.lst [.int (g.f : Nat)]) := upd_same
      change tLc _ _ _ _ _ _ (upd H8 z (.lst [.int (g.f : Nat)])) _
      generalize upd H8 z (.lst [.int (g.f : Nat)]) = H9 at s9 ez
      have kp9 := kp6.same s9
      have kl : (kas.map V.ref).length = ks.length := by rw [List.length_map, ckl]
      refine ⟨_, rfl, D, rfl, ⟨_, SqL.of kp9.d⟩, fun D2 hD2 => lc_it walk_list (fun i H' => Same H9 H' ∧ H' D2 = some (.lst ((((ks.take i).filter fun q => decide (g.f ≤ q.f ∧ q.f ≤ g.l)).map fun q => q.f).map fun n => V.int (n : Nat)))) ⟨Same.new hD2, upd_same⟩ (fun i H' _ h => SqL.of (h.1 _ _ kp9.d)) ?_ ?_⟩
      · rintro i2 v H10 H11 hi2 ⟨s10, e10⟩ ⟨rfl, hv⟩
        obtain ⟨g2, b2, hg2, rfl, hb2, eb2⟩ := (kp9.o.same s10).get' hv
        have tk : ((ks.take (i2 + 1)).filter fun q => decide (g.f ≤ q.f ∧ q.f ≤ g.l)) = ((ks.take i2).filter fun q => decide (g.f ≤ q.f ∧ q.f ≤ g.l)) ++ if decide (g.f ≤ g2.f ∧ g2.f ≤ g.l) = true then [g2] else [] := take_filt _ _ _ _ hg2
        rw [tk]
        refine ⟨rfl, ?_⟩
        refine ⟨_, rfl, _, rfl, b2, _, _, _, rfl, rfl, SqT.of eb2, atI_nat (j := 0) rfl, _, _, rfl, rfl, _, rfl, ?_⟩
        by_cases c1 : g.f ≤ g2.f
        · refine iteTd (decide_eq_true (by omega)) ?_
          refine ⟨_, rfl, b2, _, _, _, rfl, rfl, SqT.of eb2, atI_nat (j := 0) rfl, _, rfl, _, _, rfl, rfl, _, rfl, ?_⟩
          by_cases c2 : g2.f ≤ g.l
          · refine iteTd (decide_eq_true (by omega)) ⟨_, rfl, b2, _, _, _, rfl, rfl, SqT.of eb2, atI_nat (j := 0) rfl, _, e10, ?_, Same.upd' s10 hD2, ?_⟩
            · have := List.length_filter_le (fun q : Spn => decide (g.f ≤ q.f ∧ q.f ≤ g.l)) (ks.take i2)
              have := List.length_take_le' i2 ks
              rw [List.length_map, List.length_map]
              omega
            · rw [upd_same, if_pos (decide_eq_true ⟨c1, c2⟩), List.map_append, List.map_append]
              rfl
          · refine iteFd (decide_eq_false (by omega)) ⟨s10, ?_⟩
            rw [if_neg (by simp; omega), List.append_nil]
            exact e10
        · refine iteFd (decide_eq_false (by omega)) (iteFd rfl ⟨s10, ?_⟩)
          rw [if_neg (by simp; omega), List.append_nil]
          exact e10
      rintro H10 ⟨s10, e10⟩
      rw [kl, List.take_length] at e10
      obtain ⟨sp_, esp⟩ : ∃ l : List Nat, l = g.f :: (ks.filter fun q => decide (g.f ≤ q.f ∧ q.f ≤ g.l)).map fun q => q.f := ⟨_, rfl⟩
      have lsp : sp_.length ≤ 15 := by
        have := List.length_filter_le (fun q : Spn => decide (g.f ≤ q.f ∧ q.f ≤ g.l)) ks
        rw [esp, List.length_cons, List.length_map]
        omega
      refine ⟨z, D2, _, _, rfl, rfl, s10 _ _ ez, e10, ?_, fun c hc => ?_⟩
      · rw [List.length_map, List.length_map]
        rw [esp, List.length_cons, List.length_map] at lsp
        show 1 + _ ≤ sizeLine
        omega
      have ec : (upd H10 c (.lst ([V.int (g.f : Nat)] ++ ((ks.filter fun q => decide (g.f ≤ q.f ∧ q.f ≤ g.l)).map fun q => q.f).map fun n => V.int (n : Nat)))) c = some (.lst (sp_.map fun n => V.int (n : Nat))) := by
        rw [upd_same, esp]
        rfl
      have s11 : Same H6 (upd H10 c (.lst ([V.int (g.f : Nat)] ++ ((ks.filter fun q => decide (g.f ≤ q.f ∧ q.f ≤ g.l)).map fun q => q.f).map fun n => V.int (n : Nat)))) := Same.upd' (s9.trans s10) ((s9.trans s10).free hc)
      generalize upd H10 c (.lst ([V.int (g.f : Nat)] ++ ((ks.filter fun q => decide (g.f ≤ q.f ∧ q.f ≤ g.l)).map fun q => q.f).map fun n => V.int (n : Nat))) = H11 at s11 ec
      have kp11 := kp6.same s11
      -- how they are covered
      refine ⟨_, rfl, c, rfl, ⟨_, SqL.of ec⟩, fun D3 hD3 => lc_it walk_list (fun i H' => Same H11 H' ∧ H' D3 = some (.lst (((sp_.take i).map (covL ks)).map V.int))) ⟨Same.new hD3, upd_same⟩ (fun i H' _ h => SqL.of (h.1 _ _ ec)) ?_ ?_⟩
      · rintro i2 v H12 H13 hi2 ⟨s12, e12⟩ ⟨rfl, hv⟩
        rw [List.getElem?_map] at hv
        obtain ⟨y, hy, rfl⟩ := Option.map_eq_some_iff.mp hv
        refine ⟨rfl, yes ⟨_, rfl, _, rfl, D, y, ks, kas, rfl, kp11.same s12, by omega, fun H14 s14 => ⟨_, s14 _ _ e12, ?_, Same.upd' (s12.trans s14) hD3, ?_⟩⟩⟩
        · have := List.length_take_le' i2 sp_
          rw [List.length_map, List.length_map]
          omega
        · rw [upd_same, List.take_add_one, hy, List.map_append, List.map_append]
          rfl
      rintro H12 ⟨s12, e12⟩
      rw [List.length_map, List.take_length] at e12
      refine ⟨D3, _, rfl, SqL.of e12, by rw [esp]; simp, fun m hm hmx => ⟨_, rfl, _, _, rfl, rfl, _, rfl, iteFd (decide_eq_false ?_) ⟨⟨_, _, _, _, _, rfl⟩, s11.trans s12⟩⟩⟩
      obtain ⟨z2, z1, z3, z4, z5⟩ := spot_kept (full j hjn hkj)
      have hz2 : z2 ∈ sp_ := by
        rw [esp]
        rcases z4 with z4 | ⟨j2, h1, h2, h3⟩
        · rw [z4, p1]
          exact List.mem_cons_self
        · obtain ⟨g2, hg2, e2⟩ := kin' j2 h1 h2
          have p3 := (pb_at (L := LL ss) e2).1
          rw [p1] at z1
          rw [p2] at z3
          refine List.mem_cons_of_mem _ (List.mem_map.mpr ⟨g2, List.mem_filter.mpr ⟨hg2, decide_eq_true ?_⟩, by rw [← p3]; exact h3⟩)
          rw [← p3, h3]
          exact ⟨z1, z3⟩
      have := hmx _ (List.mem_map_of_mem (f := covL ks) hz2)
      rw [cv] at this
      omega
    rintro σ H7 ⟨⟨y3, y5b, y6, y7, y8, rfl⟩, s7⟩
    exact q _ ((s05.trans s6).trans s7)
end
end SA

set_option Elab.async false
set_option linter.all false
set_option maxRecDepth 100000
set_option maxHeartbeats 4000000
namespace SA
open PySem PySem.Spec PyProof.Rows L2 K83 M57
theorem cov_far (ss : List Spn) (k : Nat → Bool) {y : Nat} (h : LL ss ≤ y) : cov (pb ss (LL ss)) k y = 0 := by
  refine sumTo_zero fun i hi => if_neg fun z => ?_
  have hg := List.getElem?_eq_getElem (show i < ss.length from hi)
  have p2 := (pb_at (L := LL ss) hg).2.1
  have := LL_lt _ (List.mem_of_getElem? hg)
  rw [p2] at z
  omega
theorem PL_nn {ps : List Int} (h : ∀ q ∈ ps, 0 ≤ q) {y : Nat} (hy : y < ps.length) : 0 ≤ PL ps y := by
  unfold PL
  rw [List.getElem?_eq_getElem hy]
  exact h _ (List.getElem_mem hy)
theorem turns7 {m : Nat} (h : m ≤ 63) : (2 + (if (5 : Int) < (m : Int) then (5 : Int) else (m : Int))).toNat ≤ 7 ∧ -(2 ^ 62) ≤ 2 + (if (5 : Int) < (m : Int) then (5 : Int) else (m : Int)) ∧ 2 + (if (5 : Int) < (m : Int) then (5 : Int) else (m : Int)) < 2 ^ 62 := by
  have : (2 : Int) ^ 62 > 1000 := by decide
  split <;> omega
section
variable {P : Program} {w0 : World} {K : PySem.W.Frag} {mg : Str → Option Value} {base : Heap} {BS BR BP : Addr}
theorem okI_BadSpans {f : Addr} {fd : FuncData} {C : Addr} (F : Fun K "__init__" "BadSpans.__init__" s_BadSpans___init__ f fd) (T : Own24 K C f ["at"]) : FnOk P w0 K mg base CX0 1 f fd ["self", "at"] (spInit1 C "at") := by
  refine F.ok sc_BadSpans___init__ (fun vs H Q E h => ?_) (fun cdv A outer s H vs Q E hr h => ?_)
  · obtain ⟨a, x, rfl, _⟩ := h
    rfl
  · obtain ⟨a, x, rfl, ha, k⟩ := h
    refine ⟨_, pss_one (ps_ost (pv 0) (pv 1)), ?_⟩
    exact ⟨x, rfl, .ref a, rfl, a, C, rfl, T.oex, T.no _ (by simp), .inl ⟨ha, fun dx hd ne => k dx _ hd ne upd_same (by rw [upd_ne ne, upd_same]) fun b o e hb => by rw [upd_ne hb, upd_ne (ne_of_none e hd)]; exact e⟩⟩
theorem sqSame {H H' : Hp} {a : Addr} {xs : List V} (h : SqL K H a xs) (s : Same H H') : SqL K H' a xs := by
  rcases h with (h | ⟨o, h⟩) | h
  · exact .inl (.inl (s _ _ h))
  · exact .inl (.inr ⟨o, s _ _ h⟩)
  · exact .inr h

theorem SpL.but2 {H H' : Hp} {d w c sa : Addr} {n : Nat} {ss : List Spn} {sas : List Addr} (h : SpL H sa ss sas) (D : DrawAt H d w c n) (h1 : sa ≠ d) (h2 : sa ≠ w) (b : But2 d w H H') : SpL H' sa ss sas := by
  obtain ⟨⟨_, _, _, _, ed⟩, ⟨_, ew⟩, _, _⟩ := D
  exact ⟨b _ _ h.d h1 h2, h.o.mono fun a x e => b _ _ e (ne_of e ed (by intro z; cases z)) (ne_of e ew (by intro z; cases z))⟩
theorem ok_law {f : Addr} {fd : FuncData} (F : Fun K "law" "law" s_law f fd) (B : Bn7 mg) (c__law_begun : Dq P w0 K mg base CX0 1 "_law_begun" ["script"] (spBegun K)) (c__law_pick : Dq P w0 K mg base CX0 3 "_law_pick" ["draw", "some"] (spPick K)) (c__law_spans : Dq P w0 K mg base CX0 5 "_law_spans" ["draw"] spLSpans) (c__law_right : Dq P w0 K mg base CX0 7 "_law_right" ["spans", "room"] spRight)
    (c__law_prices : Dq P w0 K mg base CX0 4 "_law_prices" ["draw", "spans"] spLPrices) (c_worth : Dq P w0 K mg base (L2.CX P w0) 6 "worth" ["spans", "room", "prices"] (spWorth K BS BR BP)) (c__law_value : Dq P w0 K mg base CX0 2 "_law_value" ["spans", "room", "prices"] spVal)
    (c__law_refusals_right : Dq P w0 K mg base CX0 8 "_law_refusals_right" ["draw", "spans", "room", "prices"] spRefR) :
    FnG P w0 K mg base 9 f fd ["script"] (spLawT K) := by
  refine Fun.okG F sc_law (fun vs H Q E h => ?_) (fun cdv A outer s H vs Q E hg hr h => ?_)
  · obtain ⟨a, ns, rfl, _⟩ := h
    rfl
  · obtain ⟨a, ns, rfl, hS, hn, k⟩ := h
    refine ⟨_, (Evl.pss_cut (ps_set (i := 1) sc_law.nd rfl (Or.inl rfl) (pe_q c__law_begun hr (by decide) (by rfl) (pa_cons (pv 0) pa_nil)))
      (pss_cons (ps_for PassesOwn.never rfl (pi_range1 (by rfl) B.range (pa_cons (pe_op op_add pe_int (pe_callB (call_min2 rfl) (by rfl) B.min (by decide +kernel) (pa_cons (pe_callB call_len_seq (by rfl) B.len PySem.boot_len (pa_cons (pv 0) pa_nil)) (pa_cons pe_int pa_nil)))) pa_nil)) (pg_name (i := 2) sc_law.nd rfl (Or.inl rfl)) (Evl.pss_cut (ps_par (i := 3) (j := 4) rfl sc_law.nd rfl rfl (by decide) rfl rfl (pa_cons (pe_q c__law_spans hr (by decide) (by rfl) (pa_cons (pv 1) pa_nil)) (pa_cons (pe_q c__law_pick hr (by decide) (by rfl) (pa_cons (pv 1) (pa_cons (pe_lst (pa_cons pe_int (pa_cons pe_int (pa_cons pe_int (pa_cons pe_int (pa_cons pe_int (pa_cons pe_int (pa_cons pe_int (pa_cons pe_int (pa_cons pe_int pa_nil)))))))))) pa_nil))) pa_nil)) rfl)
      (Evl.pss_cut (ps_asg (pe_q c__law_right hr (by decide) (by rfl) (pa_cons (pv 3) (pa_cons (pv 4) pa_nil))) (pg_tup (by rfl) (pgs_cons (pg_name (i := 5) sc_law.nd rfl (Or.inl rfl)) (pgs_cons (pg_name (i := 6) sc_law.nd rfl (Or.inl rfl)) pgs_nil))))
      (Evl.pss_cut (ps_set (i := 7) sc_law.nd rfl (Or.inl rfl) (pe_q c__law_prices hr (by decide) (by rfl) (pa_cons (pv 1) (pa_cons (pv 3) pa_nil))))
      (Evl.pss_cut (ps_set (i := 8) sc_law.nd rfl (Or.inl rfl) (pe_qX c_worth hr (by decide) (by rfl) passN (pa_cons (pe_callTy call_list_of (by rfl) B.list (by decide +kernel) (pa_cons (pv 3) pa_nil)) (pa_cons (pv 4) (pa_cons (pe_callTy call_list_of (by rfl) B.list (by decide +kernel) (pa_cons (pv 7) pa_nil)) pa_nil)))))
      (Evl.pss_cut (ps_if (PW.pt (pw_or (pt_not (pt_val (pv 5))) (pw_or (pt_cmpR op_ne (pv 8) (pe_q c__law_value hr (by decide) (by rfl) (pa_cons (pv 3) (pa_cons (pv 4) (pa_cons (pv 7) pa_nil)))) (nomark _)) (pw_or1 (pt_cmpR op_gt (pv 8) (pv 6) (nomark _)))))) (pss_one (ps_ret pe_bl)) pss_nil)
      (pss_one (ps_if (pt_not (pt_val (pe_q c__law_refusals_right hr (by decide) (by rfl) (pa_cons (pv 1) (pa_cons (pv 3) (pa_cons (pv 4) (pa_cons (pv 7) pa_nil))))))) (pss_one (ps_ret pe_bl)) pss_nil))))))))
      (pss_one (ps_ret pe_bl)))), ?_⟩
    have hs63 := sizeLine_eq
    have big : (2 : Nat) ^ 38 > 100000 ∧ (2 : Nat) ^ 39 > 100000 ∧ (2 : Nat) ^ 40 > 100000 := by decide
    -- the draw
    refine ⟨fun σ H' => ∃ d w c, σ = [some (.ref a), some (.ref d), none, none, none, none, none, none, none] ∧ DrawAt H' d w c 0 ∧ SqL K H' a (ns.map V.int), ?_, ?_⟩
    · exact ⟨_, rfl, a, ns, rfl, hS, hn, fun d w c H' _ _ _ hD s => ⟨d, w, c, rfl, hD, sqSame hS s⟩⟩
    rintro σ H1 ⟨d, w, c, rfl, D1, hS1⟩
    obtain ⟨t7, tb1, tb2⟩ := turns7 (m := (ns.map V.int).length) (by rw [List.length_map]; exact hn)
    refine ⟨_, rfl, a, _, rfl, .inl hS1, _, _, rfl, _, _, rfl, rfl, _, rfl, tb1, tb2, ?_⟩
    refine for_range (lo := 0) (fun i σ H' => (∃ y2 y3 y4 y5 y6 y7 y8, σ = [some (.ref a), some (.ref d), y2, y3, y4, y5, y6, y7, y8]) ∧ DrawAt H' d w c (300 * i)) ⟨⟨_, _, _, _, _, _, _, rfl⟩, D1⟩ ?_ ?_
    · rintro i σ H2 hi ⟨⟨y2, y3, y4, y5, y6, y7, y8, rfl⟩, D2⟩
      have hi7 : i < 7 := by omega
      -- spans, room
      refine ⟨fun σ H' => ∃ (sa : Addr) (R : Nat) (ss : List Spn) (sas : List Addr), σ = [some (.ref a), some (.ref d), some (.int (0 + (i : Int))), some (.ref sa), some (.int (R : Nat)), y5, y6, y7, y8] ∧ DrawAt H' d w c (300 * i + 101) ∧ SpL H' sa ss sas ∧ (∀ q ∈ ss, GoodS q) ∧ ss.length ≤ 14 ∧ R ≤ 20 ∧ sa ≠ d ∧ sa ≠ w, ?_, ?_⟩
      · refine ⟨_, rfl, d, w, c, _, rfl, D2, by omega, fun H3 sa ss sas sp gd l14 D3 b3 hsa => ?_⟩
        have ka := D2.knowD hsa
        refine ⟨_, rfl, (by show 9 ≤ sizeLine; omega), fun l hl => ?_⟩
        have kl := D3.knowD hl
        refine ⟨d, w, c, l, _, _, rfl, D3.new hl, by omega, kl.1, kl.2.1, SqL.of (xs := [0, 1, 1, 2, 2, 3, 4, 5, 20].map V.int) upd_same, by decide, by decide, fun x H4 hx D4 b4 => ?_⟩
        obtain ⟨j, hj, rfl⟩ := mem_int hx
        simp only [List.mem_cons, List.not_mem_nil, or_false] at hj
        obtain ⟨R, rfl⟩ := Int.eq_ofNat_of_zero_le (show 0 ≤ j by omega)
        refine ⟨_, _, rfl, sa, R, ss, sas, rfl, D4, ?_, gd, l14, by omega, ka.1, ka.2.1⟩
        exact (sp.same (Same.new hl)).but2 (D3.new hl) ka.1 ka.2.1 b4
      rintro σ H3 ⟨sa, R, ss, sas, rfl, D3, sp3, gd, l14, hR, nSd, nSw⟩
      have asl : sas.length = ss.length := sp3.o.len
      -- right
      refine ⟨fun σ H' => ∃ k : Nat → Bool, σ = [some (.ref a), some (.ref d), some (.int (0 + (i : Int))), some (.ref sa), some (.int (R : Nat)), some (.bl true), some (.int (leftCost (pb ss (LL ss)) k)), y7, y8] ∧ (∀ y, y < LL ss → cov (pb ss (LL ss)) k y ≤ R) ∧ Same H3 H', ?_, ?_⟩
      · refine ⟨_, rfl, _, rfl, sa, R, ss, sas, rfl, sp3, l14, gd, hR, fun H4 t k e4 room s4 => ?_⟩
        exact ⟨t, _, rfl, SqT.of e4, rfl, _, _, rfl, _, _, rfl, rfl, k, rfl, room, s4⟩
      rintro σ H4 ⟨k4, rfl, room, s4⟩
      have sp4 := sp3.same s4
      have D4 := D3.same s4
      -- prices
      refine ⟨fun σ H' => ∃ (pa : Addr) (ps : List Int), σ = [some (.ref a), some (.ref d), some (.int (0 + (i : Int))), some (.ref sa), some (.int (R : Nat)), some (.bl true), some (.int (leftCost (pb ss (LL ss)) k4)), some (.ref pa), y8] ∧ DrawAt H' d w c (300 * i + 201) ∧ SpL H' sa ss sas ∧ H' pa = some (.lst (ps.map V.int)) ∧ (∀ q ∈ ps, 0 ≤ q) ∧ ps.length ≤ 1000 ∧ pa ≠ d ∧ pa ≠ w, ?_, ?_⟩
      · refine ⟨_, rfl, _, rfl, d, w, c, _, _, rfl, D4, by omega, fun H5 pa ps ep np lp D5 b5 hpa => ?_⟩
        have ka := D4.knowD hpa
        exact ⟨pa, ps, rfl, D5, sp4.but2 D4 nSd nSw b5, ep, np, lp, ka.1, ka.2.1⟩
      rintro σ H5 ⟨pa, ps, rfl, D5, sp5, ep5, np, lp, nPd, nPw⟩
      -- told
      refine ⟨fun σ H' => σ = [some (.ref a), some (.ref d), some (.int (0 + (i : Int))), some (.ref sa), some (.int (R : Nat)), some (.bl true), some (.int (leftCost (pb ss (LL ss)) k4)), some (.ref pa), some (.int (M57.worth (pb ss (LL ss)) (PL ps) ps.length R))] ∧ Same H5 H', ?_, ?_⟩
      · refine ⟨_, rfl, sa, _, rfl, .inl (SqL.of sp5.d), fun l hl => ?_⟩
        have s6 : Same H5 (upd H5 l (.lst (sas.map V.ref))) := Same.new hl
        have el : (upd H5 l (.lst (sas.map V.ref))) l = some (.lst (sas.map V.ref)) := upd_same
        generalize upd H5 l (.lst (sas.map V.ref)) = H6 at s6 el
        refine ⟨_, rfl, _, rfl, pa, _, rfl, .inl (SqL.of (s6 _ _ ep5)), fun l2 hl2 => ?_⟩
        have s7 : Same H6 (upd H6 l2 (.lst (ps.map V.int))) := Same.new hl2
        refine ⟨_, _, _, rfl, .inr ⟨l, false, ss, sas, rfl, ⟨s7 _ _ el, (sp5.o.same s6).same s7, gd, by omega⟩, .inr ⟨R, rfl, hR, .inr ⟨l2, false, ps, rfl, upd_same, lp, np, fun H8 s8 => ⟨rfl, (s6.trans s7).trans s8⟩⟩⟩⟩⟩
      rintro σ H6 ⟨rfl, s6⟩
      have sp6 := sp5.same s6
      have D6 := D5.same s6
      have ep6 := s6 _ _ ep5
      -- right, and no more than what is left costs
      refine ⟨fun σ H' => σ = [some (.ref a), some (.ref d), some (.int (0 + (i : Int))), some (.ref sa), some (.int (R : Nat)), some (.bl true), some (.int (leftCost (pb ss (LL ss)) k4)), some (.ref pa), some (.int (M57.worth (pb ss (LL ss)) (PL ps) ps.length R))] ∧ Same H6 H', ?_, ?_⟩
      · refine ⟨_, rfl, _, rfl, iteFd rfl ?_⟩
        refine ⟨_, rfl, _, rfl, _, rfl, _, rfl, sa, pa, R, ss, sas, ps, rfl, sp6, by omega, fun q hq => (gd q hq).1, ep6, lp, hR, fun H7 s7 => ?_⟩
        rw [value_worth]
        refine ⟨rfl, _, rfl, iteFd (by simp) ?_⟩
        refine ⟨_, rfl, _, rfl, _, _, rfl, rfl, _, rfl, iteFd (decide_eq_false ?_) ⟨rfl, s7⟩⟩
        have h0 : (0 : Int) ≤ R := by omega
        have := worth_le (p := pb ss (LL ss)) (P := PL ps) (L := ps.length) (R := R) (k := k4) (fun y hy => PL_nn np hy) fun y hy => by
          by_cases c : y < LL ss
          · exact room y c
          · rw [cov_far ss k4 (by omega)]
            exact h0
        omega
      rintro σ H7 ⟨rfl, s7⟩
      have D7 := D6.same s7
      refine ⟨_, rfl, _, rfl, _, rfl, _, rfl, d, w, c, sa, pa, _, R, ss, sas, ps, rfl, D7, by omega, sp6.same s7, gd, l14, hR, s7 _ _ ep6, lp, np, nSd, nSw, nPd, nPw, fun H8 D8 b8 => ⟨_, rfl, iteFd rfl ⟨⟨_, _, _, _, _, _, _, rfl⟩, D8.mono (by omega)⟩⟩⟩
    · rintro σ H2 ⟨⟨y2, y3, y4, y5, y6, y7, y8, rfl⟩, D2⟩
      exact k _
end
end SA

set_option Elab.async false
set_option linter.all false
set_option maxRecDepth 100000
set_option maxHeartbeats 0
namespace SA
open PySem PySem.Spec PyProof.Rows L2
theorem kwSame_rel {m : Nat} {vs zs : List V} {us ws : List Value} (r : Vals vs us) (rz : Vals zs ws) : Vals (kwSame m vs zs) (kwSame m us ws) := by
  unfold kwSame
  rw [r.length, rz.length]
  split
  · exact rz
  · exact .nil
theorem kb_same2 {K : PySem.W.Frag} {x qual p1 p2 : Str} {st : Stmt} {f : Addr} {fd : FuncData} (F : Fun K x qual st f fd)
    (h : ∀ (kV doc pm : Value) (an : Option Addr) (cdv ct u v : Value), bindArgs (PySem.W.fnOf x qual (defArgs st) (defBody st) (defScope st) .none kV doc pm an cdv ct) ⟨[], [(p1, u), (p2, v)]⟩ = pure [(p1, u), (p2, v)]) : KBinds K fd [p1, p2] [p1, p2] (kwSame 2) (kwSame 2) := by
  obtain ⟨oc, od, kV, doc, pm, an, cdv, ct, osl, rfl, _, _⟩ := F.ex
  refine ⟨fun s us ws _ hl => ?_, fun r rz => kwSame_rel r rz⟩
  match us, ws, hl with
  | [], [u, v], _ => exact .of_eq (h kV doc pm an cdv ct u v)
  | [], [], hl => cases hl
  | [], [_], hl => cases hl
  | [], _ :: _ :: _ :: _, hl => simp [kwSame] at hl
  | _ :: _, _, hl => simp [kwSame] at hl
theorem kb_same3 {K : PySem.W.Frag} {x qual p1 p2 p3 : Str} {st : Stmt} {f : Addr} {fd : FuncData} (F : Fun K x qual st f fd)
    (h : ∀ (kV doc pm : Value) (an : Option Addr) (cdv ct u v w : Value), bindArgs (PySem.W.fnOf x qual (defArgs st) (defBody st) (defScope st) .none kV doc pm an cdv ct) ⟨[], [(p1, u), (p2, v), (p3, w)]⟩ = pure [(p1, u), (p2, v), (p3, w)]) : KBinds K fd [p1, p2, p3] [p1, p2, p3] (kwSame 3) (kwSame 3) := by
  obtain ⟨oc, od, kV, doc, pm, an, cdv, ct, osl, rfl, _, _⟩ := F.ex
  refine ⟨fun s us ws _ hl => ?_, fun r rz => kwSame_rel r rz⟩
  match us, ws, hl with
  | [], [u, v, w], _ => exact .of_eq (h kV doc pm an cdv ct u v w)
  | [], [], hl => cases hl
  | [], [_], hl => cases hl
  | [], [_, _], hl => cases hl
  | [], _ :: _ :: _ :: _ :: _, hl => simp [kwSame] at hl
  | _ :: _, _, hl => simp [kwSame] at hl
section
variable {P : Program} {w0 : World} {K : PySem.W.Frag} {h : Heap} {mg : Str → Option Value} {fL : Addr}
theorem law_of (X : K.In h) (GG : h.Ns mainGlobals mg) (hfa : mg ("law" : Str) = some (.ref fL)) (c : Says57 w0 K) (base : Heap) : LawRun P w0 K mg base fL 63 := by
  have c2 := c.t.d
  obtain ⟨fd_is_number, F_is_number⟩ := FunD_fun (st := s_is_number) (c2.def_ 0 (d := d_is_number) rfl)
  have g_is_number := He.glo_ok X GG (c2.fact 0 (f := .glo "is_number") rfl)
  have b_is_number := F_is_number.binds (ps := ["thing"]) fun _ _ _ _ _ _ us hl => match us, hl with | [_], _ => rfl
  obtain ⟨fd_is_number_between, F_is_number_between⟩ := FunD_fun (st := s_is_number_between) (c2.def_ 1 (d := d_is_number_between) rfl)
  have g_is_number_between := He.glo_ok X GG (c2.fact 1 (f := .glo "is_number_between") rfl)
  have b_is_number_between := F_is_number_between.binds (ps := ["thing", "low", "high"]) fun _ _ _ _ _ _ us hl => match us, hl with | [_, _, _], _ => rfl
  obtain ⟨fd_is_tuple_of, F_is_tuple_of⟩ := FunD_fun (st := s_is_tuple_of) (c2.def_ 2 (d := d_is_tuple_of) rfl)
  have g_is_tuple_of := He.glo_ok X GG (c2.fact 2 (f := .glo "is_tuple_of") rfl)
  have b_is_tuple_of := F_is_tuple_of.binds (ps := ["thing", "many"]) fun _ _ _ _ _ _ us hl => match us, hl with | [_, _], _ => rfl
  obtain ⟨fd_is_list, F_is_list⟩ := FunD_fun (st := s_is_list) (c2.def_ 3 (d := d_is_list) rfl)
  have g_is_list := He.glo_ok X GG (c2.fact 3 (f := .glo "is_list") rfl)
  have b_is_list := F_is_list.binds (ps := ["thing"]) fun _ _ _ _ _ _ us hl => match us, hl with | [_], _ => rfl
  obtain ⟨fd_BadSpans___init__, F_BadSpans___init__⟩ := FunD_fun (st := s_BadSpans___init__) (c2.def_ 4 (d := d_BadSpans___init__) rfl)
  have b_BadSpans___init__ := F_BadSpans___init__.binds (ps := ["self", "at"]) fun _ _ _ _ _ _ us hl => match us, hl with | [_, _], _ => rfl
  obtain ⟨fd_Keeping___init__, F_Keeping___init__⟩ := FunD_fun (st := s_Keeping___init__) (c2.def_ 5 (d := d_Keeping___init__) rfl)
  have b_Keeping___init__ := F_Keeping___init__.binds (ps := ["self", "spans"]) fun _ _ _ _ _ _ us hl => match us, hl with | [_, _], _ => rfl
  obtain ⟨fd_Keeping_add_way, F_Keeping_add_way⟩ := FunD_fun (st := s_Keeping_add_way) (c2.def_ 6 (d := d_Keeping_add_way) rfl)
  have b_Keeping_add_way := F_Keeping_add_way.binds (ps := ["self"]) fun _ _ _ _ _ _ us hl => match us, hl with | [_], _ => rfl
  obtain ⟨fd_Keeping_prices, F_Keeping_prices⟩ := FunD_fun (st := s_Keeping_prices) (c2.def_ 7 (d := d_Keeping_prices) rfl)
  have b_Keeping_prices := F_Keeping_prices.binds (ps := ["self"]) fun _ _ _ _ _ _ us hl => match us, hl with | [_], _ => rfl
  obtain ⟨fd_Keeping__shortest, F_Keeping__shortest⟩ := FunD_fun (st := s_Keeping__shortest) (c2.def_ 8 (d := d_Keeping__shortest) rfl)
  have b_Keeping__shortest := F_Keeping__shortest.binds (ps := ["self"]) fun _ _ _ _ _ _ us hl => match us, hl with | [_], _ => rfl
  obtain ⟨fd_Keeping__go_on, F_Keeping__go_on⟩ := FunD_fun (st := s_Keeping__go_on) (c2.def_ 9 (d := d_Keeping__go_on) rfl)
  have b_Keeping__go_on := F_Keeping__go_on.binds (ps := ["self", "node", "far", "steps"]) fun _ _ _ _ _ _ us hl => match us, hl with | [_, _, _, _], _ => rfl
  obtain ⟨fd_Keeping__goes_back, F_Keeping__goes_back⟩ := FunD_fun (st := s_Keeping__goes_back) (c2.def_ 10 (d := d_Keeping__goes_back) rfl)
  have b_Keeping__goes_back := F_Keeping__goes_back.binds (ps := ["self", "node", "far", "steps"]) fun _ _ _ _ _ _ us hl => match us, hl with | [_, _, _, _], _ => rfl
  obtain ⟨fd__step, F__step⟩ := FunD_fun (st := s__step) (c2.def_ 11 (d := d__step) rfl)
  have g__step := He.glo_ok X GG (c2.fact 4 (f := .glo "_step") rfl)
  have b__step := F__step.binds (ps := ["node", "other", "span", "length", "far", "steps"]) fun _ _ _ _ _ _ us hl => match us, hl with | [_, _, _, _, _, _], _ => rfl
  obtain ⟨fd_least_left, F_least_left⟩ := FunD_fun (st := s_least_left) (c2.def_ 12 (d := d_least_left) rfl)
  have g_least_left := He.glo_ok X GG (c2.fact 5 (f := .glo "least_left") rfl)
  have b_least_left := F_least_left.binds (ps := ["spans", "room"]) fun _ _ _ _ _ _ us hl => match us, hl with | [_, _], _ => rfl
  obtain ⟨fd__left_beside, F__left_beside⟩ := FunD_fun (st := s__left_beside) (c2.def_ 13 (d := d__left_beside) rfl)
  have g__left_beside := He.glo_ok X GG (c2.fact 6 (f := .glo "_left_beside") rfl)
  have b__left_beside := F__left_beside.binds (ps := ["spans", "room", "is_kept"]) fun _ _ _ _ _ _ us hl => match us, hl with | [_, _, _], _ => rfl
  obtain ⟨fd__cover, F__cover⟩ := FunD_fun (st := s__cover) (c2.def_ 14 (d := d__cover) rfl)
  have g__cover := He.glo_ok X GG (c2.fact 7 (f := .glo "_cover") rfl)
  have b__cover := F__cover.binds (ps := ["counts", "first", "last"]) fun _ _ _ _ _ _ us hl => match us, hl with | [_, _, _], _ => rfl
  obtain ⟨fd_worth_of, F_worth_of⟩ := FunD_fun (st := s_worth_of) (c2.def_ 15 (d := d_worth_of) rfl)
  have g_worth_of := He.glo_ok X GG (c2.fact 8 (f := .glo "worth_of") rfl)
  have b_worth_of := F_worth_of.binds (ps := ["spans", "room", "prices"]) fun _ _ _ _ _ _ us hl => match us, hl with | [_, _, _], _ => rfl
  obtain ⟨fd_least, F_least⟩ := FunD_fun (st := s_least) (c2.def_ 16 (d := d_least) rfl)
  have g_least := He.glo_ok X GG (c2.fact 9 (f := .glo "least") rfl)
  have b_least := F_least.binds (ps := ["spans", "room"]) fun _ _ _ _ _ _ us hl => match us, hl with | [_, _], _ => rfl
  obtain ⟨fd_worth, F_worth⟩ := FunD_fun (st := s_worth) (c2.def_ 17 (d := d_worth) rfl)
  have g_worth := He.glo_ok X GG (c2.fact 10 (f := .glo "worth") rfl)
  have b_worth := F_worth.binds (ps := ["spans", "room", "prices"]) fun _ _ _ _ _ _ us hl => match us, hl with | [_, _, _], _ => rfl
  obtain ⟨fd__check_spans, F__check_spans⟩ := FunD_fun (st := s__check_spans) (c2.def_ 18 (d := d__check_spans) rfl)
  have g__check_spans := He.glo_ok X GG (c2.fact 11 (f := .glo "_check_spans") rfl)
  have b__check_spans := F__check_spans.binds (ps := ["spans"]) fun _ _ _ _ _ _ us hl => match us, hl with | [_], _ => rfl
  obtain ⟨fd__check_room, F__check_room⟩ := FunD_fun (st := s__check_room) (c2.def_ 19 (d := d__check_room) rfl)
  have g__check_room := He.glo_ok X GG (c2.fact 12 (f := .glo "_check_room") rfl)
  have b__check_room := F__check_room.binds (ps := ["room", "low"]) fun _ _ _ _ _ _ us hl => match us, hl with | [_, _], _ => rfl
  obtain ⟨fd__law_begun, F__law_begun⟩ := FunD_fun (st := s__law_begun) (c2.def_ 20 (d := d__law_begun) rfl)
  have g__law_begun := He.glo_ok X GG (c2.fact 13 (f := .glo "_law_begun") rfl)
  have b__law_begun := F__law_begun.binds (ps := ["script"]) fun _ _ _ _ _ _ us hl => match us, hl with | [_], _ => rfl
  obtain ⟨fd__law_mixed, F__law_mixed⟩ := FunD_fun (st := s__law_mixed) (c2.def_ 21 (d := d__law_mixed) rfl)
  have g__law_mixed := He.glo_ok X GG (c2.fact 14 (f := .glo "_law_mixed") rfl)
  have b__law_mixed := F__law_mixed.binds (ps := ["draw"]) fun _ _ _ _ _ _ us hl => match us, hl with | [_], _ => rfl
  obtain ⟨fd__law_take, F__law_take⟩ := FunD_fun (st := s__law_take) (c2.def_ 22 (d := d__law_take) rfl)
  have g__law_take := He.glo_ok X GG (c2.fact 15 (f := .glo "_law_take") rfl)
  have b__law_take := F__law_take.binds (ps := ["draw", "many"]) fun _ _ _ _ _ _ us hl => match us, hl with | [_, _], _ => rfl
  obtain ⟨fd__law_pick, F__law_pick⟩ := FunD_fun (st := s__law_pick) (c2.def_ 23 (d := d__law_pick) rfl)
  have g__law_pick := He.glo_ok X GG (c2.fact 16 (f := .glo "_law_pick") rfl)
  have b__law_pick := F__law_pick.binds (ps := ["draw", "some"]) fun _ _ _ _ _ _ us hl => match us, hl with | [_, _], _ => rfl
  obtain ⟨fd__law_span, F__law_span⟩ := FunD_fun (st := s__law_span) (c2.def_ 24 (d := d__law_span) rfl)
  have g__law_span := He.glo_ok X GG (c2.fact 17 (f := .glo "_law_span") rfl)
  have b__law_span := F__law_span.binds (ps := ["draw", "wide", "is_far"]) fun _ _ _ _ _ _ us hl => match us, hl with | [_, _, _], _ => rfl
  obtain ⟨fd__law_spans, F__law_spans⟩ := FunD_fun (st := s__law_spans) (c2.def_ 25 (d := d__law_spans) rfl)
  have g__law_spans := He.glo_ok X GG (c2.fact 18 (f := .glo "_law_spans") rfl)
  have b__law_spans := F__law_spans.binds (ps := ["draw"]) fun _ _ _ _ _ _ us hl => match us, hl with | [_], _ => rfl
  obtain ⟨fd__law_cover, F__law_cover⟩ := FunD_fun (st := s__law_cover) (c2.def_ 26 (d := d__law_cover) rfl)
  have g__law_cover := He.glo_ok X GG (c2.fact 19 (f := .glo "_law_cover") rfl)
  have b__law_cover := F__law_cover.binds (ps := ["spans", "at"]) fun _ _ _ _ _ _ us hl => match us, hl with | [_, _], _ => rfl
  obtain ⟨fd__law_value, F__law_value⟩ := FunD_fun (st := s__law_value) (c2.def_ 27 (d := d__law_value) rfl)
  have g__law_value := He.glo_ok X GG (c2.fact 20 (f := .glo "_law_value") rfl)
  have b__law_value := F__law_value.binds (ps := ["spans", "room", "prices"]) fun _ _ _ _ _ _ us hl => match us, hl with | [_, _, _], _ => rfl
  obtain ⟨fd__law_numbers, F__law_numbers⟩ := FunD_fun (st := s__law_numbers) (c2.def_ 28 (d := d__law_numbers) rfl)
  have g__law_numbers := He.glo_ok X GG (c2.fact 21 (f := .glo "_law_numbers") rfl)
  have b__law_numbers := F__law_numbers.binds (ps := ["some", "low"]) fun _ _ _ _ _ _ us hl => match us, hl with | [_, _], _ => rfl
  obtain ⟨fd__law_left_right, F__law_left_right⟩ := FunD_fun (st := s__law_left_right) (c2.def_ 29 (d := d__law_left_right) rfl)
  have g__law_left_right := He.glo_ok X GG (c2.fact 22 (f := .glo "_law_left_right") rfl)
  have b__law_left_right := F__law_left_right.binds (ps := ["spans", "room", "left"]) fun _ _ _ _ _ _ us hl => match us, hl with | [_, _, _], _ => rfl
  obtain ⟨fd__law_right, F__law_right⟩ := FunD_fun (st := s__law_right) (c2.def_ 30 (d := d__law_right) rfl)
  have g__law_right := He.glo_ok X GG (c2.fact 23 (f := .glo "_law_right") rfl)
  have b__law_right := F__law_right.binds (ps := ["spans", "room"]) fun _ _ _ _ _ _ us hl => match us, hl with | [_, _], _ => rfl
  obtain ⟨fd__law_prices, F__law_prices⟩ := FunD_fun (st := s__law_prices) (c2.def_ 31 (d := d__law_prices) rfl)
  have g__law_prices := He.glo_ok X GG (c2.fact 24 (f := .glo "_law_prices") rfl)
  have b__law_prices := F__law_prices.binds (ps := ["draw", "spans"]) fun _ _ _ _ _ _ us hl => match us, hl with | [_, _], _ => rfl
  obtain ⟨fd__law_refused, F__law_refused⟩ := FunD_fun (st := s__law_refused) (c2.def_ 32 (d := d__law_refused) rfl)
  have g__law_refused := He.glo_ok X GG (c2.fact 25 (f := .glo "_law_refused") rfl)
  have b__law_refused := F__law_refused.binds (ps := ["spans", "room", "prices"]) fun _ _ _ _ _ _ us hl => match us, hl with | [_, _, _], _ => rfl
  obtain ⟨fd__law_refusals_right, F__law_refusals_right⟩ := FunD_fun (st := s__law_refusals_right) (c2.def_ 33 (d := d__law_refusals_right) rfl)
  have g__law_refusals_right := He.glo_ok X GG (c2.fact 26 (f := .glo "_law_refusals_right") rfl)
  have b__law_refusals_right := F__law_refusals_right.binds (ps := ["draw", "spans", "room", "prices"]) fun _ _ _ _ _ _ us hl => match us, hl with | [_, _, _, _], _ => rfl
  obtain ⟨fd_law, F_law⟩ := FunD_fun (st := s_law) (c2.def_ 34 (d := d_law) rfl)
  have g_law := He.glo_ok X GG (c2.fact 27 (f := .glo "law") rfl)
  have b_law := F_law.binds (ps := ["script"]) fun _ _ _ _ _ _ us hl => match us, hl with | [_], _ => rfl
  have z_isinstance := He.free_ok X GG (c2.fact 32 (f := .free "isinstance") rfl)
  have z_int := He.free_ok X GG (c2.fact 33 (f := .free "int") rfl)
  have z_bool := He.free_ok X GG (c2.fact 34 (f := .free "bool") rfl)
  have z_str := He.free_ok X GG (c2.fact 35 (f := .free "str") rfl)
  have z_len := He.free_ok X GG (c2.fact 36 (f := .free "len") rfl)
  have z_range := He.free_ok X GG (c2.fact 37 (f := .free "range") rfl)
  have z_tuple := He.free_ok X GG (c2.fact 38 (f := .free "tuple") rfl)
  have z_list := He.free_ok X GG (c2.fact 39 (f := .free "list") rfl)
  have z_all := He.free_ok X GG (c2.fact 40 (f := .free "all") rfl)
  have z_any := He.free_ok X GG (c2.fact 41 (f := .free "any") rfl)
  have z_zip := He.free_ok X GG (c2.fact 42 (f := .free "zip") rfl)
  have z_enumerate := He.free_ok X GG (c2.fact 43 (f := .free "enumerate") rfl)
  have z_sorted := He.free_ok X GG (c2.fact 44 (f := .free "sorted") rfl)
  have z_max := He.free_ok X GG (c2.fact 45 (f := .free "max") rfl)
  have z_min := He.free_ok X GG (c2.fact 46 (f := .free "min") rfl)
  have z_sum := He.free_ok X GG (c2.fact 47 (f := .free "sum") rfl)
  have z_set := He.free_ok X GG (c2.fact 48 (f := .free "set") rfl)
  have z_dict := He.free_ok X GG (c2.fact 49 (f := .free "dict") rfl)
  have z_abs := He.free_ok X GG (c2.fact 50 (f := .free "abs") rfl)
  have g_BadSpans := He.glo_ok X GG (c2.fact 28 (f := .glo "BadSpans") rfl)
  have g_BadRoom := He.glo_ok X GG (c2.fact 29 (f := .glo "BadRoom") rfl)
  have g_BadPrices := He.glo_ok X GG (c2.fact 30 (f := .glo "BadPrices") rfl)
  have g_Keeping := He.glo_ok X GG (c2.fact 31 (f := .glo "Keeping") rfl)
  obtain ⟨x1_BadRoom, x2_BadRoom, x3_BadRoom, x4_BadRoom⟩ := He.exc_ok (c2.fact 51 (f := .exc "BadRoom") rfl)
  obtain ⟨x1_BadPrices, x2_BadPrices, x3_BadPrices, x4_BadPrices⟩ := He.exc_ok (c2.fact 52 (f := .exc "BadPrices") rfl)
  have m_BadSpans_BadSpans := He.exm_ok (c2.fact 53 (f := .exm "BadSpans" "BadSpans" true) rfl)
  have m_BadRoom_BadSpans := He.exm_ok (c2.fact 54 (f := .exm "BadRoom" "BadSpans" false) rfl)
  have m_BadRoom_BadRoom := He.exm_ok (c2.fact 55 (f := .exm "BadRoom" "BadRoom" true) rfl)
  have m_BadPrices_BadSpans := He.exm_ok (c2.fact 56 (f := .exm "BadPrices" "BadSpans" false) rfl)
  have m_BadPrices_BadRoom := He.exm_ok (c2.fact 57 (f := .exm "BadPrices" "BadRoom" false) rfl)
  have m_BadPrices_BadPrices := He.exm_ok (c2.fact 58 (f := .exm "BadPrices" "BadPrices" true) rfl)
  have cC := He.cls_ok (c2.fact 61 (f := .cls "Keeping") rfl)
  have MK := He.mkr_ok (c2.fact 62 (f := .mkr "Keeping") rfl)
  have mt__go_on := He.meth_ok (c2.fact 63 (f := .meth "Keeping" "_go_on") rfl)
  have mt__goes_back := He.meth_ok (c2.fact 64 (f := .meth "Keeping" "_goes_back") rfl)
  have mt__shortest := He.meth_ok (c2.fact 65 (f := .meth "Keeping" "_shortest") rfl)
  have mt_add_way := He.meth_ok (c2.fact 66 (f := .meth "Keeping" "add_way") rfl)
  have mt_prices := He.meth_ok (c2.fact 67 (f := .meth "Keeping" "prices") rfl)
  have na__spans := He.noat_ok (c2.fact 68 (f := .noat "Keeping" "_spans") rfl)
  have na__last := He.noat_ok (c2.fact 69 (f := .noat "Keeping" "_last") rfl)
  have na__empty := He.noat_ok (c2.fact 70 (f := .noat "Keeping" "_empty") rfl)
  have na_is_kept := He.noat_ok (c2.fact 71 (f := .noat "Keeping" "is_kept") rfl)
  have na__beginning := He.noat_ok (c2.fact 72 (f := .noat "Keeping" "_beginning") rfl)
  have na__ending := He.noat_ok (c2.fact 73 (f := .noat "Keeping" "_ending") rfl)
  have in_MOST_SPANS := He.int_ok X GG (c2.fact 59 (f := .int "MOST_SPANS" 400) rfl)
  have in_MOST_POSITION := He.int_ok X GG (c2.fact 60 (f := .int "MOST_POSITION" 999) rfl)
  have m := c.more
  unfold ex57 at m
  simp only [Bool.and_eq_true, decide_eq_true_eq] at m
  obtain ⟨mSys, mx_BadRoom, mx_BadPrices, mx_BadSpans, mo_BadSpans⟩ := m
  have SK := sysB_ok mSys
  have O_BadSpans := ownB_ok mo_BadSpans
  have C_BadRoom : Cl0 K mg "BadRoom" (He.ga K "BadRoom") := ⟨g_BadRoom, x1_BadRoom, x2_BadRoom, x3_BadRoom, x4_BadRoom⟩
  have C_BadPrices : Cl0 K mg "BadPrices" (He.ga K "BadPrices") := ⟨g_BadPrices, x1_BadPrices, x2_BadPrices, x3_BadPrices, x4_BadPrices⟩
  have B : Bn7 mg := { isinstance := z_isinstance, int := z_int, bool := z_bool, str := z_str, len := z_len, range := z_range, tuple := z_tuple, list := z_list, all := z_all, any := z_any, zip := z_zip, enumerate := z_enumerate, sorted := z_sorted, max := z_max, min := z_min, sum := z_sum, set := z_set, dict := z_dict }
  have G_I : FnOk P w0 K mg base CX0 1 _ fd_BadSpans___init__ ["self", "at"] (spInit1 (He.ga K "BadSpans") "at") := okI_BadSpans F_BadSpans___init__ O_BadSpans
  have SP : Cl1 P w0 K mg base "BadSpans" "at" (He.ga K "BadSpans") _ fd_BadSpans___init__ := ⟨g_BadSpans, O_BadSpans, G_I, b_BadSpans___init__⟩
  have nA : NoA K (He.ga K "Keeping") := fun x hx => by
    simp only [List.mem_cons, List.not_mem_nil, or_false] at hx
    rcases hx with rfl | rfl | rfl | rfl | rfl | rfl
    · exact na__spans
    · exact na__last
    · exact na__empty
    · exact na_is_kept
    · exact na__beginning
    · exact na__ending
  have ER : Ers K mg (He.ga K "BadSpans") (He.ga K "BadRoom") (He.ga K "BadPrices") := ⟨g_BadSpans, g_BadRoom, g_BadPrices, m_BadSpans_BadSpans, m_BadRoom_BadSpans, m_BadRoom_BadRoom, m_BadPrices_BadSpans, m_BadPrices_BadRoom, m_BadPrices_BadPrices, (excB_ok mx_BadSpans).2, O_BadSpans.no "at" (List.mem_singleton.mpr rfl)⟩
  have G_is_tuple_of : FnOk P w0 K mg base CX0 1 _ fd_is_tuple_of ["thing", "many"] (spTupOf K) := ok_is_tuple_of F_is_tuple_of B
  have c_is_tuple_of : Dq P w0 K mg base CX0 1 "is_tuple_of" ["thing", "many"] (spTupOf K) := ⟨_, _, G_is_tuple_of, g_is_tuple_of, F_is_tuple_of.kp, b_is_tuple_of⟩
  have G_is_list : FnOk P w0 K mg base CX0 1 _ fd_is_list ["thing"] (spIsList K) := ok_is_list F_is_list B
  have c_is_list : Dq P w0 K mg base CX0 1 "is_list" ["thing"] (spIsList K) := ⟨_, _, G_is_list, g_is_list, F_is_list.kp, b_is_list⟩
  have G_is_number : FnOk P w0 K mg base CX0 1 _ fd_is_number ["thing"] (spIsNum K) := ok_is_number F_is_number B
  have c_is_number : Dq P w0 K mg base CX0 1 "is_number" ["thing"] (spIsNum K) := ⟨_, _, G_is_number, g_is_number, F_is_number.kp, b_is_number⟩
  have G_is_number_between : FnOk P w0 K mg base CX0 2 _ fd_is_number_between ["thing", "low", "high"] (spNumB K) := ok_is_number_between F_is_number_between c_is_number
  have c_is_number_between : Dq P w0 K mg base CX0 2 "is_number_between" ["thing", "low", "high"] (spNumB K) := ⟨_, _, G_is_number_between, g_is_number_between, F_is_number_between.kp, b_is_number_between⟩
  have G__step : FnOk P w0 K mg base CX0 1 _ fd__step ["node", "other", "span", "length", "far", "steps"] spStep := ok_step F__step
  have c__step : Dq P w0 K mg base CX0 1 "_step" ["node", "other", "span", "length", "far", "steps"] spStep := ⟨_, _, G__step, g__step, F__step.kp, b__step⟩
  have G_Keeping__go_on : FnOk P w0 K mg base CX0 2 _ fd_Keeping__go_on ["self", "node", "far", "steps"] (spGoOn (He.ga K "Keeping")) := ok_go_on F_Keeping__go_on cC nA c__step
  have m__go_on : Dm P w0 K mg base (He.ga K "Keeping") 2 "_go_on" ["self", "node", "far", "steps"] (spGoOn (He.ga K "Keeping")) := ⟨_, _, G_Keeping__go_on, mt__go_on, b_Keeping__go_on⟩
  have G_Keeping__goes_back : FnOk P w0 K mg base CX0 2 _ fd_Keeping__goes_back ["self", "node", "far", "steps"] (spGoBk (He.ga K "Keeping")) := ok_goes_back F_Keeping__goes_back cC nA c__step
  have m__goes_back : Dm P w0 K mg base (He.ga K "Keeping") 2 "_goes_back" ["self", "node", "far", "steps"] (spGoBk (He.ga K "Keeping")) := ⟨_, _, G_Keeping__goes_back, mt__goes_back, b_Keeping__goes_back⟩
  have G_Keeping__shortest : FnOk P w0 K mg base CX0 3 _ fd_Keeping__shortest ["self"] (spShort (He.ga K "Keeping")) := ok_shortest F_Keeping__shortest B cC nA m__go_on m__goes_back
  have m__shortest : Dm P w0 K mg base (He.ga K "Keeping") 3 "_shortest" ["self"] (spShort (He.ga K "Keeping")) := ⟨_, _, G_Keeping__shortest, mt__shortest, b_Keeping__shortest⟩
  have G_Keeping_prices : FnOk P w0 K mg base CX0 4 _ fd_Keeping_prices ["self"] (spPrices (He.ga K "Keeping")) := ok_prices F_Keeping_prices B cC nA m__shortest
  have m_prices : Dm P w0 K mg base (He.ga K "Keeping") 4 "prices" ["self"] (spPrices (He.ga K "Keeping")) := ⟨_, _, G_Keeping_prices, mt_prices, b_Keeping_prices⟩
  have G_Keeping_add_way : FnOk P w0 K mg base CX0 4 _ fd_Keeping_add_way ["self"] (spAdd (He.ga K "Keeping")) := ok_add_way F_Keeping_add_way B cC nA m__shortest
  have m_add_way : Dm P w0 K mg base (He.ga K "Keeping") 4 "add_way" ["self"] (spAdd (He.ga K "Keeping")) := ⟨_, _, G_Keeping_add_way, mt_add_way, b_Keeping_add_way⟩
  have G_init : FnOk P w0 K mg base CX0 1 _ fd_Keeping___init__ ["self", "spans"] (spInit (He.ga K "Keeping")) := ok_init F_Keeping___init__ B cC nA
  have mkK : DmK P w0 K mg base (He.ga K "Keeping") 1 "Keeping" ["self", "spans"] (spInit (He.ga K "Keeping")) := ⟨_, _, G_init, MK, g_Keeping, b_Keeping___init__⟩
  have G__cover : FnOk P w0 K mg base CX0 1 _ fd__cover ["counts", "first", "last"] spCover := ok_cover F__cover B
  have c__cover : Dq P w0 K mg base CX0 1 "_cover" ["counts", "first", "last"] spCover := ⟨_, _, G__cover, g__cover, F__cover.kp, b__cover⟩
  have G__left_beside : FnOk P w0 K mg base CX0 2 _ fd__left_beside ["spans", "room", "is_kept"] spLeft := ok_left_beside F__left_beside B c__cover
  have c__left_beside : Dq P w0 K mg base CX0 2 "_left_beside" ["spans", "room", "is_kept"] spLeft := ⟨_, _, G__left_beside, g__left_beside, F__left_beside.kp, b__left_beside⟩
  have G_least_left : FnOk P w0 K mg base CX0 5 _ fd_least_left ["spans", "room"] spLL := ok_least_left F_least_left B cC nA c__left_beside mkK m_add_way m_prices
  have c_least_left : Dq P w0 K mg base CX0 5 "least_left" ["spans", "room"] spLL := ⟨_, _, G_least_left, g_least_left, F_least_left.kp, b_least_left⟩
  have G_worth_of : FnOk P w0 K mg base CX0 1 _ fd_worth_of ["spans", "room", "prices"] spWorthOf := ok_worth_of F_worth_of B
  have c_worth_of : Dq P w0 K mg base CX0 1 "worth_of" ["spans", "room", "prices"] spWorthOf := ⟨_, _, G_worth_of, g_worth_of, F_worth_of.kp, b_worth_of⟩
  have G__check_spans : FnOk P w0 K mg base (L2.CX P w0) 3 _ fd__check_spans ["spans"] (spCkS K (He.ga K "BadSpans")) := ok_check_spans F__check_spans B SP in_MOST_SPANS in_MOST_POSITION c_is_list c_is_tuple_of c_is_number c_is_number_between
  have c__check_spans : Dq P w0 K mg base (L2.CX P w0) 3 "_check_spans" ["spans"] (spCkS K (He.ga K "BadSpans")) := ⟨_, _, G__check_spans, g__check_spans, F__check_spans.kp, b__check_spans⟩
  have G__check_room : FnOk P w0 K mg base (L2.CX P w0) 3 _ fd__check_room ["room", "low"] (spCkR K (He.ga K "BadRoom")) := ok_check_room F__check_room C_BadRoom c_is_number_between
  have c__check_room : Dq P w0 K mg base (L2.CX P w0) 3 "_check_room" ["room", "low"] (spCkR K (He.ga K "BadRoom")) := ⟨_, _, G__check_room, g__check_room, F__check_room.kp, b__check_room⟩
  have G_least : FnOk P w0 K mg base (L2.CX P w0) 6 _ fd_least ["spans", "room"] (spLeast K (He.ga K "BadSpans") (He.ga K "BadRoom")) := ok_least F_least c__check_spans c__check_room c_least_left
  have c_least : Dq P w0 K mg base (L2.CX P w0) 6 "least" ["spans", "room"] (spLeast K (He.ga K "BadSpans") (He.ga K "BadRoom")) := ⟨_, _, G_least, g_least, F_least.kp, b_least⟩
  have G_worth : FnOk P w0 K mg base (L2.CX P w0) 6 _ fd_worth ["spans", "room", "prices"] (spWorth K (He.ga K "BadSpans") (He.ga K "BadRoom") (He.ga K "BadPrices")) := ok_worth F_worth B C_BadPrices in_MOST_POSITION c__check_spans c__check_room c_is_list c_is_number c_worth_of
  have c_worth : Dq P w0 K mg base (L2.CX P w0) 6 "worth" ["spans", "room", "prices"] (spWorth K (He.ga K "BadSpans") (He.ga K "BadRoom") (He.ga K "BadPrices")) := ⟨_, _, G_worth, g_worth, F_worth.kp, b_worth⟩
  have k_least : Dk P w0 K mg base (L2.CX P w0) 6 "least" ["spans", "room"] ["spans", "room"] (kwSame 2) (spLeast K (He.ga K "BadSpans") (He.ga K "BadRoom")) := ⟨_, _, _, G_least, g_least, F_least.kp, kb_same2 F_least (fun _ _ _ _ _ _ _ _ => rfl)⟩
  have k_worth : Dk P w0 K mg base (L2.CX P w0) 6 "worth" ["spans", "room", "prices"] ["spans", "room", "prices"] (kwSame 3) (spWorth K (He.ga K "BadSpans") (He.ga K "BadRoom") (He.ga K "BadPrices")) := ⟨_, _, _, G_worth, g_worth, F_worth.kp, kb_same3 F_worth (fun _ _ _ _ _ _ _ _ _ => rfl)⟩
  have G__law_begun : FnOk P w0 K mg base CX0 1 _ fd__law_begun ["script"] (spBegun K) := ok_begun F__law_begun z_int z_abs
  have c__law_begun : Dq P w0 K mg base CX0 1 "_law_begun" ["script"] (spBegun K) := ⟨_, _, G__law_begun, g__law_begun, F__law_begun.kp, b__law_begun⟩
  have G__law_mixed : FnOk P w0 K mg base CX0 1 _ fd__law_mixed ["draw"] spMixed := ok_mixed F__law_mixed z_int
  have c__law_mixed : Dq P w0 K mg base CX0 1 "_law_mixed" ["draw"] spMixed := ⟨_, _, G__law_mixed, g__law_mixed, F__law_mixed.kp, b__law_mixed⟩
  have G__law_take : FnOk P w0 K mg base CX0 2 _ fd__law_take ["draw", "many"] spTake := ok_take F__law_take F__law_mixed b__law_mixed g__law_mixed z_int G__law_mixed
  have c__law_take : Dq P w0 K mg base CX0 2 "_law_take" ["draw", "many"] spTake := ⟨_, _, G__law_take, g__law_take, F__law_take.kp, b__law_take⟩
  have G__law_pick : FnOk P w0 K mg base CX0 3 _ fd__law_pick ["draw", "some"] (spPick K) := ok_pick F__law_pick F__law_take b__law_take g__law_take z_len G__law_take
  have c__law_pick : Dq P w0 K mg base CX0 3 "_law_pick" ["draw", "some"] (spPick K) := ⟨_, _, G__law_pick, g__law_pick, F__law_pick.kp, b__law_pick⟩
  have G__law_span : FnOk P w0 K mg base CX0 4 _ fd__law_span ["draw", "wide", "is_far"] spLSpan := ok_lspan F__law_span B c__law_take c__law_pick
  have c__law_span : Dq P w0 K mg base CX0 4 "_law_span" ["draw", "wide", "is_far"] spLSpan := ⟨_, _, G__law_span, g__law_span, F__law_span.kp, b__law_span⟩
  have G__law_spans : FnOk P w0 K mg base CX0 5 _ fd__law_spans ["draw"] spLSpans := ok_lspans F__law_spans B c__law_take c__law_pick c__law_span
  have c__law_spans : Dq P w0 K mg base CX0 5 "_law_spans" ["draw"] spLSpans := ⟨_, _, G__law_spans, g__law_spans, F__law_spans.kp, b__law_spans⟩
  have G__law_cover : FnOk P w0 K mg base CX0 1 _ fd__law_cover ["spans", "at"] spCov := ok_lcover F__law_cover B
  have c__law_cover : Dq P w0 K mg base CX0 1 "_law_cover" ["spans", "at"] spCov := ⟨_, _, G__law_cover, g__law_cover, F__law_cover.kp, b__law_cover⟩
  have G__law_value : FnOk P w0 K mg base CX0 2 _ fd__law_value ["spans", "room", "prices"] spVal := ok_lvalue F__law_value B c__law_cover
  have c__law_value : Dq P w0 K mg base CX0 2 "_law_value" ["spans", "room", "prices"] spVal := ⟨_, _, G__law_value, g__law_value, F__law_value.kp, b__law_value⟩
  have G__law_numbers : FnOk P w0 K mg base CX0 1 _ fd__law_numbers ["some", "low"] spNums := ok_lnumbers F__law_numbers B
  have c__law_numbers : Dq P w0 K mg base CX0 1 "_law_numbers" ["some", "low"] spNums := ⟨_, _, G__law_numbers, g__law_numbers, F__law_numbers.kp, b__law_numbers⟩
  have G__law_left_right : FnOk P w0 K mg base CX0 2 _ fd__law_left_right ["spans", "room", "left"] spLR := ok_lleft F__law_left_right B c__law_cover c__law_numbers
  have c__law_left_right : Dq P w0 K mg base CX0 2 "_law_left_right" ["spans", "room", "left"] spLR := ⟨_, _, G__law_left_right, g__law_left_right, F__law_left_right.kp, b__law_left_right⟩
  have G__law_right : FnOk P w0 K mg base CX0 7 _ fd__law_right ["spans", "room"] spRight := ok_lright F__law_right B k_least k_worth c__law_left_right c__law_numbers c__law_value
  have c__law_right : Dq P w0 K mg base CX0 7 "_law_right" ["spans", "room"] spRight := ⟨_, _, G__law_right, g__law_right, F__law_right.kp, b__law_right⟩
  have G__law_prices : FnOk P w0 K mg base CX0 4 _ fd__law_prices ["draw", "spans"] spLPrices := ok_lprices F__law_prices B c__law_take c__law_pick
  have c__law_prices : Dq P w0 K mg base CX0 4 "_law_prices" ["draw", "spans"] spLPrices := ⟨_, _, G__law_prices, g__law_prices, F__law_prices.kp, b__law_prices⟩
  have G__law_refused : FnOk P w0 K mg base CX0 7 _ fd__law_refused ["spans", "room", "prices"] (spRefd K (He.ga K "BadSpans") (He.ga K "BadRoom") (He.ga K "BadPrices")) := ok_lrefused F__law_refused B ER c_worth c_least
  have c__law_refused : Dq P w0 K mg base CX0 7 "_law_refused" ["spans", "room", "prices"] (spRefd K (He.ga K "BadSpans") (He.ga K "BadRoom") (He.ga K "BadPrices")) := ⟨_, _, G__law_refused, g__law_refused, F__law_refused.kp, b__law_refused⟩
  have G__law_refusals_right : FnOk P w0 K mg base CX0 8 _ fd__law_refusals_right ["draw", "spans", "room", "prices"] spRefR := ok_lrefr F__law_refusals_right B c__law_take c__law_pick c__law_refused
  have c__law_refusals_right : Dq P w0 K mg base CX0 8 "_law_refusals_right" ["draw", "spans", "room", "prices"] spRefR := ⟨_, _, G__law_refusals_right, g__law_refusals_right, F__law_refusals_right.kp, b__law_refusals_right⟩
  have G_law := ok_law F_law B c__law_begun c__law_pick c__law_spans c__law_right c__law_prices c_worth c__law_value c__law_refusals_right
  cases hfa.symm.trans g_law
  refine lawRun_of G_law ⟨by decide, by decide, by decide⟩ fun s u => ?_
  obtain ⟨oc, od, kV, doc, pm, an, cdv, ct, osl, rfl, _, _⟩ := F_law.ex
  exact .of_eq rfl
end
end SA

set_option Elab.async false
set_option linter.all false
set_option maxRecDepth 100000
set_option maxHeartbeats 0
open PySem PySem.W PySem.Calls PyProof.Rows
theorem PySem.Challenge.cw_stopanywhere_k57_least_spans_by_prices_holds : PySem.Challenge.rw_stopanywhere_k57_least_spans_by_prices.Holds := by
  w_on; o_law
  refine HandSHeadRun.head_any (r := SA.R) (q := view SA.R.prog [39]) (H := SA.hk57) (ob := SA.ob57) (M := 16000) (loose := SA.names) (d := HandSHeadRun.topDef SA.R.prog 39) (kwd := []) SA.ob_eq
    (by kernel_rfl) (fun s => by kernel_rfl) SA.hrun (by kernel_rfl) (by kernel_rfl) (by kernel_rfl) (by rfl) (by first | assumption | decide +kernel) (by decide +kernel) ⟨rfl, rfl, rfl, rfl, rfl, by decide +kernel⟩ ?hw ?hc
  case hw => w_witness2
  case hc =>
    refine SA.walk_G (l := PySem.Challenge.rw_stopanywhere_k57_least_spans_by_prices) (n := 63) rfl (by decide) (by kernel_rfl) ?F
    intro w mg fa h Y G hmg0
    obtain ⟨K, KX, c⟩ := Y
    have hmg : mg ("law" : PySem.Str) = some (.ref fa) := by
      have e : (HandSHeadRun.topDef SA.R.prog 39).name = ("law" : PySem.Str) := by kernel_rfl
      rw [← e]
      exact hmg0
    exact ⟨K, KX, fun base _ _ => SA.law_of KX G hmg c base⟩


import PyProof.Rows.All
import Wide.All
import OpenK.AllK
import Wide.FinOn
import HandS.ForMost
import HandS.Evl
import HandS.ExcInit
import HandS.ExcValue
import HandS.ExcIs
import HandS.ExcField
import HandS.IsInst
import PyProof.ReprRoads
import HandS.Head0
import HandS.Head1
import HandS.Head2
import HandS.HeadEnd
import HandS.HeadHook1
import HandS.HeadHook2
import HandS.Lambda
import HandS.TryOnly
import PyProof.Rows.StrNews2
import PyProof.StrLawsIn
import PyProof.StrBlock2
import KE.KIntText
import KE.IntTextLaws
import PyProof.FString3
import HandS.Base
import HandS.Call
import HandS.Codes
import HandS.IntHex
import HandS.FStr
import PyProof.Rows.StrIntSpec
import PySem.Challenge.RW_stopanywhere_k82_numbers_in_bits
import HandS.Wide
import HandS.CallLocal
import HandS.ForExc
import HandS.Style
import HandS.StrMore
import KE.BitLaws
import HandS.Walk
import PyProof.ReprLen
import HandS.EndTab
import HandS.HeadHook4
set_option Elab.async false
set_option linter.all false
set_option maxRecDepth 100000
set_option maxHeartbeats 4000000
/-! ### exceptions held as values: isinstance, fields, made with their own __init__; repr of data -/
namespace SA
section
open PySem PySem.Spec PySem.Calls PyProof.Rows PySem.W
variable {prog : Program} {w : World} {A : Around} {E : Value → Shared → Prop} {s : Shared} {K : Frag} {x D : Addr} {ox : Obj} {od : Option Obj}
/-- a data descriptor of the class is found first, whatever the object's own dict holds -/
theorem find_data {name : Str} {a g : Value} (hc : (clsIn K D).isSome = true) (ha : findIn K (.ref D) name = some (some a)) (hg : specialIn K a "__get__" = some (some g))
    (ht : takesIn K a = some true) : findObj K D od name = some (.bind g a) := by
  obtain ⟨cd, e⟩ := Option.isSome_iff_exists.mp hc
  unfold findObj
  rw [e, Option.bind_some, ha, Option.bind_some]
  simp [hg, ht]
/-- e.__class__ of an exception object of the class at D -/
theorem exc_class {Q : Option Value → Shared → Prop} (C : L2.ExcC K D) (X : K.In s.heap) (I : InstAt s.heap x ox D od) (h : Q (some (.ref D)) { s with toks := s.toks + 1 }) :
    wpAny (model prog w) A (getAttr? (.ref x) "__class__") Q E s := by
  have hcd : (clsIn K D).isSome = true := by
    obtain ⟨cd, hc, _⟩ := any_some C.hd
    rw [hc] <;> rfl
  have hf : findObj K D od "__class__" = some (.bind (.builtin "getset_descriptor.__get__") (.builtin "object.__class__")) := find_data hcd C.ha C.hn C.ht
  obtain ⟨hp, g, d, t, os⟩ := s
  have t0 := I.type (M := model prog w)
  have t1 := looks_findIn (M := model prog w) X C.hg
  have t2 := looks_findIn (M := model prog w) X C.hk
  have t3 := looks_find (M := model prog w) X I hf
  have sub : Looks (model prog w) hp (isInstance (.ref x) (.type "BaseException")) true := t0.andThen (looks_subIn X C.hs)
  have n0 : (false && onTheHeap (Value.builtin "BaseException.__getattribute__")) = false := rfl
  have n2 : (Value.builtin "BaseException.__getattribute__" == Value.builtin "object.__getattribute__") = false := by decide +kernel
  have n1 : (onTheHeap (Value.ref D) && Value.builtin "BaseException.__getattribute__" == Value.builtin "object.__getattribute__") = false := by rw [n2] <;> rfl
  unfold getAttr? getAttrBy? getAttrBy
  refine wpAny_bind (wpAny_mkText (wpAny_bind (wpAny_attempt (wpAny_holding (wpAny_bind (t0.at (wpAny_bind (t1.at ?_))))))))
  show wpAny _ _ (if (onTheHeap (Value.ref D) && Value.builtin "BaseException.__getattribute__" == Value.builtin "object.__getattribute__") = true then _ else _) _ _ _
  rw [n1, if_neg Bool.false_ne_true]
  unfold getAttrByItsOwn hookBefore
  refine wpAny_bind ?_
  rw [if_pos (show onTheHeap (Value.ref D) = true from rfl)]
  refine t2.at ?_
  refine wpAny_bind (wpAny_attempt (wpAny_holding ?_))
  unfold callGetattribute
  rw [n0, if_neg Bool.false_ne_true]
  unfold boundAndCalled
  rw [PySem.F.excAttr_ValueError.ga.bind (.ref x)]
  refine wpAny_bind (wpAny_pure ?_)
  show wpAny _ _ (call (.builtin "BaseException.__getattribute__") [.ref x, .str "__class__" t]) _ _ _
  refine wpAny_call (codeAny_call_builtin PySem.F.excAttr_ValueError.ga.plain PySem.F.entry_bexc_ga ?_)
  refine @check_slot (model prog w) _ _ ⟨hp, g, d, t + 1, os⟩ "BaseException.__getattribute__" "BaseException" "__getattribute__" (.ref x) [.str "__class__" t] [] _ (by decide +kernel) (by decide +kernel) sub (PySem.F.args_bexc_ga (.ref x) (.str "__class__" t)) ?_
  unfold Builtin.«object.__getattribute__»
  refine wpAny_bind (wpAny_of_eq (a := ((Value.ref x : Value), [Value.str "__class__" t])) (by first | rfl | (simp only [slotArgs]; rfl)) ?_)
  refine wpAny_bind (wpAny_pure (wpAny_bind (t0.at (wpAny_bind (t3.at ?_)))))
  show wpAny _ _ (holding [Value.builtin "object.__class__"] (call (.builtin "getset_descriptor.__get__") [.builtin "object.__class__", .ref x, .ref D]) >>= ret) _ _ _
  refine wpAny_bind (wpAny_holding (wpAny_call (class_get (s := ⟨hp, g, d, t + 1, os⟩) (ox := ox) (od := od) X I C.hm ?_)))
  refine wpAny_pure ?_
  show wpAny _ _ (handedOut (.ref D)) _ _ _
  rw [handedOut_of (v := .ref D) rfl]
  first
    | exact wpAny_pure (wpAny_pure h)
    | exact wpAny_pure h
    | exact wpAny_pure (wpAny_bind (wpAny_pure (wpAny_pure h)))
theorem is_class {c : Addr} (h : hasDictIn K c = true) : ∃ oc od cd sl, K.lookup c = some ⟨oc, od, .cls cd, sl⟩ := by
  obtain ⟨cd, hc, _⟩ := any_some h
  unfold clsIn at hc
  split at hc
  · rename_i c' d' cd' sl' ho
    exact ⟨_, _, _, _, ho⟩
  · cases hc
theorem kit_exc (C : L2.ExcC K D) : KitX K (.ref x) (.ref D) (fun h => InstAt h x ox D od) where
  ty := fun _ _ _ I => I.type
  it := fun _ _ X _ => by
    obtain ⟨oc, dd, cd, sl, ho⟩ := is_class C.hd
    intro A' Q' E' s' k q
    unfold isType loadHead
    exact wpAny_bind (wpAny_loadPart (k _ _ (X _ _ ho)) (wpAny_pure q))
  ne := fun h tp dd its n sl X htp => Bool.eq_false_iff.mpr fun q => by
    obtain ⟨oc, d2, cd, sl2, ho⟩ := is_class C.hd
    have e : D = tp := Value.ref.inj (beq_iff_eq.mp q)
    subst e
    have z := (X _ _ ho).symm.trans htp
    cases z
  ca := fun X I k => exc_class C X I k
end
section
open PySem PySem.Spec PyProof.Rows L2
/-- at a stands an exception of the class at C, not raised: without a dict | with its dict at d -/
def XAt (H : Hp) (a C : Addr) : Prop := H a = some (ExO (.ref C) a) ∨ ∃ (d : Addr) (fs : List (Str × V)), H a = some (exo a C (some d)) ∧ H d = some (exd d fs)
variable {X : Cx}
theorem XAt.inst {pins : List (Addr × Obj)} {σ : L2.St} {H : Hp} {s : Shared} {a C : Addr} (I : Inv X pins σ H s) (h : XAt H a C) : ∃ ox od, PySem.W.InstAt s.heap a ox C od := by
  rcases h with h | ⟨d, fs, h1, h2⟩
  · obtain ⟨⟨oe, vs, e, z, dt, _⟩, _⟩ := I.hok a _ h
    refine ⟨oe, none, e, z.1, ?_, ?_⟩
    · unfold PySem.W.notCls
      rw [dt] <;> rfl
    · rw [z.2]
      trivial
  · obtain ⟨t1, e⟩ := exo_at I.hok h1
    obtain ⟨mA, hn, _⟩ := exd_at I.hok h2
    obtain ⟨od, ho, _⟩ := lookIn_ns hn
    exact ⟨_, some od, e, rfl, rfl, ho⟩
/-- isinstance(e, c), e an exception held as a value -/
def rIsX (K : PySem.W.Frag) : List V → Hp → VK → Prop := fun xs H Q => ∃ (a D : Addr) (c : V) (cv : Value) (b : Bool), xs = [.ref a, c] ∧ ClsV c cv ∧ XAt H a D ∧ ExcC K D ∧ PySem.W.kitOne K (.ref D) cv = some b ∧ Q (.bl b) H
theorem call_isX : CallR X (.builtin "isinstance") (rIsX X.K) := by
  intro pins s σ H xs us Q I r h
  obtain ⟨a, D, c, cv, b, rfl, k, hx, hC, e, q⟩ := h
  obtain ⟨u1, u2, rfl, r1, r2⟩ := vals2 r
  have e2 := k.eq r2
  subst e2
  obtain rfl : u1 = Value.ref a := r1
  obtain ⟨ox, od, J⟩ := hx.inst I
  exact PySem.W.kia_one (kit_exc hC) I.kIn J e (fun z => nomatch z) fun tk => ⟨.bl b, H, I.kept (t' := tk) fun _ _ z => z, rfl, q⟩
/-- e.f, e an exception held as a value -/
def tXfld (K : PySem.W.Frag) (te : TE) (f : Str) : TE := fun σ H Q => te σ H fun x H1 => ∃ (a C d : Addr) (fs : List (Str × V)) (v : V), x = .ref a ∧ H1 a = some (exo a C (some d)) ∧ H1 d = some (exd d fs) ∧ XfC K C ∧
  PySem.W.findIn K (.ref C) f = some none ∧ fs.lookup f = some v ∧ Q v H1
theorem pe_xfld {e : Expr} {te : TE} {f : Str} {pos : Pos} (he : PE X e te) (hb : attributeBase e f X.env (eval e X.env) = eval e X.env := by rfl) : PE X (.Attribute e f pos) (tXfld X.K te f) := by
  refine ⟨fun pins s σ H Q I h => ?_⟩
  refine attr_of hb (thn (he.run pins s σ H _ I h) fun u s1 hh => ?_)
  obtain ⟨x, H1, I1, rx, a, C, d, fs, v, ex, h1, h2, T, hno, hl, q⟩ := hh
  subst ex
  obtain rfl : u = Value.ref a := rx
  obtain ⟨t1, ha⟩ := exo_at I1.hok h1
  obtain ⟨mA, hns, hr⟩ := exd_at I1.hok h2
  obtain ⟨od, ho, hlk⟩ := lookIn_ns hns
  obtain ⟨u, hu, ru⟩ := RelO.some_of (v := v) (o := mA f) (by rw [← hl]; exact hr f)
  have J : PySem.W.InstAt s1.heap a _ C (some od) := ⟨ha, rfl, rfl, ho⟩
  exact HandSPX.exc_get I1.kIn J T.ga T.gg T.exC (PySem.W.findObj_own T.hdC hno rfl (by rw [hlk, hu])) (handed_of ru) ⟨v, H1, I1.tok _, ru, q⟩
end
end SA
set_option Elab.async false
set_option linter.all false
set_option maxRecDepth 100000
set_option maxHeartbeats 4000000
namespace SA
open PySem PySem.Spec PyProof.Rows L2
/-! ### data of any depth, dicts too, and its repr -/
def keyD : Key → PyData
  | .inl i => .int i
  | .inr x => .str x
mutual
inductive Dx (K : PySem.W.Frag) (H : Hp) : V → PyData → Prop
  | non : Dx K H .non .none
  | bl (b : Bool) : Dx K H (.bl b) (.bool b)
  | int (i : Int) : Dx K H (.int i) (.int i)
  | str (x : Str) : Dx K H (.str x) (.str x)
  | lst {a : Addr} {xs : List V} {ds : List PyData} : SqL K H a xs → DxAll K H xs ds → Dx K H (.ref a) (.list ds)
  | tup {a : Addr} {xs : List V} {ds : List PyData} : SqT K H a xs → DxAll K H xs ds → Dx K H (.ref a) (.tuple ds)
  | dct {a : Addr} {kvs : List (Key × V)} {ds : List (PyData × PyData)} : H a = some (.dK kvs) → kvs.map (fun p => keyD p.1) = ds.map (·.1) → DxAll K H (kvs.map (·.2)) (ds.map (·.2)) → Dx K H (.ref a) (.dict ds)
inductive DxAll (K : PySem.W.Frag) (H : Hp) : List V → List PyData → Prop
  | nil : DxAll K H [] []
  | cons {v : V} {vs : List V} {d : PyData} {ds : List PyData} : Dx K H v d → DxAll K H vs ds → DxAll K H (v :: vs) (d :: ds)
end
/-- the written part knows sys.modules, a dict -/
def SysK (K : PySem.W.Frag) : Prop := ∃ o, K.lookup sysModules = some o ∧ o.cls = .type "dict"
section
variable {X : Cx} {pins : List (Addr × Obj)} {σ : L2.St} {H : Hp} {s : Shared}
theorem SysK.trk (S : SysK X.K) (I : Inv X pins σ H s) {a : Addr} {o : HO} (h : H a = some o) : sysModules ≠ a := fun e => by
  obtain ⟨ob, h1, _⟩ := S
  obtain ⟨_, z⟩ := I.bs sysModules ob (I.mod.kin _ _ h1)
  rw [e, h] at z
  cases z
theorem SysK.seqL (S : SysK X.K) (I : Inv X pins σ H s) {a : Addr} {xs : List V} (h : SqL X.K H a xs) : sysModules ≠ a := by
  rcases h with (h | ⟨o, h⟩) | ⟨o, its, n, h, hc, _⟩
  · exact S.trk I h
  · exact S.trk I h
  · intro e
    obtain ⟨ob, h1, h2⟩ := S
    rw [e, h] at h1
    cases h1
    rw [hc] at h2
    exact absurd (Value.type.inj h2) (by decide)
theorem pairs_keys {P : Program} {w : World} : ∀ {es : List DictEntry} {vs : List (Key × Value)}, Pairs (mixKind P w) es vs → ∃ as, ReadsAll s.heap (es.map (·.key)) (vs.map fun p => keyD p.1) as ∧ as = []
  | _, _, .nil => ⟨[], .nil, rfl⟩
  | _, _, .cons (e := e) (kv := kv) h1 h2 t => by
    obtain ⟨as, r, rfl⟩ := pairs_keys t
    have hk : Reads s.heap e.key (keyD kv.1) [] := by
      rcases keyIs_shape (k := kv.1) (v := e.key) h1 with ⟨i, t, e1, e2⟩ | ⟨x, t, e1, e2⟩
      · rw [e1, e2]
        exact .int i t
      · rw [e1, e2]
        exact .str x t
    exact ⟨[] ++ [], .cons hk r, rfl⟩
theorem pairs_vals {P : Program} {w : World} : ∀ {es : List DictEntry} {vs : List (Key × Value)}, Pairs (mixKind P w) es vs → es.map (·.val) = vs.map (·.2)
  | _, _, .nil => rfl
  | _, _, .cons h1 h2 t => by
    rw [List.map_cons, List.map_cons, pairs_vals t, h2]
theorem kv_keys : ∀ {kvs : List (Key × V)} {vs : List (Key × Value)}, KV kvs vs → kvs.map (fun p => keyD p.1) = vs.map (fun p => keyD p.1) ∧ Vals (kvs.map (·.2)) (vs.map (·.2))
  | _, _, .nil => ⟨rfl, .nil⟩
  | _, _, .cons r t => by
    obtain ⟨h1, h2⟩ := kv_keys t
    obtain ⟨q1, q2⟩ := r
    exact ⟨by rw [List.map_cons, List.map_cons, h1, q1], .cons q2 h2⟩
mutual
theorem Dx.reads (S : SysK X.K) (I : Inv X pins σ H s) : ∀ {d : PyData} {v : V} {u : Value}, Dx X.K H v d → RelV v u → ∃ as, Reads s.heap u d as ∧ sysModules ∉ as
  | _, _, u, .non, r => ⟨[], by obtain rfl : u = Value.none := r; exact .none, by simp⟩
  | _, _, u, .bl b, r => ⟨[], by obtain rfl : u = Value.bool b := r; exact .bool b, by simp⟩
  | _, _, u, .int i, r => by
    obtain ⟨t, rfl⟩ := r
    exact ⟨[], .int i t, by simp⟩
  | _, _, u, .str x, r => by
    obtain ⟨t, rfl⟩ := r
    exact ⟨[], .str x t, by simp⟩
  | _, _, u, .lst (a := a) hs ha, r => by
    obtain rfl : u = Value.ref a := r
    obtain ⟨its, rv, ⟨o, n, ho, hc, _, hd⟩, _⟩ := I.list hs
    obtain ⟨as, hr, hn⟩ := DxAll.reads S I ha rv
    exact ⟨_, .list ho hc hd hr, fun m => (List.mem_cons.mp m).elim (S.seqL I hs) hn⟩
  | _, _, u, .tup (a := a) hs ha, r => by
    obtain rfl : u = Value.ref a := r
    obtain ⟨its, rv, ⟨o, ho, hc, n, hd⟩, _⟩ := I.tuple hs
    obtain ⟨as, hr, hn⟩ := DxAll.reads S I ha rv
    exact ⟨_, .tuple ho hc hd hr, hn⟩
  | _, _, u, .dct (a := a) (kvs := kvs) (ds := ds) h1 hk ha, r => by
    obtain rfl : u = Value.ref a := r
    obtain ⟨_, hsm, vs, kv, o, es, ep, ho, hx, hd, _, hp, _⟩ := (show ObjOk X.prog X.w H s.heap a (.dK kvs) from I.hok a _ h1)
    obtain ⟨e1, e2⟩ := kv_keys kv
    obtain ⟨bs, hr, hn⟩ := DxAll.reads S I ha e2
    obtain ⟨as, hr2, rfl⟩ := pairs_keys (s := s) hp
    refine ⟨a :: [] ++ bs, .dict ho hx.1 hd (by rw [← hk, e1]; exact hr2) (by rw [pairs_vals hp]; exact hr), fun m => ?_⟩
    have m2 : sysModules ∈ a :: bs := m
    exact (List.mem_cons.mp m2).elim (S.trk I h1) hn
theorem DxAll.reads (S : SysK X.K) (I : Inv X pins σ H s) : ∀ {ds : List PyData} {vs : List V} {us : List Value}, DxAll X.K H vs ds → Vals vs us → ∃ as, ReadsAll s.heap us ds as ∧ sysModules ∉ as
  | _, _, _, .nil, .nil => ⟨[], .nil, by simp⟩
  | _, _, _, .cons h1 h2, .cons r1 r2 => by
    obtain ⟨as, q1, n1⟩ := Dx.reads S I h1 r1
    obtain ⟨bs, q2, n2⟩ := DxAll.reads S I h2 r2
    exact ⟨_, .cons q1 q2, fun m => (List.mem_append.mp m).elim n1 n2⟩
end
end
/-- repr of a list, a tuple, a dict -/
def rRepr (K : PySem.W.Frag) : List V → Hp → VK → Prop := fun xs H Q => ∃ (a : Addr) (d : PyData), xs = [.ref a] ∧ Dx K H (.ref a) d ∧ d.showable = true ∧ d.shown.length ≤ sizeLine ∧ d.depth ≤ 60 ∧ Q (.str d.shown) H
theorem call_repr {X : Cx} (S : SysK X.K) (hg : X.A.guards = some []) (hu : X.A.units + 64 < cLine) : CallR X (.builtin "repr") (rRepr X.K) := by
  intro pins s σ H xs us Q I r h
  obtain ⟨a, d, rfl, hd, hs, hz, hp, q⟩ := h
  obtain ⟨u, rfl, ru⟩ := vals1 r
  obtain rfl : u = Value.ref a := ru
  obtain ⟨as, hr, hn⟩ := Dx.reads S I hd (u := .ref a) rfl
  exact repr_of_reads' hr hs (fun _ => hn) hg (by omega) (fun _ _ e => e) (fun h' u tk hk => ⟨.str d.shown, H, I.kept (t' := tk) hk, ⟨u, rfl⟩, q⟩) hz
/-! ### X(e, ..) by its own __init__, as a value -/
def tOex (C : Addr) (sp : Sp) (dvs : List V) (ta : TA) : TE := fun σ H Q => ta σ H fun vs H1 => vs.length ≤ 1000 ∧ ∀ a, H1 a = none → sp (.ref a :: (vs ++ dvs)) (upd H1 a (exo a C none)) (fun v H2 => v = .non ∧ Q (.ref a) H2) (fun _ _ _ => False)
theorem pe_oex {X : Cx} {CX : CXT} {x : Str} {C fI : Addr} {k : Nat} {fd : FuncData} {ps : List Str} {sp : Sp} {ds : List Value} {dvs : List V} {e : Expr} {es : List Expr} {ta : TA} {p pos : Pos}
    (T : OexC X.K C) (iC : PySem.W.findIn X.K (.ref C) "__init__" = some (some (.ref fI))) (tI : PySem.W.typeIn X.K (.ref fI) = some (.type "function"))
    (F1 : FnOk X.prog X.w X.K X.mg X.base CX k fI fd ps sp) (hr : Room (k + 1) X.A) (hb : L2.Binds X.K fd ps ds) (hd : Vals dvs ds) (hx : Passes CX X (fun _ _ _ => False)) (hg : Gl X x) (hm : X.mg x = some (.ref C)) (ha : PA X (e :: es) ta)
    (hdb : (x == ("__debug__" : Str)) = false := by decide) (he : starEach (e :: es) X.env = (false, eval e X.env) :: starEach es X.env := by rfl) (hpl : (backTo pos (starEach es X.env)).any (·.1) = false := by rfl) :
    PE X (.Call (.Name x p) (e :: es) [] pos) (tOex C sp dvs ta) := by
  refine ⟨fun pins s σ H Q I h => ?_⟩
  obtain ⟨nm, q, N, bs, bm, sn, sub, ab, col, dd, k0, k1, k2, k3, k5, hC, hbm⟩ := T.cls
  refine wpAny_Call_Name_kw (ld_glob I hg hm ?_ hdb)
  refine PySem.W.callWith_K (h₀ := X.base) I.ok.mod.kin T.kC (thn (ha.run pos pins s σ H _ I h) fun us s1 ⟨vs, H1, I1, r1, hz, q1⟩ => ⟨I1.kIn, ?_⟩) he hpl
  show wpAny _ _ (call (.ref C) us) _ _ _
  obtain ⟨hp, g, dr, tk, os⟩ := s1
  have hsz : hp.objs.size ≤ hp.objs.size + 1 := Nat.le_succ _
  have hn : H1 (hp.objs.size + 1) = none := I1.hok.fresh hsz
  have hq := q1 (hp.objs.size + 1) hn
  have hget : ((hp.push (PySem.W.kdv_tup us)).push (PySem.HandSPX.excO C hp.objs.size)).get? (hp.objs.size + 1) = some (PySem.HandSPX.excO C hp.objs.size) := by heap_get
  have I2 : Inv X pins σ (upd H1 (hp.objs.size + 1) (exo (hp.objs.size + 1) C none)) ⟨(hp.push (PySem.W.kdv_tup us)).push (PySem.HandSPX.excO C hp.objs.size), g, dr, tk, os⟩ :=
    I1.laid (t' := tk) (fun b o z => Heap.get?_push_of_some _ (Heap.get?_push_of_some _ z)) hsz (exo_ok hget)
  have r2 : Vals (V.ref (hp.objs.size + 1) :: (vs ++ dvs)) (Value.ref (hp.objs.size + 1) :: (us ++ ds)) := .cons rfl (r1.append hd)
  have hl : (Value.ref (hp.objs.size + 1) :: us ++ ds).length = ps.length := r2.length.symm.trans (F1.len _ _ _ _ hq)
  have hus : us.length ≤ sizeLine := by
    have z := Paired.length r1
    rw [sizeLine_eq]
    omega
  refine wpAny_call (PySem.HandSPX.call_own F.excBase_ValueError (fun Y => PySem.HandSPX.refsVE_contains Y bm hbm) (I1.kIn _ _ hC) (PySem.W.looks_findIn I1.kIn iC) (fun self => PySem.W.bind_fn I1.kIn self tI) hus
    (codeAny_mono (F1.run _ X.stack _ _ ⟨Value.ref (hp.objs.size + 1) :: us, []⟩ (Value.ref (hp.objs.size + 1) :: (us ++ ds)) _ _ (fun _ _ _ => False) (hr.make C us []) (I2.env0.make C us []) (hb _ (Value.ref (hp.objs.size + 1) :: us) I2.kIn hl) r2 hq) fun r s' hq' => ?_))
  cases r with
  | error er => exact hx pins σ _ _ er s' I2 hq'
  | ok fl =>
    cases fl with
    | ret u =>
      obtain ⟨v, H2, J, rv, ev, q2⟩ := I2.after hq'
      subst ev
      exact ⟨rv, .ref (hp.objs.size + 1), H2, J, rfl, q2⟩
    | next => exact False.elim hq'
    | brk => exact False.elim hq'
    | cont => exact False.elim hq'
end SA
set_option Elab.async false
set_option linter.all false
set_option maxRecDepth 100000
set_option maxHeartbeats 4000000
namespace SA
open PySem PySem.Spec PyProof.Rows L2
/-! ### the law's def, entered where no repr is under way -/
/-- what the law's def does when the claim's caller calls it -/
def LawRun (P : Program) (w : World) (K : PySem.W.Frag) (mg : Str → Option Value) (base : Heap) (fa : Addr) (n : Nat) : Prop :=
  ∀ (s : Shared) (H : Hp) (a : Addr) (ns : List Int), Env0 P w K mg base callerA [] s H → SqL K H a (ns.map V.int) → ns.length ≤ n →
    codeAny (model P w) callerA (.call (.ref fa) ⟨[.ref a], []⟩) (CR CX0 [] P w H s (fun v _ => v = .bl true) E0) s
section
variable {P : Program} {w : World} {K : PySem.W.Frag} {mg mb : Str → Option Value} {fa a : Addr} {s : Shared} {vs : List Value} {ns : List Int} {n : Nat}
abbrev Done (s : Shared) : Result → Shared → Prop := fun r s' => r = .ok (.ret (.bool true)) ∧ OldK s.heap s'.heap ∧ s'.os = s.os ∧ AllBare s'.gens
/-- from an abstract heap in which at most the script is tracked -/
theorem law_from (KX : K.In s.heap) (hns : s.heap.Ns mainGlobals mg) (hb : s.heap.Ns builtinsNs mb) (hbb : ∀ x : Str, x ≠ "__name__" → mb x = bootBuiltins x) (hlim : s.heap.NoLimit) (hg : s.gens = #[])
    (ha : s.heap.get? a = some { cls := .type "list", data := .seq vs.toArray }) (hn : ns.length ≤ n) (F : ∀ base : Heap, K.In base → base.Ns mainGlobals mg → LawRun P w K mg base fa n)
    (H : Hp) (hO : Only H) (hS : SqL K H a (ns.map V.int)) (hok : HOk P w H s.heap) (hA : ∀ b, H b ≠ none → b = a) (hK : H a ≠ none → K.lookup a = none) : codeAny (model P w) callerA (.call (.ref fa) ⟨[.ref a], []⟩) (Done s) s := by
  have only : ∀ {b : Addr}, b ≠ a → H b = none := fun {b} nb => by
    cases q : H b with
    | none => rfl
    | some u => exact absurd (hA b (by rw [q]; simp)) nb
  have nsd : ∀ {b : Addr} {m : Str → Option Value}, s.heap.Ns b m → (hidT s.heap H).Ns b m := fun {b m} z => by
    obtain ⟨o, es, ep, e, d, r⟩ := z
    refine ⟨o, es, ep, hidT_get e (only fun eb => ?_), d, r⟩
    rw [eb, ha] at e
    cases e
    cases d
  have kin : K.In (hidT s.heap H) := fun b o e => hidT_get (KX b o e) (by
    by_cases eb : b = a
    · cases q : H b with
      | none => rfl
      | some u =>
        have z := hK (by rw [← eb, q]; simp)
        rw [← eb, e] at z
        cases z
    · exact only eb)
  have env : Env0 P w K mg (hidT s.heap H) callerA [] s H :=
    ⟨rfl, ⟨kin, nsd hns, ⟨mb, nsd hb, hbb⟩, let ⟨mc, h1, h2⟩ := hlim; ⟨mc, nsd h1, h2⟩⟩, fun b o e => of_hidT e, Nat.le_of_eq (hidT_size _ _), trivial, fun b z => absurd (show b ∈ ([] : List Addr) from z) (by simp), hok, .of_eq hg⟩
  refine codeAny_mono (F _ kin (nsd hns) s H a ns env hS hn) fun r s' h => ?_
  match r, h with
  | .error _, h => exact False.elim h
  | .ok .next, h => exact False.elim h
  | .ok .brk, h => exact False.elim h
  | .ok .cont, h => exact False.elim h
  | .ok (.ret u), ⟨v, H', os, bare, un, hok', rv, q⟩ =>
    have ev : v = .bl true := q
    subst ev
    obtain rfl : u = Value.bool true := rv
    refine ⟨rfl, OldK.of_keep fun b o e => ?_, os, bare⟩
    rcases hO b with z | ⟨ob, xs, z⟩
    · exact un.keep b o e z (fun y => absurd (show b ∈ ([] : List Addr) from y) (by simp)) (by simp)
    · obtain ⟨e1, _⟩ := hok b _ z
      obtain ⟨e2, _⟩ := hok' b _ (un.frzs b ob _ z)
      rw [e] at e1
      cases e1
      exact e2
theorem law_callG (KX : K.In s.heap) (hns : s.heap.Ns mainGlobals mg) (hb : s.heap.Ns builtinsNs mb) (hbb : ∀ x : Str, x ≠ "__name__" → mb x = bootBuiltins x) (hlim : s.heap.NoLimit) (hg : s.gens = #[])
    (ha : s.heap.get? a = some { cls := .type "list", data := .seq vs.toArray }) (hi : IntsAre vs ns) (hl : ns.length ≤ sizeLine) (hn : ns.length ≤ n) (F : ∀ base : Heap, K.In base → base.Ns mainGlobals mg → LawRun P w K mg base fa n) :
    codeAny (model P w) callerA (.call (.ref fa) ⟨[.ref a], []⟩) (Done s) s := by
  have rv := vals_ints hi
  cases hk : K.lookup a with
  | some o =>
    have e := KX a o hk
    rw [ha] at e
    cases e
    exact law_from KX hns hb hbb hlim hg ha hn F (fun _ => none) (fun _ => .inl rfl) (.inr ⟨_, vs.toArray, _, hk, rfl, rfl, rfl, by rw [List.size_toArray, hi.length]; exact hl, by simpa using rv⟩)
      (fun b u z => absurd (show (none : Option HO) = some u from z) (by simp)) (fun b z => absurd rfl z) fun z => absurd rfl z
  | none =>
    have at_ : ∀ b, (fun b => if b = a then some (HO.frz { cls := .type "list", data := .seq vs.toArray } (.lst (ns.map V.int))) else none : Hp) b ≠ none → b = a := fun b z => by
      by_cases hb : b = a
      · exact hb
      · exact absurd (if_neg hb) z
    refine law_from KX hns hb hbb hlim hg ha hn F (fun b => if b = a then some (.frz { cls := .type "list", data := .seq vs.toArray } (.lst (ns.map V.int))) else none) (fun b => ?_) (.inl (.inr ⟨_, if_pos rfl⟩)) (fun b u z => ?_) at_ fun _ => hk
    · by_cases hb : b = a
      · exact .inr ⟨_, _, if_pos hb⟩
      · exact .inl (if_neg hb)
    · have eb := at_ b (by rw [z]; simp)
      subst eb
      have z2 := (if_pos rfl).symm.trans z
      cases z2
      exact ⟨ha, by rw [List.length_map]; exact hl, vs, _, rv, ha⟩
end
/-- the goal that the head leaves, from what the law's def does -/
theorem walk_G {l : PySem.W.OpenLaw} {n : Nat} {q : Program} {loose : List Str} {XP : (Str → Option Value) → Heap → Prop} {YP : World → Heap → Prop} {d : DefRec} (hn : l.most = some n) (hn2 : n ≤ sizeLine) (hdf : d.params.defaults = [])
    (F : ∀ (w : World) (mg : Str → Option Value) (fa : Addr) (h : Heap), YP w h → h.Ns mainGlobals mg → mg d.name = some (.ref fa) →
      ∃ K : PySem.W.Frag, K.In h ∧ ∀ base : Heap, K.In base → base.Ns mainGlobals mg → LawRun l.prog w K mg base fa n) :
    PySem.W.WalkO q loose XP YP l.row.toRowW d [] (fun f vs => PySem.call f vs) := by
  refine Att.attach_call hn hdf fun w s₀ s₁ mg mb fa o pm cd doc a vs ns G Y ho hd hcd hmg hobj hints hlen hg => ?_
  obtain ⟨K, KX, hF⟩ := F w mg fa _ Y G.T.g hmg
  exact law_callG KX G.T.g G.T.b G.T.builtins G.T.nolimit hg hobj hints (Nat.le_trans hlen hn2) hlen hF
/-- LawRun from the body of the law's def -/
theorem law_run {P : Program} {w : World} {K : PySem.W.Frag} {mg : Str → Option Value} {base : Heap} {fa : Addr} {fd : FuncData} {st : Stmt} {N : List Str} {x : Str} {n k : Nat} (F : Fun K "law" "law" st fa fd) (S : FnScope N [x] (defScope st))
    (hb : ∀ (s : Shared) (u : Value), BindsTo s fd ⟨[u], []⟩ [(x, u)]) (hr : Room (k + 1) callerA)
    (body : ∀ (cdv : Value) (s : Shared) (H : Hp) (a : Addr) (ns : List Int), Room k (callerA.deeper (envOfC "law" (defScope st) s.heap.objs.size fa cdv)) → SqL K H a (ns.map V.int) → ns.length ≤ n →
      ∃ t, PSs (cxOf CX0 P w K mg base N "law" (defScope st) fa cdv callerA [] s H E0).nox (defBody st) t ∧ t { nx := fun _ _ => V.non = V.bl true, rt := fun v _ => v = .bl true } (start N [.ref a]) H) :
    LawRun P w K mg base fa n := by
  intro s H a ns env hS hn
  obtain ⟨oc, od, kV, doc, pm, an, cdv, ct, osl, rfl, lk, hcd⟩ := F.ex
  refine LamX.run_ofS (k := k) (N := N) (ps := [x]) (us := [.ref a]) (vs := [.ref a]) (Q := fun v _ => v = .bl true) (E := E0) lk hcd S hr env (hb s (.ref a)) (.cons rfl .nil) rfl fun hr' => ?_
  obtain ⟨t, h1, h2⟩ := body cdv s H a ns hr' hS hn
  exact ⟨t, h1.nox, h2⟩
theorem FunD.toFun {K : PySem.W.Frag} {x qual : Str} {st : Stmt} {f : Addr} {fd : FuncData} (F : FunD K x qual (defArgs st) (defBody st) (defScope st) [] [] f fd) : Fun K x qual st f fd := by
  obtain ⟨⟨oc, od, dV, kV, doc, pm, an, cdv, ct, osl, e, l, c, hD, hK⟩, kp⟩ := F
  rcases hD with ⟨_, rfl⟩ | ⟨z, _⟩
  · exact ⟨⟨oc, od, kV, doc, pm, an, cdv, ct, osl, e, l, c⟩, kp⟩
  · exact absurd rfl z
end SA
set_option Elab.async false
set_option linter.all false
set_option maxRecDepth 100000
set_option maxHeartbeats 4000000
/-! ### a caught exception that outlives its except suite -/
namespace SA
open PySem PySem.Spec PyProof.Rows L2
/-- at a stands an exception of the class cls, its dict at d, that was caught -/
def HX (cls : Value) (d : Option Addr) (a : Addr) : HO := .ext fun h => ∃ (oe : Obj) (vs : Array Value), h.get? a = some oe ∧ Zc cls d oe ∧ oe.data = .fields vs
theorem hx_ok {P : Program} {w : World} {H : Hp} {h : Heap} {a : Addr} {cls : Value} {d : Option Addr} {oe : Obj} {vs : Array Value} (e : h.get? a = some oe) (z : Zc cls d oe) (q : oe.data = .fields vs) : ObjOk P w H h a (HX cls d a) :=
  ⟨⟨oe, vs, e, z, q⟩, ⟨oe, e⟩, fun _ _ ⟨o, v, q, r⟩ k => ⟨o, v, k o q, r⟩⟩
section
variable {X : Cx} {pins : List (Addr × Obj)} {σ : L2.St} {H : Hp} {s : Shared}
theorem Inv.track {a : Addr} {o : HO} (I : Inv X pins σ H s) (hn : H a = none) (h0 : X.s_0.heap.get? a = none) (nL : a ≠ X.env.locals) (nC : ∀ x c, X.env.cells.lookup x = some c → c ≠ a) (nP : ∀ p ∈ X.pn ++ pins, p.1 ≠ a) (new : ObjOk X.prog X.w (upd H a o) s.heap a o) :
    Inv X pins σ (upd H a o) s := by
  have up : ∀ {b : Addr} {u : HO}, H b = some u → upd H a o b = some u := fun {b u} e => by
    rw [upd_ne (ne_of_none e hn)]
    exact e
  refine ⟨I.ok, I.os, I.bare, ⟨I.base.keep, I.base.slot, fun b u e n hx => ?_, I.base.there, fun b xs e => up (I.base.tups b xs e), fun b u v e => up (I.base.frzs b u v e), fun b ps e => ?_⟩, I.loc, I.cell, ?_, fun x c e => ?_, fun p hp => ?_, ?_, I.len⟩
  · rw [upd_ne (fun z => by rw [z, h0] at e; cases e)]
    exact I.base.free b u e n hx
  · obtain ⟨more, q⟩ := I.base.tbls b ps e
    exact ⟨more, up q⟩
  · rw [upd_ne nL.symm]
    exact I.free
  · rw [upd_ne (nC x c e)]
    exact I.freeC x c e
  · obtain ⟨e, n, q⟩ := I.pin p hp
    refine ⟨e, ?_, q⟩
    rw [upd_ne (nP p hp)]
    exact n
  · exact I.hok.laidN (fun _ _ e => e) hn new
/-- an object of fields is no frame -/
theorem fields_noframe {B h : Heap} {l : List Env} {a : Addr} {o : Obj} {vs : Array Value} (ff : h.FunFrames B l) (e : h.get? a = some o) (d : o.data = .fields vs) : a ∉ frs l := fun m => by
  obtain ⟨_, o2, e2, z⟩ := ff.mem m
  cases e.symm.trans e2
  exact z _ d
/-- an exception that came up within is new to the def: no frame, no pin, nothing that stood at the entry -/
structure NewX (X : Cx) (pins : List (Addr × Obj)) (a : Addr) : Prop where
  nloc : a ≠ X.env.locals
  nfs : a ∉ X.fs
  old : X.s_0.heap.get? a = none
  npin : ∀ p ∈ X.pn ++ pins, p.1 ≠ a
theorem newX {B h : Heap} {a : Addr} {o : Obj} {vs : Array Value} {sI : Shared} (hs : X.stack = X.env :: X.outer) (hf : X.env.frame = some X.env.locals) (hex : X.ex = []) (J : Inv X pins σ H sI)
    (nb : ∀ b u, sI.heap.get? b = some u → b ∉ frs X.stack → B.get? b = some u) (hB : B.get? a = none) (ff : h.FunFrames B (X.env :: X.outer)) (e : h.get? a = some o) (d : o.data = .fields vs) : NewX X pins a := by
  have nf := fields_noframe ff e d
  have gone : ∀ u, sI.heap.get? a ≠ some u := fun u q => by
    have z := nb a u q (hs ▸ nf)
    rw [hB] at z
    cases z
  refine ⟨fun z => nf (List.mem_filterMap.mpr ⟨X.env, List.mem_cons_self, z ▸ hf⟩), fun m => ?_, ?_, fun p hp z => gone _ (z ▸ (J.pin p hp).1)⟩
  · obtain ⟨v, hv, q⟩ := List.mem_filterMap.mp m
    exact nf (List.mem_filterMap.mpr ⟨v, List.mem_cons_of_mem _ hv, q⟩)
  · match q : X.s_0.heap.get? a with
    | none => rfl
    | some u =>
      obtain ⟨u', q'⟩ := J.base.there a u q (hex ▸ List.not_mem_nil)
      exact (gone u' q').elim
/-- what the clause 'except x as n' wishes whose suite keeps the exception: behind the suite it stands at a, told by HX -/
def wHold (K : PySem.W.Frag) (c : Value) (m i : Nat) (ts : Addr → Value → Option Addr → TS) (Wout : WX) (D : Ends) : WX := fun cls d σ H =>
  ∃ b, PySem.W.exmOne K cls c = some b ∧ (b = false → Wout cls d σ H) ∧
    (b = true → σ.length = m → ∀ a, H a = none → ts a cls d { nx := fun σ1 H1 => D.nx (σ1.set i none) (upd H1 a (HX cls d a)), rt := fun _ _ => False, bk := fun _ _ => False, ct := fun _ _ => False } (σ.set i (some (.ref a))) H)
end
section
variable {X : Cx} {x n : Str} {c : Value} {i : Nat} {body suite : List Stmt} {b₀ : Stmt} {np p1 p2 : Pos} {tb : WX → TS} {ts : Addr → Value → Option Addr → TS} {Wout : WX}
/-- try: body / except x as n: suite, the suite neither returning nor leaving a loop: the exception may be kept under another name -/
theorem ps_try_hold (hs : X.stack = X.env :: X.outer) (hf : X.env.frame = some X.env.locals) (hex : X.ex = []) (hN : X.N.Nodup) (hi : X.N[i]? = some n) (hln : X.env.kindOf n = some .local) (hc : Names X x c) (tk : Takes X Wout)
    (hb : ∀ (W : WX) (pn : List (Addr × Obj)) (xe : Value → Shared → Prop), Takes (X.tr pn xe) W → PassesOwn (model X.prog X.w) X.A X.env xe → PSs (X.tr pn xe) body (tb W))
    (hsu : ∀ (a : Addr) (oe : Obj) (cls : Value) (d : Option Addr) (pn : List (Addr × Obj)), Zc cls d oe → (∃ vs, oe.data = .fields vs) → PSs (X.suite a ((a, oe) :: pn)) (b₀ :: suite) (ts a cls d)) :
    PS X (.Try body [.ExceptHandler (some (.Name x np)) (some n) (b₀ :: suite) p1] [] [] p2) (fun D σ H => tb (wHold X.K c X.N.length i ts Wout D) D σ H) := ⟨fun pins s σ H D I hw => by
  have ok := I.ok
  have fr : X.A.frames = some (X.env :: X.outer) := hs ▸ ok.frames
  -- what is done with an exception that the body lets out
  let caught : Value → Shared → Prop := fun e t1 => wpAny (model X.prog X.w) X.A (noteFrame e X.env) (fun _ t2 => wpAny (model X.prog X.w) X.A (setFlight e none) (fun _ t3 => wpAny (model X.prog X.w) X.A (handleBy e X.env [.ExceptHandler (some (.Name x np)) (some n) (b₀ :: suite) p1]) (SP X pins D) X.xe t3) X.xe t2) X.xe t1
  have takes : Takes (X.tr (X.pn ++ pins) caught) (wHold X.K c X.N.length i ts Wout D) := fun u t ⟨a, B, sI, _, σ1, H1, cls, d, eu, I1, nb, up, sky, na, os, ag, b, hcls, hno, hyes⟩ => by
    subst eu
    have J : Inv X pins σ1 H1 sI := I1.ofTry ok
    refine Sky.land Zc.steady fr hf (show Sky B (X.env :: X.outer) a (Zc cls d) X.env.locals t.heap from hs ▸ sky) fun h3 fl3 up3 => ?_
    obtain ⟨o3, v3, g3, z3, d3⟩ := fl3.there
    have nx := newX hs hf hex J nb fl3.2.1 fl3.2.2.1 g3 d3
    have J3 : Inv X pins σ1 H1 { t with heap := h3 } := J.landed nb fl3.1 (up.trans up3) os ag
    have T3 := J3.suite g3 d3 na nx.nloc nx.nfs
    have cl : PySem.W.Looks (model X.prog X.w) h3 (typeOf (.ref a)) cls := fun _ _ _ t' k q => wpAny_typeOf_ref (k _ _ g3) (z3.1.symm ▸ q)
    refine wpAny_handleBy_cons (codeAny_handlers_test ?_) (fun q => nomatch q)
    have named : ∀ {Q E : Value → Shared → Prop}, Q c { t with heap := h3 } → wpAny (model X.prog X.w) (X.A.mark (some (.ref a))) (eval (.Name x np) X.env) Q E { t with heap := h3 } := fun q => by
      obtain ⟨hg, hdb, hm⟩ := hc
      rcases hm with hm | ⟨hm, hv, hnn⟩
      · exact ld_glob (X := X.suite a ((a, o3) :: (X.pn ++ pins))) T3 hg hm q hdb
      · exact ld_blt (X := X.suite a ((a, o3) :: (X.pn ++ pins))) T3 hg hm hv q hnn hdb
    refine named ((PySem.W.exm_one (M := model X.prog X.w) J3.kIn cl hcls).here ?_)
    match b, hno, hyes with
    | false, hno, _ =>
      show wpAny _ X.A (handleBy (.ref a) X.env []) _ _ _
      obtain ⟨_, _, _, oe, vs, T, _, _, g, _, dd, h1, _⟩ := id fl3
      have out : wpAny (model X.prog X.w) X.A (setFlight (.ref a) X.env.frame) (fun _ t4 => wpAny (model X.prog X.w) X.A (throw (.ref a) : Sem Flow) (SP X pins D) X.xe t4) X.xe { t with heap := h3 } := by
        rw [hf]
        refine HandSPX.setFlight_upZ fl3 fun h4 k4 up4 => wpAny_throw (tk _ _ ⟨a, B, sI, pins, σ1, H1, cls, d, rfl, J, nb, (up.trans up3).trans up4, .inr (.inr (hs ▸ k4)), na, os, ag, hno rfl⟩)
      refine wpAny_handleBy_nil ?_
      unfold PySem.passOn
      refine wpAny_bind (wpAny_field g dd h1 ?_)
      rw [if_neg (show ¬ ((Value.ref T == Value.none) = true) from by simp)]
      first
        | exact wpAny_bind out
        | exact wpAny_bind (wpAny_pure (wpAny_bind out))
    | true, _, hyes =>
      refine codeAny_handlers_suite_as (HandSPX.lands_againZ fl3 fun h4 fl4 up4 => ?_)
      obtain ⟨o4, v4, g4, z4, d4⟩ := fl4.there
      have J4 : Inv X pins σ1 H1 { t with heap := h4 } := J.landed nb fl4.1 ((up.trans up3).trans up4) os ag
      refine store_ok (X := X.suite a ((a, o4) :: (X.pn ++ pins))) (v := .ref a) (J4.suite g4 d4 na nx.nloc nx.nfs) hN hi (.inl hln) rfl (fun s5 T5 => ?_) (.inr hln)
      refine wpAny_mono ((hsu a o4 cls d (X.pn ++ pins) z4 ⟨_, d4⟩).run [] s5 _ H1 _ T5 (hyes rfl J.len a na)) (fun f s6 q => ?_) (fun _ _ z => z.elim)
      match f, q with
      | .brk, ⟨_, _, _, z⟩ => exact z.elim
      | .cont, ⟨_, _, _, z⟩ => exact z.elim
      | .ret _, ⟨_, _, _, _, _, z⟩ => exact z.elim
      | .next, ⟨σ6, H6, T6, q6⟩ =>
        refine gone_ok (X := X.suite a ((a, o4) :: (X.pn ++ pins))) T6 hN hi hln fun s7 T7 => ?_
        obtain ⟨g7, n7, _, _, c7⟩ := T7.pin (a, o4) (by rw [List.append_nil]; exact List.mem_cons_self)
        have J7 : Inv X pins (σ6.set i none) H6 s7 := T7.unsuite ok
        refine ⟨_, _, Inv.track J7 n7 nx.old nx.nloc (fun y c' e z => ?_) nx.npin (hx_ok g7 z4 d4), q6⟩
        obtain ⟨v, o, ho, hd⟩ := J7.cell y c' e
        rw [z] at ho
        cases g7.symm.trans ho
        exact c7 v hd
  refine wpAny_Try_except (wpAny_mono ((hb _ (X.pn ++ pins) caught takes PassesOwn.looking).run [] s σ H D (I.toTry _) hw) (fun f s1 q => ?_) fun e s1 q => q)
  match f, q with
  | .next, ⟨_, _, T, q⟩ => exact wpAny_execs_nil ⟨_, _, T.ofTry ok, q⟩
  | .brk, ⟨_, _, T, q⟩ => exact ⟨_, _, T.ofTry ok, q⟩
  | .cont, ⟨_, _, T, q⟩ => exact ⟨_, _, T.ofTry ok, q⟩
  | .ret _, ⟨_, _, _, T, r, q⟩ => exact ⟨_, _, _, T.ofTry ok, r, q⟩⟩
end
section
variable {X : Cx}
/-- it is an instance of its class -/
theorem HX.inst {pins : List (Addr × Obj)} {σ : L2.St} {H : Hp} {s : Shared} {a C : Addr} {d : Option Addr} (I : Inv X pins σ H s) (h : H a = some (HX (.ref C) d a)) (hd : ∀ dx, d = some dx → ∃ fs, H dx = some (.xd fs)) : ∃ ox od, PySem.W.InstAt s.heap a ox C od ∧
    (∀ dx fs, d = some dx → H dx = some (.xd fs) → ∃ o mA, od = some o ∧ s.heap.Ns1 dx mA ∧ s.heap.get? dx = some o ∧ ∀ f, RelO (fs.lookup f) (mA f)) := by
  obtain ⟨⟨oe, vs, e, z, dt⟩, _⟩ := I.hok a _ h
  have hnc : PySem.W.notCls oe = true := by
    unfold PySem.W.notCls
    rw [dt] <;> rfl
  cases d with
  | none =>
    refine ⟨oe, none, ⟨e, z.1, hnc, ?_⟩, fun dx fs q => by cases q⟩
    rw [z.2]
    trivial
  | some dx =>
    obtain ⟨fs, hx⟩ := hd dx rfl
    obtain ⟨mA, hns, hr⟩ := I.hok dx _ hx
    obtain ⟨od, ho, hlk⟩ := lookIn_ns hns
    refine ⟨oe, some od, ⟨e, z.1, hnc, ?_⟩, fun dx' fs' q hx' => ?_⟩
    · rw [z.2]
      exact ho
    · cases q
      rw [hx] at hx'
      cases hx'
      exact ⟨od, mA, rfl, hns, ho, hr⟩
end
end SA
set_option Elab.async false
set_option linter.all false
set_option maxRecDepth 100000
set_option maxHeartbeats 4000000
/-! ### what is asked of a caught exception -/
namespace SA
open PySem PySem.Spec PyProof.Rows L2
section
variable {X : Cx}
/-- isinstance(e, c), e a caught exception -/
def rIsH (K : PySem.W.Frag) : List V → Hp → VK → Prop := fun xs H Q => ∃ (a D : Addr) (d : Option Addr) (c : V) (cv : Value) (b : Bool), xs = [.ref a, c] ∧ ClsV c cv ∧ H a = some (HX (.ref D) d a) ∧ (∀ dx, d = some dx → ∃ fs, H dx = some (.xd fs)) ∧ ExcC K D ∧ PySem.W.kitOne K (.ref D) cv = some b ∧ Q (.bl b) H
theorem call_isH : CallR X (.builtin "isinstance") (rIsH X.K) := by
  intro pins s σ H xs us Q I r h
  obtain ⟨a, D, d, c, cv, b, rfl, k, hx, hd, hC, e, q⟩ := h
  obtain ⟨u1, u2, rfl, r1, r2⟩ := vals2 r
  have e2 := k.eq r2
  subst e2
  obtain rfl : u1 = Value.ref a := r1
  obtain ⟨ox, od, J, _⟩ := HX.inst I hx hd
  exact PySem.W.kia_one (kit_exc hC) I.kIn J e (fun z => nomatch z) fun tk => ⟨.bl b, H, I.kept (t' := tk) fun _ _ z => z, rfl, q⟩
/-- e.f, e a caught exception whose dict is told -/
def tHfld (K : PySem.W.Frag) (te : TE) (f : Str) : TE := fun σ H Q => te σ H fun x H1 => ∃ (a C dx : Addr) (fs : List (Str × V)) (v : V), x = .ref a ∧ H1 a = some (HX (.ref C) (some dx) a) ∧ H1 dx = some (.xd fs) ∧ XfC K C ∧
  PySem.W.findIn K (.ref C) f = some none ∧ fs.lookup f = some v ∧ Q v H1
theorem pe_hfld {e : Expr} {te : TE} {f : Str} {pos : Pos} (he : PE X e te) (hb : attributeBase e f X.env (eval e X.env) = eval e X.env := by rfl) : PE X (.Attribute e f pos) (tHfld X.K te f) := by
  refine ⟨fun pins s σ H Q I h => ?_⟩
  refine attr_of hb (thn (he.run pins s σ H _ I h) fun u s1 hh => ?_)
  obtain ⟨x, H1, I1, rx, a, C, dx, fs, v, ex, h1, h2, T, hno, hl, q⟩ := hh
  subst ex
  obtain rfl : u = Value.ref a := rx
  obtain ⟨ox, od, J, g⟩ := HX.inst I1 h1 fun dx' e => ⟨fs, by cases e; exact h2⟩
  obtain ⟨o, mA, eo, hns, ho, hr⟩ := g dx fs rfl h2
  obtain ⟨o', ho', hlk⟩ := lookIn_ns hns
  rw [ho] at ho'
  cases ho'
  subst eo
  obtain ⟨w, hw, rw'⟩ := RelO.some_of (v := v) (o := mA f) (by rw [← hl]; exact hr f)
  exact HandSPX.exc_get I1.kIn J T.ga T.gg T.exC (PySem.W.findObj_own T.hdC hno rfl (by rw [hlk, hw])) (handed_of rw') ⟨v, H1, I1.tok _, rw', q⟩
end
end SA
set_option linter.all false
namespace K82
abbrev L := List Nat
/-- a list of binary digits, as codes -/
def IsB (l : L) : Prop := ∀ c ∈ l, c = 48 ∨ c = 49
def dv (c : Nat) : Nat := c - 48
def bval (l : L) : Nat := l.foldl (fun a c => 2 * a + dv c) 0
/-- binary digits of a number below 2^k, k of them -/
def bdig : Nat → Nat → L
  | 0, _ => []
  | k + 1, n => bdig k (n / 2) ++ [48 + n % 2]
theorem bdig_len : ∀ k n, (bdig k n).length = k
  | 0, _ => rfl
  | k + 1, n => by simp [bdig, bdig_len k]
theorem bdig_isB : ∀ k n, IsB (bdig k n)
  | 0, _ => by intro c h; simp [bdig] at h
  | k + 1, n => by
    intro c h
    simp only [bdig, List.mem_append, List.mem_singleton] at h
    rcases h with h | h
    · exact bdig_isB k _ c h
    · omega
theorem bval_snoc (l : L) (c : Nat) : bval (l ++ [c]) = 2 * bval l + dv c := by
  unfold bval; rw [List.foldl_append]; rfl
theorem bval_bdig : ∀ k n, n < 2 ^ k → bval (bdig k n) = n
  | 0, n, h => by
    simp at h; subst h; rfl
  | k + 1, n, h => by
    rw [bdig, bval_snoc, bval_bdig k (n / 2) (by rw [Nat.pow_succ] at h; omega)]
    unfold dv
    omega
/-- the first digit -/
theorem bdig_head : ∀ k n, 2 ^ k ≤ n → n < 2 ^ (k + 1) → ∃ r, bdig (k + 1) n = 49 :: r
  | 0, n, h1, h2 => by
    have : n = 1 := by simp at h1 h2; omega
    subst this
    exact ⟨[], rfl⟩
  | k + 1, n, h1, h2 => by
    obtain ⟨r, e⟩ := bdig_head k (n / 2) (by rw [Nat.pow_succ] at h1; omega) (by rw [Nat.pow_succ] at h2; omega)
    exact ⟨r ++ [48 + n % 2], by rw [bdig, e]; rfl⟩
/-- the bits of a count -/
def enc (n : Nat) : L := List.replicate (Nat.log2 (n + 1)) 48 ++ bdig (Nat.log2 (n + 1) + 1) (n + 1)
theorem log_le (n : Nat) : 2 ^ Nat.log2 (n + 1) ≤ n + 1 := Nat.log2_self_le (by omega)
theorem log_lt (n : Nat) : n + 1 < 2 ^ (Nat.log2 (n + 1) + 1) := Nat.lt_log2_self
theorem enc_len (n : Nat) : (enc n).length = 2 * Nat.log2 (n + 1) + 1 := by
  simp [enc, bdig_len]; omega
theorem enc_isB (n : Nat) : IsB (enc n) := by
  intro c h
  simp only [enc, List.mem_append] at h
  rcases h with h | h
  · exact .inl (List.eq_of_mem_replicate h)
  · exact bdig_isB _ _ c h
/-- how many 0 stand ahead -/
def zs (l : L) : Nat := (l.takeWhile (· == 48)).length
/-- what is read at the list's beginning: the count and how many signs it has -/
def dec (l : L) : Option (Nat × Nat) := if 2 * zs l + 1 ≤ l.length then some (bval ((l.drop (zs l)).take (zs l + 1)) - 1, 2 * zs l + 1) else none
theorem zs_rep (k : Nat) (r : L) : zs (List.replicate k 48 ++ 49 :: r) = k := by
  unfold zs
  induction k with
  | zero => simp
  | succ k ih => simp [List.replicate_succ]
theorem zs_all (k : Nat) : zs (List.replicate k 48) = k := by
  unfold zs
  induction k with
  | zero => simp
  | succ k ih => simp [List.replicate_succ]
theorem zs_le (l : L) : zs l ≤ l.length := by
  unfold zs
  induction l with
  | nil => simp
  | cons c l ih => rw [List.takeWhile_cons]; split <;> simp <;> omega
theorem dec_enc (n : Nat) (back : L) : dec (enc n ++ back) = some (n, (enc n).length) := by
  obtain ⟨r, e⟩ := bdig_head (Nat.log2 (n + 1)) (n + 1) (log_le n) (log_lt n)
  have h1 : enc n ++ back = List.replicate (Nat.log2 (n + 1)) 48 ++ 49 :: (r ++ back) := by
    unfold enc; rw [e]; simp
  have hz : zs (enc n ++ back) = Nat.log2 (n + 1) := by rw [h1, zs_rep]
  have hr : r.length = Nat.log2 (n + 1) := by
    have := congrArg List.length e
    rw [bdig_len] at this; simp at this; omega
  unfold dec
  rw [hz, if_pos (by rw [List.length_append, enc_len]; omega), enc_len]
  congr 2
  rw [h1, List.drop_left' (by simp)]
  have : (49 :: (r ++ back)).take (Nat.log2 (n + 1) + 1) = 49 :: r := by
    rw [List.take_succ_cons, List.take_left' hr]
  rw [this, ← e, bval_bdig _ _ (log_lt n)]
  rfl
theorem dec_cut (n c : Nat) (h : c < (enc n).length) : dec ((enc n).take c) = none := by
  have hl := enc_len n
  obtain ⟨r, e⟩ := bdig_head (Nat.log2 (n + 1)) (n + 1) (log_le n) (log_lt n)
  unfold dec
  rw [if_neg]
  have hlen : ((enc n).take c).length = c := by rw [List.length_take]; omega
  rw [hlen]
  by_cases hc : c ≤ Nat.log2 (n + 1)
  · have : (enc n).take c = List.replicate c 48 := by
      unfold enc
      rw [List.take_append_of_le_length (by simp; exact hc), List.take_replicate, Nat.min_eq_left hc]
    rw [this, zs_all]; omega
  · have : (enc n).take c = List.replicate (Nat.log2 (n + 1)) 48 ++ 49 :: r.take (c - Nat.log2 (n + 1) - 1) := by
      unfold enc
      rw [e, List.take_append, List.length_replicate, List.take_of_length_le (by simp; omega)]
      congr 1
      obtain ⟨j, hj⟩ : ∃ j, c - Nat.log2 (n + 1) = j + 1 := ⟨c - Nat.log2 (n + 1) - 1, by omega⟩
      rw [hj, List.take_succ_cons]; rfl
    rw [this, zs_rep]; omega
/-- any number's bits -/
def zig (i : Int) : Nat := if 0 ≤ i then (2 * i).toNat else (-2 * i - 1).toNat
def zag (n : Nat) : Int := if n % 2 = 0 then (n / 2 : Nat) else -(((n + 1) / 2 : Nat) : Int)
theorem zag_zig (i : Int) : zag (zig i) = i := by
  unfold zag zig
  split <;> split <;> omega
/-- Python's binary digits -/
theorem toDig : ∀ (k n : Nat), 2 ^ k ≤ n → n < 2 ^ (k + 1) → (Nat.toDigits 2 n).map Char.toNat = bdig (k + 1) n
  | 0, n, h1, h2 => by
    have : n = 1 := by simp at h1 h2; omega
    subst this
    decide
  | k + 1, n, h1, h2 => by
    have hn : 2 ≤ n := by rw [Nat.pow_succ] at h1; have := Nat.one_le_two_pow (n := k); omega
    rw [Nat.toDigits_of_base_le (by decide) hn, List.map_append, toDig k (n / 2) (by rw [Nat.pow_succ] at h1; omega) (by rw [Nat.pow_succ] at h2; omega)]
    rw [bdig]
    congr 1
    rcases (show n % 2 = 0 ∨ n % 2 = 1 by omega) with h | h <;> rw [h] <;> decide
theorem toDig0 : (Nat.toDigits 2 0).map Char.toNat = [48] := by decide
end K82
set_option Elab.async false
set_option linter.all false
set_option maxHeartbeats 4000000
namespace K82
open PySem PySem.Builtin PySem.Builtin.Str
/-! ### one sign's places in a text -/
abbrev one (c : Nat) : Str := ⟨#[c]⟩
abbrev tl (z : Str) : L := z.cps.toList
theorem hit {x : Str} {c i : Nat} : (i + (one c).length ≤ x.length ∧ subAt x (one c) i = true) ↔ (tl x)[i]? = some c := StrLaws.subAt_one x c i
/-- the loop over all places: what is found -/
theorem occ_list (x : Str) (c : Nat) (lim : Nat) : ∀ (n a : Nat) (st : Array Nat × Nat), st.2 ≤ a →
    (forIn (List.range' a n) st (StrLaws.occBody x (one c) x.length lim)).run.fst.toList = st.1.toList ++ (((List.range' a n).filter fun i => decide ((tl x)[i]? = some c)).take (lim - st.1.size))
  | 0, a, st, h => by simp
  | n + 1, a, st, h => by
    rw [List.range'_succ, List.forIn_cons]
    unfold StrLaws.occBody
    by_cases hc : (tl x)[a]? = some c
    · have hh := hit.mpr hc
      by_cases hs : st.fst.size < lim
      · rw [if_pos ⟨⟨⟨hs, h⟩, hh.1⟩, hh.2⟩]
        show (forIn (List.range' (a + 1) n) (st.fst.push a, a + (one c).length) (StrLaws.occBody x (one c) x.length lim)).run.fst.toList = _
        rw [occ_list x c lim n (a + 1) (st.fst.push a, a + (one c).length) (Nat.le_refl _)]
        obtain ⟨k, hk⟩ : ∃ k, lim - st.fst.size = k + 1 := ⟨lim - st.fst.size - 1, by omega⟩
        rw [List.filter_cons_of_pos (by simpa using hc), hk, List.take_succ_cons]
        simp only [Array.toList_push, Array.size_push, List.append_assoc, List.singleton_append]
        congr 3
        omega
      · rw [if_neg (fun z => hs z.1.1.1)]
        show (forIn (List.range' (a + 1) n) (st.fst, st.snd) (StrLaws.occBody x (one c) x.length lim)).run.fst.toList = _
        rw [occ_list x c lim n (a + 1) (st.fst, st.snd) (by show st.snd ≤ a + 1; omega)]
        have : lim - st.fst.size = 0 := by omega
        rw [this]
        simp
    · rw [if_neg (fun z => hc (hit.mp ⟨z.1.2, z.2⟩))]
      show (forIn (List.range' (a + 1) n) (st.fst, st.snd) (StrLaws.occBody x (one c) x.length lim)).run.fst.toList = _
      rw [occ_list x c lim n (a + 1) (st.fst, st.snd) (by show st.snd ≤ a + 1; omega), List.filter_cons_of_neg (by simpa using hc)]
theorem occ_one (x : Str) (c lo lim : Nat) : occurrences x (one c) lo x.length lim = ((List.range' lo (x.length + 1 - lo)).filter fun i => decide ((tl x)[i]? = some c)).take lim := by
  rw [StrLaws.occ_eq, occ_list x c lim (x.length + 1 - lo) lo (#[], lo) (Nat.le_refl _)]
  simp
/-- the places of a sign in a list, from a on -/
theorem filt (l : L) (c : Nat) : ∀ (n a : Nat), (((List.range' a n).filter fun i => decide (l[i]? = some c)).map fun i => i) = (((List.range' a n).filter fun i => decide (l[i]? = some c))) := by intros; simp
theorem cnt_list (c : Nat) : ∀ (l pre : L), ((List.range' pre.length (l.length + 1)).filter fun i => decide ((pre ++ l)[i]? = some c)).length = l.count c
  | [], pre => by simp [List.range'_succ]
  | d :: l, pre => by
    rw [List.length_cons, List.range'_succ]
    have ih := cnt_list c l (pre ++ [d])
    rw [List.length_append, List.length_singleton, List.append_assoc, List.singleton_append] at ih
    by_cases h : d = c
    · subst h
      rw [List.filter_cons_of_pos (by simp), List.length_cons, ih, List.count_cons_self]
    · rw [List.filter_cons_of_neg (by simp [h]), ih, List.count_cons_of_ne h]
theorem count_one (x : Str) (c : Nat) : Txt.count x (one c) = (((tl x).count c : Nat) : Int) := by
  unfold Txt.count
  rw [occ_one, List.take_of_length_le]
  · have := cnt_list c (tl x) []
    simp only [List.length_nil, List.nil_append] at this
    rw [← this]
    rfl
  · refine Nat.le_trans (List.length_filter_le _ _) ?_
    rw [List.length_range']
    omega
theorem first_list (c : Nat) : ∀ (l pre : L), ((List.range' pre.length (l.length + 1)).filter fun i => decide ((pre ++ l)[i]? = some c)).take 1 = if c ∈ l then [pre.length + (l.takeWhile (· != c)).length] else []
  | [], pre => by simp [List.range'_succ]
  | d :: l, pre => by
    rw [List.length_cons, List.range'_succ]
    have ih := first_list c l (pre ++ [d])
    rw [List.length_append, List.length_singleton, List.append_assoc, List.singleton_append] at ih
    by_cases h : d = c
    · subst h
      rw [List.filter_cons_of_pos (by simp)]
      simp
    · rw [List.filter_cons_of_neg (by simp [h]), ih]
      have h2 : ¬ c = d := fun e => h e.symm
      by_cases hm : c ∈ l
      · rw [if_pos hm, if_pos (List.mem_cons_of_mem _ hm), List.takeWhile_cons, if_pos (by simp [h])]
        simp only [List.length_cons]
        congr 1
        omega
      · rw [if_neg hm, if_neg (by simp [h2, hm])]
theorem find_one (x : Str) (c n : Nat) (hn : n ≤ x.length) : Txt.find3 x (one c) (n : Int) = if c ∈ (tl x).drop n then ((n + (((tl x).drop n).takeWhile (· != c)).length : Nat) : Int) else -1 := by
  have h1 : fromIndex x.length (n : Int) = n := by
    unfold fromIndex
    rw [if_neg (by omega)]
    omega
  unfold Txt.find3
  rw [h1, occ_one]
  have hl : ((tl x).take n).length = n := by rw [List.length_take]; exact Nat.min_eq_left hn
  have := first_list c ((tl x).drop n) ((tl x).take n)
  rw [List.take_append_drop, hl, List.length_drop] at this
  have e : (tl x).length - n + 1 = x.length + 1 - n := by show x.length - n + 1 = _; omega
  rw [e] at this
  rw [this]
  by_cases h : c ∈ (tl x).drop n
  · rw [if_pos h, if_pos h]
  · rw [if_neg h, if_neg h]
end K82
set_option Elab.async false
set_option linter.all false
set_option maxRecDepth 100000
set_option maxHeartbeats 4000000
namespace K82
open PySem PySem.Spec PyProof.Rows L2
open PySem.NumText PySem.Calls
/-! ### int(t, 2) -/
theorem dig2 {c : Nat} (h : c = 48 ∨ c = 49) : digit? c = some (dv c) := by
  rcases h with rfl | rfl <;> decide
theorem step2 {ds : Array Nat} {b : Bool} {c : Nat} (h : c = 48 ∨ c = 49) : PySem.NumText.step 2 (ds, b) c = some (ds.push (dv c), true) := by
  unfold PySem.NumText.step
  rw [if_neg (by rw [beq_iff_eq]; omega), dig2 h]
  exact if_pos (by unfold dv; omega)
theorem fold2 : ∀ (cs : List Nat) (ds : Array Nat), IsB cs → cs.foldlM (PySem.NumText.step 2) (ds, true) = some (cs.foldl (fun acc c => acc.push (dv c)) ds, true)
  | [], _, _ => rfl
  | c :: cs, ds, h => by
    rw [List.foldlM_cons, step2 (h c (List.mem_cons_self ..))]
    show cs.foldlM (PySem.NumText.step 2) (ds.push (dv c), true) = _
    exact fold2 cs (ds.push (dv c)) fun d hd => h d (List.mem_cons_of_mem _ hd)
theorem digits2 {cs : List Nat} (h : IsB cs) (hne : cs ≠ []) : digits? 2 cs = some (cs.foldl (fun acc c => acc.push (dv c)) #[]) := by
  cases cs with
  | nil => exact absurd rfl hne
  | cons c cs =>
    unfold digits?
    rw [List.foldlM_cons, step2 (h c (List.mem_cons_self ..))]
    show (cs.foldlM (PySem.NumText.step 2) ((#[] : Array Nat).push (dv c), true)).bind _ = _
    rw [fold2 cs _ fun d hd => h d (List.mem_cons_of_mem _ hd)]
    rfl
theorem push2 : ∀ (cs : List Nat) (ds : Array Nat), (cs.foldl (fun acc c => acc.push (dv c)) ds).foldl (fun acc d => acc * 2 + d) 0 = cs.foldl (fun a c => 2 * a + dv c) (ds.foldl (fun acc d => acc * 2 + d) 0)
  | [], _ => rfl
  | c :: cs, ds => by
    rw [List.foldl_cons, push2 cs (ds.push (dv c)), List.foldl_cons]
    congr 1
    simp
    omega
theorem dropB2 {cs : List Nat} (h : IsB cs) : cs.dropWhile blank = cs := by
  cases cs with
  | nil => rfl
  | cons c cs => exact dropWhile_of (by have := h c (List.mem_cons_self ..); omega)
theorem sign2 {cs : List Nat} (h : IsB cs) : sign cs = (false, cs) := by
  cases cs with
  | nil => rfl
  | cons c cs =>
    have := h c (List.mem_cons_self ..)
    exact sign_of (by omega) (by omega)
theorem pref2 {cs : List Nat} (h : IsB cs) : NumText.prefix? cs = none := by
  match cs, h with
  | [], _ => rfl
  | [a], _ =>
    unfold NumText.prefix?
    split
    · rename_i e
      cases e
    · rfl
  | a :: c :: r, h =>
    have hc := h c (List.mem_cons_of_mem _ (List.mem_cons_self ..))
    by_cases ha : a = 48
    · subst ha
      have e : NumText.prefix? (48 :: c :: r) = if (c == 120 || c == 88) = true then some 16 else if (c == 111 || c == 79) = true then some 8 else if (c == 98 || c == 66) = true then some 2 else none := rfl
      rw [e, if_neg (by rw [Bool.or_eq_true, beq_iff_eq, beq_iff_eq]; omega), if_neg (by rw [Bool.or_eq_true, beq_iff_eq, beq_iff_eq]; omega), if_neg (by rw [Bool.or_eq_true, beq_iff_eq, beq_iff_eq]; omega)]
    · unfold NumText.prefix?
      split
      · rename_i e
        exact absurd (List.cons.inj e).1 ha
      · rfl
theorem based2 {cs : List Nat} (h : IsB cs) : based 2 cs = (2, false, cs) := by
  unfold based
  rw [pref2 h]
  rfl
theorem read2 {cs : List Nat} (h : IsB cs) (hne : cs ≠ []) : (int_private% "readNumeral") 0 2 cs = (int_private% "Numeral.value") ((bval cs : Nat) : Int) := by
  have hr : IsB cs.reverse := fun c hc => h c (List.mem_reverse.mp hc)
  refine (readNumeral_eq 0 2 cs).trans ?_
  rw [dropB2 h, sign2 h]
  show judge 0 false (based 2 cs).1 (based 2 cs).2.1 (digits? (based 2 cs).1 (((based 2 cs).2.2.reverse.dropWhile blank).reverse)) = _
  rw [based2 h]
  show judge 0 false 2 false (digits? 2 ((cs.reverse.dropWhile blank).reverse)) = _
  rw [dropB2 hr, List.reverse_reverse, digits2 h hne]
  show (int_private% "Numeral.value") (((cs.foldl (fun acc c => acc.push (dv c)) (#[] : Array Nat)).foldl (fun acc d => acc * 2 + d) 0 : Nat) : Int) = _
  have z : (#[] : Array Nat).foldl (fun acc d => acc * 2 + d) 0 = 0 := by first | rfl | simp
  rw [push2, z] <;> rfl
theorem seen2 {x : Str} (h : IsB x.cps.toList) : numTextOf x = x.cps.toList ∧ numSeenOf x = x.cps.toList := by
  have e1 : numTextOf x = x.cps.toList := by
    refine if_pos ?_
    rw [← Array.all_toList, List.all_eq_true]
    intro c hc
    have := h c hc
    exact decide_eq_true (by omega)
  refine ⟨e1, ?_⟩
  show (numTextOf x).takeWhile _ = _
  rw [e1]
  refine takeWhile_all fun c hc => ?_
  have := h c hc
  exact bne_iff_ne.mpr (by omega)
theorem gives2 {x : PySem.Str} {u t : Tok} (hl : x.length ≤ 640) (h : IsB x.cps.toList) (hne : x.cps.toList ≠ []) :
    Gives (Builtin.«int.__new__» ⟨[.type "int", .str x u, .int 2 t], []⟩) (.int ((bval x.cps.toList : Nat) : Int)) :=
  .of_wp fun M A E s Q hQ => by
    obtain ⟨hp, g, d, tk, os⟩ := s
    have f1 := F.conv_sub_int
    have f2 := F.madeHere_int
    have f6 : typeOf (.str x u) = pure (.type "str") := rfl
    obtain ⟨e1, e2⟩ := seen2 h
    have hs : (numSeenOf x).length ≤ 640 := by
      rw [e2, Array.length_toList]
      exact hl
    have hr : (int_private% "readNumeral") 0 2 (numSeenOf x) = (int_private% "Numeral.value") ((bval x.cps.toList : Nat) : Int) := by
      rw [e2]
      exact read2 h hne
    have ha : ((numSeenOf x).length == (numTextOf x).length) = true := by
      rw [e1, e2]
      exact beq_self_eq_true _
    have hk := Hx.Hid.mk (And.intro hs (And.intro hr ha))
    clear hs hr ha e1 e2 hl hne h
    repeat (any_goals (first
      | assumption
      | ((with_reducible show wpAny _ _ ((int_private% "intFromText") _ _ _) _ _ _); refine Hx.wp_textB hk.out.1 hk.out.2.1 hk.out.2.2 ?_)
      | wp_step))
    all_goals first | exact ⟨_, rfl, hQ⟩ | skip
theorem call2 {prog : Program} {w : World} {A : Around} {E : Value → Shared → Prop} {s : Shared} {Q : Value → Shared → Prop} {x : PySem.Str} {u t : Tok} (hl : x.length ≤ 640) (h : IsB x.cps.toList) (hne : x.cps.toList ≠ [])
    (hQ : Q (.int ((bval x.cps.toList : Nat) : Int) s.toks) { s with toks := s.toks + 1 }) : wpAny (model prog w) A (call (.type "int") [.str x u, .int 2 t]) Q E s :=
  callType_new F.called_int F.newNe_int (Hx.typeCall_int_2 _ _) (Hx.newCall_int_2 _ _) (fun obj => F.initArgs_range_2 obj _ _) F.entry_int_new (gives2 hl h hne).meets (show (Made.int ((bval x.cps.toList : Nat) : Int)).post _ s from ⟨rfl, hQ⟩)
/-- int(t, 2) -/
def rIntBin : List V → Hp → VK → Prop := fun xs H Q => ∃ x : Str, xs = [.str x, .int 2] ∧ tl x ≠ [] ∧ x.length ≤ 640 ∧ IsB (tl x) ∧ Q (.int ((bval (tl x) : Nat) : Int)) H
theorem call_int_bin {X : Cx} : CallR X (.type "int") rIntBin := by
  intro pins s σ H xs us Q I r h
  obtain ⟨x, rfl, hne, hl, hx, q⟩ := h
  obtain ⟨u, w', rfl, r1, r2⟩ := vals2 r
  obtain ⟨t1, rfl⟩ := r1
  obtain ⟨t2, rfl⟩ := r2
  exact call2 hl hx hne ⟨.int ((bval (tl x) : Nat) : Int), H, I.tok _, ⟨_, rfl⟩, q⟩
/-! ### text * int -/
theorem op_mul_str {X : Cx} : OpR X (binaryOp .Mult) (fun x y H Q => ∃ (a : Str) (k : Int), x = .str a ∧ y = .int k ∧ MulOk a k ∧ Q (.str (Txt.mul a k)) H) := by
  intro pins s σ H x y u v Q I r1 r2 h
  obtain ⟨a, k, rfl, rfl, hm, q⟩ := h
  obtain ⟨t1, rfl⟩ := r1
  obtain ⟨t2, rfl⟩ := r2
  refine SB.mul hm fun t' tk => ⟨.str (Txt.mul a k), H, I.tok _, ⟨_, rfl⟩, q⟩
theorem rep_cat (c : Nat) : ∀ (n : Nat) (acc : Array Nat), (List.replicate n (#[c] : Array Nat)).foldl (· ++ ·) acc = (acc.toList ++ List.replicate n c).toArray
  | 0, acc => by simp
  | n + 1, acc => by
    rw [List.replicate_succ, List.foldl_cons, rep_cat c n]
    simp [List.replicate_succ]
theorem mul_one (c n : Nat) : Txt.mul (one c) (n : Int) = ⟨(List.replicate n c).toArray⟩ := by
  unfold Txt.mul
  by_cases h0 : n = 0
  · subst h0
    rfl
  · rw [if_neg (by omega)]
    by_cases h1 : n = 1
    · subst h1
      rfl
    · rw [if_neg]
      · rw [Int.toNat_natCast, rep_cat]
        simp
      · have : ¬ ((n : Int) == 1) = true := by rw [beq_iff_eq]; omega
        simp only [Bool.or_eq_true, not_or]
        exact ⟨this, fun z => by cases (show (false : Bool) = true from z)⟩
theorem mul_ok (c n : Nat) (h : n ≤ 100000) : MulOk (one c) (n : Int) := by
  refine ⟨?_, fun h1 h2 => ?_, fun h1 h2 => ?_⟩
  · rw [Bool.or_eq_false_iff, decide_eq_false_iff_not, decide_eq_false_iff_not]
    omega
  · show ¬ ((1 : Nat) : Int) > (2 ^ 63 - 1) / (n : Int)
    have : (1 : Int) ≤ (2 ^ 63 - 1) / (n : Int) := by
      rw [Int.le_ediv_iff_mul_le (by omega)]
      omega
    omega
  · show Builtin.Str.tooLong (1 * (n : Int).toNat) = false
    unfold Builtin.Str.tooLong
    rw [decide_eq_false_iff_not]
    have := sizeLine_eq
    omega
end K82
set_option Elab.async false
set_option linter.all false
set_option maxRecDepth 100000
set_option maxHeartbeats 4000000
namespace K82
open PySem PySem.Spec PyProof.Rows L2
open Builtin Builtin.Str Builtin.Int Builtin.Float
/-! ### f'{n:b}' -/
def binS (n : Nat) : Str := ⟨((Nat.toDigits 2 n).map Char.toNat).toArray⟩
theorem gives_afterCut {n : Nat} {a : Int} {t : Tok} {k : String → Sem Fin} {m : Made} (g : Gives (k "int") m) : Gives (do let n ← typeNameOfCut n (.int a t); k n) m :=
  fun prog w A R s hq => wpAny_bind (wpAny_typeNameOfCut_int (g prog w A R s hq))
abbrev sB : Str := ⟨#[98]⟩
theorem sB_eq : Str.ofString "b" = sB := by decide +kernel
theorem parse_b (name : String) : parseFormatSpec sB.cps.toList name 62 = .ok { align := 62, type := some 98 } := rfl
theorem field_b (ds : List Nat) : intField' { align := 62, type := some 98 } false [] ds [] 4 = ⟨ds.toArray⟩ := by
  unfold intField'
  cases ds with
  | nil => rfl
  | cons d ds =>
    have h : ((-1 : Int) - (0 : Int) - (((d :: ds).length : Nat) : Int)).toNat = 0 := by omega
    simp
    omega
theorem gr {x y : Str} (h : x = y) : Gives (retStr x) (.str y) := h ▸ .of_eq rfl
theorem gives_b (n : Nat) (t u : Tok) : Gives («int.__format__» ⟨[.int (n : Int) t, .str sB u], []⟩) (.str (binS n)) := by
  show Gives (do let _k ← typeNameOf (.str sB u); (do let name ← typeNameOfCut 200 (.int (n : Int) t); retStr _)) _
  refine gives_after_typeNameOf (T := "str") (fun s => typeIs_str s _ _) (by decide) fun _ => ?_
  refine gives_afterCut (gr ?_)
  have h0 : decide ((n : Int) < 0) = false := by rw [decide_eq_false_iff_not]; omega
  unfold binS
  rw [h0, show ((n : Int)).natAbs = n from rfl]
  generalize Nat.toDigits 2 n = ds
  clear h0
  rw [← field_b]
  rfl
section
variable {X : Cx}
/-- {n:b} in an f-string, n from 0 on -/
def tFmtB (te : TE) : TE := fun σ H Q => te σ H fun x H1 => ∃ n : Nat, x = .int (n : Int) ∧ (binS n).length ≤ 1000 ∧ Q (.str (binS n)) H1
theorem pe_fmtB {e : Expr} {te : TE} {p3 : Pos} (he : PE X e te) {sp : Expr} (hs : PE X sp (tC (.str (Str.ofString "b")))) : PE X (.FormattedValue e (-1) (some sp) p3) (tFmtB te) := by
  rw [sB_eq] at hs
  refine ⟨fun pins s σ H Q I h => ?_⟩
  refine wpAny_FormattedValue_spec (thn (he.run pins s σ H _ I h) fun v s1 hv => ?_)
  obtain ⟨x, H1, I1, r1, n, rfl, hl, q⟩ := hv
  obtain ⟨t, rfl⟩ := r1
  refine thn (hs.run pins s1 σ H1 (fun v H2 => v = .str sB ∧ H2 = H1) I1 ⟨rfl, rfl⟩) fun v2 s2 hv2 => ?_
  obtain ⟨y, H2, I2, r2, rfl, rfl⟩ := hv2
  obtain ⟨t2, rfl⟩ := r2
  have hz := sizeLine_eq
  exact ⟨sB, t2, rfl, wpAny_formatField_spec (T := "int") rfl (fun s' => typeIs_int s' _ t) F.slot_int_format F.entry_int_format F.args_int_format_2 (fun u => gives_b n t u) ⟨.str (binS n), H2, I2.tok _, ⟨_, rfl⟩, q⟩ (by show 1 ≤ sizeLine; omega) (by omega)⟩
end
theorem binS_tl (n : Nat) : tl (binS (n + 1)) = bdig (Nat.log2 (n + 1) + 1) (n + 1) := by
  show ((Nat.toDigits 2 (n + 1)).map Char.toNat).toArray.toList = _
  rw [List.toList_toArray]
  exact toDig _ _ (log_le n) (log_lt n)
end K82
set_option Elab.async false
set_option linter.all false
set_option maxRecDepth 100000
set_option maxHeartbeats 4000000
namespace SA
open PySem PySem.Spec PyProof.Rows L2
def topS (i : Nat) : Stmt := PySem.Challenge.pw_stopanywhere_k82_numbers_in_bits.main.body.getD i (.Pass ⟨0, 0, 0, 0⟩)
def clsB : Stmt → List Stmt
  | .ClassDef _ _ _ b .. => b
  | _ => []
def inClass (s : Stmt) (i : Nat) : Stmt := (clsB s).getD i (.Pass ⟨0, 0, 0, 0⟩)
abbrev s_is_number : Stmt := topS 1
abbrev n_is_number : List Str := ["thing"]
theorem sc_is_number : FnScope n_is_number ["thing"] (defScope s_is_number) := ⟨rfl, rfl, rfl, by decide +kernel, rfl, by decide +kernel, by decide +kernel⟩
abbrev s_is_number_between : Stmt := topS 2
abbrev n_is_number_between : List Str := ["thing", "low", "high"]
theorem sc_is_number_between : FnScope n_is_number_between ["thing", "low", "high"] (defScope s_is_number_between) := ⟨rfl, rfl, rfl, by decide +kernel, rfl, by decide +kernel, by decide +kernel⟩
abbrev s_BadBits___init__ : Stmt := inClass (topS 6) 0
abbrev n_BadBits___init__ : List Str := ["self", "at"]
theorem sc_BadBits___init__ : FnScope n_BadBits___init__ ["self", "at"] (defScope s_BadBits___init__) := ⟨rfl, rfl, rfl, by decide +kernel, rfl, by decide +kernel, by decide +kernel⟩
abbrev s_is_bit_string : Stmt := topS 8
abbrev n_is_bit_string : List Str := ["thing"]
theorem sc_is_bit_string : FnScope n_is_bit_string ["thing"] (defScope s_is_bit_string) := ⟨rfl, rfl, rfl, by decide +kernel, rfl, by decide +kernel, by decide +kernel⟩
abbrev s_bits_of_count : Stmt := topS 9
abbrev n_bits_of_count : List Str := ["number", "written"]
theorem sc_bits_of_count : FnScope n_bits_of_count ["number"] (defScope s_bits_of_count) := ⟨rfl, rfl, rfl, by decide +kernel, rfl, by decide +kernel, by decide +kernel⟩
abbrev s_bits_of_number : Stmt := topS 10
abbrev n_bits_of_number : List Str := ["number"]
theorem sc_bits_of_number : FnScope n_bits_of_number ["number"] (defScope s_bits_of_number) := ⟨rfl, rfl, rfl, by decide +kernel, rfl, by decide +kernel, by decide +kernel⟩
abbrev s_count_at : Stmt := topS 11
abbrev n_count_at : List Str := ["bits", "at", "first", "behind"]
theorem sc_count_at : FnScope n_count_at ["bits", "at"] (defScope s_count_at) := ⟨rfl, rfl, rfl, by decide +kernel, rfl, by decide +kernel, by decide +kernel⟩
abbrev s_number_at : Stmt := topS 12
abbrev n_number_at : List Str := ["bits", "at", "told", "count", "behind"]
theorem sc_number_at : FnScope n_number_at ["bits", "at"] (defScope s_number_at) := ⟨rfl, rfl, rfl, by decide +kernel, rfl, by decide +kernel, by decide +kernel⟩
abbrev s_count_bits : Stmt := topS 14
abbrev n_count_bits : List Str := ["number"]
theorem sc_count_bits : FnScope n_count_bits ["number"] (defScope s_count_bits) := ⟨rfl, rfl, rfl, by decide +kernel, rfl, by decide +kernel, by decide +kernel⟩
abbrev s_number_bits : Stmt := topS 15
abbrev n_number_bits : List Str := ["number"]
theorem sc_number_bits : FnScope n_number_bits ["number"] (defScope s_number_bits) := ⟨rfl, rfl, rfl, by decide +kernel, rfl, by decide +kernel, by decide +kernel⟩
abbrev s_read_count : Stmt := topS 16
abbrev n_read_count : List Str := ["bits", "at"]
theorem sc_read_count : FnScope n_read_count ["bits", "at"] (defScope s_read_count) := ⟨rfl, rfl, rfl, by decide +kernel, rfl, by decide +kernel, by decide +kernel⟩
abbrev s_read_number : Stmt := topS 17
abbrev n_read_number : List Str := ["bits", "at"]
theorem sc_read_number : FnScope n_read_number ["bits", "at"] (defScope s_read_number) := ⟨rfl, rfl, rfl, by decide +kernel, rfl, by decide +kernel, by decide +kernel⟩
abbrev s__check_place : Stmt := topS 18
abbrev n__check_place : List Str := ["bits", "at"]
theorem sc__check_place : FnScope n__check_place ["bits", "at"] (defScope s__check_place) := ⟨rfl, rfl, rfl, by decide +kernel, rfl, by decide +kernel, by decide +kernel⟩
abbrev s__check_bits : Stmt := topS 19
abbrev n__check_bits : List Str := ["bits"]
theorem sc__check_bits : FnScope n__check_bits ["bits"] (defScope s__check_bits) := ⟨rfl, rfl, rfl, by decide +kernel, rfl, by decide +kernel, by decide +kernel⟩
abbrev s__law_begun : Stmt := topS 21
abbrev n__law_begun : List Str := ["script", "wide", "cell"]
theorem sc__law_begun : FnScope n__law_begun ["script"] (defScope s__law_begun) := ⟨rfl, rfl, rfl, by decide +kernel, rfl, by decide +kernel, by decide +kernel⟩
abbrev s__law_mixed : Stmt := topS 22
abbrev n__law_mixed : List Str := ["draw", "turn", "found", "prime", "blend", "cell"]
theorem sc__law_mixed : FnScope n__law_mixed ["draw"] (defScope s__law_mixed) := ⟨rfl, rfl, rfl, by decide +kernel, rfl, by decide +kernel, by decide +kernel⟩
abbrev s__law_take : Stmt := topS 23
abbrev n__law_take : List Str := ["draw", "many", "found"]
theorem sc__law_take : FnScope n__law_take ["draw", "many"] (defScope s__law_take) := ⟨rfl, rfl, rfl, by decide +kernel, rfl, by decide +kernel, by decide +kernel⟩
abbrev s__law_pick : Stmt := topS 24
abbrev n__law_pick : List Str := ["draw", "some"]
theorem sc__law_pick : FnScope n__law_pick ["draw", "some"] (defScope s__law_pick) := ⟨rfl, rfl, rfl, by decide +kernel, rfl, by decide +kernel, by decide +kernel⟩
abbrev s__law_figure : Stmt := topS 25
abbrev n__law_figure : List Str := ["draw", "way"]
theorem sc__law_figure : FnScope n__law_figure ["draw"] (defScope s__law_figure) := ⟨rfl, rfl, rfl, by decide +kernel, rfl, by decide +kernel, by decide +kernel⟩
abbrev s__law_digits : Stmt := topS 26
abbrev n__law_digits : List Str := ["number", "many", "found", "left", "k"]
theorem sc__law_digits : FnScope n__law_digits ["number", "many"] (defScope s__law_digits) := ⟨rfl, rfl, rfl, by decide +kernel, rfl, by decide +kernel, by decide +kernel⟩
abbrev s__law_count : Stmt := topS 27
abbrev n__law_count : List Str := ["number", "many", "left"]
theorem sc__law_count : FnScope n__law_count ["number"] (defScope s__law_count) := ⟨rfl, rfl, rfl, by decide +kernel, rfl, by decide +kernel, by decide +kernel⟩
abbrev s__law_signed : Stmt := topS 28
abbrev n__law_signed : List Str := ["number"]
theorem sc__law_signed : FnScope n__law_signed ["number"] (defScope s__law_signed) := ⟨rfl, rfl, rfl, by decide +kernel, rfl, by decide +kernel, by decide +kernel⟩
abbrev s__law_bits : Stmt := topS 29
abbrev n__law_bits : List Str := ["draw", "most", "many", "slow", "k"]
theorem sc__law_bits : FnScope n__law_bits ["draw", "most"] (defScope s__law_bits) := ⟨rfl, rfl, rfl, by decide +kernel, rfl, by decide +kernel, by decide +kernel⟩
abbrev s__law_read : Stmt := topS 30
abbrev n__law_read : List Str := ["bits", "at", "first", "behind"]
theorem sc__law_read : FnScope n__law_read ["bits", "at"] (defScope s__law_read) := ⟨rfl, rfl, rfl, by decide +kernel, rfl, by decide +kernel, by decide +kernel⟩
abbrev s__law_value : Stmt := topS 31
abbrev n__law_value : List Str := ["bits", "found", "sign"]
theorem sc__law_value : FnScope n__law_value ["bits"] (defScope s__law_value) := ⟨rfl, rfl, rfl, by decide +kernel, rfl, by decide +kernel, by decide +kernel⟩
abbrev s__law_outcome : Stmt := topS 32
abbrev n__law_outcome : List Str := ["work", "things", "error", "told", "e"]
theorem sc__law_outcome : FnScope n__law_outcome ["work", "things"] (defScope s__law_outcome) := ⟨rfl, rfl, rfl, by decide +kernel, rfl, by decide +kernel, by decide +kernel⟩
abbrev s__law_edge : Stmt := topS 33
abbrev n__law_edge : List Str := ["draw", "power", "k", "number"]
theorem sc__law_edge : FnScope n__law_edge ["draw"] (defScope s__law_edge) := ⟨rfl, rfl, rfl, by decide +kernel, rfl, by decide +kernel, by decide +kernel⟩
abbrev s__law_signed_at : Stmt := topS 34
abbrev n__law_signed_at : List Str := ["bits", "at", "told"]
theorem sc__law_signed_at : FnScope n__law_signed_at ["bits", "at"] (defScope s__law_signed_at) := ⟨rfl, rfl, rfl, by decide +kernel, rfl, by decide +kernel, by decide +kernel⟩
abbrev s__law_written_right : Stmt := topS 35
abbrev n__law_written_right : List Str := ["draw", "number", "due", "front", "back", "many", "at", "whole", "cut", "spot"]
theorem sc__law_written_right : FnScope n__law_written_right ["draw", "number"] (defScope s__law_written_right) := ⟨rfl, rfl, rfl, by decide +kernel, rfl, by decide +kernel, by decide +kernel⟩
abbrev s__law_refused : Stmt := topS 36
abbrev n__law_refused : List Str := ["draw", "bad", "bits", "strange", "at", "work"]
theorem sc__law_refused : FnScope n__law_refused ["draw"] (defScope s__law_refused) := ⟨rfl, rfl, rfl, by decide +kernel, rfl, by decide +kernel, by decide +kernel⟩
abbrev s_law : Stmt := topS 37
abbrev n_law : List Str := ["script", "draw", "turn", "bits", "spot"]
theorem sc_law : FnScope n_law ["script"] (defScope s_law) := ⟨rfl, rfl, rfl, by decide +kernel, rfl, by decide +kernel, by decide +kernel⟩
end SA
set_option Elab.async false
set_option linter.all false
set_option maxRecDepth 100000
set_option maxHeartbeats 4000000
namespace SA
open PySem PySem.Spec PyProof.Rows L2
/-! ### the draw -/
abbrev kW : Key := Sum.inr "wide"
abbrev kC : Key := Sum.inr "cells"
abbrev kR : Key := Sum.inr "rest"
abbrev kT : Key := Sum.inr "turn"
theorem kWC : ¬ kW = kC := by decide +kernel
theorem kWR : ¬ kW = kR := by decide +kernel
theorem kWT : ¬ kW = kT := by decide +kernel
theorem kCR : ¬ kC = kR := by decide +kernel
theorem kCT : ¬ kC = kT := by decide +kernel
theorem kRT : ¬ kR = kT := by decide +kernel
def dkv (w c : Addr) (r t : Int) : List (Key × V) := [(kW, .ref w), (kC, .ref c), (kR, .int r), (kT, .int t)]
theorem dkv_w (w c : Addr) (r t : Int) : valV (dkv w c r t) kW = some (.ref w) := valV_pos rfl
theorem dkv_c (w c : Addr) (r t : Int) : valV (dkv w c r t) kC = some (.ref c) := (valV_neg kWC).trans (valV_pos rfl)
theorem dkv_r (w c : Addr) (r t : Int) : valV (dkv w c r t) kR = some (.int r) := (valV_neg kWR).trans ((valV_neg kCR).trans (valV_pos rfl))
theorem dkv_t (w c : Addr) (r t : Int) : valV (dkv w c r t) kT = some (.int t) := (valV_neg kWT).trans ((valV_neg kCT).trans ((valV_neg kRT).trans (valV_pos rfl)))
theorem get_w {H : Hp} {d w c : Addr} {r t : Int} (e : H d = some (.dK (dkv w c r t))) : DGet H d (.str "wide") (some (.ref w)) := dkv_w w c r t ▸ DGet.k (k := kW) e
theorem get_c {H : Hp} {d w c : Addr} {r t : Int} (e : H d = some (.dK (dkv w c r t))) : DGet H d (.str "cells") (some (.ref c)) := dkv_c w c r t ▸ DGet.k (k := kC) e
theorem get_r {H : Hp} {d w c : Addr} {r t : Int} (e : H d = some (.dK (dkv w c r t))) : DGet H d (.str "rest") (some (.int r)) := dkv_r w c r t ▸ DGet.k (k := kR) e
theorem get_t {H : Hp} {d w c : Addr} {r t : Int} (e : H d = some (.dK (dkv w c r t))) : DGet H d (.str "turn") (some (.int t)) := dkv_t w c r t ▸ DGet.k (k := kT) e
theorem put3 {a b c d : Key} {va vb vc vd x : V} (h1 : ¬ a = c) (h2 : ¬ b = c) (h3 : ¬ c = d) : putK [(a, va), (b, vb), (c, vc), (d, vd)] c x = [(a, va), (b, vb), (c, x), (d, vd)] := by
  have h4 : ¬ d = c := fun e => h3 e.symm
  simp [putK, h1, h2, h4]
theorem put4 {a b c d : Key} {va vb vc vd x : V} (h1 : ¬ a = d) (h2 : ¬ b = d) (h3 : ¬ c = d) : putK [(a, va), (b, vb), (c, vc), (d, vd)] d x = [(a, va), (b, vb), (c, vc), (d, x)] := by
  simp [putK, h1, h2, h3]
theorem dkv_putR (w c : Addr) (r t x : Int) : putK (dkv w c r t) kR (.int x) = dkv w c x t := put3 kWR kCR kRT
theorem dkv_putT (w c : Addr) (r t x : Int) : putK (dkv w c r t) kT (.int x) = dkv w c r x := put4 kWT kCT kRT
theorem merge4 (a b c d : V) : mergeK [] [(kW, a), (kC, b), (kR, c), (kT, d)] = [(kW, a), (kC, b), (kR, c), (kT, d)] := by
  have h1 := kWC
  have h2 := kWR
  have h3 := kWT
  have h4 := kCR
  have h5 := kCT
  have h6 := kRT
  generalize kW = k1 at *
  generalize kC = k2 at *
  generalize kR = k3 at *
  generalize kT = k4 at *
  simp [mergeK, putK, h1, h2, h3, h4, h5, h6]
/-- the draw's dict at d, its lists at w and c; at most n turns so far -/
structure DrawAt (H : Hp) (d w c : Addr) (n : Nat) : Prop where
  dict : ∃ r t : Int, 0 ≤ t ∧ t ≤ n ∧ H d = some (.dK (dkv w c r t))
  wide : ∃ ws : List Int, H w = some (.lst (ws.map V.int))
  cells : ∃ cs : List Int, H c = some (.lst (cs.map V.int))
  ne : w ≠ c
theorem Same.new {H : Hp} {p : Addr} {o : HO} (h : H p = none) : Same H (upd H p o) := fun b x e => by
  rw [upd_ne (ne_of_none e h)]
  exact e
/-- a comprehension without an if -/
theorem yes {σ : L2.St} {H : Hp} {A B : Hp → Prop} (h : A H) : tYes σ H fun b H' => if b = true then A H' else B H' := by
  show (if true = true then A H else B H)
  rw [if_pos rfl]
  exact h
/-- all but d and w stand as they stood -/
def But2 (d w : Addr) (H H' : Hp) : Prop := ∀ b o, H b = some o → b ≠ d → b ≠ w → H' b = some o
theorem But2.refl (d w : Addr) (H : Hp) : But2 d w H H := fun _ _ e _ _ => e
theorem But2.trans {d w : Addr} {H H1 H2 : Hp} (a : But2 d w H H1) (b : But2 d w H1 H2) : But2 d w H H2 := fun x o e h1 h2 => b x o (a x o e h1 h2) h1 h2
theorem But2.d {d w : Addr} {H H' : Hp} {o : HO} (a : But2 d w H H') : But2 d w H (upd H' d o) := fun x u e h1 h2 => by rw [upd_ne h1]; exact a x u e h1 h2
theorem But2.w {d w : Addr} {H H' : Hp} {o : HO} (a : But2 d w H H') : But2 d w H (upd H' w o) := fun x u e h1 h2 => by rw [upd_ne h2]; exact a x u e h1 h2
theorem But2.new {d w p : Addr} {H H' : Hp} {o : HO} (a : But2 d w H H') (h : H' p = none) : But2 d w H (upd H' p o) := fun x u e h1 h2 => by
  have q := a x u e h1 h2
  rw [upd_ne (ne_of_none q h)]; exact q
theorem DrawAt.dw {H : Hp} {d w c : Addr} {n : Nat} (h : DrawAt H d w c n) : d ≠ w := by
  obtain ⟨⟨r, t, _, _, e⟩, ⟨ws, e2⟩, _, _⟩ := h
  exact ne_of e e2 (by intro z; cases z)
theorem DrawAt.dc {H : Hp} {d w c : Addr} {n : Nat} (h : DrawAt H d w c n) : d ≠ c := by
  obtain ⟨⟨r, t, _, _, e⟩, _, ⟨cs, e2⟩, _⟩ := h
  exact ne_of e e2 (by intro z; cases z)
/-- what is new is none of the three -/
theorem DrawAt.new {H : Hp} {d w c p : Addr} {n : Nat} {o : HO} (h : DrawAt H d w c n) (hp : H p = none) : DrawAt (upd H p o) d w c n := by
  obtain ⟨⟨r, t, a1, a2, e⟩, ⟨ws, e2⟩, ⟨cs, e3⟩, ne⟩ := h
  exact ⟨⟨r, t, a1, a2, by rw [upd_ne (ne_of_none e hp)]; exact e⟩, ⟨ws, by rw [upd_ne (ne_of_none e2 hp)]; exact e2⟩, ⟨cs, by rw [upd_ne (ne_of_none e3 hp)]; exact e3⟩, ne⟩
theorem DrawAt.mono {H : Hp} {d w c : Addr} {n m : Nat} (h : DrawAt H d w c n) (hn : n ≤ m) : DrawAt H d w c m := by
  obtain ⟨⟨r, t, a1, a2, e⟩, h2, h3, ne⟩ := h
  exact ⟨⟨r, t, a1, by omega, e⟩, h2, h3, ne⟩
theorem dp_ints {K : PySem.W.Frag} {H : Hp} : ∀ ns : List Int, DpAll K H (ns.map V.int) (ns.map PyData.int)
  | [] => .nil
  | n :: ns => .cons (.int n) (dp_ints ns)
theorem canLay_ints : ∀ ns : List Int, PyData.canLayAll0 (ns.map PyData.int) = true
  | [] => rfl
  | n :: ns => by
    rw [List.map_cons]
    simp only [PyData.canLayAll0, PyData.canLay0, canLay_ints ns, Bool.and_self]
theorem depth_ints : ∀ ns : List Int, (PyData.list (ns.map PyData.int)).depth ≤ 2 := by
  intro ns
  have h : ∀ l : List Int, PyData.depthAll (l.map PyData.int) = 0 := by
    intro l
    induction l with
    | nil => rfl
    | cons n l ih => rw [List.map_cons]; simp only [PyData.depthAll, PyData.depth, ih]; rfl
  simp only [PyData.depth, h]
  decide
theorem shaped_ints (ns : List Int) : SeqAt.shaped (.list (ns.map PyData.int)) = true := by
  show (PyData.canLay0 _ && decide _) = true
  rw [Bool.and_eq_true]
  refine ⟨?_, decide_eq_true (Nat.le_trans (depth_ints ns) (by decide))⟩
  simp only [PyData.canLay0, canLay_ints]
theorem seq0 {α : Type} (x : α) (xs : List α) : seqIndex? 0 (x :: xs).length = some 0 := by
  unfold seqIndex?
  simp
theorem DrawAt.setR {H : Hp} {d w c : Addr} {n : Nat} {r t x : Int} (h : DrawAt H d w c n) (e : H d = some (.dK (dkv w c r t))) : DrawAt (upd H d (.dK (dkv w c x t))) d w c n := by
  have h1 := h.dw
  have h2 := h.dc
  obtain ⟨⟨r', t', a1, a2, e'⟩, ⟨ws, e2⟩, ⟨cs, e3⟩, ne⟩ := h
  have et : t = t' := by
    rw [e] at e'
    injection e' with e'
    injection e' with e'
    have := congrArg (fun l => valV l kT) e'
    simp only [dkv_t] at this
    injection this with this
    injection this
  exact ⟨⟨x, t, by omega, by omega, upd_same⟩, ⟨ws, by rw [upd_ne h1.symm]; exact e2⟩, ⟨cs, by rw [upd_ne h2.symm]; exact e3⟩, ne⟩
/-- one more long number -/
def spMixed : Sp := fun vs H Q _ => ∃ (d w c : Addr) (n : Nat), vs = [.ref d] ∧ DrawAt H d w c n ∧ n < 2 ^ 40 ∧ ∀ (i : Int) (H' : Hp), DrawAt H' d w c (n + 1) → But2 d w H H' → Q (.int i) H'
/-- a number from 0 to many - 1 -/
def spTake : Sp := fun vs H Q _ => ∃ (d w c : Addr) (n : Nat) (m : Int), vs = [.ref d, .int m] ∧ DrawAt H d w c n ∧ n < 2 ^ 40 ∧ 0 < m ∧ m < 2 ^ 62 ∧ ∀ (i : Int) (H' : Hp), 0 ≤ i → i < m → DrawAt H' d w c (n + 1) → But2 d w H H' → Q (.int i) H'
section
variable {P : Program} {w0 : World} {K : PySem.W.Frag} {mg : Str → Option Value} {base : Heap}
theorem ok_take {f fM : Addr} {fd fdM : FuncData} (F : Fun K "_law_take" "_law_take" s__law_take f fd) (FM : Fun K "_law_mixed" "_law_mixed" s__law_mixed fM fdM) (bM : Binds K fdM ["draw"] []) (gM : mg "_law_mixed" = some (.ref fM)) (gi : mg "int" = none)
    (GM : FnOk P w0 K mg base CX0 1 fM fdM ["draw"] spMixed) : FnOk P w0 K mg base CX0 2 f fd ["draw", "many"] spTake := by
  refine F.ok sc__law_take (fun vs H Q E h => ?_) (fun cdv A outer s H vs Q E hr h => ?_)
  · obtain ⟨d, w, c, n, m, rfl, _⟩ := h
    rfl
  · obtain ⟨d, w, c, n, m, rfl, hD, hn, hm0, hm, k⟩ := h
    have hu := hu_of hr
    refine ⟨_, Evl.pss_cut (ps_if (pt_cmpR op_eq (pe_dget hu (pv 0) pe_str (fun _ _ => rfl)) pe_int (nomark _))
        (pss_one (ps_dput hu (pv 0) pe_str (pe_ifExp (pt_cmpR (op_neD hr.units) (pe_dget hu (pv 0) pe_str (fun _ _ => rfl)) (pe_lst pa_nil) (nomark _))
          (pe_bm PySem.F.plainAttrs_list PySem.F.slot_list_pop PySem.F.type_list_pop mt_popAt (pe_dget hu (pv 0) pe_str (fun _ _ => rfl)) (pa_cons pe_int pa_nil))
          (pe_call GM hr (by rfl) gM FM.kp bM .nil pass0 (pa_cons (pv 0) pa_nil))) rfl)) pss_nil)
      (pss_cons (ps_set (i := 2) sc__law_take.nd rfl (.inl rfl) (pe_op op_mod (pe_callTy call_int1 (by rfl) gi PySem.Pv.boot_int (pa_cons (pe_dget hu (pv 0) pe_str (fun _ _ => rfl)) pa_nil)) (pv 1)))
      (pss_cons (ps_dput hu (pv 0) pe_str (pe_op op_fdivW (pe_dget hu (pv 0) pe_str (fun _ _ => rfl)) (pv 1)) rfl)
      (pss_one (ps_ret (pv 2))))), ?_⟩
    obtain ⟨⟨r, t, ht0, htn, hd⟩, ⟨ws, hw⟩, ⟨cs, hc⟩, ne⟩ := id hD
    have hdw : d ≠ w := hD.dw
    refine ⟨fun σ H1 => σ = [some (.ref d), some (.int m), none] ∧ DrawAt H1 d w c (n + 1) ∧ But2 d w H H1, ?_, ?_⟩
    · refine ⟨_, rfl, d, _, rfl, get_r hd, rfl, _, rfl, ?_⟩
      refine ite2 (fun _ => ?_) (fun _ => ?_)
      · -- draw['wide'] != []
        refine ⟨_, rfl, d, _, rfl, get_w hd, Nat.zero_le _, fun p hp => ?_⟩
        have hd1 : (upd H p (.lst [])) d = some (.dK (dkv w c r t)) := by rw [upd_ne (ne_of_none hd hp)]; exact hd
        have hw1 : (upd H p (.lst [])) w = some (.lst (ws.map V.int)) := by rw [upd_ne (ne_of_none hw hp)]; exact hw
        have hD1 : DrawAt (upd H p (.lst [])) d w c n := hD.new hp
        refine ⟨_, _, .lst (SqL.of hw1) (dp_ints ws), .lst (SqL.of upd_same) .nil, shaped_ints ws, rfl, _, rfl, ?_⟩
        cases ws with
        | nil =>
          refine iteF ?_
          refine ⟨_, rfl, d, w, c, n, rfl, hD1, hn, fun i H2 hD2 b2 => ?_⟩
          obtain ⟨⟨r2, t2, a1, a2, e2⟩, q2, q3, q4⟩ := id hD2
          refine ⟨_, rfl, d, _, rfl, DPut.k (k := kR) e2 (by show 4 < sizeLine; decide), ?_⟩
          rw [dkv_putR]
          exact ⟨rfl, hD2.setR e2, ((But2.refl d w H).new hp |>.trans b2).d⟩
        | cons x ws =>
          refine iteT ?_
          refine ⟨_, rfl, d, _, rfl, get_w hd1, Or.inl ⟨rfl, _, SqL.of hw1⟩, w, _, 0, 0, _, rfl, rfl, hw1, by decide, by decide, seq0 _ _, rfl, ?_⟩
          have hd2 : ∀ o, (upd (upd H p (.lst [])) w o) d = some (.dK (dkv w c r t)) := fun o => by rw [upd_ne hdw]; exact hd1
          refine ⟨_, rfl, d, _, rfl, DPut.k (k := kR) (hd2 _) (by show 4 < sizeLine; decide), ?_⟩
          rw [dkv_putR]
          refine ⟨rfl, ⟨⟨x, t, ht0, by omega, upd_same⟩, ⟨ws, ?_⟩, ⟨cs, ?_⟩, ne⟩, (((But2.refl d w H).new hp).w).d⟩
          · rw [upd_ne hdw.symm, upd_same]
            rfl
          · rw [upd_ne hD.dc.symm, upd_ne ne.symm, upd_ne (ne_of_none hc hp)]
            exact hc
      · exact ⟨rfl, hD.mono (Nat.le_succ n), But2.refl d w H⟩
    · rintro σ H1 ⟨rfl, hD1, b1⟩
      obtain ⟨⟨r1, t1, a1, a2, e1⟩, q2, q3, q4⟩ := id hD1
      refine ⟨_, rfl, d, _, rfl, get_r e1, .inl ⟨r1, rfl, _, rfl, r1, m, rfl, rfl, hm0, ?_⟩⟩
      refine ⟨_, rfl, d, _, rfl, get_r e1, _, rfl, r1, m, rfl, rfl, wide_div (b := 62) hm0 (by omega) (by decide) (by decide), _, rfl, d, _, rfl, DPut.k (k := kR) e1 (by show 4 < sizeLine; decide), ?_⟩
      rw [dkv_putR]
      exact ⟨_, rfl, k _ _ (Int.emod_nonneg _ (by omega)) (Int.emod_lt_of_pos _ hm0) (hD1.setR e1) b1.d⟩
def primes : List Int := [2147483629, 2147483587, 2147483579, 2147483563]
theorem prime_bd {i : Nat} {x : V} (h : (primes.map V.int)[i]? = some x) : ∃ p : Int, x = .int p ∧ 2147483563 ≤ p ∧ p ≤ 2147483629 := by
  have hx : x ∈ primes.map V.int := List.mem_of_getElem? h
  obtain ⟨p, hp, rfl⟩ := List.mem_map.mp hx
  refine ⟨p, rfl, ?_⟩
  simp [primes] at hp
  omega
theorem ok_mixed {f : Addr} {fd : FuncData} (F : Fun K "_law_mixed" "_law_mixed" s__law_mixed f fd) (gi : mg "int" = none) : FnOk P w0 K mg base CX0 1 f fd ["draw"] spMixed := by
  refine F.ok sc__law_mixed (fun vs H Q E h => ?_) (fun cdv A outer s H vs Q E hr h => ?_)
  · obtain ⟨d, w, c, n, rfl, _⟩ := h
    rfl
  · obtain ⟨d, w, c, n, rfl, hD, hn, k⟩ := h
    have hu := hu_of hr
    refine ⟨_, pss_cons (ps_par (i := 1) (j := 2) rfl sc__law_mixed.nd rfl rfl (by decide) rfl rfl (pa_cons (pe_op op_add (pe_dget hu (pv 0) pe_str (fun _ _ => rfl)) pe_int) (pa_cons pe_int pa_nil)) rfl)
      (pss_cons (ps_dput hu (pv 0) pe_str (pv 1) rfl)
      (pss_cons (ps_for PassesOwn.never rfl (pi_list (pe_lst (pa_cons pe_int (pa_cons pe_int (pa_cons pe_int (pa_cons pe_int pa_nil)))))) (pg_name (i := 3) sc__law_mixed.nd rfl (.inl rfl))
        (pss_cons (ps_set (i := 4) sc__law_mixed.nd rfl (.inl rfl) (pe_op op_add (pe_op op_mul pe_int (pv 1)) (pe_op op_fdiv (pv 3) pe_int)))
        (pss_cons (ps_for PassesOwn.never rfl (pi_list (pe_dget hu (pv 0) pe_str (fun _ _ => rfl))) (pg_name (i := 5) sc__law_mixed.nd rfl (.inl rfl))
          (pss_one (ps_set (i := 4) sc__law_mixed.nd rfl (.inl rfl) (pe_op op_mod (pe_callTy call_int1 (by rfl) gi PySem.Pv.boot_int (pa_cons (pe_op op_add (pe_op op_add (pe_op op_mul (pv 4) pe_int) (pv 5)) (pv 1)) pa_nil)) (pv 3)))))
        (pss_one (ps_set (i := 2) sc__law_mixed.nd rfl (.inl rfl) (pe_op op_add (pe_op op_mul (pv 2) pe_int) (pe_op op_mod (pe_callTy call_int1 (by rfl) gi PySem.Pv.boot_int (pa_cons (pe_op op_pow (pv 4) pe_int) pa_nil)) (pv 3))))))))
      (pss_one (ps_ret (pv 2))))), ?_⟩
    obtain ⟨⟨r, t, ht0, htn, hd⟩, ⟨ws, hw⟩, ⟨cs, hc⟩, ne⟩ := id hD
    refine ⟨_, rfl, d, _, rfl, get_t hd, _, _, rfl, rfl, _, _, rfl, ?_⟩
    refine ⟨_, rfl, _, rfl, d, _, rfl, DPut.k (k := kT) hd (by show 4 < sizeLine; decide), ?_⟩
    rw [dkv_putT]
    have hD1 : DrawAt (upd H d (.dK (dkv w c r (t + 1)))) d w c (n + 1) := ⟨⟨r, t + 1, by omega, by omega, upd_same⟩, ⟨ws, by rw [upd_ne hD.dw.symm]; exact hw⟩, ⟨cs, by rw [upd_ne hD.dc.symm]; exact hc⟩, ne⟩
    have b1 : But2 d w H (upd H d (.dK (dkv w c r (t + 1)))) := (But2.refl d w H).d
    refine ⟨by show 4 ≤ sizeLine; decide, fun p hp => ?_⟩
    have hD2 := hD1.new (o := HO.lst (primes.map V.int)) hp
    have b2 := b1.new (o := HO.lst (primes.map V.int)) hp
    have hd2 : (upd (upd H d (.dK (dkv w c r (t + 1)))) p (.lst (primes.map V.int))) d = some (.dK (dkv w c r (t + 1))) := by
      rw [upd_ne (ne_of_none (upd_same (o := HO.dK (dkv w c r (t + 1)))) hp), upd_same]
    have hc2 : (upd (upd H d (.dK (dkv w c r (t + 1)))) p (.lst (primes.map V.int))) c = some (.lst (cs.map V.int)) := by
      have hc1 : (upd H d (.dK (dkv w c r (t + 1)))) c = some (.lst (cs.map V.int)) := by rw [upd_ne hD.dc.symm]; exact hc
      rw [upd_ne (ne_of_none hc1 hp)]
      exact hc1
    have hp2 : (upd (upd H d (.dK (dkv w c r (t + 1)))) p (.lst (primes.map V.int))) p = some (.lst (primes.map V.int)) := upd_same
    refine ⟨p, rfl, ⟨_, SqL.of hp2⟩, for_list (K := K) (a := p) (xs := primes.map V.int) (fun i σ H' => H' = upd (upd H d (.dK (dkv w c r (t + 1)))) p (.lst (primes.map V.int)) ∧ ∃ (f : Int) (x y z : Option V), σ = [some (.ref d), some (.int (t + 1)), some (.int f), x, y, z])
      ⟨rfl, 0, none, none, none, rfl⟩ (fun i σ H' _ ⟨e, _⟩ => e ▸ SqL.of hp2) ?_ ?_⟩
    · rintro i x σ H' hx ⟨rfl, f, y3, y4, y5, rfl⟩
      obtain ⟨q, rfl, q1, q2⟩ := prime_bd hx
      refine ⟨_, rfl, _, _, rfl, rfl, .inl ⟨by decide, by decide⟩, _, rfl, _, _, rfl, rfl, ⟨by decide, by decide⟩, _, _, rfl, rfl, ?_⟩
      -- the inner loop: blend is never far
      refine ⟨_, rfl, d, _, rfl, get_c hd2, c, rfl, ⟨_, SqL.of hc2⟩, for_list (K := K) (a := c) (xs := cs.map V.int) (fun i σ H' => H' = upd (upd H d (.dK (dkv w c r (t + 1)))) p (.lst (primes.map V.int)) ∧ ∃ (b : Int) (z : Option V), 0 ≤ b ∧ b < 2 ^ 62 ∧ σ = [some (.ref d), some (.int (t + 1)), some (.int f), some (.int q), some (.int b), z])
        ⟨rfl, _, y5, ?_, ?_, rfl⟩ (fun i σ H' _ ⟨e, _⟩ => e ▸ SqL.of hc2) ?_ ?_⟩
      · omega
      · omega
      · rintro i x σ H' hx ⟨rfl, b, z, hb0, hb, rfl⟩
        obtain ⟨v, hv⟩ : ∃ v : Int, x = .int v := by
          have hm : x ∈ cs.map V.int := List.mem_of_getElem? hx
          obtain ⟨v, _, e⟩ := List.mem_map.mp hm
          exact ⟨v, e.symm⟩
        subst hv
        refine ⟨_, rfl, _, _, rfl, rfl, .inr ⟨by decide, by decide⟩, _, rfl, _, _, rfl, rfl, _, rfl, _, _, rfl, rfl, .inl ⟨_, rfl, _, rfl, _, _, rfl, rfl, (show (0 : Int) < q by omega), ?_⟩⟩
        exact ⟨rfl, _, _, Int.emod_nonneg _ (by omega), Int.lt_of_lt_of_le (Int.emod_lt_of_pos _ (by omega)) (by omega), rfl⟩
      · rintro σ H' ⟨rfl, b, z, hb0, hb, rfl⟩
        refine ⟨_, rfl, _, _, rfl, rfl, .inr ⟨by decide, by decide⟩, _, rfl, _, _, rfl, rfl, ⟨by decide, by decide, by omega⟩, .inl ⟨_, rfl, _, rfl, _, _, rfl, rfl, (show (0 : Int) < q by omega), _, _, rfl, rfl, ?_⟩⟩
        exact ⟨rfl, _, _, _, _, rfl⟩
    · rintro σ H' ⟨rfl, f, x, y, z, rfl⟩
      exact ⟨_, rfl, k _ _ hD2 b2⟩
/-- one of a list's items -/
def spPick (K : PySem.W.Frag) : Sp := fun vs H Q _ => ∃ (d w c a : Addr) (n : Nat) (xs : List V), vs = [.ref d, .ref a] ∧ DrawAt H d w c n ∧ n < 2 ^ 40 ∧ a ≠ d ∧ a ≠ w ∧ SqL K H a xs ∧ xs ≠ [] ∧ xs.length < 2 ^ 29 ∧
  ∀ (x : V) (H' : Hp), x ∈ xs → DrawAt H' d w c (n + 1) → But2 d w H H' → Q x H'
theorem But2.seq {d w a : Addr} {H H' : Hp} {xs : List V} (b : But2 d w H H') (h1 : a ≠ d) (h2 : a ≠ w) (h : SqL K H a xs) : SqL K H' a xs := by
  rcases h with (h | ⟨o, h⟩) | h
  · exact .inl (.inl (b _ _ h h1 h2))
  · exact .inl (.inr ⟨o, b _ _ h h1 h2⟩)
  · exact .inr h
theorem ok_pick {f fT : Addr} {fd fdT : FuncData} (F : Fun K "_law_pick" "_law_pick" s__law_pick f fd) (FT : Fun K "_law_take" "_law_take" s__law_take fT fdT) (bT : Binds K fdT ["draw", "many"] []) (gT : mg "_law_take" = some (.ref fT)) (gl : mg "len" = none)
    (GT : FnOk P w0 K mg base CX0 2 fT fdT ["draw", "many"] spTake) : FnOk P w0 K mg base CX0 3 f fd ["draw", "some"] (spPick K) := by
  refine F.ok sc__law_pick (fun vs H Q E h => ?_) (fun cdv A outer s H vs Q E hr h => ?_)
  · obtain ⟨d, w, c, a, n, xs, rfl, _⟩ := h
    rfl
  · obtain ⟨d, w, c, a, n, xs, rfl, hD, hn, ad, aw, hS, hx, hl, k⟩ := h
    refine ⟨_, pss_one (ps_ret (pe_ix ix_list (pv 1) (pe_call GT hr (by rfl) gT FT.kp bT .nil pass0 (pa_cons (pv 0) (pa_cons (pe_callB call_len_seq (by rfl) gl PySem.boot_len (pa_cons (pv 1) pa_nil)) pa_nil))) (fun _ _ => rfl))), ?_⟩
    have h0 : 0 < xs.length := List.length_pos_iff.mpr hx
    refine ⟨_, rfl, _, rfl, _, rfl, a, xs, rfl, .inl hS, d, w, c, n, xs.length, rfl, hD, hn, by omega, by omega, fun i H1 i0 i1 hD1 b1 => ?_⟩
    have hi : i.toNat < xs.length := by omega
    refine ⟨a, xs, i, xs[i.toNat], rfl, rfl, b1.seq ad aw hS, ?_, k _ _ (List.getElem_mem hi) hD1 b1⟩
    obtain ⟨j, rfl⟩ := Int.eq_ofNat_of_zero_le i0
    exact atI_nat (List.getElem?_eq_getElem (by omega))
/-- the state of all draws -/
def spBegun (K : PySem.W.Frag) : Sp := fun vs H Q _ => ∃ (a : Addr) (ns : List Int), vs = [.ref a] ∧ SqL K H a (ns.map V.int) ∧ ns.length ≤ 63 ∧ ∀ (d w c : Addr) (H' : Hp), H d = none → H w = none → H c = none → DrawAt H' d w c 0 → Same H H' → Q (.ref d) H'
theorem ok_begun {f : Addr} {fd : FuncData} (F : Fun K "_law_begun" "_law_begun" s__law_begun f fd) (gi : mg "int" = none) (ga : mg "abs" = none) : FnOk P w0 K mg base CX0 1 f fd ["script"] (spBegun K) := by
  refine F.ok sc__law_begun (fun vs H Q E h => ?_) (fun cdv A outer s H vs Q E hr h => ?_)
  · obtain ⟨a, ns, rfl, _⟩ := h
    rfl
  · obtain ⟨a, ns, rfl, hS, hl, k⟩ := h
    have hu := hu_of hr
    refine ⟨_, pss_cons (ps_setLc (i := 1) (own := [("cell", 2)]) (g := gName 2) (tt := _) (by rfl) sc__law_begun.nd rfl rfl (sw_true rfl rfl rfl (by decide +kernel)) (pi_list (pv 0)) (blkOk_by (N := n__law_begun) (sc := defScope s__law_begun) (by decide +kernel))
        (fun _ _ _ _ _ => pg_name (i := 2) sc__law_begun.nd rfl (Or.inl rfl))
        (fun _ _ _ _ _ => pts_one (pt_cmpR op_ge (pe_callB call_abs (by rfl) ga (by decide +kernel) (pa_cons (pv 2) pa_nil)) (pe_op op_pow pe_int pe_int) (nomark _)))
        (fun _ _ _ _ _ => pe_op op_sub (pe_callB call_abs (by rfl) ga (by decide +kernel) (pa_cons (pv 2) pa_nil)) (pe_op op_pow pe_int pe_int)))
      (pss_one (ps_ret (pe_disp (pps_cons pe_str (pv 1) (pps_cons pe_str (pe_lc (own := [("cell", 2)]) (g := gName 2) (tt := tYes) (by rfl) sc__law_begun.nd (pi_list (pv 0)) (blkOk_by (N := n__law_begun) (sc := defScope s__law_begun) (by decide +kernel))
          (fun _ _ _ _ _ => pg_name (i := 2) sc__law_begun.nd rfl (Or.inl rfl)) (fun _ _ _ _ _ => pts_nil)
          (fun _ _ _ _ _ => pe_op op_mod (pe_callTy call_int1 (by rfl) gi PySem.Pv.boot_int (pa_cons (pe_callB call_abs (by rfl) ga (by decide +kernel) (pa_cons (pv 2) pa_nil)) pa_nil)) pe_int))
        (pps_cons pe_str pe_int (pps_cons pe_str pe_int pps_nil)))) (by rfl) (by rfl) (fun z => by cases z) (by decide)))), ?_⟩
    have h18 : CPow 10 18 := ⟨by decide, by decide, by decide⟩
    have hint : ∀ (i : Nat) (x : V), (ns.map V.int)[i]? = some x → ∃ v : Int, x = .int v := fun i x hx => by
      obtain ⟨v, _, e⟩ := List.mem_map.mp (List.mem_of_getElem? hx)
      exact ⟨v, e.symm⟩
    refine ⟨_, rfl, a, rfl, ⟨_, hS⟩, fun w hw => lc_list (K := K) (a := a) (xs := ns.map V.int) (fun i H' => Same H H' ∧ ∃ ws : List Int, H' w = some (.lst (ws.map V.int)) ∧ ws.length ≤ i)
      ⟨Same.new hw, [], upd_same, Nat.le_refl _⟩ (fun i H' _ ⟨e, _⟩ => e.seq hS) ?_ ?_⟩
    · rintro i x H' hx ⟨s1, ws, hw1, hwl⟩
      obtain ⟨v, rfl⟩ := hint i x hx
      have hi : i < ns.length := by
        have := (List.getElem?_eq_some_iff.mp hx).1
        rw [List.length_map] at this
        exact this
      refine ⟨rfl, _, rfl, _, rfl, _, _, rfl, rfl, h18, _, _, rfl, rfl, _, rfl, ite2 (fun _ => ?_) (fun _ => ?_)⟩
      · refine ⟨_, rfl, _, rfl, _, _, rfl, rfl, h18, _, _, rfl, rfl, _, hw1, small1000 (by rw [List.length_map]; omega), fun b o e => ?_, ws ++ [(if v < 0 then -v else v) - 10 ^ 18], ?_, ?_⟩
        · rw [upd_ne (ne_of_none e hw)]
          exact s1 b o e
        · rw [upd_same, List.map_append]
          rfl
        · rw [List.length_append, List.length_singleton]
          omega
      · exact ⟨s1, ws, hw1, by omega⟩
    · rintro H1 ⟨s1, ws, hw1, hwl⟩
      intro d hd
      have nd : d ≠ w := fun z => by rw [z, hw1] at hd; cases hd
      have s2 : Same H (upd H1 d (.dK [])) := s1.trans (Same.new hd)
      have hw2 : (upd H1 d (.dK [])) w = some (.lst (ws.map V.int)) := by rw [upd_ne nd.symm]; exact hw1
      refine ⟨_, rfl, _, rfl, a, rfl, ⟨_, s2.seq hS⟩, fun c hc => lc_list (K := K) (a := a) (xs := ns.map V.int) (fun i H' => Same (upd H1 d (.dK [])) H' ∧ ∃ cs : List Int, H' c = some (.lst (cs.map V.int)) ∧ cs.length ≤ i)
        ⟨Same.new hc, [], upd_same, Nat.le_refl _⟩ (fun i H' _ ⟨e, _⟩ => e.seq (s2.seq hS)) ?_ ?_⟩
      · rintro i x H' hx ⟨s3, cs, hc1, hcl⟩
        obtain ⟨v, rfl⟩ := hint i x hx
        have hi : i < ns.length := by
          have := (List.getElem?_eq_some_iff.mp hx).1
          rw [List.length_map] at this
          exact this
        refine ⟨rfl, yes ?_⟩
        refine ⟨_, rfl, _, rfl, .inl ⟨_, rfl, _, _, rfl, rfl, (by show (0 : Int) < 2147483629; decide), _, hc1, small1000 (by rw [List.length_map]; omega), fun b o e => ?_, cs ++ [(if v < 0 then -v else v) % 2147483629], ?_, ?_⟩⟩
        · rw [upd_ne (ne_of_none e hc)]
          exact s3 b o e
        · rw [upd_same, List.map_append]
          rfl
        · rw [List.length_append, List.length_singleton]
          omega
      · rintro H3 ⟨s3, cs, hc3, hcl⟩
        have hd3 : H3 d = some (.dK []) := s3 _ _ upd_same
        have hw3 : H3 w = some (.lst (ws.map V.int)) := s3 _ _ hw2
        have ndc : c ≠ d := fun z => by rw [z, upd_same] at hc; cases hc
        have nwc : w ≠ c := fun z => by rw [← z, hw2] at hc; cases hc
        refine ⟨hd3, [(kW, .ref w), (kC, .ref c), (kR, .int 0), (kT, .int 0)], rfl, (by show 4 ≤ 15; decide), ?_⟩
        rw [merge4]
        refine k d w c _ (s1.free hd) hw ?_ ⟨⟨0, 0, by decide, by decide, upd_same⟩, ⟨ws, ?_⟩, ⟨cs, ?_⟩, nwc⟩ fun b o e => ?_
        · exact s2.free hc
        · rw [upd_ne nd.symm]
          exact hw3
        · rw [upd_ne ndc]
          exact hc3
        · rw [upd_ne (ne_of_none e (s1.free hd))]
          exact s3 _ _ (s2 _ _ e)
end
end SA
set_option Elab.async false
set_option linter.all false
set_option maxRecDepth 100000
set_option maxHeartbeats 4000000
namespace SA
open PySem PySem.Spec PyProof.Rows L2
/-! ### a def of the module, all that a call of it needs -/
structure Dq (P : Program) (w : World) (K : PySem.W.Frag) (mg : Str → Option Value) (base : Heap) (CX : CXT) (k : Nat) (x : Str) (ps : List Str) (sp : Sp) : Prop where
  ex : ∃ (f : Addr) (fd : FuncData), FnOk P w K mg base CX k f fd ps sp ∧ mg x = some (.ref f) ∧ PySem.W.keepIn K (.ref f) = true ∧ L2.Binds K fd ps []
/-- .. called by keywords -/
structure Dk (P : Program) (w : World) (K : PySem.W.Frag) (mg : Str → Option Value) (base : Heap) (CX : CXT) (k : Nat) (x : Str) (ps ks : List Str) (gV : List V → List V → List V) (sp : Sp) : Prop where
  ex : ∃ (f : Addr) (fd : FuncData) (g : List Value → List Value → List Value), FnOk P w K mg base CX k f fd ps sp ∧ mg x = some (.ref f) ∧ PySem.W.keepIn K (.ref f) = true ∧ KBinds K fd ps ks g gV
/-- what raises nothing passes -/
theorem passN {P : Program} {w : World} {X : Cx} : Passes (L2.CX P w) X (fun _ _ _ => False) := fun _ _ _ _ _ _ _ ⟨_, _, _, _, _, _, _, _, _, _, _, _, h⟩ => h.elim
section
variable {X : Cx} {CX : CXT} {k j : Nat} {x : Str} {p pos : Pos} {e : Expr} {es : List Expr} {t tk : TA} {sp : Sp} {ps ks : List Str} {E : XK} {kws : List Keyword} {gV : List V → List V → List V}
theorem pe_qX (c : Dq X.prog X.w X.K X.mg X.base CX k x ps sp) (hr : Room j X.A) (hk : k ≤ j) (hg : Gl X x) (hx : Passes CX X E) (ha : PA X (e :: es) t)
    (hdb : (x == ("__debug__" : Str)) = false := by decide) (he : starEach (e :: es) X.env = (false, eval e X.env) :: starEach es X.env := by rfl) (hpl : (backTo pos (starEach es X.env)).any (·.1) = false := by rfl) :
    PE X (.Call (.Name x p) (e :: es) [] pos) (tCall sp [] E t) := by
  obtain ⟨f, fd, F, hm, kp, b⟩ := c.ex
  exact pe_call F (hr.mono hk) hg hm kp b .nil hx ha hdb he hpl
theorem pe_q (c : Dq X.prog X.w X.K X.mg X.base CX0 k x ps sp) (hr : Room j X.A) (hk : k ≤ j) (hg : Gl X x) (ha : PA X (e :: es) t)
    (hdb : (x == ("__debug__" : Str)) = false := by decide) (he : starEach (e :: es) X.env = (false, eval e X.env) :: starEach es X.env := by rfl) (hpl : (backTo pos (starEach es X.env)).any (·.1) = false := by rfl) :
    PE X (.Call (.Name x p) (e :: es) [] pos) (tCall sp [] (fun _ _ _ => False) t) := pe_qX c hr hk hg pass0 ha hdb he hpl
/-- f(a, k = b) -/
theorem pe_qK (c : Dk X.prog X.w X.K X.mg X.base CX k x ps ks gV sp) (hr : Room j X.A) (hk : k ≤ j) (hg : Gl X x) (hx : Passes CX X E) (ha : PA X (e :: es) t) (hkw : PK X kws tk)
    (hall : (backToKw pos (keywordEach kws X.env)).all (·.1.isSome) = true := by rfl) (hks : (backToKw pos (keywordEach kws X.env)).filterMap (·.1) = ks := by rfl)
    (hdb : (x == ("__debug__" : Str)) = false := by decide) (he : starEach (e :: es) X.env = (false, eval e X.env) :: starEach es X.env := by rfl)
    (hpl : ((backTo pos (starEach (e :: es) X.env)).any (·.1) || (backToKw pos (keywordEach kws X.env)).any (·.1.isNone)) = false := by rfl) :
    PE X (.Call (.Name x p) (e :: es) kws pos) (tCallK sp gV E t tk) := by
  obtain ⟨f, fd, g, F, hm, kp, b⟩ := c.ex
  exact pe_callK F (hr.mono hk) hg hm kp b hx ha hkw hall hks hdb he hpl
/-- f(k = b) -/
theorem pe_qK0 (c : Dk X.prog X.w X.K X.mg X.base CX k x ps ks gV sp) (hr : Room j X.A) (hk : k ≤ j) (hg : Gl X x) (hx : Passes CX X E) (hkw : PK X kws tk)
    (hall : (backToKw pos (keywordEach kws X.env)).all (·.1.isSome) = true := by rfl) (hks : (backToKw pos (keywordEach kws X.env)).filterMap (·.1) = ks := by rfl)
    (hdb : (x == ("__debug__" : Str)) = false := by decide) (hpl : ((backTo pos (starEach [] X.env)).any (·.1) || (backToKw pos (keywordEach kws X.env)).any (·.1.isNone)) = false := by rfl) :
    PE X (.Call (.Name x p) [] kws pos) (tCallK sp gV E tNil tk) := by
  obtain ⟨f, fd, g, F, hm, kp, b⟩ := c.ex
  refine ⟨fun pins s σ H Q I h => wpAny_Call_Name_kw (ld_glob I hg hm ?_ hdb)⟩
  refine PySem.W.callWith_KW0 (h₀ := X.base) I.ok.mod.kin kp hall (thn (hkw.run pos pins s σ H _ I h) fun ws s2 ⟨zs, H2, I2, rz, q⟩ => ⟨I2.kIn, ?_⟩) hpl
  rw [hks]
  exact run_fnk (us := []) (vs := []) F (hr.mono hk) b hx I2 .nil rz q
end
/-- what is None where the module's names are: the built-in names that a text uses -/
structure Bn (mg : Str → Option Value) : Prop where
  isinstance : mg "isinstance" = none
  int : mg "int" = none
  bool : mg "bool" = none
  str : mg "str" = none
  len : mg "len" = none
  abs : mg "abs" = none
  range : mg "range" = none
  repr : mg "repr" = none
end SA
set_option Elab.async false
set_option linter.all false
set_option maxRecDepth 100000
set_option maxHeartbeats 4000000
namespace SA
open PySem PySem.Spec PyProof.Rows L2
/-! ### errors -/
theorem small1000' {n : Nat} (h : n ≤ 1000) : n ≤ sizeLine := by
  have := sizeLine_eq
  omega
theorem small5 {n : Nat} (h : n ≤ 100000) : n ≤ sizeLine := by
  have := sizeLine_eq
  omega
structure Own24 (K : PySem.W.Frag) (C f : Addr) (fs : List Str) : Prop where
  oex : OexC K C
  init : PySem.W.findIn K (.ref C) "__init__" = some (some (.ref f))
  fn : PySem.W.typeIn K (.ref f) = some (.type "function")
  no : ∀ x ∈ fs, PySem.W.findIn K (.ref C) x = some none
/-- __init__'s promise: the field holds the argument -/
def spInit1 (C : Addr) (fl : Str) : Sp := fun vs H Q _ => ∃ (a : Addr) (x : V), vs = [.ref a, x] ∧ H a = some (exo a C none) ∧
  ∀ (dx : Addr) (H' : Hp), H dx = none → dx ≠ a → H' a = some (exo a C (some dx)) → H' dx = some (exd dx [(fl, x)]) → (∀ b o, H b = some o → b ≠ a → H' b = some o) → Q .non H'
/-- a class of errors without __init__ -/
structure Cl0 (K : PySem.W.Frag) (mg : Str → Option Value) (x : Str) (C : Addr) : Prop where
  g : mg x = some (.ref C)
  x : PySem.W.excIn K C [.type "ValueError", .type "Exception", .type "BaseException", .type "object"] "ValueError.__new__" = true
  k : PySem.W.keepIn K (.ref C) = true
  b : PySem.W.subIn K (.ref C) (.type "BaseException") = some true
  t : PySem.W.typeIn K (.ref C) = some (.type "type")
/-- a class of errors with one field -/
structure Cl1 (P : Program) (w : World) (K : PySem.W.Frag) (mg : Str → Option Value) (base : Heap) (x fl : Str) (C : Addr) (f : Addr) (fd : FuncData) : Prop where
  g : mg x = some (.ref C)
  o : Own24 K C f [fl]
  G : FnOk P w K mg base CX0 1 f fd ["self", fl] (spInit1 C fl)
  b : L2.Binds K fd ["self", fl] []
/-- an error of the class C with this field is raised, nothing else changed -/
def RaiseF (C : Addr) (fl : Str) (v : V) (H : Hp) (E : XK) : Prop := ∀ (d : Addr) (H' : Hp), Same H H' → H d = none → H' d = some (.xd [(fl, v)]) → E (.ref C) (some d) H'
theorem RaiseF.of {C : Addr} {fl : Str} {v : V} {H H1 : Hp} {E : XK} (s : Same H H1) (h : RaiseF C fl v H E) : RaiseF C fl v H1 E := fun d H' s1 hd e => h d H' (s.trans s1) (s.free hd) e
section
variable {P : Program} {w0 : World} {K : PySem.W.Frag} {mg : Str → Option Value} {base : Heap} {C f : Addr} {fd : FuncData}
/-- from the raising of such an error, its argument worked out, to RaiseF -/
theorem raiseF {fl : Str} {te : TE} {x : V} {σ : L2.St} {H1 : Hp} {E : XK} (ht : ∀ R : V → Hp → Prop, R x H1 → te σ H1 R) (hb : RaiseF C fl x H1 E) : tMkO C (spInit1 C fl) [] (tCons te tNil) σ H1 fun cls d H' => E cls d H' := by
  refine ht _ ⟨(by show 1 ≤ 1000; decide), fun a ha => ⟨a, x, rfl, upd_same, fun dx H' hdx ne e1 e2 kp => ⟨rfl, dx, _, e1, e2, ?_, ?_⟩⟩⟩
  · rw [upd_ne ne] at hdx
    exact hdx
  · have hdx : H1 dx = none := by
      rw [upd_ne ne] at hdx
      exact hdx
    refine hb dx _ (fun b o e => ?_) hdx upd_same
    have nb := ne_of_none e ha
    rw [upd_ne (ne_of_none e hdx), L2.del_ne nb]
    exact kp b o (by rw [upd_ne nb]; exact e) nb
end
/-! ### values of all kinds, by their class -/
inductive Kd (K : PySem.W.Frag) (H : Hp) : V → String → Prop
  | non : Kd K H .non "NoneType"
  | bl (b : Bool) : Kd K H (.bl b) "bool"
  | int (i : Int) : Kd K H (.int i) "int"
  | str (z : Str) : Kd K H (.str z) "str"
  | tup {a : Addr} (h : TyX K H (.ref a) (.type "tuple")) : Kd K H (.ref a) "tuple"
  | lst {a : Addr} (h : TyX K H (.ref a) (.type "list")) : Kd K H (.ref a) "list"
  | dct {a : Addr} (h : TyX K H (.ref a) (.type "dict")) : Kd K H (.ref a) "dict"
theorem Kd.ty {K : PySem.W.Frag} {H : Hp} {x : V} {t : String} (h : Kd K H x t) : TyX K H x (.type t) := by
  cases h with
  | non => exact .base .non
  | bl b => exact .base (.bl b)
  | int i => exact .base (.int i)
  | str z => exact .base (.str z)
  | tup h => exact h
  | lst h => exact h
  | dct h => exact h
theorem Kd.int_of {K : PySem.W.Frag} {H : Hp} {x : V} {t : String} (h : Kd K H x t) (e : t = "int") : ∃ i, x = .int i := by
  cases h <;> first | exact ⟨_, rfl⟩ | exact absurd e (by decide)
theorem Kd.str_of {K : PySem.W.Frag} {H : Hp} {x : V} {t : String} (h : Kd K H x t) (e : t = "str") : ∃ z, x = .str z := by
  cases h <;> first | exact ⟨_, rfl⟩ | exact absurd e (by decide)
/-- isinstance(x, c) of such a value -/
theorem isi_kd {K : PySem.W.Frag} {H : Hp} {x : V} {t c : String} {b : Bool} {Q : VK} (h : Kd K H x t) (hb : PySem.W.kitOne K (.type t) (.type c) = some b) (q : Q (.bl b) H) : rIsi K [x, .ty c] H Q :=
  ⟨x, .ty c, .type t, .type c, b, rfl, .ty _, h.ty, hb, q⟩
end SA
set_option Elab.async false
set_option linter.all false
set_option maxRecDepth 100000
set_option maxHeartbeats 4000000
namespace K82
open PySem
abbrev mk (l : L) : Str := ⟨l.toArray⟩
theorem tl_mk (l : L) : tl (mk l) = l := by simp [mk, tl]
theorem mk_tl (z : Str) : mk (tl z) = z := by simp [mk, tl]
theorem len_tl (z : Str) : z.length = (tl z).length := rfl
theorem len_mk (l : L) : (mk l).length = l.length := by simp [mk, Str.length]
def isBs (z : Str) : Bool := (tl z).all fun c => c == 48 || c == 49
theorem isBs_iff (z : Str) : isBs z = true ↔ IsB (tl z) := by
  unfold isBs IsB
  rw [List.all_eq_true]
  refine ⟨fun h c hc => ?_, fun h c hc => ?_⟩
  · have := h c hc
    simpa using this
  · have := h c hc
    simpa using this
theorem cnt01 : ∀ l : L, l.count 48 + l.count 49 ≤ l.length ∧ (l.count 48 + l.count 49 = l.length ↔ IsB l)
  | [] => by simp [IsB]
  | c :: l => by
    obtain ⟨h1, h2⟩ := cnt01 l
    have e : IsB (c :: l) ↔ (c = 48 ∨ c = 49) ∧ IsB l := by simp [IsB]
    rw [e, ← h2]
    simp only [List.count_cons, List.length_cons, beq_iff_eq]
    by_cases a : c = 48
    · have : ¬ c = 49 := by omega
      simp [a]
      omega
    · by_cases b : c = 49
      · simp [b]
        omega
      · simp [a, b]
        omega
theorem s0 : ("0" : Str) = one 48 := by decide +kernel
theorem s1 : ("1" : Str) = one 49 := by decide +kernel
end K82
namespace SA
open PySem PySem.Spec PyProof.Rows L2 K82
/-- built-in classes as values -/
structure Bn2 (mg : Str → Option Value) : Prop extends Bn mg where
  ValueError : mg "ValueError" = none
def spIsNum (K : PySem.W.Frag) : Sp := fun vs H Q _ => ∃ x t, vs = [x] ∧ Kd K H x t ∧ Q (.bl (decide (t = "int"))) H
def spNumB (K : PySem.W.Frag) : Sp := fun vs H Q _ => ∃ x t lo hi, vs = [x, .int lo, .int hi] ∧ Kd K H x t ∧ (∀ i, x = .int i → Q (.bl (decide (lo ≤ i ∧ i ≤ hi))) H) ∧ (t ≠ "int" → Q (.bl false) H)
def spBitS (K : PySem.W.Frag) : Sp := fun vs H Q _ => ∃ x t, vs = [x] ∧ Kd K H x t ∧ (∀ z, x = .str z → z.length ≤ 100000 ∧ Q (.bl (isBs z)) H) ∧ (t ≠ "str" → Q (.bl false) H)
section
variable {P : Program} {w0 : World} {K : PySem.W.Frag} {mg : Str → Option Value} {base : Heap}
theorem ok_is_number {f : Addr} {fd : FuncData} (F : Fun K "is_number" "is_number" s_is_number f fd) (B : Bn2 mg) : FnOk P w0 K mg base CX0 1 f fd ["thing"] (spIsNum K) := by
  refine F.ok sc_is_number (fun vs H Q E h => ?_) (fun cdv A outer s H vs Q E hr h => ?_)
  · obtain ⟨x, t, rfl, _⟩ := h
    rfl
  · obtain ⟨x, t, rfl, hk, q⟩ := h
    refine ⟨_, (pss_one (ps_ret (pe_and (pe_callB call_isi (by rfl) B.isinstance (by decide +kernel) (pa_cons (pv 0) (pa_cons (pe_bltn (v := .ty "int") (by rfl) B.int (by decide +kernel) rfl) pa_nil))) (pe_one (pe_not (pe_callB call_isi (by rfl) B.isinstance (by decide +kernel) (pa_cons (pv 0) (pa_cons (pe_bltn (v := .ty "bool") (by rfl) B.bool (by decide +kernel) rfl) pa_nil)))))))), ?_⟩
    cases hk with
    | non => exact ⟨_, rfl, _, .ty "int", .type "NoneType", .type "int", false, rfl, .ty _, Kd.ty (.non), kit_ty (by decide +kernel), false, rfl, q⟩
    | bl b => exact ⟨_, rfl, _, .ty "int", .type "bool", .type "int", true, rfl, .ty _, Kd.ty (.bl b), kit_ty (by decide +kernel), true, rfl, _, rfl, _, .ty "bool", .type "bool", .type "bool", true, rfl, .ty _, Kd.ty (.bl b), kit_ty (by decide +kernel), true, rfl, q⟩
    | int i => exact ⟨_, rfl, _, .ty "int", .type "int", .type "int", true, rfl, .ty _, Kd.ty (.int i), kit_ty (by decide +kernel), true, rfl, _, rfl, _, .ty "bool", .type "int", .type "bool", false, rfl, .ty _, Kd.ty (.int i), kit_ty (by decide +kernel), false, rfl, q⟩
    | str z => exact ⟨_, rfl, _, .ty "int", .type "str", .type "int", false, rfl, .ty _, Kd.ty (.str z), kit_ty (by decide +kernel), false, rfl, q⟩
    | tup h => exact ⟨_, rfl, _, .ty "int", .type "tuple", .type "int", false, rfl, .ty _, Kd.ty (.tup h), kit_ty (by decide +kernel), false, rfl, q⟩
    | lst h => exact ⟨_, rfl, _, .ty "int", .type "list", .type "int", false, rfl, .ty _, Kd.ty (.lst h), kit_ty (by decide +kernel), false, rfl, q⟩
    | dct h => exact ⟨_, rfl, _, .ty "int", .type "dict", .type "int", false, rfl, .ty _, Kd.ty (.dct h), kit_ty (by decide +kernel), false, rfl, q⟩
theorem ok_is_number_between {f : Addr} {fd : FuncData} (F : Fun K "is_number_between" "is_number_between" s_is_number_between f fd) (c_is_number : Dq P w0 K mg base CX0 1 "is_number" ["thing"] (spIsNum K)) : FnOk P w0 K mg base CX0 2 f fd ["thing", "low", "high"] (spNumB K) := by
  refine F.ok sc_is_number_between (fun vs H Q E h => ?_) (fun cdv A outer s H vs Q E hr h => ?_)
  · obtain ⟨x, t, lo, hi, rfl, _⟩ := h
    rfl
  · obtain ⟨x, t, lo, hi, rfl, hk, q1, q2⟩ := h
    refine ⟨_, (pss_one (ps_ret (pe_and (pe_q c_is_number hr (by decide) (by rfl) (pa_cons (pv 0) pa_nil)) (pe_one (pe_chain op_le op_le (pv 1) (pv 0) (pv 2)))))), ?_⟩
    refine ⟨_, rfl, x, t, rfl, hk, _, rfl, ?_⟩
    by_cases ht : t = "int"
    · obtain ⟨i, rfl⟩ := hk.int_of ht
      rw [decide_eq_true ht]
      refine iteT ⟨_, rfl, _, rfl, _, _, rfl, rfl, _, rfl, ?_⟩
      have q := q1 i rfl
      by_cases h1 : lo ≤ i
      · rw [decide_eq_true h1]
        refine iteT ⟨_, rfl, _, _, rfl, rfl, ?_⟩
        rw [show decide (lo ≤ i ∧ i ≤ hi) = decide (i ≤ hi) by rw [decide_eq_decide]; exact ⟨fun h => h.2, fun h => ⟨h1, h⟩⟩] at q
        exact q
      · rw [decide_eq_false h1]
        refine iteF ?_
        rw [show decide (lo ≤ i ∧ i ≤ hi) = false by rw [decide_eq_false_iff_not]; exact fun h => h1 h.1] at q
        exact q
    · rw [decide_eq_false ht]
      exact q2 ht
theorem ok_is_bit_string {f : Addr} {fd : FuncData} (F : Fun K "is_bit_string" "is_bit_string" s_is_bit_string f fd) (B : Bn2 mg) : FnOk P w0 K mg base CX0 1 f fd ["thing"] (spBitS K) := by
  refine F.ok sc_is_bit_string (fun vs H Q E h => ?_) (fun cdv A outer s H vs Q E hr h => ?_)
  · obtain ⟨x, t, rfl, _⟩ := h
    rfl
  · obtain ⟨x, t, rfl, hk, q1, q2⟩ := h
    refine ⟨_, (pss_one (ps_ret (pe_and (pe_callB call_isi (by rfl) B.isinstance (by decide +kernel) (pa_cons (pv 0) (pa_cons (pe_bltn (v := .ty "str") (by rfl) B.str (by decide +kernel) rfl) pa_nil))) (pe_one (pe_cmpR op_eq (pe_op op_add (pe_bm PySem.F.plainAttrs_str PySem.F.slot_str_count PySem.F.type_str_count mt_count (pv 0) (pa_cons pe_str pa_nil)) (pe_bm PySem.F.plainAttrs_str PySem.F.slot_str_count PySem.F.type_str_count mt_count (pv 0) (pa_cons pe_str pa_nil))) (pe_callB call_len_str (by rfl) B.len PySem.boot_len (pa_cons (pv 0) pa_nil)) (nomark _)))))), ?_⟩
    cases hk with
    | str z =>
      obtain ⟨hz, q⟩ := q1 z rfl
      refine ⟨_, rfl, _, .ty "str", .type "str", .type "str", true, rfl, .ty _, Kd.ty (.str z), kit_ty (by decide +kernel), true, rfl, _, rfl, rfl, z, _, rfl, rfl, _, rfl, rfl, z, _, rfl, rfl, _, _, rfl, rfl, _, rfl, z, rfl, small5 hz, rfl, ?_⟩
      rw [s0, s1, count_one, count_one]
      have e : decide (V.int ((((tl z).count 48 : Nat) : Int) + (((tl z).count 49 : Nat) : Int)) = V.int (z.length : Int)) = isBs z := by
        rw [Bool.eq_iff_iff, isBs_iff, ← (cnt01 (tl z)).2, decide_eq_true_eq, ← len_tl]
        constructor
        · intro h
          injection h with h
          omega
        · intro h
          rw [← h, Int.natCast_add]
      exact e.symm ▸ q
    | non => exact ⟨_, rfl, _, .ty "str", .type "NoneType", .type "str", false, rfl, .ty _, Kd.ty (.non), kit_ty (by decide +kernel), false, rfl, q2 (by decide)⟩
    | bl b => exact ⟨_, rfl, _, .ty "str", .type "bool", .type "str", false, rfl, .ty _, Kd.ty (.bl b), kit_ty (by decide +kernel), false, rfl, q2 (by decide)⟩
    | int i => exact ⟨_, rfl, _, .ty "str", .type "int", .type "str", false, rfl, .ty _, Kd.ty (.int i), kit_ty (by decide +kernel), false, rfl, q2 (by decide)⟩
    | tup h => exact ⟨_, rfl, _, .ty "str", .type "tuple", .type "str", false, rfl, .ty _, Kd.ty (.tup h), kit_ty (by decide +kernel), false, rfl, q2 (by decide)⟩
    | lst h => exact ⟨_, rfl, _, .ty "str", .type "list", .type "str", false, rfl, .ty _, Kd.ty (.lst h), kit_ty (by decide +kernel), false, rfl, q2 (by decide)⟩
    | dct h => exact ⟨_, rfl, _, .ty "str", .type "dict", .type "str", false, rfl, .ty _, Kd.ty (.dct h), kit_ty (by decide +kernel), false, rfl, q2 (by decide)⟩
end
end SA
set_option Elab.async false
set_option linter.all false
set_option maxRecDepth 100000
set_option maxHeartbeats 4000000
namespace K82
open PySem
theorem binS_len (n : Nat) : (binS (n + 1)).length = Nat.log2 (n + 1) + 1 := by
  rw [len_tl, binS_tl, bdig_len]
theorem log60 {n k : Nat} (h : n + 1 < 2 ^ k) : Nat.log2 (n + 1) < k := (Nat.log2_lt (by omega)).mpr h
theorem zig_ge {i : Int} (h : i ≥ 0) : (2 * i : Int) = ((zig i : Nat) : Int) := by
  unfold zig
  rw [if_pos (by omega)]
  omega
theorem zig_lt {i : Int} (h : ¬ i ≥ 0) : (-2 * i - 1 : Int) = ((zig i : Nat) : Int) := by
  unfold zig
  rw [if_neg (by omega)]
  omega
theorem one_app (n : Nat) (l : L) : (⟨(List.replicate n 48).toArray⟩ : Str) ++ mk l = mk (List.replicate n 48 ++ l) := by
  show (⟨_⟩ : Str) = _
  simp [mk]
/-- where the first 1 stands -/
theorem tw_zs : ∀ (l : L), IsB l → (l.takeWhile (· != 49)).length = zs l ∧ (49 ∈ l ↔ zs l < l.length)
  | [], _ => by simp [zs]
  | c :: l, h => by
    have ih := tw_zs l fun d hd => h d (List.mem_cons_of_mem _ hd)
    rcases h c (List.mem_cons_self ..) with rfl | rfl
    · have e1 : zs (48 :: l) = zs l + 1 := by simp [zs]
      rw [e1]
      refine ⟨by simp [ih.1], ?_⟩
      simp only [List.mem_cons, List.length_cons]
      rw [show (49 = 48 ∨ 49 ∈ l) ↔ 49 ∈ l from ⟨fun z => z.elim (fun z => absurd z (by decide)) id, .inr⟩, ih.2]
      omega
    · have e1 : zs (49 :: l) = 0 := by simp [zs]
      rw [e1]
      simp
theorem cutS_nn (z : Str) (a b : Nat) : L2.cutS z (some (a : Int)) (some (b : Int)) = mk (((tl z).drop a).take (b - a)) := by
  unfold L2.cutS mk tl
  rw [HT.sIx_nat, HT.sIx_nat, show z.length = z.cps.toList.length from rfl]
  generalize z.cps.toList = l
  congr 1
  by_cases h : a ≤ l.length
  · rw [Nat.min_eq_left h]
    by_cases hb : b ≤ l.length
    · rw [Nat.min_eq_left hb]
    · rw [Nat.min_eq_right (by omega), List.take_of_length_le (by rw [List.length_drop]; omega), List.take_of_length_le (by rw [List.length_drop]; omega)]
  · have e : l.drop (min a l.length) = [] := List.drop_of_length_le (by omega)
    have e2 : l.drop a = [] := List.drop_of_length_le (by omega)
    rw [e, e2]
    simp
/-- what is read at a place: the number from 0 on, and the index behind -/
def rdC (l : L) (n : Nat) : Option (Int × Int) := (dec (l.drop n)).map fun p => ((p.1 : Int), ((n + p.2 : Nat) : Int))
def rdN (l : L) (n : Nat) : Option (Int × Int) := (dec (l.drop n)).map fun p => (zag p.1, ((n + p.2 : Nat) : Int))
theorem fold_pos : ∀ (l : L) (a : Nat), 1 ≤ a → 1 ≤ l.foldl (fun a c => 2 * a + dv c) a
  | [], a, h => h
  | c :: l, a, h => fold_pos l _ (show 1 ≤ 2 * a + dv c by omega)
theorem drop_zs : ∀ l : L, IsB l → zs l < l.length → ∃ r, l.drop (zs l) = 49 :: r
  | [], _, h => by simp [zs] at h
  | c :: l, hb, h => by
    rcases hb c (List.mem_cons_self ..) with rfl | rfl
    · have e1 : zs (48 :: l) = zs l + 1 := by simp [zs]
      rw [e1, List.drop_succ_cons]
      exact drop_zs l (fun d hd => hb d (List.mem_cons_of_mem _ hd)) (by rw [e1, List.length_cons] at h; omega)
    · exact ⟨l, by simp [zs]⟩
theorem rdC_some {l : L} {n : Nat} (hb : IsB l) (h : 2 * zs (l.drop n) + 1 ≤ (l.drop n).length) :
    rdC l n = some (((bval (((l.drop n).drop (zs (l.drop n))).take (zs (l.drop n) + 1)) : Nat) : Int) - 1, ((n + (2 * zs (l.drop n) + 1) : Nat) : Int)) := by
  have hbd : IsB (l.drop n) := fun c hc => hb c (List.mem_of_mem_drop hc)
  obtain ⟨r, e⟩ := drop_zs _ hbd (by omega)
  have h1 : 1 ≤ bval (((l.drop n).drop (zs (l.drop n))).take (zs (l.drop n) + 1)) := by
    rw [e, List.take_succ_cons]
    show 1 ≤ List.foldl (fun a c => 2 * a + dv c) (2 * 0 + dv 49) _
    exact fold_pos _ _ (by decide)
  unfold rdC dec
  rw [if_pos h]
  show some (((_ : Nat) : Int), _) = _
  rw [Int.natCast_sub h1]
  rfl
theorem rdC_none {l : L} {n : Nat} (h : ¬ 2 * zs (l.drop n) + 1 ≤ (l.drop n).length) : rdC l n = none := by
  unfold rdC dec
  rw [if_neg h]
  rfl
theorem rdN_of {l : L} {n : Nat} {a b : Int} (e : rdC l n = some (a, b)) : ∃ c : Nat, a = c ∧ rdN l n = some (zag c, b) := by
  unfold rdC at e
  obtain ⟨⟨c, k⟩, h1, h2⟩ := Option.map_eq_some_iff.mp e
  injection h2 with h2 h3
  refine ⟨c, h2.symm, ?_⟩
  unfold rdN
  rw [h1]
  show some (zag c, _) = _
  rw [h3]
end K82
namespace SA
open PySem PySem.Spec PyProof.Rows L2 K82
/-- None, or a new pair of numbers -/
def RdQ (o : Option (Int × Int)) (H : Hp) (Q : VK) : Prop := (o = none → ∀ H', Same H H' → Q .non H') ∧ ∀ a b, o = some (a, b) → ∀ (p : Addr) (H' : Hp), H p = none → Same H H' → H' p = some (.tup [.int a, .int b]) → Q (.ref p) H'
theorem RdQ.same {o : Option (Int × Int)} {H H1 : Hp} {Q : VK} (s : Same H H1) (h : RdQ o H Q) : RdQ o H1 Q := ⟨fun e H' s1 => h.1 e H' (s.trans s1), fun a b e p H' hp s1 q => h.2 a b e p H' (s.free hp) (s.trans s1) q⟩
def spBitsC : Sp := fun vs H Q _ => ∃ n : Nat, vs = [.int n] ∧ n + 1 < 2 ^ 60 ∧ Q (.str (mk (enc n))) H
def spBitsN : Sp := fun vs H Q _ => ∃ i : Int, vs = [.int i] ∧ i.natAbs < 2 ^ 58 ∧ Q (.str (mk (enc (zig i)))) H
def spCntAt : Sp := fun vs H Q _ => ∃ (z : Str) (n : Nat), vs = [.str z, .int n] ∧ n ≤ z.length ∧ z.length ≤ 300 ∧ IsB (tl z) ∧ RdQ (rdC (tl z) n) H Q
def spNumAt : Sp := fun vs H Q _ => ∃ (z : Str) (n : Nat), vs = [.str z, .int n] ∧ n ≤ z.length ∧ z.length ≤ 300 ∧ IsB (tl z) ∧ RdQ (rdN (tl z) n) H Q
def spCntB (K : PySem.W.Frag) (BN : Addr) : Sp := fun vs H Q E => ∃ x t, vs = [x] ∧ Kd K H x t ∧ (∀ i, x = .int i → 0 ≤ i → i + 1 < 2 ^ 60 ∧ Q (.str (mk (enc i.toNat))) H) ∧ ((t ≠ "int" ∨ ∃ i, x = .int i ∧ i < 0) → E (.ref BN) none H)
def spNumBt (K : PySem.W.Frag) (BN : Addr) : Sp := fun vs H Q E => ∃ x t, vs = [x] ∧ Kd K H x t ∧ (∀ i, x = .int i → i.natAbs < 2 ^ 58 ∧ Q (.str (mk (enc (zig i)))) H) ∧ (t ≠ "int" → E (.ref BN) none H)
section
variable {P : Program} {w0 : World} {K : PySem.W.Frag} {mg : Str → Option Value} {base : Heap} {BN : Addr}
theorem ok_bits_of_count {f : Addr} {fd : FuncData} (F : Fun K "bits_of_count" "bits_of_count" s_bits_of_count f fd) (B : Bn2 mg) : FnOk P w0 K mg base CX0 1 f fd ["number"] spBitsC := by
  refine F.ok sc_bits_of_count (fun vs H Q E h => ?_) (fun cdv A outer s H vs Q E hr h => ?_)
  · obtain ⟨n, rfl, _⟩ := h
    rfl
  · obtain ⟨n, rfl, hn, q⟩ := h
    refine ⟨_, (pss_cons (ps_set (i := 1) sc_bits_of_count.nd rfl (.inl rfl) (pe_joined1 (pe_fmtB (pe_op op_add (pv 0) pe_int) (pe_joined1 pe_str))))
      (pss_one (ps_ret (pe_op op_add_str (pe_op op_mul_str pe_str (pe_op op_sub (pe_callB call_len_str (by rfl) B.len PySem.boot_len (pa_cons (pv 1) pa_nil)) pe_int)) (pv 1))))), ?_⟩
    have hl := binS_len n
    have h60 := log60 hn
    refine ⟨_, rfl, _, _, rfl, rfl, n + 1, rfl, by omega, ?_⟩
    refine ⟨_, rfl, _, rfl, small5 (by omega), _, _, rfl, rfl, "0", _, rfl, rfl, ?_, _, rfl, _, _, rfl, rfl, ?_, ?_⟩
    · rw [hl, s0, show ((Nat.log2 (n + 1) + 1 : Nat) : Int) - 1 = ((Nat.log2 (n + 1) : Nat) : Int) by omega]
      exact mul_ok _ _ (by omega)
    · rw [hl, s0, show ((Nat.log2 (n + 1) + 1 : Nat) : Int) - 1 = ((Nat.log2 (n + 1) : Nat) : Int) by omega, mul_one]
      refine small5 ?_
      have e : (⟨(List.replicate (Nat.log2 (n + 1)) 48).toArray⟩ : Str).length = Nat.log2 (n + 1) := by simp [Str.length]
      rw [e]
      omega
    · rw [hl, s0, show ((Nat.log2 (n + 1) + 1 : Nat) : Int) - 1 = ((Nat.log2 (n + 1) : Nat) : Int) by omega, mul_one]
      have e : (⟨(List.replicate (Nat.log2 (n + 1)) 48).toArray⟩ : Str) ++ binS (n + 1) = mk (enc n) := by
        rw [← mk_tl (binS (n + 1)), binS_tl, one_app]
        rfl
      rw [e]
      exact q
theorem ok_bits_of_number {f : Addr} {fd : FuncData} (F : Fun K "bits_of_number" "bits_of_number" s_bits_of_number f fd) (c_bits_of_count : Dq P w0 K mg base CX0 1 "bits_of_count" ["number"] spBitsC) : FnOk P w0 K mg base CX0 2 f fd ["number"] spBitsN := by
  refine F.ok sc_bits_of_number (fun vs H Q E h => ?_) (fun cdv A outer s H vs Q E hr h => ?_)
  · obtain ⟨n, rfl, _⟩ := h
    rfl
  · obtain ⟨i, rfl, hi, q⟩ := h
    refine ⟨_, (pss_one (ps_ret (pe_q c_bits_of_count hr (by decide) (by rfl) (pa_cons (pe_ifExp (pt_cmpR op_ge (pv 0) pe_int (nomark _)) (pe_op op_mul pe_int (pv 0)) (pe_op op_sub (pe_op op_mul (pe_un un_neg pe_int) (pv 0)) pe_int)) pa_nil)))), ?_⟩
    refine ⟨_, rfl, _, _, rfl, rfl, _, rfl, ite2 (fun h => ?_) (fun h => ?_)⟩
    · have h := of_decide_eq_true h
      refine ⟨_, rfl, _, _, rfl, rfl, .inl ⟨by decide, by decide⟩, zig i, ?_, ?_, q⟩
      · show [V.int (2 * i)] = [V.int (zig i)]
        rw [zig_ge h]
      · unfold zig
        rw [if_pos h]
        omega
    · have h : ¬ i ≥ 0 := fun z => h (decide_eq_true z)
      refine ⟨_, rfl, _, rfl, _, _, rfl, rfl, .inl ⟨by decide, by decide⟩, _, _, rfl, rfl, zig i, ?_, ?_, q⟩
      · show [V.int (-2 * i - 1)] = [V.int (zig i)]
        rw [zig_lt h]
      · unfold zig
        rw [if_neg h]
        omega
theorem ok_count_at {f : Addr} {fd : FuncData} (F : Fun K "count_at" "count_at" s_count_at f fd) (B : Bn2 mg) : FnOk P w0 K mg base CX0 1 f fd ["bits", "at"] spCntAt := by
  refine F.ok sc_count_at (fun vs H Q E h => ?_) (fun cdv A outer s H vs Q E hr h => ?_)
  · obtain ⟨z, n, rfl, _⟩ := h
    rfl
  · obtain ⟨z, n, rfl, hn, hl, hb, q⟩ := h
    refine ⟨_, (pss_cons (ps_set (i := 2) sc_count_at.nd rfl (.inl rfl) (pe_bm PySem.F.plainAttrs_str PySem.F.slot_str_find PySem.F.type_str_find mt_find3 (pv 0) (pa_cons pe_str (pa_cons (pv 1) pa_nil))))
      (pss_cons (ps_if (pt_cmpR op_lt (pv 2) pe_int (nomark _)) (pss_one (ps_ret pe_non)) pss_nil)
      (pss_cons (ps_set (i := 3) sc_count_at.nd rfl (.inl rfl) (pe_op op_add (pe_op op_add (pv 2) (pe_op op_sub (pv 2) (pv 1))) pe_int))
      (pss_one (ps_ret (pe_ifExp (pt_cmpR op_le (pv 3) (pe_callB call_len_str (by rfl) B.len PySem.boot_len (pa_cons (pv 0) pa_nil)) (nomark _)) (pe_tup (pa_cons (pe_op op_sub (pe_callTy call_int_bin (by rfl) B.int PySem.Pv.boot_int (pa_cons (pe_slice sl_str (pv 0) (po_some (pv 2)) (po_some (pv 3))) (pa_cons pe_int pa_nil))) pe_int) (pa_cons (pv 3) pa_nil))) pe_non)))))), ?_⟩
    refine ⟨_, rfl, rfl, _, rfl, z, "1", n, rfl, rfl, ?_⟩
    rw [s1, find_one z 49 n hn]
    have hbd : IsB ((tl z).drop n) := fun c hc => hb c (List.mem_of_mem_drop hc)
    obtain ⟨t1, t2⟩ := tw_zs _ hbd
    rw [t1]
    have hlen : ((tl z).drop n).length = z.length - n := by rw [List.length_drop]; rfl
    have hzl := zs_le ((tl z).drop n)
    by_cases hm : 49 ∈ (tl z).drop n
    · rw [if_pos hm]
      have hm := t2.mp hm
      refine ⟨_, rfl, _, _, rfl, rfl, _, rfl, ?_⟩
      rw [decide_eq_false (by omega)]
      refine iteF ⟨_, rfl, _, rfl, _, rfl, _, _, rfl, rfl, _, _, rfl, rfl, _, _, rfl, rfl, ?_⟩
      have e1 : (((n + zs ((tl z).drop n) : Nat) : Int) + (((n + zs ((tl z).drop n) : Nat) : Int) - (n : Int)) + 1) = ((n + (2 * zs ((tl z).drop n) + 1) : Nat) : Int) := by omega
      dsimp only
      rw [e1]
      refine ⟨_, rfl, _, rfl, z, rfl, small5 (by omega), _, _, rfl, rfl, _, rfl, ite2 (fun h => ?_) (fun h => ?_)⟩
      · have h := of_decide_eq_true h
        have ez : cutS z (some ((n + zs ((tl z).drop n) : Nat) : Int)) (some ((n + (2 * zs ((tl z).drop n) + 1) : Nat) : Int)) = mk ((((tl z).drop n).drop (zs ((tl z).drop n))).take (zs ((tl z).drop n) + 1)) := by
          rw [cutS_nn, List.drop_drop]
          congr 2
          congr 1
          omega
        refine ⟨_, rfl, _, rfl, _, rfl, _, rfl, _, rfl, z, rfl, small5 (by omega), _, rfl, ?_⟩
        rw [ez]
        have hl2 : ((((tl z).drop n).drop (zs ((tl z).drop n))).take (zs ((tl z).drop n) + 1)).length = zs ((tl z).drop n) + 1 := by
          rw [List.length_take, List.length_drop]
          omega
        refine ⟨fun e => ?_, ?_, ?_, _, _, rfl, rfl, _, rfl, (by show 2 ≤ sizeLine; decide), fun p hp => q.2 _ _ ?_ p _ hp (Same.new hp) upd_same⟩
        · rw [tl_mk] at e
          rw [e] at hl2
          exact absurd hl2 (by simp)
        · rw [len_mk, hl2]
          omega
        · rw [tl_mk]
          exact fun c hc => hbd c (List.mem_of_mem_drop (List.mem_of_mem_take hc))
        · rw [rdC_some hb (by omega), tl_mk]
      · have h : ¬ ((n + (2 * zs ((tl z).drop n) + 1) : Nat) : Int) ≤ (z.length : Int) := fun z => h (decide_eq_true z)
        exact q.1 (rdC_none (by omega)) H (Same.refl H)
    · rw [if_neg hm]
      have hz : ¬ zs ((tl z).drop n) < ((tl z).drop n).length := fun h => hm (t2.mpr h)
      refine ⟨_, rfl, _, _, rfl, rfl, _, rfl, ?_⟩
      exact iteT (q.1 (rdC_none (by omega)) H (Same.refl H))
theorem ok_number_at {f : Addr} {fd : FuncData} (F : Fun K "number_at" "number_at" s_number_at f fd) (B : Bn2 mg) (c_count_at : Dq P w0 K mg base CX0 1 "count_at" ["bits", "at"] spCntAt) : FnOk P w0 K mg base CX0 2 f fd ["bits", "at"] spNumAt := by
  refine F.ok sc_number_at (fun vs H Q E h => ?_) (fun cdv A outer s H vs Q E hr h => ?_)
  · obtain ⟨z, n, rfl, _⟩ := h
    rfl
  · obtain ⟨z, n, rfl, hn, hl, hb, q⟩ := h
    refine ⟨_, (pss_cons (ps_set (i := 2) sc_number_at.nd rfl (.inl rfl) (pe_q c_count_at hr (by decide) (by rfl) (pa_cons (pv 0) (pa_cons (pv 1) pa_nil))))
      (pss_cons (ps_if (pt_cmpR op_isN (pv 2) pe_non (nomark _)) (pss_one (ps_ret pe_non)) pss_nil)
      (pss_cons (ps_asg (pv 2) (pg_tup (by rfl) (pgs_cons (pg_name (i := 3) sc_number_at.nd rfl (Or.inl rfl)) (pgs_cons (pg_name (i := 4) sc_number_at.nd rfl (Or.inl rfl)) pgs_nil))))
      (pss_one (ps_ret (pe_tup (pa_cons (pe_ifExp (pt_truth (pe_op op_and (pv 3) pe_int) (by intro _; rfl)) (pe_op op_sub pe_int (pe_op op_fdiv (pe_op op_add (pv 3) pe_int) pe_int)) (pe_op op_fdiv (pv 3) pe_int)) (pa_cons (pv 4) pa_nil)))))))), ?_⟩
    refine ⟨_, rfl, _, rfl, z, n, rfl, hn, hl, hb, fun e H' s1 => ?_, fun a b e p H' hp s1 hq => ?_⟩
    · refine ⟨_, rfl, rfl, _, rfl, iteT (q.1 ?_ H' s1)⟩
      unfold rdC at e
      unfold rdN
      rw [Option.map_eq_none_iff] at e ⊢
      exact e
    · obtain ⟨c, rfl, en⟩ := rdN_of e
      have q2 := q.2 _ _ en
      refine ⟨_, rfl, rfl, _, rfl, iteF ⟨_, rfl, p, _, rfl, SqT.of hq, rfl, _, _, rfl, _, _, rfl, rfl, ?_⟩⟩
      refine ⟨_, rfl, _, _, rfl, rfl, _, rfl, ?_⟩
      rw [PyProof.Rows.bitAnd_m1]
      by_cases h : c % 2 = 0
      · have e0 : (((c : Int) % 2) != 0) = false := by
          rw [show ((c : Int) % 2) = 0 by omega]
          rfl
        rw [e0]
        refine iteF ⟨_, rfl, _, _, rfl, rfl, ⟨by decide, by decide⟩, _, rfl, (by show 2 ≤ sizeLine; decide), fun p2 hp2 => ?_⟩
        refine q2 p2 _ (s1.free hp2) (s1.trans (Same.new hp2)) ?_
        rw [upd_same]
        unfold zag
        rw [if_pos h]
        rfl
      · have e0 : (((c : Int) % 2) != 0) = true := by
          rw [show ((c : Int) % 2) = 1 by omega]
          rfl
        rw [e0]
        refine iteT ⟨_, rfl, _, _, rfl, rfl, _, _, rfl, rfl, ⟨by decide, by decide⟩, _, _, rfl, rfl, _, rfl, (by show 2 ≤ sizeLine; decide), fun p2 hp2 => ?_⟩
        refine q2 p2 _ (s1.free hp2) (s1.trans (Same.new hp2)) ?_
        rw [upd_same]
        unfold zag
        rw [if_neg h]
        have e2 : (0 : Int) - ((c : Int) + 1) / 2 = -(((c + 1) / 2 : Nat) : Int) := by omega
        rw [← e2]
end
end SA
set_option Elab.async false
set_option linter.all false
set_option maxRecDepth 100000
set_option maxHeartbeats 4000000
namespace SA
open PySem PySem.Spec PyProof.Rows L2 K82
/-- no string of bits -/
def NoBits (x : V) (t : String) : Prop := t ≠ "str" ∨ ∃ z, x = .str z ∧ z.length ≤ 100000 ∧ ¬ IsB (tl z)
def spChkB (K : PySem.W.Frag) (BB : Addr) : Sp := fun vs H Q E => ∃ x t, vs = [x] ∧ Kd K H x t ∧ ((∃ z, x = .str z ∧ z.length ≤ 100000 ∧ IsB (tl z) ∧ Q .non H) ∨ (NoBits x t ∧ RaiseF BB "at" .non H E))
/-- what is asked of bits and a place: all right | no bits | no place -/
def PlaceQ (K : PySem.W.Frag) (BB BN : Addr) (x y : V) (H : Hp) (good : Str → Nat → Prop) (E : XK) : Prop := ∃ t u, Kd K H x t ∧ Kd K H y u ∧
  ((∃ (z : Str) (n : Nat), x = .str z ∧ y = .int n ∧ n ≤ z.length ∧ z.length ≤ 100000 ∧ IsB (tl z) ∧ good z n) ∨ (NoBits x t ∧ RaiseF BB "at" .non H E) ∨
   (∃ z, x = .str z ∧ z.length ≤ 100000 ∧ IsB (tl z) ∧ (u ≠ "int" ∨ ∃ i : Int, y = .int i ∧ ¬ (0 ≤ i ∧ i ≤ z.length)) ∧ E (.ref BN) none H))
def spChkP (K : PySem.W.Frag) (BB BN : Addr) : Sp := fun vs H Q E => ∃ x y, vs = [x, y] ∧ PlaceQ K BB BN x y H (fun _ _ => Q .non H) E
def spRdC (K : PySem.W.Frag) (BB BN : Addr) : Sp := fun vs H Q E => ∃ x y, vs = [x, y] ∧ PlaceQ K BB BN x y H (fun z n => z.length ≤ 300 ∧ RdQ (rdC (tl z) n) H Q) E
def spRdN (K : PySem.W.Frag) (BB BN : Addr) : Sp := fun vs H Q E => ∃ x y, vs = [x, y] ∧ PlaceQ K BB BN x y H (fun z n => z.length ≤ 300 ∧ RdQ (rdN (tl z) n) H Q) E
section
variable {P : Program} {w0 : World} {K : PySem.W.Frag} {mg : Str → Option Value} {base : Heap} {BN BB fI : Addr} {fdI : FuncData}
theorem okI_BadBits {f : Addr} {fd : FuncData} {C : Addr} (F : Fun K "__init__" "BadBits.__init__" s_BadBits___init__ f fd) (T : Own24 K C f ["at"]) : FnOk P w0 K mg base CX0 1 f fd ["self", "at"] (spInit1 C "at") := by
  refine F.ok sc_BadBits___init__ (fun vs H Q E h => ?_) (fun cdv A outer s H vs Q E hr h => ?_)
  · obtain ⟨a, x, rfl, _⟩ := h
    rfl
  · obtain ⟨a, x, rfl, ha, k⟩ := h
    refine ⟨_, pss_one (ps_ost (pv 0) (pv 1)), ?_⟩
    exact ⟨x, rfl, .ref a, rfl, a, C, rfl, T.oex, T.no _ (by simp), .inl ⟨ha, fun dx hd ne => k dx _ hd ne upd_same (by rw [upd_ne ne, upd_same]) fun b o e hb => by rw [upd_ne hb, upd_ne (ne_of_none e hd)]; exact e⟩⟩
theorem ok_count_bits {f : Addr} {fd : FuncData} (F : Fun K "count_bits" "count_bits" s_count_bits f fd) (CN : Cl0 K mg "BadNumber" BN) (c_is_number : Dq P w0 K mg base CX0 1 "is_number" ["thing"] (spIsNum K)) (c_bits_of_count : Dq P w0 K mg base CX0 1 "bits_of_count" ["number"] spBitsC) :
    FnOk P w0 K mg base (L2.CX P w0) 2 f fd ["number"] (spCntB K BN) := by
  refine F.okX sc_count_bits (fun vs H Q E h => ?_) (fun cdv A outer s H vs Q E hr h => ?_)
  · obtain ⟨x, t, rfl, _⟩ := h
    rfl
  · obtain ⟨x, t, rfl, hk, q1, q2⟩ := h
    refine ⟨_, (pss_cons (ps_if (PW.pt (pw_or (pt_not (pt_val (pe_q c_is_number hr (by decide) (by rfl) (pa_cons (pv 0) pa_nil)))) (pw_or1 (pt_cmpR op_lt (pv 0) pe_int (nomark _))))) (pss_one (ps_raise rfl (takes_of rfl rfl rfl rfl) (pmk_own PySem.F.excBase_ValueError CN.x CN.g CN.k (raises_own CN.b CN.t) (by rfl)))) pss_nil)
      (pss_one (ps_ret (pe_q c_bits_of_count hr (by decide) (by rfl) (pa_cons (pv 0) pa_nil))))), ?_⟩
    refine ⟨_, rfl, x, t, rfl, hk, _, rfl, ?_⟩
    by_cases ht : t = "int"
    · obtain ⟨i, rfl⟩ := hk.int_of ht
      rw [decide_eq_true ht]
      refine iteF ⟨_, rfl, _, _, rfl, rfl, _, rfl, ite2 (fun h => ?_) (fun h => ?_)⟩
      · exact q2 (.inr ⟨i, rfl, of_decide_eq_true h⟩)
      · have h : ¬ i < 0 := fun z => h (decide_eq_true z)
        obtain ⟨n, rfl⟩ := Int.eq_ofNat_of_zero_le (show 0 ≤ i by omega)
        obtain ⟨a, q⟩ := q1 _ rfl (by omega)
        exact ⟨_, rfl, n, rfl, by omega, q⟩
    · rw [decide_eq_false ht]
      exact iteT (q2 (.inl ht))
theorem ok_number_bits {f : Addr} {fd : FuncData} (F : Fun K "number_bits" "number_bits" s_number_bits f fd) (CN : Cl0 K mg "BadNumber" BN) (c_is_number : Dq P w0 K mg base CX0 1 "is_number" ["thing"] (spIsNum K)) (c_bits_of_number : Dq P w0 K mg base CX0 2 "bits_of_number" ["number"] spBitsN) :
    FnOk P w0 K mg base (L2.CX P w0) 3 f fd ["number"] (spNumBt K BN) := by
  refine F.okX sc_number_bits (fun vs H Q E h => ?_) (fun cdv A outer s H vs Q E hr h => ?_)
  · obtain ⟨x, t, rfl, _⟩ := h
    rfl
  · obtain ⟨x, t, rfl, hk, q1, q2⟩ := h
    refine ⟨_, (pss_cons (ps_if (pt_not (pt_val (pe_q c_is_number hr (by decide) (by rfl) (pa_cons (pv 0) pa_nil)))) (pss_one (ps_raise rfl (takes_of rfl rfl rfl rfl) (pmk_own PySem.F.excBase_ValueError CN.x CN.g CN.k (raises_own CN.b CN.t) (by rfl)))) pss_nil)
      (pss_one (ps_ret (pe_q c_bits_of_number hr (by decide) (by rfl) (pa_cons (pv 0) pa_nil))))), ?_⟩
    refine ⟨_, rfl, x, t, rfl, hk, _, rfl, ?_⟩
    by_cases ht : t = "int"
    · obtain ⟨i, rfl⟩ := hk.int_of ht
      rw [decide_eq_true ht]
      obtain ⟨a, q⟩ := q1 _ rfl
      exact iteF ⟨_, rfl, i, rfl, a, q⟩
    · rw [decide_eq_false ht]
      exact iteT (q2 ht)
theorem ok_check_bits {f : Addr} {fd : FuncData} (F : Fun K "_check_bits" "_check_bits" s__check_bits f fd) (OB : Cl1 P w0 K mg base "BadBits" "at" BB fI fdI) (c_is_bit_string : Dq P w0 K mg base CX0 1 "is_bit_string" ["thing"] (spBitS K)) :
    FnOk P w0 K mg base (L2.CX P w0) 3 f fd ["bits"] (spChkB K BB) := by
  refine F.okX sc__check_bits (fun vs H Q E h => ?_) (fun cdv A outer s H vs Q E hr h => ?_)
  · obtain ⟨x, t, rfl, _⟩ := h
    rfl
  · obtain ⟨x, t, rfl, hk, q⟩ := h
    refine ⟨_, (pss_one (ps_if (pt_not (pt_val (pe_q c_is_bit_string hr (by decide) (by rfl) (pa_cons (pv 0) pa_nil)))) (pss_one (ps_raise rfl (takes_of rfl rfl rfl rfl) (pmk_oex OB.o.oex OB.o.init OB.o.fn OB.G hr OB.b .nil pass0 (by rfl) OB.g (pa_cons pe_non pa_nil)))) pss_nil)), ?_⟩
    rcases q with ⟨z, rfl, hz, hb, q⟩ | ⟨nb, q⟩
    · refine ⟨_, rfl, .str z, t, rfl, hk, fun y e => ?_, fun ne => ?_⟩
      · injection e with e
        subst e
        refine ⟨hz, _, rfl, ?_⟩
        rw [(isBs_iff z).mpr hb]
        exact iteF q
      · cases hk
        exact absurd rfl ne
    · refine ⟨_, rfl, x, t, rfl, hk, fun y e => ?_, fun ne => ⟨_, rfl, iteT (raiseF (fun R r => r) q)⟩⟩
      subst e
      rcases nb with nb | ⟨z, e, hz, hn⟩
      · cases hk
        exact absurd rfl nb
      · injection e with e
        subst e
        refine ⟨hz, _, rfl, ?_⟩
        rw [show isBs y = false by rw [← Bool.not_eq_true, isBs_iff]; exact hn]
        exact iteT (raiseF (fun R r => r) q)
theorem ok_check_place {f : Addr} {fd : FuncData} (F : Fun K "_check_place" "_check_place" s__check_place f fd) (B : Bn2 mg) (CN : Cl0 K mg "BadNumber" BN) (c__check_bits : Dq P w0 K mg base (L2.CX P w0) 3 "_check_bits" ["bits"] (spChkB K BB))
    (c_is_number_between : Dq P w0 K mg base CX0 2 "is_number_between" ["thing", "low", "high"] (spNumB K)) : FnOk P w0 K mg base (L2.CX P w0) 4 f fd ["bits", "at"] (spChkP K BB BN) := by
  refine F.okX sc__check_place (fun vs H Q E h => ?_) (fun cdv A outer s H vs Q E hr h => ?_)
  · obtain ⟨x, y, rfl, _⟩ := h
    rfl
  · obtain ⟨x, y, rfl, t, u, hk, hku, q⟩ := h
    refine ⟨_, (pss_cons (ps_expr (pe_qX c__check_bits hr (by decide) (by rfl) (passes_call (takes_of rfl rfl rfl rfl) fun _ _ _ _ h => h) (pa_cons (pv 0) pa_nil)))
      (pss_one (ps_if (pt_not (pt_val (pe_q c_is_number_between hr (by decide) (by rfl) (pa_cons (pv 1) (pa_cons pe_int (pa_cons (pe_callB call_len_str (by rfl) B.len PySem.boot_len (pa_cons (pv 0) pa_nil)) pa_nil)))))) (pss_one (ps_raise rfl (takes_of rfl rfl rfl rfl) (pmk_own PySem.F.excBase_ValueError CN.x CN.g CN.k (raises_own CN.b CN.t) (by rfl)))) pss_nil))), ?_⟩
    rcases q with ⟨z, n, rfl, rfl, hn, hz, hb, q⟩ | ⟨nb, q⟩ | ⟨z, rfl, hz, hb, bad, q⟩
    · refine ⟨_, rfl, .str z, t, rfl, hk, .inl ⟨z, rfl, hz, hb, ?_⟩⟩
      refine ⟨_, rfl, _, rfl, z, rfl, small5 hz, .int n, u, 0, _, rfl, hku, fun i e => ?_, fun ne => ?_⟩
      · injection e with e
        subst e
        refine ⟨_, rfl, ?_⟩
        rw [decide_eq_true (by omega)]
        exact iteF q
      · cases hku
        exact absurd rfl ne
    · exact ⟨_, rfl, x, t, rfl, hk, .inr ⟨nb, q⟩⟩
    · refine ⟨_, rfl, .str z, t, rfl, hk, .inl ⟨z, rfl, hz, hb, ?_⟩⟩
      refine ⟨_, rfl, _, rfl, z, rfl, small5 hz, y, u, 0, _, rfl, hku, fun i e => ?_, fun ne => ⟨_, rfl, iteT q⟩⟩
      subst e
      rcases bad with bad | ⟨j, e, bad⟩
      · cases hku
        exact absurd rfl bad
      · injection e with e
        subst e
        refine ⟨_, rfl, ?_⟩
        rw [decide_eq_false bad]
        exact iteT q
theorem ok_read_count {f : Addr} {fd : FuncData} (F : Fun K "read_count" "read_count" s_read_count f fd) (c__check_place : Dq P w0 K mg base (L2.CX P w0) 4 "_check_place" ["bits", "at"] (spChkP K BB BN))
    (c_count_at : Dq P w0 K mg base CX0 1 "count_at" ["bits", "at"] spCntAt) : FnOk P w0 K mg base (L2.CX P w0) 5 f fd ["bits", "at"] (spRdC K BB BN) := by
  refine F.okX sc_read_count (fun vs H Q E h => ?_) (fun cdv A outer s H vs Q E hr h => ?_)
  · obtain ⟨x, y, rfl, _⟩ := h
    rfl
  · obtain ⟨x, y, rfl, t, u, hk, hku, q⟩ := h
    refine ⟨_, (pss_cons (ps_expr (pe_qX c__check_place hr (by decide) (by rfl) (passes_call (takes_of rfl rfl rfl rfl) fun _ _ _ _ h => h) (pa_cons (pv 0) (pa_cons (pv 1) pa_nil))))
      (pss_one (ps_ret (pe_q c_count_at hr (by decide) (by rfl) (pa_cons (pv 0) (pa_cons (pv 1) pa_nil)))))), ?_⟩
    refine ⟨_, rfl, _, rfl, x, y, rfl, t, u, hk, hku, ?_⟩
    rcases q with ⟨z, n, rfl, rfl, hn, hz, hb, h3, q⟩ | q | q
    · exact .inl ⟨z, n, rfl, rfl, hn, hz, hb, _, rfl, _, rfl, z, n, rfl, hn, h3, hb, q⟩
    · exact .inr (.inl q)
    · exact .inr (.inr q)
theorem ok_read_number {f : Addr} {fd : FuncData} (F : Fun K "read_number" "read_number" s_read_number f fd) (c__check_place : Dq P w0 K mg base (L2.CX P w0) 4 "_check_place" ["bits", "at"] (spChkP K BB BN))
    (c_number_at : Dq P w0 K mg base CX0 2 "number_at" ["bits", "at"] spNumAt) : FnOk P w0 K mg base (L2.CX P w0) 5 f fd ["bits", "at"] (spRdN K BB BN) := by
  refine F.okX sc_read_number (fun vs H Q E h => ?_) (fun cdv A outer s H vs Q E hr h => ?_)
  · obtain ⟨x, y, rfl, _⟩ := h
    rfl
  · obtain ⟨x, y, rfl, t, u, hk, hku, q⟩ := h
    refine ⟨_, (pss_cons (ps_expr (pe_qX c__check_place hr (by decide) (by rfl) (passes_call (takes_of rfl rfl rfl rfl) fun _ _ _ _ h => h) (pa_cons (pv 0) (pa_cons (pv 1) pa_nil))))
      (pss_one (ps_ret (pe_q c_number_at hr (by decide) (by rfl) (pa_cons (pv 0) (pa_cons (pv 1) pa_nil)))))), ?_⟩
    refine ⟨_, rfl, _, rfl, x, y, rfl, t, u, hk, hku, ?_⟩
    rcases q with ⟨z, n, rfl, rfl, hn, hz, hb, h3, q⟩ | q | q
    · exact .inl ⟨z, n, rfl, rfl, hn, hz, hb, _, rfl, _, rfl, z, n, rfl, hn, h3, hb, q⟩
    · exact .inr (.inl q)
    · exact .inr (.inr q)
end
end SA
set_option Elab.async false
set_option linter.all false
set_option maxRecDepth 100000
set_option maxHeartbeats 4000000
namespace K82
open PySem
/-- the digits from behind -/
theorem bdig_front : ∀ (k m : Nat), bdig (k + 1) m = (48 + m / 2 ^ k % 2) :: bdig k m
  | 0, m => by simp [bdig]
  | k + 1, m => by
    rw [bdig, bdig_front k (m / 2), bdig, List.cons_append, Nat.div_div_eq_div_mul, Nat.pow_succ, Nat.mul_comm 2]
theorem toStr2 (n : Nat) : ((toString ((n % 2 : Nat) : Int) : String) : Str) = mk [48 + n % 2] := by
  rcases (show n % 2 = 0 ∨ n % 2 = 1 by omega) with h | h
  · rw [h]
    decide +kernel
  · rw [h]
    decide +kernel
theorem mk_app (a b : L) : mk a ++ mk b = mk (a ++ b) := by
  show (⟨_⟩ : Str) = _
  simp [mk]
theorem bval_le : ∀ (l : L), IsB l → bval l < 2 ^ l.length := by
  intro l
  unfold bval
  have h : ∀ (l : L) (a : Nat), IsB l → l.foldl (fun a c => 2 * a + dv c) a < (a + 1) * 2 ^ l.length := by
    intro l
    induction l with
    | nil => intro a _; simp
    | cons c l ih =>
      intro a hb
      rw [List.foldl_cons, List.length_cons, Nat.pow_succ]
      have h1 := ih (2 * a + dv c) fun d hd => hb d (List.mem_cons_of_mem _ hd)
      have h2 : dv c ≤ 1 := by
        rcases hb c (List.mem_cons_self ..) with rfl | rfl <;> decide
      refine Nat.lt_of_lt_of_le h1 ?_
      rw [Nat.mul_comm (2 ^ l.length) 2, ← Nat.mul_assoc]
      exact Nat.mul_le_mul_right _ (by omega)
  intro hb
  have := h l 0 hb
  simpa using this
theorem bval_take {l : L} {i c : Nat} (h : l[i]? = some c) : bval (l.take (i + 1)) = 2 * bval (l.take i) + dv c := by
  rw [List.take_add_one, h]
  exact bval_snoc _ _
theorem sgn_at {i : Nat} {c : Nat} : Str.length (mk [c]) = 1 := by rw [len_mk]; rfl
theorem intT0 : PySem.intText? (mk [48]) = some 0 := by decide +kernel
theorem intT1 : PySem.intText? (mk [49]) = some 1 := by decide +kernel
theorem intT {c : Nat} (h : c = 48 ∨ c = 49) : PySem.intText? (mk [c]) = some ((dv c : Nat) : Int) := by
  rcases h with rfl | rfl
  · exact intT0
  · exact intT1
theorem zs_at : ∀ (l : L) (i c : Nat), i ≤ zs l → l[i]? = some c → (c = 48 ↔ i < zs l)
  | [], i, c, _, h => by simp at h
  | d :: l, i, c, hi, h => by
    by_cases hd : d = 48
    · have e1 : zs (d :: l) = zs l + 1 := by simp [zs, hd]
      rw [e1] at hi ⊢
      cases i with
      | zero =>
        simp at h
        omega
      | succ i =>
        rw [List.getElem?_cons_succ] at h
        have := zs_at l i c (by omega) h
        omega
    · have e1 : zs (d :: l) = 0 := by simp [zs, hd]
      rw [e1] at hi ⊢
      have : i = 0 := by omega
      subst this
      simp at h
      omega
end K82
namespace SA
open PySem PySem.Spec PyProof.Rows L2 K82
theorem DrawAt.knowD {H : Hp} {d w c p : Addr} {n : Nat} (h : DrawAt H d w c n) (hp : H p = none) : p ≠ d ∧ p ≠ w ∧ p ≠ c := by
  obtain ⟨⟨r, t, _, _, e1⟩, ⟨ws, e2⟩, ⟨cs, e3⟩, _⟩ := h
  exact ⟨(ne_of_none e1 hp).symm, (ne_of_none e2 hp).symm, (ne_of_none e3 hp).symm⟩
/-- something of one's own is changed -/
theorem DrawAt.upd {H : Hp} {d w c p : Addr} {n : Nat} {o : HO} (h : DrawAt H d w c n) (h1 : p ≠ d) (h2 : p ≠ w) (h3 : p ≠ c) : DrawAt (upd H p o) d w c n := by
  obtain ⟨⟨r, t, a1, a2, e⟩, ⟨ws, e2⟩, ⟨cs, e3⟩, ne⟩ := h
  exact ⟨⟨r, t, a1, a2, by rw [upd_ne h1.symm]; exact e⟩, ⟨ws, by rw [upd_ne h2.symm]; exact e2⟩, ⟨cs, by rw [upd_ne h3.symm]; exact e3⟩, ne⟩
theorem But2.mut {d w p : Addr} {H H' : Hp} {o : HO} (b : But2 d w H H') (h : H p = none) : But2 d w H (L2.upd H' p o) := fun x u e h1 h2 => by
  rw [upd_ne (ne_of_none e h)]
  exact b x u e h1 h2
theorem But2.free {d w p : Addr} {H H' : Hp} (b : But2 d w H H') (h : H' p = none) (h1 : p ≠ d) (h2 : p ≠ w) : H p = none := by
  match e : H p with
  | none => rfl
  | some o =>
    have := b p o e h1 h2
    rw [h] at this
    cases this
theorem Same.but2 {d w : Addr} {H H' : Hp} (s : Same H H') : But2 d w H H' := fun b o e _ _ => s b o e
theorem tl_inj' {a b : Str} (h : tl a = tl b) : a = b := by rw [← mk_tl a, ← mk_tl b, h]
theorem join_signs (l : L) : Txt.join "" (l.map fun c => mk [c]) = mk l := by
  rw [TL.join_eq]
  have e : ∀ l : L, tl (Str.join "" (l.map fun c => mk [c])) = l := by
    intro l
    induction l with
    | nil => rfl
    | cons c l ih =>
      rw [List.map_cons]
      cases hl : l.map (fun c => mk [c]) with
      | nil =>
        have : l = [] := by simpa using hl
        subst this
        rfl
      | cons y r =>
        rw [hl] at ih
        show tl (mk [c] ++ "" ++ Str.join "" (y :: r)) = _
        show (mk [c] ++ "" ++ Str.join "" (y :: r)).cps.toList = _
        have e1 : ∀ a b : Str, (a ++ b).cps.toList = a.cps.toList ++ b.cps.toList := fun a b => by
          show (a.cps ++ b.cps).toList = _
          rw [Array.toList_append]
        have ih : (Str.join "" (y :: r)).cps.toList = l := ih
        rw [e1, e1, ih]
        rfl
  exact tl_inj' (by rw [e, tl_mk])
def spFig : Sp := fun vs H Q _ => ∃ (d w c : Addr) (n : Nat), vs = [.ref d] ∧ DrawAt H d w c n ∧ n < 2 ^ 39 ∧ ∀ (i : Int) (H' : Hp), i.natAbs ≤ 1000000000000 → DrawAt H' d w c (n + 5) → But2 d w H H' → Q (.int i) H'
def spDig : Sp := fun vs H Q _ => ∃ (m k : Nat), vs = [.int m, .int k] ∧ k ≤ 100 ∧ Q (.str (mk (bdig k m))) H
def spVal : Sp := fun vs H Q _ => ∃ z : Str, vs = [.str z] ∧ z.length ≤ 300 ∧ IsB (tl z) ∧ Q (.int ((bval (tl z) : Nat) : Int)) H
section
variable {P : Program} {w0 : World} {K : PySem.W.Frag} {mg : Str → Option Value} {base : Heap}
theorem ok_figure {f : Addr} {fd : FuncData} (F : Fun K "_law_figure" "_law_figure" s__law_figure f fd) (c__law_take : Dq P w0 K mg base CX0 2 "_law_take" ["draw", "many"] spTake) : FnOk P w0 K mg base CX0 3 f fd ["draw"] spFig := by
  refine F.ok sc__law_figure (fun vs H Q E h => ?_) (fun cdv A outer s H vs Q E hr h => ?_)
  · obtain ⟨d, w, c, n, rfl, _⟩ := h
    rfl
  · obtain ⟨d, w, c, n, rfl, hD, hn, k⟩ := h
    refine ⟨_, (pss_cons (ps_set (i := 1) sc__law_figure.nd rfl (Or.inl rfl) (pe_q c__law_take hr (by decide) (by rfl) (pa_cons (pv 0) (pa_cons pe_int pa_nil))))
      (pss_cons (ps_if (pt_cmpR op_eq (pv 1) pe_int (nomark _)) (pss_one (ps_ret (pe_op op_sub (pe_q c__law_take hr (by decide) (by rfl) (pa_cons (pv 0) (pa_cons pe_int pa_nil))) pe_int))) pss_nil)
      (pss_one (ps_ret (pe_ifExp (pt_cmpR op_lt (pv 1) pe_int (nomark _)) (pe_q c__law_take hr (by decide) (by rfl) (pa_cons (pv 0) (pa_cons pe_int pa_nil))) (pe_op op_sub (pe_q c__law_take hr (by decide) (by rfl) (pa_cons (pv 0) (pa_cons pe_int pa_nil))) pe_int)))))), ?_⟩
    have big : (2 : Nat) ^ 39 + 10 < 2 ^ 40 := by decide
    refine ⟨_, rfl, d, w, c, n, 8, rfl, hD, by omega, by decide, by decide, fun i H1 i0 i1 D1 b1 => ?_⟩
    refine ⟨_, rfl, rfl, _, rfl, ite2 (fun h => ?_) (fun h => ?_)⟩
    · refine ⟨_, rfl, d, w, c, n + 1, 1999999999999, rfl, D1, by omega, by decide, by decide, fun j H2 j0 j1 D2 b2 => ⟨_, _, rfl, rfl, ?_⟩⟩
      exact k _ _ (by omega) (D2.mono (by omega)) (b1.trans b2)
    · refine ⟨_, rfl, _, _, rfl, rfl, _, rfl, ite2 (fun h => ?_) (fun h => ?_)⟩
      · refine ⟨_, rfl, d, w, c, n + 1, 3, rfl, D1, by omega, by decide, by decide, fun j H2 j0 j1 D2 b2 => ?_⟩
        exact k _ _ (by omega) (D2.mono (by omega)) (b1.trans b2)
      · refine ⟨_, rfl, d, w, c, n + 1, 300, rfl, D1, by omega, by decide, by decide, fun j H2 j0 j1 D2 b2 => ⟨_, _, rfl, rfl, ?_⟩⟩
        exact k _ _ (by omega) (D2.mono (by omega)) (b1.trans b2)
theorem ok_digits {f : Addr} {fd : FuncData} (F : Fun K "_law_digits" "_law_digits" s__law_digits f fd) (B : Bn2 mg) : FnOk P w0 K mg base CX0 1 f fd ["number", "many"] spDig := by
  refine F.ok sc__law_digits (fun vs H Q E h => ?_) (fun cdv A outer s H vs Q E hr h => ?_)
  · obtain ⟨m, k, rfl, _⟩ := h
    rfl
  · obtain ⟨m, k, rfl, hk, q⟩ := h
    refine ⟨_, (pss_cons (ps_par (i := 2) (j := 3) rfl sc__law_digits.nd rfl rfl (by decide) rfl rfl (pa_cons pe_str (pa_cons (pv 0) pa_nil)) rfl)
      (pss_cons (ps_for PassesOwn.never rfl (pi_range1 (by rfl) B.range (pa_cons (pv 1) pa_nil)) (pg_name (i := 4) sc__law_digits.nd rfl (Or.inl rfl)) (pss_cons (ps_set (i := 2) sc__law_digits.nd rfl (Or.inl rfl) (pe_op op_add_str (pe_callTy call_str_int (by rfl) B.str PySem.Pv.boot_str (pa_cons (pe_op op_mod (pe_callTy call_int1 (by rfl) B.int PySem.Pv.boot_int (pa_cons (pv 3) pa_nil)) pe_int) pa_nil)) (pv 2)))
      (pss_one (ps_set (i := 3) sc__law_digits.nd rfl (Or.inl rfl) (pe_op op_fdiv (pv 3) pe_int)))))
      (pss_one (ps_ret (pv 2))))), ?_⟩
    have b62 : (100 : Int) < 2 ^ 62 := by decide
    refine ⟨_, rfl, _, _, rfl, _, rfl, (k : Int), rfl, by omega, by omega, ?_⟩
    rw [Int.toNat_natCast]
    refine for_range (lo := 0) (n := k) (fun i σ H' => H' = H ∧ ∃ y, σ = [some (.int m), some (.int k), some (.str (mk (bdig i m))), some (.int ((m / 2 ^ i : Nat) : Int)), y]) ⟨rfl, none, ?_⟩ ?_ ?_
    · simp [bdig]
      rfl
    · rintro i σ H' hi ⟨rfl, y, rfl⟩
      refine ⟨_, rfl, .inl ⟨_, rfl, _, _, rfl, rfl, (by show (0 : Int) < 2; decide), _, rfl, ?_, _, rfl, _, _, rfl, rfl, ?_, _, rfl, _, _, rfl, rfl, ⟨by decide, by decide⟩, rfl, some (.int (0 + (i : Int))), ?_⟩⟩
      · refine Nat.lt_of_le_of_lt (Nat.log2_le_self _) ?_
        omega
      · rw [show ((m / 2 ^ i : Nat) : Int) % 2 = ((m / 2 ^ i % 2 : Nat) : Int) by omega, toStr2, len_mk, len_mk, bdig_len]
        exact small5 (by show 1 + i ≤ 100000; omega)
      · rw [show ((m / 2 ^ i : Nat) : Int) % 2 = ((m / 2 ^ i % 2 : Nat) : Int) by omega, toStr2, mk_app, bdig_front]
        have e : ((m / 2 ^ i : Nat) : Int) / 2 = ((m / 2 ^ (i + 1) : Nat) : Int) := by
          rw [Nat.pow_succ, ← Nat.div_div_eq_div_mul]
          omega
        dsimp only
        rw [e]
        rfl
    · rintro σ H' ⟨rfl, y, rfl⟩
      exact ⟨_, rfl, q⟩
theorem ok_value {f : Addr} {fd : FuncData} (F : Fun K "_law_value" "_law_value" s__law_value f fd) (B : Bn2 mg) : FnOk P w0 K mg base CX0 1 f fd ["bits"] spVal := by
  refine F.ok sc__law_value (fun vs H Q E h => ?_) (fun cdv A outer s H vs Q E hr h => ?_)
  · obtain ⟨z, rfl, _⟩ := h
    rfl
  · obtain ⟨z, rfl, hz, hb, q⟩ := h
    refine ⟨_, (pss_cons (ps_set (i := 1) sc__law_value.nd rfl (Or.inl rfl) pe_int)
      (pss_cons (ps_for PassesOwn.never rfl (pi_str (pv 0)) (pg_name (i := 2) sc__law_value.nd rfl (Or.inl rfl)) (pss_one (ps_set (i := 1) sc__law_value.nd rfl (Or.inl rfl) (pe_op op_add (pe_op op_mul pe_int (pv 1)) (pe_callTy call_int_str (by rfl) B.int PySem.Pv.boot_int (pa_cons (pv 2) pa_nil))))))
      (pss_one (ps_ret (pv 1))))), ?_⟩
    refine ⟨_, rfl, z, rfl, for_it walk_str (fun i σ H' => H' = H ∧ ∃ y, σ = [some (.str z), some (.int ((bval ((tl z).take i) : Nat) : Int)), y]) ⟨rfl, _, rfl⟩ (fun _ _ _ _ _ => trivial) ?_ ?_⟩
    · rintro i x σ H' H'' hi ⟨rfl, y, rfl⟩ hx
      obtain ⟨rfl, c, hc, rfl⟩ := hx
      have hc : (tl z)[i]? = some c := by simpa using hc
      have hcb := hb c (List.mem_of_getElem? hc)
      refine ⟨_, rfl, _, _, rfl, rfl, .inl ⟨by decide, by decide⟩, _, rfl, mk [c], _, rfl, intT hcb, (by show 1 ≤ 640; decide), _, _, rfl, rfl, rfl, some (.str (mk [c])), ?_⟩
      rw [bval_take hc, Int.natCast_add, Int.natCast_mul]
      rfl
    · rintro σ H' ⟨rfl, y, rfl⟩
      refine ⟨_, rfl, ?_⟩
      have e : (tl z).take z.cps.size = tl z := List.take_of_length_le (Nat.le_refl _)
      rw [e]
      exact q
theorem ok_count {f : Addr} {fd : FuncData} (F : Fun K "_law_count" "_law_count" s__law_count f fd) (c__law_digits : Dq P w0 K mg base CX0 1 "_law_digits" ["number", "many"] spDig) : FnOk P w0 K mg base CX0 2 f fd ["number"] spBitsC := by
  refine F.ok sc__law_count (fun vs H Q E h => ?_) (fun cdv A outer s H vs Q E hr h => ?_)
  · obtain ⟨n, rfl, _⟩ := h
    rfl
  · obtain ⟨n, rfl, hn, q⟩ := h
    refine ⟨_, (pss_cons (ps_par (i := 1) (j := 2) rfl sc__law_count.nd rfl rfl (by decide) rfl rfl (pa_cons pe_int (pa_cons (pe_op op_add (pv 0) pe_int) pa_nil)) rfl)
      (pss_cons (ps_while PassesOwn.never (pt_cmpR op_gt (pv 2) pe_int (nomark _)) (pss_one (ps_par (i := 1) (j := 2) rfl sc__law_count.nd rfl rfl (by decide) rfl rfl (pa_cons (pe_op op_add (pv 1) pe_int) (pa_cons (pe_op op_fdiv (pv 2) pe_int) pa_nil)) rfl)))
      (pss_one (ps_ret (pe_op op_add_str (pe_op op_mul_str pe_str (pv 1)) (pe_q c__law_digits hr (by decide) (by rfl) (pa_cons (pe_op op_add (pv 0) pe_int) (pa_cons (pe_op op_add (pv 1) pe_int) pa_nil)))))))), ?_⟩
    refine ⟨_, rfl, _, _, rfl, rfl, _, _, rfl, ?_⟩
    refine ⟨fun m σ H' => H' = H ∧ ∃ j : Nat, 2 ^ j ≤ n + 1 ∧ m = (n + 1) / 2 ^ j ∧ σ = [some (.int n), some (.int j), some (.int (((n + 1) / 2 ^ j : Nat) : Int))], ⟨_, rfl, 0, by simp, rfl, by simp; rfl⟩, ?_⟩
    rintro m σ H' ⟨rfl, j, hj, rfl, rfl⟩
    refine ⟨_, rfl, _, _, rfl, rfl, _, rfl, ite2 (fun h => ?_) (fun h => ?_)⟩
    · have h : ((n + 1) / 2 ^ j : Nat) > 1 := by have := of_decide_eq_true h; omega
      refine ⟨fun σ' H2 => ∃ m', m' < (n + 1) / 2 ^ j ∧ (H2 = H' ∧ ∃ j : Nat, 2 ^ j ≤ n + 1 ∧ m' = (n + 1) / 2 ^ j ∧ σ' = [some (.int n), some (.int j), some (.int (((n + 1) / 2 ^ j : Nat) : Int))]), fun σ' H2 z => z, ?_⟩
      have e : (n + 1) / 2 ^ (j + 1) = (n + 1) / 2 ^ j / 2 := by rw [Nat.pow_succ, Nat.div_div_eq_div_mul]
      refine ⟨_, rfl, _, _, rfl, rfl, _, rfl, _, _, rfl, rfl, ⟨by decide, by decide⟩, _, _, rfl, (n + 1) / 2 ^ (j + 1), by omega, rfl, j + 1, ?_, rfl, ?_⟩
      · have h2 : 2 * 2 ^ j ≤ n + 1 := Nat.le_trans (Nat.mul_le_mul_right _ h) (Nat.div_mul_le_self _ _)
        rw [Nat.pow_succ, Nat.mul_comm]
        exact h2
      · have e2 : (((n + 1) / 2 ^ j : Nat) : Int) / 2 = (((n + 1) / 2 ^ (j + 1) : Nat) : Int) := by omega
        dsimp only
        rw [e2]
        rfl
    · have h : ((n + 1) / 2 ^ j : Nat) ≤ 1 := by
        have : ¬ (((n + 1) / 2 ^ j : Nat) : Int) > 1 := fun z => h (decide_eq_true z)
        omega
      have hp : 0 < 2 ^ j := Nat.two_pow_pos j
      have h1 : n + 1 < 2 ^ (j + 1) := by
        have h2 : n + 1 < 2 ^ j * ((n + 1) / 2 ^ j + 1) := Nat.lt_mul_div_succ _ hp
        rw [Nat.pow_succ]
        exact Nat.lt_of_lt_of_le h2 (Nat.mul_le_mul_left _ (by omega))
      have ej : j = Nat.log2 (n + 1) := by
        have a1 := (Nat.le_log2 (by omega : n + 1 ≠ 0)).mpr hj
        have a2 := (Nat.log2_lt (by omega : n + 1 ≠ 0)).mpr h1
        omega
      have h60 := log60 hn
      refine ⟨_, rfl, "0", _, rfl, rfl, ?_, _, rfl, _, _, rfl, rfl, _, rfl, _, _, rfl, rfl, n + 1, j + 1, ?_, by omega, _, _, rfl, rfl, ?_, ?_⟩
      · rw [s0]
        exact mul_ok _ _ (by omega)
      · rfl
      · rw [s0, mul_one]
        show (mk (List.replicate j 48)).length + _ ≤ _
        rw [len_mk, len_mk, List.length_replicate, bdig_len]
        exact small5 (by omega)
      · rw [s0, mul_one, one_app, ej]
        exact q
theorem ok_signed {f : Addr} {fd : FuncData} (F : Fun K "_law_signed" "_law_signed" s__law_signed f fd) (c__law_count : Dq P w0 K mg base CX0 2 "_law_count" ["number"] spBitsC) : FnOk P w0 K mg base CX0 3 f fd ["number"] spBitsN := by
  refine F.ok sc__law_signed (fun vs H Q E h => ?_) (fun cdv A outer s H vs Q E hr h => ?_)
  · obtain ⟨n, rfl, _⟩ := h
    rfl
  · obtain ⟨i, rfl, hi, q⟩ := h
    refine ⟨_, (pss_one (ps_ret (pe_q c__law_count hr (by decide) (by rfl) (pa_cons (pe_ifExp (pt_cmpR op_ge (pv 0) pe_int (nomark _)) (pe_op op_mul pe_int (pv 0)) (pe_op op_sub (pe_op op_mul (pe_un un_neg pe_int) (pv 0)) pe_int)) pa_nil)))), ?_⟩
    refine ⟨_, rfl, _, _, rfl, rfl, _, rfl, ite2 (fun h => ?_) (fun h => ?_)⟩
    · have h := of_decide_eq_true h
      refine ⟨_, rfl, _, _, rfl, rfl, .inl ⟨by decide, by decide⟩, zig i, ?_, ?_, q⟩
      · show [V.int (2 * i)] = [V.int (zig i)]
        rw [zig_ge h]
      · unfold zig
        rw [if_pos h]
        omega
    · have h : ¬ i ≥ 0 := fun z => h (decide_eq_true z)
      refine ⟨_, rfl, _, rfl, _, _, rfl, rfl, .inl ⟨by decide, by decide⟩, _, _, rfl, rfl, zig i, ?_, ?_, q⟩
      · show [V.int (-2 * i - 1)] = [V.int (zig i)]
        rw [zig_lt h]
      · unfold zig
        rw [if_neg h]
        omega
def spBits : Sp := fun vs H Q _ => ∃ (d w c : Addr) (n m : Nat), vs = [.ref d, .int m] ∧ DrawAt H d w c n ∧ n < 2 ^ 39 ∧ m ≤ 100 ∧ ∀ (z : Str) (H' : Hp), IsB (tl z) → z.length ≤ m → DrawAt H' d w c (n + m + 5) → But2 d w H H' → Q (.str z) H'
theorem ok_bits {f : Addr} {fd : FuncData} (F : Fun K "_law_bits" "_law_bits" s__law_bits f fd) (B : Bn2 mg) (c__law_take : Dq P w0 K mg base CX0 2 "_law_take" ["draw", "many"] spTake) (c__law_pick : Dq P w0 K mg base CX0 3 "_law_pick" ["draw", "some"] (spPick K)) :
    FnOk P w0 K mg base CX0 4 f fd ["draw", "most"] spBits := by
  refine F.ok sc__law_bits (fun vs H Q E h => ?_) (fun cdv A outer s H vs Q E hr h => ?_)
  · obtain ⟨d, w, c, n, m, rfl, _⟩ := h
    rfl
  · obtain ⟨d, w, c, n, m, rfl, hD, hn, hm, k⟩ := h
    refine ⟨_, (pss_cons (ps_asg (pe_tup (pa_cons (pe_q c__law_take hr (by decide) (by rfl) (pa_cons (pv 0) (pa_cons (pe_op op_add (pv 1) pe_int) pa_nil))) (pa_cons (pe_q c__law_pick hr (by decide) (by rfl) (pa_cons (pv 0) (pa_cons (pe_lst (pa_cons pe_int (pa_cons pe_int (pa_cons pe_int pa_nil)))) pa_nil))) pa_nil))) (pg_tup (by rfl) (pgs_cons (pg_name (i := 2) sc__law_bits.nd rfl (Or.inl rfl)) (pgs_cons (pg_name (i := 3) sc__law_bits.nd rfl (Or.inr rfl)) pgs_nil))))
      (pss_one (ps_ret (pe_join pe_str (pe_lc (own := [("k", 4)]) (g := (gName 4)) (tt := tYes) (by rfl) sc__law_bits.nd (pi_range1 (by rfl) B.range (pa_cons (pv 2) pa_nil)) (blkOk_by (N := n__law_bits) (sc := defScope s__law_bits) (by decide +kernel)) (fun _ _ _ _ _ => (pg_name (i := 4) sc__law_bits.nd rfl (Or.inl rfl))) (fun _ _ _ _ _ => pts_nil) (fun _ _ _ _ _ => (pe_ifExp (pt_cmpR op_eq (pe_q c__law_take hr (by decide) (by rfl) (pa_cons (pv 0) (pa_cons (pv 3) pa_nil))) pe_int (nomark _)) pe_str pe_str))))))), ?_⟩
    refine ⟨_, rfl, _, rfl, _, _, rfl, rfl, d, w, c, n, (m : Int) + 1, rfl, hD, by omega, by omega, by omega, fun j H1 j0 j1 D1 b1 => ?_⟩
    refine ⟨_, rfl, (by show 3 ≤ sizeLine; decide), fun a ha => ?_⟩
    have ka := D1.knowD ha
    refine ⟨d, w, c, a, n + 1, _, rfl, D1.new ha, by omega, ka.1, ka.2.1, SqL.of upd_same, by simp, by decide, fun x H2 hx D2 b2 => ?_⟩
    obtain ⟨v, rfl, hv⟩ : ∃ v : Int, x = .int v ∧ (v = 2 ∨ v = 7) := by
      simp only [List.mem_cons, List.not_mem_nil, or_false] at hx
      rcases hx with rfl | rfl | rfl
      · exact ⟨2, rfl, .inl rfl⟩
      · exact ⟨2, rfl, .inl rfl⟩
      · exact ⟨7, rfl, .inr rfl⟩
    have b12 : But2 d w H H2 := (b1.new ha).trans b2
    refine ⟨(by show 2 ≤ sizeLine; decide), fun t ht => ⟨t, _, rfl, SqT.of upd_same, rfl, _, _, rfl, _, _, rfl, rfl, ?_⟩⟩
    have D3 := D2.new (o := .tup [.int j, .int v]) ht
    have b3 := b12.new (o := .tup [.int j, .int v]) ht
    generalize upd H2 t (.tup [.int j, .int v]) = H3 at D3 b3
    have j62 : (100 : Int) < 2 ^ 62 := by decide
    refine ⟨⟨_, rfl⟩, _, rfl, j, rfl, by omega, by omega, fun q hq => ?_⟩
    obtain ⟨jn, rfl⟩ := Int.eq_ofNat_of_zero_le j0
    show ∃ W, _
    rw [Int.toNat_natCast]
    have kq := D3.knowD hq
    refine lc_range (lo := 0) (n := jn) (fun i H' => ∃ l : L, l.length = i ∧ IsB l ∧ DrawAt H' d w c (n + 2 + i) ∧ But2 d w H H' ∧ H' q = some (.lst ((l.map fun ch => mk [ch]).map V.str)))
      ⟨[], rfl, (fun c h => by cases h), D3.new hq, b3.new hq, upd_same⟩ ?_ ?_
    · rintro i H4 hi ⟨l, hl, hb, D4, b4, e4⟩
      refine ⟨rfl, yes ⟨_, rfl, _, rfl, d, w, c, n + 2 + i, v, rfl, D4, by omega, by omega, by omega, fun y H5 y0 y1 D5 b5 => ?_⟩⟩
      have e5 := b5 _ _ e4 kq.1 kq.2.1
      have fin : ∀ ch : Nat, ch = 48 ∨ ch = 49 → ∃ acc, H5 q = some (HO.lst acc) ∧ acc.length < sizeLine ∧ ∃ l : L, l.length = i + 1 ∧ IsB l ∧ DrawAt (L2.upd H5 q (.lst (acc ++ [.str (mk [ch])]))) d w c (n + 2 + (i + 1)) ∧ But2 d w H (L2.upd H5 q (.lst (acc ++ [.str (mk [ch])]))) ∧
          (L2.upd H5 q (.lst (acc ++ [.str (mk [ch])]))) q = some (.lst ((l.map fun ch => mk [ch]).map V.str)) := fun ch hch => by
        refine ⟨_, e5, ?_, l ++ [ch], by simp [hl], ?_, D5.upd kq.1 kq.2.1 kq.2.2, (b4.trans b5).mut (b3.free hq kq.1 kq.2.1), ?_⟩
        · rw [List.length_map, List.length_map, hl]
          exact small1000 (by omega)
        · intro x hx
          rcases List.mem_append.mp hx with hx | hx
          · exact hb x hx
          · rw [List.mem_singleton.mp hx]
            exact hch
        · rw [upd_same, List.map_append, List.map_append]
          rfl
      refine ⟨rfl, _, rfl, ite2 (fun _ => ?_) (fun _ => ?_)⟩
      · have := fin 49 (.inr rfl)
        rw [show mk [49] = ("1" : Str) from s1.symm] at this
        exact this
      · have := fin 48 (.inl rfl)
        rw [show mk [48] = ("0" : Str) from s0.symm] at this
        exact this
    · rintro H4 ⟨l, hl, hb, D4, b4, e4⟩
      refine ⟨_, q, l.map fun ch => mk [ch], rfl, rfl, .inl (SqL.of e4), ?_, ?_⟩
      · have e : ∀ l : L, ((l.map fun ch => mk [ch]).map (·.length)).sum = l.length := by
          intro l
          induction l with
          | nil => rfl
          | cons c l ih =>
            rw [List.map_cons, List.map_cons, List.sum_cons, ih, List.length_cons]
            show 1 + _ = _
            omega
        rw [e, show ("" : Str).length = 0 by decide +kernel]
        omega
      · rw [join_signs]
        refine k _ _ (by rw [tl_mk]; exact hb) (by rw [len_mk]; omega) (D4.mono (by omega)) b4
def spEdge : Sp := fun vs H Q _ => ∃ (d w c : Addr) (n : Nat), vs = [.ref d] ∧ DrawAt H d w c n ∧ n < 2 ^ 38 ∧ ∀ (i : Int) (H' : Hp), i.natAbs ≤ 2 ^ 41 → DrawAt H' d w c (n + 20) → But2 d w H H' → Q (.int i) H'
theorem ok_edge {f : Addr} {fd : FuncData} (F : Fun K "_law_edge" "_law_edge" s__law_edge f fd) (B : Bn2 mg) (c__law_take : Dq P w0 K mg base CX0 2 "_law_take" ["draw", "many"] spTake) (c__law_figure : Dq P w0 K mg base CX0 3 "_law_figure" ["draw"] spFig) :
    FnOk P w0 K mg base CX0 4 f fd ["draw"] spEdge := by
  refine F.ok sc__law_edge (fun vs H Q E h => ?_) (fun cdv A outer s H vs Q E hr h => ?_)
  · obtain ⟨d, w, c, n, rfl, _⟩ := h
    rfl
  · obtain ⟨d, w, c, n, rfl, hD, hn, k⟩ := h
    refine ⟨_, (pss_cons (ps_set (i := 1) sc__law_edge.nd rfl (Or.inl rfl) pe_int)
      (pss_cons (ps_for PassesOwn.never rfl (pi_range1 (by rfl) B.range (pa_cons (pe_q c__law_take hr (by decide) (by rfl) (pa_cons (pv 0) (pa_cons pe_int pa_nil))) pa_nil)) (pg_name (i := 2) sc__law_edge.nd rfl (Or.inl rfl)) (pss_one (ps_set (i := 1) sc__law_edge.nd rfl (Or.inl rfl) (pe_op op_mul pe_int (pv 1)))))
      (Evl.pss_cut (ps_set (i := 3) sc__law_edge.nd rfl (Or.inl rfl) (pe_ifExp (pt_cmpR op_eq (pe_q c__law_take hr (by decide) (by rfl) (pa_cons (pv 0) (pa_cons pe_int pa_nil))) pe_int (nomark _)) (pe_op op_add (pe_op op_sub (pv 1) pe_int) (pe_q c__law_take hr (by decide) (by rfl) (pa_cons (pv 0) (pa_cons pe_int pa_nil)))) (pe_callB call_abs (by rfl) B.abs (by decide +kernel) (pa_cons (pe_q c__law_figure hr (by decide) (by rfl) (pa_cons (pv 0) pa_nil)) pa_nil))))
      (pss_one (ps_ret (pe_ifExp (pt_cmpR op_eq (pe_q c__law_take hr (by decide) (by rfl) (pa_cons (pv 0) (pa_cons pe_int pa_nil))) pe_int (nomark _)) (pv 3) (pe_un un_neg (pv 3)))))))), ?_⟩
    have big : (2 : Nat) ^ 38 + 100 < 2 ^ 39 := by decide
    have j62 : (100 : Int) < 2 ^ 62 := by decide
    refine ⟨_, rfl, d, w, c, n, 39, rfl, hD, by omega, by decide, by decide, fun j H1 j0 j1 D1 b1 => ?_⟩
    refine ⟨j, rfl, by omega, by omega, ?_⟩
    obtain ⟨jn, rfl⟩ := Int.eq_ofNat_of_zero_le j0
    rw [Int.toNat_natCast]
    refine for_range (lo := 0) (n := jn) (fun i σ H' => H' = H1 ∧ ∃ y, σ = [some (.ref d), some (.int ((2 ^ i : Nat) : Int)), y, none]) ⟨rfl, none, rfl⟩ ?_ ?_
    · rintro i σ H' hi ⟨rfl, y, rfl⟩
      refine ⟨_, rfl, _, _, rfl, rfl, .inl ⟨by decide, by decide⟩, rfl, some (.int (0 + (i : Int))), ?_⟩
      have e : (2 : Int) * ((2 ^ i : Nat) : Int) = ((2 ^ (i + 1) : Nat) : Int) := by
        rw [Nat.pow_succ]
        omega
      dsimp only
      rw [e]
      rfl
    · rintro σ H' ⟨rfl, y, rfl⟩
      have hp : (2 : Nat) ^ jn ≤ 2 ^ 39 := Nat.pow_le_pow_right (by decide) (by omega)
      generalize (2 : Nat) ^ jn = pw at hp
      have e39 : (2 : Nat) ^ 39 + 2 ≤ 2 ^ 41 ∧ 1000000000000 ≤ 2 ^ 41 := by decide
      refine ⟨fun σ H2 => ∃ (i : Int) (n2 : Nat) (y1 y2 : Option V), σ = [some (.ref d), y1, y2, some (.int i)] ∧ i.natAbs ≤ 2 ^ 41 ∧ DrawAt H2 d w c n2 ∧ n2 ≤ n + 15 ∧ But2 d w H H2, ?_, ?_⟩
      · refine ⟨_, rfl, d, w, c, n + 1, 2, rfl, D1, by omega, by decide, by decide, fun q H3 q0 q1 D3 b3 => ?_⟩
        refine ⟨rfl, _, rfl, ite2 (fun _ => ?_) (fun _ => ?_)⟩
        · refine ⟨_, rfl, _, _, rfl, rfl, _, rfl, d, w, c, n + 1 + 1, 3, rfl, D3, by omega, by decide, by decide, fun r H4 r0 r1 D4 b4 => ⟨_, _, rfl, rfl, ?_⟩⟩
          exact ⟨_, _, _, _, rfl, by omega, D4, by omega, (b1.trans b3).trans b4⟩
        · refine ⟨_, rfl, d, w, c, n + 1 + 1, rfl, D3, by omega, fun r H4 r0 D4 b4 => ⟨_, rfl, ?_⟩⟩
          refine ⟨_, _, _, _, rfl, ?_, D4, by omega, (b1.trans b3).trans b4⟩
          split <;> omega
      · rintro σ H2 ⟨i, n2, y1, y2, rfl, hi, D2, l2, b2⟩
        refine ⟨_, rfl, d, w, c, n2, 2, rfl, D2, by omega, by decide, by decide, fun q H3 q0 q1 D3 b3 => ?_⟩
        refine ⟨rfl, _, rfl, ite2 (fun _ => ?_) (fun _ => ?_)⟩
        · exact ⟨_, rfl, k _ _ hi (D3.mono (by omega)) (b2.trans b3)⟩
        · exact ⟨_, rfl, _, rfl, k _ _ (by omega) (D3.mono (by omega)) (b2.trans b3)⟩
theorem ok_read {f : Addr} {fd : FuncData} (F : Fun K "_law_read" "_law_read" s__law_read f fd) (B : Bn2 mg) (c__law_value : Dq P w0 K mg base CX0 1 "_law_value" ["bits"] spVal) : FnOk P w0 K mg base CX0 2 f fd ["bits", "at"] spCntAt := by
  refine F.ok sc__law_read (fun vs H Q E h => ?_) (fun cdv A outer s H vs Q E hr h => ?_)
  · obtain ⟨z, n, rfl, _⟩ := h
    rfl
  · obtain ⟨z, n, rfl, hn, hl, hb, q⟩ := h
    refine ⟨_, (pss_cons (ps_set (i := 2) sc__law_read.nd rfl (Or.inl rfl) (pv 1))
      (Evl.pss_cut (ps_while PassesOwn.never (PW.pt (pw_and (pt_cmpR op_lt (pv 2) (pe_callB call_len_str (by rfl) B.len PySem.boot_len (pa_cons (pv 0) pa_nil)) (nomark _)) (pw_and1 (pt_cmpR op_eq (pe_item_str (pv 0) (pv 2) (fun _ _ => rfl)) pe_str (nomark _))))) (pss_one (ps_set (i := 2) sc__law_read.nd rfl (Or.inl rfl) (pe_op op_add (pv 2) pe_int))))
      (pss_cons (ps_set (i := 3) sc__law_read.nd rfl (Or.inl rfl) (pe_op op_add (pe_op op_sub (pe_op op_mul pe_int (pv 2)) (pv 1)) pe_int))
      (pss_cons (ps_if (pt_cmpR op_gt (pv 3) (pe_callB call_len_str (by rfl) B.len PySem.boot_len (pa_cons (pv 0) pa_nil)) (nomark _)) (pss_one (ps_ret pe_non)) pss_nil)
      (pss_one (ps_ret (pe_tup (pa_cons (pe_op op_sub (pe_q c__law_value hr (by decide) (by rfl) (pa_cons (pe_slice sl_str (pv 0) (po_some (pv 2)) (po_some (pv 3))) pa_nil)) pe_int) (pa_cons (pv 3) pa_nil))))))))), ?_⟩
    have hbd : IsB ((tl z).drop n) := fun c hc => hb c (List.mem_of_mem_drop hc)
    have hlen : ((tl z).drop n).length = z.length - n := by rw [List.length_drop]; rfl
    have hzl := zs_le ((tl z).drop n)
    refine ⟨_, rfl, ?_⟩
    refine ⟨fun σ H' => H' = H ∧ σ = [some (.str z), some (.int n), some (.int ((n + zs ((tl z).drop n) : Nat) : Int)), none], ?_, ?_⟩
    · refine ⟨fun m σ H' => H' = H ∧ ∃ i : Nat, i ≤ zs ((tl z).drop n) ∧ m = z.length - (n + i) ∧ σ = [some (.str z), some (.int n), some (.int ((n + i : Nat) : Int)), none], ⟨_, rfl, 0, by omega, rfl, rfl⟩, ?_⟩
      rintro m σ H' ⟨rfl, i, hi, rfl, rfl⟩
      refine ⟨_, rfl, _, rfl, z, rfl, small5 (by omega), _, _, rfl, rfl, _, rfl, ite2 (fun h => ?_) (fun h => ?_)⟩
      · have h : n + i < z.length := by have := of_decide_eq_true h; omega
        have hc : ((tl z).drop n)[i]? = some (((tl z).drop n)[i]'(by omega)) := List.getElem?_eq_getElem _
        generalize ((tl z).drop n)[i]'(by omega) = ch at hc
        have h48 := zs_at _ i ch hi hc
        have hc2 : z.cps[((n + i : Nat) : Int).toNat]? = some ch := by
          rw [List.getElem?_drop] at hc
          rw [Int.toNat_natCast]
          simpa using hc
        have b63 : (300 : Int) < 2 ^ 63 := by decide
        refine ⟨_, rfl, _, rfl, z, _, ch, rfl, rfl, by omega, by omega, by omega, hc2, rfl, _, rfl, ?_⟩
        by_cases h8 : i < zs ((tl z).drop n)
        · have : ch = 48 := h48.mpr h8
          subst this
          rw [decide_eq_true (show V.str (one 48) = V.str "0" by rw [s0])]
          refine iteT ⟨fun σ' H2 => ∃ m', m' < z.length - (n + i) ∧ (H2 = H' ∧ ∃ i : Nat, i ≤ zs ((tl z).drop n) ∧ m' = z.length - (n + i) ∧ σ' = [some (.str z), some (.int n), some (.int ((n + i : Nat) : Int)), none]), fun σ' H2 z => z, ?_⟩
          exact ⟨_, rfl, _, _, rfl, rfl, _, by omega, rfl, i + 1, by omega, rfl, rfl⟩
        · have hne : ¬ V.str (⟨#[ch]⟩ : Str) = V.str "0" := fun e => by
            rw [s0] at e
            injection e with e
            have e := congrArg tl e
            have e : [ch] = [48] := e
            injection e with e
            exact h8 (h48.mp e)
          rw [decide_eq_false hne]
          refine iteF ⟨rfl, ?_⟩
          rw [show i = zs ((tl z).drop n) by omega]
      · have h : ¬ ((n + i : Nat) : Int) < (z.length : Int) := fun y => h (decide_eq_true y)
        refine ⟨rfl, ?_⟩
        rw [show i = zs ((tl z).drop n) by omega]
    · rintro σ H' ⟨rfl, rfl⟩
      refine ⟨_, rfl, _, _, rfl, rfl, .inl ⟨by decide, by decide⟩, _, rfl, _, _, rfl, rfl, _, _, rfl, rfl, ?_⟩
      have e1 : ((2 : Int) * ((n + zs ((tl z).drop n) : Nat) : Int) - (n : Int) + 1) = ((n + (2 * zs ((tl z).drop n) + 1) : Nat) : Int) := by omega
      dsimp only
      rw [e1]
      refine ⟨_, rfl, _, rfl, z, rfl, small5 (by omega), _, _, rfl, rfl, _, rfl, ite2 (fun h => ?_) (fun h => ?_)⟩
      · have h := of_decide_eq_true h
        exact q.1 (rdC_none (by omega)) H' (Same.refl H')
      · have h : ¬ ((n + (2 * zs ((tl z).drop n) + 1) : Nat) : Int) > (z.length : Int) := fun z => h (decide_eq_true z)
        have ez : cutS z (some ((n + zs ((tl z).drop n) : Nat) : Int)) (some ((n + (2 * zs ((tl z).drop n) + 1) : Nat) : Int)) = mk ((((tl z).drop n).drop (zs ((tl z).drop n))).take (zs ((tl z).drop n) + 1)) := by
          rw [cutS_nn, List.drop_drop]
          congr 2
          congr 1
          omega
        refine ⟨_, rfl, _, rfl, _, rfl, _, rfl, _, rfl, z, rfl, small5 (by omega), _, rfl, ?_, ?_, ?_⟩
        all_goals rw [ez]
        · rw [len_mk, List.length_take]
          omega
        · rw [tl_mk]
          exact fun c hc => hbd c (List.mem_of_mem_drop (List.mem_of_mem_take hc))
        · refine ⟨_, _, rfl, rfl, _, rfl, (by show 2 ≤ sizeLine; decide), fun p hp => q.2 _ _ ?_ p _ hp (Same.new hp) upd_same⟩
          rw [rdC_some hb (by omega), tl_mk]
theorem ok_signed_at {f : Addr} {fd : FuncData} (F : Fun K "_law_signed_at" "_law_signed_at" s__law_signed_at f fd) (B : Bn2 mg) (c__law_read : Dq P w0 K mg base CX0 2 "_law_read" ["bits", "at"] spCntAt) : FnOk P w0 K mg base CX0 3 f fd ["bits", "at"] spNumAt := by
  refine F.ok sc__law_signed_at (fun vs H Q E h => ?_) (fun cdv A outer s H vs Q E hr h => ?_)
  · obtain ⟨z, n, rfl, _⟩ := h
    rfl
  · obtain ⟨z, n, rfl, hn, hl, hb, q⟩ := h
    refine ⟨_, (pss_cons (ps_set (i := 2) sc__law_signed_at.nd rfl (Or.inl rfl) (pe_q c__law_read hr (by decide) (by rfl) (pa_cons (pv 0) (pa_cons (pv 1) pa_nil))))
      (pss_cons (ps_if (pt_cmpR op_isN (pv 2) pe_non (nomark _)) (pss_one (ps_ret pe_non)) pss_nil)
      (pss_one (ps_ret (pe_tup (pa_cons (pe_ifExp (pt_cmpR op_eq (pe_op op_mod (pe_callTy call_int1 (by rfl) B.int PySem.Pv.boot_int (pa_cons (pe_ix ix_tup (pv 2) pe_int (fun _ _ => rfl)) pa_nil)) pe_int) pe_int (nomark _)) (pe_op op_fdiv (pe_ix ix_tup (pv 2) pe_int (fun _ _ => rfl)) pe_int) (pe_op op_fdiv (pe_un un_neg (pe_op op_add (pe_ix ix_tup (pv 2) pe_int (fun _ _ => rfl)) pe_int)) pe_int)) (pa_cons (pe_ix ix_tup (pv 2) pe_int (fun _ _ => rfl)) pa_nil))))))), ?_⟩
    refine ⟨_, rfl, _, rfl, z, n, rfl, hn, hl, hb, fun e H' s1 => ?_, fun a b e p H' hp s1 hq => ?_⟩
    · refine ⟨_, rfl, rfl, _, rfl, iteT (q.1 ?_ H' s1)⟩
      unfold rdC at e
      unfold rdN
      rw [Option.map_eq_none_iff] at e ⊢
      exact e
    · obtain ⟨c, rfl, en⟩ := rdN_of e
      have q2 := q.2 _ _ en
      have a0 : atI [V.int (c : Int), V.int b] 0 = some (V.int (c : Int)) := atI_nat (j := 0) rfl
      have a1 : atI [V.int (c : Int), V.int b] 1 = some (V.int b) := atI_nat (j := 1) rfl
      refine ⟨_, rfl, rfl, _, rfl, iteF ?_⟩
      refine ⟨_, rfl, p, _, _, _, rfl, rfl, SqT.of hq, a0, .inl ⟨_, rfl, _, _, rfl, rfl, (by show (0 : Int) < 2; decide), rfl, _, rfl, ?_⟩⟩
      by_cases h : c % 2 = 0
      · rw [decide_eq_true (show V.int ((c : Int) % 2) = V.int 0 by rw [show (c : Int) % 2 = 0 by omega])]
        refine iteT ⟨_, rfl, p, _, _, _, rfl, rfl, SqT.of hq, a0, _, _, rfl, rfl, ⟨by decide, by decide⟩, _, rfl, p, _, _, _, rfl, rfl, SqT.of hq, a1, (by show 2 ≤ sizeLine; decide), fun p2 hp2 => ?_⟩
        refine q2 p2 _ (s1.free hp2) (s1.trans (Same.new hp2)) ?_
        rw [upd_same]
        unfold zag
        rw [if_pos h]
        rfl
      · have hne : ¬ V.int ((c : Int) % 2) = V.int 0 := fun e => by
          injection e with e
          omega
        rw [decide_eq_false hne]
        refine iteF ⟨_, rfl, p, _, _, _, rfl, rfl, SqT.of hq, a0, _, _, rfl, rfl, _, rfl, _, _, rfl, rfl, ⟨by decide, by decide⟩, _, rfl, p, _, _, _, rfl, rfl, SqT.of hq, a1, (by show 2 ≤ sizeLine; decide), fun p2 hp2 => ?_⟩
        refine q2 p2 _ (s1.free hp2) (s1.trans (Same.new hp2)) ?_
        rw [upd_same]
        unfold zag
        rw [if_neg h]
        have e2 : -((c : Int) + 1) / 2 = -(((c + 1) / 2 : Nat) : Int) := by omega
        dsimp only
        rw [e2]
end
end SA
set_option Elab.async false
set_option linter.all false
set_option maxRecDepth 100000
set_option maxHeartbeats 4000000
namespace SA
open PySem PySem.Spec PyProof.Rows L2 K82
/-- the error classes, as the law looks at them -/
structure ErrF (K : PySem.W.Frag) (mg : Str → Option Value) (SE BB BN : Addr) : Prop where
  gSE : mg "StopError" = some (.ref SE)
  gBB : mg "BadBits" = some (.ref BB)
  gBN : mg "BadNumber" = some (.ref BN)
  xBB : PySem.W.exmOne K (.ref BB) (.ref SE) = some true
  xBN : PySem.W.exmOne K (.ref BN) (.ref SE) = some true
  cBB : ExcC K BB
  cBN : ExcC K BN
  fBB : XfC K BB
  noat : PySem.W.findIn K (.ref BB) "at" = some none
  kBB : PySem.W.kitOne K (.ref BB) (.ref BB) = some true
  kBBv : PySem.W.kitOne K (.ref BB) (.type "ValueError") = some true
  kBBn : PySem.W.kitOne K (.ref BB) (.ref BN) = some false
  kBNb : PySem.W.kitOne K (.ref BN) (.ref BB) = some false
  kBN : PySem.W.kitOne K (.ref BN) (.ref BN) = some true
/-- a new tuple -/
def T1 (H : Hp) (Q : VK) (t : List V) : Prop := ∀ (p : Addr) (H' : Hp), H p = none → Same H H' → H' p = some (.tup t) → Q (.ref p) H'
def outT (b : Bool) : List V := if b = true then [.str "BadBits", .non] else [.str "BadNumber"]
/-- the error that is raised: BadBits(None) or BadNumber -/
def OutE (BB BN : Addr) (b : Bool) (H : Hp) : XK := fun cls d H' => Same H H' ∧ if b = true then (cls = .ref BB ∧ ∃ dx, d = some dx ∧ H' dx = some (.xd [("at", .non)])) else (cls = .ref BN ∧ d = none)
def spOutc (P : Program) (w : World) (K : PySem.W.Frag) (mg : Str → Option Value) (base : Heap) (BB BN : Addr) : Sp := fun vs H Q _ => ∃ (f a : Addr) (xs : List V) (sp : Sp) (fd : FuncData) (ps : List Str) (k : Nat) (b : Bool), vs = [.ref f, .ref a] ∧
  k ≤ 5 ∧ FnOk P w K mg base (L2.CX P w) k f fd ps sp ∧ PySem.W.keepIn K (.ref f) = true ∧ L2.Binds K fd ps [] ∧ SqL K H a xs ∧ (xs.length = 1 ∨ xs.length = 2) ∧ (∀ (H1 : Hp) (Q' : VK) (E' : XK), Same H H1 → (∀ cls d H', OutE BB BN b H1 cls d H' → E' cls d H') → sp xs H1 Q' E') ∧ T1 H Q (outT b)
section
variable {P : Program} {w0 : World} {K : PySem.W.Frag} {mg : Str → Option Value} {base : Heap} {SE BB BN : Addr}
theorem ok_outcome {f : Addr} {fd : FuncData} (F : Fun K "_law_outcome" "_law_outcome" s__law_outcome f fd) (B : Bn2 mg) (EF : ErrF K mg SE BB BN) : FnOk P w0 K mg base CX0 6 f fd ["work", "things"] (spOutc P w0 K mg base BB BN) := by
  refine F.ok sc__law_outcome (fun vs H Q E h => ?_) (fun cdv A outer s H vs Q E hr h => ?_)
  · obtain ⟨f, a, xs, sp, fd, ps, k, b, rfl, _⟩ := h
    rfl
  · obtain ⟨fW, a, xs, sp, fdW, ps, k, b, rfl, hk, G, kp, bW, hS, hl, h, q⟩ := h
    refine ⟨_, pss_cons (ps_asg (pe_tup (pa_cons pe_non (pa_cons pe_non pa_nil))) (pg_tup (by rfl) (pgs_cons (pg_name (i := 2) sc__law_outcome.nd rfl (Or.inl rfl)) (pgs_cons (pg_name (i := 3) sc__law_outcome.nd rfl (Or.inl rfl)) pgs_nil))))
      (pss_cons (ps_try_hold (i := 4) (X := (cxOf CX0 P w0 K mg base n__law_outcome "_law_outcome" (defScope s__law_outcome) f cdv A outer s H E).nox) (c := .ref SE)
        (tb := fun W D σ H' => Same H H' ∧ σ = [some (.ref fW), some (.ref a), some .non, some .non, none] ∧ ∀ cls d σ' H2, OutE BB BN b H' cls d H2 → W cls d σ' H2)
        rfl rfl rfl sc__law_outcome.nd rfl rfl ⟨rfl, by decide, .inl EF.gSE⟩ LamX.takes0
        (fun W pn xe tk _ => ⟨fun pins s' σ H' D I h' => by
          obtain ⟨sm, rfl, hW⟩ := h'
          have hS := sm.seq hS
          refine (pss_one (ps_set (i := 3) sc__law_outcome.nd rfl (.inl rfl) (pe_ifExp (pt_cmpR op_eq (pe_callB call_len_seq (by rfl) B.len PySem.boot_len (pa_cons (pv 1) pa_nil)) pe_int (nomark _))
          (pe_callL (i := 0) (E := fun cls d H' => ∀ σ', W cls d σ' H') G (hr.mono hk) rfl (.inl rfl) kp bW .nil (passes_call tk fun _ _ σ _ h => h σ) (pa_cons (pe_ix ix_list (pv 1) pe_int (fun _ _ => rfl)) pa_nil))
          (pe_callL (i := 0) (E := fun cls d H' => ∀ σ', W cls d σ' H') G (hr.mono hk) rfl (.inl rfl) kp bW .nil (passes_call tk fun _ _ σ _ h => h σ) (pa_cons (pe_ix ix_list (pv 1) pe_int (fun _ _ => rfl)) (pa_cons (pe_ix ix_list (pv 1) pe_int (fun _ _ => rfl)) pa_nil)))))).run pins s' _ _ D I ?_
          refine ⟨_, rfl, a, xs, rfl, .inl hS, rfl, _, rfl, ite2 (fun h1 => ?_) (fun h1 => ?_)⟩
          · rcases hl with hl | hl
            · match xs, hl, h with
              | [x], _, h => exact ⟨rfl, _, rfl, a, _, _, x, rfl, rfl, hS, atI_nat (j := 0) rfl, h _ _ _ sm fun cls d H2 o σ' => hW _ _ _ _ o⟩
            · have h1 := of_decide_eq_true h1
              injection h1 with h1
              omega
          · rcases hl with hl | hl
            · exact absurd (decide_eq_true (show V.int (xs.length : Int) = V.int 1 by rw [hl]; rfl)) h1
            · match xs, hl, h with
              | [x, y], _, h => exact ⟨rfl, _, rfl, a, _, _, x, rfl, rfl, hS, atI_nat (j := 0) rfl, _, rfl, a, _, _, y, rfl, rfl, hS, atI_nat (j := 1) rfl, h _ _ _ sm fun cls d H2 o σ' => hW _ _ _ _ o⟩⟩)
        (fun a oe cls d pn _ _ => pss_one (ps_set (i := 2) sc__law_outcome.nd rfl (.inl rfl) (pv 4))))
      (pss_cons (ps_if (pt_cmpR op_isN (pv 2) pe_non (nomark _)) (pss_one (ps_ret (pe_tup (pa_cons pe_str (pa_cons (pv 3) pa_nil))))) pss_nil)
      (pss_cons (ps_if (pt_val (pe_callB call_isH (by rfl) B.isinstance (by decide +kernel) (pa_cons (pv 2) (pa_cons (pe_glob (v := .ref BB) (by rfl) EF.gBB rfl) pa_nil)))) (pss_one (ps_ret (pe_ifExp (PW.pt (pw_and (pt_val (pe_callB call_isH (by rfl) B.isinstance (by decide +kernel) (pa_cons (pv 2) (pa_cons (pe_bltn (v := .ty "ValueError") (by rfl) B.ValueError (by decide +kernel) rfl) pa_nil))))
          (pw_and1 (pt_not (pt_val (pe_callB call_isH (by rfl) B.isinstance (by decide +kernel) (pa_cons (pv 2) (pa_cons (pe_glob (v := .ref BN) (by rfl) EF.gBN rfl) pa_nil)))))))) (pe_tup (pa_cons pe_str (pa_cons (pe_hfld (pv 2)) pa_nil))) (pe_tup (pa_cons pe_str pa_nil))))) pss_nil)
      (pss_one (ps_ret (pe_ifExp (pt_val (pe_callB call_isH (by rfl) B.isinstance (by decide +kernel) (pa_cons (pv 2) (pa_cons (pe_glob (v := .ref BN) (by rfl) EF.gBN rfl) pa_nil)))) (pe_tup (pa_cons pe_str pa_nil)) (pe_tup (pa_cons pe_str pa_nil)))))))), ?_⟩
    refine ⟨(by show 2 ≤ sizeLine; decide), fun t ht => ⟨t, _, rfl, SqT.of upd_same, rfl, _, _, rfl, _, _, rfl, rfl, ?_⟩⟩
    have s1 : Same H (upd H t (.tup [V.non, V.non])) := Same.new ht
    generalize upd H t (.tup [V.non, V.non]) = H1 at s1
    refine ⟨s1, rfl, fun cls d σ' H2 o => ?_⟩
    obtain ⟨s2, o⟩ := o
    have s12 := s1.trans s2
    cases b with
    | true =>
      obtain ⟨rfl, dx, rfl, e2⟩ := o
      refine ⟨true, EF.xBB, fun z => (nomatch z), fun _ hl y hy => ?_⟩
      match σ', hl with
      | [x0, x1, x2, x3, x4], _ =>
        refine ⟨_, rfl, ?_⟩
        have e3 : (upd H2 y (HX (.ref BB) (some dx) y)) y = some (HX (.ref BB) (some dx) y) := upd_same
        have e4 : (upd H2 y (HX (.ref BB) (some dx) y)) dx = some (.xd [("at", .non)]) := by rw [upd_ne (ne_of_none e2 hy)]; exact e2
        have s3 : Same H (upd H2 y (HX (.ref BB) (some dx) y)) := s12.trans (Same.new hy)
        have hd : ∀ dy, some dx = some dy → ∃ fs, (upd H2 y (HX (.ref BB) (some dx) y)) dy = some (.xd fs) := fun dy e => by cases e; exact ⟨_, e4⟩
        refine ⟨_, rfl, rfl, _, rfl, iteF ?_⟩
        refine ⟨_, rfl, y, BB, some dx, _, _, true, rfl, .own BB, e3, hd, EF.cBB, EF.kBB, _, rfl, iteT ?_⟩
        refine ⟨_, rfl, y, BB, some dx, _, _, true, rfl, .ty _, e3, hd, EF.cBB, EF.kBBv, _, rfl, iteT ?_⟩
        refine ⟨_, rfl, y, BB, some dx, _, _, false, rfl, .own BN, e3, hd, EF.cBB, EF.kBBn, _, rfl, iteT ?_⟩
        refine ⟨_, rfl, y, BB, dx, _, _, rfl, e3, e4, EF.fBB, EF.noat, rfl, (by show 2 ≤ sizeLine; decide), fun p hp => ?_⟩
        exact q p _ (s3.free hp) (s3.trans (Same.new hp)) upd_same
    | false =>
      obtain ⟨rfl, rfl⟩ := o
      refine ⟨true, EF.xBN, fun z => (nomatch z), fun _ hl y hy => ?_⟩
      match σ', hl with
      | [x0, x1, x2, x3, x4], _ =>
        refine ⟨_, rfl, ?_⟩
        have e3 : (upd H2 y (HX (.ref BN) none y)) y = some (HX (.ref BN) none y) := upd_same
        have s3 : Same H (upd H2 y (HX (.ref BN) none y)) := s12.trans (Same.new hy)
        have hd : ∀ dy, (none : Option Addr) = some dy → ∃ fs, (upd H2 y (HX (.ref BN) none y)) dy = some (.xd fs) := fun dy e => by cases e
        refine ⟨_, rfl, rfl, _, rfl, iteF ?_⟩
        refine ⟨_, rfl, y, BN, none, _, _, false, rfl, .own BB, e3, hd, EF.cBN, EF.kBNb, _, rfl, iteF ?_⟩
        refine ⟨_, rfl, y, BN, none, _, _, true, rfl, .own BN, e3, hd, EF.cBN, EF.kBN, _, rfl, iteT ⟨(by show 1 ≤ sizeLine; decide), fun p hp => ?_⟩⟩
        exact q p _ (s3.free hp) (s3.trans (Same.new hp)) upd_same
end
end SA
set_option Elab.async false
set_option linter.all false
set_option maxRecDepth 100000
set_option maxHeartbeats 4000000
namespace SA
open PySem PySem.Spec PyProof.Rows L2
/-! ### repr of any data -/
def rReprA (K : PySem.W.Frag) : List V → Hp → VK → Prop := fun xs H Q => ∃ (x : V) (d : PyData), xs = [x] ∧ Dx K H x d ∧ d.showable = true ∧ d.shown.length ≤ sizeLine ∧ d.depth ≤ 60 ∧ Q (.str d.shown) H
theorem call_reprA {X : Cx} (S : SysK X.K) (hg : X.A.guards = some []) (hu : X.A.units + 64 < cLine) : CallR X (.builtin "repr") (rReprA X.K) := by
  intro pins s σ H xs us Q I r h
  obtain ⟨x, d, rfl, hd, hs, hz, hp, q⟩ := h
  obtain ⟨u, rfl, ru⟩ := vals1 r
  cases hd with
  | non =>
    obtain rfl : u = Value.none := ru
    exact PySem.P.repr_of_none ⟨.str "None", H, I.tok _, ⟨_, rfl⟩, q⟩
  | bl b =>
    obtain rfl : u = Value.bool b := ru
    exact PySem.P.repr_of_bool ⟨.str (if b then "True" else "False"), H, I.tok _, ⟨_, rfl⟩, q⟩
  | int i =>
    obtain ⟨t, rfl⟩ := ru
    have hs : i.natAbs.log2 < 1920 := by simpa [PyData.showable] using hs
    refine PySem.P.repr_of_int hs ⟨.str (toString i), H, I.tok _, ⟨_, rfl⟩, q⟩
  | str z =>
    obtain ⟨t, rfl⟩ := ru
    refine PySem.P.repr_of_str ⟨.str (reprText z), H, I.tok _, ⟨_, rfl⟩, q⟩ ?_
    simpa only [PyData.shown] using hz
  | lst h1 h2 => exact call_repr S hg hu pins s σ H _ _ Q I r ⟨_, _, rfl, .lst h1 h2, hs, hz, hp, q⟩
  | tup h1 h2 => exact call_repr S hg hu pins s σ H _ _ Q I r ⟨_, _, rfl, .tup h1 h2, hs, hz, hp, q⟩
  | dct h1 h2 h3 => exact call_repr S hg hu pins s σ H _ _ Q I r ⟨_, _, rfl, .dct h1 h2 h3, hs, hz, hp, q⟩
/-- data that repr shows -/
def Gd (d : PyData) : Prop := d.showable = true ∧ d.shown.length ≤ sizeLine ∧ d.depth ≤ 60
theorem gd_of {d : PyData} (h1 : d.showable = true) (h2 : d.leavesShort 40 = true) (h3 : d.weight ≤ 10000) (h4 : d.depth ≤ 60) : Gd d := by
  refine ⟨h1, ?_, h4⟩
  have := PyData.shown_le 40 (by decide) d h2
  have := sizeLine_eq
  omega
theorem gd_none : Gd .none := gd_of rfl rfl (by decide) (by decide)
theorem gd_str {z : Str} (hl : z.length ≤ 1000) (hc : ∀ c ∈ z.cps.toList, c < 128) : Gd (.str z) := by
  refine gd_of rfl ?_ ?_ (by show 0 ≤ 60; decide)
  · show (z.cps.toList.all fun c => decide (c < 16 ^ 8)) = true
    rw [List.all_eq_true]
    intro c h
    have h1 := hc c h
    have : (128 : Nat) ≤ 16 ^ 8 := by decide
    exact decide_eq_true (by omega)
  · show z.cps.size ≤ 10000
    have hl : z.cps.size ≤ 1000 := hl
    omega
theorem int_leaf {i : Int} (h : i.natAbs < 2 ^ 120) : PyData.leavesShort 40 (.int i) = true ∧ PyData.weight (.int i) ≤ 200 ∧ i.natAbs.log2 < 1920 := by
  have hl : i.natAbs.log2 < 120 := by
    by_cases h0 : i.natAbs = 0
    · rw [h0]
      decide
    · exact (Nat.log2_lt h0).mpr h
  refine ⟨?_, ?_, by omega⟩
  · have e := int_text_length_le10 (a := i) (k := 39) (by decide) (Nat.lt_of_lt_of_le h (by decide))
    show decide ((Str.ofString (toString i)).length ≤ 40) = true
    rw [PySem.ofString_length]
    exact decide_eq_true e
  · show (if i == 0 then 0 else i.natAbs.log2 + 1) ≤ 200
    split <;> omega
theorem gd_int {i : Int} (h : i.natAbs < 2 ^ 120) : Gd (.int i) := by
  obtain ⟨h1, h2, h3⟩ := int_leaf h
  refine gd_of ?_ h1 (by omega) (by show 0 ≤ 60; decide)
  simpa [PyData.showable] using h3
theorem gd_pair {a b : Int} (ha : a.natAbs < 2 ^ 120) (hb : b.natAbs < 2 ^ 120) : Gd (.tuple [.int a, .int b]) := by
  obtain ⟨a1, a2, a3⟩ := int_leaf ha
  obtain ⟨b1, b2, b3⟩ := int_leaf hb
  refine gd_of ?_ ?_ ?_ (by simp [PyData.depth, PyData.depthAll])
  · simp [PyData.showable, PyData.showableAll, a3, b3]
  · simp only [PyData.leavesShort, PyData.leavesShortAll] at a1 b1 ⊢
    simp [a1, b1]
  · simp only [PyData.weight, PyData.weightAll] at a2 b2 ⊢
    omega
/-- a value with its data, so far as repr goes -/
structure Sh (K : PySem.W.Frag) (H : Hp) (x : V) (d : PyData) : Prop where
  dx : Dx K H x d
  gd : Gd d
theorem Sh.rd {K : PySem.W.Frag} {H : Hp} {x : V} {d : PyData} {Q : VK} (h : Sh K H x d) (q : Q (.str d.shown) H) : rReprA K [x] H Q := ⟨x, d, rfl, h.dx, h.gd.1, h.gd.2.1, h.gd.2.2, q⟩
end SA
set_option Elab.async false
set_option linter.all false
set_option maxRecDepth 100000
set_option maxHeartbeats 4000000
namespace SA
open PySem PySem.Spec PyProof.Rows L2
/-! ### defs that are called where no repr is under way -/
structure FnG (P : Program) (w : World) (K : PySem.W.Frag) (mg : Str → Option Value) (base : Heap) (k : Nat) (f : Addr) (fd : FuncData) (ps : List Str) (sp : Sp) : Prop where
  many : ∀ vs H Q E, sp vs H Q E → vs.length = ps.length
  goes : ∀ (A : Around) (outer : List Env) (s : Shared) (H : Hp) (args : Args) (us : List Value) (vs : List V) (Q : VK) (E : XK), A.guards = some [] → Room k A → Env0 P w K mg base A outer s H → BindsTo s fd args (ps.zip us) → Vals vs us → sp vs H Q E →
    codeAny (model P w) A (.call (.ref f) args) (CR CX0 outer P w H s Q E) s
section
variable {P : Program} {w : World} {K : PySem.W.Frag} {mg : Str → Option Value} {base : Heap}
theorem Fun.okG {x qual : Str} {st : Stmt} {f : Addr} {fd : FuncData} {N ps : List Str} {k : Nat} {sp : Sp} (F : Fun K x qual st f fd) (S : FnScope N ps (defScope st)) (hl : ∀ vs H Q E, sp vs H Q E → vs.length = ps.length)
    (body : ∀ (cdv : Value) (A : Around) (outer : List Env) (s : Shared) (H : Hp) (vs : List V) (Q : VK) (E : XK), (A.deeper (envOfC qual (defScope st) s.heap.objs.size f cdv)).guards = some [] → Room k (A.deeper (envOfC qual (defScope st) s.heap.objs.size f cdv)) → sp vs H Q E →
      ∃ t, PSs (cxOf CX0 P w K mg base N qual (defScope st) f cdv A outer s H E).nox (defBody st) t ∧ t { nx := fun _ H' => Q .non H', rt := Q } (L2.start N vs) H) : FnG P w K mg base (k + 1) f fd ps sp := by
  obtain ⟨oc, od, kV, doc, pm, an, cdv, ct, osl, rfl, lk, hcd⟩ := F.ex
  refine ⟨hl, fun A outer s H args us vs Q E hg rm env hb r hs => ?_⟩
  refine LamX.run_ofS (k := k) (N := N) (ps := ps) (us := us) (vs := vs) (Q := Q) (E := E) lk hcd S rm env hb r (hl _ _ _ _ hs) fun rm' => ?_
  obtain ⟨t, h1, h2⟩ := body cdv A outer s H vs Q E hg rm' hs
  exact ⟨t, h1.nox, h2⟩
/-- a def of the module that is called so -/
structure Gq (P : Program) (w : World) (K : PySem.W.Frag) (mg : Str → Option Value) (base : Heap) (k : Nat) (x : Str) (ps : List Str) (sp : Sp) : Prop where
  ex : ∃ (f : Addr) (fd : FuncData), FnG P w K mg base k f fd ps sp ∧ mg x = some (.ref f) ∧ PySem.W.keepIn K (.ref f) = true ∧ L2.Binds K fd ps []
end
section
variable {X : Cx} {k j : Nat} {x : Str} {p pos : Pos} {e : Expr} {es : List Expr} {t : TA} {sp : Sp} {ps : List Str}
theorem run_g {pins : List (Addr × Obj)} {σ : L2.St} {H : Hp} {s : Shared} {Q : VK} {us : List Value} {vs : List V} {f : Addr} {fd : FuncData} (G : FnG X.prog X.w X.K X.mg X.base k f fd ps sp) (hg : X.A.guards = some []) (rm : Room k X.A) (hb : L2.Binds X.K fd ps [])
    (I : Inv X pins σ H s) (r : Vals vs us) (h : sp vs H Q fun _ _ _ => False) : wpAny (model X.prog X.w) X.A (call (.ref f) us) (EP X pins σ Q) X.xe s := by
  have hl : (us ++ []).length = ps.length := by
    rw [List.append_nil, ← r.length]
    exact G.many _ _ _ _ h
  have bt := hb s us I.kIn hl
  rw [List.append_nil] at bt
  refine wpAny_call (codeAny_mono (G.goes X.A X.stack s H ⟨us, []⟩ us vs Q _ hg rm I.env0 bt r h) fun o s' q => ?_)
  match o, q with
  | .error e, q => exact q.elim
  | .ok (.ret u), q => exact I.after q
  | .ok .next, q => exact q.elim
  | .ok .brk, q => exact q.elim
  | .ok .cont, q => exact q.elim
theorem pe_g (c : Gq X.prog X.w X.K X.mg X.base k x ps sp) (hg : X.A.guards = some []) (hr : Room j X.A) (hk : k ≤ j) (hgl : Gl X x) (ha : PA X (e :: es) t)
    (hdb : (x == ("__debug__" : Str)) = false := by decide) (he : starEach (e :: es) X.env = (false, eval e X.env) :: starEach es X.env := by rfl) (hpl : (backTo pos (starEach es X.env)).any (·.1) = false := by rfl) :
    PE X (.Call (.Name x p) (e :: es) [] pos) (fun σ H Q => t σ H fun vs H1 => sp vs H1 Q fun _ _ _ => False) := by
  obtain ⟨f, fd, G, hm, kp, b⟩ := c.ex
  refine ⟨fun pins s σ H Q I h => ?_⟩
  refine wpAny_Call_Name_kw (ld_glob I hgl hm ?_ hdb)
  refine PySem.W.callWith_K (h₀ := X.base) I.ok.mod.kin kp (thn (ha.run pos pins s σ H _ I h) fun us s1 ⟨vs, H1, I1, r, q⟩ => ⟨I1.kIn, ?_⟩) he hpl
  exact run_g G hg (hr.mono hk) b I1 r q
end
/-- what the law's def promises -/
def spLawT (K : PySem.W.Frag) : Sp := fun vs H Q _ => ∃ (a : Addr) (ns : List Int), vs = [.ref a] ∧ SqL K H a (ns.map V.int) ∧ ns.length ≤ 63 ∧ ∀ H', Q (.bl true) H'
theorem lawRun_of {P : Program} {w : World} {K : PySem.W.Frag} {mg : Str → Option Value} {base : Heap} {fa : Addr} {fd : FuncData} {x : Str} {k : Nat} (G : FnG P w K mg base k fa fd [x] (spLawT K)) (hr : Room k callerA) (hb : ∀ (s : Shared) (u : Value), BindsTo s fd ⟨[u], []⟩ [(x, u)]) :
    LawRun P w K mg base fa 63 := by
  intro s H a ns env hS hn
  exact G.goes callerA [] s H ⟨[.ref a], []⟩ [.ref a] [.ref a] _ _ rfl hr env (hb s (.ref a)) (.cons rfl .nil) ⟨a, ns, rfl, hS, hn, fun _ => rfl⟩
end SA
set_option Elab.async false
set_option linter.all false
set_option maxRecDepth 100000
set_option maxHeartbeats 0
namespace SA
open PySem PySem.Spec PyProof.Rows L2
abbrev cat1 {α : Type} : List α → List α → List α := fun us ws => us ++ ws
/-! ### what the top has left -/
abbrev fIs (K : PySem.W.Frag) (C : Addr) (x : Str) (v : Option Value) : Bool := decide (PySem.W.findIn K (.ref C) x = some v)
def excB (K : PySem.W.Frag) (C : Addr) : Bool :=
  fIs K C "__getattribute__" (some (.builtin "BaseException.__getattribute__")) && (fIs K C "__getattr__" none && (decide (PySem.W.subIn K (.ref C) (.type "BaseException") = some true) && (PySem.W.hasDictIn K C && (fIs K C "__class__" (some (.builtin "object.__class__")) &&
    (decide (PySem.W.specialIn K (.builtin "object.__class__") "__get__" = some (some (.builtin "getset_descriptor.__get__"))) && (decide (PySem.W.takesIn K (.builtin "object.__class__") = some true) && decide (PySem.W.mroIn K C (.type "object") = some true)))))))
theorem excB_ok {K : PySem.W.Frag} {C : Addr} (h : excB K C = true) : ExcC K C ∧ XfC K C := by
  unfold excB at h
  simp only [Bool.and_eq_true, decide_eq_true_eq] at h
  obtain ⟨h1, h2, h3, h4, h5, h6, h7, h8⟩ := h
  exact ⟨⟨h1, h2, h3, h4, h5, h6, h7, h8⟩, ⟨h1, h2, h3, h4⟩⟩
/-- an exception class whose objects have a dict and its own or a base's __init__ -/
def oexB (K : PySem.W.Frag) (C : Addr) : Bool := match K.lookup C with
  | some ⟨.type t, _, .cls cd, sl⟩ => (match cd.mro, sl.toList with
    | .ref C' :: bm, [_, _, _, _, some (.builtin n), _] => decide (t = "type") && (decide (C' = C) && (decide (n = "ValueError.__new__") && (!cd.hasDel && (cd.hasDict && PySem.HandSPX.refsVE bm))))
    | _, _ => false)
  | _ => false
def oexB2 (K : PySem.W.Frag) (C : Addr) : Bool := oexB K C && (fIs K C "__setattr__" (some (.builtin "object.__setattr__")) && (decide (PySem.W.subIn K (.ref C) (.type "BaseException") = some true) && (decide (PySem.W.typeIn K (.ref C) = some (.type "type")) && PySem.W.keepIn K (.ref C))))
theorem oexB_ok {K : PySem.W.Frag} {C : Addr} (h : oexB2 K C = true) : OexC K C := by
  unfold oexB2 at h
  simp only [Bool.and_eq_true, decide_eq_true_eq] at h
  obtain ⟨h0, h1, h2, h3, h4⟩ := h
  refine ⟨?_, h1, h2, h3, h4⟩
  unfold oexB at h0
  split at h0
  · rename_i t dd cd sl e
    split at h0
    · rename_i C' bm k0 k1 k2 k3 n k5 hm hs
      simp only [Bool.and_eq_true, decide_eq_true_eq, Bool.not_eq_true'] at h0
      obtain ⟨rfl, rfl, rfl, hd, hh, hr⟩ := h0
      obtain ⟨nm, bs, mro, ns, qn, hdct, sn, sub, ab, col, del⟩ := cd
      dsimp only at hm hd hh
      subst hm hd hh
      obtain ⟨l⟩ := sl
      dsimp only at hs
      subst hs
      exact ⟨nm, qn, ns, bs, bm, sn, sub, ab, col, dd, k0, k1, k2, k3, k5, e, hr⟩
    · cases h0
  · cases h0
def ownB (K : PySem.W.Frag) (C : Addr) (fs : List Str) : Bool := oexB2 K C && (fIs K C "__init__" (some (.ref (He.ma K C "__init__"))) && (decide (PySem.W.typeIn K (.ref (He.ma K C "__init__")) = some (.type "function")) && fs.all fun x => fIs K C x none))
theorem ownB_ok {K : PySem.W.Frag} {C : Addr} {fs : List Str} (h : ownB K C fs = true) : Own24 K C (He.ma K C "__init__") fs := by
  unfold ownB at h
  simp only [Bool.and_eq_true, decide_eq_true_eq, List.all_eq_true] at h
  obtain ⟨h1, h2, h3, h4⟩ := h
  exact ⟨oexB_ok h1, h2, h3, h4⟩
def sysB (K : PySem.W.Frag) : Bool := match K.lookup sysModules with
  | some o => decide (o.cls = .type "dict")
  | none => false
theorem sysB_ok {K : PySem.W.Frag} (h : sysB K = true) : SysK K := by
  unfold sysB at h
  split at h
  · rename_i o e
    exact ⟨o, e, of_decide_eq_true h⟩
  · cases h
theorem FunD_fun {K : PySem.W.Frag} {x qual : Str} {st : Stmt} {f : Addr} (h : ∃ fd, FunD K x qual (defArgs st) (defBody st) (defScope st) [] [] f fd) : ∃ fd, Fun K x qual st f fd := by
  obtain ⟨fd, F⟩ := h
  exact ⟨fd, SA.FunD.toFun F⟩
theorem kb1 {K : PySem.W.Frag} {x qual p : Str} {st : Stmt} {f : Addr} {fd : FuncData} (F : Fun K x qual st f fd)
    (h1 : ∀ (kV doc pm : Value) (an : Option Addr) (cdv ct u : Value), bindArgs (PySem.W.fnOf x qual (defArgs st) (defBody st) (defScope st) .none kV doc pm an cdv ct) ⟨[u], []⟩ = pure [(p, u)])
    (h2 : ∀ (kV doc pm : Value) (an : Option Addr) (cdv ct u : Value), bindArgs (PySem.W.fnOf x qual (defArgs st) (defBody st) (defScope st) .none kV doc pm an cdv ct) ⟨[], [(p, u)]⟩ = pure [(p, u)]) : KBinds K fd [p] [p] cat1 cat1 := by
  obtain ⟨oc, od, kV, doc, pm, an, cdv, ct, osl, rfl, _, _⟩ := F.ex
  refine ⟨fun s us ws _ hl => ?_, fun r rz => r.append rz⟩
  match us, ws, hl with
  | [u], [], _ => exact .of_eq (h1 kV doc pm an cdv ct u)
  | [], [u], _ => exact .of_eq (h2 kV doc pm an cdv ct u)
  | [], [], hl => cases hl
  | [], _ :: _ :: _, hl => simp at hl
  | _ :: _ :: _, _, hl => simp at hl
  | [_], _ :: _, hl => simp at hl
end SA
set_option Elab.async false
set_option linter.all false
set_option maxRecDepth 100000
set_option maxHeartbeats 8000000
namespace K82
open PySem
theorem zig_bd {i : Int} (h : i.natAbs ≤ 2 ^ 41) : zig i + 1 < 2 ^ 43 := by
  unfold zig
  split <;> omega
theorem rdN_at (a b : L) (i : Int) : rdN (a ++ enc (zig i) ++ b) a.length = some (i, ((a.length + (enc (zig i)).length : Nat) : Int)) := by
  unfold rdN
  rw [List.append_assoc, List.drop_left, dec_enc]
  show some (zag (zig i), _) = _
  rw [zag_zig]
theorem rdC_at (a b : L) (n : Nat) : rdC (a ++ enc n ++ b) a.length = some ((n : Int), ((a.length + (enc n).length : Nat) : Int)) := by
  unfold rdC
  rw [List.append_assoc, List.drop_left, dec_enc]
  rfl
theorem rdN_cut (a : L) (n c : Nat) (h : c < (enc n).length) : rdN (a ++ (enc n).take c) a.length = none := by
  unfold rdN
  rw [List.drop_left, dec_cut n c h]
  rfl
theorem rdC_cut (a : L) (n c : Nat) (h : c < (enc n).length) : rdC (a ++ (enc n).take c) a.length = none := by
  unfold rdC
  rw [List.drop_left, dec_cut n c h]
  rfl
theorem isB_app {a b : L} (ha : IsB a) (hb : IsB b) : IsB (a ++ b) := fun c h => (List.mem_append.mp h).elim (ha c) (hb c)
theorem tl_app (a b : Str) : tl (a ++ b) = tl a ++ tl b := by
  show (a.cps ++ b.cps).toList = _
  rw [Array.toList_append]
theorem len_app (a b : Str) : (a ++ b).length = a.length + b.length := by
  rw [len_tl, tl_app, List.length_append]
  rfl
/-- what is read is no large number -/
theorem bval_bd {l : L} {k : Nat} (h : IsB l) (hk : l.length ≤ k) : bval l < 2 ^ k := Nat.lt_of_lt_of_le (bval_le l h) (Nat.pow_le_pow_right (by decide) hk)
theorem rdC_bd {l : L} {n : Nat} {a b : Int} (hb : IsB l) (hl : l.length ≤ 200) (hn : n ≤ l.length) (e : rdC l n = some (a, b)) : a.natAbs < 2 ^ 118 ∧ b.natAbs < 2 ^ 118 ∧ ∃ c : Nat, a = c := by
  unfold rdC dec at e
  have hbd : IsB (l.drop n) := fun c hc => hb c (List.mem_of_mem_drop hc)
  have hlen : (l.drop n).length = l.length - n := List.length_drop
  by_cases h : 2 * zs (l.drop n) + 1 ≤ (l.drop n).length
  · rw [if_pos h] at e
    injection e with e
    injection e with e1 e2
    have h1 : bval (((l.drop n).drop (zs (l.drop n))).take (zs (l.drop n) + 1)) < 2 ^ 118 := by
      refine bval_bd (fun c hc => hbd c (List.mem_of_mem_drop (List.mem_of_mem_take hc))) ?_
      rw [List.length_take]
      omega
    have h2 : (400 : Nat) < 2 ^ 118 := by decide
    exact ⟨by omega, by omega, _, e1.symm⟩
  · rw [if_neg h] at e
    cases e
theorem rdN_bd {l : L} {n : Nat} {a b : Int} (hb : IsB l) (hl : l.length ≤ 200) (hn : n ≤ l.length) (e : rdN l n = some (a, b)) : a.natAbs < 2 ^ 118 ∧ b.natAbs < 2 ^ 118 := by
  have : rdN l n = (rdC l n).map fun p => (zag p.1.toNat, p.2) := by
    unfold rdN rdC
    rw [Option.map_map]
    rfl
  rw [this] at e
  obtain ⟨⟨x, y⟩, h1, h2⟩ := Option.map_eq_some_iff.mp e
  obtain ⟨b1, b2, c, rfl⟩ := rdC_bd hb hl hn h1
  injection h2 with h2 h3
  subst h3
  refine ⟨?_, b2⟩
  rw [← h2]
  have : ((c : Int).toNat) = c := rfl
  rw [this]
  unfold zag
  split <;> omega
theorem cutS_0n (z : Str) (b : Nat) : L2.cutS z none (some (b : Int)) = mk ((tl z).take b) := by
  unfold L2.cutS mk tl
  rw [HT.sIx_nat, HT.sIx_none, show z.length = z.cps.toList.length from rfl]
  generalize z.cps.toList = l
  congr 1
  rw [List.drop_zero, Nat.sub_zero]
  by_cases h : b ≤ l.length
  · rw [Nat.min_eq_left h]
  · rw [Nat.min_eq_right (by omega), List.take_of_length_le (Nat.le_refl _), List.take_of_length_le (by omega)]
end K82
namespace SA
open PySem PySem.Spec PyProof.Rows L2 K82
/-- what was read, as data -/
def RdD : Option (Int × Int) → PyData
  | none => .none
  | some (a, b) => .tuple [.int a, .int b]
theorem RdQ.sh {K : PySem.W.Frag} {o : Option (Int × Int)} {H : Hp} {R : VK} (hb : ∀ a b, o = some (a, b) → a.natAbs < 2 ^ 118 ∧ b.natAbs < 2 ^ 118) (k : ∀ v H', Same H H' → Sh K H' v (RdD o) → R v H') : RdQ o H R := by
  have big : (2 : Nat) ^ 118 ≤ 2 ^ 120 := by decide
  refine ⟨fun e H' s => ?_, fun a b e p H' hp s q => ?_⟩
  · subst e
    exact k _ H' s ⟨.non, gd_none⟩
  · subst e
    obtain ⟨h1, h2⟩ := hb a b rfl
    exact k _ H' s ⟨.tup (SqT.of q) (.cons (.int a) (.cons (.int b) .nil)), gd_pair (by omega) (by omega)⟩
theorem RdQ.nil {o : Option (Int × Int)} {H : Hp} {R : VK} (e : o = none) (k : ∀ H', Same H H' → R .non H') : RdQ o H R :=
  ⟨fun _ => k, fun a b e2 => by rw [e] at e2; cases e2⟩
theorem DrawAt.same {H H' : Hp} {d w c : Addr} {n : Nat} (h : DrawAt H d w c n) (s : Same H H') : DrawAt H' d w c n := by
  obtain ⟨⟨r, t, a1, a2, e⟩, ⟨ws, e2⟩, ⟨cs, e3⟩, ne⟩ := h
  exact ⟨⟨r, t, a1, a2, s _ _ e⟩, ⟨ws, s _ _ e2⟩, ⟨cs, s _ _ e3⟩, ne⟩
theorem ascii_bits {z : Str} (h : IsB (tl z)) : ∀ c ∈ z.cps.toList, c < 128 := fun c hc => by
  have := h c hc
  omega
theorem sh_bits {K : PySem.W.Frag} {H : Hp} {z : Str} (h : IsB (tl z)) (hl : z.length ≤ 1000) : Sh K H (.str z) (.str z) := ⟨.str z, gd_str hl (ascii_bits h)⟩
/-- read(at = .., bits = ..) -/
def kwBA {α : Type} : List α → List α → List α := fun us zs => match us, zs with
  | [], [a, b] => [b, a]
  | _, _ => []
def spWR : Sp := fun vs H Q _ => ∃ (d w c : Addr) (n : Nat) (i : Int), vs = [.ref d, .int i] ∧ DrawAt H d w c n ∧ n < 2 ^ 37 ∧ i.natAbs ≤ 2 ^ 41 ∧ ∀ H', DrawAt H' d w c (n + 200) → But2 d w H H' → Q (.bl true) H'
section
variable {P : Program} {w0 : World} {K : PySem.W.Frag} {mg : Str → Option Value} {base : Heap} {SE BB BN : Addr}
theorem ok_written {f : Addr} {fd : FuncData} (F : Fun K "_law_written_right" "_law_written_right" s__law_written_right f fd) (B : Bn2 mg) (SK : SysK K)
    (c__law_signed : Dq P w0 K mg base CX0 3 "_law_signed" ["number"] spBitsN) (c__law_bits : Dq P w0 K mg base CX0 4 "_law_bits" ["draw", "most"] spBits) (c_number_bits : Dq P w0 K mg base (L2.CX P w0) 3 "number_bits" ["number"] (spNumBt K BN))
    (k_number_bits : Dk P w0 K mg base (L2.CX P w0) 3 "number_bits" ["number"] ["number"] cat1 (spNumBt K BN)) (c_count_bits : Dq P w0 K mg base (L2.CX P w0) 2 "count_bits" ["number"] (spCntB K BN)) (k_count_bits : Dk P w0 K mg base (L2.CX P w0) 2 "count_bits" ["number"] ["number"] cat1 (spCntB K BN))
    (c__law_count : Dq P w0 K mg base CX0 2 "_law_count" ["number"] spBitsC) (c_read_number : Dq P w0 K mg base (L2.CX P w0) 5 "read_number" ["bits", "at"] (spRdN K BB BN)) (c_read_count : Dq P w0 K mg base (L2.CX P w0) 5 "read_count" ["bits", "at"] (spRdC K BB BN))
    (k_read_number : Dk P w0 K mg base (L2.CX P w0) 5 "read_number" ["bits", "at"] ["at", "bits"] kwBA (spRdN K BB BN)) (k_read_count : Dk P w0 K mg base (L2.CX P w0) 5 "read_count" ["bits", "at"] ["at", "bits"] kwBA (spRdC K BB BN))
    (c__law_take : Dq P w0 K mg base CX0 2 "_law_take" ["draw", "many"] spTake) (c__law_read : Dq P w0 K mg base CX0 2 "_law_read" ["bits", "at"] spCntAt) (c__law_signed_at : Dq P w0 K mg base CX0 3 "_law_signed_at" ["bits", "at"] spNumAt) :
    FnG P w0 K mg base 6 f fd ["draw", "number"] spWR := by
  refine Fun.okG F sc__law_written_right (fun vs H Q E h => ?_) (fun cdv A outer s H vs Q E hg hr h => ?_)
  · obtain ⟨d, w, c, n, i, rfl, _⟩ := h
    rfl
  · obtain ⟨d, w, c, n, i, rfl, hD, hn, hi, k⟩ := h
    refine ⟨_, (Evl.pss_cut (ps_par3 (i := 2) (j := 3) (l := 4) rfl sc__law_written_right.nd rfl rfl rfl (by decide) (by decide) (by decide) rfl rfl rfl (pa_cons (pe_q c__law_signed hr (by decide) (by rfl) (pa_cons (pv 1) pa_nil)) (pa_cons (pe_q c__law_bits hr (by decide) (by rfl) (pa_cons (pv 0) (pa_cons pe_int pa_nil))) (pa_cons (pe_q c__law_bits hr (by decide) (by rfl) (pa_cons (pv 0) (pa_cons pe_int pa_nil))) pa_nil))) rfl)
      (Evl.pss_cut (ps_if (PW.pt (pw_or (pt_cmpR op_ne (pe_callB (call_reprA SK hg hr.units) (by rfl) B.repr (by decide +kernel) (pa_cons (pe_qX c_number_bits hr (by decide) (by rfl) passN (pa_cons (pv 1) pa_nil)) pa_nil)) (pe_callB (call_reprA SK hg hr.units) (by rfl) B.repr (by decide +kernel) (pa_cons (pv 2) pa_nil)) (nomark _)) (pw_or1 (pt_cmpR op_ne (pe_callB (call_reprA SK hg hr.units) (by rfl) B.repr (by decide +kernel) (pa_cons (pe_qK0 k_number_bits hr (by decide) (by rfl) passN (pk_cons (pv 1) pk_nil)) pa_nil)) (pe_callB (call_reprA SK hg hr.units) (by rfl) B.repr (by decide +kernel) (pa_cons (pv 2) pa_nil)) (nomark _))))) (pss_one (ps_ret pe_bl)) pss_nil)
      (Evl.pss_cut (ps_set (i := 5) sc__law_written_right.nd rfl (Or.inl rfl) (pe_callB call_abs (by rfl) B.abs (by decide +kernel) (pa_cons (pv 1) pa_nil)))
      (Evl.pss_cut (ps_if (PW.pt (pw_or (pt_cmpR op_ne (pe_callB (call_reprA SK hg hr.units) (by rfl) B.repr (by decide +kernel) (pa_cons (pe_qX c_count_bits hr (by decide) (by rfl) passN (pa_cons (pv 5) pa_nil)) pa_nil)) (pe_callB (call_reprA SK hg hr.units) (by rfl) B.repr (by decide +kernel) (pa_cons (pe_q c__law_count hr (by decide) (by rfl) (pa_cons (pv 5) pa_nil)) pa_nil)) (nomark _)) (pw_or1 (pt_cmpR op_ne (pe_callB (call_reprA SK hg hr.units) (by rfl) B.repr (by decide +kernel) (pa_cons (pe_qK0 k_count_bits hr (by decide) (by rfl) passN (pk_cons (pv 5) pk_nil)) pa_nil)) (pe_callB (call_reprA SK hg hr.units) (by rfl) B.repr (by decide +kernel) (pa_cons (pe_q c__law_count hr (by decide) (by rfl) (pa_cons (pv 5) pa_nil)) pa_nil)) (nomark _))))) (pss_one (ps_ret pe_bl)) pss_nil)
      (Evl.pss_cut (ps_par (i := 6) (j := 7) rfl sc__law_written_right.nd rfl rfl (by decide) rfl rfl (pa_cons (pe_callB call_len_str (by rfl) B.len PySem.boot_len (pa_cons (pv 3) pa_nil)) (pa_cons (pe_op op_add_str (pe_op op_add_str (pv 3) (pv 2)) (pv 4)) pa_nil)) rfl)
      (Evl.pss_cut (ps_if (pt_cmpR op_ne (pe_callB (call_reprA SK hg hr.units) (by rfl) B.repr (by decide +kernel) (pa_cons (pe_qX c_read_number hr (by decide) (by rfl) passN (pa_cons (pv 7) (pa_cons (pv 6) pa_nil))) pa_nil)) (pe_callB (call_reprA SK hg hr.units) (by rfl) B.repr (by decide +kernel) (pa_cons (pe_tup (pa_cons (pv 1) (pa_cons (pe_op op_add (pv 6) (pe_callB call_len_str (by rfl) B.len PySem.boot_len (pa_cons (pv 2) pa_nil))) pa_nil))) pa_nil)) (nomark _)) (pss_one (ps_ret pe_bl)) pss_nil)
      (Evl.pss_cut (ps_if (pt_cmpR op_ne (pe_callB (call_reprA SK hg hr.units) (by rfl) B.repr (by decide +kernel) (pa_cons (pe_qX c_read_count hr (by decide) (by rfl) passN (pa_cons (pe_op op_add_str (pe_op op_add_str (pv 3) (pe_q c__law_count hr (by decide) (by rfl) (pa_cons (pv 5) pa_nil))) (pv 4)) (pa_cons (pv 6) pa_nil))) pa_nil)) (pe_callB (call_reprA SK hg hr.units) (by rfl) B.repr (by decide +kernel) (pa_cons (pe_tup (pa_cons (pv 5) (pa_cons (pe_op op_add (pv 6) (pe_callB call_len_str (by rfl) B.len PySem.boot_len (pa_cons (pe_q c__law_count hr (by decide) (by rfl) (pa_cons (pv 5) pa_nil)) pa_nil))) pa_nil))) pa_nil)) (nomark _)) (pss_one (ps_ret pe_bl)) pss_nil)
      (Evl.pss_cut (ps_for PassesOwn.never rfl (pi_list (pe_lst (pa_cons pe_int (pa_cons (pe_q c__law_take hr (by decide) (by rfl) (pa_cons (pv 0) (pa_cons (pe_callB call_len_str (by rfl) B.len PySem.boot_len (pa_cons (pv 2) pa_nil)) pa_nil))) (pa_cons (pe_op op_sub (pe_callB call_len_str (by rfl) B.len PySem.boot_len (pa_cons (pv 2) pa_nil)) pe_int) pa_nil))))) (pg_name (i := 8) sc__law_written_right.nd rfl (Or.inl rfl)) (pss_one (ps_if (PW.pt (pw_or (pt_cmpR op_notN (pe_qX c_read_number hr (by decide) (by rfl) passN (pa_cons (pe_op op_add_str (pv 3) (pe_slice sl_str (pv 2) po_none (po_some (pv 8)))) (pa_cons (pv 6) pa_nil))) pe_non (nomark _)) (pw_or1 (pt_cmpR op_notN (pe_qX c_read_count hr (by decide) (by rfl) passN (pa_cons (pe_op op_add_str (pv 3) (pe_slice sl_str (pv 2) po_none (po_some (pv 8)))) (pa_cons (pv 6) pa_nil))) pe_non (nomark _))))) (pss_one (ps_ret pe_bl)) pss_nil)))
      (Evl.pss_cut (ps_set (i := 9) sc__law_written_right.nd rfl (Or.inl rfl) (pe_q c__law_take hr (by decide) (by rfl) (pa_cons (pv 0) (pa_cons (pe_op op_add (pe_callB call_len_str (by rfl) B.len PySem.boot_len (pa_cons (pv 7) pa_nil)) pe_int) pa_nil))))
      (Evl.pss_cut (ps_if (pt_cmpR op_ne (pe_callB (call_reprA SK hg hr.units) (by rfl) B.repr (by decide +kernel) (pa_cons (pe_qK0 k_read_count hr (by decide) (by rfl) passN (pk_cons (pv 9) (pk_cons (pv 7) pk_nil))) pa_nil)) (pe_callB (call_reprA SK hg hr.units) (by rfl) B.repr (by decide +kernel) (pa_cons (pe_q c__law_read hr (by decide) (by rfl) (pa_cons (pv 7) (pa_cons (pv 9) pa_nil))) pa_nil)) (nomark _)) (pss_one (ps_ret pe_bl)) pss_nil)
      (pss_one (ps_ret (pe_cmpR op_eq (pe_callB (call_reprA SK hg hr.units) (by rfl) B.repr (by decide +kernel) (pa_cons (pe_qK0 k_read_number hr (by decide) (by rfl) passN (pk_cons (pv 9) (pk_cons (pv 7) pk_nil))) pa_nil)) (pe_callB (call_reprA SK hg hr.units) (by rfl) B.repr (by decide +kernel) (pa_cons (pe_q c__law_signed_at hr (by decide) (by rfl) (pa_cons (pv 7) (pa_cons (pv 9) pa_nil))) pa_nil)) (nomark _)))))))))))))), ?_⟩
    have hz := zig_bd hi
    have big : (2 : Nat) ^ 43 ≤ 2 ^ 58 ∧ (2 : Nat) ^ 41 ≤ 2 ^ 57 ∧ (2 : Nat) ^ 37 + 1000 < 2 ^ 39 := by decide
    have hl1 : (enc (zig i)).length ≤ 87 := by
      have := log60 hz
      rw [enc_len]
      omega
    have dueB : IsB (tl (mk (enc (zig i)))) := by rw [tl_mk]; exact enc_isB _
    have dueL : (mk (enc (zig i))).length ≤ 87 := by rw [len_mk]; exact hl1
    have cntB : ∀ m : Nat, m ≤ 2 ^ 41 → (enc m).length ≤ 87 ∧ m + 1 < 2 ^ 60 := fun m hm => by
      have h43 : m + 1 < 2 ^ 43 := by omega
      have := log60 h43
      rw [enc_len]
      omega
    have cB : ∀ m : Nat, IsB (tl (mk (enc m))) := fun m => by rw [tl_mk]; exact enc_isB _
    have cL : ∀ m : Nat, m ≤ 2 ^ 41 → (mk (enc m)).length ≤ 87 := fun m hm => by rw [len_mk]; exact (cntB m hm).1
    have gD : Gd (.str (mk (enc (zig i)))) := gd_str (by omega) (ascii_bits dueB)
    have gC : ∀ m : Nat, m ≤ 2 ^ 41 → Gd (.str (mk (enc m))) := fun m hm => gd_str (by have := cL m hm; omega) (ascii_bits (cB m))
    refine ⟨fun σ H' => ∃ fr bk : Str, σ = [some (.ref d), some (.int i), some (.str (mk (enc (zig i)))), some (.str fr), some (.str bk), none, none, none, none, none] ∧ IsB (tl fr) ∧ IsB (tl bk) ∧ fr.length ≤ 12 ∧ bk.length ≤ 40 ∧ DrawAt H' d w c (n + 100) ∧ But2 d w H H', ?_, ?_⟩
    · refine ⟨_, rfl, i, rfl, by omega, _, rfl, d, w, c, n, 12, rfl, hD, by omega, by omega, fun fr H1 frB frL D1 b1 => ?_⟩
      exact ⟨_, rfl, d, w, c, _, 40, rfl, D1, by omega, by omega, fun bk H2 bkB bkL D2 b2 => ⟨_, _, _, rfl, fr, bk, rfl, frB, bkB, frL, bkL, D2.mono (by omega), b1.trans b2⟩⟩
    rintro σ H2 ⟨fr, bk, rfl, frB, bkB, frL, bkL, D2, b2⟩
    -- number_bits
    refine ⟨fun σ H' => H' = H2 ∧ σ = [some (.ref d), some (.int i), some (.str (mk (enc (zig i)))), some (.str fr), some (.str bk), none, none, none, none, none], ?_, ?_⟩
    · refine ⟨_, rfl, .int i, "int", rfl, .int i, fun j e => ?_, fun z => absurd rfl z⟩
      injection e with e
      subst e
      refine ⟨by omega, _, _, rfl, .str _, (gD).1, (gD).2.1, (gD).2.2, _, rfl, _, _, rfl, .str _, (gD).1, (gD).2.1, (gD).2.2, ?_⟩
      refine ⟨rfl, _, rfl, iteNS rfl ?_⟩
      refine ⟨_, rfl, .int i, "int", rfl, .int i, fun j e => ?_, fun z => absurd rfl z⟩
      injection e with e
      subst e
      refine ⟨by omega, _, _, rfl, .str _, (gD).1, (gD).2.1, (gD).2.2, _, rfl, _, _, rfl, .str _, (gD).1, (gD).2.1, (gD).2.2, ?_⟩
      exact ⟨rfl, _, rfl, iteNS rfl ⟨rfl, rfl⟩⟩
    rintro σ H' ⟨rfl, rfl⟩
    refine ⟨fun σ H2 => H2 = H' ∧ σ = [some (.ref d), some (.int i), some (.str (mk (enc (zig i)))), some (.str fr), some (.str bk), some (.int (i.natAbs : Nat)), none, none, none, none], ?_, ?_⟩
    · refine ⟨_, rfl, i, rfl, rfl, ?_⟩
      rw [show (if i < 0 then -i else i) = ((i.natAbs : Nat) : Int) by split <;> omega]
      rfl
    rintro σ H' ⟨rfl, rfl⟩
    have hm : i.natAbs ≤ 2 ^ 41 := hi
    generalize i.natAbs = m at hm
    -- count_bits
    refine ⟨fun σ H2 => H2 = H' ∧ σ = [some (.ref d), some (.int i), some (.str (mk (enc (zig i)))), some (.str fr), some (.str bk), some (.int (m : Nat)), none, none, none, none], ?_, ?_⟩
    · have no : ¬ (("int" : String) ≠ "int" ∨ ∃ j : Int, V.int (m : Int) = .int j ∧ j < 0) := fun z => by
        rcases z with z | ⟨j, e, z⟩
        · exact z rfl
        · injection e with e
          omega
      refine ⟨_, rfl, .int (m : Nat), "int", rfl, .int _, fun j e _ => ?_, fun z => (no z).elim⟩
      injection e with e
      subst e
      refine ⟨by omega, _, _, rfl, .str _, (gC m hm).1, (gC m hm).2.1, (gC m hm).2.2, _, rfl, m, rfl, (cntB m hm).2, _, _, rfl, .str _, (gC m hm).1, (gC m hm).2.1, (gC m hm).2.2, ?_⟩
      refine ⟨rfl, _, rfl, iteNS rfl ?_⟩
      refine ⟨_, rfl, .int (m : Nat), "int", rfl, .int _, fun j e _ => ?_, fun z => (no z).elim⟩
      injection e with e
      subst e
      refine ⟨by omega, _, _, rfl, .str _, (gC m hm).1, (gC m hm).2.1, (gC m hm).2.2, _, rfl, m, rfl, (cntB m hm).2, _, _, rfl, .str _, (gC m hm).1, (gC m hm).2.1, (gC m hm).2.2, ?_⟩
      exact ⟨rfl, _, rfl, iteNS rfl ⟨rfl, rfl⟩⟩
    rintro σ H' ⟨rfl, rfl⟩
    refine ⟨fun σ H2 => H2 = H' ∧ σ = [some (.ref d), some (.int i), some (.str (mk (enc (zig i)))), some (.str fr), some (.str bk), some (.int (m : Nat)), some (.int (fr.length : Nat)), some (.str (fr ++ mk (enc (zig i)) ++ bk)), none, none], ?_, ?_⟩
    · refine ⟨_, rfl, fr, rfl, small5 (by omega), _, rfl, _, rfl, _, _, rfl, rfl, small5 (by omega), _, rfl, _, _, rfl, rfl, ?_, _, _, rfl, rfl, rfl⟩
      rw [len_app]
      exact small5 (by omega)
    rintro σ H' ⟨rfl, rfl⟩
    have whB : IsB (tl (fr ++ mk (enc (zig i)) ++ bk)) := by
      rw [tl_app, tl_app]
      exact isB_app (isB_app frB dueB) bkB
    have whL : (fr ++ mk (enc (zig i)) ++ bk).length = fr.length + (enc (zig i)).length + bk.length := by rw [len_app, len_app, show (mk (enc (zig i))).length = (enc (zig i)).length from len_mk _]
    -- what is read back
    have tW : tl (fr ++ mk (enc (zig i)) ++ bk) = tl fr ++ enc (zig i) ++ tl bk := by rw [tl_app, tl_app, tl_mk]
    have eN : rdN (tl (fr ++ mk (enc (zig i)) ++ bk)) fr.length = some (i, ((fr.length + (enc (zig i)).length : Nat) : Int)) := by
      rw [tW]
      exact rdN_at (tl fr) (tl bk) i
    have b118 : (2 : Nat) ^ 41 + 400 < 2 ^ 118 ∧ (2 : Nat) ^ 118 ≤ 2 ^ 120 := by decide
    have gP : Gd (.tuple [.int i, .int ((fr.length : Nat) + (enc (zig i)).length : Int)]) := gd_pair (by omega) (by omega)
    generalize eW : fr ++ mk (enc (zig i)) ++ bk = wh at *
    refine ⟨fun σ H2 => Same H' H2 ∧ σ = [some (.ref d), some (.int i), some (.str (mk (enc (zig i)))), some (.str fr), some (.str bk), some (.int (m : Nat)), some (.int (fr.length : Nat)), some (.str wh), none, none], ?_, ?_⟩
    · refine ⟨_, rfl, _, rfl, .str wh, .int (fr.length : Nat), rfl, "str", "int", .str _, .int _, .inl ⟨wh, fr.length, rfl, rfl, by omega, by omega, whB, by omega, RdQ.sh (K := K) (fun a b e => ?_) fun v H3 s3 sh => ⟨_, _, rfl, (sh).dx, (sh).gd.1, (sh).gd.2.1, (sh).gd.2.2, ?_⟩⟩⟩
      · exact rdN_bd whB (by show wh.length ≤ 200; omega) (by show fr.length ≤ wh.length; omega) e
      · refine ⟨_, rfl, _, rfl, _, rfl, _, rfl, small5 (by omega), _, _, rfl, rfl, (by show 2 ≤ sizeLine; decide), fun p hp => ⟨_, _, rfl, .tup (SqT.of upd_same) (.cons (.int _) (.cons (.int _) .nil)), gP.1, gP.2.1, gP.2.2, ?_⟩⟩
        refine ⟨rfl, _, rfl, iteNS ?_ ?_⟩
        · rw [eN, len_mk, Int.natCast_add]
          rfl
        · exact ⟨s3.trans (Same.new hp), rfl⟩
    rintro σ H2 ⟨s2, rfl⟩
    have D3 := D2.same s2
    have b3 : But2 d w H H2 := b2.trans (Same.but2 s2)
    clear D2 b2 s2
    have ewC : tl (fr ++ mk (enc m) ++ bk) = tl fr ++ enc m ++ tl bk := by rw [tl_app, tl_app, tl_mk]
    have eC : rdC (tl (fr ++ mk (enc m) ++ bk)) fr.length = some ((m : Int), ((fr.length + (enc m).length : Nat) : Int)) := by
      rw [ewC]
      exact rdC_at (tl fr) (tl bk) m
    have wcB : IsB (tl (fr ++ mk (enc m) ++ bk)) := by
      rw [tl_app, tl_app]
      exact isB_app (isB_app frB (cB m)) bkB
    have hcm := (cntB m hm).1
    have wcL : (fr ++ mk (enc m) ++ bk).length = fr.length + (enc m).length + bk.length := by rw [len_app, len_app, show (mk (enc m)).length = (enc m).length from len_mk _]
    have lm := len_mk (enc m)
    have gM : Gd (.tuple [.int (m : Int), .int ((fr.length : Nat) + (mk (enc m)).length : Int)]) := gd_pair (by omega) (by omega)
    refine ⟨fun σ H4 => Same H2 H4 ∧ σ = [some (.ref d), some (.int i), some (.str (mk (enc (zig i)))), some (.str fr), some (.str bk), some (.int (m : Nat)), some (.int (fr.length : Nat)), some (.str wh), none, none], ?_, ?_⟩
    · refine ⟨_, rfl, _, rfl, m, rfl, (cntB m hm).2, _, _, rfl, rfl, small5 (by omega), _, rfl, _, _, rfl, rfl, small5 (by rw [len_app]; omega), _, rfl, .str (fr ++ mk (enc m) ++ bk), .int (fr.length : Nat), rfl, "str", "int", .str _, .int _,
        .inl ⟨_, fr.length, rfl, rfl, by omega, by omega, wcB, by omega, RdQ.sh (K := K) (fun a b e => ?_) fun v H3 s3 sh => ⟨_, _, rfl, (sh).dx, (sh).gd.1, (sh).gd.2.1, (sh).gd.2.2, ?_⟩⟩⟩
      · have := rdC_bd wcB (by show (fr ++ mk (enc m) ++ bk).length ≤ 200; omega) (by show fr.length ≤ (fr ++ mk (enc m) ++ bk).length; omega) e
        exact ⟨this.1, this.2.1⟩
      · refine ⟨_, rfl, _, rfl, _, rfl, m, rfl, (cntB m hm).2, _, rfl, small5 (by omega), _, _, rfl, rfl, (by show 2 ≤ sizeLine; decide), fun p hp => ⟨_, _, rfl, .tup (SqT.of upd_same) (.cons (.int _) (.cons (.int _) .nil)), gM.1, gM.2.1, gM.2.2, ?_⟩⟩
        refine ⟨rfl, _, rfl, iteNS ?_ ?_⟩
        · rw [eC, len_mk, Int.natCast_add]
          rfl
        · exact ⟨s3.trans (Same.new hp), rfl⟩
    rintro σ H4 ⟨s4, rfl⟩
    have D4 := D3.same s4
    have b4 : But2 d w H H4 := b3.trans (Same.but2 s4)
    clear D3 b3 s4
    -- what is cut off
    have hdl : (mk (enc (zig i))).length = (enc (zig i)).length := len_mk _
    have hd0 : 0 < (enc (zig i)).length := by rw [enc_len]; omega
    have j62 : (100 : Int) < 2 ^ 62 := by decide
    refine ⟨fun σ H5 => ∃ y, σ = [some (.ref d), some (.int i), some (.str (mk (enc (zig i)))), some (.str fr), some (.str bk), some (.int (m : Nat)), some (.int (fr.length : Nat)), some (.str wh), y, none] ∧ DrawAt H5 d w c (n + 101) ∧ But2 d w H H5, ?_, ?_⟩
    · refine ⟨_, rfl, _, rfl, _, rfl, small5 (by omega), d, w, c, n + 100, _, rfl, D4, by omega, by omega, by omega, fun j H5 j0 j1 D5 b5 => ?_⟩
      refine ⟨_, rfl, _, rfl, small5 (by omega), _, _, rfl, rfl, (by show 3 ≤ sizeLine; decide), fun l hl => ?_⟩
      have b5' : But2 d w H H5 := b4.trans b5
      have it : ∀ (q : Nat) (x : V), ([V.int 0, V.int j, V.int (((mk (enc (zig i))).length : Nat) - 1 : Int)] : List V)[q]? = some x → ∃ k : Nat, x = .int k ∧ k < (enc (zig i)).length := fun q x hx => by
        have hx := List.mem_of_getElem? hx
        simp only [List.mem_cons, List.not_mem_nil, or_false] at hx
        rcases hx with rfl | rfl | rfl
        · exact ⟨0, rfl, hd0⟩
        · obtain ⟨k, rfl⟩ := Int.eq_ofNat_of_zero_le j0
          exact ⟨k, rfl, by omega⟩
        · exact ⟨(enc (zig i)).length - 1, by rw [hdl]; congr 1; omega, by omega⟩
      have Dl := D5.new (o := .lst [V.int 0, V.int j, V.int (((mk (enc (zig i))).length : Nat) - 1 : Int)]) hl
      have bl := b5'.new (o := .lst [V.int 0, V.int j, V.int (((mk (enc (zig i))).length : Nat) - 1 : Int)]) hl
      have el : (upd H5 l (.lst [V.int 0, V.int j, V.int (((mk (enc (zig i))).length : Nat) - 1 : Int)])) l = some (.lst [V.int 0, V.int j, V.int (((mk (enc (zig i))).length : Nat) - 1 : Int)]) := upd_same
      generalize upd H5 l (.lst [V.int 0, V.int j, V.int (((mk (enc (zig i))).length : Nat) - 1 : Int)]) = H6 at Dl bl el
      refine ⟨l, rfl, ⟨_, SqL.of el⟩, for_list (K := K) (a := l) (xs := [V.int 0, V.int j, V.int (((mk (enc (zig i))).length : Nat) - 1 : Int)]) (fun q σ H' => Same H6 H' ∧ ∃ y, σ = [some (.ref d), some (.int i), some (.str (mk (enc (zig i)))), some (.str fr), some (.str bk), some (.int (m : Nat)), some (.int (fr.length : Nat)), some (.str wh), y, none])
        ⟨Same.refl _, none, rfl⟩ (fun q σ H' _ ⟨e, _⟩ => SqL.of (e _ _ el)) ?_ ?_⟩
      · rintro q x σ H7 hx ⟨s7, y, rfl⟩
        obtain ⟨c9, rfl, hk⟩ := it q x hx
        have ec : cutS (mk (enc (zig i))) none (some (c9 : Int)) = mk ((enc (zig i)).take c9) := by rw [cutS_0n, tl_mk]
        have cl : (mk ((enc (zig i)).take c9)).length = c9 := by rw [len_mk, List.length_take]; omega
        have lf : (fr ++ mk ((enc (zig i)).take c9)).length = fr.length + c9 := by rw [len_app, cl]
        have tf : tl (fr ++ mk ((enc (zig i)).take c9)) = tl fr ++ (enc (zig i)).take c9 := by rw [tl_app, tl_mk]
        have bf : IsB (tl (fr ++ mk ((enc (zig i)).take c9))) := by
          rw [tf]
          exact isB_app frB fun ch hc => enc_isB _ ch (List.mem_of_mem_take hc)
        refine ⟨_, rfl, _, rfl, _, rfl, _, rfl, _, rfl, small5 (by omega), ?_⟩
        rw [ec]
        refine ⟨_, _, rfl, rfl, small5 (by omega), _, rfl, .str _, .int (fr.length : Nat), rfl, "str", "int", .str _, .int _, .inl ⟨_, fr.length, rfl, rfl, by omega, by omega, bf, by omega, RdQ.nil ?_ fun H8 s8 => ⟨rfl, _, rfl, iteF ?_⟩⟩⟩
        · rw [tf]
          exact rdN_cut (tl fr) _ _ hk
        refine ⟨_, rfl, _, rfl, _, rfl, _, rfl, _, rfl, small5 (by omega), ?_⟩
        rw [ec]
        refine ⟨_, _, rfl, rfl, small5 (by omega), _, rfl, .str _, .int (fr.length : Nat), rfl, "str", "int", .str _, .int _, .inl ⟨_, fr.length, rfl, rfl, by omega, by omega, bf, by omega, RdQ.nil ?_ fun H9 s9 => ⟨rfl, _, rfl, iteF ⟨s7.trans (s8.trans s9), _, rfl⟩⟩⟩⟩
        · rw [tf]
          exact rdC_cut (tl fr) _ _ hk
      · rintro σ H7 ⟨s7, y, rfl⟩
        exact ⟨y, rfl, Dl.same s7, bl.trans (Same.but2 s7)⟩
    rintro σ H5 ⟨y, rfl, D5, b5⟩
    refine ⟨fun σ H6 => ∃ sp : Nat, σ = [some (.ref d), some (.int i), some (.str (mk (enc (zig i)))), some (.str fr), some (.str bk), some (.int (m : Nat)), some (.int (fr.length : Nat)), some (.str wh), y, some (.int (sp : Nat))] ∧ sp ≤ wh.length ∧ DrawAt H6 d w c (n + 102) ∧ But2 d w H H6, ?_, ?_⟩
    · refine ⟨_, rfl, _, rfl, _, rfl, small5 (by omega), _, _, rfl, rfl, d, w, c, n + 101, _, rfl, D5, by omega, by omega, by omega, fun j H6 j0 j1 D6 b6 => ?_⟩
      obtain ⟨sp, rfl⟩ := Int.eq_ofNat_of_zero_le j0
      exact ⟨sp, rfl, by omega, D6, b5.trans b6⟩
    rintro σ H6 ⟨sp, rfl, hsp, D6, b6⟩
    have wl2 : (tl wh).length ≤ 200 := by show wh.length ≤ 200; omega
    have bdC : ∀ a b, rdC (tl wh) sp = some (a, b) → a.natAbs < 2 ^ 118 ∧ b.natAbs < 2 ^ 118 := fun a b e => by
      have := rdC_bd whB wl2 hsp e
      exact ⟨this.1, this.2.1⟩
    have bdN : ∀ a b, rdN (tl wh) sp = some (a, b) → a.natAbs < 2 ^ 118 ∧ b.natAbs < 2 ^ 118 := fun a b e => rdN_bd whB wl2 hsp e
    refine ⟨fun σ H7 => Same H6 H7 ∧ σ = [some (.ref d), some (.int i), some (.str (mk (enc (zig i)))), some (.str fr), some (.str bk), some (.int (m : Nat)), some (.int (fr.length : Nat)), some (.str wh), y, some (.int (sp : Nat))], ?_, ?_⟩
    · refine ⟨_, rfl, _, rfl, .str wh, .int (sp : Nat), rfl, "str", "int", .str _, .int _, .inl ⟨wh, sp, rfl, rfl, hsp, by omega, whB, by omega, RdQ.sh (K := K) bdC fun v H7 s7 sh => ⟨_, _, rfl, (sh).dx, (sh).gd.1, (sh).gd.2.1, (sh).gd.2.2, ?_⟩⟩⟩
      refine ⟨_, rfl, _, rfl, wh, sp, rfl, hsp, by omega, whB, RdQ.sh (K := K) bdC fun v2 H8 s8 sh2 => ⟨_, _, rfl, (sh2).dx, (sh2).gd.1, (sh2).gd.2.1, (sh2).gd.2.2, ?_⟩⟩
      exact ⟨rfl, _, rfl, iteNS rfl ⟨s7.trans s8, rfl⟩⟩
    rintro σ H7 ⟨s7, rfl⟩
    refine ⟨_, rfl, _, rfl, .str wh, .int (sp : Nat), rfl, "str", "int", .str _, .int _, .inl ⟨wh, sp, rfl, rfl, hsp, by omega, whB, by omega, RdQ.sh (K := K) bdN fun v H8 s8 sh => ⟨_, _, rfl, (sh).dx, (sh).gd.1, (sh).gd.2.1, (sh).gd.2.2, ?_⟩⟩⟩
    refine ⟨_, rfl, _, rfl, wh, sp, rfl, hsp, by omega, whB, RdQ.sh (K := K) bdN fun v2 H9 s9 sh2 => ⟨_, _, rfl, (sh2).dx, (sh2).gd.1, (sh2).gd.2.1, (sh2).gd.2.2, ?_⟩⟩
    refine ⟨rfl, ?_⟩
    rw [decide_eq_true rfl]
    have s69 := (s7.trans s8).trans s9
    exact k _ ((D6.same s69).mono (by omega)) (b6.trans (Same.but2 s69))
end
end SA
set_option Elab.async false
set_option linter.all false
set_option maxRecDepth 100000
set_option maxHeartbeats 8000000
namespace SA
open PySem PySem.Spec PyProof.Rows L2 K82
/-- a value that is no number, its object not the draw's -/
inductive Odd (d w : Addr) (H : Hp) : V → Prop
  | non : Odd d w H .non
  | bl (b : Bool) : Odd d w H (.bl b)
  | str (z : Str) : Odd d w H (.str z)
  | tup {a : Addr} {xs : List V} (h : H a = some (.tup xs)) (h1 : a ≠ d) (h2 : a ≠ w) : Odd d w H (.ref a)
  | lst {a : Addr} {xs : List V} (h : H a = some (.lst xs)) (h1 : a ≠ d) (h2 : a ≠ w) : Odd d w H (.ref a)
  | dct {a : Addr} {kvs : List (Key × V)} (h : H a = some (.dK kvs)) (h1 : a ≠ d) (h2 : a ≠ w) : Odd d w H (.ref a)
theorem Odd.but2 {d w : Addr} {H H' : Hp} {x : V} (o : Odd d w H x) (b : But2 d w H H') : Odd d w H' x := by
  cases o with
  | non => exact .non
  | bl b => exact .bl b
  | str z => exact .str z
  | tup h h1 h2 => exact .tup (b _ _ h h1 h2) h1 h2
  | lst h h1 h2 => exact .lst (b _ _ h h1 h2) h1 h2
  | dct h h1 h2 => exact .dct (b _ _ h h1 h2) h1 h2
theorem Odd.same {d w : Addr} {H H' : Hp} {x : V} (o : Odd d w H x) (s : Same H H') : Odd d w H' x := o.but2 (Same.but2 s)
/-- its class; a text is none here -/
theorem Odd.kd {K : PySem.W.Frag} {d w : Addr} {H : Hp} {x : V} (o : Odd d w H x) : ∃ t, Kd K H x t ∧ t ≠ "int" ∧ ((∀ z, x ≠ .str z) → t ≠ "str") := by
  cases o with
  | non => exact ⟨_, .non, by decide, fun _ => by decide⟩
  | bl b => exact ⟨_, .bl b, by decide, fun _ => by decide⟩
  | str z => exact ⟨_, .str z, by decide, fun h => absurd rfl (h z)⟩
  | tup h h1 h2 => exact ⟨_, .tup (.base (.tup h)), by decide, fun _ => by decide⟩
  | lst h h1 h2 => exact ⟨_, .lst (.base (.lst h)), by decide, fun _ => by decide⟩
  | dct h h1 h2 => exact ⟨_, .dct (.base (.dK h)), by decide, fun _ => by decide⟩
theorem Odd.int {d w : Addr} {H : Hp} {i : Int} (o : Odd d w H (.int i)) : False := by cases o
abbrev dBN : PyData := .tuple [.str "BadNumber"]
abbrev dBB : PyData := .tuple [.str "BadBits", .none]
theorem gBB : Gd dBB := gd_of (by decide +kernel) (by decide +kernel) (by decide +kernel) (by decide +kernel)
theorem eqBN : (!dBN.eqv dBN) = false := by decide +kernel
theorem shBN : SeqAt.shaped dBN = true := by decide +kernel
theorem nb_app2 {z : Str} : ¬ IsB (tl (z ++ "2")) := fun h => by
  rw [tl_app] at h
  have := h 50 (List.mem_append.mpr (.inr (by decide +kernel)))
  omega
theorem nb_appo {z : Str} : ¬ IsB (tl (z ++ "o")) := fun h => by
  rw [tl_app] at h
  have := h 111 (List.mem_append.mpr (.inr (by decide +kernel)))
  omega
theorem nb_bl {z : Str} : ¬ IsB (tl ((" " : Str) ++ z)) := fun h => by
  rw [tl_app] at h
  have := h 32 (List.mem_append.mpr (.inl (by decide +kernel)))
  omega
theorem nb_m1 : ¬ IsB (tl ("-1" : Str)) := fun h => by
  have := h 45 (by decide +kernel)
  omega
theorem l1a : ("2" : Str).length = 1 ∧ ("o" : Str).length = 1 ∧ (" " : Str).length = 1 ∧ ("-1" : Str).length = 2 := by decide +kernel
def spRef : Sp := fun vs H Q _ => ∃ (d w c : Addr) (n : Nat), vs = [.ref d] ∧ DrawAt H d w c n ∧ n < 2 ^ 37 ∧ ∀ H', Q (.bl true) H'
/-- what is no string of bits -/
def Str9 (d w : Addr) (H : Hp) (x : V) : Prop := (Odd d w H x ∧ ∀ z, x = .str z → z.length ≤ 100 ∧ ¬ IsB (tl z)) ∨ x = .int 1
theorem Str9.but2 {d w : Addr} {H H' : Hp} {x : V} (o : Str9 d w H x) (b : But2 d w H H') : Str9 d w H' x := o.elim (fun ⟨h1, h2⟩ => .inl ⟨h1.but2 b, h2⟩) .inr
theorem Str9.kd {K : PySem.W.Frag} {d w : Addr} {H : Hp} {x : V} (o : Str9 d w H x) : ∃ t, Kd K H x t ∧ NoBits x t := by
  rcases o with ⟨o, h⟩ | rfl
  · obtain ⟨t, k, _, ns⟩ := o.kd (K := K)
    by_cases hz : ∃ z, x = .str z
    · obtain ⟨z, rfl⟩ := hz
      obtain ⟨h1, h2⟩ := h z rfl
      exact ⟨t, k, .inr ⟨z, rfl, by omega, h2⟩⟩
    · exact ⟨t, k, .inl (ns fun z e => hz ⟨z, e⟩)⟩
  · exact ⟨_, .int 1, .inl (by decide)⟩
section
variable {P : Program} {w0 : World} {K : PySem.W.Frag} {mg : Str → Option Value} {base : Heap} {SE BB BN : Addr}
/-- one of the two that read -/
def Wk (P : Program) (w0 : World) (K : PySem.W.Frag) (mg : Str → Option Value) (base : Heap) (BB BN : Addr) (v : V) : Prop := ∃ (fW : Addr) (sp : Sp) (fd : FuncData) (ps : List Str), v = .ref fW ∧ FnOk P w0 K mg base (L2.CX P w0) 5 fW fd ps sp ∧ PySem.W.keepIn K (.ref fW) = true ∧ L2.Binds K fd ps [] ∧
  ∀ (x y : V) (H1 : Hp) (Q' : VK) (E' : XK) (t u : String), Kd K H1 x t → Kd K H1 y u → ((NoBits x t ∧ RaiseF BB "at" .non H1 E') ∨ (∃ z, x = .str z ∧ z.length ≤ 100000 ∧ IsB (tl z) ∧ (u ≠ "int" ∨ ∃ i : Int, y = .int i ∧ ¬ (0 ≤ i ∧ i ≤ z.length)) ∧ E' (.ref BN) none H1)) → sp [x, y] H1 Q' E'
theorem ok_refused {f : Addr} {fd : FuncData} (F : Fun K "_law_refused" "_law_refused" s__law_refused f fd) (B : Bn2 mg) (SK : SysK K)
    (c__law_pick : Dq P w0 K mg base CX0 3 "_law_pick" ["draw", "some"] (spPick K)) (c__law_bits : Dq P w0 K mg base CX0 4 "_law_bits" ["draw", "most"] spBits) (c__law_take : Dq P w0 K mg base CX0 2 "_law_take" ["draw", "many"] spTake)
    (c__law_outcome : Dq P w0 K mg base CX0 6 "_law_outcome" ["work", "things"] (spOutc P w0 K mg base BB BN)) (c_number_bits : Dq P w0 K mg base (L2.CX P w0) 3 "number_bits" ["number"] (spNumBt K BN)) (c_count_bits : Dq P w0 K mg base (L2.CX P w0) 2 "count_bits" ["number"] (spCntB K BN))
    (c_read_number : Dq P w0 K mg base (L2.CX P w0) 5 "read_number" ["bits", "at"] (spRdN K BB BN)) (c_read_count : Dq P w0 K mg base (L2.CX P w0) 5 "read_count" ["bits", "at"] (spRdC K BB BN)) : FnG P w0 K mg base 7 f fd ["draw"] spRef := by
  refine Fun.okG F sc__law_refused (fun vs H Q E h => ?_) (fun cdv A outer s H vs Q E hg hr h => ?_)
  · obtain ⟨d, w, c, n, rfl, _⟩ := h
    rfl
  · obtain ⟨d, w, c, n, rfl, hD, hn, k⟩ := h
    obtain ⟨fN, fdN, GN, mN, kN, bN⟩ := c_number_bits.ex
    obtain ⟨fC, fdC, GC, mC, kC, bC⟩ := c_count_bits.ex
    obtain ⟨fRN, fdRN, GRN, mRN, kRN, bRN⟩ := c_read_number.ex
    obtain ⟨fRC, fdRC, GRC, mRC, kRC, bRC⟩ := c_read_count.ex
    refine ⟨_, (Evl.pss_cut (ps_par (i := 1) (j := 2) rfl sc__law_refused.nd rfl rfl (by decide) rfl rfl (pa_cons (pe_q c__law_pick hr (by decide) (by rfl) (pa_cons (pv 0) (pa_cons (pe_lst (pa_cons pe_non (pa_cons pe_bl (pa_cons pe_bl (pa_cons pe_str (pa_cons pe_str (pa_cons (pe_tup (pa_cons pe_int pa_nil)) (pa_cons (pe_lst (pa_cons pe_int pa_nil)) (pa_cons pe_dnewK pa_nil))))))))) pa_nil))) (pa_cons (pe_q c__law_bits hr (by decide) (by rfl) (pa_cons (pv 0) (pa_cons pe_int pa_nil))) pa_nil)) rfl)
      (Evl.pss_cut (ps_if (PW.pt (pw_or (pt_cmpR (op_neD hr.units) (pe_q c__law_outcome hr (by decide) (by rfl) (pa_cons (pe_glob (v := .ref fN) (by rfl) mN rfl) (pa_cons (pe_lst (pa_cons (pv 1) pa_nil)) pa_nil))) (pe_tup (pa_cons pe_str pa_nil)) (nomark _)) (pw_or1 (pt_cmpR (op_neD hr.units) (pe_q c__law_outcome hr (by decide) (by rfl) (pa_cons (pe_glob (v := .ref fC) (by rfl) mC rfl) (pa_cons (pe_lst (pa_cons (pv 1) pa_nil)) pa_nil))) (pe_tup (pa_cons pe_str pa_nil)) (nomark _))))) (pss_one (ps_ret pe_bl)) pss_nil)
      (Evl.pss_cut (ps_if (pt_cmpR (op_neD hr.units) (pe_q c__law_outcome hr (by decide) (by rfl) (pa_cons (pe_glob (v := .ref fC) (by rfl) mC rfl) (pa_cons (pe_lst (pa_cons (pe_op op_sub (pe_un un_neg pe_int) (pe_q c__law_take hr (by decide) (by rfl) (pa_cons (pv 0) (pa_cons pe_int pa_nil)))) pa_nil)) pa_nil))) (pe_tup (pa_cons pe_str pa_nil)) (nomark _)) (pss_one (ps_ret pe_bl)) pss_nil)
      (Evl.pss_cut (ps_set (i := 3) sc__law_refused.nd rfl (Or.inl rfl) (pe_q c__law_pick hr (by decide) (by rfl) (pa_cons (pv 0) (pa_cons (pe_lst (pa_cons pe_non (pa_cons pe_int (pa_cons pe_bl (pa_cons (pe_lst (pa_cons pe_str (pa_cons pe_str pa_nil))) (pa_cons (pe_tup (pa_cons pe_str pa_nil)) (pa_cons (pe_op op_add_str (pv 2) pe_str) (pa_cons (pe_op op_add_str pe_str (pv 2)) (pa_cons (pe_op op_add_str (pv 2) pe_str) (pa_cons pe_str (pa_cons pe_dnewK pa_nil))))))))))) pa_nil))))
      (Evl.pss_cut (ps_for PassesOwn.never rfl (pi_list (pe_lst (pa_cons pe_int (pa_cons pe_non (pa_cons (pe_q c__law_take hr (by decide) (by rfl) (pa_cons (pv 0) (pa_cons pe_int pa_nil))) pa_nil))))) (pg_name (i := 4) sc__law_refused.nd rfl (Or.inl rfl)) (pss_one (ps_for PassesOwn.never rfl (pi_list (pe_lst (pa_cons (pe_glob (v := .ref fRN) (by rfl) mRN rfl) (pa_cons (pe_glob (v := .ref fRC) (by rfl) mRC rfl) pa_nil)))) (pg_name (i := 5) sc__law_refused.nd rfl (Or.inl rfl)) (pss_one (ps_if (pt_cmpR op_ne (pe_callB (call_reprA SK hg hr.units) (by rfl) B.repr (by decide +kernel) (pa_cons (pe_q c__law_outcome hr (by decide) (by rfl) (pa_cons (pv 5) (pa_cons (pe_lst (pa_cons (pv 3) (pa_cons (pv 4) pa_nil))) pa_nil))) pa_nil)) (pe_callB (call_reprA SK hg hr.units) (by rfl) B.repr (by decide +kernel) (pa_cons (pe_tup (pa_cons pe_str (pa_cons pe_non pa_nil))) pa_nil)) (nomark _)) (pss_one (ps_ret pe_bl)) pss_nil)))))
      (Evl.pss_cut (ps_for PassesOwn.never rfl (pi_list (pe_lst (pa_cons pe_non (pa_cons pe_bl (pa_cons (pe_un un_neg pe_int) (pa_cons (pe_op op_add (pe_callB call_len_str (by rfl) B.len PySem.boot_len (pa_cons (pv 2) pa_nil)) pe_int) (pa_cons pe_str (pa_cons (pe_tup (pa_cons pe_int pa_nil)) (pa_cons (pe_lst (pa_cons pe_int pa_nil)) (pa_cons pe_dnewK pa_nil)))))))))) (pg_name (i := 4) sc__law_refused.nd rfl (Or.inl rfl)) (pss_one (ps_for PassesOwn.never rfl (pi_list (pe_lst (pa_cons (pe_glob (v := .ref fRN) (by rfl) mRN rfl) (pa_cons (pe_glob (v := .ref fRC) (by rfl) mRC rfl) pa_nil)))) (pg_name (i := 5) sc__law_refused.nd rfl (Or.inl rfl)) (pss_one (ps_if (pt_cmpR (op_neD hr.units) (pe_q c__law_outcome hr (by decide) (by rfl) (pa_cons (pv 5) (pa_cons (pe_lst (pa_cons (pv 2) (pa_cons (pv 4) pa_nil))) pa_nil))) (pe_tup (pa_cons pe_str pa_nil)) (nomark _)) (pss_one (ps_ret pe_bl)) pss_nil)))))
      (pss_one (ps_ret pe_bl)))))))), ?_⟩
    have big : (2 : Nat) ^ 37 + 1000 < 2 ^ 39 := by decide
    refine ⟨fun σ H' => ∃ (x : V) (z : Str), σ = [some (.ref d), some x, some (.str z), none, none, none] ∧ Odd d w H' x ∧ IsB (tl z) ∧ z.length ≤ 9 ∧ DrawAt H' d w c (n + 50) ∧ But2 d w H H', ?_, ?_⟩
    · refine ⟨_, rfl, (by show 1 ≤ sizeLine; decide), fun t ht => ⟨(by show 1 ≤ sizeLine; decide), fun l hl => fun q hq => ⟨(by show 8 ≤ sizeLine; decide), fun p hp => ?_⟩⟩⟩
      have D1 := hD.new (o := .tup [.int 1]) ht
      have D2 := D1.new (o := .lst [.int 0]) hl
      have D3 := D2.new (o := .dK []) hq
      have D4 := D3.new (o := .lst [.non, .bl true, .bl false, .str "5", .str "", .ref t, .ref l, .ref q]) hp
      have kt := hD.knowD ht
      have kl := D1.knowD hl
      have kq := D2.knowD hq
      have kp := D3.knowD hp
      have z1 : Same H (upd H t (.tup [.int 1])) := Same.new ht
      have z2 : Same (upd H t (.tup [.int 1])) (upd (upd H t (.tup [.int 1])) l (.lst [.int 0])) := Same.new hl
      have z3 : Same (upd (upd H t (.tup [.int 1])) l (.lst [.int 0])) (upd (upd (upd H t (.tup [.int 1])) l (.lst [.int 0])) q (.dK [])) := Same.new hq
      have z4 : Same (upd (upd (upd H t (.tup [.int 1])) l (.lst [.int 0])) q (.dK [])) (upd (upd (upd (upd H t (.tup [.int 1])) l (.lst [.int 0])) q (.dK [])) p (.lst [.non, .bl true, .bl false, .str "5", .str "", .ref t, .ref l, .ref q])) := Same.new hp
      refine ⟨d, w, c, p, n, _, rfl, D4, by omega, kp.1, kp.2.1, SqL.of upd_same, by simp, (by show 8 < 2 ^ 29; decide), fun x H5 hx D5 b5 => ?_⟩
      have b05 : But2 d w H H5 := (Same.but2 (z1.trans (z2.trans (z3.trans z4)))).trans b5
      have ox : Odd d w H5 x := by
        simp only [List.mem_cons, List.not_mem_nil, or_false] at hx
        rcases hx with rfl | rfl | rfl | rfl | rfl | rfl | rfl | rfl
        · exact .non
        · exact .bl _
        · exact .bl _
        · exact .str _
        · exact .str _
        · exact (Odd.tup ((z2.trans (z3.trans z4)) _ _ upd_same) kt.1 kt.2.1).but2 b5
        · exact (Odd.lst ((z3.trans z4) _ _ upd_same) kl.1 kl.2.1).but2 b5
        · exact (Odd.dct (z4 _ _ upd_same) kq.1 kq.2.1).but2 b5
      exact ⟨_, rfl, d, w, c, _, 9, rfl, D5, by omega, by omega, fun z H6 zB zL D6 b6 => ⟨_, _, rfl, x, z, rfl, ox.but2 b6, zB, zL, D6.mono (by omega), b05.trans b6⟩⟩
    rintro σ H1 ⟨x, z, rfl, ox, zB, zL, D1, b1⟩
    -- no number
    refine ⟨fun σ H' => σ = [some (.ref d), some x, some (.str z), none, none, none] ∧ Same H1 H', ?_, ?_⟩
    · refine ⟨_, rfl, (by show 1 ≤ sizeLine; decide), fun l hl => ?_⟩
      have z1 : Same H1 (upd H1 l (.lst [x])) := Same.new hl
      refine ⟨fN, l, [x], _, _, _, 3, false, rfl, by decide, GN, kN, bN, SqL.of upd_same, .inl rfl, fun H2 Q' E' s2 hE => ?_, fun p H2 hp s2 e2 => ?_⟩
      · obtain ⟨t, kd, ni, _⟩ := (ox.same (z1.trans s2)).kd (K := K)
        exact ⟨x, t, rfl, kd, fun i e => by subst e; exact (ox.int).elim, fun _ => hE _ _ _ ⟨Same.refl _, rfl, rfl⟩⟩
      refine ⟨(by show 1 ≤ sizeLine; decide), fun p2 hp2 => ⟨dBN, dBN, .tup (SqT.of ((Same.new hp2) _ _ e2)) (.cons (.str _) .nil), .tup (SqT.of upd_same) (.cons (.str _) .nil), shBN, shBN, _, rfl, ?_⟩⟩
      rw [eqBN]
      have s12 : Same H1 (upd H2 p2 (.tup [.str "BadNumber"])) := (z1.trans s2).trans (Same.new hp2)
      generalize upd H2 p2 (.tup [.str "BadNumber"]) = H3 at s12
      refine iteF ⟨_, rfl, (by show 1 ≤ sizeLine; decide), fun l3 hl3 => ?_⟩
      have z3 : Same H3 (upd H3 l3 (.lst [x])) := Same.new hl3
      refine ⟨fC, l3, [x], _, _, _, 2, false, rfl, by decide, GC, kC, bC, SqL.of upd_same, .inl rfl, fun H4 Q' E' s4 hE => ?_, fun p4 H4 hp4 s4 e4 => ?_⟩
      · obtain ⟨t, kd, ni, _⟩ := (ox.same (s12.trans (z3.trans s4))).kd (K := K)
        exact ⟨x, t, rfl, kd, fun i e => by subst e; exact (ox.int).elim, fun _ => hE _ _ _ ⟨Same.refl _, rfl, rfl⟩⟩
      refine ⟨(by show 1 ≤ sizeLine; decide), fun p5 hp5 => ⟨dBN, dBN, .tup (SqT.of ((Same.new hp5) _ _ e4)) (.cons (.str _) .nil), .tup (SqT.of upd_same) (.cons (.str _) .nil), shBN, shBN, _, rfl, ?_⟩⟩
      rw [eqBN]
      exact iteF ⟨rfl, (s12.trans (z3.trans s4)).trans (Same.new hp5)⟩
    rintro σ H2 ⟨rfl, s2⟩
    have D2 := D1.same s2
    have b2 := b1.trans (Same.but2 s2)
    clear D1 b1 s2 ox
    refine ⟨fun σ H' => σ = [some (.ref d), some x, some (.str z), none, none, none] ∧ DrawAt H' d w c (n + 51) ∧ But2 d w H H', ?_, ?_⟩
    · refine ⟨_, rfl, _, rfl, d, w, c, _, 99, rfl, D2, by omega, by decide, by decide, fun j H3 j0 j1 D3 b3 => ⟨_, _, rfl, rfl, (by show 1 ≤ sizeLine; decide), fun l hl => ?_⟩⟩
      refine ⟨fC, l, _, _, _, _, 2, false, rfl, by decide, GC, kC, bC, SqL.of upd_same, .inl rfl, fun H4 Q' E' s4 hE => ?_, fun p4 H4 hp4 s4 e4 => ?_⟩
      · exact ⟨_, "int", rfl, .int _, fun i e h0 => by injection e with e; omega, fun _ => hE _ _ _ ⟨Same.refl _, rfl, rfl⟩⟩
      refine ⟨(by show 1 ≤ sizeLine; decide), fun p5 hp5 => ⟨dBN, dBN, .tup (SqT.of ((Same.new hp5) _ _ e4)) (.cons (.str _) .nil), .tup (SqT.of upd_same) (.cons (.str _) .nil), shBN, shBN, _, rfl, ?_⟩⟩
      rw [eqBN]
      have s35 := ((Same.new hl).trans s4).trans (Same.new (o := .tup [.str "BadNumber"]) hp5)
      exact iteF ⟨rfl, D3.same s35, (b2.trans b3).trans (Same.but2 s35)⟩
    rintro σ H3 ⟨rfl, D3, b3⟩
    clear D2 b2
    obtain ⟨la, lb, lc, ld⟩ := l1a
    refine ⟨fun σ H' => ∃ y, σ = [some (.ref d), some x, some (.str z), some y, none, none] ∧ Str9 d w H' y ∧ DrawAt H' d w c (n + 52) ∧ But2 d w H H', ?_, ?_⟩
    · refine ⟨_, rfl, (by show 2 ≤ sizeLine; decide), fun l1 h1 => ⟨(by show 1 ≤ sizeLine; decide), fun t1 ht1 => ⟨_, rfl, _, _, rfl, rfl, small5 (by omega), _, rfl, _, _, rfl, rfl, small5 (by omega), _, rfl, _, _, rfl, rfl, small5 (by omega), fun q hq => ⟨(by show 10 ≤ sizeLine; decide), fun p hp => ?_⟩⟩⟩⟩
      have E1 := D3.new (o := .lst [.str "0", .str "1"]) h1
      have E2 := E1.new (o := .tup [.str "1"]) ht1
      have E3 := E2.new (o := .dK []) hq
      have k1 := D3.knowD h1
      have k2 := E1.knowD ht1
      have k3 := E2.knowD hq
      have k4 := E3.knowD hp
      have z1 : Same H3 (upd H3 l1 (.lst [.str "0", .str "1"])) := Same.new h1
      have z2 : Same (upd H3 l1 (.lst [.str "0", .str "1"])) (upd (upd H3 l1 (.lst [.str "0", .str "1"])) t1 (.tup [.str "1"])) := Same.new ht1
      have z3 : Same (upd (upd H3 l1 (.lst [.str "0", .str "1"])) t1 (.tup [.str "1"])) (upd (upd (upd H3 l1 (.lst [.str "0", .str "1"])) t1 (.tup [.str "1"])) q (.dK [])) := Same.new hq
      have z4 := Same.new (o := .lst [.non, .int 1, .bl true, .ref l1, .ref t1, .str (z ++ "2"), .str ((" " : Str) ++ z), .str (z ++ "o"), .str "-1", .ref q]) hp
      refine ⟨d, w, c, p, _, _, rfl, E3.new hp, by omega, k4.1, k4.2.1, SqL.of upd_same, by simp, (by show 10 < 2 ^ 29; decide), fun y H5 hy D5 b5 => ?_⟩
      have b05 : But2 d w H H5 := (b3.trans (Same.but2 (z1.trans (z2.trans (z3.trans z4))))).trans b5
      have nos : ∀ {v : V}, Odd d w H5 v → (∀ u, v ≠ .str u) → Str9 d w H5 v := fun {v} o h => .inl ⟨o, fun u e => absurd e (h u)⟩
      have oy : Str9 d w H5 y := by
        simp only [List.mem_cons, List.not_mem_nil, or_false] at hy
        rcases hy with rfl | rfl | rfl | rfl | rfl | rfl | rfl | rfl | rfl | rfl
        · exact nos .non (fun u e => by cases e)
        · exact .inr rfl
        · exact nos (.bl _) (fun u e => by cases e)
        · exact nos ((Odd.lst ((z2.trans (z3.trans z4)) _ _ upd_same) k1.1 k1.2.1).but2 b5) (fun u e => by cases e)
        · exact nos ((Odd.tup ((z3.trans z4) _ _ upd_same) k2.1 k2.2.1).but2 b5) (fun u e => by cases e)
        · exact .inl ⟨.str _, fun u e => by
            injection e with e
            subst e
            exact ⟨by rw [len_app]; omega, nb_app2⟩⟩
        · exact .inl ⟨.str _, fun u e => by
            injection e with e
            subst e
            exact ⟨by rw [len_app]; omega, nb_bl⟩⟩
        · exact .inl ⟨.str _, fun u e => by
            injection e with e
            subst e
            exact ⟨by rw [len_app]; omega, nb_appo⟩⟩
        · exact .inl ⟨.str _, fun u e => by
            injection e with e
            subst e
            exact ⟨by omega, nb_m1⟩⟩
        · exact nos ((Odd.dct (z4 _ _ upd_same) k3.1 k3.2.1).but2 b5) (fun u e => by cases e)
      exact ⟨y, rfl, oy, D5.mono (by omega), b05⟩
    rintro σ H4 ⟨y, rfl, oy, D4, b4⟩
    have wN : Wk P w0 K mg base BB BN (.ref fRN) := ⟨fRN, _, fdRN, _, rfl, GRN, kRN, bRN, fun x y H1 Q' E' t u h1 h2 h => ⟨x, y, rfl, t, u, h1, h2, .inr h⟩⟩
    have wC : Wk P w0 K mg base BB BN (.ref fRC) := ⟨fRC, _, fdRC, _, rfl, GRC, kRC, bRC, fun x y H1 Q' E' t u h1 h2 h => ⟨x, y, rfl, t, u, h1, h2, .inr h⟩⟩
    have wk : ∀ (q : Nat) (v : V), ([V.ref fRN, V.ref fRC] : List V)[q]? = some v → Wk P w0 K mg base BB BN v := fun q v hv => by
      have hv := List.mem_of_getElem? hv
      simp only [List.mem_cons, List.not_mem_nil, or_false] at hv
      rcases hv with rfl | rfl
      · exact wN
      · exact wC
    clear D3 b3
    refine ⟨fun σ H' => ∃ y4 y5, σ = [some (.ref d), some x, some (.str z), some y, y4, y5] ∧ DrawAt H' d w c (n + 53) ∧ But2 d w H H', ?_, ?_⟩
    · refine ⟨_, rfl, d, w, c, _, 9, rfl, D4, by omega, by decide, by decide, fun j H5 j0 j1 D5 b5 => ⟨(by show 3 ≤ sizeLine; decide), fun l hl => ?_⟩⟩
      have oy5 := oy.but2 b5
      have el : (upd H5 l (.lst [V.int 0, V.non, V.int j])) l = some (.lst [V.int 0, V.non, V.int j]) := upd_same
      have sl : Same H5 (upd H5 l (.lst [V.int 0, V.non, V.int j])) := Same.new hl
      generalize upd H5 l (.lst [V.int 0, V.non, V.int j]) = H6 at el sl
      refine ⟨l, rfl, ⟨_, SqL.of el⟩, for_list (K := K) (a := l) (xs := [V.int 0, V.non, V.int j]) (fun q σ H' => Same H6 H' ∧ ∃ y4 y5, σ = [some (.ref d), some x, some (.str z), some y, y4, y5])
        ⟨Same.refl _, none, none, rfl⟩ (fun q σ H' _ ⟨e, _⟩ => SqL.of (e _ _ el)) ?_ ?_⟩
      · rintro q at9 σ H7 hx ⟨s7, y4, y5, rfl⟩
        obtain ⟨u, ku⟩ : ∃ u, ∀ H', Kd K H' at9 u := by
          have hx := List.mem_of_getElem? hx
          simp only [List.mem_cons, List.not_mem_nil, or_false] at hx
          rcases hx with rfl | rfl | rfl
          · exact ⟨_, fun _ => .int _⟩
          · exact ⟨_, fun _ => .non⟩
          · exact ⟨_, fun _ => .int _⟩
        refine ⟨(by show 2 ≤ sizeLine; decide), fun l2 hl2 => ?_⟩
        have el2 : (upd H7 l2 (.lst [V.ref fRN, V.ref fRC])) l2 = some (.lst [V.ref fRN, V.ref fRC]) := upd_same
        have sl2 : Same H7 (upd H7 l2 (.lst [V.ref fRN, V.ref fRC])) := Same.new hl2
        generalize upd H7 l2 (.lst [V.ref fRN, V.ref fRC]) = H8 at el2 sl2
        refine ⟨l2, rfl, ⟨_, SqL.of el2⟩, for_list (K := K) (a := l2) (xs := [V.ref fRN, V.ref fRC]) (fun q σ H' => Same H8 H' ∧ ∃ y5, σ = [some (.ref d), some x, some (.str z), some y, some at9, y5])
          ⟨Same.refl _, y5, rfl⟩ (fun q σ H' _ ⟨e, _⟩ => SqL.of (e _ _ el2)) ?_ ?_⟩
        · rintro q2 v σ H9 hv ⟨s9, y5', rfl⟩
          obtain ⟨fW, sp, fd9, ps9, rfl, GW, kW, bW, hW⟩ := wk q2 v hv
          refine ⟨_, rfl, _, rfl, _, rfl, (by show 2 ≤ sizeLine; decide), fun l3 hl3 => ?_⟩
          have sl3 : Same H9 (upd H9 l3 (.lst [y, at9])) := Same.new hl3
          have s59 : Same H5 (upd H9 l3 (.lst [y, at9])) := (sl.trans (s7.trans (sl2.trans s9))).trans sl3
          refine ⟨fW, l3, [y, at9], _, _, _, 5, true, rfl, by decide, GW, kW, bW, SqL.of upd_same, .inr rfl, fun Ha Q' E' sa hE => ?_, fun pa Ha hpa sa ea => ?_⟩
          · obtain ⟨t, kt, nb⟩ := ((oy5.but2 (Same.but2 (s59.trans sa)))).kd (K := K)
            exact hW y at9 Ha Q' E' t u kt (ku Ha) (.inl ⟨nb, fun dd Hd sd _ ed => hE _ _ _ ⟨sd, rfl, dd, rfl, ed⟩⟩)
          have hT : Dx K Ha (.ref pa) dBB := .tup (SqT.of ea) (.cons (.str _) (.cons .non .nil))
          refine ⟨_, dBB, rfl, hT, gBB.1, gBB.2.1, gBB.2.2, (by show 2 ≤ sizeLine; decide), fun pb hpb => ⟨_, dBB, rfl, .tup (SqT.of upd_same) (.cons (.str _) (.cons .non .nil)), gBB.1, gBB.2.1, gBB.2.2, rfl, _, rfl, iteNS rfl ⟨s9.trans (sl3.trans (sa.trans (Same.new hpb))), _, rfl⟩⟩⟩
        · rintro σ H9 ⟨s9, y5', rfl⟩
          exact ⟨s7.trans (sl2.trans s9), _, _, rfl⟩
      · rintro σ H7 ⟨s7, y4, y5, rfl⟩
        have s57 := sl.trans s7
        exact ⟨_, _, rfl, D5.same s57, (b4.trans b5).trans (Same.but2 s57)⟩
    rintro σ H5 ⟨y4, y5, rfl, D5, b5⟩
    have zz : z.length ≤ 100000 := by omega
    refine ⟨fun σ H' => True, ?_, ?_⟩
    · refine ⟨_, rfl, _, rfl, z, rfl, small5 zz, _, _, rfl, rfl, (by show 1 ≤ sizeLine; decide), fun t1 ht1 => ⟨(by show 1 ≤ sizeLine; decide), fun l1 hl1 => fun q1 hq1 => ⟨(by show 8 ≤ sizeLine; decide), fun l hl => ?_⟩⟩⟩
      have E1 := D5.new (o := .tup [.int 0]) ht1
      have E2 := E1.new (o := .lst [.int 0]) hl1
      have k1 := D5.knowD ht1
      have k2 := E1.knowD hl1
      have k3 := E2.knowD hq1
      have z1 : Same H5 (upd H5 t1 (.tup [.int 0])) := Same.new ht1
      have z2 : Same (upd H5 t1 (.tup [.int 0])) (upd (upd H5 t1 (.tup [.int 0])) l1 (.lst [.int 0])) := Same.new hl1
      have z3 : Same (upd (upd H5 t1 (.tup [.int 0])) l1 (.lst [.int 0])) (upd (upd (upd H5 t1 (.tup [.int 0])) l1 (.lst [.int 0])) q1 (.dK [])) := Same.new hq1
      have z4 := Same.new (o := .lst [.non, .bl true, .int (-1), .int ((z.length : Nat) + 1 : Int), .str "0", .ref t1, .ref l1, .ref q1]) hl
      have e1 := (z2.trans (z3.trans z4)) _ _ upd_same
      have e2 := (z3.trans z4) _ _ upd_same
      have e3 := z4 _ _ upd_same
      have el : (upd (upd (upd (upd H5 t1 (.tup [.int 0])) l1 (.lst [.int 0])) q1 (.dK [])) l (.lst [.non, .bl true, .int (-1), .int ((z.length : Nat) + 1 : Int), .str "0", .ref t1, .ref l1, .ref q1])) l = some (.lst [.non, .bl true, .int (-1), .int ((z.length : Nat) + 1 : Int), .str "0", .ref t1, .ref l1, .ref q1]) := upd_same
      generalize upd (upd (upd (upd H5 t1 (.tup [.int 0])) l1 (.lst [.int 0])) q1 (.dK [])) l (.lst [.non, .bl true, .int (-1), .int ((z.length : Nat) + 1 : Int), .str "0", .ref t1, .ref l1, .ref q1]) = H6 at e1 e2 e3 el
      refine ⟨l, rfl, ⟨_, SqL.of el⟩, for_list (K := K) (a := l) (xs := [.non, .bl true, .int (-1), .int ((z.length : Nat) + 1 : Int), .str "0", .ref t1, .ref l1, .ref q1]) (fun q σ H' => Same H6 H' ∧ ∃ y4 y5, σ = [some (.ref d), some x, some (.str z), some y, y4, y5])
        ⟨Same.refl _, y4, y5, rfl⟩ (fun q σ H' _ ⟨e, _⟩ => SqL.of (e _ _ el)) ?_ ?_⟩
      · rintro q at9 σ H7 hx ⟨s7, y4, y5, rfl⟩
        obtain ⟨u, ku, hu⟩ : ∃ u, (∀ H', Same H6 H' → Kd K H' at9 u) ∧ (u ≠ "int" ∨ ∃ i : Int, at9 = .int i ∧ ¬ (0 ≤ i ∧ i ≤ z.length)) := by
          have hx := List.mem_of_getElem? hx
          simp only [List.mem_cons, List.not_mem_nil, or_false] at hx
          rcases hx with rfl | rfl | rfl | rfl | rfl | rfl | rfl | rfl
          · exact ⟨_, fun _ _ => .non, .inl (by decide)⟩
          · exact ⟨_, fun _ _ => .bl _, .inl (by decide)⟩
          · exact ⟨_, fun _ _ => .int _, .inr ⟨_, rfl, by omega⟩⟩
          · exact ⟨_, fun _ _ => .int _, .inr ⟨_, rfl, by omega⟩⟩
          · exact ⟨_, fun _ _ => .str _, .inl (by decide)⟩
          · exact ⟨_, fun _ s => .tup (.base (.tup (s _ _ e1))), .inl (by decide)⟩
          · exact ⟨_, fun _ s => .lst (.base (.lst (s _ _ e2))), .inl (by decide)⟩
          · exact ⟨_, fun _ s => .dct (.base (.dK (s _ _ e3))), .inl (by decide)⟩
        refine ⟨(by show 2 ≤ sizeLine; decide), fun l2 hl2 => ?_⟩
        have el2 : (upd H7 l2 (.lst [V.ref fRN, V.ref fRC])) l2 = some (.lst [V.ref fRN, V.ref fRC]) := upd_same
        have sl2 : Same H7 (upd H7 l2 (.lst [V.ref fRN, V.ref fRC])) := Same.new hl2
        generalize upd H7 l2 (.lst [V.ref fRN, V.ref fRC]) = H8 at el2 sl2
        refine ⟨l2, rfl, ⟨_, SqL.of el2⟩, for_list (K := K) (a := l2) (xs := [V.ref fRN, V.ref fRC]) (fun q σ H' => Same H8 H' ∧ ∃ y5, σ = [some (.ref d), some x, some (.str z), some y, some at9, y5])
          ⟨Same.refl _, y5, rfl⟩ (fun q σ H' _ ⟨e, _⟩ => SqL.of (e _ _ el2)) ?_ ?_⟩
        · rintro q2 v σ H9 hv ⟨s9, y5', rfl⟩
          obtain ⟨fW, sp, fd9, ps9, rfl, GW, kW, bW, hW⟩ := wk q2 v hv
          refine ⟨_, rfl, _, rfl, _, rfl, (by show 2 ≤ sizeLine; decide), fun l3 hl3 => ?_⟩
          have sl3 : Same H9 (upd H9 l3 (.lst [.str z, at9])) := Same.new hl3
          have s69 : Same H6 (upd H9 l3 (.lst [.str z, at9])) := (s7.trans (sl2.trans s9)).trans sl3
          refine ⟨fW, l3, [.str z, at9], _, _, _, 5, false, rfl, by decide, GW, kW, bW, SqL.of upd_same, .inr rfl, fun Ha Q' E' sa hE => ?_, fun pa Ha hpa sa ea => ?_⟩
          · exact hW (.str z) at9 Ha Q' E' "str" u (.str z) (ku Ha (s69.trans sa)) (.inr ⟨z, rfl, zz, zB, hu, hE _ _ _ ⟨Same.refl _, rfl, rfl⟩⟩)
          refine ⟨(by show 1 ≤ sizeLine; decide), fun pb hpb => ⟨dBN, dBN, .tup (SqT.of ((Same.new hpb) _ _ ea)) (.cons (.str _) .nil), .tup (SqT.of upd_same) (.cons (.str _) .nil), shBN, shBN, _, rfl, ?_⟩⟩
          rw [eqBN]
          exact iteF ⟨s9.trans (sl3.trans (sa.trans (Same.new hpb))), _, rfl⟩
        · rintro σ H9 ⟨s9, y5', rfl⟩
          exact ⟨s7.trans (sl2.trans s9), _, _, rfl⟩
      · rintro σ H7 ⟨s7, y4, y5, rfl⟩
        trivial
    rintro σ H6 -
    exact k H6
end
end SA
set_option Elab.async false
set_option linter.all false
set_option maxRecDepth 100000
set_option maxHeartbeats 8000000
namespace SA
open PySem PySem.Spec PyProof.Rows L2 K82
section
variable {P : Program} {w0 : World} {K : PySem.W.Frag} {mg : Str → Option Value} {base : Heap} {SE BB BN : Addr}
theorem ok_law {f : Addr} {fd : FuncData} (F : Fun K "law" "law" s_law f fd) (B : Bn2 mg) (SK : SysK K) (c__law_begun : Dq P w0 K mg base CX0 1 "_law_begun" ["script"] (spBegun K)) (c__law_edge : Dq P w0 K mg base CX0 4 "_law_edge" ["draw"] spEdge)
    (c__law_written_right : Gq P w0 K mg base 6 "_law_written_right" ["draw", "number"] spWR) (c__law_refused : Gq P w0 K mg base 7 "_law_refused" ["draw"] spRef)
    (c__law_pick : Dq P w0 K mg base CX0 3 "_law_pick" ["draw", "some"] (spPick K)) (c__law_bits : Dq P w0 K mg base CX0 4 "_law_bits" ["draw", "most"] spBits) (c__law_take : Dq P w0 K mg base CX0 2 "_law_take" ["draw", "many"] spTake)
    (c_read_number : Dq P w0 K mg base (L2.CX P w0) 5 "read_number" ["bits", "at"] (spRdN K BB BN)) (c_read_count : Dq P w0 K mg base (L2.CX P w0) 5 "read_count" ["bits", "at"] (spRdC K BB BN)) (c__law_read : Dq P w0 K mg base CX0 2 "_law_read" ["bits", "at"] spCntAt)
    (c__law_signed_at : Dq P w0 K mg base CX0 3 "_law_signed_at" ["bits", "at"] spNumAt) : FnG P w0 K mg base 8 f fd ["script"] (spLawT K) := by
  refine Fun.okG F sc_law (fun vs H Q E h => ?_) (fun cdv A outer s H vs Q E hg hr h => ?_)
  · obtain ⟨a, ns, rfl, _⟩ := h
    rfl
  · obtain ⟨a, ns, rfl, hS, hn, k⟩ := h
    refine ⟨_, (Evl.pss_cut (ps_set (i := 1) sc_law.nd rfl (Or.inl rfl) (pe_q c__law_begun hr (by decide) (by rfl) (pa_cons (pv 0) pa_nil)))
      (Evl.pss_cut (ps_for PassesOwn.never rfl (pi_range1 (by rfl) B.range (pa_cons pe_int pa_nil)) (pg_name (i := 2) sc_law.nd rfl (Or.inl rfl)) (pss_one (ps_if (pt_not (pt_val (pe_g c__law_written_right hg hr (by decide) (by rfl) (pa_cons (pv 1) (pa_cons (pe_ifExp (pt_cmpR op_gt (pv 2) pe_int (nomark _)) (pe_q c__law_edge hr (by decide) (by rfl) (pa_cons (pv 1) pa_nil)) (pe_q c__law_pick hr (by decide) (by rfl) (pa_cons (pv 1) (pa_cons (pe_lst (pa_cons pe_int (pa_cons pe_int (pa_cons (pe_un un_neg pe_int) pa_nil)))) pa_nil)))) pa_nil))))) (pss_one (ps_ret pe_bl)) pss_nil)))
      (Evl.pss_cut (ps_for PassesOwn.never rfl (pi_range1 (by rfl) B.range (pa_cons pe_int pa_nil)) (pg_name (i := 2) sc_law.nd rfl (Or.inl rfl)) (pss_cons (ps_set (i := 3) sc_law.nd rfl (Or.inl rfl) (pe_q c__law_bits hr (by decide) (by rfl) (pa_cons (pv 1) (pa_cons pe_int pa_nil))))
      (pss_one (ps_for PassesOwn.never rfl (pi_list (pe_lst (pa_cons pe_int (pa_cons (pe_callB call_len_str (by rfl) B.len PySem.boot_len (pa_cons (pv 3) pa_nil)) (pa_cons (pe_q c__law_take hr (by decide) (by rfl) (pa_cons (pv 1) (pa_cons (pe_op op_add (pe_callB call_len_str (by rfl) B.len PySem.boot_len (pa_cons (pv 3) pa_nil)) pe_int) pa_nil))) pa_nil))))) (pg_name (i := 4) sc_law.nd rfl (Or.inl rfl)) (pss_cons (ps_if (pt_cmpR op_ne (pe_callB (call_reprA SK hg hr.units) (by rfl) B.repr (by decide +kernel) (pa_cons (pe_qX c_read_count hr (by decide) (by rfl) passN (pa_cons (pv 3) (pa_cons (pv 4) pa_nil))) pa_nil)) (pe_callB (call_reprA SK hg hr.units) (by rfl) B.repr (by decide +kernel) (pa_cons (pe_q c__law_read hr (by decide) (by rfl) (pa_cons (pv 3) (pa_cons (pv 4) pa_nil))) pa_nil)) (nomark _)) (pss_one (ps_ret pe_bl)) pss_nil)
      (pss_one (ps_if (pt_cmpR op_ne (pe_callB (call_reprA SK hg hr.units) (by rfl) B.repr (by decide +kernel) (pa_cons (pe_qX c_read_number hr (by decide) (by rfl) passN (pa_cons (pv 3) (pa_cons (pv 4) pa_nil))) pa_nil)) (pe_callB (call_reprA SK hg hr.units) (by rfl) B.repr (by decide +kernel) (pa_cons (pe_q c__law_signed_at hr (by decide) (by rfl) (pa_cons (pv 3) (pa_cons (pv 4) pa_nil))) pa_nil)) (nomark _)) (pss_one (ps_ret pe_bl)) pss_nil)))))))
      (pss_one (ps_ret (pe_g c__law_refused hg hr (by decide) (by rfl) (pa_cons (pv 1) pa_nil))))))), ?_⟩
    have big : (2 : Nat) ^ 12 < 2 ^ 37 ∧ (2 : Nat) ^ 37 < 2 ^ 38 ∧ (2 : Nat) ^ 38 < 2 ^ 39 := by decide
    refine ⟨fun σ H' => ∃ d w c, σ = [some (.ref a), some (.ref d), none, none, none] ∧ DrawAt H' d w c 0, ?_, ?_⟩
    · exact ⟨_, rfl, a, ns, rfl, hS, hn, fun d w c H' _ _ _ hD s => ⟨d, w, c, rfl, hD⟩⟩
    rintro σ H1 ⟨d, w, c, rfl, D1⟩
    refine ⟨fun σ H' => ∃ y2, σ = [some (.ref a), some (.ref d), y2, none, none] ∧ DrawAt H' d w c 1500, ?_, ?_⟩
    · refine ⟨5, rfl, by decide, by decide, for_range (lo := 0) (n := 5) (fun i σ H' => ∃ y2, σ = [some (.ref a), some (.ref d), y2, none, none] ∧ DrawAt H' d w c (300 * i)) ⟨none, rfl, D1⟩ ?_ ?_⟩
      · rintro i σ H2 hi ⟨y2, rfl, D2⟩
        refine ⟨_, rfl, _, rfl, _, _, rfl, rfl, _, rfl, ite2 (fun _ => ?_) (fun _ => ?_)⟩
        · refine ⟨_, rfl, d, w, c, _, rfl, D2, by omega, fun v H3 hv D3 b3 => ⟨d, w, c, _, v, rfl, D3, by omega, hv, fun H4 D4 b4 => ⟨_, rfl, iteF ⟨_, rfl, D4.mono (by omega)⟩⟩⟩⟩
        · refine ⟨_, rfl, _, rfl, (by show 3 ≤ sizeLine; decide), fun l hl => ?_⟩
          have kl := D2.knowD hl
          refine ⟨d, w, c, l, _, _, rfl, D2.new hl, by omega, kl.1, kl.2.1, SqL.of upd_same, by simp, by decide, fun x H3 hx D3 b3 => ?_⟩
          obtain ⟨v, rfl, hv⟩ : ∃ v : Int, x = .int v ∧ v.natAbs ≤ 2 ^ 41 := by
            simp only [List.mem_cons, List.not_mem_nil, or_false] at hx
            rcases hx with rfl | rfl | rfl
            · exact ⟨0, rfl, by decide⟩
            · exact ⟨1, rfl, by decide⟩
            · exact ⟨-1, rfl, by decide⟩
          exact ⟨d, w, c, _, v, rfl, D3, by omega, hv, fun H4 D4 b4 => ⟨_, rfl, iteF ⟨_, rfl, D4.mono (by omega)⟩⟩⟩
      · rintro σ H2 ⟨y2, rfl, D2⟩
        exact ⟨y2, rfl, D2⟩
    rintro σ H2 ⟨y2, rfl, D2⟩
    refine ⟨fun σ H' => ∃ y2 y3 y4, σ = [some (.ref a), some (.ref d), y2, y3, y4] ∧ DrawAt H' d w c 2500, ?_, ?_⟩
    · refine ⟨4, rfl, by decide, by decide, for_range (lo := 0) (n := 4) (fun i σ H' => ∃ y2 y3 y4, σ = [some (.ref a), some (.ref d), y2, y3, y4] ∧ DrawAt H' d w c (1500 + 100 * i)) ⟨y2, none, none, rfl, D2⟩ ?_ ?_⟩
      · rintro i σ H3 hi ⟨y2, y3, y4, rfl, D3⟩
        refine ⟨_, rfl, d, w, c, _, 40, rfl, D3, by omega, by decide, fun z H4 zB zL D4 b4 => ?_⟩
        have j62 : (100 : Int) < 2 ^ 62 := by decide
        refine ⟨_, rfl, z, rfl, small5 (by omega), _, rfl, _, rfl, z, rfl, small5 (by omega), _, _, rfl, rfl, d, w, c, _, _, rfl, D4, by omega, by omega, by omega, fun j H5 j0 j1 D5 b5 => ⟨(by show 3 ≤ sizeLine; decide), fun l hl => ?_⟩⟩
        have it : ∀ (q : Nat) (x : V), ([V.int 0, V.int (z.length : Nat), V.int j] : List V)[q]? = some x → ∃ sp : Nat, x = .int sp ∧ sp ≤ z.length := fun q x hx => by
          have hx := List.mem_of_getElem? hx
          simp only [List.mem_cons, List.not_mem_nil, or_false] at hx
          rcases hx with rfl | rfl | rfl
          · exact ⟨0, rfl, by omega⟩
          · exact ⟨_, rfl, Nat.le_refl _⟩
          · obtain ⟨m, rfl⟩ := Int.eq_ofNat_of_zero_le j0
            exact ⟨m, rfl, by omega⟩
        have D6 := D5.new (o := .lst [V.int 0, V.int (z.length : Nat), V.int j]) hl
        have el : (upd H5 l (.lst [V.int 0, V.int (z.length : Nat), V.int j])) l = some (.lst [V.int 0, V.int (z.length : Nat), V.int j]) := upd_same
        generalize upd H5 l (.lst [V.int 0, V.int (z.length : Nat), V.int j]) = H6 at D6 el
        refine ⟨l, rfl, ⟨_, SqL.of el⟩, for_list (K := K) (a := l) (xs := [V.int 0, V.int (z.length : Nat), V.int j]) (fun q σ H' => Same H6 H' ∧ ∃ y2 y4, σ = [some (.ref a), some (.ref d), y2, some (.str z), y4])
          ⟨Same.refl _, _, _, rfl⟩ (fun q σ H' _ ⟨e, _⟩ => SqL.of (e _ _ el)) ?_ ?_⟩
        · rintro q x σ H7 hx ⟨s7, y2, y4, rfl⟩
          obtain ⟨sp, rfl, hsp⟩ := it q x hx
          have wl2 : (tl z).length ≤ 200 := by show z.length ≤ 200; omega
          have bdC : ∀ a b, rdC (tl z) sp = some (a, b) → a.natAbs < 2 ^ 118 ∧ b.natAbs < 2 ^ 118 := fun a b e => by
            have := rdC_bd zB wl2 hsp e
            exact ⟨this.1, this.2.1⟩
          have bdN : ∀ a b, rdN (tl z) sp = some (a, b) → a.natAbs < 2 ^ 118 ∧ b.natAbs < 2 ^ 118 := fun a b e => rdN_bd zB wl2 hsp e
          refine ⟨_, rfl, _, rfl, .str z, .int (sp : Nat), rfl, "str", "int", .str _, .int _, .inl ⟨z, sp, rfl, rfl, hsp, by omega, zB, by omega, RdQ.sh (K := K) bdC fun v H8 s8 sh => ⟨_, _, rfl, (sh).dx, (sh).gd.1, (sh).gd.2.1, (sh).gd.2.2, ?_⟩⟩⟩
          refine ⟨_, rfl, _, rfl, z, sp, rfl, hsp, by omega, zB, RdQ.sh (K := K) bdC fun v2 H9 s9 sh2 => ⟨_, _, rfl, (sh2).dx, (sh2).gd.1, (sh2).gd.2.1, (sh2).gd.2.2, ?_⟩⟩
          refine ⟨rfl, _, rfl, iteNS rfl ?_⟩
          refine ⟨_, rfl, _, rfl, .str z, .int (sp : Nat), rfl, "str", "int", .str _, .int _, .inl ⟨z, sp, rfl, rfl, hsp, by omega, zB, by omega, RdQ.sh (K := K) bdN fun v Ha sa sh => ⟨_, _, rfl, (sh).dx, (sh).gd.1, (sh).gd.2.1, (sh).gd.2.2, ?_⟩⟩⟩
          refine ⟨_, rfl, _, rfl, z, sp, rfl, hsp, by omega, zB, RdQ.sh (K := K) bdN fun v2 Hb sb sh2 => ⟨_, _, rfl, (sh2).dx, (sh2).gd.1, (sh2).gd.2.1, (sh2).gd.2.2, ?_⟩⟩
          exact ⟨rfl, _, rfl, iteNS rfl ⟨s7.trans (s8.trans (s9.trans (sa.trans sb))), _, _, rfl⟩⟩
        · rintro σ H7 ⟨s7, y2, y4, rfl⟩
          exact ⟨_, _, _, rfl, (D6.same s7).mono (by omega)⟩
      · rintro σ H3 ⟨y2, y3, y4, rfl, D3⟩
        exact ⟨y2, y3, y4, rfl, D3.mono (by omega)⟩
    rintro σ H3 ⟨y2, y3, y4, rfl, D3⟩
    exact ⟨_, rfl, d, w, c, _, rfl, D3, by omega, fun H' => k H'⟩
end
end SA
set_option Elab.async false
set_option linter.all false
set_option maxRecDepth 100000
set_option maxHeartbeats 0
namespace SA
open PySem PySem.Spec PyProof.Rows L2 K82
theorem kb_ba {K : PySem.W.Frag} {x qual : Str} {st : Stmt} {f : Addr} {fd : FuncData} (F : Fun K x qual st f fd)
    (h : ∀ (kV doc pm : Value) (an : Option Addr) (cdv ct u v : Value), bindArgs (PySem.W.fnOf x qual (defArgs st) (defBody st) (defScope st) .none kV doc pm an cdv ct) ⟨[], [("at", u), ("bits", v)]⟩ = pure [(("bits" : Str), v), (("at" : Str), u)]) : KBinds K fd ["bits", "at"] ["at", "bits"] kwBA kwBA := by
  obtain ⟨oc, od, kV, doc, pm, an, cdv, ct, osl, rfl, _, _⟩ := F.ex
  refine ⟨fun s us ws _ hl => ?_, fun r rz => ?_⟩
  · match us, ws, hl with
    | [], [u, v], _ => exact .of_eq (h kV doc pm an cdv ct u v)
    | [], [], hl => cases hl
    | [], [_], hl => cases hl
    | [], _ :: _ :: _ :: _, hl => cases hl
    | _ :: _, _, hl => cases hl
  · cases r with
    | cons _ _ => exact .nil
    | nil => cases rz with
      | nil => exact .nil
      | cons e r2 => cases r2 with
        | nil => exact .nil
        | cons e2 r3 => cases r3 with
          | nil => exact .cons e2 (.cons e .nil)
          | cons _ _ => exact .nil
def d_is_number : He.DefD := ⟨("is_number", none), "is_number", "is_number", defArgs s_is_number, defBody s_is_number, defScope s_is_number, [], []⟩
def d_is_number_between : He.DefD := ⟨("is_number_between", none), "is_number_between", "is_number_between", defArgs s_is_number_between, defBody s_is_number_between, defScope s_is_number_between, [], []⟩
def d_BadBits___init__ : He.DefD := ⟨("BadBits", some "__init__"), "__init__", "BadBits.__init__", defArgs s_BadBits___init__, defBody s_BadBits___init__, defScope s_BadBits___init__, [], []⟩
def d_is_bit_string : He.DefD := ⟨("is_bit_string", none), "is_bit_string", "is_bit_string", defArgs s_is_bit_string, defBody s_is_bit_string, defScope s_is_bit_string, [], []⟩
def d_bits_of_count : He.DefD := ⟨("bits_of_count", none), "bits_of_count", "bits_of_count", defArgs s_bits_of_count, defBody s_bits_of_count, defScope s_bits_of_count, [], []⟩
def d_bits_of_number : He.DefD := ⟨("bits_of_number", none), "bits_of_number", "bits_of_number", defArgs s_bits_of_number, defBody s_bits_of_number, defScope s_bits_of_number, [], []⟩
def d_count_at : He.DefD := ⟨("count_at", none), "count_at", "count_at", defArgs s_count_at, defBody s_count_at, defScope s_count_at, [], []⟩
def d_number_at : He.DefD := ⟨("number_at", none), "number_at", "number_at", defArgs s_number_at, defBody s_number_at, defScope s_number_at, [], []⟩
def d_count_bits : He.DefD := ⟨("count_bits", none), "count_bits", "count_bits", defArgs s_count_bits, defBody s_count_bits, defScope s_count_bits, [], []⟩
def d_number_bits : He.DefD := ⟨("number_bits", none), "number_bits", "number_bits", defArgs s_number_bits, defBody s_number_bits, defScope s_number_bits, [], []⟩
def d_read_count : He.DefD := ⟨("read_count", none), "read_count", "read_count", defArgs s_read_count, defBody s_read_count, defScope s_read_count, [], []⟩
def d_read_number : He.DefD := ⟨("read_number", none), "read_number", "read_number", defArgs s_read_number, defBody s_read_number, defScope s_read_number, [], []⟩
def d__check_place : He.DefD := ⟨("_check_place", none), "_check_place", "_check_place", defArgs s__check_place, defBody s__check_place, defScope s__check_place, [], []⟩
def d__check_bits : He.DefD := ⟨("_check_bits", none), "_check_bits", "_check_bits", defArgs s__check_bits, defBody s__check_bits, defScope s__check_bits, [], []⟩
def d__law_begun : He.DefD := ⟨("_law_begun", none), "_law_begun", "_law_begun", defArgs s__law_begun, defBody s__law_begun, defScope s__law_begun, [], []⟩
def d__law_mixed : He.DefD := ⟨("_law_mixed", none), "_law_mixed", "_law_mixed", defArgs s__law_mixed, defBody s__law_mixed, defScope s__law_mixed, [], []⟩
def d__law_take : He.DefD := ⟨("_law_take", none), "_law_take", "_law_take", defArgs s__law_take, defBody s__law_take, defScope s__law_take, [], []⟩
def d__law_pick : He.DefD := ⟨("_law_pick", none), "_law_pick", "_law_pick", defArgs s__law_pick, defBody s__law_pick, defScope s__law_pick, [], []⟩
def d__law_figure : He.DefD := ⟨("_law_figure", none), "_law_figure", "_law_figure", defArgs s__law_figure, defBody s__law_figure, defScope s__law_figure, [], []⟩
def d__law_digits : He.DefD := ⟨("_law_digits", none), "_law_digits", "_law_digits", defArgs s__law_digits, defBody s__law_digits, defScope s__law_digits, [], []⟩
def d__law_count : He.DefD := ⟨("_law_count", none), "_law_count", "_law_count", defArgs s__law_count, defBody s__law_count, defScope s__law_count, [], []⟩
def d__law_signed : He.DefD := ⟨("_law_signed", none), "_law_signed", "_law_signed", defArgs s__law_signed, defBody s__law_signed, defScope s__law_signed, [], []⟩
def d__law_bits : He.DefD := ⟨("_law_bits", none), "_law_bits", "_law_bits", defArgs s__law_bits, defBody s__law_bits, defScope s__law_bits, [], []⟩
def d__law_read : He.DefD := ⟨("_law_read", none), "_law_read", "_law_read", defArgs s__law_read, defBody s__law_read, defScope s__law_read, [], []⟩
def d__law_value : He.DefD := ⟨("_law_value", none), "_law_value", "_law_value", defArgs s__law_value, defBody s__law_value, defScope s__law_value, [], []⟩
def d__law_outcome : He.DefD := ⟨("_law_outcome", none), "_law_outcome", "_law_outcome", defArgs s__law_outcome, defBody s__law_outcome, defScope s__law_outcome, [], []⟩
def d__law_edge : He.DefD := ⟨("_law_edge", none), "_law_edge", "_law_edge", defArgs s__law_edge, defBody s__law_edge, defScope s__law_edge, [], []⟩
def d__law_signed_at : He.DefD := ⟨("_law_signed_at", none), "_law_signed_at", "_law_signed_at", defArgs s__law_signed_at, defBody s__law_signed_at, defScope s__law_signed_at, [], []⟩
def d__law_written_right : He.DefD := ⟨("_law_written_right", none), "_law_written_right", "_law_written_right", defArgs s__law_written_right, defBody s__law_written_right, defScope s__law_written_right, [], []⟩
def d__law_refused : He.DefD := ⟨("_law_refused", none), "_law_refused", "_law_refused", defArgs s__law_refused, defBody s__law_refused, defScope s__law_refused, [], []⟩
def d_law : He.DefD := ⟨("law", none), "law", "law", defArgs s_law, defBody s_law, defScope s_law, [], []⟩
def fn82 : List He.DefD := [d_is_number, d_is_number_between, d_BadBits___init__, d_is_bit_string, d_bits_of_count, d_bits_of_number, d_count_at, d_number_at, d_count_bits, d_number_bits, d_read_count, d_read_number, d__check_place, d__check_bits, d__law_begun, d__law_mixed, d__law_take, d__law_pick, d__law_figure, d__law_digits, d__law_count, d__law_signed, d__law_bits, d__law_read, d__law_value, d__law_outcome, d__law_edge, d__law_signed_at, d__law_written_right, d__law_refused, d_law]
def fa82 : List He.Fa := [.glo "is_number", .glo "is_number_between", .glo "is_bit_string", .glo "bits_of_count", .glo "bits_of_number", .glo "count_at", .glo "number_at", .glo "count_bits", .glo "number_bits", .glo "read_count", .glo "read_number", .glo "_check_place", .glo "_check_bits", .glo "_law_begun", .glo "_law_mixed", .glo "_law_take", .glo "_law_pick", .glo "_law_figure", .glo "_law_digits", .glo "_law_count", .glo "_law_signed", .glo "_law_bits", .glo "_law_read", .glo "_law_value", .glo "_law_outcome", .glo "_law_edge", .glo "_law_signed_at", .glo "_law_written_right", .glo "_law_refused", .glo "law", .glo "StopError", .glo "BadBits", .glo "BadNumber", .free "isinstance", .free "int", .free "bool", .free "str", .free "len", .free "abs", .free "range", .free "repr", .free "ValueError", .exc "BadNumber", .exm "BadBits" "StopError" true, .exm "BadNumber" "StopError" true]
def ex82 (K : PySem.W.Frag) : Bool := sysB K && (excB K (He.ga K "BadNumber") && (excB K (He.ga K "BadBits") && (ownB K (He.ga K "BadBits") ["at"] && (decide (PySem.W.kitOne K (.ref (He.ga K "BadBits")) (.ref (He.ga K "BadBits")) = some true) && (decide (PySem.W.kitOne K (.ref (He.ga K "BadBits")) (.type "ValueError") = some true) && (decide (PySem.W.kitOne K (.ref (He.ga K "BadBits")) (.ref (He.ga K "BadNumber")) = some false) && (decide (PySem.W.kitOne K (.ref (He.ga K "BadNumber")) (.ref (He.ga K "BadBits")) = some false) && (decide (PySem.W.kitOne K (.ref (He.ga K "BadNumber")) (.ref (He.ga K "BadNumber")) = some true)))))))))
abbrev Al : Type := He.AlD × Bool
def frag82 (g : Addr → Option Obj) : PySem.W.Frag := He.frT g (sysModules :: He.asD g 4)
def obs82 (g : Addr → Option Obj) : Al := (He.obsD fa82 fn82 (frag82 g), ex82 (frag82 g))
def val82 : Al := (He.valD fn82, true)
/-- what the end leans on -/
structure Says82 (K : PySem.W.Frag) : Prop where
  d : He.SaysD fa82 fn82 K
  more : ex82 K = true
theorem says_of {h : Heap} (e : obs82 h.get? = val82) : Says82 (frag82 h.get?) :=
  ⟨congrArg (fun z : Al => z.1) e, congrArg (fun z : Al => z.2) e⟩
def hk82 : PySem.W.Hook where
  α := Al
  obs := fun s => obs82 s.heap.get?
  val := fun _ => val82
  says := fun _ h => ∃ K : PySem.W.Frag, K.In h ∧ Says82 K
  of := fun _ _ e => ⟨_, He.frT_in, says_of e⟩
  keeps := fun _ _ _ ⟨K, hK, c⟩ k => ⟨K, PySem.W.Frag.In.keeps hK k, c⟩
abbrev R : PySem.W.OpenRow := PySem.W.OpenLaw.row PySem.Challenge.rw_stopanywhere_k82_numbers_in_bits
def ob82 (s : PySem.W.SharedT) : Al := obs82 (HandSHeadRun.getT s)
theorem ob_eq (s : PySem.W.SharedT) : ob82 s = hk82.obs s.abs := by
  have e : HandSHeadRun.getT s = s.abs.heap.get? := funext (HandSHeadRun.getT_eq s)
  unfold ob82
  rw [e] <;> rfl
section
variable {P : Program} {w0 : World} {K : PySem.W.Frag} {h : Heap} {mg : Str → Option Value} {fL : Addr}
theorem law_of (X : K.In h) (GG : h.Ns mainGlobals mg) (hfa : mg ("law" : Str) = some (.ref fL)) (c : Says82 K) (base : Heap) : LawRun P w0 K mg base fL 63 := by
  have c2 := c.d
  obtain ⟨fd_is_number, F_is_number⟩ := FunD_fun (st := s_is_number) (c2.def_ 0 (d := d_is_number) rfl)
  have g_is_number := He.glo_ok X GG (c2.fact 0 (f := .glo "is_number") rfl)
  have b_is_number := F_is_number.binds (ps := ["thing"]) fun _ _ _ _ _ _ us hl => match us, hl with | [_], _ => rfl
  obtain ⟨fd_is_number_between, F_is_number_between⟩ := FunD_fun (st := s_is_number_between) (c2.def_ 1 (d := d_is_number_between) rfl)
  have g_is_number_between := He.glo_ok X GG (c2.fact 1 (f := .glo "is_number_between") rfl)
  have b_is_number_between := F_is_number_between.binds (ps := ["thing", "low", "high"]) fun _ _ _ _ _ _ us hl => match us, hl with | [_, _, _], _ => rfl
  obtain ⟨fd_BadBits___init__, F_BadBits___init__⟩ := FunD_fun (st := s_BadBits___init__) (c2.def_ 2 (d := d_BadBits___init__) rfl)
  have b_BadBits___init__ := F_BadBits___init__.binds (ps := ["self", "at"]) fun _ _ _ _ _ _ us hl => match us, hl with | [_, _], _ => rfl
  obtain ⟨fd_is_bit_string, F_is_bit_string⟩ := FunD_fun (st := s_is_bit_string) (c2.def_ 3 (d := d_is_bit_string) rfl)
  have g_is_bit_string := He.glo_ok X GG (c2.fact 2 (f := .glo "is_bit_string") rfl)
  have b_is_bit_string := F_is_bit_string.binds (ps := ["thing"]) fun _ _ _ _ _ _ us hl => match us, hl with | [_], _ => rfl
  obtain ⟨fd_bits_of_count, F_bits_of_count⟩ := FunD_fun (st := s_bits_of_count) (c2.def_ 4 (d := d_bits_of_count) rfl)
  have g_bits_of_count := He.glo_ok X GG (c2.fact 3 (f := .glo "bits_of_count") rfl)
  have b_bits_of_count := F_bits_of_count.binds (ps := ["number"]) fun _ _ _ _ _ _ us hl => match us, hl with | [_], _ => rfl
  obtain ⟨fd_bits_of_number, F_bits_of_number⟩ := FunD_fun (st := s_bits_of_number) (c2.def_ 5 (d := d_bits_of_number) rfl)
  have g_bits_of_number := He.glo_ok X GG (c2.fact 4 (f := .glo "bits_of_number") rfl)
  have b_bits_of_number := F_bits_of_number.binds (ps := ["number"]) fun _ _ _ _ _ _ us hl => match us, hl with | [_], _ => rfl
  obtain ⟨fd_count_at, F_count_at⟩ := FunD_fun (st := s_count_at) (c2.def_ 6 (d := d_count_at) rfl)
  have g_count_at := He.glo_ok X GG (c2.fact 5 (f := .glo "count_at") rfl)
  have b_count_at := F_count_at.binds (ps := ["bits", "at"]) fun _ _ _ _ _ _ us hl => match us, hl with | [_, _], _ => rfl
  obtain ⟨fd_number_at, F_number_at⟩ := FunD_fun (st := s_number_at) (c2.def_ 7 (d := d_number_at) rfl)
  have g_number_at := He.glo_ok X GG (c2.fact 6 (f := .glo "number_at") rfl)
  have b_number_at := F_number_at.binds (ps := ["bits", "at"]) fun _ _ _ _ _ _ us hl => match us, hl with | [_, _], _ => rfl
  obtain ⟨fd_count_bits, F_count_bits⟩ := FunD_fun (st := s_count_bits) (c2.def_ 8 (d := d_count_bits) rfl)
  have g_count_bits := He.glo_ok X GG (c2.fact 7 (f := .glo "count_bits") rfl)
  have b_count_bits := F_count_bits.binds (ps := ["number"]) fun _ _ _ _ _ _ us hl => match us, hl with | [_], _ => rfl
  obtain ⟨fd_number_bits, F_number_bits⟩ := FunD_fun (st := s_number_bits) (c2.def_ 9 (d := d_number_bits) rfl)
  have g_number_bits := He.glo_ok X GG (c2.fact 8 (f := .glo "number_bits") rfl)
  have b_number_bits := F_number_bits.binds (ps := ["number"]) fun _ _ _ _ _ _ us hl => match us, hl with | [_], _ => rfl
  obtain ⟨fd_read_count, F_read_count⟩ := FunD_fun (st := s_read_count) (c2.def_ 10 (d := d_read_count) rfl)
  have g_read_count := He.glo_ok X GG (c2.fact 9 (f := .glo "read_count") rfl)
  have b_read_count := F_read_count.binds (ps := ["bits", "at"]) fun _ _ _ _ _ _ us hl => match us, hl with | [_, _], _ => rfl
  obtain ⟨fd_read_number, F_read_number⟩ := FunD_fun (st := s_read_number) (c2.def_ 11 (d := d_read_number) rfl)
  have g_read_number := He.glo_ok X GG (c2.fact 10 (f := .glo "read_number") rfl)
  have b_read_number := F_read_number.binds (ps := ["bits", "at"]) fun _ _ _ _ _ _ us hl => match us, hl with | [_, _], _ => rfl
  obtain ⟨fd__check_place, F__check_place⟩ := FunD_fun (st := s__check_place) (c2.def_ 12 (d := d__check_place) rfl)
  have g__check_place := He.glo_ok X GG (c2.fact 11 (f := .glo "_check_place") rfl)
  have b__check_place := F__check_place.binds (ps := ["bits", "at"]) fun _ _ _ _ _ _ us hl => match us, hl with | [_, _], _ => rfl
  obtain ⟨fd__check_bits, F__check_bits⟩ := FunD_fun (st := s__check_bits) (c2.def_ 13 (d := d__check_bits) rfl)
  have g__check_bits := He.glo_ok X GG (c2.fact 12 (f := .glo "_check_bits") rfl)
  have b__check_bits := F__check_bits.binds (ps := ["bits"]) fun _ _ _ _ _ _ us hl => match us, hl with | [_], _ => rfl
  obtain ⟨fd__law_begun, F__law_begun⟩ := FunD_fun (st := s__law_begun) (c2.def_ 14 (d := d__law_begun) rfl)
  have g__law_begun := He.glo_ok X GG (c2.fact 13 (f := .glo "_law_begun") rfl)
  have b__law_begun := F__law_begun.binds (ps := ["script"]) fun _ _ _ _ _ _ us hl => match us, hl with | [_], _ => rfl
  obtain ⟨fd__law_mixed, F__law_mixed⟩ := FunD_fun (st := s__law_mixed) (c2.def_ 15 (d := d__law_mixed) rfl)
  have g__law_mixed := He.glo_ok X GG (c2.fact 14 (f := .glo "_law_mixed") rfl)
  have b__law_mixed := F__law_mixed.binds (ps := ["draw"]) fun _ _ _ _ _ _ us hl => match us, hl with | [_], _ => rfl
  obtain ⟨fd__law_take, F__law_take⟩ := FunD_fun (st := s__law_take) (c2.def_ 16 (d := d__law_take) rfl)
  have g__law_take := He.glo_ok X GG (c2.fact 15 (f := .glo "_law_take") rfl)
  have b__law_take := F__law_take.binds (ps := ["draw", "many"]) fun _ _ _ _ _ _ us hl => match us, hl with | [_, _], _ => rfl
  obtain ⟨fd__law_pick, F__law_pick⟩ := FunD_fun (st := s__law_pick) (c2.def_ 17 (d := d__law_pick) rfl)
  have g__law_pick := He.glo_ok X GG (c2.fact 16 (f := .glo "_law_pick") rfl)
  have b__law_pick := F__law_pick.binds (ps := ["draw", "some"]) fun _ _ _ _ _ _ us hl => match us, hl with | [_, _], _ => rfl
  obtain ⟨fd__law_figure, F__law_figure⟩ := FunD_fun (st := s__law_figure) (c2.def_ 18 (d := d__law_figure) rfl)
  have g__law_figure := He.glo_ok X GG (c2.fact 17 (f := .glo "_law_figure") rfl)
  have b__law_figure := F__law_figure.binds (ps := ["draw"]) fun _ _ _ _ _ _ us hl => match us, hl with | [_], _ => rfl
  obtain ⟨fd__law_digits, F__law_digits⟩ := FunD_fun (st := s__law_digits) (c2.def_ 19 (d := d__law_digits) rfl)
  have g__law_digits := He.glo_ok X GG (c2.fact 18 (f := .glo "_law_digits") rfl)
  have b__law_digits := F__law_digits.binds (ps := ["number", "many"]) fun _ _ _ _ _ _ us hl => match us, hl with | [_, _], _ => rfl
  obtain ⟨fd__law_count, F__law_count⟩ := FunD_fun (st := s__law_count) (c2.def_ 20 (d := d__law_count) rfl)
  have g__law_count := He.glo_ok X GG (c2.fact 19 (f := .glo "_law_count") rfl)
  have b__law_count := F__law_count.binds (ps := ["number"]) fun _ _ _ _ _ _ us hl => match us, hl with | [_], _ => rfl
  obtain ⟨fd__law_signed, F__law_signed⟩ := FunD_fun (st := s__law_signed) (c2.def_ 21 (d := d__law_signed) rfl)
  have g__law_signed := He.glo_ok X GG (c2.fact 20 (f := .glo "_law_signed") rfl)
  have b__law_signed := F__law_signed.binds (ps := ["number"]) fun _ _ _ _ _ _ us hl => match us, hl with | [_], _ => rfl
  obtain ⟨fd__law_bits, F__law_bits⟩ := FunD_fun (st := s__law_bits) (c2.def_ 22 (d := d__law_bits) rfl)
  have g__law_bits := He.glo_ok X GG (c2.fact 21 (f := .glo "_law_bits") rfl)
  have b__law_bits := F__law_bits.binds (ps := ["draw", "most"]) fun _ _ _ _ _ _ us hl => match us, hl with | [_, _], _ => rfl
  obtain ⟨fd__law_read, F__law_read⟩ := FunD_fun (st := s__law_read) (c2.def_ 23 (d := d__law_read) rfl)
  have g__law_read := He.glo_ok X GG (c2.fact 22 (f := .glo "_law_read") rfl)
  have b__law_read := F__law_read.binds (ps := ["bits", "at"]) fun _ _ _ _ _ _ us hl => match us, hl with | [_, _], _ => rfl
  obtain ⟨fd__law_value, F__law_value⟩ := FunD_fun (st := s__law_value) (c2.def_ 24 (d := d__law_value) rfl)
  have g__law_value := He.glo_ok X GG (c2.fact 23 (f := .glo "_law_value") rfl)
  have b__law_value := F__law_value.binds (ps := ["bits"]) fun _ _ _ _ _ _ us hl => match us, hl with | [_], _ => rfl
  obtain ⟨fd__law_outcome, F__law_outcome⟩ := FunD_fun (st := s__law_outcome) (c2.def_ 25 (d := d__law_outcome) rfl)
  have g__law_outcome := He.glo_ok X GG (c2.fact 24 (f := .glo "_law_outcome") rfl)
  have b__law_outcome := F__law_outcome.binds (ps := ["work", "things"]) fun _ _ _ _ _ _ us hl => match us, hl with | [_, _], _ => rfl
  obtain ⟨fd__law_edge, F__law_edge⟩ := FunD_fun (st := s__law_edge) (c2.def_ 26 (d := d__law_edge) rfl)
  have g__law_edge := He.glo_ok X GG (c2.fact 25 (f := .glo "_law_edge") rfl)
  have b__law_edge := F__law_edge.binds (ps := ["draw"]) fun _ _ _ _ _ _ us hl => match us, hl with | [_], _ => rfl
  obtain ⟨fd__law_signed_at, F__law_signed_at⟩ := FunD_fun (st := s__law_signed_at) (c2.def_ 27 (d := d__law_signed_at) rfl)
  have g__law_signed_at := He.glo_ok X GG (c2.fact 26 (f := .glo "_law_signed_at") rfl)
  have b__law_signed_at := F__law_signed_at.binds (ps := ["bits", "at"]) fun _ _ _ _ _ _ us hl => match us, hl with | [_, _], _ => rfl
  obtain ⟨fd__law_written_right, F__law_written_right⟩ := FunD_fun (st := s__law_written_right) (c2.def_ 28 (d := d__law_written_right) rfl)
  have g__law_written_right := He.glo_ok X GG (c2.fact 27 (f := .glo "_law_written_right") rfl)
  have b__law_written_right := F__law_written_right.binds (ps := ["draw", "number"]) fun _ _ _ _ _ _ us hl => match us, hl with | [_, _], _ => rfl
  obtain ⟨fd__law_refused, F__law_refused⟩ := FunD_fun (st := s__law_refused) (c2.def_ 29 (d := d__law_refused) rfl)
  have g__law_refused := He.glo_ok X GG (c2.fact 28 (f := .glo "_law_refused") rfl)
  have b__law_refused := F__law_refused.binds (ps := ["draw"]) fun _ _ _ _ _ _ us hl => match us, hl with | [_], _ => rfl
  obtain ⟨fd_law, F_law⟩ := FunD_fun (st := s_law) (c2.def_ 30 (d := d_law) rfl)
  have g_law := He.glo_ok X GG (c2.fact 29 (f := .glo "law") rfl)
  have b_law := F_law.binds (ps := ["script"]) fun _ _ _ _ _ _ us hl => match us, hl with | [_], _ => rfl
  have z_isinstance := He.free_ok X GG (c2.fact 33 (f := .free "isinstance") rfl)
  have z_int := He.free_ok X GG (c2.fact 34 (f := .free "int") rfl)
  have z_bool := He.free_ok X GG (c2.fact 35 (f := .free "bool") rfl)
  have z_str := He.free_ok X GG (c2.fact 36 (f := .free "str") rfl)
  have z_len := He.free_ok X GG (c2.fact 37 (f := .free "len") rfl)
  have z_abs := He.free_ok X GG (c2.fact 38 (f := .free "abs") rfl)
  have z_range := He.free_ok X GG (c2.fact 39 (f := .free "range") rfl)
  have z_repr := He.free_ok X GG (c2.fact 40 (f := .free "repr") rfl)
  have z_ValueError := He.free_ok X GG (c2.fact 41 (f := .free "ValueError") rfl)
  have g_StopError := He.glo_ok X GG (c2.fact 30 (f := .glo "StopError") rfl)
  have g_BadBits := He.glo_ok X GG (c2.fact 31 (f := .glo "BadBits") rfl)
  have g_BadNumber := He.glo_ok X GG (c2.fact 32 (f := .glo "BadNumber") rfl)
  obtain ⟨x1_BadNumber, x2_BadNumber, x3_BadNumber, x4_BadNumber⟩ := He.exc_ok (c2.fact 42 (f := .exc "BadNumber") rfl)
  have m_BadBits_StopError := He.exm_ok (c2.fact 43 (f := .exm "BadBits" "StopError" true) rfl)
  have m_BadNumber_StopError := He.exm_ok (c2.fact 44 (f := .exm "BadNumber" "StopError" true) rfl)
  have m := c.more
  unfold ex82 at m
  simp only [Bool.and_eq_true, decide_eq_true_eq] at m
  obtain ⟨mSys, mx_BadNumber, mx_BadBits, mo_BadBits, me0, me1, me2, me3, me4⟩ := m
  have SK := sysB_ok mSys
  have O_BadBits := ownB_ok mo_BadBits
  have C_BadNumber : Cl0 K mg "BadNumber" (He.ga K "BadNumber") := ⟨g_BadNumber, x1_BadNumber, x2_BadNumber, x3_BadNumber, x4_BadNumber⟩
  have B : Bn2 mg := { isinstance := z_isinstance, int := z_int, bool := z_bool, str := z_str, len := z_len, abs := z_abs, range := z_range, repr := z_repr, ValueError := z_ValueError }
  have EF : ErrF K mg (He.ga K "StopError") (He.ga K "BadBits") (He.ga K "BadNumber") := ⟨g_StopError, g_BadBits, C_BadNumber.g, m_BadBits_StopError, m_BadNumber_StopError, (excB_ok mx_BadBits).1, (excB_ok mx_BadNumber).1, (excB_ok mx_BadBits).2, O_BadBits.no "at" (List.mem_singleton.mpr rfl), me0, me1, me2, me3, me4⟩
  have G_is_number : FnOk P w0 K mg base CX0 1 _ fd_is_number ["thing"] (spIsNum K) := ok_is_number F_is_number B
  have c_is_number : Dq P w0 K mg base CX0 1 "is_number" ["thing"] (spIsNum K) := ⟨_, _, G_is_number, g_is_number, F_is_number.kp, b_is_number⟩
  have G_is_number_between : FnOk P w0 K mg base CX0 2 _ fd_is_number_between ["thing", "low", "high"] (spNumB K) := ok_is_number_between F_is_number_between c_is_number
  have c_is_number_between : Dq P w0 K mg base CX0 2 "is_number_between" ["thing", "low", "high"] (spNumB K) := ⟨_, _, G_is_number_between, g_is_number_between, F_is_number_between.kp, b_is_number_between⟩
  have G_is_bit_string : FnOk P w0 K mg base CX0 1 _ fd_is_bit_string ["thing"] (spBitS K) := ok_is_bit_string F_is_bit_string B
  have c_is_bit_string : Dq P w0 K mg base CX0 1 "is_bit_string" ["thing"] (spBitS K) := ⟨_, _, G_is_bit_string, g_is_bit_string, F_is_bit_string.kp, b_is_bit_string⟩
  have G_bits_of_count : FnOk P w0 K mg base CX0 1 _ fd_bits_of_count ["number"] spBitsC := ok_bits_of_count F_bits_of_count B
  have c_bits_of_count : Dq P w0 K mg base CX0 1 "bits_of_count" ["number"] spBitsC := ⟨_, _, G_bits_of_count, g_bits_of_count, F_bits_of_count.kp, b_bits_of_count⟩
  have G_bits_of_number : FnOk P w0 K mg base CX0 2 _ fd_bits_of_number ["number"] spBitsN := ok_bits_of_number F_bits_of_number c_bits_of_count
  have c_bits_of_number : Dq P w0 K mg base CX0 2 "bits_of_number" ["number"] spBitsN := ⟨_, _, G_bits_of_number, g_bits_of_number, F_bits_of_number.kp, b_bits_of_number⟩
  have G_count_at : FnOk P w0 K mg base CX0 1 _ fd_count_at ["bits", "at"] spCntAt := ok_count_at F_count_at B
  have c_count_at : Dq P w0 K mg base CX0 1 "count_at" ["bits", "at"] spCntAt := ⟨_, _, G_count_at, g_count_at, F_count_at.kp, b_count_at⟩
  have G_number_at : FnOk P w0 K mg base CX0 2 _ fd_number_at ["bits", "at"] spNumAt := ok_number_at F_number_at B c_count_at
  have c_number_at : Dq P w0 K mg base CX0 2 "number_at" ["bits", "at"] spNumAt := ⟨_, _, G_number_at, g_number_at, F_number_at.kp, b_number_at⟩
  have G_I : FnOk P w0 K mg base CX0 1 _ fd_BadBits___init__ ["self", "at"] (spInit1 (He.ga K "BadBits") "at") := okI_BadBits F_BadBits___init__ O_BadBits
  have OB : Cl1 P w0 K mg base "BadBits" "at" (He.ga K "BadBits") _ fd_BadBits___init__ := ⟨g_BadBits, O_BadBits, G_I, b_BadBits___init__⟩
  have G_count_bits : FnOk P w0 K mg base (L2.CX P w0) 2 _ fd_count_bits ["number"] (spCntB K (He.ga K "BadNumber")) := ok_count_bits F_count_bits C_BadNumber c_is_number c_bits_of_count
  have c_count_bits : Dq P w0 K mg base (L2.CX P w0) 2 "count_bits" ["number"] (spCntB K (He.ga K "BadNumber")) := ⟨_, _, G_count_bits, g_count_bits, F_count_bits.kp, b_count_bits⟩
  have G_number_bits : FnOk P w0 K mg base (L2.CX P w0) 3 _ fd_number_bits ["number"] (spNumBt K (He.ga K "BadNumber")) := ok_number_bits F_number_bits C_BadNumber c_is_number c_bits_of_number
  have c_number_bits : Dq P w0 K mg base (L2.CX P w0) 3 "number_bits" ["number"] (spNumBt K (He.ga K "BadNumber")) := ⟨_, _, G_number_bits, g_number_bits, F_number_bits.kp, b_number_bits⟩
  have G__check_bits : FnOk P w0 K mg base (L2.CX P w0) 3 _ fd__check_bits ["bits"] (spChkB K (He.ga K "BadBits")) := ok_check_bits F__check_bits OB c_is_bit_string
  have c__check_bits : Dq P w0 K mg base (L2.CX P w0) 3 "_check_bits" ["bits"] (spChkB K (He.ga K "BadBits")) := ⟨_, _, G__check_bits, g__check_bits, F__check_bits.kp, b__check_bits⟩
  have G__check_place : FnOk P w0 K mg base (L2.CX P w0) 4 _ fd__check_place ["bits", "at"] (spChkP K (He.ga K "BadBits") (He.ga K "BadNumber")) := ok_check_place F__check_place B C_BadNumber c__check_bits c_is_number_between
  have c__check_place : Dq P w0 K mg base (L2.CX P w0) 4 "_check_place" ["bits", "at"] (spChkP K (He.ga K "BadBits") (He.ga K "BadNumber")) := ⟨_, _, G__check_place, g__check_place, F__check_place.kp, b__check_place⟩
  have G_read_count : FnOk P w0 K mg base (L2.CX P w0) 5 _ fd_read_count ["bits", "at"] (spRdC K (He.ga K "BadBits") (He.ga K "BadNumber")) := ok_read_count F_read_count c__check_place c_count_at
  have c_read_count : Dq P w0 K mg base (L2.CX P w0) 5 "read_count" ["bits", "at"] (spRdC K (He.ga K "BadBits") (He.ga K "BadNumber")) := ⟨_, _, G_read_count, g_read_count, F_read_count.kp, b_read_count⟩
  have G_read_number : FnOk P w0 K mg base (L2.CX P w0) 5 _ fd_read_number ["bits", "at"] (spRdN K (He.ga K "BadBits") (He.ga K "BadNumber")) := ok_read_number F_read_number c__check_place c_number_at
  have c_read_number : Dq P w0 K mg base (L2.CX P w0) 5 "read_number" ["bits", "at"] (spRdN K (He.ga K "BadBits") (He.ga K "BadNumber")) := ⟨_, _, G_read_number, g_read_number, F_read_number.kp, b_read_number⟩
  have k_read_count : Dk P w0 K mg base (L2.CX P w0) 5 "read_count" ["bits", "at"] ["at", "bits"] kwBA (spRdC K (He.ga K "BadBits") (He.ga K "BadNumber")) := ⟨_, _, _, G_read_count, g_read_count, F_read_count.kp, kb_ba F_read_count (fun _ _ _ _ _ _ _ _ => rfl)⟩
  have k_read_number : Dk P w0 K mg base (L2.CX P w0) 5 "read_number" ["bits", "at"] ["at", "bits"] kwBA (spRdN K (He.ga K "BadBits") (He.ga K "BadNumber")) := ⟨_, _, _, G_read_number, g_read_number, F_read_number.kp, kb_ba F_read_number (fun _ _ _ _ _ _ _ _ => rfl)⟩
  have k_count_bits : Dk P w0 K mg base (L2.CX P w0) 2 "count_bits" ["number"] ["number"] cat1 (spCntB K (He.ga K "BadNumber")) := ⟨_, _, _, G_count_bits, g_count_bits, F_count_bits.kp, kb1 F_count_bits (fun _ _ _ _ _ _ _ => rfl) (fun _ _ _ _ _ _ _ => rfl)⟩
  have k_number_bits : Dk P w0 K mg base (L2.CX P w0) 3 "number_bits" ["number"] ["number"] cat1 (spNumBt K (He.ga K "BadNumber")) := ⟨_, _, _, G_number_bits, g_number_bits, F_number_bits.kp, kb1 F_number_bits (fun _ _ _ _ _ _ _ => rfl) (fun _ _ _ _ _ _ _ => rfl)⟩
  have G__law_mixed : FnOk P w0 K mg base CX0 1 _ fd__law_mixed ["draw"] spMixed := ok_mixed F__law_mixed z_int
  have c__law_mixed : Dq P w0 K mg base CX0 1 "_law_mixed" ["draw"] spMixed := ⟨_, _, G__law_mixed, g__law_mixed, F__law_mixed.kp, b__law_mixed⟩
  have G__law_begun : FnOk P w0 K mg base CX0 1 _ fd__law_begun ["script"] (spBegun K) := ok_begun F__law_begun z_int z_abs
  have c__law_begun : Dq P w0 K mg base CX0 1 "_law_begun" ["script"] (spBegun K) := ⟨_, _, G__law_begun, g__law_begun, F__law_begun.kp, b__law_begun⟩
  have G__law_take : FnOk P w0 K mg base CX0 2 _ fd__law_take ["draw", "many"] spTake := ok_take F__law_take F__law_mixed b__law_mixed g__law_mixed z_int G__law_mixed
  have c__law_take : Dq P w0 K mg base CX0 2 "_law_take" ["draw", "many"] spTake := ⟨_, _, G__law_take, g__law_take, F__law_take.kp, b__law_take⟩
  have G__law_pick : FnOk P w0 K mg base CX0 3 _ fd__law_pick ["draw", "some"] (spPick K) := ok_pick F__law_pick F__law_take b__law_take g__law_take z_len G__law_take
  have c__law_pick : Dq P w0 K mg base CX0 3 "_law_pick" ["draw", "some"] (spPick K) := ⟨_, _, G__law_pick, g__law_pick, F__law_pick.kp, b__law_pick⟩
  have G__law_figure : FnOk P w0 K mg base CX0 3 _ fd__law_figure ["draw"] spFig := ok_figure F__law_figure c__law_take
  have c__law_figure : Dq P w0 K mg base CX0 3 "_law_figure" ["draw"] spFig := ⟨_, _, G__law_figure, g__law_figure, F__law_figure.kp, b__law_figure⟩
  have G__law_digits : FnOk P w0 K mg base CX0 1 _ fd__law_digits ["number", "many"] spDig := ok_digits F__law_digits B
  have c__law_digits : Dq P w0 K mg base CX0 1 "_law_digits" ["number", "many"] spDig := ⟨_, _, G__law_digits, g__law_digits, F__law_digits.kp, b__law_digits⟩
  have G__law_value : FnOk P w0 K mg base CX0 1 _ fd__law_value ["bits"] spVal := ok_value F__law_value B
  have c__law_value : Dq P w0 K mg base CX0 1 "_law_value" ["bits"] spVal := ⟨_, _, G__law_value, g__law_value, F__law_value.kp, b__law_value⟩
  have G__law_count : FnOk P w0 K mg base CX0 2 _ fd__law_count ["number"] spBitsC := ok_count F__law_count c__law_digits
  have c__law_count : Dq P w0 K mg base CX0 2 "_law_count" ["number"] spBitsC := ⟨_, _, G__law_count, g__law_count, F__law_count.kp, b__law_count⟩
  have G__law_signed : FnOk P w0 K mg base CX0 3 _ fd__law_signed ["number"] spBitsN := ok_signed F__law_signed c__law_count
  have c__law_signed : Dq P w0 K mg base CX0 3 "_law_signed" ["number"] spBitsN := ⟨_, _, G__law_signed, g__law_signed, F__law_signed.kp, b__law_signed⟩
  have G__law_bits : FnOk P w0 K mg base CX0 4 _ fd__law_bits ["draw", "most"] spBits := ok_bits F__law_bits B c__law_take c__law_pick
  have c__law_bits : Dq P w0 K mg base CX0 4 "_law_bits" ["draw", "most"] spBits := ⟨_, _, G__law_bits, g__law_bits, F__law_bits.kp, b__law_bits⟩
  have G__law_edge : FnOk P w0 K mg base CX0 4 _ fd__law_edge ["draw"] spEdge := ok_edge F__law_edge B c__law_take c__law_figure
  have c__law_edge : Dq P w0 K mg base CX0 4 "_law_edge" ["draw"] spEdge := ⟨_, _, G__law_edge, g__law_edge, F__law_edge.kp, b__law_edge⟩
  have G__law_read : FnOk P w0 K mg base CX0 2 _ fd__law_read ["bits", "at"] spCntAt := ok_read F__law_read B c__law_value
  have c__law_read : Dq P w0 K mg base CX0 2 "_law_read" ["bits", "at"] spCntAt := ⟨_, _, G__law_read, g__law_read, F__law_read.kp, b__law_read⟩
  have G__law_signed_at : FnOk P w0 K mg base CX0 3 _ fd__law_signed_at ["bits", "at"] spNumAt := ok_signed_at F__law_signed_at B c__law_read
  have c__law_signed_at : Dq P w0 K mg base CX0 3 "_law_signed_at" ["bits", "at"] spNumAt := ⟨_, _, G__law_signed_at, g__law_signed_at, F__law_signed_at.kp, b__law_signed_at⟩
  have G__law_outcome : FnOk P w0 K mg base CX0 6 _ fd__law_outcome ["work", "things"] (spOutc P w0 K mg base (He.ga K "BadBits") (He.ga K "BadNumber")) := ok_outcome F__law_outcome B EF
  have c__law_outcome : Dq P w0 K mg base CX0 6 "_law_outcome" ["work", "things"] (spOutc P w0 K mg base (He.ga K "BadBits") (He.ga K "BadNumber")) := ⟨_, _, G__law_outcome, g__law_outcome, F__law_outcome.kp, b__law_outcome⟩
  have G__law_written_right : FnG P w0 K mg base 6 _ fd__law_written_right ["draw", "number"] spWR := ok_written F__law_written_right B SK c__law_signed c__law_bits c_number_bits k_number_bits c_count_bits k_count_bits c__law_count c_read_number c_read_count k_read_number k_read_count c__law_take c__law_read c__law_signed_at
  have c__law_written_right : Gq P w0 K mg base 6 "_law_written_right" ["draw", "number"] spWR := ⟨_, _, G__law_written_right, g__law_written_right, F__law_written_right.kp, b__law_written_right⟩
  have G__law_refused : FnG P w0 K mg base 7 _ fd__law_refused ["draw"] spRef := ok_refused F__law_refused B SK c__law_pick c__law_bits c__law_take c__law_outcome c_number_bits c_count_bits c_read_number c_read_count
  have c__law_refused : Gq P w0 K mg base 7 "_law_refused" ["draw"] spRef := ⟨_, _, G__law_refused, g__law_refused, F__law_refused.kp, b__law_refused⟩
  have G_law : FnG P w0 K mg base 8 _ fd_law ["script"] (spLawT K) := ok_law F_law B SK c__law_begun c__law_edge c__law_written_right c__law_refused c__law_pick c__law_bits c__law_take c_read_number c_read_count c__law_read c__law_signed_at
  cases hfa.symm.trans g_law
  refine lawRun_of G_law ⟨by decide, by decide, by decide⟩ fun s u => ?_
  obtain ⟨oc, od, kV, doc, pm, an, cdv, ct, osl, rfl, _, _⟩ := F_law.ex
  exact .of_eq rfl
end
end SA
set_option Elab.async false
set_option linter.all false
set_option maxRecDepth 100000
set_option maxHeartbeats 0
namespace SA
open PySem PySem.W PySem.Calls PyProof.Rows
def names : List PySem.Str := [("is_number" : PySem.Str), ("is_number_between" : PySem.Str), ("StopError" : PySem.Str), ("BadNumber" : PySem.Str), ("BadBits" : PySem.Str), ("is_bit_string" : PySem.Str), ("bits_of_count" : PySem.Str), ("bits_of_number" : PySem.Str), ("count_at" : PySem.Str), ("number_at" : PySem.Str), ("count_bits" : PySem.Str), ("number_bits" : PySem.Str), ("read_count" : PySem.Str), ("read_number" : PySem.Str), ("_check_place" : PySem.Str), ("_check_bits" : PySem.Str), ("_law_begun" : PySem.Str), ("_law_mixed" : PySem.Str), ("_law_take" : PySem.Str), ("_law_pick" : PySem.Str), ("_law_figure" : PySem.Str), ("_law_digits" : PySem.Str), ("_law_count" : PySem.Str), ("_law_signed" : PySem.Str), ("_law_bits" : PySem.Str), ("_law_read" : PySem.Str), ("_law_value" : PySem.Str), ("_law_outcome" : PySem.Str), ("_law_edge" : PySem.Str), ("_law_signed_at" : PySem.Str), ("_law_written_right" : PySem.Str), ("_law_refused" : PySem.Str)]
theorem run (w : World) : HandSHeadRun.RunEq R (view R.prog [37]) hk82 ob82 4000 names w := by
  intro os
  kernel_rfl
end SA
open PySem PySem.W PySem.Calls PyProof.Rows
theorem PySem.Challenge.cw_stopanywhere_k82_numbers_in_bits_holds : PySem.Challenge.rw_stopanywhere_k82_numbers_in_bits.Holds := by
  w_on; o_law
  refine HandSHeadRun.head_any (r := SA.R) (q := view SA.R.prog [37]) (H := SA.hk82) (ob := SA.ob82) (M := 4000) (loose := SA.names) (d := HandSHeadRun.topDef SA.R.prog 37) (kwd := []) SA.ob_eq
    (by kernel_rfl) (fun s => by kernel_rfl) SA.run (by kernel_rfl) (by kernel_rfl) (by kernel_rfl) (by rfl) (by first | assumption | decide +kernel) (by decide +kernel) ⟨rfl, rfl, rfl, rfl, rfl, by decide +kernel⟩ ?hw ?hc
  case hw => w_witness2
  case hc =>
    refine SA.walk_G (l := PySem.Challenge.rw_stopanywhere_k82_numbers_in_bits) (n := 63) rfl (by decide) (by kernel_rfl) ?F
    intro w mg fa h Y G hmg0
    obtain ⟨K, KX, c⟩ := Y
    have hmg : mg ("law" : PySem.Str) = some (.ref fa) := by
      have e : (HandSHeadRun.topDef SA.R.prog 37).name = ("law" : PySem.Str) := by kernel_rfl
      rw [← e]
      exact hmg0
    exact ⟨K, KX, fun base _ _ => SA.law_of KX G hmg c base⟩

import PyProof.Rows.All
import Wide.All
import OpenK.AllK
import Wide.FinOn
import HandS.Base
import HandS.Call
import HandS.List
import HandS.Ends
import HandS.Exc
import HandS.ExcInit
import HandS.WideBits
import PyProof.ReprReads
import KE.KExcIs
import HandS.ExcField
import HandS.IsInst
import HandS.MakeKw
import HandS.ForMost
import HandS.ForExc
import HandS.EndBits
import KE.GoesMore
import HandS.Walk
import HandS.OwnEq
import PyProof.InstNe
import HandS.TryMany
import HandS.ExcOwn
import PyProof.CallFns
import PyProof.ReprRoads
import HandS.Property
import HandS.Strs
import HandS.WordsExc
import HandS.Conv
import HandS.TupSets
import HandS.Style
import PyProof.ReprLen
import HandS.Defaults
import PySem.Challenge.RW_pulledonce_k02_programs_changed_and_comp
set_option Elab.async false
set_option linter.all false
set_option maxRecDepth 100000
set_option maxHeartbeats 4000000
/-! Rules of my own over the hand layer: powers of great ints, exceptions held as values, repr of data. -/
namespace VK
open PySem PySem.Spec PyProof.Rows L2

/-! ### powers -/
def PowOk (i j : Int) : Prop := 0 ≤ j ∧ (Builtin.Int.intBits i : Int) * j ≤ 2 ^ 27
theorem op_powB {X : Cx} : OpR X (binaryOp .Pow) (rI PowOk fun i j => .int (i ^ j.toNat)) :=
  opI fun _ _ _ _ _ _ _ hc q => pow_int hc.1 hc.2 q

/-! ### an exception of one's own, held as a value: its object exo, its dict exd -/
section
variable {X : Cx} {e : Expr} {es : List Expr} {te : TE} {ta : TA} {p pos : Pos}
def tErr (sp : Sp) (dvs : List V) (C : Addr) (ta : TA) : TE := fun σ H Q => ta σ H fun vs H1 => vs.length ≤ 1000 ∧
  ∀ a, H1 a = none → sp (.ref a :: (vs ++ dvs)) (upd H1 a (exo a C none)) (fun v H2 => v = .non ∧ Q (.ref a) H2) fun _ _ _ => False

/-- C(e, ..), C an own class over ValueError with its own __init__ -/
theorem pe_err {CX : CXT} {x : Str} {C fI : Addr} {k : Nat} {fd : FuncData} {ps : List Str} {sp : Sp} {ds : List Value} {dvs : List V}
    (T : OexC X.K C) (iC : PySem.W.findIn X.K (.ref C) "__init__" = some (some (.ref fI)))
    (tI : PySem.W.typeIn X.K (.ref fI) = some (.type "function"))
    (F1 : FnOk X.prog X.w X.K X.mg X.base CX k fI fd ps sp) (hr : Room (k + 1) X.A) (hb : Binds X.K fd ps ds) (hd : Vals dvs ds)
    (hx : Passes CX X (fun _ _ _ => False)) (hg : Gl X x) (hm : X.mg x = some (.ref C)) (ha : PA X (e :: es) ta)
    (hdb : (x == ("__debug__" : Str)) = false := by decide)
    (he : starEach (e :: es) X.env = (false, eval e X.env) :: starEach es X.env := by rfl)
    (hpl : (backTo pos (starEach es X.env)).any (·.1) = false := by rfl) :
    PE X (.Call (.Name x p) (e :: es) [] pos) (tErr sp dvs C ta) := by
  refine ⟨fun pins s σ H Q I h => ?_⟩
  obtain ⟨nm, q, N, bs, bm, sn, sub, ab, col, dd, k0, k1, k2, k3, k5, hC, hbm⟩ := T.cls
  refine wpAny_Call_Name_kw (ld_glob I hg hm ?_ hdb)
  refine PySem.W.callWith_K (h₀ := X.base) I.ok.mod.kin T.kC (thn (ha.run pos pins s σ H _ I h) fun us s1 ha1 => ?_) he hpl
  obtain ⟨vs, H1, I1, r1, hz, q1⟩ := ha1
  refine ⟨I1.kIn, ?_⟩
  show wpAny _ _ (call (.ref C) us) _ _ _
  obtain ⟨hp, g, dr, tk, os⟩ := s1
  generalize hA : hp.objs.size + 1 = aa at *
  have hle : hp.objs.size ≤ aa := by omega
  have hnew : H1 aa = none := I1.hok.fresh hle
  have want := q1 aa hnew
  have keepAll : ∀ b o, hp.get? b = some o →
      ((hp.push (PySem.W.kdv_tup us)).push (PySem.HandSPX.excO C hp.objs.size)).get? b = some o :=
    fun b o e => Heap.get?_push_of_some _ (Heap.get?_push_of_some _ e)
  have at2 : ((hp.push (PySem.W.kdv_tup us)).push (PySem.HandSPX.excO C hp.objs.size)).get? aa =
      some (PySem.HandSPX.excO C hp.objs.size) := by
    subst hA
    heap_get
  have I2 : Inv X pins σ (upd H1 aa (exo aa C none))
      ⟨(hp.push (PySem.W.kdv_tup us)).push (PySem.HandSPX.excO C hp.objs.size), g, dr, tk, os⟩ :=
    I1.laid (t' := tk) (o := exo aa C none) keepAll hle (exo_ok at2)
  have r2 : Vals (V.ref aa :: (vs ++ dvs)) (Value.ref aa :: (us ++ ds)) := .cons rfl (r1.append hd)
  have hl : (Value.ref aa :: us ++ ds).length = ps.length := by
    have e0 := r2.length
    rw [F1.len _ _ _ _ want] at e0
    exact e0.symm
  have hus : us.length ≤ sizeLine := by
    rw [← Paired.length r1, sizeLine_eq]
    omega
  subst hA
  refine wpAny_call (PySem.HandSPX.call_own F.excBase_ValueError
    (fun Y => PySem.HandSPX.refsVE_contains Y bm hbm) (I1.kIn _ _ hC) (PySem.W.looks_findIn I1.kIn iC)
    (fun self => PySem.W.bind_fn I1.kIn self tI) hus ?_)
  refine codeAny_mono (F1.run _ X.stack _ _ ⟨_ :: us, []⟩ (_ :: (us ++ ds)) _ _ (fun _ _ _ => False)
    (hr.make C us []) (I2.env0.make C us []) (hb _ (_ :: us) I2.kIn hl) r2 want) fun r s' hq' => ?_
  cases r with
  | error er => exact hx pins σ _ _ er s' I2 hq'
  | ok fl =>
    cases fl with
    | ret u =>
      obtain ⟨v, H2, I3, rv, ev, q2⟩ := I2.after hq'
      subst ev
      exact ⟨rv, .ref _, H2, I3, rfl, q2⟩
    | next => exact hq'.elim
    | brk => exact hq'.elim
    | cont => exact hq'.elim
end
end VK
set_option Elab.async false
set_option linter.all false
set_option maxRecDepth 100000
set_option maxHeartbeats 4000000
namespace VK
open PySem PySem.Spec PyProof.Rows L2

/-! ### repr of a list of data; a dict of scalars may stand among its items -/
def keyD : Key → PyData
  | .inl i => .int i
  | .inr x => .str x
/-- scalars as data -/
inductive ScD : V → PyData → Prop where
  | non : ScD .non .none
  | bl (b : Bool) : ScD (.bl b) (.bool b)
  | int (i : Int) : ScD (.int i) (.int i)
  | str (x : Str) : ScD (.str x) (.str x)
inductive ShwV (K : PySem.W.Frag) (H : Hp) : V → PyData → Prop where
  | data {x : V} {d : PyData} (h : Dp K H x d) (n : d.hasDict = false) : ShwV K H x d
  | dct {p : Addr} {kvs : List (Key × V)} {des : List (PyData × PyData)} (e : H p = some (.dK kvs))
      (r : Paired (fun kv de => de.1 = keyD kv.1 ∧ ScD kv.2 de.2) kvs des) : ShwV K H (.ref p) (.dict des)
inductive ShwAll (K : PySem.W.Frag) (H : Hp) : List V → List PyData → Prop where
  | nil : ShwAll K H [] []
  | cons {x : V} {d : PyData} {xs : List V} {ds : List PyData} : ShwV K H x d → ShwAll K H xs ds → ShwAll K H (x :: xs) (d :: ds)
theorem ScD.reads {x : V} {d : PyData} {u : Value} {h : Heap} (k : ScD x d) (r : RelV x u) : Reads h u d [] := by
  cases k with
  | non => cases r; exact .none
  | bl b => cases r; exact .bool b
  | int i => obtain ⟨t, rfl⟩ := r; exact .int i t
  | str x => obtain ⟨t, rfl⟩ := r; exact .str x t
section
variable {X : Cx} {pins : List (Addr × Obj)} {σ : L2.St} {H : Hp} {s : Shared}
theorem dict_reads {h : Heap} : ∀ (kvs : List (Key × V)) (des : List (PyData × PyData)) (vs : List (Key × Value)) (es : List DictEntry),
    Paired (fun kv de => de.1 = keyD kv.1 ∧ ScD kv.2 de.2) kvs des → KV kvs vs → Pairs (mixKind X.prog X.w) es vs →
    ReadsAll h (es.map (·.key)) (des.map (·.1)) [] ∧ ReadsAll h (es.map (·.val)) (des.map (·.2)) []
  | [], des, vs, es, ra, rb, rc => by
    cases ra
    cases rb
    cases rc
    exact ⟨.nil, .nil⟩
  | kv :: kvs, des, vs, es, ra, rb, rc => by
    cases ra with
    | @cons _ de _ des a ra =>
      cases rb with
      | @cons _ kv2 _ vs b rb =>
        cases rc with
        | @cons e _ es _ c1 c2 rc =>
          obtain ⟨a1, a2⟩ := a
          obtain ⟨b1, b2⟩ := b
          obtain ⟨i1, i2⟩ := dict_reads kvs des vs es ra rb rc
          have c3 : keyIs kv2.1 e.key = true := c1
          have k1 : Reads h e.key de.1 [] := by
            rw [a1, b1]
            rcases keyIs_shape c3 with ⟨i, t, e1, e2⟩ | ⟨x, t, e1, e2⟩
            · rw [e2, e1]; exact .int i t
            · rw [e2, e1]; exact .str x t
          have k2 : Reads h e.val de.2 [] := by
            rw [c2]
            exact a2.reads b2
          exact ⟨ReadsAll.cons (as := []) (bs := []) k1 i1, ReadsAll.cons (as := []) (bs := []) k2 i2⟩
theorem ShwV.reads (I : Inv X pins σ H s) {x : V} {d : PyData} {u : Value} (k : ShwV X.K H x d) (r : RelV x u) :
    ∃ as, Reads s.heap u d as ∧ (d.hasDict = true → sysModules ∉ as) := by
  cases k with
  | data h n =>
    obtain ⟨as, q⟩ := Dp.reads I _ _ _ h r
    exact ⟨as, q, fun z => by rw [n] at z; cases z⟩
  | @dct p kvs des e rr =>
    cases r
    have ob : ObjOk X.prog X.w H s.heap p (.dK kvs) := I.hok p _ e
    obtain ⟨_, hs, vs, kv, o, es, ep, ho, ex, hd, _, pr, _⟩ := ob
    obtain ⟨i1, i2⟩ := dict_reads (X := X) (h := s.heap) _ _ _ _ rr kv pr
    refine ⟨[p], Reads.dict (as := []) (bs := []) ho ex.1 hd i1 i2, fun _ hm => ?_⟩
    have e2 : sysModules = p := by simpa using hm
    rw [e2] at hs
    simp at hs
theorem shw_all (I : Inv X pins σ H s) : ∀ {xs : List V} {ds : List PyData} {us : List Value}, ShwAll X.K H xs ds → Vals xs us →
    PyData.showableAll ds = true → (∀ t ∈ PyData.shownAll ds, t.length ≤ sizeLine) →
    (∃ as, ReadsAll s.heap us ds as) ∧ ∃ bs, ReadAtMost s.heap (PyData.depthAll ds) bs ∧
      ReprAllK X.prog X.w bs s.heap (PyData.depthAll ds) us (PyData.shownAll ds)
  | _, _, _, .nil, .nil, _, _ => ⟨⟨_, .nil⟩, [], (fun _ h => by cases h), by simp only [PyData.shownAll]; exact .nil⟩
  | _, _, _, .cons (d := d) (ds := ds) k ks, .cons r rs, hs, hz => by
    have hs2 : d.showable = true ∧ PyData.showableAll ds = true := by simpa [PyData.showableAll] using hs
    obtain ⟨as, q1, q2⟩ := k.reads I r
    have hz1 : d.shown.length ≤ sizeLine := hz _ (by simp only [PyData.shownAll]; exact List.mem_cons_self ..)
    obtain ⟨b1, m1, k1⟩ := ReprK.of_reads (prog := X.prog) (w := X.w) q1 hs2.1 q2 hz1
    obtain ⟨⟨as2, q3⟩, b2, m2, k2⟩ := shw_all I ks rs hs2.2 fun t ht => hz t (by simp only [PyData.shownAll]; exact List.mem_cons_of_mem _ ht)
    refine ⟨⟨_, .cons q1 q3⟩, b1 ++ b2, ?_, ?_⟩
    · have a1 : d.depth ≤ PyData.depthAll (d :: ds) := by simp only [PyData.depthAll]; exact Nat.le_max_left ..
      have a2 : PyData.depthAll ds ≤ PyData.depthAll (d :: ds) := by simp only [PyData.depthAll]; exact Nat.le_max_right ..
      exact (m1.mono a1).append (m2.mono a2)
    · simp only [PyData.depthAll, PyData.shownAll]
      refine .cons ((k1.more fun b hb => List.mem_append_left _ hb).level_le (Nat.le_max_left ..)) ?_
      exact k2.more_le (fun b hb => List.mem_append_right _ hb) (Nat.le_max_right ..)
end
def rShow (K : PySem.W.Frag) : List V → Hp → VK → Prop := fun vs H Q => ∃ (p : Addr) (xs : List V) (ds : List PyData),
  vs = [.ref p] ∧ SqL K H p xs ∧ ShwAll K H xs ds ∧ PyData.showableAll ds = true ∧ (listText (PyData.shownAll ds)).length ≤ sizeLine ∧
    PyData.depthAll ds ≤ 40 ∧ Q (.str (listText (PyData.shownAll ds))) H
theorem call_show {X : Cx} (hg : X.A.guards = some []) (hu : X.A.units + 64 < cLine) : CallR X (.builtin "repr") (rShow X.K) := by
  intro pins s σ H vs us Q I r h
  obtain ⟨p, xs, ds, rfl, hS, hA, sh, hz, hd, q⟩ := h
  obtain ⟨u, rfl, ru⟩ := vals1 r
  cases ru
  obtain ⟨its, rv, ⟨o, n, ho, hc, _, hdat⟩, _⟩ := I.list hS
  obtain ⟨⟨as, ra⟩, bs, mb, hk⟩ := shw_all I hA rv sh fun t ht => Nat.le_trans (listText_mem_le ht) hz
  have hna : p ∉ bs := not_mem_of_deeper (Reads.list ho hc hdat ra) (by simp only [PyData.depth]; omega) mb
  have fin : ∀ (h' : Heap) (u : Tok) (tk : Nat), (∀ b o, s.heap.get? b = some o → h'.get? b = some o) →
      EP X pins σ Q (.str (listText (PyData.shownAll ds)) u) { s with heap := h', toks := tk } :=
    fun h' u tk k => ⟨.str _, H, I.kept k, ⟨u, rfl⟩, q⟩
  refine call_repr_slot (by omega) ⟨o, ho, hc⟩ F.slot_list_repr.toG ?_
  have hg2 : X.A.in1.guards = some [] := hg
  cases rv with
  | nil =>
    cases hA
    simp only [PyData.shownAll, listText_nil] at fin
    exact call_list_repr_empty ⟨o, ho, hc⟩ ho hdat ⟨_, _, rfl, fin s.heap _ _ fun _ _ e => e⟩
  | cons r1 r2 =>
    refine call_list_reprK ho hc hdat hna (by simpa using hk.length_eq) (fun i y e => hk.item i y (by simpa using e)) hg2 (fun b _ => Clear.nil b) ?_ (fun _ _ e => e) (fun h' u tk k => ⟨_, _, rfl, fin h' u tk k⟩) hz
    show X.A.units + 1 + _ < cLine
    omega
end VK
set_option Elab.async false
set_option linter.all false
set_option maxRecDepth 100000
set_option maxHeartbeats 4000000
namespace VK
open PySem PySem.Spec PyProof.Rows L2

/-! ### a held exception's field; isinstance of it -/
/-- at a an exception of the class at C with the fields fs -/
def ErrAt (H : Hp) (a C : Addr) (fs : List (Str × V)) : Prop := ∃ d, H a = some (exo a C (some d)) ∧ H d = some (exd d fs)
theorem ErrAt.same {H H' : Hp} {a C : Addr} {fs : List (Str × V)} (k : ErrAt H a C fs) (s : Same H H') : ErrAt H' a C fs := by
  obtain ⟨d, e1, e2⟩ := k
  exact ⟨d, s _ _ e1, s _ _ e2⟩
theorem ErrAt.inst {X : Cx} {pins : List (Addr × Obj)} {σ : L2.St} {H : Hp} {s : Shared} {a C : Addr} {fs : List (Str × V)}
    (I : Inv X pins σ H s) (k : ErrAt H a C fs) : ∃ (oe od : Obj) (mA : Str → Option Value),
      PySem.W.InstAt s.heap a oe C (some od) ∧ (∀ n, PySem.W.lookIn n od = some (mA n)) ∧ ∀ f, RelO (fs.lookup f) (mA f) := by
  obtain ⟨d, e1, e2⟩ := k
  obtain ⟨t1, ho⟩ := exo_at I.hok e1
  obtain ⟨mA, hns, hr⟩ := exd_at I.hok e2
  obtain ⟨od, hd, hl⟩ := lookIn_ns hns
  exact ⟨_, od, mA, ⟨ho, rfl, rfl, hd⟩, hl, hr⟩
def tErrF (K : PySem.W.Frag) (f : Str) (te : TE) : TE := fun σ H Q => te σ H fun x H1 => ∃ (a C : Addr) (fs : List (Str × V)) (v : V),
  x = .ref a ∧ XfC K C ∧ PySem.W.findIn K (.ref C) f = some none ∧ ErrAt H1 a C fs ∧ fs.lookup f = some v ∧ Q v H1
theorem pe_errF {X : Cx} {e : Expr} {te : TE} {pos : Pos} {f : Str} (he : PE X e te)
    (hb : attributeBase e f X.env (eval e X.env) = eval e X.env := by rfl) : PE X (.Attribute e f pos) (tErrF X.K f te) := by
  refine ⟨fun pins s σ H Q I h => ?_⟩
  refine attr_of hb (thn (he.run pins s σ H _ I h) fun u s1 hh => ?_)
  obtain ⟨x, H1, I1, rx, a, C, fs, v, ex, T, hno, k, l, q⟩ := hh
  subst ex
  obtain rfl : u = Value.ref a := rx
  obtain ⟨oe, od, mA, J, hl, hr⟩ := k.inst I1
  obtain ⟨u, hu, ru⟩ := RelO.some_of (v := v) (o := mA f) (by rw [← l]; exact hr f)
  refine HandSPX.exc_get I1.kIn J T.ga T.gg T.exC ?_ (handed_of ru) ⟨v, H1, I1.tok _, ru, q⟩
  exact PySem.W.findObj_own T.hdC hno rfl (by rw [hl, hu])

/-- what the class must say for isinstance -/
structure ErrI (K : PySem.W.Frag) (C : Addr) : Prop where
  xf : XfC K C
  cl : PySem.W.findIn K (.ref C) "__class__" = some (some (.builtin "object.__class__"))
  sp : PySem.W.specialIn K (.builtin "object.__class__") "__get__" = some (some (.builtin "getset_descriptor.__get__"))
  tk : PySem.W.takesIn K (.builtin "object.__class__") = some true
  ob : PySem.W.mroIn K C (.type "object") = some true
  is : (PySem.W.clsIn K C).isSome = true
def rErrIs (K : PySem.W.Frag) : List V → Hp → VK → Prop := fun vs H Q => ∃ (a C : Addr) (fs : List (Str × V)) (c : V) (cv : Value) (b : Bool),
  vs = [.ref a, c] ∧ ErrI K C ∧ ErrAt H a C fs ∧ ClsV c cv ∧ PySem.W.kitOne K (.ref C) cv = some b ∧ Q (.bl b) H
theorem call_errIs {X : Cx} : CallR X (.builtin "isinstance") (rErrIs X.K) := by
  intro pins s σ H vs us Q I r h
  obtain ⟨a, C, fs, c, cv, b, rfl, T, k, hc, e, q⟩ := h
  obtain ⟨u1, u2, rfl, r1, r2⟩ := vals2 r
  cases r1
  have e2 := hc.eq r2
  subst e2
  obtain ⟨oe, od, mA, J, _, _⟩ := k.inst I
  refine PySem.W.kia_one (PySem.W.kitx_exc (od := some od) T.is T.xf.ga T.xf.gg T.xf.exC T.cl T.sp T.tk T.ob) I.kIn J e (fun z => nomatch z) fun tk => ?_
  exact ⟨.bl b, H, I.tok tk, rfl, q⟩
/-- either rule for a call of a built-in -/
theorem CallR.or {X : Cx} {f : Value} {r r' : List V → Hp → VK → Prop} (h : CallR X f r) (h' : CallR X f r') :
    CallR X f (fun vs H Q => r vs H Q ∨ r' vs H Q) := fun pins s σ H xs us Q I rv q => q.elim (h pins s σ H xs us Q I rv) (h' pins s σ H xs us Q I rv)
end VK
set_option Elab.async false
set_option linter.all false
set_option maxRecDepth 100000
set_option maxHeartbeats 4000000
/-! an own exception made by a call with one keyword -/
namespace VKX
open PySem PySem.HandSPX PySem.Builtin PySem.Builtin.ObjectAttr
section
variable {prog : Program} {w : World} {A : Around} {E : Value → Shared → Prop} {R : Result → Shared → Prop} {h : Heap} {g : Array GenState} {d : Drawn} {t : Nat} {os : OsState}
variable {nm q f : Str} {v : Value} {C N : Addr} {bs bm bmB : List Value} {hdct : Bool} {sn : List Str} {sub : List Value} {ab : Bool} {col : Option Bool} {dd : Option Addr} {k0 k1 k2 k3 k5 : Option Value} {B newId initId : String}
theorem kw_check (F : ExcBaseFacts B newId initId bmB) (hT : ∀ X : String, bm.contains (.type X) = bmB.contains (.type X)) {Q : Unit → Shared → Prop}
    (hC : h.get? C = some (excClassObj nm q C N bs bm hdct sn sub ab col dd k0 k1 k2 k3 k5 newId)) (hq : Q () ⟨h, g, d, t, os⟩) :
    wpAny (model prog w) A (checkBuiltinCall newId ⟨[.ref C], [(f, v)]⟩) Q E ⟨h, g, d, t, os⟩ := by
  have inB : (Value.ref C :: bm).contains (.type B) = true := by
    rw [List.contains_cons, hT, F.hasB]
    exact Bool.or_true _
  have star := F.noStar
  simp only [checkBuiltinCall, F.newKind, F.newSplit, F.newRow]
  repeat (first
    | refine wpAny_loadPart_at hC ?_
    | (refine wpAny_isSubtype_exc hC ?_; rw [inB])
    | refine wpAny_staticBase_exc hC ?_
    | refine wpAny_madeBy_exc hC ?_
    | simp only [bne_self_eq_false, Bool.false_eq_true, if_false]
    | wp_step)
  exact hq
theorem kw_new (F : ExcBaseFacts B newId initId bmB) (hT : ∀ X : String, bm.contains (.type X) = bmB.contains (.type X))
    (hC : h.get? C = some (excClassObj nm q C N bs bm hdct sn sub ab col dd k0 k1 k2 k3 k5 newId))
    (hq : R (.ok (.ret (.ref (h.objs.size + 1)))) ⟨(h.push (W.kdv_tup [])).push (excO C h.objs.size), g, d, t, os⟩) :
    codeAny (model prog w) A (.builtin newId ⟨[.ref C], [(f, v)]⟩) R ⟨h, g, d, t, os⟩ := by
  have ends := F.ends
  have inB : (Value.ref C :: bm).contains (.type B) = true := by
    rw [List.contains_cons, hT, F.hasB]
    exact Bool.or_true _
  have noA : (Value.ref C :: bm).contains (.type "AttributeError") = false := by
    rw [List.contains_cons, hT, F.noAttr]
    exact rfl
  have noN : (Value.ref C :: bm).contains (.type "NameError") = false := by
    rw [List.contains_cons, hT, F.noName]
    exact rfl
  refine codeAny_builtinAt F.entry ?_
  unfold Builtin.«BaseException.__new__»
  refine wpAt_bind ?_
  show wpAt _ _ _ (stack >>= _) _ _ _
  refine wpAt_bind (wpAt_stack fun p below => wpAt_of_wpAny ?_)
  wp_walk
  refine wpAt_of_wpAny ?_
  rw [F.owner]
  repeat (first
    | with_reducible refine wpAny_madeHere_exc F.canon hC ?_
    | with_reducible refine wpAny_loadPart_at hC ?_
    | (with_reducible refine wpAny_isSubtype_exc hC ?_; first | rw [inB] | rw [noA] | rw [noN])
    | wp_step)
  show R _ _
  rw [Heap.size_push]
  exact hq
theorem kw_call {fI : Addr} (F : ExcBaseFacts B newId initId bmB) (hT : ∀ X : String, bm.contains (.type X) = bmB.contains (.type X))
    (hC : h.get? C = some (excClassObj nm q C N bs bm hdct sn sub ab col dd k0 k1 k2 k3 k5 newId))
    (hi : W.Looks (model prog w) h (typeLookup (.ref C) "__init__") (some (.ref fI)))
    (hb : ∀ self, W.Looks (model prog w) h (bindSpecial (.ref fI) self) (.ref fI, [self]))
    (hq : codeAny (model prog w) (A.under (.builtin "type.__call__" ⟨[.ref C], [(f, v)]⟩))
      (.call (.ref fI) ⟨[.ref (h.objs.size + 1)], [(f, v)]⟩) (W.InitBack (h.objs.size + 1) R)
      ⟨(h.push (W.kdv_tup [])).push (excO C h.objs.size), g, d, t, os⟩) :
    codeAny (model prog w) A (.call (.ref C) ⟨[], [(f, v)]⟩) R ⟨h, g, d, t, os⟩ := by
  have f1 := tc_lookup
  have f2 := tc_bind (.ref C)
  have hTy : (⟨h, g, d, t, os⟩ : Shared).TypeIs (.ref C) "type" := ⟨_, hC, rfl⟩
  refine codeAny_of_tree ?_
  show wpAny _ _ (callAny (.ref C) _) _ _ _
  repeat (any_goals (first
    | assumption
    | with_reducible refine wpAny_loadPart_at hC ?_
    | wp_step))
  refine ⟨rfl, ?_⟩
  refine codeAny_call_builtin_at (Code.quiet_builtin _ (by decide +kernel)) entry_typeCall ?_
  refine wpAny_check_type_call_sub hC ?_
  repeat (first
    | with_reducible refine wpAny_loadPart_at hC ?_
    | with_reducible refine wpAny_madeBy_exc hC ?_
    | wp_step)
  refine codeAny_call_builtin_code (Code.quiet_builtin _ F.quiet) (kw_check F hT hC ?_)
  refine kw_new F hT hC ?_
  show wpAny _ _ _ _ _ _
  have k : ∀ b o, h.get? b = some o → ((h.push (W.kdv_tup [])).push (excO C h.objs.size)).get? b = some o :=
    fun b o e => Heap.get?_push_of_some _ (Heap.get?_push_of_some _ e)
  have hC2 := k _ _ hC
  have at2 : ((h.push (W.kdv_tup [])).push (excO C h.objs.size)).get? (h.objs.size + 1) = some (excO C h.objs.size) := by
    heap_get
  have inC : (Value.ref C :: bm).contains (.ref C) = true := by simp
  have i1 := hi.keeps k
  have b1 := (hb (.ref (h.objs.size + 1))).keeps k
  unfold isInstance
  repeat (first
    | with_reducible refine wpAny_loadPart_at at2 ?_
    | (with_reducible refine wpAny_isSubtype_exc hC2 ?_; rw [inC])
    | wp_step)
  show wpAny _ _ (typeLookup (.ref C) _) _ _ _
  refine i1.at ?_
  refine wpAny_holding (wpAny_bind (b1.at ?_))
  refine wpAny_bind (wpAny_call (codeAny_mono hq fun r s' z => ?_))
  rcases r with e | (_ | _ | _ | _)
  all_goals (first | exact z | exact z.elim | skip)
  obtain ⟨rfl, z⟩ := z
  first
    | exact wpAny_pure (wpAny_pure z)
    | (wp_walk; done)
    | (wp_walk; exact z)
end
end VKX
set_option Elab.async false
set_option linter.all false
set_option maxRecDepth 100000
set_option maxHeartbeats 4000000
namespace VK
open PySem PySem.Spec PyProof.Rows L2
section
variable {X : Cx} {e : Expr} {te : TE} {p pos kpos : Pos}
def tErrK (sp : Sp) (C : Addr) (te : TE) : TE := fun σ H Q => tCons te tNil σ H fun vs H1 => ∃ y, vs = [y] ∧
  ∀ a, H1 a = none → sp [.ref a, y] (upd H1 a (exo a C none)) (fun v H2 => v = .non ∧ Q (.ref a) H2) fun _ _ _ => False
/-- C(f = e) -/
theorem pe_errK {CX : CXT} {x f self : Str} {C fI : Addr} {k : Nat} {fd : FuncData} {sp : Sp}
    (T : OexC X.K C) (iC : PySem.W.findIn X.K (.ref C) "__init__" = some (some (.ref fI)))
    (tI : PySem.W.typeIn X.K (.ref fI) = some (.type "function"))
    (F1 : FnOk X.prog X.w X.K X.mg X.base CX k fI fd [self, f] sp) (hr : Room (k + 1) X.A)
    (hb : ∀ (s : Shared) (u v : Value), BindsTo s fd ⟨[u], [(f, v)]⟩ [(self, u), (f, v)])
    (hx : Passes CX X (fun _ _ _ => False)) (hg : Gl X x) (hm : X.mg x = some (.ref C)) (he : PE X e te)
    (hdb : (x == ("__debug__" : Str)) = false := by decide)
    (hall : (backToKw pos (keywordEach [⟨some f, e, kpos⟩] X.env)).all (·.1.isSome) = true := by rfl)
    (hks : (backToKw pos (keywordEach [⟨some f, e, kpos⟩] X.env)).filterMap (·.1) = [f] := by rfl)
    (hpl : ((backTo pos (starEach [] X.env)).any (·.1) || (backToKw pos (keywordEach [⟨some f, e, kpos⟩] X.env)).any (·.1.isNone)) = false := by rfl) :
    PE X (.Call (.Name x p) [] [⟨some f, e, kpos⟩] pos) (tErrK sp C te) := by
  refine ⟨fun pins s σ H Q I h => ?_⟩
  obtain ⟨nm, q, N, bs, bm, sn, sub, ab, col, dd, k0, k1, k2, k3, k5, hC, hbm⟩ := T.cls
  refine wpAny_Call_Name_kw (ld_glob I hg hm ?_ hdb)
  refine PySem.W.callWith_KW0 (h₀ := X.base) I.ok.mod.kin T.kC hall ?_ hpl
  rw [hks]
  refine thn ((pk_cons he pk_nil).run pos pins s σ H _ I h) fun us s1 ha1 => ?_
  obtain ⟨vs, H1, I1, r1, y, ey, q1⟩ := ha1
  subst ey
  obtain ⟨u, rfl, ru⟩ := vals1 r1
  refine ⟨I1.kIn, ?_⟩
  show wpAny _ _ (call (.ref C) [] [(f, u)]) _ _ _
  obtain ⟨hp, g, dr, tk, os⟩ := s1
  generalize hA : hp.objs.size + 1 = aa at *
  have hle : hp.objs.size ≤ aa := by omega
  have hnew : H1 aa = none := I1.hok.fresh hle
  have want := q1 aa hnew
  have keepAll : ∀ b o, hp.get? b = some o →
      ((hp.push (PySem.W.kdv_tup [])).push (PySem.HandSPX.excO C hp.objs.size)).get? b = some o :=
    fun b o e => Heap.get?_push_of_some _ (Heap.get?_push_of_some _ e)
  have at2 : ((hp.push (PySem.W.kdv_tup [])).push (PySem.HandSPX.excO C hp.objs.size)).get? aa =
      some (PySem.HandSPX.excO C hp.objs.size) := by
    subst hA
    heap_get
  have I2 : Inv X pins σ (upd H1 aa (exo aa C none))
      ⟨(hp.push (PySem.W.kdv_tup [])).push (PySem.HandSPX.excO C hp.objs.size), g, dr, tk, os⟩ :=
    I1.laid (t' := tk) (o := exo aa C none) keepAll hle (exo_ok at2)
  have r2 : Vals [V.ref aa, y] [Value.ref aa, u] := .cons rfl (.cons ru .nil)
  subst hA
  refine wpAny_call (VKX.kw_call F.excBase_ValueError
    (fun Y => PySem.HandSPX.refsVE_contains Y bm hbm) (I1.kIn _ _ hC) (PySem.W.looks_findIn I1.kIn iC)
    (fun self => PySem.W.bind_fn I1.kIn self tI) ?_)
  refine codeAny_mono (F1.run _ X.stack _ _ ⟨[_], [(f, u)]⟩ [_, u] _ _ (fun _ _ _ => False)
    (hr.make C [] [(f, u)]) (I2.env0.make C [] [(f, u)]) (hb _ _ u) r2 want) fun r s' hq' => ?_
  cases r with
  | error er => exact hx pins σ _ _ er s' I2 hq'
  | ok fl =>
    cases fl with
    | ret u =>
      obtain ⟨v, H2, I3, rv, ev, q2⟩ := I2.after hq'
      subst ev
      exact ⟨rv, .ref _, H2, I3, rfl, q2⟩
    | next => exact hq'.elim
    | brk => exact hq'.elim
    | cont => exact hq'.elim
end
end VK
set_option Elab.async false
set_option linter.all false
set_option maxRecDepth 100000
set_option maxHeartbeats 4000000
/-! a def that is run at the caller's own place alone: there no repr runs (the guards are known) -/
namespace VK
open PySem PySem.Spec PyProof.Rows L2
/-- a def's run at one place -/
def RunAt (P : Program) (w : World) (K : PySem.W.Frag) (mg : Str → Option Value) (base : Heap) (A : Around) (f : Addr) (fd : FuncData) (ps : List Str) (sp : Sp) : Prop :=
  ∀ (outer : List Env) (s : Shared) (H : Hp) (args : Args) (us : List Value) (vs : List V) (Q : VK) (E : XK), Env0 P w K mg base A outer s H → BindsTo s fd args (ps.zip us) → Vals vs us → sp vs H Q E →
    codeAny (model P w) A (.call (.ref f) args) (CR CX0 outer P w H s Q E) s
section
variable {P : Program} {w : World} {K : PySem.W.Frag} {mg : Str → Option Value} {base : Heap}
theorem runAt_of {x qual : Str} {st : Stmt} {f : Addr} {fd : FuncData} {N ps : List Str} {k : Nat} {sp : Sp} {A : Around}
    (F : Fun K x qual st f fd) (S : FnScope N ps (defScope st)) (len : ∀ vs H Q E, sp vs H Q E → vs.length = ps.length) (hr : Room (k + 1) A)
    (hbody : ∀ (cdv : Value) (outer : List Env) (s : Shared) (H : Hp) (vs : List V) (Q : VK) (E : XK), Room k (A.deeper (envOfC qual (defScope st) s.heap.objs.size f cdv)) → sp vs H Q E →
      ∃ t, PSs (cxOf CX0 P w K mg base N qual (defScope st) f cdv A outer s H E).nox (defBody st) t ∧ t { nx := fun _ H' => Q .non H', rt := Q } (start N vs) H) :
    RunAt P w K mg base A f fd ps sp := by
  obtain ⟨oc, od, kV, doc, pm, an, cdv, ct, osl, rfl, lk, hcd⟩ := F.ex
  intro outer s H args us vs Q E e0 hb r hsp
  have hl := len _ _ _ _ hsp
  have stay : ∀ b o, base.get? b = some o → s.heap.get? b = some o := fun b o e => (e0.bs b o e).1
  have KX : K.In s.heap := e0.mod.kin.keeps stay
  have lim : s.heap.NoLimit := e0.mod.nolimit.keeps stay
  have places : ∀ y ∈ ps.zip us, (defScope st).names.lookup y.1 = some .local ∨
      ((defScope st).names.lookup y.1 = some .cell ∧ ((cellsFrom (s.heap.objs.size + 1) (defScope st).names []).lookup y.1).isSome = true) := by
    rintro ⟨n, v⟩ hy
    rcases S.par n (List.of_mem_zip hy).1 with q | q
    · exact .inl q
    · exact .inr ⟨q, PySem.W.cellsFrom_some _ _ _ (.inl q)⟩
  refine codeAny_call_function hr.depth (KX _ _ lk) rfl S.co S.gen rfl (PySem.W.codeRec_of KX hcd) (hb _ _ _ _ ?_)
  refine wpAny_newFunctionEnv_cells S.kind places fun env he s1 x => ?_
  subst he
  refine ⟨lim.keeps x.toInCall.keep, codeAny_func ?_⟩
  obtain ⟨t, ht, hq⟩ := hbody cdv outer s H vs Q E (hr.deeper _) hsp
  have I : Inv (cxOf CX0 P w K mg base N qual (defScope st) f cdv A outer s H E) [] (start N vs) H s1 := inv_start S hr.hd e0 hl r x
  refine wpAny_mono (ht.nox.run [] s1 (start N vs) H _ I hq) (fun fl s' hs => ?_) fun e s' hs => hs
  cases fl with
  | ret u =>
    obtain ⟨v, σ', H', J, rv, q⟩ := hs
    exact ⟨v, H', J.os, J.bare, J.base, J.hok, rv, q⟩
  | next =>
    obtain ⟨σ', H', J, q⟩ := hs
    exact ⟨.non, H', J.os, J.bare, J.base, J.hok, rfl, q⟩
  | brk =>
    obtain ⟨_, _, _, q⟩ := hs
    exact q.elim
  | cont =>
    obtain ⟨_, _, _, q⟩ := hs
    exact q.elim
/-- the law's call -/
theorem law_at {mb : Str → Option Value} {fa a : Addr} {fd : FuncData} {x : Str} {sp : Sp} {s₁ : Shared} {vs : List Value} {ns : List Int}
    (KX : K.In s₁.heap) (hns : s₁.heap.Ns mainGlobals mg) (hb : s₁.heap.Ns builtinsNs mb) (hbb : ∀ x : Str, x ≠ "__name__" → mb x = bootBuiltins x) (hlim : s₁.heap.NoLimit) (hg : s₁.gens = #[])
    (ha : s₁.heap.get? a = some { cls := .type "list", data := .seq vs.toArray }) (hi : IntsAre vs ns) (hl : ns.length ≤ sizeLine)
    (F : ∀ base : Heap, K.In base → base.Ns mainGlobals mg → RunAt P w K mg base callerA fa fd [x] sp) (hbind : ∀ (s : Shared) (u : Value), BindsTo s fd ⟨[u], []⟩ [(x, u)])
    (hsp : ∀ H : Hp, Only H → SqL K H a (ns.map V.int) → sp [.ref a] H (fun v _ => v = .bl true) fun _ _ _ => False) :
    codeAny (model P w) callerA (.call (.ref fa) ⟨[.ref a], []⟩) (fun r s' => r = .ok (.ret (.bool true)) ∧ OldK s₁.heap s'.heap ∧ s'.os = s₁.os ∧ AllBare s'.gens) s₁ := by
  have rv := vals_ints hi
  have same := hi.length
  have core : ∀ H : Hp, Only H → SqL K H a (ns.map V.int) → HOk P w H s₁.heap → (∀ b, H b ≠ none → b = a) → (H a ≠ none → K.lookup a = none) →
      codeAny (model P w) callerA (.call (.ref fa) ⟨[.ref a], []⟩) (fun r s' => r = .ok (.ret (.bool true)) ∧ OldK s₁.heap s'.heap ∧ s'.os = s₁.os ∧ AllBare s'.gens) s₁ := by
    intro H only seq hok alone own
    have isDict : ∀ {b : Addr} {o : Obj} {es : Array DictEntry} {ep : Nat}, s₁.heap.get? b = some o → o.data = .dict es ep → H b = none := by
      intro b o es ep e d
      cases q : H b with
      | none => rfl
      | some u =>
        have e2 : b = a := alone b (by rw [q]; exact fun z => nomatch z)
        subst e2
        rw [ha] at e
        cases e
        cases (show Data.seq vs.toArray _ = Data.dict es ep from d)
    have nsK : ∀ {b : Addr} {m : Str → Option Value}, s₁.heap.Ns b m → (hidT s₁.heap H).Ns b m := by
      rintro b m ⟨o, es, ep, e, d, r⟩
      exact ⟨o, es, ep, hidT_get e (isDict e d), d, r⟩
    have kin : K.In (hidT s₁.heap H) := by
      intro b o e
      refine hidT_get (KX b o e) ?_
      cases q : H b with
      | none => rfl
      | some u =>
        have some2 : H b ≠ none := by rw [q]; exact fun z => nomatch z
        have e2 : b = a := alone b some2
        subst e2
        rw [own some2] at e
        cases e
    obtain ⟨mc, l1, l2⟩ := hlim
    have hM : Mod K mg (hidT s₁.heap H) := ⟨kin, nsK hns, ⟨mb, nsK hb, hbb⟩, mc, nsK l1, l2⟩
    have noEnv : frs ([] : List Env) = [] := rfl
    have e0 : Env0 P w K mg (hidT s₁.heap H) callerA [] s₁ H :=
      ⟨rfl, hM, fun b o e => of_hidT e, Nat.le_of_eq (hidT_size _ _), trivial, fun b hb => (by rw [noEnv] at hb; cases hb), hok, .of_eq hg⟩
    refine codeAny_mono (F _ kin (nsK hns) [] s₁ H ⟨[.ref a], []⟩ [.ref a] [.ref a] _ _ e0 (hbind s₁ (.ref a)) (.cons rfl .nil) (hsp H only seq)) fun r s' h => ?_
    cases r with
    | error e => exact False.elim h
    | ok fl =>
      cases fl with
      | next => exact False.elim h
      | brk => exact False.elim h
      | cont => exact False.elim h
      | ret u =>
        obtain ⟨v, H', os, bare, un, hok2, r2, q⟩ := h
        have q2 : v = .bl true := q
        subst q2
        obtain rfl : u = Value.bool true := r2
        refine ⟨rfl, OldK.of_keep fun b o e => ?_, os, bare⟩
        cases q : H b with
        | none => exact un.keep b o e q (by rw [noEnv]; exact fun z => nomatch z) (fun z => nomatch z)
        | some u =>
          rcases only b with z | ⟨ob, xs, z⟩
          · rw [q] at z
            cases z
          · obtain ⟨e1, _⟩ := hok b _ z
            obtain ⟨e2, _⟩ := hok2 b _ (un.frzs b ob _ z)
            rw [e] at e1
            cases e1
            exact e2
  cases hk : K.lookup a with
  | some o =>
    have e := KX a o hk
    rw [ha] at e
    cases e
    refine core (fun _ => none) (fun _ => .inl rfl) (.inr ⟨_, vs.toArray, _, hk, rfl, rfl, rfl, ?_, ?_⟩) (fun b u z => ?_) (fun b z => absurd rfl z) fun z => absurd rfl z
    · rw [List.size_toArray, same]
      exact hl
    · simpa using rv
    · cases (show (none : Option HO) = some u from z)
  | none =>
    refine core (fun b => if b = a then some (.frz { cls := .type "list", data := .seq vs.toArray } (.lst (ns.map V.int))) else none) (fun b => ?_) (.inl (.inr ⟨_, if_pos rfl⟩)) (fun b u z => ?_) (fun b z => ?_) fun _ => hk
    · by_cases hb : b = a
      · exact .inr ⟨_, _, if_pos hb⟩
      · exact .inl (if_neg hb)
    · by_cases hb : b = a
      · cases ((if_pos hb).symm.trans z)
        subst hb
        exact ⟨ha, by rw [List.length_map]; exact hl, vs, _, rv, ha⟩
      · cases ((if_neg hb).symm.trans z)
    · by_cases hb : b = a
      · exact hb
      · exact absurd (if_neg hb) z
end
/-- the goal that the head leaves, with the script's bits -/
theorem walk_at {l : PySem.W.OpenLaw} {n : Nat} {q : Program} {loose : List Str} {XP : (Str → Option Value) → Heap → Prop} {YP : World → Heap → Prop} {d : DefRec} {K : Params → PySem.W.Frag} {sp : World → Sp} {x : Str}
    (hn : l.most = some n) (hn2 : n ≤ sizeLine) (hdf : d.params.defaults = [])
    (hY : ∀ (w : World) (h : Heap), YP w h → (K w.params).In h)
    (F : ∀ (w : World) (mg : Str → Option Value) (fa : Addr) (h : Heap), (K w.params).In h → h.Ns mainGlobals mg → mg d.name = some (.ref fa) →
      ∃ fd : FuncData, (∀ (s : Shared) (u : Value), BindsTo s fd ⟨[u], []⟩ [(x, u)]) ∧
        ∀ base : Heap, (K w.params).In base → base.Ns mainGlobals mg → RunAt l.prog w (K w.params) mg base callerA fa fd [x] (sp w))
    (hsp : ∀ (w : World) (H : Hp) (a : Addr) (ns : List Int), ns.length ≤ n → (∀ z ∈ ns, Builtin.Int.intBits z ≤ 1048576) → Only H → SqL (K w.params) H a (ns.map V.int) → sp w [.ref a] H (fun v _ => v = .bl true) fun _ _ _ => False) :
    PySem.W.WalkO q loose XP YP l.row.toRowW d [] (fun f vs => PySem.call f vs) := by
  refine Att.attach_callB hn hdf fun w s₀ s₁ mg mb fa o pm cd doc a vs ns G Y ho hd hcd hmg hobj hints hlen hbits hg => ?_
  have KX := hY w _ Y
  obtain ⟨fd, hb, hF⟩ := F w mg fa _ KX G.T.g hmg
  exact law_at KX G.T.g G.T.b G.T.builtins G.T.nolimit hg hobj hints (Nat.le_trans hlen hn2) hF hb fun H hO hS => hsp w H a ns hlen hbits hO hS
end VK
set_option Elab.async false
set_option linter.all false
set_option maxRecDepth 100000
set_option maxHeartbeats 4000000
/-! a def called where the guards are known -/
namespace VK
open PySem PySem.Spec PyProof.Rows L2
/-- a def's promise wherever no repr runs -/
def RunG (P : Program) (w : World) (K : PySem.W.Frag) (mg : Str → Option Value) (base : Heap) (k : Nat) (f : Addr) (fd : FuncData) (ps : List Str) (sp : Sp) : Prop :=
  (∀ vs H Q E, sp vs H Q E → vs.length = ps.length) ∧ ∀ A : Around, A.guards = some [] → Room k A → RunAt P w K mg base A f fd ps sp
section
variable {X : Cx} {k : Nat} {f : Addr} {fd : FuncData} {ps : List Str} {sp : Sp} {x : Str} {p pos : Pos} {e : Expr} {es : List Expr} {t : TA}
def tCallG (sp : Sp) (t : TA) : TE := fun σ H Q => t σ H fun vs H1 => sp vs H1 Q E0
theorem pe_callG (F : RunG X.prog X.w X.K X.mg X.base k f fd ps sp) (hg : X.A.guards = some []) (hr : Room k X.A) (gl : Gl X x) (hm : X.mg x = some (.ref f)) (hk : PySem.W.keepIn X.K (.ref f) = true) (hb : Binds X.K fd ps []) (ha : PA X (e :: es) t)
    (hdb : (x == ("__debug__" : Str)) = false := by decide) (h1 : starEach (e :: es) X.env = (false, eval e X.env) :: starEach es X.env := by rfl) (h2 : (backTo pos (starEach es X.env)).any (·.1) = false := by rfl) :
    PE X (.Call (.Name x p) (e :: es) [] pos) (tCallG sp t) := by
  refine ⟨fun pins s σ H Q I h => wpAny_Call_Name_kw (ld_glob I gl hm (PySem.W.callWith_K (h₀ := X.base) I.ok.mod.kin hk (thn (ha.run pos pins s σ H _ I h) fun us s1 hh => ?_) h1 h2) hdb)⟩
  obtain ⟨vs, H1, I1, r, q⟩ := hh
  refine ⟨I1.kIn, ?_⟩
  have hl : us.length = ps.length := by rw [← r.length]; exact F.1 _ _ _ _ q
  have b := hb s1 us I1.kIn (by rw [List.append_nil]; exact hl)
  rw [List.append_nil] at b
  refine wpAny_call (codeAny_mono (F.2 X.A hg hr X.stack s1 H1 ⟨us, []⟩ us vs Q E0 I1.env0 b r q) fun res s' hq => ?_)
  cases res with
  | error er => exact False.elim hq
  | ok fl =>
    cases fl with
    | ret u => exact I1.after hq
    | next => exact False.elim hq
    | brk => exact False.elim hq
    | cont => exact False.elim hq
end
section
variable {P : Program} {w : World} {K : PySem.W.Frag} {mg : Str → Option Value} {base : Heap}
theorem runG_of {x qual : Str} {st : Stmt} {f : Addr} {fd : FuncData} {N ps : List Str} {k : Nat} {sp : Sp} (F : Fun K x qual st f fd) (S : FnScope N ps (defScope st)) (len : ∀ vs H Q E, sp vs H Q E → vs.length = ps.length)
    (hbody : ∀ (A : Around) (cdv : Value) (outer : List Env) (s : Shared) (H : Hp) (vs : List V) (Q : VK) (E : XK), A.guards = some [] → Room k (A.deeper (envOfC qual (defScope st) s.heap.objs.size f cdv)) → sp vs H Q E →
      ∃ t, PSs (cxOf CX0 P w K mg base N qual (defScope st) f cdv A outer s H E).nox (defBody st) t ∧ t { nx := fun _ H' => Q .non H', rt := Q } (start N vs) H) : RunG P w K mg base (k + 1) f fd ps sp :=
  ⟨len, fun A hg hr => runAt_of F S len hr fun cdv outer s H vs Q E hr2 h => hbody A cdv outer s H vs Q E hg hr2 h⟩
end
end VK
set_option Elab.async false
set_option linter.all false
set_option maxRecDepth 100000
set_option maxHeartbeats 4000000
/-! enumerate of a tuple -/
namespace VK
open PySem PySem.Spec PyProof.Rows L2
section
open AutoSeq1 (wpAny_loadPart')
theorem new_enumT (a : Addr) (xs : Array Value) (n : Nat) (dd : Option Addr) (sl : Array (Option Value)) :
    Meets (Builtin.«enumerate.__new__» ⟨[.type "enumerate", .ref a], []⟩) (fun _ R s => s.heap.get? a = some { cls := .type "tuple", dict := dd, data := .seq xs n, slots := sl } ∧
      R (.ok (.ret (.ref (s.heap.push { cls := .type "tuple_iterator", data := .fields #[.ref a, .int 0 0] }).objs.size)))
        { s with heap := (s.heap.push { cls := .type "tuple_iterator", data := .fields #[.ref a, .int 0 0] }).push { cls := .type "enumerate", data := .fields #[.none, .bool false, .ref s.heap.objs.size, rawInt 0, .none, .none] } }) :=
  .of_wp fun prog w A R s h => by
    obtain ⟨hp, gs, dr, tk, os⟩ := s
    obtain ⟨ha, h⟩ := h
    have sub := sub_enumerate
    have hT : Heap.IsTuple (Shared.heap ⟨hp, gs, dr, tk, os⟩) a xs := ⟨_, ha, rfl, n, rfl⟩
    wp_walk using wpAny_loadPart' ha
    refine wpAny_stack_any fun below => wpAny_pure ?_
    split
    · rename_i c _ _ _ _ _
      cases (c == Value.type "enumerate") <;> (wp_walk using wpAny_loadPart' ha, wpAny_pyIter_tuple hT; exact ⟨_, rfl, h⟩)
    · wp_walk using wpAny_loadPart' ha, wpAny_pyIter_tuple hT
      exact ⟨_, rfl, h⟩
end
section
variable {prog : Program} {w : World} {A : Around} {E : Value → Shared → Prop} {s : Shared}
theorem call_enumT {a : Addr} {xs : Array Value} {Q : Value → Shared → Prop} (hT : s.heap.IsTuple a xs)
    (h : ∀ h', IsEnum h' (s.heap.objs.size + 1) s.heap.objs.size 0 .none → h'.IsTupleIter s.heap.objs.size a 0 →
      (∀ b o, s.heap.get? b = some o → h'.get? b = some o) → Q (.ref (s.heap.objs.size + 1)) { s with heap := h' }) :
    wpAny (model prog w) A (call (.type "enumerate") [.ref a]) Q E s := by
  obtain ⟨⟨cl, dd, dt, sl⟩, ha, hc, n, hd⟩ := hT
  cases (show cl = .type "tuple" from hc)
  cases (show dt = .seq xs n from hd)
  refine callType_new F.called_enumerate (by decide) (F.typeCall_enumerate_1 _) (F.newCall_enumerate_1 _) (fun ob => F.args_object_init_2 ob _) F.entry_enumerate_new (new_enumT a xs n dd sl) ⟨ha, ?_⟩
  generalize hI : s.heap.push { cls := .type "tuple_iterator", data := .fields #[.ref a, .int 0 0] } = hp1
  have z1 : hp1.objs.size = s.heap.objs.size + 1 := by rw [← hI, Heap.size_push]
  have k1 : ∀ b o, s.heap.get? b = some o → hp1.get? b = some o := fun b o e => by
    rw [← hI]
    exact Heap.get?_push_of_some _ e
  have it1 : hp1.get? s.heap.objs.size = some { cls := .type "tuple_iterator", data := .fields #[.ref a, .int 0 0] } := by
    rw [← hI]
    exact Heap.get?_push_size _ rfl
  have en := Heap.get?_push_size hp1 (o := { cls := .type "enumerate", data := .fields #[.none, .bool false, .ref s.heap.objs.size, rawInt 0, .none, .none] }) rfl
  show _ ∧ _
  rw [z1] at en ⊢
  exact ⟨⟨_, en, rfl⟩, h _ en ⟨_, Heap.get?_push_of_some _ it1, rfl, rfl⟩ fun b o e => Heap.get?_push_of_some _ (k1 b o e)⟩
end
/-- the tuple at a, each item in a new pair with its place -/
def IteT (K : PySem.W.Frag) (a : Addr) : It where
  go := fun i H => ∃ (xs : List V) (x : V), SqT K H a xs ∧ xs[i]? = some x
  yld := fun i H v H' => ∃ T x, v = .ref T ∧ H T = none ∧ H' = upd H T (.tup [.int (i : Nat), x]) ∧ ∀ xs, SqT K H a xs → xs[i]? = some x
  stop := fun i H => ∃ xs : List V, SqT K H a xs ∧ xs.length = i
theorem turn_enumT {P : Program} {w : World} {K : PySem.W.Frag} {elts : List Expr} {kk : Nat} {tpos : Pos} (a e it : Addr) :
    Turn P w K (.Tuple elts kk tpos) (IteT K a) [e, it] e (fun i h => (∃ old, IsEnum h e it ((i : Nat) : Int) old) ∧ h.IsTupleIter it a i ∧ e ≠ it) where
  mem := List.mem_cons_self
  obj := by
    rintro i h ⟨⟨old, he⟩, ⟨o, ho, hc, hd⟩, _⟩ b hb
    rcases List.mem_cons.mp hb with z | hb
    · subst z
      exact ⟨_, he, fun v q => nomatch q⟩
    · exact ⟨o, by rw [List.mem_singleton.mp hb]; exact ho, fun v q => by rw [hd] at q; cases q⟩
  keep := by
    rintro i h h' ⟨⟨old, he⟩, hi, hne⟩ k
    exact ⟨⟨old, k e List.mem_cons_self _ he⟩, hi.at fun o q => k it (List.mem_cons_of_mem _ List.mem_cons_self) o q, hne⟩
  item := by
    intro X hP hw hK hc i pins s σ H E I hf st hg
    subst hP hw hK
    obtain ⟨⟨old, he⟩, hit, hne⟩ := st
    obtain ⟨xs, x, hq, hx⟩ := hg
    obtain ⟨its, rv, p, hz⟩ := I.tuple hq
    obtain ⟨u, hu, ru⟩ := rv.get hx
    have hel : e < s.heap.objs.size := Heap.lt_size he
    have hil : it < s.heap.objs.size := by
      obtain ⟨_, q, _⟩ := hit
      exact Heap.lt_size q
    have nit : a ≠ it := by
      rintro rfl
      obtain ⟨o1, e1, c1, _⟩ := hit
      obtain ⟨o2, e2, c2, _⟩ := p
      rw [e1] at e2
      cases e2
      rw [c1] at c2
      injection c2 with c3
      exact absurd c3 (by decide)
    have nea : e ≠ a := by
      rintro rfl
      obtain ⟨o2, e2, c2, _⟩ := p
      rw [he] at e2
      cases e2
      injection c2 with c3
      exact absurd c3 (by decide)
    have hlt : i < its.toArray.size := by
      have h1 := (List.getElem?_eq_some_iff.mp hu).1
      rw [List.size_toArray]
      exact h1
    refine wpAny_pyNext_enum_itemD (Draws.tuple (A := X.A.in1) (I.ok.hd hc) it a nit its.toArray) he ⟨hit, p⟩ hlt hne (fun hm => ?_) fun x' h' tk hx' ho st' hT hsz hk => ?_
    · rcases List.mem_cons.mp hm with z | z
      · exact hne z
      · exact nea (List.mem_singleton.mp z)
    have ux : x' = u := by
      have h1 : its.toArray[i]? = some u := by rw [List.getElem?_toArray]; exact hu
      rw [hx'] at h1
      exact Option.some.inj h1
    subst ux
    refine ⟨_, rfl, wpAny_letOwnedTupleGo_enum (s := { s with heap := h', toks := tk + 1 }) ho fun h2 he' sb => ?_⟩
    have hT2 : h2.get? s.heap.objs.size = some { cls := .type "tuple", data := .seq #[.int i tk, x'] } := (sb.2 _ (Nat.ne_of_gt hel)).trans hT
    have new : ObjOk X.prog X.w (upd H s.heap.objs.size (.tup [.int (i : Nat), x])) h2 s.heap.objs.size (.tup [.int (i : Nat), x]) :=
      ⟨by show 2 ≤ sizeLine; decide, [.int i tk, x'], .cons ⟨_, rfl⟩ (.cons ru .nil), ⟨_, hT2, rfl, _, rfl⟩⟩
    have old' : ∀ b o, b ∉ [e, it] → s.heap.get? b = some o → h2.get? b = some o := fun b o hb q => by
      have be : b ≠ e := fun z => hb (by rw [z]; exact List.mem_cons_self)
      have bi : b ≠ it := fun z => hb (by rw [z]; exact List.mem_cons_of_mem _ List.mem_cons_self)
      exact (sb.2 b be).trans (hk b o be bi q)
    have I1 := I.turnedNew (t' := tk + 1) (ch := [e, it]) old' hf (Nat.le_refl _) new
    refine ⟨.ref s.heap.objs.size, _, I1, rfl, ⟨_, x, rfl, I.hok.fresh (Nat.le_refl _), rfl, fun ys hy => by rw [I.tuple_inj hy hq]; exact hx⟩, ⟨⟨x', ?_⟩, st'.1.at fun o q => (sb.2 it (Ne.symm hne)).trans q, hne⟩, fun b hb => ?_⟩
    · rw [show ((i + 1 : Nat) : Int) = (i : Int) + 1 from by omega]
      exact he'
    · have lt : b < s.heap.objs.size := by
        rcases List.mem_cons.mp hb with z | z
        · rw [z]; exact hel
        · rw [List.mem_singleton.mp z]; exact hil
      rw [upd_ne (Nat.ne_of_lt lt)]
      exact (hf b hb).1
  done := by
    intro X hP hw hK hc i pins s σ H E I hf st hg
    subst hP hw hK
    obtain ⟨⟨old, he⟩, hit, hne⟩ := st
    obtain ⟨xs, hq, hx⟩ := hg
    obtain ⟨its, rv, p, hz⟩ := I.tuple hq
    obtain ⟨f0, f1, f2, f3, f4, f5⟩ := hf it (List.mem_cons_of_mem _ List.mem_cons_self)
    have nit : a ≠ it := by
      rintro rfl
      obtain ⟨o1, e1, c1, _⟩ := hit
      obtain ⟨o2, e2, c2, _⟩ := p
      rw [e1] at e2
      cases e2
      rw [c1] at c2
      injection c2 with c3
      exact absurd c3 (by decide)
    have len : its.toArray.size = i := by rw [List.size_toArray, ← rv.length]; exact hx
    subst len
    exact wpAny_pyNext_enum_endD (Draws.tuple (A := X.A.in1) (I.ok.hd hc) it a nit its.toArray) he ⟨hit, p⟩ fun h' eb =>
      ⟨rfl, I.turned (t' := s.toks) (fun b o hb q => eb b o hb q) f0 f1 f3 f4 f5⟩
  self := fun A i s Q E st h => wpAny_pyIter_enum st.1.choose_spec h
/-- enumerate of a list or a tuple -/
def iEnumA (K : PySem.W.Frag) (ta : TA) : TI := fun σ H R => ta σ H fun vs H1 => ∃ a xs, vs = [.ref a] ∧ ∃ J : It, ((SqL K H1 a xs ∧ J = Ite K a) ∨ (SqT K H1 a xs ∧ J = IteT K a)) ∧ R J H1
theorem pi_enumA {X : Cx} {e : Expr} {ta : TA} {p pos tpos : Pos} {elts : List Expr} {kk : Nat} (hg : Gl X "enumerate") (hm : X.mg "enumerate" = none) (ha : PA X [e] ta)
    (hs : starEach [e] X.env = [(false, eval e X.env)] := by rfl) : PI X (.Tuple elts kk tpos) (.Call (.Name "enumerate" p) [e] [] pos) (iEnumA X.K ta) := by
  refine ⟨fun pins s σ H R I h => Call_ (ld_blt I hg hm boot_enumerate (PyProof.Rows.callWith_type1 (thn (ha.run pos pins s σ H _ I h) fun us s1 hh => ?_) hs rfl))⟩
  obtain ⟨vs, H1, I1, r1, a, xs, rfl, J, q1, q⟩ := hh
  cases r1 with
  | cons r rr =>
    cases rr
    cases r
    have fr : ∀ b, b ∈ [s1.heap.objs.size + 1, s1.heap.objs.size] → FpOk X pins H1 b := fun b hb => by
      have le : s1.heap.objs.size ≤ b := by
        rcases List.mem_cons.mp hb with z | z
        · rw [z]; exact Nat.le_succ _
        · rw [List.mem_singleton.mp z]; exact Nat.le_refl _
      exact I1.fpOk le (I1.hok.fresh le)
    rcases q1 with ⟨hq, rfl⟩ | ⟨hq, rfl⟩
    · obtain ⟨its, rv, p', hz⟩ := I1.list hq
      refine call_enumerate_list p'.isList fun h' he hit hsz hk => wpAny_pyIter_enum he ?_
      exact ⟨_, _, _, _, H1, rfl, I1.kept (t' := s1.toks) hk, turn_enum a _ _, ⟨⟨.none, he⟩, hit, Nat.succ_ne_self _⟩, fr, q⟩
    · obtain ⟨its, rv, p', hz⟩ := I1.tuple hq
      refine call_enumT p' fun h' he hit hk => wpAny_pyIter_enum he ?_
      exact ⟨_, _, _, _, H1, rfl, I1.kept (t' := s1.toks) hk, turn_enumT a _ _, ⟨⟨.none, he⟩, hit, Nat.succ_ne_self _⟩, fr, q⟩
theorem walk_enumT {K : PySem.W.Frag} {a : Addr} {xs : List V} : Walk (IteT K a) xs.length (fun H => SqT K H a xs) (YPair (fun i => some (.int (i : Nat))) (fun i => xs[i]?)) := by
  refine ⟨fun i _ hi q => ⟨xs, xs[i], q, List.getElem?_eq_getElem hi⟩, fun _ q => ⟨xs, q, rfl⟩, fun i H v H' _ q y => ?_⟩
  obtain ⟨T, x, h1, h2, h3, h4⟩ := y
  exact ⟨T, .int (i : Nat), x, h1, h2, h3, rfl, h4 xs q⟩
end VK
set_option Elab.async false
set_option linter.all false
set_option maxRecDepth 100000
set_option maxHeartbeats 4000000
/-! list.extend by a tuple -/
namespace VK
open PySem PySem.Spec PyProof.Rows L2
section
open AutoSeq1
theorem ext_meets (l : Addr) (its : Array Value) (n : Nat) (b : Addr) (ys : Array Value) (n2 : Nat) (dd : Option Addr) (sl : Array (Option Value))
    (h0 : ¬(!its.isEmpty && Builtin.List.listTooLong (its.size + ys.size)) = true) (h1 : its.size ≤ sizeLine) (h2 : its.size + ys.size ≤ sizeLine + 1) :
    Meets (Builtin.«list.extend» ⟨[.ref l, .ref b], []⟩) (fun _ R s => s.heap.get? l = some { cls := .type "list", dict := none, data := .seq its n, slots := #[] } ∧
      s.heap.get? b = some { cls := .type "tuple", dict := dd, data := .seq ys n2, slots := sl } ∧ R (.ok (.ret Value.none)) { s with heap := s.heap.update l (Obj.mapSeq fun x => x ++ ys), toks := s.toks }) :=
  .of_wp fun prog w A R s h => by
    obtain ⟨hp, gs, dr, tk, os⟩ := s
    obtain ⟨hl, hb, h⟩ := h
    have g1 := idx_int
    have g2 := AutoSeq1.sub_tuple_tuple
    have g3 := AutoSeq1.sub_list_list
    have g4 := AutoSeq1.sub_tuple_list
    have g5 := AutoSeq1.sub_list_tuple
    have hz : (its ++ ys).size ≤ sizeLine + 1 := by rw [Array.size_append]; exact h2
    wp_walk using (wpAny_updateSeq hl rfl (hz := h1) (_hz' := hz)), wpAny_loadPart' hl, wpAny_loadPart' hb
    exact ⟨_, rfl, h⟩
end
def rExtT (K : PySem.W.Frag) : V → List V → Hp → VK → Prop := fun x vs H Q => ∃ l b xs zs, x = .ref l ∧ vs = [.ref b] ∧ H l = some (.lst xs) ∧ SqT K H b zs ∧ xs.length + zs.length ≤ sizeLine ∧ Q .non (upd H l (.lst (xs ++ zs)))
theorem mt_extT {X : Cx} : MtM X "list.extend" (rExtT X.K) := by
  intro pins s σ H x vs v us Q I rx rv h
  obtain ⟨l, b, xs, zs, rfl, rfl, hH, hB, hz, q⟩ := h
  cases rx
  obtain ⟨u, rfl, ru⟩ := rv.one
  cases ru
  obtain ⟨z, its, n, r, hl, e⟩ := I.lstM hH
  obtain ⟨ys, r2, ⟨⟨cl, dd, dt, sl⟩, e2, hc, n2, hd⟩, hl2⟩ := I.tuple hB
  cases (show cl = .type "tuple" from hc)
  cases (show dt = .seq ys.toArray n2 from hd)
  have l1 := r.length
  have l2 := r2.length
  have hsz : its.toArray.size + ys.toArray.size ≤ sizeLine := by rw [List.size_toArray, List.size_toArray]; omega
  have short : ¬ (!its.toArray.isEmpty && Builtin.List.listTooLong (its.toArray.size + ys.toArray.size)) = true := by
    rw [notLongL hsz, Bool.and_false]
    exact Bool.false_ne_true
  refine call_meets F.slot_list_extend ⟨_, e, rfl⟩ F.entry_list_extend (F.args_list_extend_2 _ _) (ext_meets l its.toArray n b ys.toArray n2 dd sl short (by rw [List.size_toArray]; omega) (by omega)) ⟨e, e2, ?_⟩
  exact ⟨.non, _, I.lset (its' := its ++ ys) hH e (by simp) (r.append r2) (by rw [List.length_append]; exact hz), rfl, q⟩
end VK
set_option Elab.async false
set_option linter.all false
set_option maxRecDepth 100000
set_option maxHeartbeats 4000000
/-! == and != of tuples, whatever they answer -/
namespace VK
open PySem PySem.SeqAt
open AutoSeq1 (wpAny_loadPart')
section
variable {prog : Program} {w : World} {A : Around} {R : Result → Shared → Prop}
abbrev FinR (prog : Program) (w : World) (A : Around) (R : Result → Shared → Prop) : Fin → Shared → Prop := GQ.FinOf prog w A R
/-- what one turn of the comparison gives -/
def TurnB (Go : Shared → Prop) (Out : Shared → Prop) (r : Bool) (s' : Shared) : Prop := (r = true ∧ Go s') ∨ (r = false ∧ Out s')
theorem tup_eqB {l b : Addr} {xs ys : Array Value} {n n2 : Nat} {dd dd2 : Option Addr} {sl sl2 : Array (Option Value)} {res : Bool} (J : Nat → Shared → Prop) (Out : Shared → Prop)
    (turn : ∀ i (h1 : i < xs.size) (h2 : i < ys.size) s, J i s → wpAny (model prog w) A.in1 (eqBool xs[i] ys[i]) (TurnB (J (i + 1)) fun s' => res = false ∧ Out s') (fun e s' => R (.error e) s') s)
    (fin : ∀ i s, i = min xs.size ys.size → J i s → res = (xs.size == ys.size) ∧ Out s) (out : ∀ s, Out s → R (.ok (.ret (.bool res))) s) {s : Shared}
    (hl : s.heap.get? l = some { cls := .type "tuple", dict := dd, data := .seq xs n, slots := sl }) (hb : s.heap.get? b = some { cls := .type "tuple", dict := dd2, data := .seq ys n2, slots := sl2 }) (h : J 0 s) :
    wpAny (model prog w) A.in1 (Builtin.«tuple.__eq__» ⟨[.ref l, .ref b], []⟩) (FinR prog w A R) (fun e s' => R (.error e) s') s := by
  have g := AutoSeq1.sub_tuple_tuple
  have zl : (xs.toList.zip ys.toList).length = min xs.size ys.size := by rw [List.length_zip, Array.length_toList, Array.length_toList]
  have start := h
  obtain ⟨hp, gs, dr, tk, os⟩ := s
  wp_walk using wpAny_loadPart' hl, wpAny_loadPart' hb, wpAny_forIn_list _ (fun rest acc s' => acc.1 = none ∧ ∃ i, rest = (xs.toList.zip ys.toList).drop i ∧ i ≤ min xs.size ys.size ∧ J i s') _
  case turn =>
    rintro ⟨y, x⟩ rest acc s' ⟨ha, i, hz, hi, hJ⟩
    have lt : i < (xs.toList.zip ys.toList).length := Nat.lt_of_not_le fun le => by
      rw [List.drop_of_length_le le] at hz
      cases hz
    have h1 : i < xs.size := by omega
    have h2 : i < ys.size := by omega
    rw [List.drop_eq_getElem_cons lt] at hz
    injection hz with e1 e2
    have ey : y = xs[i] := by simpa using congrArg Prod.fst e1
    have ex : x = ys[i] := by simpa using congrArg Prod.snd e1
    subst ey ex
    refine wpAny_bind (wpAny_mono (turn i h1 h2 s' hJ) (fun r s2 q => ?_) fun _ _ z => z)
    rcases q with ⟨rfl, q⟩ | ⟨rfl, er, q⟩
    · wp_walk
      exact ⟨rfl, i + 1, e2, by omega, q⟩
    · have q2 := out _ q
      rw [er] at q2
      wp_walk
      exact q2
  case fin =>
    rintro ⟨a1, a2⟩ s' ⟨ha, i, hz, hi, hJ⟩
    simp only at ha
    subst ha
    have ge : min xs.size ys.size ≤ i := Nat.le_of_not_lt fun lt => by
      rw [List.drop_eq_getElem_cons (by omega)] at hz
      cases hz
    obtain ⟨er, o⟩ := fin i s' (by omega) hJ
    have q2 := out _ o
    rw [er] at q2
    wp_walk
    exact q2
  case h => exact ⟨rfl, 0, rfl, Nat.zero_le _, start⟩
theorem tup_neB {l b : Addr} {xs ys : Array Value} {n n2 : Nat} {dd dd2 : Option Addr} {sl sl2 : Array (Option Value)} {res : Bool} (J : Nat → Shared → Prop) (Out : Shared → Prop)
    (turn : ∀ i (h1 : i < xs.size) (h2 : i < ys.size) s, J i s → wpAny (model prog w) A.in1 (eqBool xs[i] ys[i]) (TurnB (J (i + 1)) fun s' => res = false ∧ Out s') (fun e s' => R (.error e) s') s)
    (fin : ∀ i s, i = min xs.size ys.size → J i s → res = (xs.size == ys.size) ∧ Out s) (out : ∀ s, Out s → R (.ok (.ret (.bool (!res)))) s) {s : Shared}
    (hl : s.heap.get? l = some { cls := .type "tuple", dict := dd, data := .seq xs n, slots := sl }) (hb : s.heap.get? b = some { cls := .type "tuple", dict := dd2, data := .seq ys n2, slots := sl2 }) (h : J 0 s) :
    wpAny (model prog w) A.in1 (Builtin.«tuple.__ne__» ⟨[.ref l, .ref b], []⟩) (FinR prog w A R) (fun e s' => R (.error e) s') s := by
  have g := AutoSeq1.sub_tuple_tuple
  have zl : (xs.toList.zip ys.toList).length = min xs.size ys.size := by rw [List.length_zip, Array.length_toList, Array.length_toList]
  have start := h
  obtain ⟨hp, gs, dr, tk, os⟩ := s
  wp_walk using wpAny_loadPart' hl, wpAny_loadPart' hb, wpAny_forIn_list _ (fun rest acc s' => acc.1 = none ∧ ∃ i, rest = (xs.toList.zip ys.toList).drop i ∧ i ≤ min xs.size ys.size ∧ J i s') _
  case turn =>
    rintro ⟨y, x⟩ rest acc s' ⟨ha, i, hz, hi, hJ⟩
    have lt : i < (xs.toList.zip ys.toList).length := Nat.lt_of_not_le fun le => by
      rw [List.drop_of_length_le le] at hz
      cases hz
    have h1 : i < xs.size := by omega
    have h2 : i < ys.size := by omega
    rw [List.drop_eq_getElem_cons lt] at hz
    injection hz with e1 e2
    have ey : y = xs[i] := by simpa using congrArg Prod.fst e1
    have ex : x = ys[i] := by simpa using congrArg Prod.snd e1
    subst ey ex
    refine wpAny_bind (wpAny_mono (turn i h1 h2 s' hJ) (fun r s2 q => ?_) fun _ _ z => z)
    rcases q with ⟨rfl, q⟩ | ⟨rfl, er, q⟩
    · wp_walk
      exact ⟨rfl, i + 1, e2, by omega, q⟩
    · have q2 := out _ q
      rw [er] at q2
      wp_walk
      exact q2
  case fin =>
    rintro ⟨a1, a2⟩ s' ⟨ha, i, hz, hi, hJ⟩
    simp only at ha
    subst ha
    have ge : min xs.size ys.size ≤ i := Nat.le_of_not_lt fun lt => by
      rw [List.drop_eq_getElem_cons (by omega)] at hz
      cases hz
    obtain ⟨er, o⟩ := fin i s' (by omega) hJ
    have q2 := out _ o
    rw [er] at q2
    wp_walk
    exact q2
  case h => exact ⟨rfl, 0, rfl, Nat.zero_le _, start⟩
end
end VK
set_option Elab.async false
set_option linter.all false
set_option maxRecDepth 100000
set_option maxHeartbeats 4000000
namespace VK
open PySem PySem.Spec PyProof.Rows L2
abbrev Eqb := V → V → Bool → Hp → Prop
def MonB (D : Eqb) : Prop := ∀ x y b H H', Ext H H' → D x y b H → D x y b H'
def After (X : Cx) (pins : List (Addr × Obj)) (σ : L2.St) (H : Hp) (s' : Shared) : Prop := ∃ H', Inv X pins σ H' s' ∧ Ext H H'
/-- == within a built-in gives what D says, and only makes objects -/
def EqB (X : Cx) (n : Nat) (D : Eqb) : Prop :=
  ∀ (B : Around) (pins : List (Addr × Obj)) (s : Shared) (σ : L2.St) (H : Hp) (x y : V) (u v : Value) (b : Bool), Sub X n B → Inv X pins σ H s → RelV x u → RelV y v → D x y b H →
    wpAny (model X.prog X.w) B (eqBool u v) (fun r s' => r = b ∧ After X pins σ H s') X.xe s
/-- a rich comparison -/
def RcB (X : Cx) (n : Nat) (op : CmpOp) (f : Bool → Bool) (D : Eqb) : Prop :=
  ∀ (B : Around) (pins : List (Addr × Obj)) (s : Shared) (σ : L2.St) (H : Hp) (x y : V) (u v : Value) (b : Bool), Sub X n B → Inv X pins σ H s → RelV x u → RelV y v → D x y b H →
    wpAny (model X.prog X.w) B (richCompare op u v) (fun r s' => r = .bool (f b) ∧ After X pins σ H s') X.xe s
section
variable {X : Cx} {n m : Nat} {D D' : Eqb} {op : CmpOp} {f : Bool → Bool}
theorem EqB.mono (h : EqB X n D) (hn : n ≤ m) : EqB X m D := fun B pins s σ H x y u v b sb => h B pins s σ H x y u v b (sb.mono hn)
theorem EqB.or (h : EqB X n D) (h' : EqB X n D') : EqB X n (fun x y b H => D x y b H ∨ D' x y b H) := fun B pins s σ H x y u v b sb I rx ry d =>
  d.elim (h B pins s σ H x y u v b sb I rx ry) (h' B pins s σ H x y u v b sb I rx ry)
theorem MonB.or (h : MonB D) (h' : MonB D') : MonB (fun x y b H => D x y b H ∨ D' x y b H) := fun x y b H H' e d => d.elim (fun d => .inl (h x y b H H' e d)) fun d => .inr (h' x y b H H' e d)
def DFlatB : Eqb := fun x y b _ => flatV x = true ∧ flatV y = true ∧ eqV x y = b
theorem mon_flatB : MonB DFlatB := fun _ _ _ _ _ _ d => d
theorem eqB_flat : EqB X 0 DFlatB := by
  intro B pins s σ H x y u v b sb I rx ry d
  obtain ⟨fx, fy, e⟩ := d
  have q := eqAt_V (A := B) (s := s) rx ry fx fy
  rw [e] at q
  exact q X.prog X.w X.xe _ ⟨rfl, H, I, Ext.rfl'⟩
/-- item by item, up to the first that differs -/
inductive PrB (D : Eqb) (H : Hp) : List V → List V → Bool → Prop where
  | nil : PrB D H [] [] true
  | left {y : V} {ys : List V} : PrB D H [] (y :: ys) false
  | right {x : V} {xs : List V} : PrB D H (x :: xs) [] false
  | no {x y : V} {xs ys : List V} (h : D x y false H) : PrB D H (x :: xs) (y :: ys) false
  | yes {x y : V} {xs ys : List V} {b : Bool} (h : D x y true H) (t : PrB D H xs ys b) : PrB D H (x :: xs) (y :: ys) b
theorem PrB.mon (hD : MonB D) {H H' : Hp} (e : Ext H H') {xs ys : List V} {b : Bool} (p : PrB D H xs ys b) : PrB D H' xs ys b := by
  induction p with
  | nil => exact .nil
  | left => exact .left
  | right => exact .right
  | no h => exact .no (hD _ _ _ _ _ e h)
  | yes h _ ih => exact .yes (hD _ _ _ _ _ e h) ih
def DTupB (K : PySem.W.Frag) (D : Eqb) : Eqb := fun x y b H => ∃ a c xs ys, x = .ref a ∧ y = .ref c ∧ SqT K H a xs ∧ SqT K H c ys ∧ PrB D H xs ys b
theorem mon_tupB {K : PySem.W.Frag} (hD : MonB D) : MonB (DTupB K D) := fun x y b H H' e d => by
  obtain ⟨a, c, xs, ys, hx, hy, h1, h2, p⟩ := d
  exact ⟨a, c, xs, ys, hx, hy, h1.ext e, h2.ext e, p.mon hD e⟩
/-- the turns of a comparison of tuples -/
def TupJ (X : Cx) (pins : List (Addr × Obj)) (σ : L2.St) (H : Hp) (D : Eqb) (xs ys : List V) (b : Bool) (i : Nat) (s' : Shared) : Prop := After X pins σ H s' ∧ PrB D H (xs.drop i) (ys.drop i) b
theorem tup_turn (hD : MonB D) (h : EqB X n D) {B : Around} (sb : Sub X (n + 1) B) {pins : List (Addr × Obj)} {σ : L2.St} {H : Hp} {xs ys : List V} {us vs : List Value} {b : Bool} (r : Vals xs us) (r2 : Vals ys vs)
    (i : Nat) (h1 : i < us.toArray.size) (h2 : i < vs.toArray.size) (s' : Shared) (J : TupJ X pins σ H D xs ys b i s') :
    wpAny (model X.prog X.w) B.in1 (eqBool us.toArray[i] vs.toArray[i]) (TurnB (TupJ X pins σ H D xs ys b (i + 1)) fun s2 => b = false ∧ After X pins σ H s2) X.xe s' := by
  obtain ⟨⟨H1, I1, e1⟩, p⟩ := J
  have k1 : i < xs.length := by rw [r.length]; simpa using h1
  have k2 : i < ys.length := by rw [r2.length]; simpa using h2
  have d1 := List.drop_eq_getElem_cons k1
  have d2 := List.drop_eq_getElem_cons k2
  obtain ⟨u, hu, ru⟩ := r.get (List.getElem?_eq_getElem k1)
  obtain ⟨v, hv, rv⟩ := r2.get (List.getElem?_eq_getElem k2)
  have eu : us.toArray[i] = u := by
    have g : us.toArray[i]? = some us.toArray[i] := Array.getElem?_eq_getElem h1
    rw [List.getElem?_toArray, hu] at g
    exact (Option.some.inj g).symm
  have ev : vs.toArray[i] = v := by
    have g : vs.toArray[i]? = some vs.toArray[i] := Array.getElem?_eq_getElem h2
    rw [List.getElem?_toArray, hv] at g
    exact (Option.some.inj g).symm
  rw [eu, ev]
  rw [d1, d2] at p
  cases p with
  | no hd =>
    refine wpAny_mono (h B.in1 pins s' σ H1 _ _ u v false sb.in1 I1 ru rv (hD _ _ _ _ _ e1 hd)) (fun t s2 q => ?_) fun _ _ z => z
    obtain ⟨rfl, H2, I2, e2⟩ := q
    exact .inr ⟨rfl, rfl, H2, I2, e1.trans e2⟩
  | yes hd t =>
    refine wpAny_mono (h B.in1 pins s' σ H1 _ _ u v true sb.in1 I1 ru rv (hD _ _ _ _ _ e1 hd)) (fun w s2 q => ?_) fun _ _ z => z
    obtain ⟨rfl, H2, I2, e2⟩ := q
    exact .inl ⟨rfl, ⟨H2, I2, e1.trans e2⟩, t⟩
theorem tup_fin {pins : List (Addr × Obj)} {σ : L2.St} {H : Hp} {xs ys : List V} {us vs : List Value} {b : Bool} (r : Vals xs us) (r2 : Vals ys vs) (i : Nat) (s' : Shared) (e : i = min us.toArray.size vs.toArray.size)
    (J : TupJ X pins σ H D xs ys b i s') : b = (us.toArray.size == vs.toArray.size) ∧ After X pins σ H s' := by
  obtain ⟨a, p⟩ := J
  have l1 : us.toArray.size = xs.length := by rw [List.size_toArray, r.length]
  have l2 : vs.toArray.size = ys.length := by rw [List.size_toArray, r2.length]
  rw [l1, l2] at e ⊢
  refine ⟨?_, a⟩
  have n1 := List.length_drop (i := i) (l := xs)
  have n2 := List.length_drop (i := i) (l := ys)
  generalize xs.drop i = xs' at n1 p
  generalize ys.drop i = ys' at n2 p
  cases p with
  | nil =>
    have z1 : 0 = xs.length - i := n1
    have z2 : 0 = ys.length - i := n2
    rw [show xs.length = ys.length from by omega]
    exact (beq_self_eq_true _).symm
  | @left y q =>
    have z1 : 0 = xs.length - i := n1
    have z2 : q.length + 1 = ys.length - i := n2
    exact (beq_false_of_ne (by omega)).symm
  | @right x q =>
    have z1 : q.length + 1 = xs.length - i := n1
    have z2 : 0 = ys.length - i := n2
    exact (beq_false_of_ne (by omega)).symm
  | @no x y q1 q2 _ =>
    have z1 : q1.length + 1 = xs.length - i := n1
    have z2 : q2.length + 1 = ys.length - i := n2
    omega
  | @yes x y q1 q2 b _ _ =>
    have z1 : q1.length + 1 = xs.length - i := n1
    have z2 : q2.length + 1 = ys.length - i := n2
    omega
theorem rcB_tup (hD : MonB D) (h : EqB X n D) : RcB X (n + 1) .Eq id (DTupB X.K D) := by
  intro B pins s σ H x y u v b sb I rx ry d
  obtain ⟨a, c, xs, ys, rfl, rfl, ha, hc, p⟩ := d
  cases rx
  cases ry
  obtain ⟨us, r, ⟨⟨cl, dd, dt, sl⟩, ho, ec, k1, ed⟩, z⟩ := I.tuple ha
  obtain ⟨vs, r2, ⟨⟨cl2, dd2, dt2, sl2⟩, ho2, ec2, k2, ed2⟩, z2⟩ := I.tuple hc
  cases (show cl = .type "tuple" from ec)
  cases (show dt = .seq us.toArray k1 from ed)
  cases (show cl2 = .type "tuple" from ec2)
  cases (show dt2 = .seq vs.toArray k2 from ed2)
  refine wpAny_richCompare_same_room (op := .Eq) ⟨_, ho, rfl⟩ ⟨_, ho2, rfl⟩ F.slot_tuple_eq (GQ.call_here F.slot_tuple_eq ⟨_, ho, rfl⟩ F.entry_tuple_eq (F.args_tuple_eq_2 _ _) ?_) sb.room.units0
  exact tup_eqB (R := wants (fun t s' => t ≠ .notImplemented ∧ (t = .bool (id b) ∧ After X pins σ H s')) X.xe) (TupJ X pins σ H D xs ys b) (After X pins σ H) (tup_turn hD h sb r r2) (tup_fin r r2)
    (fun s' q => ⟨(fun e => nomatch e), rfl, q⟩) ho ho2 ⟨⟨H, I, Ext.rfl'⟩, p⟩
theorem rnB_tup (hD : MonB D) (h : EqB X n D) : RcB X (n + 1) .NotEq not (DTupB X.K D) := by
  intro B pins s σ H x y u v b sb I rx ry d
  obtain ⟨a, c, xs, ys, rfl, rfl, ha, hc, p⟩ := d
  cases rx
  cases ry
  obtain ⟨us, r, ⟨⟨cl, dd, dt, sl⟩, ho, ec, k1, ed⟩, z⟩ := I.tuple ha
  obtain ⟨vs, r2, ⟨⟨cl2, dd2, dt2, sl2⟩, ho2, ec2, k2, ed2⟩, z2⟩ := I.tuple hc
  cases (show cl = .type "tuple" from ec)
  cases (show dt = .seq us.toArray k1 from ed)
  cases (show cl2 = .type "tuple" from ec2)
  cases (show dt2 = .seq vs.toArray k2 from ed2)
  refine wpAny_richCompare_same_room (op := .NotEq) ⟨_, ho, rfl⟩ ⟨_, ho2, rfl⟩ F.slot_tuple_ne (GQ.call_here F.slot_tuple_ne ⟨_, ho, rfl⟩ F.entry_tuple_ne (F.args_tuple_ne_2 _ _) ?_) sb.room.units0
  exact tup_neB (R := wants (fun t s' => t ≠ .notImplemented ∧ (t = .bool (!b) ∧ After X pins σ H s')) X.xe) (TupJ X pins σ H D xs ys b) (After X pins σ H) (tup_turn hD h sb r r2) (tup_fin r r2)
    (fun s' q => ⟨(fun e => nomatch e), rfl, q⟩) ho ho2 ⟨⟨H, I, Ext.rfl'⟩, p⟩
/-- a thing is equal to itself -/
def SelfB (X : Cx) (D : Eqb) : Prop := ∀ (pins : List (Addr × Obj)) (σ : L2.St) (H : Hp) (s : Shared) (x : V) (b : Bool), Inv X pins σ H s → D x x b H → b = true
theorem self_flat : SelfB X DFlatB := by
  rintro pins σ H s x b I ⟨f, _, e⟩
  rw [← e]
  cases x with
  | non => rfl
  | bl c => exact beq_self_eq_true c
  | int i => exact beq_self_eq_true i
  | str z => exact beq_self_eq_true z
  | byt _ => cases f
  | flt _ => cases f
  | ref _ => cases f
  | ty _ => cases f
theorem SelfB.or (h : SelfB X D) (h' : SelfB X D') : SelfB X (fun x y b H => D x y b H ∨ D' x y b H) := fun pins σ H s x b I d => d.elim (h pins σ H s x b I) (h' pins σ H s x b I)
theorem PrB.self {pins : List (Addr × Obj)} {σ : L2.St} {H : Hp} {s : Shared} (I : Inv X pins σ H s) (hs : SelfB X D) : ∀ {xs : List V} {b : Bool}, PrB D H xs xs b → b = true
  | [], _, .nil => rfl
  | _ :: _, _, .no h => hs pins σ H s _ _ I h
  | _ :: _, _, .yes _ t => PrB.self I hs t
theorem self_tup (hs : SelfB X D) : SelfB X (DTupB X.K D) := by
  rintro pins σ H s x b I ⟨a, c, xs, ys, rfl, e, h1, h2, p⟩
  cases e
  rw [I.tuple_inj h2 h1] at p
  exact p.self I hs
theorem RcB.imp (h : RcB X n op f D) (hd : ∀ x y b H, D' x y b H → D x y b H) : RcB X n op f D' := fun B pins s σ H x y u v b sb I rx ry d => h B pins s σ H x y u v b sb I rx ry (hd _ _ _ _ d)
/-- from a comparison of references to == within a built-in: a thing is itself -/
theorem RcB.eqB (h : RcB X n .Eq id D) (hr : ∀ x y b H, D x y b H → ∃ a c, x = .ref a ∧ y = .ref c) (hs : SelfB X D) : EqB X n D := by
  intro B pins s σ H x y u v b sb I rx ry d
  obtain ⟨a, c, rfl, rfl⟩ := hr _ _ _ _ d
  cases rx
  cases ry
  by_cases e : a = c
  · subst e
    have eb := hs pins σ H s _ _ I d
    subst eb
    exact SeqAt.EqAt.same (A := B) (s := s) (.ref a) X.prog X.w X.xe _ ⟨rfl, H, I, Ext.rfl'⟩
  · refine GQ.eqBool_refG e (wpAny_mono (h B pins s σ H (.ref a) (.ref c) _ _ b sb I rfl rfl d) (fun r s' q => ?_) fun _ _ z => z)
    obtain ⟨e1, q⟩ := q
    exact ⟨b, e1, rfl, q⟩
/-- as an expression -/
def rB (f : Bool → Bool) (D : Eqb) : R2 := fun x y H Q => ∃ b, D x y b H ∧ ∀ H', Ext H H' → Q (.bl (f b)) H'
theorem op_B (h : RcB X n op f D) (hr : Room n X.A) : OpR X (richCompare op) (rB f D) := by
  intro pins s σ H x y v u Q I rx ry hq
  obtain ⟨b, d, q⟩ := hq
  refine wpAny_mono (h X.A pins s σ H x y v u b ⟨hr, rfl⟩ I rx ry d) (fun r s' z => ?_) fun _ _ e => e
  obtain ⟨rfl, H', I', e⟩ := z
  exact ⟨.bl (f b), H', I', rfl, q H' e⟩
end
end VK
set_option Elab.async false
set_option linter.all false
set_option maxRecDepth 100000
set_option maxHeartbeats 4000000
/-! == and != by a class's own __eq__ -/
namespace VK
open PySem PySem.Spec PyProof.Rows L2
/-- what an own == promises -/
def spEqB (R : Addr → V → Bool → Hp → Prop) : Sp := fun vs H Q _ => ∃ (a : Addr) (y : V) (b : Bool), vs = [.ref a, y] ∧ R a y b H ∧ ∀ H', Ext H H' → Q (.bl b) H'
def DOwnB (K : PySem.W.Frag) (C : Addr) (R : Addr → V → Bool → Hp → Prop) : Eqb := fun x y b H => ∃ (a dx : Addr) (fs : List (Str × V)) (t : Value), x = .ref a ∧ H a = some (.ins C dx fs) ∧
  TyX K H y t ∧ PySem.W.notFirst K C t = true ∧ R a y b H
/-- two of the class -/
def DTwoB (C : Addr) (R : Addr → V → Bool → Hp → Prop) : Eqb := fun x y b H => ∃ (a c dx dy : Addr) (fs gs : List (Str × V)), x = .ref a ∧ y = .ref c ∧ H a = some (.ins C dx fs) ∧ H c = some (.ins C dy gs) ∧ R a (.ref c) b H
section
variable {X : Cx} {CX : CXT} {n : Nat} {C f : Addr} {fd : FuncData} {ps : List Str} {R : Addr → V → Bool → Hp → Prop} {E : XK}
/-- the call of __eq__ -/
theorem eq_call (F : FnOk X.prog X.w X.K X.mg X.base CX n f fd ps (spEqB R)) (hb : Binds X.K fd ps []) (hx : Passes CX X E) {B : Around} {pins : List (Addr × Obj)} {s : Shared} {σ : L2.St} {H : Hp} {a : Addr} {y : V} {v : Value} {b : Bool}
    {Q : Value → Shared → Prop} (sb : Sub X n B) (I : Inv X pins σ H s) (ry : RelV y v) (d : R a y b H) (k : ∀ s', After X pins σ H s' → Q (.bool b) s') : wpAny (model X.prog X.w) B (call (.ref f) [.ref a, v]) Q X.xe s := by
  have e0 : Env0 X.prog X.w X.K X.mg X.base B X.stack s H := by
    have e := I.env0
    exact ⟨by rw [sb.fr]; exact e.frames, e.mod, e.bs, e.bsz, e.funs, e.frf, e.hok, e.bare⟩
  have sp : spEqB R [.ref a, y] H (fun v H' => v = .bl b ∧ Ext H H') E := ⟨a, y, b, rfl, d, fun H' e => ⟨rfl, e⟩⟩
  have hl := F.len _ _ _ _ sp
  have rv : Vals [V.ref a, y] [Value.ref a, v] := .cons rfl (.cons ry .nil)
  have bnd := hb s [.ref a, v] I.kIn (by simpa using hl)
  refine wpAny_call (codeAny_mono (F.run B X.stack s H ⟨[.ref a, v], []⟩ [.ref a, v] [.ref a, y] _ E sb.room e0 (by simpa using bnd) rv sp) fun r s' hq => ?_)
  cases r with
  | error e => exact hx pins σ H s e s' I hq
  | ok fl =>
    cases fl with
    | ret u =>
      obtain ⟨z, H', I', rz, rfl, ex⟩ := I.after hq
      cases rz
      exact k s' ⟨H', I', ex⟩
    | next => exact False.elim hq
    | brk => exact False.elim hq
    | cont => exact False.elim hq
theorem rcB_own (F : FnOk X.prog X.w X.K X.mg X.base CX n f fd ps (spEqB R)) (hs : PySem.W.findIn X.K (.ref C) "__eq__" = some (some (.ref f))) (hf : PySem.W.isFn X.K (.ref f) = true) (hb : Binds X.K fd ps [])
    (hx : Passes CX X E) : RcB X n .Eq id (DOwnB X.K C R) := by
  intro B pins s σ H x y u v b sb I rx ry d
  obtain ⟨a, dx, fs, t, rfl, ha, ty, nf, hr⟩ := d
  cases rx
  obtain ⟨mA, J, _⟩ := ins_get I.hok ha
  obtain ⟨od, J, _⟩ := J.look
  obtain ⟨P, kx, hp, _⟩ := kit_of I ry ty
  obtain ⟨m, hF⟩ := I.fr
  refine PySem.W.cmp_K (op := .Eq) (tb := t) sb.room.units0 hF I.ok.mod.kin J (kx.ty _ _ I.kIn hp) nf hs hf ?_
  exact eq_call F hb hx sb I ry hr fun s' q => ⟨rfl, q⟩
theorem rnB_own (F : FnOk X.prog X.w X.K X.mg X.base CX n f fd ps (spEqB R)) (hne : ∀ (h : Heap) (x : Addr) (o : Obj), X.K.In h → h.get? x = some o → o.cls = .ref C → h.OwnEqNoNe x C f "object" [.type "object"])
    (hb : Binds X.K fd ps []) (hx : Passes CX X E) : RcB X (n + 1) .NotEq not (DTwoB C R) := by
  intro B pins s σ H x y u v b sb I rx ry d
  obtain ⟨a, c, dx, dy, fs, gs, rfl, rfl, ha, hc, hr⟩ := d
  cases rx
  cases ry
  obtain ⟨mA, J, _⟩ := ins_get I.hok ha
  obtain ⟨mB, J', _⟩ := ins_get I.hok hc
  obtain ⟨od, J, _⟩ := J.look
  obtain ⟨od', J', _⟩ := J'.look
  have ow := hne s.heap a _ I.kIn J.at_ J.cls
  have un : B.units + 1 < cLine := by
    have := sb.room.un
    omega
  obtain ⟨hp, g, dr, tk, os⟩ := s
  refine richCompare_ne_ownEq _root_.PySem.F.cmp_object ow J'.at_ J'.cls un ?_
  exact eq_call F hb hx sb.in1 I (show RelV (.ref c) (.ref c) from rfl) hr fun s' q => ⟨b, rfl, rfl, q⟩
theorem op_Beq {D : Eqb} (h : RcB X n .Eq id D) (hr : Room n X.A) : OpR X (compareOp .Eq) (rB id D) := op_B h hr
theorem op_Bne {D : Eqb} (h : RcB X n .NotEq not D) (hr : Room n X.A) : OpR X (compareOp .NotEq) (rB not D) := op_B h hr
end
end VK
set_option Elab.async false
set_option linter.all false
set_option maxRecDepth 100000
set_option maxHeartbeats 4000000
/-! several clauses, each with a name for the error -/
namespace VK
open PySem PySem.Spec PyProof.Rows L2
abbrev Cls1 := Value × (Addr → Value → Option Addr → TS)
def wEach (K : PySem.W.Frag) (Wo : WX) (i : Nat) (D : Ends) : List Cls1 → WX
  | [] => Wo
  | h :: r => wAs K h.1 i h.2 (wEach K Wo i D r) D
inductive Clauses (X : Cx) (n : Str) : List ExceptHandler → List Cls1 → Prop
  | nil : Clauses X n [] []
  | cons {x : Str} {c : Value} {ts : Addr → Value → Option Addr → TS} {b0 : Stmt} {bs : List Stmt} {p1 p2 : Pos} {hs : List ExceptHandler} {l : List Cls1} (hc : Names X x c)
      (hb : ∀ (a : Addr) (oe : Obj) (cls : Value) (d : Option Addr) (pn : List (Addr × Obj)), Zc cls d oe → (∃ vs, oe.data = .fields vs) → PSs (X.suite a ((a, oe) :: pn)) (b0 :: bs) (ts a cls d)) (r : Clauses X n hs l) :
      Clauses X n (.ExceptHandler (some (.Name x p1)) (some n) (b0 :: bs) p2 :: hs) ((c, ts) :: l)
section
variable {X : Cx} {n : Str} {i : Nat} {body : List Stmt} {e1 : ExceptHandler} {es : List ExceptHandler} {l : List Cls1} {pos : Pos} {tb : WX → TS} {Wo : WX}
/-- an error that has been met: what is known of its object -/
structure Met (X : Cx) (a : Addr) (cls : Value) (d : Option Addr) (s : Shared) (B : Heap) (σ : L2.St) (H : Hp) (pins : List (Addr × Obj)) (sI : Shared) : Prop where
  inv : Inv X pins σ H sI
  nb : ∀ b o, sI.heap.get? b = some o → b ∉ frs X.stack → B.get? b = some o
  os : s.os = sI.os
  ag : AllBare s.gens
  na : H a = none
  nL : a ≠ X.env.locals
  nF : a ∉ X.fs
theorem each_step (hs : X.stack = X.env :: X.outer) (hf : X.env.frame = some X.env.locals) (hN : X.N.Nodup) (hi : X.N[i]? = some n) (hl : X.env.kindOf n = some .local) (tk : Takes X Wo) {D : Ends} {a : Addr} {cls : Value} {d : Option Addr} {s : Shared} {B : Heap} {σ : L2.St} {H : Hp}
    {pins : List (Addr × Obj)} {sI : Shared} (M : Met X a cls d s B σ H pins sI) (up : sI.heap.UpToSlots s.heap) (fl : HandSPX.FlyingZ B (X.env :: X.outer) a (Zc cls d) s.heap) :
    ∀ {es : List ExceptHandler} {l : List Cls1}, Clauses X n es l → wEach X.K Wo i D l cls d σ H → wpAny (model X.prog X.w) X.A (handleBy (.ref a) X.env es) (SP X pins D) X.xe s := by
  intro es l hk
  have J := M.inv.landed M.nb fl.1 up M.os M.ag
  obtain ⟨oe, vs, he, hz, hd⟩ := fl.there
  have S := J.suite he hd M.na M.nL M.nF
  induction hk with
  | nil =>
    intro w
    obtain ⟨k1, k2, k3, o2, v2, T, oT, t2, he2, hz2, hd2, h1, hr⟩ := id fl
    have out : wpAny (model X.prog X.w) X.A (setFlight (.ref a) X.env.frame) (fun _ s4 => wpAny (model X.prog X.w) X.A (throw (.ref a) : Sem Flow) (SP X pins D) X.xe s4) X.xe s := by
      rw [hf]
      refine HandSPX.setFlight_upZ fl fun h4 hh4 up4 => ?_
      refine wpAny_throw (tk _ _ ?_)
      exact ⟨a, B, sI, pins, σ, H, cls, d, rfl, M.inv, M.nb, up.trans up4, .inr (.inr (by rw [hs]; exact hh4)), M.na, M.os, M.ag, w⟩
    refine wpAny_handleBy_nil (wpAny_bind (wpAny_field he2 hd2 h1 ?_))
    rw [if_neg (by simp : ¬ ((Value.ref T == Value.none) = true))]
    first
      | exact wpAny_bind (wpAny_pure (wpAny_bind out))
      | exact wpAny_bind out
  | @cons x c ts b0 bs p1 p2 hs2 l2 hc hb r ih =>
    rintro ⟨b, hm, yes, no⟩
    have ty : PySem.W.Looks (model X.prog X.w) s.heap (typeOf (.ref a)) cls := fun A Q E s k q => wpAny_typeOf_ref (k _ _ he) (by rw [hz.1]; exact q)
    have lm := PySem.W.exm_one (M := model X.prog X.w) J.kIn ty hm
    have named : ∀ {Q : Value → Shared → Prop} {E : Value → Shared → Prop}, Q c s → wpAny (model X.prog X.w) (X.A.mark (some (.ref a))) (eval (.Name x p1) X.env) Q E s := fun {Q E} q => by
      obtain ⟨hg, db, g | ⟨g, hv, nn⟩⟩ := hc
      · exact ld_glob (X := X.suite a ((a, oe) :: (X.pn ++ pins))) S hg g q db
      · exact ld_blt (X := X.suite a ((a, oe) :: (X.pn ++ pins))) S hg g hv q nn db
    refine wpAny_handleBy_cons (codeAny_handlers_test (named (lm.here ?_))) (by intro q; cases q)
    cases b with
    | false => exact ih (no rfl)
    | true =>
      refine codeAny_handlers_suite_as (HandSPX.lands_againZ fl fun h4 fl4 up4 => ?_)
      have J4 : Inv X pins σ H { s with heap := h4 } := M.inv.landed M.nb fl4.1 (up.trans up4) M.os M.ag
      obtain ⟨o4, v4, he4, hz4, hd4⟩ := fl4.there
      have S4 := J4.suite he4 hd4 M.na M.nL M.nF
      refine store_ok (X := X.suite a ((a, o4) :: (X.pn ++ pins))) (v := .ref a) S4 hN hi (.inl hl) rfl (fun s5 S5 => ?_) (.inr hl)
      refine wpAny_mono ((hb a o4 cls d (X.pn ++ pins) hz4 ⟨_, hd4⟩).run [] s5 _ H _ S5 (yes rfl a M.na)) (fun f s6 sp => ?_) (fun _ _ z => False.elim z)
      have gone : ∀ {σ6 : L2.St} {H6 : Hp} {Q : Shared → Prop}, Inv (X.suite a ((a, o4) :: (X.pn ++ pins))) [] σ6 H6 s6 → (∀ s7, Inv X pins (σ6.set i none) H6 s7 → Q s7) →
          wpAny (model X.prog X.w) X.A (do bindName X.env n .none; unbindBehindTheSuite X.env n p2) (fun _ s7 => Q s7) X.xe s6 := fun {σ6 H6 Q} S6 hq => gone_ok (S6.unsuite M.inv.ok) hN hi hl hq
      cases f with
      | ret u =>
        obtain ⟨v6, σ6, H6, S6, r6, q6⟩ := sp
        exact gone S6 fun s7 J7 => ⟨_, _, _, J7, r6, q6⟩
      | next =>
        obtain ⟨σ6, H6, S6, q6⟩ := sp
        exact gone S6 fun s7 J7 => ⟨_, _, J7, q6⟩
      | brk =>
        obtain ⟨σ6, H6, S6, q6⟩ := sp
        exact gone S6 fun s7 J7 => ⟨_, _, J7, q6⟩
      | cont =>
        obtain ⟨σ6, H6, S6, q6⟩ := sp
        exact gone S6 fun s7 J7 => ⟨_, _, J7, q6⟩
theorem ps_try_each (hs : X.stack = X.env :: X.outer) (hf : X.env.frame = some X.env.locals) (hN : X.N.Nodup) (hi : X.N[i]? = some n) (hl : X.env.kindOf n = some .local) (tk : Takes X Wo)
    (hb : ∀ (W : WX) (pn : List (Addr × Obj)) (xe : Value → Shared → Prop), Takes (X.tr pn xe) W → PassesOwn (model X.prog X.w) X.A X.env xe → PSs (X.tr pn xe) body (tb W))
    (hc : Clauses X n (e1 :: es) l) : PS X (.Try body (e1 :: es) [] [] pos) (fun D σ H => tb (wEach X.K Wo i D l) D σ H) := by
  refine ⟨fun pins s σ H D I h => wpAny_Try_except ?_⟩
  have ok := I.ok
  have fr : X.A.frames = some (X.env :: X.outer) := ok.frames.trans (by rw [hs])
  refine wpAny_mono ((hb (wEach X.K Wo i D l) (X.pn ++ pins) (fun e s₁ => wpAny (model X.prog X.w) X.A (noteFrame e X.env) (fun _ s₂ => wpAny (model X.prog X.w) X.A (setFlight e none) (fun _ s₃ =>
    wpAny (model X.prog X.w) X.A (handleBy e X.env (e1 :: es)) (SP X pins D) X.xe s₃) X.xe s₂) X.xe s₁) (fun u s' xx => ?_) PassesOwn.looking).run [] s σ H D (I.toTry _) h) (fun f s1 sp => ?_) (fun e s1 he => he)
  · obtain ⟨a, B, sI, pins', σ', H', cls, d, rfl, J', nb, up, sky, na, os, ag, w⟩ := xx
    have J : Inv X pins σ' H' sI := J'.ofTry ok
    have sk : Sky B (X.env :: X.outer) a (Zc cls d) X.env.locals s'.heap := by rw [← hs]; exact sky
    show wpAny (model X.prog X.w) X.A (noteFrame (.ref a) X.env) _ _ _
    refine Sky.land Zc.steady fr hf sk fun h3 fl up3 => ?_
    obtain ⟨oe, vs, he, hz, hd⟩ := fl.there
    have nfr : a ∉ frs (X.env :: X.outer) := fun hm => by
      obtain ⟨_, o', e', nf⟩ := fl.2.2.1.mem hm
      rw [he] at e'
      cases e'
      exact nf _ hd
    have nL : a ≠ X.env.locals := fun z => nfr (List.mem_filterMap.mpr ⟨X.env, List.mem_cons_self, by rw [hf, z]⟩)
    have nF : a ∉ X.fs := fun hm => by
      obtain ⟨e, he', q⟩ := List.mem_filterMap.mp hm
      exact nfr (List.mem_filterMap.mpr ⟨e, List.mem_cons_of_mem _ he', q⟩)
    exact each_step (s := { s' with heap := h3 }) hs hf hN hi hl tk ⟨J, nb, os, ag, na, nL, nF⟩ (up.trans up3) fl hc w
  · cases f with
    | ret u =>
      obtain ⟨v, σ', H', J', r, q⟩ := sp
      exact ⟨v, σ', H', J'.ofTry ok, r, q⟩
    | next =>
      obtain ⟨σ', H', J', q⟩ := sp
      exact wpAny_execs_nil ⟨σ', H', J'.ofTry ok, q⟩
    | brk =>
      obtain ⟨σ', H', J', q⟩ := sp
      exact ⟨σ', H', J'.ofTry ok, q⟩
    | cont =>
      obtain ⟨σ', H', J', q⟩ := sp
      exact ⟨σ', H', J'.ofTry ok, q⟩
end
end VK
set_option Elab.async false
set_option linter.all false
set_option maxRecDepth 100000
set_option maxHeartbeats 4000000
/-! a method that may raise, called in a try -/
namespace VK
open PySem PySem.Spec PyProof.Rows L2
section
variable {X : Cx} {CX : CXT} {k : Nat} {f C : Addr} {fd : FuncData} {ps : List Str} {sp : Sp} {E : L2.St → XK} {m : Str} {pos apos : Pos} {e o : Expr} {es : List Expr} {ta : TE} {t : TA}
def tMethX (C : Addr) (m : Str) (sp : Sp) (E : L2.St → XK) (ta : TE) (t : TA) : TE := fun σ H Q => ta σ H fun x H1 => ∃ (a dx : Addr) (fs : List (Str × V)), x = .ref a ∧ H1 a = some (.ins C dx fs) ∧ fs.lookup m = none ∧
  t σ H1 fun vs H2 => sp (.ref a :: vs) H2 Q (E σ)
theorem pe_methX {pl : Sem Bool} (he : PE X o ta) (c : Cls X.K C) (hm : Meth X.K C m f) (F : FnOk X.prog X.w X.K X.mg X.base CX k f fd ps sp) (hr : Room k X.A) (hb : Binds X.K fd ps []) (hx : ∀ σ, PassesAt CX X σ (E σ)) (ha : PA X (e :: es) t)
    (h1 : starEach (e :: es) X.env = (false, eval e X.env) :: starEach es X.env := by rfl) (h2 : (backTo pos (starEach es X.env)).any (·.1) = false := by rfl)
    (h3 : eval (.Call (.Attribute o m apos) (e :: es) [] pos) X.env = (do
      let ov ← eval o X.env; standAt apos.atName; let (f, first) ← holding [ov] (getMethod ov m pl); callWith pos f first (backTo pos (starEach (e :: es) X.env)) (backToKw pos (keywordEach [] X.env))) := by rfl) :
    PE X (.Call (.Attribute o m apos) (e :: es) [] pos) (tMethX C m sp E ta t) := by
  refine ⟨fun pins s σ H Q I h => PySem.W.methodCall_KW (pl := pl) (thn (he.run pins s σ H _ I h) fun u s1 hh => ?_) h3⟩
  obtain ⟨x, H1, I1, rx, a, dx, fs, rfl, ea, l, q⟩ := hh
  obtain rfl : u = Value.ref a := rx
  refine getmeth_ok I1 ea c hm l (PySem.W.callWith_K (first := [.ref a]) (h₀ := X.base) I.ok.mod.kin hm.kp (thn (ha.run pos pins s1 σ H1 _ I1 q) fun us s2 hh => ?_) h1 h2)
  obtain ⟨vs, H2, I2, r, q2⟩ := hh
  exact ⟨I2.kIn, run_fnS (us := .ref a :: us) (vs := .ref a :: vs) F hr hb (hx σ) I2 (.cons rfl r) q2⟩
end
end VK
set_option Elab.async false
set_option linter.all false
set_option maxRecDepth 100000
set_option maxHeartbeats 4000000
/-! xs == [], whatever stands in xs -/
namespace VK
open PySem PySem.Spec PyProof.Rows L2
def rEqNil (K : PySem.W.Frag) : R2 := fun x y H Q => ∃ (a b : Addr) (xs : List V), x = .ref a ∧ y = .ref b ∧ SqL K H a xs ∧ SqL K H b [] ∧ Q (.bl xs.isEmpty) H
theorem op_eqNil {X : Cx} (hu : X.A.units + 64 < cLine) : OpR X (compareOp .Eq) (rEqNil X.K) := by
  intro pins s σ H x y v u Q I rx ry hq
  obtain ⟨a, b, xs, rfl, rfl, ha, hb, q⟩ := hq
  cases rx
  cases ry
  obtain ⟨us, r1, p1, _⟩ := I.list ha
  obtain ⟨vs, r2, p2, _⟩ := I.list hb
  have l1 := r1.length
  have l2 := r2.length
  have un : X.A.units < cLine := by omega
  have z2 : vs.toArray.size = 0 := by rw [List.size_toArray, ← l2]; rfl
  show wpAny (model X.prog X.w) X.A (richCompare .Eq (.ref a) (.ref b)) _ _ _
  cases xs with
  | nil =>
    have z1 : us.toArray.size = 0 := by rw [List.size_toArray, ← l1]; rfl
    have c := SeqAt.RcAt.lists (A := X.A) (e := fun _ => true) p1.isList p2.isList (z1.trans z2.symm) un (fun j h1 h2 => absurd h1 (by omega))
    rw [z1] at c
    exact c X.prog X.w X.xe _ ⟨.bl true, H, I, rfl, q⟩
  | cons x r =>
    have z1 : us.toArray.size = r.length + 1 := by rw [List.size_toArray, ← l1]; rfl
    exact SeqAt.RcAt.lists_lengths (A := X.A) p1.isList p2.isList (by rw [z1, z2]; rfl) un X.prog X.w X.xe _ ⟨.bl false, H, I, rfl, q⟩
end VK
set_option Elab.async false
set_option linter.all false
set_option maxRecDepth 100000
set_option maxHeartbeats 4000000
/-! == of lists whose items are equal by EqB; the same within tuples -/
namespace VK
open PySem PySem.Spec PyProof.Rows L2
section
variable {X : Cx} {n : Nat} {D : Eqb} {D1 : Eqv}
theorem EqB.g (h : EqB X n D) : EqG X n (fun x y H => D x y true H) := fun B pins s σ H x y u v sb I rx ry d => h B pins s σ H x y u v true sb I rx ry d
theorem MonB.g (h : MonB D) : Mon (fun x y H => D x y true H) := fun x y H H' e d => h x y true H H' e d
/-- what is equal, as a comparison that answers -/
def DTrue (D1 : Eqv) : Eqb := fun x y b H => b = true ∧ D1 x y H
theorem EqG.b (h : EqG X n D1) : EqB X n (DTrue D1) := by
  rintro B pins s σ H x y u v b sb I rx ry ⟨rfl, d⟩
  exact h B pins s σ H x y u v sb I rx ry d
theorem mon_true (h : Mon D1) : MonB (DTrue D1) := fun x y b H H' e d => ⟨d.1, h x y H H' e d.2⟩
/-- xs == ys, their items equal -/
theorem op_eqL (hD : MonB D) (h : EqB X n D) (hr : Room (n + 1) X.A) : OpR X (compareOp .Eq) (rEqG (DList fun x y H => D x y true H)) := op_eqG (rcG_list hD.g h.g) hr
/-- lists within tuples -/
theorem eqB_list (hD : MonB D) (h : EqB X n D) : EqB X (n + 1) (DTrue (DList fun x y H => D x y true H)) := EqG.b (eqG_list hD.g h.g)
end
end VK
namespace VK
open PySem PySem.Spec PyProof.Rows L2
/-- a thing and itself -/
def DSelf : Eqb := fun x y b _ => b = true ∧ x = y ∧ (flatV x = true ∨ ∃ a, x = .ref a)
theorem mon_self : MonB DSelf := fun _ _ _ _ _ _ d => d
theorem eqB_self {X : Cx} : EqB X 0 DSelf := by
  rintro B pins s σ H x y u v b sb I rx ry ⟨rfl, rfl, f⟩
  rcases f with f | ⟨a, rfl⟩
  · have e : eqV x x = true := by
      cases x with
      | non => rfl
      | bl c => exact beq_self_eq_true c
      | int i => exact beq_self_eq_true i
      | str z => exact beq_self_eq_true z
      | byt _ => cases f
      | flt _ => cases f
      | ref _ => cases f
      | ty _ => cases f
    exact eqB_flat B pins s σ H x x u v true sb I rx ry ⟨f, f, e⟩
  · cases rx
    cases ry
    exact SeqAt.EqAt.same (A := B) (s := s) (.ref a) X.prog X.w X.xe _ ⟨rfl, H, I, Ext.rfl'⟩
end VK
set_option Elab.async false
set_option linter.all false
set_option maxRecDepth 100000
set_option maxHeartbeats 4000000
/-! repr of any plain value, where the guards are known -/
namespace VK
open PySem PySem.Spec PyProof.Rows L2
def rShowV (K : PySem.W.Frag) : List V → Hp → VK → Prop := fun vs H Q => ∃ (v : V) (d : PyData), vs = [v] ∧ ShwV K H v d ∧ d.showable = true ∧ d.shown.length ≤ sizeLine ∧ d.depth ≤ 40 ∧ Q (.str d.shown) H
theorem call_showV {X : Cx} (hg : X.A.guards = some []) (hu : X.A.units + 64 < cLine) : CallR X (.builtin "repr") (rShowV X.K) := by
  intro pins s σ H vs us Q I r h
  obtain ⟨v, d, rfl, hp, sh, hz, hd, q⟩ := h
  obtain ⟨u, rfl, ru⟩ := vals1 r
  obtain ⟨as, rd, sys⟩ := hp.reads I ru
  have ref : ∀ a : Addr, u = .ref a → wpAny (model X.prog X.w) X.A (call (.builtin "repr") [u]) (EP X pins σ Q) X.xe s := by
    rintro a rfl
    exact repr_of_reads' rd sh sys hg (by omega) (fun _ _ e => e) (fun h' t tk k => ⟨.str _, H, I.kept k, ⟨t, rfl⟩, q⟩) hz
  cases hp with
  | dct e _ =>
    cases ru
    exact ref _ rfl
  | data h n =>
    cases h with
    | non =>
      cases ru
      exact PySem.P.repr_of_none ⟨.str _, H, I.tok _, ⟨_, rfl⟩, q⟩
    | bl b =>
      cases ru
      exact PySem.P.repr_of_bool ⟨.str _, H, I.tok _, ⟨_, rfl⟩, q⟩
    | int i =>
      obtain ⟨t, rfl⟩ := ru
      exact PySem.P.repr_of_int (of_decide_eq_true sh) ⟨.str _, H, I.tok _, ⟨_, rfl⟩, q⟩
    | str z =>
      obtain ⟨t, rfl⟩ := ru
      exact PySem.P.repr_of_str ⟨.str _, H, I.tok _, ⟨_, rfl⟩, q⟩ hz
    | lst _ _ =>
      cases ru
      exact ref _ rfl
    | tup _ _ =>
      cases ru
      exact ref _ rfl
end VK
set_option Elab.async false
set_option linter.all false
set_option maxRecDepth 100000
set_option maxHeartbeats 4000000
namespace K02
open PySem L2 VK
abbrev Fg := PySem.W.Frag
def top (i : Nat) : Stmt := PySem.Challenge.pw_pulledonce_k02_programs_changed_and_comp.main.body.getD i (.Pass ⟨0, 0, 0, 0⟩)
abbrev sIsInt : Stmt := top 13
abbrev sIsName : Stmt := top 14
abbrev sIsNum : Stmt := top 15
abbrev sIsStage : Stmt := top 16
theorem same_new {H : Hp} {p : Addr} {o : HO} (h : H p = none) : Same H (upd H p o) := fun b u e => by
  rw [upd_ne (ne_of_none e h)]
  exact e
/-- the built-ins by name -/
structure Nm (mg : Str → Option Value) : Prop where
  len : mg "len" = none
  int : mg "int" = none
  bool : mg "bool" = none
  str : mg "str" = none
  tup : mg "tuple" = none
  lst : mg "list" = none
  all : mg "all" = none
  any : mg "any" = none
  max : mg "max" = none
  min : mg "min" = none
  set : mg "set" = none
  range : mg "range" = none
  isi : mg "isinstance" = none
  enm : mg "enumerate" = none
  repr : mg "repr" = none
theorem boot_all' : bootBuiltins "all" = some (.builtin "all") := by decide +kernel
theorem boot_bool' : bootBuiltins "bool" = some (.type "bool") := by decide +kernel
theorem boot_str' : bootBuiltins "str" = some (.type "str") := by decide +kernel
theorem boot_tup' : bootBuiltins "tuple" = some (.type "tuple") := by decide +kernel
/-- the constants of the module -/
structure Cst (K : Fg) (mg : Str → Option Value) (aS a1 a2 : Addr) : Prop where
  most : ∃ t, mg "MOST_STAGES" = some (.int 6 t)
  lett : ∃ t, mg "MOST_LETTERS" = some (.int 8 t)
  great : ∃ t, mg "GREATEST_NUMBER" = some (.int 4 t)
  gS : mg "SOURCES" = some (.ref aS)
  g1 : mg "STAGES_WITH_NAME" = some (.ref a1)
  g2 : mg "STAGES_WITH_NUMBER" = some (.ref a2)
  hS : ∀ H : Hp, SqT K H aS [.str "a", .str "b", .str "c", .str "d"]
  h1 : ∀ H : Hp, SqT K H a1 [.str "map", .str "keep", .str "while", .str "after"]
  h2 : ∀ H : Hp, SqT K H a2 [.str "take", .str "skip", .str "lots", .str "gather"]
/-! ### is_integer, is_name, is_stage_number -/
def spIsInt (K : Fg) : Sp := fun vs H Q _ => ∃ (v : V) (t : String) (b c : Bool), vs = [v] ∧ TyX K H v (.type t) ∧ kitB t "int" = some b ∧ kitB t "bool" = some c ∧ Q (.bl (b && !c)) H
def okSign (c : Nat) : Bool := decide (97 ≤ c) && decide (c ≤ 122)
def isNm (z : Str) : Bool := decide (1 ≤ z.length) && (decide (z.length ≤ 8) && z.cps.toList.all okSign)
def spIsName (K : Fg) : Sp := fun vs H Q _ => ∃ v : V, vs = [v] ∧
  ((∃ z : Str, v = .str z ∧ z.length ≤ 1000 ∧ ∀ H', Same H H' → Q (.bl (isNm z)) H') ∨ ∃ t : String, TyX K H v (.type t) ∧ kitB t "str" = some false ∧ Q (.bl false) H)
def okNum (i : Int) : Bool := decide (1 ≤ i) && decide (i ≤ 4)
def spIsNum (K : Fg) : Sp := fun vs H Q _ => ∃ v : V, vs = [v] ∧
  ((∃ i : Int, v = .int i ∧ Q (.bl (okNum i)) H) ∨ ∃ (t : String) (b c : Bool), TyX K H v (.type t) ∧ kitB t "int" = some b ∧ kitB t "bool" = some c ∧ (b && !c) = false ∧ Q (.bl false) H)
theorem scInt : FnScope ["value"] ["value"] (defScope sIsInt) := ⟨rfl, rfl, rfl, by decide +kernel, rfl, by decide +kernel, by decide +kernel⟩
theorem scName : FnScope ["value", "letter"] ["value"] (defScope sIsName) := ⟨rfl, rfl, rfl, by decide +kernel, rfl, by decide +kernel, by decide +kernel⟩
theorem scNum : FnScope ["value"] ["value"] (defScope sIsNum) := ⟨rfl, rfl, rfl, by decide +kernel, rfl, by decide +kernel, by decide +kernel⟩
theorem sign_le (a c : Nat) : (!decide ([c] < [a])) = decide (a ≤ c) := by
  have : ([c] < [a]) ↔ c < a := by
    constructor
    · intro h
      cases h with
      | rel h => exact h
      | cons h => cases h
    · intro h
      exact List.Lex.rel h
  by_cases h : a ≤ c
  · rw [decide_eq_true h, decide_eq_false]
    · rfl
    · rw [this]; omega
  · rw [decide_eq_false h, decide_eq_true]
    · rfl
    · rw [this]; omega
section
variable {P : Program} {w : World} {K : Fg} {mg : Str → Option Value} {base : Heap} {aS a1 a2 : Addr}
theorem ok_isInt {f : Addr} {fd : FuncData} (F : Fun K "is_integer" "is_integer" sIsInt f fd) (N : Nm mg) : FnOk P w K mg base CX0 1 f fd ["value"] (spIsInt K) := by
  refine F.ok scInt (fun vs H Q E h => ?_) (fun cdv A outer s H vs Q E hr h => ?_)
  · obtain ⟨v, t, b, c, rfl, _⟩ := h
    rfl
  · obtain ⟨v, t, b, c, rfl, ty, kb, kc, k⟩ := h
    refine ⟨_, pss_one (ps_ret (pe_and (pe_callB call_isi (by rfl) N.isi PyProof.Rows.boot_isinstance (pa_cons (pv 0) (pa_cons (pe_bltn (v := .ty "int") (by rfl) N.int PyProof.Rows.boot_int rfl) pa_nil)))
      (pe_one (pe_not (pe_callB call_isi (by rfl) N.isi PyProof.Rows.boot_isinstance (pa_cons (pv 0) (pa_cons (pe_bltn (v := .ty "bool") (by rfl) N.bool boot_bool' rfl) pa_nil))))))), ?_⟩
    refine ⟨_, rfl, v, .ty "int", .type t, .type "int", b, rfl, .ty _, ty, kit_ty kb, _, rfl, ?_⟩
    cases b with
    | false => exact iteF (A := True) k
    | true => exact iteT (B := True) ⟨_, rfl, v, .ty "bool", .type t, .type "bool", c, rfl, .ty _, ty, kit_ty kc, _, rfl, k⟩
theorem ok_isNum {f fI : Addr} {fd dI : FuncData} (F : Fun K "is_stage_number" "is_stage_number" sIsNum f fd) (N : Nm mg) (Z : Cst K mg aS a1 a2) (gI : mg "is_integer" = some (.ref fI)) (FI : Fun K "is_integer" "is_integer" sIsInt fI dI) (bI : Binds K dI ["value"] []) :
    FnOk P w K mg base CX0 2 f fd ["value"] (spIsNum K) := by
  have GI : FnOk P w K mg base CX0 1 fI dI ["value"] (spIsInt K) := ok_isInt FI N
  refine F.ok scNum (fun vs H Q E h => ?_) (fun cdv A outer s H vs Q E hr h => ?_)
  · obtain ⟨v, rfl, _⟩ := h
    rfl
  · obtain ⟨v, rfl, k⟩ := h
    obtain ⟨tg, hg⟩ := Z.great
    refine ⟨_, pss_one (ps_ret (pe_and (pe_call GI hr rfl gI FI.kp bI .nil pass0 (pa_cons (pv 0) pa_nil)) (pe_one (pe_chain op_le op_le pe_int (pv 0) (pe_glob (v := .int 4) rfl hg ⟨_, rfl⟩))))), ?_⟩
    rcases k with ⟨i, rfl, k⟩ | ⟨t, b, c, ty, kb, kc, e, k⟩
    · refine ⟨_, rfl, .int i, "int", true, false, rfl, .base (.int i), by decide +kernel, by decide +kernel, _, rfl, ?_⟩
      refine iteT (B := True) ⟨_, rfl, _, _, rfl, rfl, _, rfl, ?_⟩
      unfold okNum at k
      by_cases h1 : 1 ≤ i
      · rw [if_pos (decide_eq_true h1)]
        rw [decide_eq_true h1, Bool.true_and] at k
        exact ⟨_, _, rfl, rfl, k⟩
      · rw [if_neg (by rw [decide_eq_false h1]; exact Bool.false_ne_true)]
        rw [decide_eq_false h1, Bool.false_and] at k
        exact k
    · refine ⟨_, rfl, v, t, b, c, rfl, ty, kb, kc, _, rfl, ?_⟩
      rw [e]
      exact iteF (A := True) k
theorem ok_isName {f : Addr} {fd : FuncData} (F : Fun K "is_name" "is_name" sIsName f fd) (N : Nm mg) (Z : Cst K mg aS a1 a2) : FnOk P w K mg base CX0 1 f fd ["value"] (spIsName K) := by
  refine F.ok scName (fun vs H Q E h => ?_) (fun cdv A outer s H vs Q E hr h => ?_)
  · obtain ⟨v, rfl, _⟩ := h
    rfl
  · obtain ⟨v, rfl, k⟩ := h
    obtain ⟨tl, hl⟩ := Z.lett
    refine ⟨_, pss_one (ps_ret (pe_and (pe_callB call_isi (by rfl) N.isi PyProof.Rows.boot_isinstance (pa_cons (pv 0) (pa_cons (pe_bltn (v := .ty "str") (by rfl) N.str boot_str' rfl) pa_nil)))
      (pe_and (pe_chain op_le op_le pe_int (pe_callB call_len_str (by rfl) N.len PySem.boot_len (pa_cons (pv 0) pa_nil)) (pe_glob (v := .int 8) rfl hl ⟨_, rfl⟩))
      (pe_one (pe_callB (cr_all rfl) (by rfl) N.all boot_all' (pa_cons
        (pe_lc (own := [("letter", 1)]) (g := gName 1) (tt := tYes) rfl scName.nd (pi_str (pv 0)) (blkOk_by (N := ["value", "letter"]) (sc := defScope sIsName) (by decide +kernel))
          (fun _ _ _ _ _ => pg_name (i := 1) scName.nd rfl (Or.inl rfl)) (fun _ _ _ _ _ => pts_nil) (fun _ _ _ _ _ => by exact pe_chain op_le_str op_le_str pe_str (pv 1) pe_str)) pa_nil)))))), ?_⟩
    rcases k with ⟨z, rfl, hz, k⟩ | ⟨t, ty, kb, k⟩
    · refine ⟨_, rfl, .str z, .ty "str", .type "str", .type "str", true, rfl, .ty _, .base (.str z), kit_ty (by decide +kernel), _, rfl, ?_⟩
      refine iteT (B := True) ?_
      have hzl : z.length ≤ sizeLine := Nat.le_of_lt (small1000 hz)
      refine ⟨_, rfl, z, rfl, hzl, _, _, rfl, rfl, _, rfl, ?_⟩
      unfold isNm at k
      have nat1 : (1 : Int) ≤ (z.length : Int) ↔ 1 ≤ z.length := by omega
      have nat8 : (z.length : Int) ≤ 8 ↔ z.length ≤ 8 := by omega
      by_cases h1 : 1 ≤ z.length
      · rw [if_pos (decide_eq_true (nat1.mpr h1))]
        rw [decide_eq_true h1, Bool.true_and] at k
        refine ⟨_, _, rfl, rfl, _, rfl, ?_⟩
        by_cases h8 : z.length ≤ 8
        · rw [if_pos (decide_eq_true (nat8.mpr h8))]
          rw [decide_eq_true h8, Bool.true_and] at k
          refine ⟨_, rfl, z, rfl, fun D hD => ?_⟩
          refine lc_it walk_str (fun i H' => Same H H' ∧ H' D = some (.lst (((z.cps.toList.take i).map okSign).map V.bl))) ⟨same_new hD, upd_same⟩ (fun _ _ _ _ => trivial) ?_ ?_
          · rintro i x H1 H2 hi ⟨s1, h2⟩ ⟨rfl, c, hc, rfl⟩
            refine ⟨rfl, iteT (B := True) ⟨_, rfl, _, _, rfl, rfl, _, rfl, ?_⟩⟩
            have hcl : z.cps.toList[i]? = some c := by rw [Array.getElem?_toList]; exact hc
            have hlt : i < z.cps.toList.length := (List.getElem?_eq_some_iff.mp hcl).1
            have stp : ((z.cps.toList.take i).map okSign).map V.bl ++ [V.bl (okSign c)] = ((z.cps.toList.take (i + 1)).map okSign).map V.bl := by
              rw [List.take_add_one, hcl]
              simp
            have fin : ∀ b : Bool, b = okSign c → ∃ acc, H2 D = some (.lst acc) ∧ acc.length < sizeLine ∧ Same H (upd H2 D (.lst (acc ++ [.bl b]))) ∧ upd H2 D (.lst (acc ++ [.bl b])) D = some (.lst (((z.cps.toList.take (i + 1)).map okSign).map V.bl)) := by
              rintro b rfl
              refine ⟨_, h2, ?_, ?_, ?_⟩
              · rw [List.length_map, List.length_map, List.length_take]
                have : z.cps.toList.length = z.length := by rw [Array.length_toList]; rfl
                exact small1000 (by omega)
              · intro b o e
                have : b ≠ D := fun z => by rw [z, hD] at e; cases e
                rw [upd_ne this]
                exact s1 b o e
              · rw [upd_same, stp]
            have e1 : (!decide ((⟨#[c]⟩ : Str).cps.toList < ("a" : Str).cps.toList)) = decide (97 ≤ c) := sign_le 97 c
            have e2 : (!decide (("z" : Str).cps.toList < (⟨#[c]⟩ : Str).cps.toList)) = decide (c ≤ 122) := sign_le c 122
            by_cases l1 : 97 ≤ c
            · rw [if_pos (by rw [e1]; exact decide_eq_true l1)]
              refine ⟨_, _, rfl, rfl, ?_⟩
              refine fin _ ?_
              rw [e2]
              unfold okSign
              rw [decide_eq_true l1, Bool.true_and]
            · rw [if_neg (by rw [e1, decide_eq_false l1]; exact Bool.false_ne_true)]
              refine fin _ ?_
              unfold okSign
              rw [decide_eq_false l1, Bool.false_and]
          · rintro H1 ⟨s1, h2⟩
            refine ⟨D, (z.cps.toList.take z.cps.size).map okSign, rfl, SqL.of h2, ?_⟩
            have e : ((z.cps.toList.take z.cps.size).map okSign).any id = ((z.cps.toList.take z.cps.size).map okSign).any id := rfl
            have e3 : ((z.cps.toList.take z.cps.size).map okSign).all id = z.cps.toList.all okSign := by
              rw [List.take_of_length_le (by rw [Array.length_toList]; exact Nat.le_refl _), List.all_map]
              rfl
            rw [e3]
            exact k H1 s1
        · rw [if_neg (by rw [decide_eq_false (fun h => h8 (nat8.mp h))]; exact Bool.false_ne_true)]
          rw [decide_eq_false h8, Bool.false_and] at k
          exact k H (Same.refl H)
      · rw [if_neg (by rw [decide_eq_false (fun h => h1 (nat1.mp h))]; exact Bool.false_ne_true)]
        rw [decide_eq_false h1, Bool.false_and] at k
        exact ⟨_, rfl, iteF (A := True) (k H (Same.refl H))⟩
    · refine ⟨_, rfl, v, .ty "str", .type t, .type "str", false, rfl, .ty _, ty, kit_ty kb, _, rfl, ?_⟩
      exact iteF (A := True) k
end
end K02
set_option Elab.async false
set_option linter.all false
set_option maxRecDepth 100000
set_option maxHeartbeats 4000000
namespace K02
open PySem L2 VK
/-! ### programs and plans as data -/
mutual
inductive Sg where
  | nm (k n : Str)
  | num (k : Str) (n : Int)
  | flat
  | zip (p : Pg)
inductive Pg where
  | mk (s : Str) (l : Sgs)
inductive Sgs where
  | nil
  | cons (x : Sg) (r : Sgs)
end
def K1 : List Str := ["map", "keep", "while", "after"]
def K2 : List Str := ["take", "skip", "lots", "gather"]
def K0 : List Str := ["a", "b", "c", "d"]
mutual
/-- the depth behind a stage -/
def Sg.dep (d : Int) : Sg → Int
  | .nm k _ => if k = "map" then 0 else d
  | .num k _ => if k = "lots" then d + 1 else d
  | .flat => d - 1
  | .zip p => (if p.dep < d then p.dep else d) + 1
def Pg.dep : Pg → Int
  | .mk _ l => l.dep 0
def Sgs.dep (d : Int) : Sgs → Int
  | .nil => d
  | .cons x r => r.dep (x.dep d)
end
mutual
def Sg.srcs : Sg → List Str
  | .nm _ _ => []
  | .num _ _ => []
  | .flat => []
  | .zip p => p.srcs
def Pg.srcs : Pg → List Str
  | .mk s l => s :: l.srcs
def Sgs.srcs : Sgs → List Str
  | .nil => []
  | .cons x r => x.srcs ++ r.srcs
end
def Sgs.len : Sgs → Nat
  | .nil => 0
  | .cons _ r => r.len + 1
mutual
/-- how deep zips stand in zips -/
def Sg.nest : Sg → Nat
  | .nm _ _ => 0
  | .num _ _ => 0
  | .flat => 0
  | .zip p => p.nest + 1
def Pg.nest : Pg → Nat
  | .mk _ l => l.nest
def Sgs.nest : Sgs → Nat
  | .nil => 0
  | .cons x r => max x.nest r.nest
end
mutual
def Sg.ok (d : Int) (taken : List Str) : Sg → Prop
  | .nm k n => k ∈ K1 ∧ isNm n = true
  | .num k n => k ∈ K2 ∧ 1 ≤ n ∧ n ≤ 4
  | .flat => 0 < d
  | .zip p => p.ok ∧ ∀ s ∈ p.srcs, s ∉ taken
def Pg.ok : Pg → Prop
  | .mk s l => s ∈ K0 ∧ l.len ≤ 6 ∧ l.ok 0 [s]
def Sgs.ok (d : Int) (taken : List Str) : Sgs → Prop
  | .nil => True
  | .cons x r => x.ok d taken ∧ r.ok (x.dep d) (taken ++ x.srcs)
end
/-- an object of the class -/
def flds (s : Str) (ts ss : Addr) (d : Int) : List (Str × V) := putF "_depth" (.int d) (putF "_sources" (.ref ss) (putF "_stages" (.ref ts) (putF "_source" (.str s) [])))
theorem f1 : ¬ (("_source" : Str) = "_stages") := by decide +kernel
theorem f2 : ¬ (("_source" : Str) = "_sources") := by decide +kernel
theorem f3 : ¬ (("_source" : Str) = "_depth") := by decide +kernel
theorem f4 : ¬ (("_stages" : Str) = "_sources") := by decide +kernel
theorem f5 : ¬ (("_stages" : Str) = "_depth") := by decide +kernel
theorem f6 : ¬ (("_sources" : Str) = "_depth") := by decide +kernel
section
variable (s : Str) (ts ss : Addr) (d : Int)
theorem get_source : (flds s ts ss d).lookup ("_source" : Str) = some (.str s) := by
  unfold flds
  rw [lookup_putF, if_neg f3, lookup_putF, if_neg f2, lookup_putF, if_neg f1, lookup_putF, if_pos rfl]
theorem get_stages : (flds s ts ss d).lookup ("_stages" : Str) = some (.ref ts) := by
  unfold flds
  rw [lookup_putF, if_neg f5, lookup_putF, if_neg f4, lookup_putF, if_pos rfl]
theorem get_sources : (flds s ts ss d).lookup ("_sources" : Str) = some (.ref ss) := by
  unfold flds
  rw [lookup_putF, if_neg f6, lookup_putF, if_pos rfl]
theorem get_depth : (flds s ts ss d).lookup ("_depth" : Str) = some (.int d) := by
  unfold flds
  rw [lookup_putF, if_pos rfl]
end
mutual
/-- a Program at a -/
inductive PgAt (K : Fg) (C : Addr) (H : Hp) : V → Pg → Prop where
  | mk {a dx ts ss : Addr} {s : Str} {l : Sgs} {xs : List V} (h : H a = some (.ins C dx (flds s ts ss (l.dep 0)))) (hs : SqT K H ts xs) (hl : StAll K C H xs l)
      (hr : SqT K H ss ((s :: l.srcs).map V.str)) : PgAt K C H (.ref a) (.mk s l)
/-- a stage as a tuple -/
inductive StV (K : Fg) (C : Addr) (H : Hp) : V → Sg → Prop where
  | nm {a : Addr} {k n : Str} (h : SqT K H a [.str k, .str n]) : StV K C H (.ref a) (.nm k n)
  | num {a : Addr} {k : Str} {n : Int} (h : SqT K H a [.str k, .int n]) : StV K C H (.ref a) (.num k n)
  | flat {a : Addr} (h : SqT K H a [.str "flat"]) : StV K C H (.ref a) .flat
  | zip {a : Addr} {v : V} {p : Pg} (h : SqT K H a [.str "zip", v]) (hp : PgAt K C H v p) : StV K C H (.ref a) (.zip p)
inductive StAll (K : Fg) (C : Addr) (H : Hp) : List V → Sgs → Prop where
  | nil : StAll K C H [] .nil
  | cons {v : V} {vs : List V} {x : Sg} {r : Sgs} (h : StV K C H v x) (t : StAll K C H vs r) : StAll K C H (v :: vs) (.cons x r)
end
mutual
/-- a plan of the law: tuples alone -/
inductive PlAt (K : Fg) (H : Hp) : V → Pg → Prop where
  | mk {a b : Addr} {s : Str} {l : Sgs} {xs : List V} (h : SqT K H a [.str s, .ref b]) (hs : SqT K H b xs) (hl : PsAll K H xs l) : PlAt K H (.ref a) (.mk s l)
inductive PsV (K : Fg) (H : Hp) : V → Sg → Prop where
  | nm {a : Addr} {k n : Str} (h : SqT K H a [.str k, .str n]) : PsV K H (.ref a) (.nm k n)
  | num {a : Addr} {k : Str} {n : Int} (h : SqT K H a [.str k, .int n]) : PsV K H (.ref a) (.num k n)
  | flat {a : Addr} (h : SqT K H a [.str "flat"]) : PsV K H (.ref a) .flat
  | zip {a : Addr} {v : V} {p : Pg} (h : SqT K H a [.str "zip", v]) (hp : PlAt K H v p) : PsV K H (.ref a) (.zip p)
inductive PsAll (K : Fg) (H : Hp) : List V → Sgs → Prop where
  | nil : PsAll K H [] .nil
  | cons {v : V} {vs : List V} {x : Sg} {r : Sgs} (h : PsV K H v x) (t : PsAll K H vs r) : PsAll K H (v :: vs) (.cons x r)
end
/-! ### what stays: tuples, objects, what is locked -/
def fixd : HO → Bool
  | .tup _ => true
  | .ins _ _ _ => true
  | .frz _ _ => true
  | _ => false
def Kp (H H' : Hp) : Prop := ∀ b o, H b = some o → fixd o = true → H' b = some o
theorem Kp.refl (H : Hp) : Kp H H := fun _ _ h _ => h
theorem Kp.trans {H H1 H2 : Hp} (a : Kp H H1) (b : Kp H1 H2) : Kp H H2 := fun c o h f => b c o (a c o h f) f
theorem Kp.of {H H' : Hp} (s : Same H H') : Kp H H' := fun b o h _ => s b o h
theorem Kp.tup {K : Fg} {H H' : Hp} (k : Kp H H') {a : Addr} {xs : List V} (h : SqT K H a xs) : SqT K H' a xs := by
  rcases h with (h | ⟨o, h⟩) | h
  · exact .inl (.inl (k _ _ h rfl))
  · exact .inl (.inr ⟨o, k _ _ h rfl⟩)
  · exact .inr h
section
variable {K : Fg} {C : Addr} {H H' : Hp}
mutual
theorem PgAt.kp (k : Kp H H') : ∀ {v : V} {p : Pg}, PgAt K C H v p → PgAt K C H' v p
  | _, _, .mk h hs hl hr => .mk (k _ _ h rfl) (k.tup hs) (StAll.kp k hl) (k.tup hr)
theorem StV.kp (k : Kp H H') : ∀ {v : V} {x : Sg}, StV K C H v x → StV K C H' v x
  | _, _, .nm h => .nm (k.tup h)
  | _, _, .num h => .num (k.tup h)
  | _, _, .flat h => .flat (k.tup h)
  | _, _, .zip h hp => .zip (k.tup h) (PgAt.kp k hp)
theorem StAll.kp (k : Kp H H') : ∀ {vs : List V} {l : Sgs}, StAll K C H vs l → StAll K C H' vs l
  | _, _, .nil => .nil
  | _, _, .cons h t => .cons (StV.kp k h) (StAll.kp k t)
end
mutual
theorem PlAt.kp (k : Kp H H') : ∀ {v : V} {p : Pg}, PlAt K H v p → PlAt K H' v p
  | _, _, .mk h hs hl => .mk (k.tup h) (k.tup hs) (PsAll.kp k hl)
theorem PsV.kp (k : Kp H H') : ∀ {v : V} {x : Sg}, PsV K H v x → PsV K H' v x
  | _, _, .nm h => .nm (k.tup h)
  | _, _, .num h => .num (k.tup h)
  | _, _, .flat h => .flat (k.tup h)
  | _, _, .zip h hp => .zip (k.tup h) (PlAt.kp k hp)
theorem PsAll.kp (k : Kp H H') : ∀ {vs : List V} {l : Sgs}, PsAll K H vs l → PsAll K H' vs l
  | _, _, .nil => .nil
  | _, _, .cons h t => .cons (PsV.kp k h) (PsAll.kp k t)
end
theorem StAll.len : ∀ {vs : List V} {l : Sgs}, StAll K C H vs l → vs.length = l.len
  | _, _, .nil => rfl
  | _, _, .cons _ t => by
    show _ + 1 = _ + 1
    rw [StAll.len t]
theorem PsAll.len : ∀ {vs : List V} {l : Sgs}, PsAll K H vs l → vs.length = l.len
  | _, _, .nil => rfl
  | _, _, .cons _ t => by
    show _ + 1 = _ + 1
    rw [PsAll.len t]
end
/-- what isinstance(.., Program) asks of the class -/
structure Cl (K : Fg) (mg : Str → Option Value) (C : Addr) : Prop where
  cl : Cls K C
  g : mg "Program" = some (.ref C)
  ha : PySem.W.findIn K (.ref C) "__class__" = some (some (.builtin "object.__class__"))
  hn : PySem.W.specialIn K (.builtin "object.__class__") "__get__" = some (some (.builtin "getset_descriptor.__get__"))
  htk : PySem.W.takesIn K (.builtin "object.__class__") = some true
  hm : PySem.W.mroIn K C (.type "object") = some true
  kt : PySem.W.kitOne K (.type "tuple") (.ref C) = some false
  kc : PySem.W.kitOne K (.ref C) (.ref C) = some true
  ct : PySem.W.kitOne K (.ref C) (.type "tuple") = some false
  n1 : NoAttr K C "_source"
  n2 : NoAttr K C "_stages"
  n3 : NoAttr K C "_sources"
  n4 : NoAttr K C "_depth"
/-- what is_stage says of a pair's second -/
inductive Det (K : Fg) (C : Addr) (H : Hp) : Str → V → Bool → Prop where
  | nm {k n : Str} (hk : k ∈ K1) (l : n.length ≤ 1000) : Det K C H k (.str n) (isNm n)
  | num {k : Str} {i : Int} (hk : k ∈ K2) : Det K C H k (.int i) (okNum i)
  | zip {d : V} {t : Value} {b : Bool} (ty : TyX K H d t) (kt : PySem.W.kitOne K t (.ref C) = some b) : Det K C H "zip" d b
/-- what is_stage says -/
inductive IsSt (K : Fg) (C : Addr) (H : Hp) : V → Bool → Prop where
  | other {v : V} {t : Value} (ty : TyX K H v t) (kt : PySem.W.kitOne K t (.type "tuple") = some false) : IsSt K C H v false
  | none {a : Addr} (h : SqT K H a []) : IsSt K C H (.ref a) false
  | one {a : Addr} {k : Str} (h : SqT K H a [.str k]) : IsSt K C H (.ref a) (decide (V.str k = V.str "flat"))
  | two {a : Addr} {k : Str} {d : V} {b : Bool} (h : SqT K H a [.str k, d]) (e : Det K C H k d b) : IsSt K C H (.ref a) b
end K02
set_option Elab.async false
set_option linter.all false
set_option maxRecDepth 100000
set_option maxHeartbeats 4000000
namespace K02
open PySem L2 VK
theorem Cl.ty {K : Fg} {mg : Str → Option Value} {C : Addr} (c : Cl K mg C) {H : Hp} {a dx : Addr} {fs : List (Str × V)} (e : H a = some (.ins C dx fs)) : TyX K H (.ref a) (.ref C) :=
  .base (.ins e c.cl c.ha c.hn c.htk c.hm)
theorem TyX.same {K : Fg} {H H' : Hp} {v : V} {t : Value} (ty : TyX K H v t) (s : Same H H') : TyX K H' v t := by
  cases ty with
  | base h =>
    cases h with
    | non => exact .base .non
    | bl x => exact .base (.bl x)
    | int x => exact .base (.int x)
    | str x => exact .base (.str x)
    | flt x => exact .base (.flt x)
    | lst e => exact .base (.lst (s _ _ e))
    | frz e => exact .base (.frz (s _ _ e))
    | tup e => exact .base (.tup (s _ _ e))
    | dK e => exact .base (.dK (s _ _ e))
    | dT e => exact .base (.dT (s _ _ e))
    | ins e cl ha hn htk hm => exact .base (.ins (s _ _ e) cl ha hn htk hm)
  | byt b => exact .byt b
  | set e => exact .set (s _ _ e)
  | kList e c => exact .kList e c
  | kTuple e c => exact .kTuple e c
  | kDict e c => exact .kDict e c
  | fTuple e => exact .fTuple (s _ _ e)
  | fDict e => exact .fDict (s _ _ e)
theorem tyT {K : Fg} {H : Hp} {a : Addr} {xs : List V} (h : SqT K H a xs) : TyX K H (.ref a) (.type "tuple") := by
  rcases h with (h | ⟨o, h⟩) | h
  · exact .base (.tup h)
  · exact .fTuple h
  · obtain ⟨o, _, _, e, c, _⟩ := h
    exact .kTuple e c
theorem in_true {z : Str} {ws : List Str} (h : z ∈ ws) : inV (.str z) (ws.map V.str) = true := by
  unfold inV
  rw [List.any_map, List.any_eq_true]
  exact ⟨z, h, by show eqV (.str z) (.str z) = true; exact decide_eq_true rfl⟩
theorem in_false {z : Str} {ws : List Str} (h : z ∉ ws) : inV (.str z) (ws.map V.str) = false := by
  unfold inV
  rw [List.any_map, List.any_eq_false]
  intro y hy e
  exact h (by
    have : y = z := of_decide_eq_true e
    rw [← this]; exact hy)

def spIsStage (K : Fg) (C : Addr) : Sp := fun vs H Q _ => ∃ (v : V) (b : Bool), vs = [v] ∧ IsSt K C H v b ∧ ∀ H', Same H H' → Q (.bl b) H'
theorem scStage : FnScope ["value", "kind", "detail"] ["value"] (defScope sIsStage) := ⟨rfl, rfl, rfl, by decide +kernel, rfl, by decide +kernel, by decide +kernel⟩
theorem isNm_len {n : Str} (h : isNm n = true) : n.length ≤ 1000 := by
  unfold isNm at h
  rw [Bool.and_eq_true, Bool.and_eq_true, decide_eq_true_eq, decide_eq_true_eq] at h
  omega
section
variable {P : Program} {w : World} {K : Fg} {mg : Str → Option Value} {base : Heap} {aS a1 a2 C : Addr}
theorem ok_isStage {f fN fM fI : Addr} {fd dN dM dI : FuncData} (F : Fun K "is_stage" "is_stage" sIsStage f fd) (N : Nm mg) (Z : Cst K mg aS a1 a2) (c : Cl K mg C)
    (gI : mg "is_integer" = some (.ref fI)) (FI : Fun K "is_integer" "is_integer" sIsInt fI dI) (bI : Binds K dI ["value"] [])
    (gN : mg "is_name" = some (.ref fN)) (FN : Fun K "is_name" "is_name" sIsName fN dN) (bN : Binds K dN ["value"] [])
    (gM : mg "is_stage_number" = some (.ref fM)) (FM : Fun K "is_stage_number" "is_stage_number" sIsNum fM dM) (bM : Binds K dM ["value"] []) :
    FnOk P w K mg base CX0 3 f fd ["value"] (spIsStage K C) := by
  have GN : FnOk P w K mg base CX0 1 fN dN ["value"] (spIsName K) := ok_isName FN N Z
  have GM : FnOk P w K mg base CX0 2 fM dM ["value"] (spIsNum K) := ok_isNum FM N Z gI FI bI
  refine F.ok scStage (fun vs H Q E h => ?_) (fun cdv A outer s H vs Q E hr h => ?_)
  · obtain ⟨v, b, rfl, _⟩ := h
    rfl
  · obtain ⟨v, b, rfl, hv, k⟩ := h
    have hr1 := hr.mono (show 1 ≤ 2 by decide)
    refine ⟨_, pss_cons (ps_if (PW.pt (pw_or (pt_not (pt_val (pe_callB call_isi (by rfl) N.isi PyProof.Rows.boot_isinstance (pa_cons (pv 0) (pa_cons (pe_bltn (v := .ty "tuple") (by rfl) N.tup boot_tup' rfl) pa_nil)))))
        (pw_or1 (pt_cmpR op_notIn_seq (pe_callB call_len_seq (by rfl) N.len PySem.boot_len (pa_cons (pv 0) pa_nil)) (pe_tup (pa_cons pe_int (pa_cons pe_int pa_nil))) rfl))))
        (pss_one (ps_ret pe_bl)) pss_nil)
      (pss_cons (ps_if (pt_cmpR op_eq (pe_callB call_len_seq (by rfl) N.len PySem.boot_len (pa_cons (pv 0) pa_nil)) pe_int (nomark _))
        (pss_one (ps_ret (pe_cmpR op_eq (pe_ix ix_tup (pv 0) pe_int (fun _ _ => rfl)) pe_str (nomark _)))) pss_nil)
      (pss_cons (ps_asg (pv 0) (pg_tup rfl (pgs_cons (pg_name (i := 1) scStage.nd rfl (Or.inl rfl)) (pgs_cons (pg_name (i := 2) scStage.nd rfl (Or.inl rfl)) pgs_nil))))
      (pss_cons (ps_if (pt_cmpR op_in_seq (pv 1) (pe_glob (v := .ref a1) rfl Z.g1 rfl) rfl)
        (pss_one (ps_ret (pe_call GN hr1 rfl gN FN.kp bN .nil pass0 (pa_cons (pv 2) pa_nil)))) pss_nil)
      (pss_cons (ps_if (pt_cmpR op_in_seq (pv 1) (pe_glob (v := .ref a2) rfl Z.g2 rfl) rfl)
        (pss_one (ps_ret (pe_call GM hr rfl gM FM.kp bM .nil pass0 (pa_cons (pv 2) pa_nil)))) pss_nil)
      (pss_one (ps_ret (pe_and (pe_cmpR op_eq (pv 1) pe_str (nomark _)) (pe_one (pe_callB call_isi (by rfl) N.isi PyProof.Rows.boot_isinstance (pa_cons (pv 2) (pa_cons (pe_glob (v := .ref C) rfl c.g rfl) pa_nil))))))))))), ?_⟩
    have ktt : PySem.W.kitOne K (.type "tuple") (.type "tuple") = some true := kit_ty (by decide +kernel)
    cases hv with
    | other ty kt => exact ⟨_, rfl, v, .ty "tuple", _, .type "tuple", false, rfl, .ty _, ty, kt, _, rfl, iteT (B := True) (k H (Same.refl H))⟩
    | @none a h =>
      refine ⟨_, rfl, .ref a, .ty "tuple", .type "tuple", .type "tuple", true, rfl, .ty _, tyT h, ktt, _, rfl, ?_⟩
      refine iteF (A := True) ?_
      refine ⟨_, rfl, a, [], rfl, .inr h, by show 2 ≤ sizeLine; decide, fun p hp => ?_⟩
      exact ⟨p, _, rfl, .inr (.inl (.inl upd_same)), rfl, rfl, _, rfl, k _ (same_new hp)⟩
    | @one a kd h =>
      refine ⟨_, rfl, .ref a, .ty "tuple", .type "tuple", .type "tuple", true, rfl, .ty _, tyT h, ktt, _, rfl, ?_⟩
      refine iteF (A := True) ?_
      refine ⟨_, rfl, a, _, rfl, .inr h, by show 2 ≤ sizeLine; decide, fun p hp => ?_⟩
      refine ⟨p, _, rfl, .inr (.inl (.inl upd_same)), rfl, rfl, _, rfl, ?_⟩
      refine ⟨_, rfl, a, _, rfl, .inr ((Kp.of (same_new hp)).tup h), rfl, _, rfl, ?_⟩
      refine iteT (B := True) ?_
      exact ⟨_, rfl, a, _, _, _, rfl, rfl, (Kp.of (same_new hp)).tup h, rfl, rfl, k _ (same_new hp)⟩
    | @two a kd d b h e => 
      refine ⟨_, rfl, .ref a, .ty "tuple", .type "tuple", .type "tuple", true, rfl, .ty _, tyT h, ktt, _, rfl, ?_⟩
      refine iteF (A := True) ?_
      refine ⟨_, rfl, a, _, rfl, .inr h, by show 2 ≤ sizeLine; decide, fun p hp => ?_⟩
      refine ⟨p, _, rfl, .inr (.inl (.inl upd_same)), rfl, rfl, _, rfl, ?_⟩
      have s1 := same_new (o := .tup [.int 1, .int 2]) hp
      have h1 := (Kp.of s1).tup h
      refine ⟨_, rfl, a, _, rfl, .inr h1, rfl, _, rfl, ?_⟩
      refine iteF (A := True) ?_
      refine ⟨_, rfl, a, _, rfl, h1, rfl, _, _, rfl, _, _, rfl, rfl, ?_⟩
      have n12 : ∀ z ∈ K2, z ∉ K1 := by decide +kernel
      cases e with
      | @nm _ n hk l =>
        refine ⟨_, rfl, a1, _, rfl, .inr (Z.h1 _), rfl, rfl, _, rfl, ?_⟩
        rw [show inV (.str kd) [.str "map", .str "keep", .str "while", .str "after"] = true from in_true (ws := K1) hk]
        refine iteT (B := True) ⟨_, rfl, _, rfl, .inl ⟨n, rfl, l, fun H' s2 => k H' (s1.trans s2)⟩⟩
      | @num _ i hk =>
        refine ⟨_, rfl, a1, _, rfl, .inr (Z.h1 _), rfl, rfl, _, rfl, ?_⟩
        rw [show inV (.str kd) [.str "map", .str "keep", .str "while", .str "after"] = false from in_false (ws := K1) (n12 _ hk)]
        refine iteF (A := True) ?_
        refine ⟨_, rfl, a2, _, rfl, .inr (Z.h2 _), rfl, rfl, _, rfl, ?_⟩
        rw [show inV (.str kd) [.str "take", .str "skip", .str "lots", .str "gather"] = true from in_true (ws := K2) hk]
        refine iteT (B := True) ⟨_, rfl, _, rfl, .inl ⟨i, rfl, k _ s1⟩⟩
      | @zip _ t _ ty kt =>
        refine ⟨_, rfl, a1, _, rfl, .inr (Z.h1 _), rfl, rfl, _, rfl, ?_⟩
        rw [show inV (.str "zip") [.str "map", .str "keep", .str "while", .str "after"] = false from in_false (ws := K1) (by decide +kernel)]
        refine iteF (A := True) ?_
        refine ⟨_, rfl, a2, _, rfl, .inr (Z.h2 _), rfl, rfl, _, rfl, ?_⟩
        rw [show inV (.str "zip") [.str "take", .str "skip", .str "lots", .str "gather"] = false from in_false (ws := K2) (by decide +kernel)]
        refine iteF (A := True) ?_
        refine ⟨_, rfl, rfl, _, rfl, ?_⟩
        refine iteT (B := True) ?_
        refine ⟨_, rfl, d, .ref C, _, .ref C, b, rfl, .own C, TyX.same ty s1, kt, k _ s1⟩
end
end K02
set_option Elab.async false
set_option linter.all false
set_option maxRecDepth 100000
set_option maxHeartbeats 4000000
namespace K02
open PySem L2 VK
abbrev sSrcs : Stmt := top 17
abbrev sCan : Stmt := top 18
abbrev sDep : Stmt := top 19
abbrev sIsPos : Stmt := top 20
abbrev sArePos : Stmt := top 21
/-! ### a comprehension that only makes new things -/
def lcI (H1 : Hp) (D : Addr) (ys : List V) (i : Nat) (H : Hp) : Prop := Same H1 H ∧ H D = some (.lst (ys.take i))
theorem lcI0 {H1 : Hp} {D : Addr} {ys : List V} (hD : H1 D = none) : lcI H1 D ys 0 (upd H1 D (.lst [])) := ⟨same_new hD, by rw [upd_same]; rfl⟩
theorem lc_step {H1 H4 : Hp} {D : Addr} {ys : List V} {i : Nat} {y : V} (hD : H1 D = none) (s : Same H1 H4) (e : H4 D = some (.lst (ys.take i))) (hy : ys[i]? = some y) (hz : ys.length < sizeLine) :
    ∃ acc, H4 D = some (.lst acc) ∧ acc.length < sizeLine ∧ lcI H1 D ys (i + 1) (upd H4 D (.lst (acc ++ [y]))) := by
  refine ⟨_, e, ?_, ?_, ?_⟩
  · rw [List.length_take]
    omega
  · intro b o h
    have : b ≠ D := fun z => by rw [z, hD] at h; cases h
    rw [upd_ne this]
    exact s b o h
  · rw [upd_same, List.take_add_one, hy]
    rfl
theorem lcI.done {H1 H : Hp} {D : Addr} {ys : List V} {n : Nat} (h : lcI H1 D ys n H) (e : ys.length = n) : Same H1 H ∧ H D = some (.lst ys) := by
  refine ⟨h.1, ?_⟩
  rw [h.2, List.take_of_length_le (by omega)]
theorem boot_any' : bootBuiltins "any" = some (.builtin "any") := by decide +kernel
theorem in_dec (z : Str) (ws : List Str) : inV (.str z) (ws.map V.str) = decide (z ∈ ws) := by
  by_cases h : z ∈ ws
  · rw [decide_eq_true h, in_true h]
  · rw [decide_eq_false h, in_false h]
theorem all_flat (ws : List Str) : (ws.map V.str).all flatV = true := by
  rw [List.all_map, List.all_eq_true]
  exact fun _ _ => rfl
theorem boot_min' : bootBuiltins "min" = some (.builtin "min") := by decide +kernel
theorem dif {A B c : Prop} [i : Decidable c] (h1 : c → A) (h2 : ¬ c → B) : if decide c = true then A else B := by
  by_cases h : c
  · rw [if_pos (decide_eq_true h)]
    exact h1 h
  · rw [if_neg (by rw [decide_eq_false h]; exact Bool.false_ne_true)]
    exact h2 h
/-! ### the properties -/
def Prp (P : Program) (w : World) (K : Fg) (mg : Str → Option Value) (base : Heap) (C : Addr) (f g : Str) : Prop :=
  ∃ (p ga : Addr) (fd : FuncData), PropOf K C f p ga ∧ FnOk P w K mg base CX0 1 ga fd ["self"] (getSp C g) ∧ Binds K fd ["self"] []
/-- the stages as they are called with -/
def Sg.wf : Sg → Prop
  | .nm k _ => k ∈ K1
  | .num k _ => k ∈ K2
  | _ => True
def Sg.can (d : Int) (tk : List Str) : Sg → Bool
  | .flat => decide (0 < d)
  | x => !(x.srcs.any fun s => decide (s ∈ tk))
def spSrcs (K : Fg) (C : Addr) : Sp := fun vs H Q _ => ∃ (v : V) (x : Sg), vs = [v] ∧ StV K C H v x ∧ x.wf ∧ ∀ ss H', Same H H' → SqT K H' ss (x.srcs.map V.str) → Q (.ref ss) H'
def spCan (K : Fg) (C : Addr) : Sp := fun vs H Q _ => ∃ (v : V) (x : Sg) (d : Int) (l : Addr) (tk : List Str), vs = [v, .int d, .ref l] ∧ StV K C H v x ∧ x.wf ∧ x.srcs.length ≤ 1000 ∧ SqL K H l (tk.map V.str) ∧ ∀ H', Same H H' → Q (.bl (x.can d tk)) H'
def spDep (K : Fg) (C : Addr) : Sp := fun vs H Q _ => ∃ (v : V) (x : Sg) (d : Int), vs = [v, .int d] ∧ StV K C H v x ∧ x.wf ∧ Q (.int (x.dep d)) H
theorem scSrcs : FnScope ["stage"] ["stage"] (defScope sSrcs) := ⟨rfl, rfl, rfl, by decide +kernel, rfl, by decide +kernel, by decide +kernel⟩
theorem scCan : FnScope ["stage", "depth", "sources", "source"] ["stage", "depth", "sources"] (defScope sCan) := ⟨rfl, rfl, rfl, by decide +kernel, rfl, by decide +kernel, by decide +kernel⟩
theorem scDep : FnScope ["stage", "depth", "kind"] ["stage", "depth"] (defScope sDep) := ⟨rfl, rfl, rfl, by decide +kernel, rfl, by decide +kernel, by decide +kernel⟩
/-- a stage's kind, and what stands behind it -/
def Sg.kd : Sg → Str
  | .nm k _ => k
  | .num k _ => k
  | .flat => "flat"
  | .zip _ => "zip"
theorem StV.at0 {K : Fg} {C : Addr} {H : Hp} {v : V} {x : Sg} (h : StV K C H v x) : ∃ a r, v = .ref a ∧ SqT K H a (.str x.kd :: r) := by
  cases h with
  | nm h => exact ⟨_, _, rfl, h⟩
  | num h => exact ⟨_, _, rfl, h⟩
  | flat h => exact ⟨_, _, rfl, h⟩
  | zip h _ => exact ⟨_, _, rfl, h⟩
theorem kd_eq (a b : Str) : decide (V.str a = V.str b) = decide (a = b) := by
  by_cases h : a = b
  · rw [h]; simp
  · rw [decide_eq_false h, decide_eq_false (fun e => h (V.str.inj e))]
section
variable {P : Program} {w : World} {K : Fg} {mg : Str → Option Value} {base : Heap} {aS a1 a2 C : Addr}
theorem ok_srcs {f : Addr} {fd : FuncData} (F : Fun K "sources_of_stage" "sources_of_stage" sSrcs f fd) (c : Cl K mg C) (pp : Prp P w K mg base C "sources" "_sources") :
    FnOk P w K mg base CX0 3 f fd ["stage"] (spSrcs K C) := by
  obtain ⟨p, ga, gd, po, G, gb⟩ := pp
  refine F.ok scSrcs (fun vs H Q E h => ?_) (fun cdv A outer s H vs Q E hr h => ?_)
  · obtain ⟨v, b, rfl, _⟩ := h
    rfl
  · obtain ⟨v, x, rfl, hv, wf, k⟩ := h
    refine ⟨_, pss_one (ps_ret (pe_ifExp (pt_cmpR op_eq (pe_ix ix_tup (pv 0) pe_int (fun _ _ => rfl)) pe_str (nomark _))
      (pe_prop (pe_ix ix_tup (pv 0) pe_int (fun _ _ => rfl)) c.cl po G hr gb .nil pass0 rfl) (pe_tup pa_nil))), ?_⟩
    obtain ⟨a, r, rfl, ha⟩ := hv.at0
    refine ⟨_, rfl, a, _, _, .str x.kd, rfl, rfl, ha, at_of (j := 0) rfl rfl, rfl, _, rfl, ?_⟩
    rw [kd_eq]
    by_cases e : x.kd = "zip"
    · rw [decide_eq_true e]
      refine iteT (B := True) ?_
      cases hv with
      | nm h => exact absurd e ((by decide +kernel : ∀ z ∈ K1, ¬ (z = "zip")) _ wf)
      | num h => exact absurd e ((by decide +kernel : ∀ z ∈ K2, ¬ (z = "zip")) _ wf)
      | flat h => exact absurd e (by decide +kernel)
      | zip h hp =>
        cases hp with
        | @mk a dx ts ss s l xs h1 h2 h3 h4 =>
          exact ⟨_, rfl, _, _, _, _, rfl, rfl, h, rfl, _, _, _, rfl, h1, _, _, _, _, rfl, h1, get_sources _ _ _ _, k _ _ (Same.refl H) h4⟩
    · rw [decide_eq_false e]
      refine iteF (A := True) ?_
      refine ⟨by decide, fun q hq => k _ _ (same_new hq) ?_⟩
      cases hv with
      | nm h => exact .inl (.inl upd_same)
      | num h => exact .inl (.inl upd_same)
      | flat h => exact .inl (.inl upd_same)
      | zip h hp => exact absurd rfl e
theorem ok_can {f fs : Addr} {fd ds : FuncData} (F : Fun K "can_stand" "can_stand" sCan f fd) (N : Nm mg) (c : Cl K mg C) (pp : Prp P w K mg base C "sources" "_sources")
    (gS : mg "sources_of_stage" = some (.ref fs)) (FS : Fun K "sources_of_stage" "sources_of_stage" sSrcs fs ds) (bS : Binds K ds ["stage"] []) :
    FnOk P w K mg base CX0 4 f fd ["stage", "depth", "sources"] (spCan K C) := by
  have G : FnOk P w K mg base CX0 3 fs ds ["stage"] (spSrcs K C) := ok_srcs FS c pp
  refine F.ok scCan (fun vs H Q E h => ?_) (fun cdv A outer s H vs Q E hr h => ?_)
  · obtain ⟨v, x, d, l, tk, rfl, _⟩ := h
    rfl
  · obtain ⟨v, x, d, l, tk, rfl, hv, wf, hl, ht, k⟩ := h
    refine ⟨_, pss_cons (ps_if (pt_cmpR op_eq (pe_ix ix_tup (pv 0) pe_int (fun _ _ => rfl)) pe_str (nomark _)) (pss_one (ps_ret (pe_cmpR op_gt (pv 1) pe_int (nomark _)))) pss_nil)
      (pss_one (ps_ret (pe_not (pe_callB (cr_any rfl) (by rfl) N.any boot_any' (pa_cons
        (pe_lc (own := [("source", 3)]) (g := gName 3) (tt := tYes) (te := tOp (rIn K false) (tVar 3) (tVar 2)) rfl scCan.nd (pi_tup (pe_call G hr rfl gS FS.kp bS .nil pass0 (pa_cons (pv 0) pa_nil)))
          (blkOk_by (N := ["stage", "depth", "sources", "source"]) (sc := defScope sCan) (by decide +kernel)) (fun _ _ _ _ _ => pg_name (i := 3) scCan.nd rfl (Or.inl rfl)) (fun _ _ _ _ _ => pts_nil)
          (fun _ _ _ _ _ => by exact pe_cmpR op_in_seq (pv 3) (pv 2) rfl)) pa_nil))))), ?_⟩
    obtain ⟨a, r, rfl, ha⟩ := hv.at0
    refine ⟨_, rfl, a, _, _, .str x.kd, rfl, rfl, ha, at_of (j := 0) rfl rfl, rfl, _, rfl, ?_⟩
    rw [kd_eq]
    have walk : (x.kd = "flat" → x = .flat) ∧ (x.kd ≠ "flat" → x.can d tk = !(x.srcs.any fun s => decide (s ∈ tk))) := by
      cases x with
      | nm k n => exact ⟨fun e => absurd e ((by decide +kernel : ∀ z ∈ K1, ¬ (z = "flat")) _ wf), fun _ => rfl⟩
      | num k n => exact ⟨fun e => absurd e ((by decide +kernel : ∀ z ∈ K2, ¬ (z = "flat")) _ wf), fun _ => rfl⟩
      | flat => exact ⟨fun _ => rfl, fun e => absurd rfl e⟩
      | zip p => exact ⟨fun e => absurd e (by decide +kernel : ¬ (("zip" : Str) = "flat")), fun _ => rfl⟩
    by_cases e : x.kd = "flat"
    · rw [decide_eq_true e]
      refine iteT (B := True) ?_
      have e1 := walk.1 e
      subst e1
      exact ⟨_, rfl, d, 0, rfl, rfl, k _ (Same.refl H)⟩
    · rw [decide_eq_false e]
      refine iteF (A := True) ?_
      rw [walk.2 e] at k
      refine ⟨_, rfl, _, _, rfl, hv, wf, fun ss H1 s1 hss => ?_⟩
      refine ⟨ss, rfl, ⟨_, hss⟩, fun D hD => ?_⟩
      refine lc_it walk_tup (lcI H1 D ((x.srcs.map fun s => decide (s ∈ tk)).map V.bl)) (lcI0 hD) (fun i H' _ q => (Kp.of q.1).tup hss) ?_ ?_
      · rintro i y H2 H3 hi q ⟨rfl, hy⟩
        rw [List.getElem?_map] at hy
        cases e5 : x.srcs[i]? with
        | none =>
          rw [e5] at hy
          cases hy
        | some z =>
          rw [e5] at hy
          cases hy
          refine ⟨rfl, iteT (B := True) ⟨_, rfl, _, rfl, l, _, rfl, .inl ((s1.trans q.1).seq ht), rfl, all_flat _, ?_⟩⟩
          refine lc_step hD q.1 q.2 ?_ (by rw [List.length_map, List.length_map]; exact small1000 hl)
          rw [List.getElem?_map, List.getElem?_map, e5]
          show some (V.bl (decide (z ∈ tk))) = some (V.bl (inV (V.str z) (List.map V.str tk)))
          rw [in_dec]
      · intro H2 q
        obtain ⟨q1, q2⟩ := q.done (by rw [List.length_map, List.length_map, List.length_map])
        refine ⟨D, _, rfl, SqL.of q2, _, rfl, ?_⟩
        rw [List.any_map]
        exact k H2 (s1.trans q1)
theorem ok_dep {f : Addr} {fd : FuncData} (F : Fun K "depth_behind" "depth_behind" sDep f fd) (N : Nm mg) (c : Cl K mg C) (pp : Prp P w K mg base C "depth" "_depth") :
    FnOk P w K mg base CX0 3 f fd ["stage", "depth"] (spDep K C) := by
  obtain ⟨p, ga, gd, po, G, gb⟩ := pp
  refine F.ok scDep (fun vs H Q E h => ?_) (fun cdv A outer s H vs Q E hr h => ?_)
  · obtain ⟨v, x, d, rfl, _⟩ := h
    rfl
  · obtain ⟨v, x, d, rfl, hv, wf, k⟩ := h
    refine ⟨_, pss_cons (ps_set (i := 2) scDep.nd rfl (Or.inl rfl) (pe_ix ix_tup (pv 0) pe_int (fun _ _ => rfl)))
      (pss_cons (ps_if (pt_cmpR op_eq (pv 2) pe_str (nomark _)) (pss_one (ps_ret pe_int)) pss_nil)
      (pss_cons (ps_if (pt_cmpR op_eq (pv 2) pe_str (nomark _)) (pss_one (ps_ret (pe_op op_add (pv 1) pe_int))) pss_nil)
      (pss_cons (ps_if (pt_cmpR op_eq (pv 2) pe_str (nomark _)) (pss_one (ps_ret (pe_op op_sub (pv 1) pe_int))) pss_nil)
      (pss_cons (ps_if (pt_cmpR op_eq (pv 2) pe_str (nomark _)) (pss_one (ps_ret (pe_op op_add (pe_callB (call_min2 rfl) (by rfl) N.min boot_min' (pa_cons (pv 1) (pa_cons (pe_prop (pe_ix ix_tup (pv 0) pe_int (fun _ _ => rfl)) c.cl po G hr gb .nil pass0 rfl) pa_nil))) pe_int))) pss_nil)
      (pss_one (ps_ret (pv 1))))))), ?_⟩
    obtain ⟨a, r, rfl, ha⟩ := hv.at0
    refine ⟨_, rfl, a, _, _, .str x.kd, rfl, rfl, ha, at_of (j := 0) rfl rfl, _, rfl, rfl, _, rfl, ?_⟩
    have sk : ∀ {a b : Str}, V.str a = V.str b → a = b := fun h => V.str.inj h
    refine dif (fun e0 => ?_) (fun e0 => ?_)
    · cases x with
      | nm z n =>
        have : (Sg.nm z n).dep d = 0 := if_pos (sk e0)
        rw [this] at k
        exact k
      | num z n => exact absurd (sk e0) ((by decide +kernel : ∀ z ∈ K2, ¬ (z = "map")) _ wf)
      | flat => exact absurd (sk e0) (by decide +kernel : ¬ (("flat" : Str) = "map"))
      | zip p => exact absurd (sk e0) (by decide +kernel : ¬ (("zip" : Str) = "map"))
    refine ⟨_, rfl, rfl, _, rfl, ?_⟩
    refine dif (fun e1 => ?_) (fun e1 => ?_)
    · cases x with
      | nm z n => exact absurd (sk e1) ((by decide +kernel : ∀ z ∈ K1, ¬ (z = "lots")) _ wf)
      | num z n =>
        have : (Sg.num z n).dep d = d + 1 := if_pos (sk e1)
        rw [this] at k
        exact ⟨_, rfl, _, _, rfl, rfl, k⟩
      | flat => exact absurd (sk e1) (by decide +kernel : ¬ (("flat" : Str) = "lots"))
      | zip p => exact absurd (sk e1) (by decide +kernel : ¬ (("zip" : Str) = "lots"))
    refine ⟨_, rfl, rfl, _, rfl, ?_⟩
    refine dif (fun e2 => ?_) (fun e2 => ?_)
    · cases x with
      | nm z n => exact absurd (sk e2) ((by decide +kernel : ∀ z ∈ K1, ¬ (z = "flat")) _ wf)
      | num z n => exact absurd (sk e2) ((by decide +kernel : ∀ z ∈ K2, ¬ (z = "flat")) _ wf)
      | flat => exact ⟨_, rfl, _, _, rfl, rfl, k⟩
      | zip p => exact absurd (sk e2) (by decide +kernel : ¬ (("zip" : Str) = "flat"))
    refine ⟨_, rfl, rfl, _, rfl, ?_⟩
    refine dif (fun e3 => ?_) (fun e3 => ?_)
    · cases hv with
      | nm h => exact absurd (sk e3) ((by decide +kernel : ∀ z ∈ K1, ¬ (z = "zip")) _ wf)
      | num h => exact absurd (sk e3) ((by decide +kernel : ∀ z ∈ K2, ¬ (z = "zip")) _ wf)
      | flat h => exact absurd (sk e3) (by decide +kernel : ¬ (("flat" : Str) = "zip"))
      | zip h hp =>
        cases hp with
        | @mk a dx ts ss s l xs h1 h2 h3 h4 =>
          exact ⟨_, rfl, _, rfl, _, _, _, _, rfl, rfl, h, rfl, _, _, _, rfl, h1, _, _, _, _, rfl, h1, get_depth _ _ _ _, _, _, rfl, _, _, rfl, rfl, k⟩
    · cases x with
      | nm z n =>
        have : (Sg.nm z n).dep d = d := if_neg (fun e => e0 (congrArg V.str e))
        rw [this] at k
        exact ⟨_, rfl, k⟩
      | num z n =>
        have : (Sg.num z n).dep d = d := if_neg (fun e => e1 (congrArg V.str e))
        rw [this] at k
        exact ⟨_, rfl, k⟩
      | flat => exact absurd rfl e2
      | zip p => exact absurd rfl e3
end
end K02
set_option Elab.async false
set_option linter.all false
set_option maxRecDepth 100000
set_option maxHeartbeats 4000000
namespace K02
open PySem L2 VK
abbrev sI1 : Stmt := inClass (top 3) 0
abbrev sI2 : Stmt := inClass (top 4) 0
abbrev sI3 : Stmt := inClass (top 5) 0
abbrev sInit : Stmt := inClass (top 22) 0
/-- __init__ of an own error with one field -/
def spErr (C : Addr) (f : Str) : Sp := fun vs H Q _ => ∃ (a : Addr) (v : V), vs = [.ref a, v] ∧ H a = some (exo a C none) ∧
  ∀ dx, H dx = none → dx ≠ a → Q .non (upd (upd H dx (exd dx [(f, v)])) a (exo a C (some dx)))
theorem read_raise {C : Addr} {f : Str} {x : V} {H1 : Hp} {R : Addr → Hp → Prop}
    (k : ∀ d H', H1 d = none → Same H1 H' → H' d = some (.xd [(f, x)]) → R d H') (a : Addr) (ha : H1 a = none) :
    spErr C f [.ref a, x] (upd H1 a (exo a C none)) (fun v H2 => v = .non ∧ ∃ (d : Addr) (fs : List (Str × V)), H2 a = some (exo a C (some d)) ∧ H2 d = some (exd d fs) ∧ H1 d = none ∧ R d (upd (del H2 a) d (.xd fs))) fun _ _ _ => False := by
  refine ⟨a, x, rfl, upd_same, fun dx hd hne => ?_⟩
  have h1d : H1 dx = none := by rw [upd_ne hne] at hd; exact hd
  refine ⟨rfl, dx, [(f, x)], upd_same, by rw [upd_ne hne, upd_same], h1d, k dx _ h1d (fun b o e => ?_) upd_same⟩
  have n1 : b ≠ a := ne_of_none e ha
  have n2 : b ≠ dx := ne_of_none e h1d
  rw [upd_ne n2, del_ne n1, upd_ne n1, upd_ne n2, upd_ne n1]
  exact e
structure ErrC (K : Fg) (mg : Str → Option Value) (name qual f : Str) (st : Stmt) (C fI : Addr) (fd : FuncData) : Prop where
  g : mg name = some (.ref C)
  ox : OexC K C
  xf : XfC K C
  no : PySem.W.findIn K (.ref C) f = some none
  ini : PySem.W.findIn K (.ref C) "__init__" = some (some (.ref fI))
  tyI : PySem.W.typeIn K (.ref fI) = some (.type "function")
  fn : Fun K "__init__" qual st fI fd
  bd : Binds K fd ["self", f] []
/-- a def with a default -/
structure FunD (K : Fg) (x qual : Str) (st : Stmt) (f : Addr) (fd : FuncData) : Prop where
  ex : ∃ (oc : Value) (od : Option Addr) (dV kV doc pm : Value) (an : Option Addr) (cdv ct : Value) (osl : Array (Option Value)),
    fd = PySem.W.fnOf x qual (defArgs st) (defBody st) (defScope st) dV kV doc pm an cdv ct ∧ K.lookup f = some ⟨oc, od, .func fd, osl⟩ ∧ PySem.W.codeIn K cdv qual = true
theorem FunD.okX {P : Program} {w : World} {K : Fg} {mg : Str → Option Value} {base : Heap} {x qual : Str} {st : Stmt} {f : Addr} {fd : FuncData} {N ps : List Str} {k : Nat} {sp : Sp} (F : FunD K x qual st f fd) (S : FnScope N ps (defScope st))
    (len : ∀ vs H Q E, sp vs H Q E → vs.length = ps.length)
    (hb : ∀ (cdv : Value) (A : Around) (outer : List Env) (s : Shared) (H : Hp) (vs : List V) (Q : VK) (E : XK), Room k (A.deeper (PyProof.Rows.envOfC qual (defScope st) s.heap.objs.size f cdv)) → sp vs H Q E →
      ∃ t, PSs (cxOf (L2.CX P w) P w K mg base N qual (defScope st) f cdv A outer s H E) (defBody st) t ∧ t { nx := fun _ H' => Q .non H', rt := Q } (start N vs) H) : FnOk P w K mg base (L2.CX P w) (k + 1) f fd ps sp := by
  obtain ⟨oc, od, dV, kV, doc, pm, an, cdv, ct, osl, rfl, lk, hcd⟩ := F.ex
  exact fn_of lk hcd S len fun A outer s H vs Q E hr q => hb cdv A outer s H vs Q E hr q
/-! ### what stands in a row of stages, from a depth and sources on -/
def Sg.vd : Sg → Prop
  | .nm k n => k ∈ K1 ∧ isNm n = true
  | .num k n => k ∈ K2 ∧ okNum n = true
  | _ => True
theorem Sg.vd.wf {x : Sg} (h : x.vd) : x.wf := by
  cases x with
  | nm k n => exact h.1
  | num k n => exact h.1
  | flat => trivial
  | zip p => trivial
abbrev Out := Sum (Int × List Str) Nat
inductive Rest (K : Fg) (C : Addr) (H : Hp) : Int → List Str → Nat → List V → Out → Prop where
  | nil {d : Int} {tk : List Str} {i : Nat} : Rest K C H d tk i [] (.inl (d, tk))
  | go {d : Int} {tk : List Str} {i : Nat} {v : V} {vs : List V} {x : Sg} {o : Out} (h : StV K C H v x) (w : x.vd) (l : x.srcs.length ≤ 1000) (c : x.can d tk = true) (r : Rest K C H (x.dep d) (tk ++ x.srcs) (i + 1) vs o) : Rest K C H d tk i (v :: vs) o
  | bad {d : Int} {tk : List Str} {i : Nat} {v : V} {vs : List V} (h : IsSt K C H v false) : Rest K C H d tk i (v :: vs) (.inr i)
  | cant {d : Int} {tk : List Str} {i : Nat} {v : V} {vs : List V} {x : Sg} (h : StV K C H v x) (w : x.vd) (l : x.srcs.length ≤ 1000) (c : x.can d tk = false) : Rest K C H d tk i (v :: vs) (.inr i)
/-- all but x stays -/
def Bx (x : Addr) (H H' : Hp) : Prop := ∀ b o, b ≠ x → H b = some o → H' b = some o
def spInit (K : Fg) (C CB CL : Addr) : Sp := fun vs H Q E => ∃ (x dx : Addr) (s : Str) (st : Addr) (xs : List V), vs = [.ref x, .str s, .ref st] ∧ H x = some (.ins C dx []) ∧ s ∈ K0 ∧ (SqL K H st xs ∨ SqT K H st xs) ∧
  ((xs.length ≤ 6 ∧ ∃ o : Out, Rest K C H 0 [s] 0 xs o ∧ match o with
      | .inl (d, tk) => ∀ (H' : Hp) (ts ss : Addr), Bx x H H' → H' x = some (.ins C dx (flds s ts ss d)) → SqT K H' ts xs → SqT K H' ss (tk.map V.str) → Q .non H'
      | .inr p => ∀ (H' : Hp) (e : Addr), H e = none → Same H H' → H' e = some (.xd [("position", .int (p : Nat))]) → E (.ref CB) (some e) H') ∨
   (6 < xs.length ∧ ∀ (H' : Hp) (e : Addr), H e = none → Same H H' → H' e = some (.xd [("value", .ref st)]) → E (.ref CL) (some e) H'))
theorem scI1 : FnScope ["self", "value"] ["self", "value"] (defScope sI1) := ⟨rfl, rfl, rfl, by decide +kernel, rfl, by decide +kernel, by decide +kernel⟩
theorem scI2 : FnScope ["self", "position"] ["self", "position"] (defScope sI2) := ⟨rfl, rfl, rfl, by decide +kernel, rfl, by decide +kernel, by decide +kernel⟩
theorem scI3 : FnScope ["self", "value"] ["self", "value"] (defScope sI3) := ⟨rfl, rfl, rfl, by decide +kernel, rfl, by decide +kernel, by decide +kernel⟩
theorem scInit : FnScope ["self", "source", "stages", "sources", "depth", "position", "stage"] ["self", "source", "stages"] (defScope sInit) := ⟨rfl, rfl, rfl, by decide +kernel, rfl, by decide +kernel, by decide +kernel⟩
theorem walk_l {K : Fg} {st : Addr} {xs : List V} {H1 : Hp} (h : SqL K H1 st xs) : ∃ G : Hp → Prop, Walk (Ite K st) xs.length G (YPair (fun i => some (.int (i : Nat))) (fun i => xs[i]?)) ∧ ∀ H', Same H1 H' → G H' := ⟨_, walk_enum, fun H' s => s.seq h⟩
theorem walk_t {K : Fg} {st : Addr} {xs : List V} {H1 : Hp} (h : SqT K H1 st xs) : ∃ G : Hp → Prop, Walk (IteT K st) xs.length G (YPair (fun i => some (.int (i : Nat))) (fun i => xs[i]?)) ∧ ∀ H', Same H1 H' → G H' := ⟨_, walk_enumT, fun H' s => (Kp.of s).tup h⟩
theorem len_put {f : Str} {v : V} {fs : List (Str × V)} {n : Nat} (h : fs.length ≤ n) : (putF f v fs).length ≤ n + 1 := Nat.le_trans (length_putF f v fs) (Nat.add_le_add_right h 1)
theorem tup_either {K : Fg} {st : Addr} {xs : List V} {H1 : Hp} {Q : VK} (h : SqL K H1 st xs ∨ SqT K H1 st xs) (k : ∀ (t : Addr) (H' : Hp), Same H1 H' → SqT K H' t xs → Q (.ref t) H') : kTup K (.ref st) H1 Q := by
  rcases h with h | h
  · exact .inl ⟨_, _, rfl, h, fun t ht => k t _ (same_new ht) (.inl (.inl upd_same))⟩
  · exact .inr ⟨_, _, rfl, h, k _ _ (Same.refl _) h⟩
theorem sq_same {K : Fg} {st : Addr} {xs : List V} {H H' : Hp} (s : Same H H') (h : SqL K H st xs ∨ SqT K H st xs) : SqL K H' st xs ∨ SqT K H' st xs := h.elim (fun h => .inl (s.seq h)) fun h => .inr ((Kp.of s).tup h)
theorem Bx.of {x : Addr} {H H' : Hp} (s : Same H H') : Bx x H H' := fun b o _ e => s b o e
theorem Bx.trans {x : Addr} {H H1 H2 : Hp} (a : Bx x H H1) (b : Bx x H1 H2) : Bx x H H2 := fun c o n e => b c o n (a c o n e)
theorem Bx.upd {x : Addr} {H : Hp} {o : HO} : Bx x H (upd H x o) := fun b u n e => by rw [upd_ne n]; exact e
theorem Bx.sq {K : Fg} {x st C dx : Addr} {fs : List (Str × V)} {xs : List V} {H H' : Hp} (s : Bx x H H') (hx : H x = some (.ins C dx fs)) (h : SqL K H st xs ∨ SqT K H st xs) : SqL K H' st xs ∨ SqT K H' st xs := by
  have ne : ∀ {o : HO}, H st = some o → (∀ C dx fs, o ≠ .ins C dx fs) → st ≠ x := fun {o} e n z => by
    rw [z, hx] at e
    exact n _ _ _ (Option.some.inj e).symm
  rcases h with ((h | ⟨o, h⟩) | h) | ((h | ⟨o, h⟩) | h)
  · exact .inl (.inl (.inl (s _ _ (ne h fun _ _ _ z => by cases z) h)))
  · exact .inl (.inl (.inr ⟨o, s _ _ (ne h fun _ _ _ z => by cases z) h⟩))
  · exact .inl (.inr h)
  · exact .inr (.inl (.inl (s _ _ (ne h fun _ _ _ z => by cases z) h)))
  · exact .inr (.inl (.inr ⟨o, s _ _ (ne h fun _ _ _ z => by cases z) h⟩))
  · exact .inr (.inr h)
theorem Bx.tup {K : Fg} {x st C dx : Addr} {fs : List (Str × V)} {xs : List V} {H H' : Hp} (s : Bx x H H') (hx : H x = some (.ins C dx fs)) (h : SqT K H st xs) : SqT K H' st xs := by
  have ne : ∀ {o : HO}, H st = some o → (∀ C dx fs, o ≠ .ins C dx fs) → st ≠ x := fun {o} e n z => by
    rw [z, hx] at e
    exact n _ _ _ (Option.some.inj e).symm
  rcases h with (h | ⟨o, h⟩) | h
  · exact (.inl (.inl (s _ _ (ne h fun _ _ _ z => by cases z) h)))
  · exact (.inl (.inr ⟨o, s _ _ (ne h fun _ _ _ z => by cases z) h⟩))
  · exact (.inr h)
theorem tySq {K : Fg} {st : Addr} {xs : List V} {H : Hp} (h : SqL K H st xs ∨ SqT K H st xs) : ∃ t, TyX K H (.ref st) (.type t) ∧ PySem.W.kitAny K (.type t) [.type "list", .type "tuple"] = some true := by
  have l1 : PySem.W.kitOne K (.type "list") (.type "list") = some true := kit_ty (by decide +kernel)
  have l2 : PySem.W.kitOne K (.type "tuple") (.type "list") = some false := kit_ty (by decide +kernel)
  have l3 : PySem.W.kitOne K (.type "tuple") (.type "tuple") = some true := kit_ty (by decide +kernel)
  rcases h with ((h | ⟨o, h⟩) | ⟨o, _, _, e, c, _⟩) | h
  · exact ⟨_, .base (.lst h), by unfold PySem.W.kitAny; rw [l1]⟩
  · exact ⟨_, .base (.frz h), by unfold PySem.W.kitAny; rw [l1]⟩
  · exact ⟨_, .kList e c, by unfold PySem.W.kitAny; rw [l1]⟩
  · refine ⟨_, tyT h, ?_⟩
    unfold PySem.W.kitAny
    rw [l2]
    show PySem.W.kitAny K (.type "tuple") [.type "tuple"] = some true
    unfold PySem.W.kitAny
    rw [l3]
theorem isSt_of {K : Fg} {mg : Str → Option Value} {C : Addr} {H : Hp} {v : V} {x : Sg} (c : Cl K mg C) (h : StV K C H v x) (w : x.vd) : IsSt K C H v true := by
  cases h with
  | @nm a k n h =>
    have e := Det.nm (K := K) (C := C) (H := H) w.1 (isNm_len w.2)
    rw [w.2] at e
    exact .two h e
  | @num a k n h =>
    have e := Det.num (K := K) (C := C) (H := H) (i := n) w.1
    rw [w.2] at e
    exact .two h e
  | @flat a h =>
    have e := IsSt.one (C := C) h
    rw [decide_eq_true rfl] at e
    exact e
  | @zip a v p h hp =>
    cases hp with
    | mk h1 h2 h3 h4 => exact .two h (.zip (c.ty h1) c.kc)
theorem Det.same {K : Fg} {C : Addr} {H H' : Hp} {k : Str} {d : V} {b : Bool} (e : Det K C H k d b) (s : Same H H') : Det K C H' k d b := by
  cases e with
  | nm hk l => exact .nm hk l
  | num hk => exact .num hk
  | zip ty kt => exact .zip (TyX.same ty s) kt
theorem IsSt.same {K : Fg} {C : Addr} {H H' : Hp} {v : V} {b : Bool} (h : IsSt K C H v b) (s : Same H H') : IsSt K C H' v b := by
  cases h with
  | other ty kt => exact .other (TyX.same ty s) kt
  | none h => exact .none ((Kp.of s).tup h)
  | one h => exact .one ((Kp.of s).tup h)
  | two h e => exact .two ((Kp.of s).tup h) (e.same s)
/-- the module: what is written at its top -/
structure Lb (K : Fg) (mg : Str → Option Value) (A I : Nat → Addr) (D J : Nat → FuncData) (aS a1 a2 C : Addr) : Prop where
  N : Nm mg
  Z : Cst K mg aS a1 a2
  c : Cl K mg C
  e3 : ErrC K mg "BadStages" "BadStages.__init__" "value" sI1 (A 3) (I 3) (J 3)
  e4 : ErrC K mg "BadStage" "BadStage.__init__" "position" sI2 (A 4) (I 4) (J 4)
  e5 : ErrC K mg "BadPositions" "BadPositions.__init__" "value" sI3 (A 5) (I 5) (J 5)
  p1 : ∀ (P : Program) (w : World) (base : Heap), Prp P w K mg base C "source" "_source"
  p2 : ∀ (P : Program) (w : World) (base : Heap), Prp P w K mg base C "stages" "_stages"
  p3 : ∀ (P : Program) (w : World) (base : Heap), Prp P w K mg base C "sources" "_sources"
  p4 : ∀ (P : Program) (w : World) (base : Heap), Prp P w K mg base C "depth" "_depth"
  g13 : mg "is_integer" = some (.ref (A 13))
  F13 : Fun K "is_integer" "is_integer" sIsInt (A 13) (D 13)
  b13 : Binds K (D 13) ["value"] []
  g14 : mg "is_name" = some (.ref (A 14))
  F14 : Fun K "is_name" "is_name" sIsName (A 14) (D 14)
  b14 : Binds K (D 14) ["value"] []
  g15 : mg "is_stage_number" = some (.ref (A 15))
  F15 : Fun K "is_stage_number" "is_stage_number" sIsNum (A 15) (D 15)
  b15 : Binds K (D 15) ["value"] []
  g16 : mg "is_stage" = some (.ref (A 16))
  F16 : Fun K "is_stage" "is_stage" sIsStage (A 16) (D 16)
  b16 : Binds K (D 16) ["value"] []
  g17 : mg "sources_of_stage" = some (.ref (A 17))
  F17 : Fun K "sources_of_stage" "sources_of_stage" sSrcs (A 17) (D 17)
  b17 : Binds K (D 17) ["stage"] []
  g18 : mg "can_stand" = some (.ref (A 18))
  F18 : Fun K "can_stand" "can_stand" sCan (A 18) (D 18)
  b18 : Binds K (D 18) ["stage", "depth", "sources"] []
  g19 : mg "depth_behind" = some (.ref (A 19))
  F19 : Fun K "depth_behind" "depth_behind" sDep (A 19) (D 19)
  b19 : Binds K (D 19) ["stage", "depth"] []
  g20 : mg "is_position" = some (.ref (A 20))
  F20 : Fun K "is_position" "is_position" sIsPos (A 20) (D 20)
  b20 : Binds K (D 20) ["value", "many"] []
  g21 : mg "are_positions" = some (.ref (A 21))
  F21 : Fun K "are_positions" "are_positions" sArePos (A 21) (D 21)
  b21 : Binds K (D 21) ["value", "many"] []
section
variable {P : Program} {w : World} {K : Fg} {mg : Str → Option Value} {base : Heap} {A I : Nat → Addr} {D J : Nat → FuncData} {aS a1 a2 C : Addr}
theorem Lb.o16 (L : Lb K mg A I D J aS a1 a2 C) : FnOk P w K mg base CX0 3 (A 16) (D 16) ["value"] (spIsStage K C) :=
  ok_isStage L.F16 L.N L.Z L.c L.g13 L.F13 L.b13 L.g14 L.F14 L.b14 L.g15 L.F15 L.b15
theorem Lb.o17 (L : Lb K mg A I D J aS a1 a2 C) : FnOk P w K mg base CX0 3 (A 17) (D 17) ["stage"] (spSrcs K C) := ok_srcs L.F17 L.c (L.p3 _ _ _)
theorem Lb.o18 (L : Lb K mg A I D J aS a1 a2 C) : FnOk P w K mg base CX0 4 (A 18) (D 18) ["stage", "depth", "sources"] (spCan K C) := ok_can L.F18 L.N L.c (L.p3 _ _ _) L.g17 L.F17 L.b17
theorem Lb.o19 (L : Lb K mg A I D J aS a1 a2 C) : FnOk P w K mg base CX0 3 (A 19) (D 19) ["stage", "depth"] (spDep K C) := ok_dep L.F19 L.N L.c (L.p4 _ _ _)
theorem Lb.i3 (L : Lb K mg A I D J aS a1 a2 C) : FnOk P w K mg base CX0 1 (I 3) (J 3) ["self", "value"] (spErr (A 3) "value") := by
  refine L.e3.fn.ok scI1 (fun vs H Q E h => ?_) (fun cdv B outer s H vs Q E hr h => ?_)
  · obtain ⟨a, v, rfl, _⟩ := h
    rfl
  · obtain ⟨a, v, rfl, ha, k⟩ := h
    exact ⟨_, pss_one (ps_ost (pv 0) (pv 1)), _, rfl, _, rfl, a, _, rfl, L.e3.ox, L.e3.no, .inl ⟨ha, k⟩⟩
theorem Lb.i4 (L : Lb K mg A I D J aS a1 a2 C) : FnOk P w K mg base CX0 1 (I 4) (J 4) ["self", "position"] (spErr (A 4) "position") := by
  refine L.e4.fn.ok scI2 (fun vs H Q E h => ?_) (fun cdv B outer s H vs Q E hr h => ?_)
  · obtain ⟨a, v, rfl, _⟩ := h
    rfl
  · obtain ⟨a, v, rfl, ha, k⟩ := h
    exact ⟨_, pss_one (ps_ost (pv 0) (pv 1)), _, rfl, _, rfl, a, _, rfl, L.e4.ox, L.e4.no, .inl ⟨ha, k⟩⟩
theorem Lb.i5 (L : Lb K mg A I D J aS a1 a2 C) : FnOk P w K mg base CX0 1 (I 5) (J 5) ["self", "value"] (spErr (A 5) "value") := by
  refine L.e5.fn.ok scI3 (fun vs H Q E h => ?_) (fun cdv B outer s H vs Q E hr h => ?_)
  · obtain ⟨a, v, rfl, _⟩ := h
    rfl
  · obtain ⟨a, v, rfl, ha, k⟩ := h
    exact ⟨_, pss_one (ps_ost (pv 0) (pv 1)), _, rfl, _, rfl, a, _, rfl, L.e5.ox, L.e5.no, .inl ⟨ha, k⟩⟩
theorem ok_init {f : Addr} {fd : FuncData} (F : FunD K "__init__" "Program.__init__" sInit f fd) (L : Lb K mg A I D J aS a1 a2 C) :
    FnOk P w K mg base (L2.CX P w) 5 f fd ["self", "source", "stages"] (spInit K C (A 4) (A 3)) := by
  refine F.okX scInit (fun vs H Q E h => ?_) (fun cdv B outer s H vs Q E hr h => ?_)
  · obtain ⟨x, dx, s, st, xs, rfl, _⟩ := h
    rfl
  · obtain ⟨x, dx, s, st, xs, rfl, hx, hs, hst, k⟩ := h
    have hr3 := hr.mono (show 3 ≤ 4 by decide)
    have hr2 := hr.mono (show 2 ≤ 4 by decide)
    obtain ⟨tm, hm⟩ := L.Z.most
    refine ⟨_, pss_cons (ps_if (pt_cmpR op_notIn_seq (pv 1) (pe_glob (v := .ref aS) rfl L.Z.gS rfl) rfl) pss_never pss_nil)
      (pss_cons (ps_if (PW.pt (pw_or (pt_not (pt_val (pe_callB call_isiT (by rfl) L.N.isi PyProof.Rows.boot_isinstance (pa_cons (pv 2) (pa_cons (pe_tup (pa_cons (pe_bltn (v := .ty "list") (by rfl) L.N.lst PyProof.Rows.boot_list rfl)
            (pa_cons (pe_bltn (v := .ty "tuple") (by rfl) L.N.tup boot_tup' rfl) pa_nil))) pa_nil)))))
          (pw_or1 (pt_cmpR op_gt (pe_callB call_len_seq (by rfl) L.N.len PySem.boot_len (pa_cons (pv 2) pa_nil)) (pe_glob (v := .int 6) rfl hm ⟨_, rfl⟩) (nomark _)))))
        (pss_one (ps_raise rfl (takes_of rfl rfl rfl rfl) (pmk_oex L.e3.ox L.e3.ini L.e3.tyI L.i3 hr2 L.e3.bd .nil pass0 rfl L.e3.g (pa_cons (pv 2) pa_nil)))) pss_nil)
      (pss_cons (ps_set (i := 3) scInit.nd rfl (Or.inl rfl) (pe_lst (pa_cons (pv 1) pa_nil)))
      (pss_cons (ps_set (i := 4) scInit.nd rfl (Or.inl rfl) pe_int)
      (pss_cons (ps_for (passes_of rfl) rfl (pi_enumA (by rfl) L.N.enm (pa_cons (pv 2) pa_nil))
          (pg_tup rfl (pgs_cons (pg_name (i := 5) scInit.nd rfl (Or.inl rfl)) (pgs_cons (pg_name (i := 6) scInit.nd rfl (Or.inl rfl)) pgs_nil)))
          (pss_cons (ps_if (PW.pt (pw_or (pt_not (pt_val (pe_call L.o16 hr3 rfl L.g16 L.F16.kp L.b16 .nil pass0 (pa_cons (pv 6) pa_nil))))
              (pw_or1 (pt_not (pt_val (pe_call L.o18 hr rfl L.g18 L.F18.kp L.b18 .nil pass0 (pa_cons (pv 6) (pa_cons (pv 4) (pa_cons (pv 3) pa_nil)))))))))
            (pss_one (ps_raise rfl (takes_of rfl rfl rfl rfl) (pmk_oex L.e4.ox L.e4.ini L.e4.tyI L.i4 hr2 L.e4.bd .nil pass0 rfl L.e4.g (pa_cons (pv 5) pa_nil)))) pss_nil)
          (pss_cons (ps_expr (pe_bm PySem.F.plainAttrs_list PySem.F.slot_list_extend PySem.F.type_list_extend mt_extT (pv 3) (pa_cons (pe_call L.o17 hr3 rfl L.g17 L.F17.kp L.b17 .nil pass0 (pa_cons (pv 6) pa_nil)) pa_nil)))
          (pss_one (ps_set (i := 4) scInit.nd rfl (Or.inl rfl) (pe_call L.o19 hr3 rfl L.g19 L.F19.kp L.b19 .nil pass0 (pa_cons (pv 6) (pa_cons (pv 4) pa_nil))))))))
      (pss_cons (ps_fld (pv 0) (pv 1) rfl)
      (pss_cons (ps_fld (pv 0) (pe_tupleOf (by rfl) L.N.tup (pv 2)) rfl)
      (pss_cons (ps_fld (pv 0) (pe_tupleOf (by rfl) L.N.tup (pv 3)) rfl)
      (pss_one (ps_fld (pv 0) (pv 4) rfl))))))))), ?_⟩
    have hst0 := hst
    -- source not in SOURCES
    refine ⟨_, rfl, aS, _, rfl, .inr (L.Z.hS _), rfl, rfl, _, rfl, ?_⟩
    rw [show inV (.str s) [.str "a", .str "b", .str "c", .str "d"] = true from in_true (ws := K0) hs]
    refine iteF (A := True) ?_
    -- isinstance(stages, (list, tuple)), its length
    refine ⟨_, rfl, by show 2 ≤ sizeLine; decide, fun p hp => ?_⟩
    obtain ⟨t, ty, kt⟩ := tySq hst
    have s1 : Same H (upd H p (.tup [.ty "list", .ty "tuple"])) := same_new hp
    have e1 : upd H p (.tup [.ty "list", .ty "tuple"]) p = some (.tup [.ty "list", .ty "tuple"]) := upd_same
    generalize upd H p (.tup [.ty "list", .ty "tuple"]) = H1 at s1 e1
    refine ⟨.ref st, p, _, .type t, _, true, rfl, e1, .cons (.ty _) (.cons (.ty _) .nil), TyX.same ty s1, kt, _, rfl, ?_⟩
    refine iteF (A := True) ?_
    refine ⟨_, rfl, st, xs, rfl, sq_same s1 hst, _, _, rfl, rfl, _, rfl, ?_⟩
    refine dif (fun big => ?_) (fun small => ?_)
    · refine ⟨_, rfl, by show 1 ≤ 1000; decide, fun a ha => read_raise (R := fun e H' => E (.ref (A 3)) (some e) H') (fun e H' he s2 e2 => ?_) a ha⟩
      rcases k with ⟨hl, _⟩ | ⟨_, k⟩
      · omega
      · exact k H' e (s1.free he) (s1.trans s2) e2
    rcases k with ⟨hl, o, rest0, k⟩ | ⟨hl, _⟩
    case inr => omega
    -- sources = [source]
    refine ⟨_, rfl, by show 1 ≤ sizeLine; decide, fun q hq => ?_⟩
    have s2 : Same H1 (upd H1 q (.lst [.str s])) := same_new hq
    have e2 : upd H1 q (.lst [.str s]) q = some (.lst [.str s]) := upd_same
    have hqH : H q = none := s1.free hq
    generalize upd H1 q (.lst [.str s]) = H2 at s2 e2
    have sHq : ∀ {H' : Hp} {o : HO}, Same H H' → Same H (upd H' q o) := fun {H' o} z b u e => by
      rw [upd_ne (ne_of_none e hqH)]
      exact z b u e
    -- the loop
    refine ⟨_, rfl, st, xs, rfl, ?_⟩
    have s12 := s1.trans s2
    have jn : ∃ (Jt : It) (G : Hp → Prop), Walk Jt xs.length G (YPair (fun i => some (.int (i : Nat))) (fun i => xs[i]?)) ∧ (∀ H', Same H H' → G H') ∧ ((SqL K H2 st xs ∧ Jt = Ite K st) ∨ (SqT K H2 st xs ∧ Jt = IteT K st)) := by
      rcases hst with hh | hh
      · obtain ⟨G, wk, hG⟩ := walk_l hh
        exact ⟨_, G, wk, hG, .inl ⟨s12.seq hh, rfl⟩⟩
      · obtain ⟨G, wk, hG⟩ := walk_t hh
        exact ⟨_, G, wk, hG, .inr ⟨(Kp.of s12).tup hh, rfl⟩⟩
    obtain ⟨Jt, G, wk, hG, ej⟩ := jn
    refine ⟨Jt, ej, ?_⟩
    refine for_it wk (fun i σ H' => ∃ (d : Int) (tk : List Str) (v5 v6 : Option V), σ = [some (.ref x), some (.str s), some (.ref st), some (.ref q), some (.int d), v5, v6] ∧ Same H H' ∧
      H' q = some (.lst (tk.map V.str)) ∧ tk.length ≤ 1 + 1000 * i ∧ Rest K C H d tk i (xs.drop i) o) ⟨0, [s], none, none, rfl, s12, e2, by show 1 ≤ 1 + 1000 * 0; decide, rest0⟩ (fun i σ H' _ hh => ?_) ?_ ?_
    · obtain ⟨d, tk, v5, v6, _, z, _⟩ := hh
      exact hG H' z
    · rintro i y σ Hi H' hi ⟨d, tk, v5, v6, rfl, si, hqi, hl1, rest⟩ ⟨T, a, b, rfl, hT, rfl, ea, eb⟩
      have ea' : V.int (i : Nat) = a := Option.some.inj ea
      subst ea'
      refine ⟨T, _, rfl, .inl (.inl upd_same), rfl, _, _, rfl, _, _, rfl, rfl, ?_⟩
      have sT : Same H (upd Hi T (.tup [.int (i : Nat), b])) := si.trans (same_new hT)
      have hqT : upd Hi T (.tup [.int (i : Nat), b]) q = some (.lst (tk.map V.str)) := by rw [upd_ne (ne_of_none hqi hT)]; exact hqi
      generalize upd Hi T (.tup [.int (i : Nat), b]) = G1 at sT hqT
      have hd : xs.drop i = b :: xs.drop (i + 1) := by
        rw [List.drop_eq_getElem_cons hi]
        have e9 : xs[i]? = some b := eb
        rw [List.getElem?_eq_getElem hi] at e9
        rw [Option.some.inj e9]
      rw [hd] at rest
      cases rest with
      | @go d tk i v vs x' o h w' l c r =>
        refine ⟨_, rfl, b, true, rfl, isSt_of L.c (StV.kp (Kp.of sT) h) w', fun G2 t2 => ?_⟩
        refine ⟨_, rfl, iteF (A := True) ?_⟩
        have h2 := StV.kp (Kp.of (sT.trans t2)) h
        refine ⟨_, rfl, _, rfl, _, rfl, b, x', d, q, tk, rfl, h2, w'.wf, l, SqL.of (t2 _ _ hqT), fun G3 t3 => ?_⟩
        rw [c]
        refine ⟨_, rfl, iteF (A := True) ?_⟩
        have q3 := t3 _ _ (t2 _ _ hqT)
        have s3 := (sT.trans t2).trans t3
        refine ⟨_, rfl, .inl ⟨rfl, _, SqL.of q3⟩, _, rfl, b, x', rfl, StV.kp (Kp.of s3) h, w'.wf, fun ss G4 t4 hss => ?_⟩
        have q4 := t4 _ _ q3
        have s4 := s3.trans t4
        refine ⟨q, ss, _, _, rfl, rfl, q4, hss, ?_, ?_⟩
        · rw [List.length_map, List.length_map]
          rw [sizeLine_eq]
          omega
        refine ⟨_, rfl, _, rfl, b, x', d, rfl, StV.kp (Kp.of (sHq s4)) h, w'.wf, ?_⟩
        refine ⟨_, tk ++ x'.srcs, _, _, rfl, sHq s4, ?_, ?_, r⟩
        · rw [upd_same, List.map_append]
        · rw [List.length_append]
          omega
      | bad h =>
        refine ⟨_, rfl, b, false, rfl, h.same sT, fun G2 t2 => ?_⟩
        refine ⟨_, rfl, iteT (B := True) ?_⟩
        refine ⟨_, rfl, by show 1 ≤ 1000; decide, fun a ha => read_raise (R := fun e H' => E (.ref (A 4)) (some e) H') (fun e H' he s3 e3 => ?_) a ha⟩
        exact k H' e ((sT.trans t2).free he) ((sT.trans t2).trans s3) e3
      | @cant d tk i v vs x' h w' l c =>
        refine ⟨_, rfl, b, true, rfl, isSt_of L.c (StV.kp (Kp.of sT) h) w', fun G2 t2 => ?_⟩
        refine ⟨_, rfl, iteF (A := True) ?_⟩
        have h2 := StV.kp (Kp.of (sT.trans t2)) h
        refine ⟨_, rfl, _, rfl, _, rfl, b, x', d, q, tk, rfl, h2, w'.wf, l, SqL.of (t2 _ _ hqT), fun G3 t3 => ?_⟩
        rw [c]
        refine ⟨_, rfl, iteT (B := True) ?_⟩
        have s3 := (sT.trans t2).trans t3
        refine ⟨_, rfl, by show 1 ≤ 1000; decide, fun a ha => read_raise (R := fun e H' => E (.ref (A 4)) (some e) H') (fun e H' he s4 e3 => ?_) a ha⟩
        exact k H' e (s3.free he) (s3.trans s4) e3
    · rintro σ H' ⟨d, tk, v5, v6, rfl, si, hqi, hl1, rest⟩
      rw [List.drop_length] at rest
      cases rest
      have qx : q ≠ x := fun z => by rw [z, hx] at hqH; cases hqH
      refine ⟨_, rfl, _, rfl, x, C, dx, [], rfl, si _ _ hx, L.c.cl, L.c.n1, by decide, ?_⟩
      have ba : Bx x H (upd H' x (.ins C dx (putF "_source" (.str s) []))) := (Bx.of si).trans Bx.upd
      have xa : upd H' x (.ins C dx (putF "_source" (.str s) [])) x = some (.ins C dx (putF "_source" (.str s) [])) := upd_same
      have qa : upd H' x (.ins C dx (putF "_source" (.str s) [])) q = some (.lst (tk.map V.str)) := by rw [upd_ne qx]; exact hqi
      generalize upd H' x (.ins C dx (putF "_source" (.str s) [])) = Ha at ba xa qa
      refine ⟨_, rfl, tup_either (ba.sq hx hst) fun ts Hb sb hts => ?_⟩
      refine ⟨_, rfl, x, C, dx, _, rfl, sb _ _ xa, L.c.cl, L.c.n2, Nat.lt_of_le_of_lt (len_put (n := 0) (Nat.le_refl 0)) (by decide), ?_⟩
      have xb := sb _ _ xa
      have qb := sb _ _ qa
      have bb : Bx x H Hb := ba.trans (Bx.of sb)
      have bc : Bx x Hb (upd Hb x (.ins C dx (putF "_stages" (.ref ts) (putF "_source" (.str s) [])))) := Bx.upd
      have xc : upd Hb x (.ins C dx (putF "_stages" (.ref ts) (putF "_source" (.str s) []))) x = some (.ins C dx (putF "_stages" (.ref ts) (putF "_source" (.str s) []))) := upd_same
      generalize upd Hb x (.ins C dx (putF "_stages" (.ref ts) (putF "_source" (.str s) []))) = Hc at bc xc
      refine ⟨_, rfl, tup_either (.inl (SqL.of (bc _ _ qx qb))) fun ss Hd sd hss => ?_⟩
      refine ⟨_, rfl, x, C, dx, _, rfl, sd _ _ xc, L.c.cl, L.c.n3, Nat.lt_of_le_of_lt (len_put (len_put (n := 0) (Nat.le_refl 0))) (by decide), ?_⟩
      have xd := sd _ _ xc
      have be : Bx x Hd (upd Hd x (.ins C dx (putF "_sources" (.ref ss) (putF "_stages" (.ref ts) (putF "_source" (.str s) []))))) := Bx.upd
      have xe : upd Hd x (.ins C dx (putF "_sources" (.ref ss) (putF "_stages" (.ref ts) (putF "_source" (.str s) [])))) x = some (.ins C dx (putF "_sources" (.ref ss) (putF "_stages" (.ref ts) (putF "_source" (.str s) [])))) := upd_same
      generalize upd Hd x (.ins C dx (putF "_sources" (.ref ss) (putF "_stages" (.ref ts) (putF "_source" (.str s) [])))) = He at be xe
      refine ⟨_, rfl, _, rfl, x, C, dx, _, rfl, xe, L.c.cl, L.c.n4, Nat.lt_of_le_of_lt (len_put (len_put (len_put (n := 0) (Nat.le_refl 0)))) (by decide), ?_⟩
      have bf : Bx x He (upd He x (.ins C dx (flds s ts ss d))) := Bx.upd
      have bcf : Bx x Hb (upd He x (.ins C dx (flds s ts ss d))) := bc.trans ((Bx.of sd).trans (be.trans bf))
      have bdf : Bx x Hd (upd He x (.ins C dx (flds s ts ss d))) := be.trans bf
      exact k _ ts ss (bb.trans bcf) upd_same (bcf.tup xb hts) (bdf.tup xd hss)
end
end K02
set_option Elab.async false
set_option linter.all false
set_option maxRecDepth 100000
set_option maxHeartbeats 4000000
/-! len(set(xs)) of any ints -/
namespace VK
open PySem PySem.Spec PyProof.Rows L2
theorem met_len (ns : List Int) : ∀ i, i ≤ ns.length → (firstMet (fun i => ns.getD i 0) i).length ≤ i ∧ ((firstMet (fun i => ns.getD i 0) i).length = i → firstMet (fun i => ns.getD i 0) i = ns.take i ∧ (ns.take i).Nodup)
  | 0, _ => ⟨Nat.le_refl 0, fun _ => ⟨rfl, List.nodup_nil⟩⟩
  | i + 1, hi => by
    have lt : i < ns.length := hi
    obtain ⟨a1, a2⟩ := met_len ns i (Nat.le_of_lt lt)
    have e : ns.getD i 0 = ns[i] := by
      rw [List.getD_eq_getElem?_getD, List.getElem?_eq_getElem lt]
      rfl
    rw [firstMet_succ]
    unfold step_dedup
    by_cases c : (firstMet (fun i => ns.getD i 0) i).any (· == ns.getD i 0) = true
    · rw [if_pos c]
      exact ⟨Nat.le_succ_of_le a1, fun z => absurd z (by omega)⟩
    · rw [if_neg c]
      refine ⟨by rw [List.length_append]; exact Nat.add_le_add_right a1 1, fun z => ?_⟩
      rw [List.length_append] at z
      obtain ⟨b1, b2⟩ := a2 (Nat.add_right_cancel z)
      rw [b1] at c
      have no : ns[i] ∉ ns.take i := fun m => c (List.any_eq_true.mpr ⟨_, m, by rw [e]; exact beq_self_eq_true _⟩)
      have tk : ns.take (i + 1) = ns.take i ++ [ns[i]] := by rw [List.take_succ, List.getElem?_eq_getElem lt]; rfl
      refine ⟨by rw [b1, e, tk], ?_⟩
      rw [tk]
      refine List.nodup_append.mpr ⟨b2, by simp, fun x hx y hy => ?_⟩
      rw [List.mem_singleton.mp hy]
      exact fun z => no (z ▸ hx)
theorem met_iff (ns : List Int) : (firstMet (fun i => ns.getD i 0) ns.length).length = ns.length ↔ ns.Nodup := by
  obtain ⟨_, b⟩ := met_len ns ns.length (Nat.le_refl _)
  rw [List.take_length] at b
  refine ⟨fun z => (b z).2, fun h => ?_⟩
  rw [firstMet_nodup ns h ns.length (Nat.le_refl _), List.take_length]
section
variable {X : Cx}
def tLenSetA (K : PySem.W.Frag) (ta : TE) : TE := fun σ H Q => ta σ H fun x H1 => ∃ (l : Addr) (ns : List Int), x = V.ref l ∧ SqL K H1 l (ns.map V.int) ∧ ns.length < 64 ∧ ∀ m : Nat, (m = ns.length ↔ ns.Nodup) → Q (.int m) H1
theorem pe_lenSetA {a : Expr} {ta : TE} {p p2 q pos : Pos} (hc : X.calm = true) (hg : Gl X "len") (hm : X.mg "len" = none) (hg2 : Gl X "set") (hm2 : X.mg "set" = none) (ha : PE X a ta)
    (na : starEach [a] X.env = (false, eval a X.env) :: starEach [] X.env := by rfl) : PE X (.Call (.Name "len" p) [.Call (.Name "set" p2) [a] [] q] [] pos) (tLenSetA X.K ta) := by
  refine ⟨fun pins s σ H Q I h => Call_ (ld_blt I hg hm PySem.boot_len ?_)⟩
  refine PyProof.Rows.callWith_builtin1 (PyProof.Rows.args_cons (Call_ (ld_blt I hg2 hm2 PyProof.Rows.boot_set ?_)) rfl) rfl rfl
  refine PyProof.Rows.callWith_type1 (PyProof.Rows.args_cons (thn (ha.run pins s σ H _ I h) fun v s1 hh => PyProof.Rows.args_nil ?_) na) na rfl
  obtain ⟨x, H1, I1, r1, l, ns, rfl, hq, h1, q1⟩ := hh
  cases r1
  obtain ⟨its, r, pl, hz⟩ := I1.list hq
  have hl : its.toArray.size = ns.length := by rw [List.size_toArray, ← r.length, List.length_map]
  refine call_set_list (I1.ok.hd hc) pl.isList (ns := ns) (by simpa using r.ints) (by unfold scanBound; omega) fun h' tk hS hk => ?_
  rw [hl] at hS
  refine PyProof.Rows.args_nil ?_
  obtain ⟨o, es, ep, t, ho, hex, hd, _, _, _, hf, hn⟩ := hS
  have le := (met_len ns ns.length (Nat.le_refl _)).1
  have I2 : Inv X pins σ H1 { s1 with heap := h', toks := tk } := I1.kept fun b o e => hk b o (Heap.lt_size e) e
  exact call_len_set ho hex hd hf (by rw [hn]; omega) ⟨.int _, H1, I2.tok _, ⟨_, by rw [hn]⟩, q1 _ (met_iff ns)⟩
end
end VK
namespace K02
open PySem L2 VK
/-! ### positions -/
inductive Itm (K : Fg) (H : Hp) : V → Option Int → Prop where
  | int (i : Int) : Itm K H (.int i) (some i)
  | oth {v : V} {t : String} {b c : Bool} (ty : TyX K H v (.type t)) (kb : kitB t "int" = some b) (kc : kitB t "bool" = some c) (e : (b && !c) = false) : Itm K H v none
def inB (m : Int) : Option Int → Bool
  | some i => decide (0 ≤ i) && decide (i < m)
  | none => false
def spIsPos (K : Fg) : Sp := fun vs H Q _ => ∃ (v : V) (m : Int) (c : Option Int), vs = [v, .int m] ∧ Itm K H v c ∧ Q (.bl (inB m c)) H
def arePos (m : Int) (cs : List (Option Int)) : Bool := cs.all (inB m) && decide cs.Nodup
def spArePos (K : Fg) : Sp := fun vs H Q _ => ∃ (v : V) (m : Int), vs = [v, .int m] ∧
  ((∃ t, TyX K H v t ∧ PySem.W.kitOne K t (.type "list") = some false ∧ Q (.bl false) H) ∨
   ∃ (a : Addr) (xs : List V) (cs : List (Option Int)), v = .ref a ∧ SqL K H a xs ∧ xs.length < 64 ∧ Paired (Itm K H) xs cs ∧ ∀ H', Same H H' → Q (.bl (arePos m cs)) H')
theorem scIsPos : FnScope ["value", "many"] ["value", "many"] (defScope sIsPos) := ⟨rfl, rfl, rfl, by decide +kernel, rfl, by decide +kernel, by decide +kernel⟩
theorem scArePos : FnScope ["value", "many", "entry"] ["value", "many"] (defScope sArePos) := ⟨rfl, rfl, rfl, by decide +kernel, rfl, by decide +kernel, by decide +kernel⟩
theorem Itm.same {K : Fg} {H H' : Hp} {v : V} {c : Option Int} (h : Itm K H v c) (s : Same H H') : Itm K H' v c := by
  cases h with
  | int i => exact .int i
  | oth ty kb kc e => exact .oth (TyX.same ty s) kb kc e
theorem itms_int {K : Fg} {H : Hp} {m : Int} : ∀ {xs : List V} {cs : List (Option Int)}, Paired (Itm K H) xs cs → cs.all (inB m) = true → ∃ ns : List Int, cs = ns.map some ∧ xs = ns.map V.int
  | _, _, .nil, _ => ⟨[], rfl, rfl⟩
  | _, _, .cons h t, e => by
    rw [List.all_cons, Bool.and_eq_true] at e
    obtain ⟨ns, e1, e2⟩ := itms_int t e.2
    cases h with
    | int i => exact ⟨i :: ns, by rw [e1]; rfl, by rw [e2]; rfl⟩
    | oth ty kb kc z => exact absurd e.1 Bool.false_ne_true
theorem pair_get {α β : Type} {F : α → β → Prop} : ∀ {xs : List α} {ys : List β} {i : Nat} {x : α}, Paired F xs ys → xs[i]? = some x → ∃ y, ys[i]? = some y ∧ F x y
  | _, _, 0, _, .cons h _, e => ⟨_, rfl, by cases e; exact h⟩
  | _, _, i + 1, _, .cons _ t, e => pair_get (i := i) t e
theorem nodup_some (ns : List Int) : (ns.map some).Nodup ↔ ns.Nodup := by
  induction ns with
  | nil => simp
  | cons a r ih =>
    rw [List.map_cons, List.nodup_cons, List.nodup_cons, ih]
    simp
theorem tyL {K : Fg} {H : Hp} {a : Addr} {xs : List V} (h : SqL K H a xs) : TyX K H (.ref a) (.type "list") := by
  rcases h with (h | ⟨o, h⟩) | ⟨o, _, _, e, c, _⟩
  · exact .base (.lst h)
  · exact .base (.frz h)
  · exact .kList e c
section
variable {P : Program} {w : World} {K : Fg} {mg : Str → Option Value} {base : Heap} {A I : Nat → Addr} {D J : Nat → FuncData} {aS a1 a2 C : Addr}
theorem Lb.o20 (L : Lb K mg A I D J aS a1 a2 C) : FnOk P w K mg base CX0 2 (A 20) (D 20) ["value", "many"] (spIsPos K) := by
  have GI : FnOk P w K mg base CX0 1 (A 13) (D 13) ["value"] (spIsInt K) := ok_isInt L.F13 L.N
  refine L.F20.ok scIsPos (fun vs H Q E h => ?_) (fun cdv B outer s H vs Q E hr h => ?_)
  · obtain ⟨v, m, c, rfl, _⟩ := h
    rfl
  · obtain ⟨v, m, c, rfl, hv, k⟩ := h
    refine ⟨_, pss_one (ps_ret (pe_and (pe_call GI hr rfl L.g13 L.F13.kp L.b13 .nil pass0 (pa_cons (pv 0) pa_nil)) (pe_one (pe_chain op_le op_lt pe_int (pv 0) (pv 1))))), ?_⟩
    cases hv with
    | int i =>
      refine ⟨_, rfl, .int i, "int", true, false, rfl, .base (.int i), by decide +kernel, by decide +kernel, _, rfl, ?_⟩
      refine iteT (B := True) ⟨_, rfl, _, _, rfl, rfl, _, rfl, ?_⟩
      have k : Q (.bl (decide (0 ≤ i) && decide (i < m))) H := k
      by_cases h0 : 0 ≤ i
      · rw [if_pos (decide_eq_true h0)]
        rw [decide_eq_true h0, Bool.true_and] at k
        exact ⟨_, rfl, _, _, rfl, rfl, k⟩
      · rw [if_neg (by rw [decide_eq_false h0]; exact Bool.false_ne_true)]
        rw [decide_eq_false h0, Bool.false_and] at k
        exact k
    | @oth _ t b c' ty kb kc e =>
      refine ⟨_, rfl, v, t, b, c', rfl, ty, kb, kc, _, rfl, ?_⟩
      rw [e]
      exact iteF (A := True) k
theorem Lb.o21 (L : Lb K mg A I D J aS a1 a2 C) : FnOk P w K mg base CX0 3 (A 21) (D 21) ["value", "many"] (spArePos K) := by
  refine L.F21.ok scArePos (fun vs H Q E h => ?_) (fun cdv B outer s H vs Q E hr h => ?_)
  · obtain ⟨v, m, rfl, _⟩ := h
    rfl
  · obtain ⟨v, m, rfl, h⟩ := h
    refine ⟨_, pss_one (ps_ret (pe_and (pe_callB call_isi (by rfl) L.N.isi PyProof.Rows.boot_isinstance (pa_cons (pv 0) (pa_cons (pe_bltn (v := .ty "list") (by rfl) L.N.lst PyProof.Rows.boot_list rfl) pa_nil)))
      (pe_and (pe_callB (cr_all rfl) (by rfl) L.N.all boot_all' (pa_cons
        (pe_lc (own := [("entry", 2)]) (g := gName 2) (tt := tYes) (te := tCall (spIsPos K) [] E0 (tCons (tVar 2) (tCons (tVar 1) tNil))) rfl scArePos.nd (pi_list (pv 0)) (blkOk_by (N := ["value", "many", "entry"]) (sc := defScope sArePos) (by decide +kernel))
          (fun _ _ _ _ _ => pg_name (i := 2) scArePos.nd rfl (Or.inl rfl)) (fun _ _ _ _ _ => pts_nil) (fun _ _ _ _ _ => by exact (pe_call L.o20 hr rfl L.g20 L.F20.kp L.b20 .nil pass0 (pa_cons (pv 2) (pa_cons (pv 1) pa_nil))))) pa_nil))
      (pe_one (pe_cmpR op_eq (pe_lenSetA rfl (by rfl) L.N.len (by rfl) L.N.set (pv 0)) (pe_callB call_len_seq (by rfl) L.N.len PySem.boot_len (pa_cons (pv 0) pa_nil)) (nomark _)))))), ?_⟩
    rcases h with ⟨t, ty, kt, k⟩ | ⟨a, xs, cs, rfl, hx, hl, ps, k⟩
    · exact ⟨_, rfl, v, .ty "list", t, .type "list", false, rfl, .ty _, ty, kt, _, rfl, iteF (A := True) k⟩
    refine ⟨_, rfl, .ref a, .ty "list", .type "list", .type "list", true, rfl, .ty _, tyL hx, kit_ty (by decide +kernel), _, rfl, ?_⟩
    refine iteT (B := True) ?_
    refine ⟨_, rfl, a, rfl, ⟨_, hx⟩, fun Da hD => ?_⟩
    have len := ps.length
    refine lc_it walk_list (lcI H Da ((cs.map (inB m)).map V.bl)) (lcI0 hD) (fun i H' _ q => q.1.seq hx) ?_ ?_
    · rintro i y H2 H3 hi q ⟨rfl, hy⟩
      obtain ⟨c, hc, it⟩ := pair_get ps hy
      refine ⟨rfl, iteT (B := True) ⟨_, rfl, _, rfl, y, m, c, rfl, it.same q.1, ?_⟩⟩
      refine lc_step hD q.1 q.2 ?_ (by rw [List.length_map, List.length_map, ← len]; exact small1000 (by omega))
      rw [List.getElem?_map, List.getElem?_map, hc]
      rfl
    · intro H2 q
      obtain ⟨q1, q2⟩ := q.done (by rw [List.length_map, List.length_map, len])
      refine ⟨Da, _, rfl, SqL.of q2, _, rfl, ?_⟩
      have k2 := k H2 q1
      unfold arePos at k2
      rw [List.all_map]
      by_cases al : cs.all (inB m) = true
      · rw [show (cs.all (id ∘ inB m)) = true from al]
        rw [al, Bool.true_and] at k2
        obtain ⟨ns, rfl, rfl⟩ := itms_int ps al
        refine iteT (B := True) ?_
        refine ⟨_, rfl, a, ns, rfl, q1.seq hx, by rw [List.length_map] at hl; exact hl, fun n hn => ?_⟩
        refine ⟨_, rfl, a, _, rfl, .inl (q1.seq hx), rfl, ?_⟩
        have e : decide (V.int (n : Nat) = V.int ((ns.map V.int).length : Nat)) = decide (ns.map some).Nodup := by
          rw [List.length_map]
          by_cases nd : ns.Nodup
          · rw [decide_eq_true ((nodup_some ns).mpr nd), decide_eq_true (by rw [hn.mpr nd])]
          · rw [decide_eq_false (fun z => nd ((nodup_some ns).mp z)), decide_eq_false]
            intro z
            injection z with z
            exact nd (hn.mp (by omega))
        rw [e]
        exact k2
      · have al' : cs.all (inB m) = false := Bool.eq_false_iff.mpr al
        rw [show (cs.all (id ∘ inB m)) = false from al']
        rw [al', Bool.false_and] at k2
        exact iteF (A := True) k2
end
end K02
set_option Elab.async false
set_option linter.all false
set_option maxRecDepth 100000
set_option maxHeartbeats 4000000
namespace K02
open PySem L2 VK
/-! ### sources of what is well made: each once, of the four -/
mutual
theorem Sg.fine : ∀ (x : Sg) (d : Int) (tk : List Str), x.ok d tk → tk.Nodup → (tk ++ x.srcs).Nodup ∧ ∀ s ∈ x.srcs, s ∈ K0
  | .nm _ _, _, tk, _, n => ⟨by show (tk ++ []).Nodup; rw [List.append_nil]; exact n, fun _ h => by cases h⟩
  | .num _ _, _, tk, _, n => ⟨by show (tk ++ []).Nodup; rw [List.append_nil]; exact n, fun _ h => by cases h⟩
  | .flat, _, tk, _, n => ⟨by show (tk ++ []).Nodup; rw [List.append_nil]; exact n, fun _ h => by cases h⟩
  | .zip p, _, tk, h, n => by
    have h : p.ok ∧ ∀ s ∈ p.srcs, s ∉ tk := h
    obtain ⟨a, b⟩ := Pg.fine p h.1
    exact ⟨List.nodup_append.mpr ⟨n, a, fun x hx y hy e => h.2 y hy (e ▸ hx)⟩, b⟩
theorem Pg.fine : ∀ p : Pg, p.ok → p.srcs.Nodup ∧ ∀ s ∈ p.srcs, s ∈ K0
  | .mk s l, h => by
    have h : s ∈ K0 ∧ l.len ≤ 6 ∧ l.ok 0 [s] := h
    obtain ⟨a, b⟩ := Sgs.fine l 0 [s] h.2.2 (by simp)
    refine ⟨a, fun z hz => ?_⟩
    rcases List.mem_cons.mp hz with e | e
    · rw [e]; exact h.1
    · exact b z e
theorem Sgs.fine : ∀ (l : Sgs) (d : Int) (tk : List Str), l.ok d tk → tk.Nodup → (tk ++ l.srcs).Nodup ∧ ∀ s ∈ l.srcs, s ∈ K0
  | .nil, _, tk, _, n => ⟨by show (tk ++ []).Nodup; rw [List.append_nil]; exact n, fun _ h => by cases h⟩
  | .cons x r, d, tk, h, n => by
    have h : x.ok d tk ∧ r.ok (x.dep d) (tk ++ x.srcs) := h
    obtain ⟨a, b⟩ := Sg.fine x d tk h.1 n
    obtain ⟨a2, b2⟩ := Sgs.fine r _ _ h.2 a
    refine ⟨by show (tk ++ (x.srcs ++ r.srcs)).Nodup; rw [← List.append_assoc]; exact a2, fun z hz => ?_⟩
    rcases List.mem_append.mp hz with e | e
    · exact b z e
    · exact b2 z e
end
theorem nd_len {α : Type} [DecidableEq α] : ∀ (l m : List α), l.Nodup → (∀ x ∈ l, x ∈ m) → l.length ≤ m.length
  | [], _, _, _ => Nat.zero_le _
  | a :: r, m, n, h => by
    have n' := List.nodup_cons.mp n
    have ha : a ∈ m := h a List.mem_cons_self
    have e := List.length_erase_of_mem ha
    have p := List.length_pos_of_mem ha
    have := nd_len r (m.erase a) n'.2 fun x hx => (List.mem_erase_of_ne (fun z : x = a => n'.1 (by rw [← z]; exact hx))).mpr (h x (List.mem_cons_of_mem _ hx))
    rw [List.length_cons]
    omega
theorem Pg.few {p : Pg} (h : p.ok) : p.srcs.length ≤ 4 := nd_len _ K0 (Pg.fine p h).1 (Pg.fine p h).2
theorem Sg.few {x : Sg} {d : Int} {tk : List Str} (h : x.ok d tk) : x.srcs.length ≤ 1000 := by
  cases x with
  | nm k n => exact Nat.zero_le _
  | num k n => exact Nat.zero_le _
  | flat => exact Nat.zero_le _
  | zip p =>
    have h : p.ok ∧ ∀ s ∈ p.srcs, s ∉ tk := h
    exact Nat.le_trans (Pg.few h.1) (by decide)
theorem Sg.ok.vd {x : Sg} {d : Int} {tk : List Str} (h : x.ok d tk) : x.vd := by
  cases x with
  | nm k n => exact h
  | num k n =>
    have h : k ∈ K2 ∧ 1 ≤ n ∧ n ≤ 4 := h
    refine ⟨h.1, ?_⟩
    unfold okNum
    rw [decide_eq_true h.2.1, decide_eq_true h.2.2]
    rfl
  | flat => trivial
  | zip p => trivial
theorem any_no {l tk : List Str} : (!(l.any fun s => decide (s ∈ tk))) = true ↔ ∀ s ∈ l, s ∉ tk := by
  simp
theorem Sg.ok.can {x : Sg} {d : Int} {tk : List Str} (h : x.ok d tk) : x.can d tk = true := by
  cases x with
  | nm k n => rfl
  | num k n => rfl
  | flat => exact decide_eq_true h
  | zip p =>
    have h : p.ok ∧ ∀ s ∈ p.srcs, s ∉ tk := h
    exact any_no.mpr h.2
theorem Rest.same {K : Fg} {C : Addr} {H H' : Hp} (s : Same H H') {d : Int} {tk : List Str} {i : Nat} {xs : List V} {o : Out} (r : Rest K C H d tk i xs o) : Rest K C H' d tk i xs o := by
  induction r with
  | nil => exact .nil
  | go h w l c _ ih => exact .go (StV.kp (Kp.of s) h) w l c ih
  | bad h => exact .bad (h.same s)
  | cant h w l c => exact .cant (StV.kp (Kp.of s) h) w l c
theorem rest_good {K : Fg} {C : Addr} {H : Hp} : ∀ {xs : List V} {l : Sgs} {d : Int} {tk : List Str} (i : Nat), StAll K C H xs l → l.ok d tk → Rest K C H d tk i xs (.inl (l.dep d, tk ++ l.srcs))
  | _, _, d, tk, i, .nil, _ => by
    show Rest K C H d tk i [] (.inl (d, tk ++ []))
    rw [List.append_nil]
    exact .nil
  | _, _, d, tk, i, .cons (x := x) (r := r) h t, o => by
    have o : x.ok d tk ∧ r.ok (x.dep d) (tk ++ x.srcs) := o
    have z := rest_good (i + 1) t o.2
    rw [List.append_assoc] at z
    exact .go h o.1.vd (Sg.few o.1) o.1.can z
/-! ### Program(source, stages) -/
def MkEnd (K : Fg) (C CB : Addr) (s : Str) (xs : List V) (H1 : Hp) (Q : VK) (E : XK) : Out → Prop
  | .inl (d, tk) => ∀ (p dx ts ss : Addr) (H2 : Hp), Same H1 H2 → H1 p = none → H2 p = some (.ins C dx (flds s ts ss d)) → SqT K H2 ts xs → SqT K H2 ss (tk.map V.str) → Q (.ref p) H2
  | .inr i => ∀ (H' : Hp) (e : Addr), H1 e = none → Same H1 H' → H' e = some (.xd [("position", .int (i : Nat))]) → E (.ref CB) (some e) H'
theorem same_mk {H1 : Hp} {x dx C : Addr} (h1 : H1 x = none) (h2 : H1 dx = none) : Same H1 (upd (upd H1 dx (.own x)) x (.ins C dx [])) := fun b o e => by
  rw [upd_ne (ne_of_none e h1), upd_ne (ne_of_none e h2)]
  exact e
theorem mk_read {K : Fg} {C CB CL : Addr} {s : Str} {st : Addr} {xs : List V} {H1 : Hp} {Q : VK} {E : XK} {o : Out} (hs : s ∈ K0) (hst : SqL K H1 st xs ∨ SqT K H1 st xs) (hl : xs.length ≤ 6) (r : Rest K C H1 0 [s] 0 xs o)
    (k : MkEnd K C CB s xs H1 Q E o) (x dx : Addr) (h1 : H1 x = none) (h2 : H1 dx = none) (hne : dx ≠ x) :
    spInit K C CB CL [.ref x, .str s, .ref st] (upd (upd H1 dx (.own x)) x (.ins C dx [])) (fun v H2 => v = .non ∧ Q (.ref x) H2) E := by
  have sm := same_mk (C := C) h1 h2
  have fr : ∀ {e : Addr}, upd (upd H1 dx (.own x)) x (.ins C dx []) e = none → H1 e = none := fun {e} z => sm.free z
  refine ⟨x, dx, s, st, xs, rfl, upd_same, hs, sq_same sm hst, .inl ⟨hl, o, r.same sm, ?_⟩⟩
  cases o with
  | inl a =>
    obtain ⟨d, tk⟩ := a
    refine fun H' ts ss b e t1 t2 => ⟨rfl, k x dx ts ss H' (fun c u z => ?_) h1 e t1 t2⟩
    exact b c u (ne_of_none z h1) (sm _ _ z)
  | inr i => exact fun H' e he s1 e1 => k H' e (fr he) (sm.trans s1) e1
theorem mk_long {K : Fg} {C CB CL : Addr} {s : Str} {st : Addr} {xs : List V} {H1 : Hp} {Q : VK} {E : XK} (hs : s ∈ K0) (hst : SqL K H1 st xs ∨ SqT K H1 st xs) (hl : 6 < xs.length)
    (k : ∀ (H' : Hp) (e : Addr), H1 e = none → Same H1 H' → H' e = some (.xd [("value", .ref st)]) → E (.ref CL) (some e) H') (x dx : Addr) (h1 : H1 x = none) (h2 : H1 dx = none) (hne : dx ≠ x) :
    spInit K C CB CL [.ref x, .str s, .ref st] (upd (upd H1 dx (.own x)) x (.ins C dx [])) (fun v H2 => v = .non ∧ Q (.ref x) H2) E := by
  have sm := same_mk (C := C) h1 h2
  exact ⟨x, dx, s, st, xs, rfl, upd_same, hs, sq_same sm hst, .inr ⟨hl, fun H' e he s1 e1 => k H' e (sm.free he) (sm.trans s1) e1⟩⟩
/-- a program that is well made -/
theorem mk_good {K : Fg} {C CB CL : Addr} {s : Str} {l : Sgs} {st : Addr} {xs : List V} {H1 : Hp} {Q : VK} {E : XK} (ok : (Pg.mk s l).ok) (hst : SqL K H1 st xs ∨ SqT K H1 st xs) (hx : StAll K C H1 xs l)
    (k : ∀ (p : Addr) (H2 : Hp), Same H1 H2 → H1 p = none → PgAt K C H2 (.ref p) (.mk s l) → Q (.ref p) H2) (x dx : Addr) (h1 : H1 x = none) (h2 : H1 dx = none) (hne : dx ≠ x) :
    spInit K C CB CL [.ref x, .str s, .ref st] (upd (upd H1 dx (.own x)) x (.ins C dx [])) (fun v H2 => v = .non ∧ Q (.ref x) H2) E := by
  have ok : s ∈ K0 ∧ l.len ≤ 6 ∧ l.ok 0 [s] := ok
  refine mk_read ok.1 hst (by rw [StAll.len hx]; exact ok.2.1) (rest_good 0 hx ok.2.2) ?_ x dx h1 h2 hne
  exact fun p dx ts ss H2 s1 hp e t1 t2 => k p H2 s1 hp (.mk e t1 (StAll.kp (Kp.of s1) hx) t2)
end K02
set_option Elab.async false
set_option linter.all false
set_option maxRecDepth 100000
set_option maxHeartbeats 4000000
namespace K02
open PySem L2 VK
abbrev sThen : Stmt := inClass (top 22) 5
abbrev sWithout : Stmt := inClass (top 22) 6
abbrev sExch : Stmt := inClass (top 22) 7
theorem scThen : FnScope ["self", "stage"] ["self", "stage"] (defScope sThen) := ⟨rfl, rfl, rfl, by decide +kernel, rfl, by decide +kernel, by decide +kernel⟩
theorem scWithout : FnScope ["self", "positions", "left", "position", "stage"] ["self", "positions"] (defScope sWithout) := ⟨rfl, rfl, rfl, by decide +kernel, rfl, by decide +kernel, by decide +kernel⟩
theorem scExch : FnScope ["self", "position", "stages"] ["self", "position"] (defScope sExch) := ⟨rfl, rfl, rfl, by decide +kernel, rfl, by decide +kernel, by decide +kernel⟩
/-- the class, as it is called -/
structure Lp (K : Fg) (mg : Str → Option Value) (A I : Nat → Addr) (D J : Nat → FuncData) (aS a1 a2 C e0 : Addr) : Prop where
  L : Lb K mg A I D J aS a1 a2 C
  m : Mk K C (A 22)
  F : FunD K "__init__" "Program.__init__" sInit (A 22) (D 22)
  b : Binds K (D 22) ["self", "source", "stages"] []
  b0 : Binds K (D 22) ["self", "source", "stages"] [.ref e0]
  h0 : ∀ H : Hp, SqT K H e0 []
/-- a program's object -/
def ObjP (K : Fg) (C : Addr) (H : Hp) (a : Addr) (s : Str) (ts : Addr) (xs : List V) : Prop := ∃ (dx ss : Addr) (d : Int), H a = some (.ins C dx (flds s ts ss d)) ∧ s ∈ K0 ∧ SqT K H ts xs ∧ xs.length ≤ 6
theorem ObjP.same {K : Fg} {C : Addr} {H H' : Hp} {a ts : Addr} {s : Str} {xs : List V} (h : ObjP K C H a s ts xs) (z : Same H H') : ObjP K C H' a s ts xs := by
  obtain ⟨dx, ss, d, e, hs, ht, hl⟩ := h
  exact ⟨dx, ss, d, z _ _ e, hs, (Kp.of z).tup ht, hl⟩
theorem MkEnd.up {K : Fg} {C CB : Addr} {s : Str} {xs : List V} {H H1 : Hp} {Q : VK} {E : XK} {o : Out} (z : Same H H1) (h : MkEnd K C CB s xs H Q E o) : MkEnd K C CB s xs H1 Q E o := by
  cases o with
  | inl a =>
    obtain ⟨d, tk⟩ := a
    exact fun p dx ts ss H2 s1 hp e t1 t2 => h p dx ts ss H2 (z.trans s1) (z.free hp) e t1 t2
  | inr i => exact fun H' e he s1 e1 => h H' e (z.free he) (z.trans s1) e1
def ErrP (CP : Addr) (f : Str) (H : Hp) (v : V) (E : XK) : Prop := ∀ (H' : Hp) (e : Addr), H e = none → Same H H' → H' e = some (.xd [(f, v)]) → E (.ref CP) (some e) H'
def spThen (K : Fg) (C CB CL : Addr) : Sp := fun vs H Q E => ∃ (a ts : Addr) (s : Str) (xs : List V) (v : V), vs = [.ref a, v] ∧ ObjP K C H a s ts xs ∧
  ((xs.length < 6 ∧ ∃ o, Rest K C H 0 [s] 0 (xs ++ [v]) o ∧ MkEnd K C CB s (xs ++ [v]) H Q E o) ∨
   (xs.length = 6 ∧ ∀ (H' : Hp) (e st : Addr), H e = none → Same H H' → H' e = some (.xd [("value", .ref st)]) → H' st = some (.lst (xs ++ [v])) → E (.ref CL) (some e) H'))
section
variable {P : Program} {w : World} {K : Fg} {mg : Str → Option Value} {base : Heap} {A I : Nat → Addr} {D J : Nat → FuncData} {aS a1 a2 C e0 : Addr}
theorem Lp.o22 (Z : Lp K mg A I D J aS a1 a2 C e0) : FnOk P w K mg base (L2.CX P w) 5 (A 22) (D 22) ["self", "source", "stages"] (spInit K C (A 4) (A 3)) := ok_init Z.F Z.L
theorem ok_then {f : Addr} {fd : FuncData} (F : Fun K "then" "Program.then" sThen f fd) (Z : Lp K mg A I D J aS a1 a2 C e0) : FnOk P w K mg base (L2.CX P w) 7 f fd ["self", "stage"] (spThen K C (A 4) (A 3)) := by
  refine F.okX scThen (fun vs H Q E h => ?_) (fun cdv B outer s H vs Q E hr h => ?_)
  · obtain ⟨a, ts, s, xs, v, rfl, _⟩ := h
    rfl
  · obtain ⟨a, ts, s, xs, v, rfl, hO, k⟩ := h
    obtain ⟨dx, ss, d, ha, hs, ht, hl⟩ := hO
    refine ⟨_, pss_one (ps_ret (pe_make Z.m Z.o22 hr rfl Z.L.c.g Z.b .nil (E := E) (passes_call (takes_of rfl rfl rfl rfl) fun _ _ _ _ z => z)
      (pa_cons (pe_fld (pv 0) rfl) (pa_cons (pe_op op_cat (pe_callTy call_list_of (by rfl) Z.L.N.lst PyProof.Rows.boot_list (pa_cons (pe_fld (pv 0) rfl) pa_nil)) (pe_lst (pa_cons (pv 1) pa_nil))) pa_nil)))), ?_⟩
    refine ⟨_, rfl, a, C, dx, _, .str s, rfl, ha, Z.L.c.cl, Z.L.c.n1, get_source _ _ _ _, ?_⟩
    refine ⟨_, rfl, a, C, dx, _, .ref ts, rfl, ha, Z.L.c.cl, Z.L.c.n2, get_stages _ _ _ _, ?_⟩
    refine ⟨ts, xs, rfl, .inr ht, fun p hp => ?_⟩
    have s1 : Same H (upd H p (.lst xs)) := same_new hp
    have e1 : upd H p (.lst xs) p = some (.lst xs) := upd_same
    generalize upd H p (.lst xs) = H1 at s1 e1
    refine ⟨_, rfl, by show 1 ≤ sizeLine; decide, fun q hq => ?_⟩
    have s2 : Same H1 (upd H1 q (.lst [v])) := same_new hq
    have e2 : upd H1 q (.lst [v]) q = some (.lst [v]) := upd_same
    generalize upd H1 q (.lst [v]) = H2 at s2 e2
    refine ⟨p, q, xs, [v], rfl, rfl, s2 _ _ e1, e2, ?_, fun r hr3 => ?_⟩
    · rw [sizeLine_eq]
      show xs.length + 1 ≤ _
      omega
    have s3 : Same H2 (upd H2 r (.lst (xs ++ [v]))) := same_new hr3
    have e3 : upd H2 r (.lst (xs ++ [v])) r = some (.lst (xs ++ [v])) := upd_same
    generalize upd H2 r (.lst (xs ++ [v])) = H3 at s3 e3
    have s03 := s1.trans (s2.trans s3)
    have len : (xs ++ [v]).length = xs.length + 1 := by rw [List.length_append]; rfl
    rcases k with ⟨h6, o, rest, k⟩ | ⟨h6, k⟩
    · exact mk_read hs (.inl (SqL.of e3)) (by omega) (rest.same s03) (k.up s03)
    · exact mk_long hs (.inl (SqL.of e3)) (by omega) fun H' e he z e9 => k H' e r (s03.free he) (s03.trans z) e9 (z _ _ e3)
end
end K02
set_option Elab.async false
set_option linter.all false
set_option maxRecDepth 100000
set_option maxHeartbeats 4000000
namespace K02
open PySem L2 VK
/-! ### what is left, what has changed places -/
def keepG {α : Type} (ns : List Int) : Nat → List α → List α
  | _, [] => []
  | i, x :: r => if ((i : Nat) : Int) ∈ ns then keepG ns (i + 1) r else x :: keepG ns (i + 1) r
theorem keepG_snoc {α : Type} (ns : List Int) (y : α) : ∀ (xs : List α) (i : Nat), keepG ns i (xs ++ [y]) = keepG ns i xs ++ (if ((i + xs.length : Nat) : Int) ∈ ns then [] else [y])
  | [], i => by
    show (if ((i : Nat) : Int) ∈ ns then keepG ns (i + 1) [] else y :: keepG ns (i + 1) []) = _
    show (if ((i : Nat) : Int) ∈ ns then [] else [y]) = [] ++ (if ((i + 0 : Nat) : Int) ∈ ns then [] else [y])
    rfl
  | x :: r, i => by
    have ih := keepG_snoc ns y r (i + 1)
    show (if ((i : Nat) : Int) ∈ ns then keepG ns (i + 1) (r ++ [y]) else x :: keepG ns (i + 1) (r ++ [y])) = (if ((i : Nat) : Int) ∈ ns then keepG ns (i + 1) r else x :: keepG ns (i + 1) r) ++ _
    rw [ih, show i + 1 + r.length = i + (x :: r).length from by rw [List.length_cons]; omega]
    by_cases c : ((i : Nat) : Int) ∈ ns
    · rw [if_pos c, if_pos c]
    · rw [if_neg c, if_neg c]
      rfl
theorem keepG_len {α : Type} (ns : List Int) : ∀ (xs : List α) (i : Nat), (keepG ns i xs).length ≤ xs.length
  | [], _ => Nat.le_refl 0
  | x :: r, i => by
    show (if ((i : Nat) : Int) ∈ ns then keepG ns (i + 1) r else x :: keepG ns (i + 1) r).length ≤ _
    by_cases c : ((i : Nat) : Int) ∈ ns
    · rw [if_pos c]
      exact Nat.le_succ_of_le (keepG_len ns r (i + 1))
    · rw [if_neg c]
      exact Nat.succ_le_succ (keepG_len ns r (i + 1))
theorem keepG_pair {α β : Type} {F : α → β → Prop} (ns : List Int) : ∀ {xs : List α} {ys : List β} (i : Nat), Paired F xs ys → Paired F (keepG ns i xs) (keepG ns i ys)
  | _, _, _, .nil => .nil
  | _, _, i, .cons (a := x) (b := y) (l₁ := r) (l₂ := q) h t => by
    show Paired F (if ((i : Nat) : Int) ∈ ns then keepG ns (i + 1) r else x :: keepG ns (i + 1) r) (if ((i : Nat) : Int) ∈ ns then keepG ns (i + 1) q else y :: keepG ns (i + 1) q)
    by_cases c : ((i : Nat) : Int) ∈ ns
    · rw [if_pos c, if_pos c]
      exact keepG_pair ns (i + 1) t
    · rw [if_neg c, if_neg c]
      exact .cons h (keepG_pair ns (i + 1) t)
/-- two neighbours change places -/
def swapG {α : Type} (i : Nat) (x y : α) (xs : List α) : List α := (xs.set i y).set (i + 1) x
def spWithout (K : Fg) (C CB CP : Addr) : Sp := fun vs H Q E => ∃ (a ts : Addr) (s : Str) (xs : List V) (v : V), vs = [.ref a, v] ∧ ObjP K C H a s ts xs ∧
  ((∃ t, TyX K H v t ∧ PySem.W.kitOne K t (.type "list") = some false ∧ ErrP CP "value" H v E) ∨
   ∃ (b : Addr) (ys : List V) (cs : List (Option Int)), v = .ref b ∧ SqL K H b ys ∧ ys.length < 64 ∧ Paired (Itm K H) ys cs ∧
    ((arePos (xs.length : Nat) cs = false ∧ ErrP CP "value" H v E) ∨
     ∃ (ns : List Int) (o : Out), ys = ns.map V.int ∧ arePos (xs.length : Nat) cs = true ∧ Rest K C H 0 [s] 0 (keepG ns 0 xs) o ∧ MkEnd K C CB s (keepG ns 0 xs) H Q E o))
def spExch (K : Fg) (C CB CP : Addr) : Sp := fun vs H Q E => ∃ (a ts : Addr) (s : Str) (xs : List V) (v : V) (c : Option Int), vs = [.ref a, v] ∧ ObjP K C H a s ts xs ∧ Itm K H v c ∧
  ((inB ((xs.length : Nat) - 1) c = false ∧ ErrP CP "value" H v E) ∨
   ∃ (i : Nat) (x y : V) (o : Out), c = some (i : Int) ∧ i + 1 < xs.length ∧ xs[i]? = some x ∧ xs[i + 1]? = some y ∧ Rest K C H 0 [s] 0 (swapG i x y xs) o ∧ MkEnd K C CB s (swapG i x y xs) H Q E o)
theorem ixN_of {n i : Nat} (h : i < n) : ixN n (i : Nat) = some i := by
  unfold ixN
  rw [if_pos (by omega), if_pos (by omega)]
  rfl
theorem in_int (z : Int) (ns : List Int) : inV (.int z) (ns.map V.int) = decide (z ∈ ns) := by
  unfold inV
  rw [List.any_map]
  by_cases h : z ∈ ns
  · rw [decide_eq_true h, List.any_eq_true]
    exact ⟨z, h, by show (z == z) = true; exact beq_self_eq_true z⟩
  · rw [decide_eq_false h, List.any_eq_false]
    intro y hy e
    have : y = z := beq_iff_eq.mp e
    exact h (this ▸ hy)
theorem flat_int (ns : List Int) : (ns.map V.int).all flatV = true := by
  rw [List.all_map, List.all_eq_true]
  exact fun _ _ => rfl
section
variable {P : Program} {w : World} {K : Fg} {mg : Str → Option Value} {base : Heap} {A I : Nat → Addr} {D J : Nat → FuncData} {aS a1 a2 C e0 : Addr}
theorem ok_exch {f : Addr} {fd : FuncData} (F : Fun K "exchanged" "Program.exchanged" sExch f fd) (Z : Lp K mg A I D J aS a1 a2 C e0) : FnOk P w K mg base (L2.CX P w) 7 f fd ["self", "position"] (spExch K C (A 4) (A 5)) := by
  refine F.okX scExch (fun vs H Q E h => ?_) (fun cdv B outer s H vs Q E hr h => ?_)
  · obtain ⟨a, ts, s, xs, v, c, rfl, _⟩ := h
    rfl
  · obtain ⟨a, ts, s, xs, v, c, rfl, hO, hv, k⟩ := h
    obtain ⟨dx, ss, d, ha, hs, ht, hl⟩ := hO
    have hr2 := hr.mono (show 2 ≤ 6 by decide)
    refine ⟨_, pss_cons (ps_if (pt_not (pt_val (pe_call Z.L.o20 hr2 rfl Z.L.g20 Z.L.F20.kp Z.L.b20 .nil pass0 (pa_cons (pv 1) (pa_cons (pe_op op_sub (pe_callB call_len_seq (by rfl) Z.L.N.len PySem.boot_len (pa_cons (pe_fld (pv 0) rfl) pa_nil)) pe_int) pa_nil)))))
        (pss_one (ps_raise rfl (takes_of rfl rfl rfl rfl) (pmk_oex Z.L.e5.ox Z.L.e5.ini Z.L.e5.tyI Z.L.i5 hr2 Z.L.e5.bd .nil pass0 rfl Z.L.e5.g (pa_cons (pv 1) pa_nil)))) pss_nil)
      (pss_cons (ps_set (i := 2) scExch.nd rfl (Or.inl rfl) (pe_callTy call_list_of (by rfl) Z.L.N.lst PyProof.Rows.boot_list (pa_cons (pe_fld (pv 0) rfl) pa_nil)))
      (pss_cons (ps_asg (pe_tup (pa_cons (pe_ix ix_list (pv 2) (pe_op op_add (pv 1) pe_int) (fun _ _ => rfl)) (pa_cons (pe_ix ix_list (pv 2) (pv 1) (fun _ _ => rfl)) pa_nil)))
        (pg_tup rfl (pgs_cons (pg_sub (pv 2) (pv 1) set_list) (pgs_cons (pg_sub (pv 2) (pe_op op_add (pv 1) pe_int) set_list) pgs_nil))))
      (pss_one (ps_ret (pe_make Z.m Z.o22 hr rfl Z.L.c.g Z.b .nil (E := E) (passes_call (takes_of rfl rfl rfl rfl) fun _ _ _ _ z => z)
        (pa_cons (pe_fld (pv 0) rfl) (pa_cons (pv 2) pa_nil))))))), ?_⟩
    refine ⟨_, rfl, _, rfl, a, C, dx, _, .ref ts, rfl, ha, Z.L.c.cl, Z.L.c.n2, get_stages _ _ _ _, ts, xs, rfl, .inr ht, _, _, rfl, rfl, v, _, c, rfl, hv, _, rfl, ?_⟩
    rcases k with ⟨e, k⟩ | ⟨i, x, y, o, ec, h1, hx, hy, rest, k⟩
    · rw [e]
      exact iteT (B := True) ⟨_, rfl, by show 1 ≤ 1000; decide, fun q hq => read_raise (R := fun e H' => E (.ref (A 5)) (some e) H') (fun e H' he s2 e2 => k H' e he s2 e2) q hq⟩
    subst ec
    cases hv
    rw [show inB ((xs.length : Nat) - 1) (some (i : Int)) = true from by
      show (decide (0 ≤ (i : Int)) && decide ((i : Int) < (xs.length : Nat) - 1)) = true
      rw [decide_eq_true (by omega), decide_eq_true (by omega)]
      rfl]
    refine iteF (A := True) ?_
    refine ⟨_, rfl, a, C, dx, _, .ref ts, rfl, ha, Z.L.c.cl, Z.L.c.n2, get_stages _ _ _ _, ts, xs, rfl, .inr ht, fun p hp => ?_⟩
    have s1 : Same H (upd H p (.lst xs)) := same_new hp
    have e1 : upd H p (.lst xs) p = some (.lst xs) := upd_same
    generalize upd H p (.lst xs) = H1 at s1 e1
    refine ⟨_, rfl, _, rfl, _, _, rfl, rfl, p, xs, _, y, rfl, rfl, SqL.of e1, at_of (j := i + 1) (by omega) hy, _, rfl, _, rfl, p, xs, _, x, rfl, rfl, SqL.of e1, at_of (j := i) rfl hx, by show 2 ≤ sizeLine; decide, fun q hq => ?_⟩
    have s2 : Same H1 (upd H1 q (.tup [y, x])) := same_new hq
    have e2 : upd H1 q (.tup [y, x]) q = some (.tup [y, x]) := upd_same
    generalize upd H1 q (.tup [y, x]) = H2 at s2 e2
    have e3 := s2 _ _ e1
    refine ⟨q, [y, x], rfl, .inl (.inl e2), rfl, _, _, rfl, _, rfl, _, rfl, p, xs, _, i, rfl, rfl, e3, ixN_of (by omega), ?_⟩
    refine ⟨_, _, rfl, _, rfl, _, rfl, _, _, rfl, rfl, p, _, _, i + 1, rfl, rfl, upd_same, ?_, rfl, ?_⟩
    · rw [List.length_set]
      exact ixN_of h1
    have s4 : ∀ {o u : HO}, Same H (upd (upd H2 p o) p u) := fun {o u} b t e => by
      have n := ne_of_none e hp
      rw [upd_ne n, upd_ne n]
      exact s2 _ _ (s1 _ _ e)
    refine ⟨_, rfl, a, C, dx, _, .str s, rfl, s4 _ _ ha, Z.L.c.cl, Z.L.c.n1, get_source _ _ _ _, _, rfl, ?_⟩
    refine mk_read hs (.inl (SqL.of upd_same)) ?_ (rest.same s4) (k.up s4)
    show (swapG i x y xs).length ≤ 6
    unfold swapG
    rw [List.length_set, List.length_set]
    exact hl
theorem ok_without {f : Addr} {fd : FuncData} (F : Fun K "without" "Program.without" sWithout f fd) (Z : Lp K mg A I D J aS a1 a2 C e0) : FnOk P w K mg base (L2.CX P w) 7 f fd ["self", "positions"] (spWithout K C (A 4) (A 5)) := by
  refine F.okX scWithout (fun vs H Q E h => ?_) (fun cdv B outer s H vs Q E hr h => ?_)
  · obtain ⟨a, ts, s, xs, v, rfl, _⟩ := h
    rfl
  · obtain ⟨a, ts, s, xs, v, rfl, hO, k⟩ := h
    obtain ⟨dx, ss, d, ha, hs, ht, hl⟩ := hO
    have hr2 := hr.mono (show 2 ≤ 6 by decide)
    have hr3 := hr.mono (show 3 ≤ 6 by decide)
    refine ⟨_, pss_cons (ps_if (pt_not (pt_val (pe_call Z.L.o21 hr3 rfl Z.L.g21 Z.L.F21.kp Z.L.b21 .nil pass0 (pa_cons (pv 1) (pa_cons (pe_callB call_len_seq (by rfl) Z.L.N.len PySem.boot_len (pa_cons (pe_fld (pv 0) rfl) pa_nil)) pa_nil)))))
        (pss_one (ps_raise rfl (takes_of rfl rfl rfl rfl) (pmk_oex Z.L.e5.ox Z.L.e5.ini Z.L.e5.tyI Z.L.i5 hr2 Z.L.e5.bd .nil pass0 rfl Z.L.e5.g (pa_cons (pv 1) pa_nil)))) pss_nil)
      (pss_cons (ps_setLc (i := 2) (own := [("position", 3), ("stage", 4)]) (g := gTup K 2 (gCons (gName 3) (gCons (gName 4) gNil))) (tt := tTest (tOp (rIn K true) (tVar 3) (tVar 1))) (te := tVar 4) rfl scWithout.nd rfl rfl (sw_true rfl rfl rfl (by decide +kernel)) (pi_enumA (by rfl) Z.L.N.enm (pa_cons (pe_fld (pv 0) rfl) pa_nil))
          (blkOk_by (N := ["self", "positions", "left", "position", "stage"]) (sc := defScope sWithout) (by decide +kernel))
          (fun _ _ _ _ _ => by exact pg_tup rfl (pgs_cons (pg_name (i := 3) scWithout.nd rfl (Or.inl rfl)) (pgs_cons (pg_name (i := 4) scWithout.nd rfl (Or.inl rfl)) pgs_nil)))
          (fun _ _ _ _ _ => by exact pts_one (pt_cmpR op_notIn_seq (pv 3) (pv 1) rfl)) (fun _ _ _ _ _ => by exact pv 4))
      (pss_one (ps_ret (pe_make Z.m Z.o22 hr rfl Z.L.c.g Z.b .nil (E := E) (passes_call (takes_of rfl rfl rfl rfl) fun _ _ _ _ z => z)
        (pa_cons (pe_fld (pv 0) rfl) (pa_cons (pv 2) pa_nil)))))), ?_⟩
    refine ⟨_, rfl, _, rfl, a, C, dx, _, .ref ts, rfl, ha, Z.L.c.cl, Z.L.c.n2, get_stages _ _ _ _, ts, xs, rfl, .inr ht, v, _, rfl, ?_⟩
    rcases k with ⟨t, ty, kt, k⟩ | ⟨b, ys, cs, rfl, hb, hl2, ps, k⟩
    · exact .inl ⟨t, ty, kt, _, rfl, iteT (B := True) ⟨_, rfl, by show 1 ≤ 1000; decide, fun q hq => read_raise (R := fun e H' => E (.ref (A 5)) (some e) H') (fun e H' he s2 e2 => k H' e he s2 e2) q hq⟩⟩
    refine .inr ⟨b, ys, cs, rfl, hb, hl2, ps, fun H1 s1 => ⟨_, rfl, ?_⟩⟩
    rcases k with ⟨e, k⟩ | ⟨ns, o, ey, e, rest, k⟩
    · rw [e]
      exact iteT (B := True) ⟨_, rfl, by show 1 ≤ 1000; decide, fun q hq => read_raise (R := fun e H' => E (.ref (A 5)) (some e) H') (fun e H' he s2 e2 => k H' e (s1.free he) (s1.trans s2) e2) q hq⟩
    rw [e]
    refine iteF (A := True) ?_
    subst ey
    have ht1 := (Kp.of s1).tup ht
    have hb1 := s1.seq hb
    refine ⟨_, rfl, a, C, dx, _, .ref ts, rfl, s1 _ _ ha, Z.L.c.cl, Z.L.c.n2, get_stages _ _ _ _, ts, xs, rfl, _, .inr ⟨ht1, rfl⟩, fun Da hD => ?_⟩
    refine lc_it walk_enumT (fun i H' => Same H1 H' ∧ H' Da = some (.lst (keepG ns 0 (xs.take i)))) ⟨same_new hD, upd_same⟩ (fun i H' _ q => (Kp.of q.1).tup ht1) ?_ ?_
    · rintro i z H2 H3 hi ⟨q1, q2⟩ ⟨T, u, y, rfl, hT, rfl, eu, ey⟩
      have eu' : V.int (i : Nat) = u := Option.some.inj eu
      subst eu'
      have ey' : xs[i]? = some y := ey
      refine ⟨T, _, rfl, .inl (.inl upd_same), rfl, _, _, rfl, _, _, rfl, rfl, rfl, ?_⟩
      have sT : Same H2 (upd H2 T (.tup [.int (i : Nat), y])) := same_new hT
      generalize upd H2 T (.tup [.int (i : Nat), y]) = G2 at sT
      refine ⟨_, rfl, _, rfl, b, _, rfl, .inl ((q1.trans sT).seq hb1), rfl, flat_int ns, _, rfl, ?_⟩
      have tk : keepG ns 0 (xs.take (i + 1)) = keepG ns 0 (xs.take i) ++ (if ((i : Nat) : Int) ∈ ns then [] else [y]) := by
        rw [List.take_add_one, ey']
        show keepG ns 0 (xs.take i ++ [y]) = _
        rw [keepG_snoc, List.length_take, Nat.zero_add, Nat.min_eq_left (Nat.le_of_lt hi)]
      have ent := sT _ _ q2
      by_cases c : ((i : Nat) : Int) ∈ ns
      · rw [show (if true = true then !inV (V.int (i : Nat)) (ns.map V.int) else inV (V.int (i : Nat)) (ns.map V.int)) = false from by
          rw [if_pos rfl, in_int, decide_eq_true c]; rfl]
        refine iteF (A := True) ⟨q1.trans sT, ?_⟩
        rw [tk, if_pos c, List.append_nil]
        exact ent
      · rw [show (if true = true then !inV (V.int (i : Nat)) (ns.map V.int) else inV (V.int (i : Nat)) (ns.map V.int)) = true from by
          rw [if_pos rfl, in_int, decide_eq_false c]; rfl]
        refine iteT (B := True) ⟨_, rfl, _, ent, ?_, ?_, ?_⟩
        · refine small1000 (Nat.le_trans (keepG_len _ _ _) ?_)
          rw [List.length_take]
          omega
        · intro r t er
          have : r ≠ Da := fun zz => by rw [zz, hD] at er; cases er
          rw [upd_ne this]
          exact sT _ _ (q1 _ _ er)
        · rw [upd_same, tk, if_neg c]
    · rintro H2 ⟨q1, q2⟩
      rw [List.take_of_length_le (Nat.le_refl _)] at q2
      have s2 := s1.trans q1
      refine ⟨_, rfl, a, C, dx, _, .str s, rfl, s2 _ _ ha, Z.L.c.cl, Z.L.c.n1, get_source _ _ _ _, _, rfl, ?_⟩
      exact mk_read hs (.inl (SqL.of q2)) (Nat.le_trans (keepG_len _ _ _) hl) (rest.same s2) (k.up s2)
end
end K02
set_option Elab.async false
set_option linter.all false
set_option maxRecDepth 100000
set_option maxHeartbeats 4000000
namespace K02
open PySem L2 VK
abbrev sEq : Stmt := inClass (top 22) 8
theorem scEq : FnScope ["self", "other"] ["self", "other"] (defScope sEq) := ⟨rfl, rfl, rfl, by decide +kernel, rfl, by decide +kernel, by decide +kernel⟩
theorem flds_inj {s s' : Str} {ts ts' ss ss' : Addr} {d d' : Int} (e : flds s ts ss d = flds s' ts' ss' d') : s = s' ∧ ts = ts' := by
  have a := get_source s ts ss d
  have b := get_stages s ts ss d
  rw [e] at a b
  rw [get_source] at a
  rw [get_stages] at b
  exact ⟨(V.str.inj (Option.some.inj a)).symm, (V.ref.inj (Option.some.inj b)).symm⟩
/-! ### one address, one program -/
section
variable {X : Cx} {pins : List (Addr × Obj)} {σ : L2.St} {H : Hp} {s : Shared} {C : Addr}
mutual
theorem PgAt.inj (I : Inv X pins σ H s) : ∀ {v : V} {p q : Pg}, PgAt X.K C H v p → PgAt X.K C H v q → p = q
  | _, _, _, .mk (s := s1) (l := l1) h hs hl hr, .mk (s := s2) (l := l2) h' hs' hl' hr' => by
    rw [h] at h'
    have e := Option.some.inj h'
    injection e with e1 e2 e3
    obtain ⟨es, et⟩ := flds_inj e3
    subst es et
    rw [StAll.inj I hl (by rw [I.tuple_inj hs hs']; exact hl')]
theorem StV.inj (I : Inv X pins σ H s) : ∀ {v : V} {x y : Sg}, StV X.K C H v x → StV X.K C H v y → x = y
  | _, _, _, .nm h, .nm h' => by
    have e := I.tuple_inj h h'
    injection e with e1 e2
    injection e2 with e2 _
    rw [V.str.inj e1, V.str.inj e2]
  | _, _, _, .nm h, .num h' => by
    have e := I.tuple_inj h h'
    injection e with e1 e2
    injection e2 with e2 _
    cases e2
  | _, _, _, .nm h, .flat h' => by
    have e := I.tuple_inj h h'
    injection e with e1 e2
    cases e2
  | _, _, _, .nm h, .zip h' hp' => by
    have e := I.tuple_inj h h'
    injection e with e1 e2
    injection e2 with e2 _
    rw [← e2] at hp'
    cases hp'
  | _, _, _, .num h, .nm h' => by
    have e := I.tuple_inj h h'
    injection e with e1 e2
    injection e2 with e2 _
    cases e2
  | _, _, _, .num h, .num h' => by
    have e := I.tuple_inj h h'
    injection e with e1 e2
    injection e2 with e2 _
    rw [V.str.inj e1, V.int.inj e2]
  | _, _, _, .num h, .flat h' => by
    have e := I.tuple_inj h h'
    injection e with e1 e2
    cases e2
  | _, _, _, .num h, .zip h' hp' => by
    have e := I.tuple_inj h h'
    injection e with e1 e2
    injection e2 with e2 _
    rw [← e2] at hp'
    cases hp'
  | _, _, _, .flat h, .nm h' => by
    have e := I.tuple_inj h h'
    injection e with e1 e2
    cases e2
  | _, _, _, .flat h, .num h' => by
    have e := I.tuple_inj h h'
    injection e with e1 e2
    cases e2
  | _, _, _, .flat h, .flat h' => rfl
  | _, _, _, .flat h, .zip h' hp' => by
    have e := I.tuple_inj h h'
    injection e with e1 e2
    cases e2
  | _, _, _, .zip h hp, .nm h' => by
    have e := I.tuple_inj h h'
    injection e with e1 e2
    injection e2 with e2 _
    rw [e2] at hp
    cases hp
  | _, _, _, .zip h hp, .num h' => by
    have e := I.tuple_inj h h'
    injection e with e1 e2
    injection e2 with e2 _
    rw [e2] at hp
    cases hp
  | _, _, _, .zip h hp, .flat h' => by
    have e := I.tuple_inj h h'
    injection e with e1 e2
    cases e2
  | _, _, _, .zip h hp, .zip h' hp' => by
    have e := I.tuple_inj h h'
    injection e with e1 e2
    injection e2 with e2 _
    rw [PgAt.inj I hp (by rw [e2]; exact hp')]
theorem StAll.inj (I : Inv X pins σ H s) : ∀ {vs : List V} {l m : Sgs}, StAll X.K C H vs l → StAll X.K C H vs m → l = m
  | _, _, _, .nil, .nil => rfl
  | _, _, _, .cons h t, .cons h' t' => by rw [StV.inj I h h', StAll.inj I t t']
end
end
end K02
set_option Elab.async false
set_option linter.all false
set_option maxRecDepth 100000
set_option maxHeartbeats 4000000
namespace K02
open PySem L2 VK
/-- what the class says of == -/
structure Le (K : Fg) (C fq : Addr) (dq : FuncData) : Prop where
  F : Fun K "__eq__" "Program.__eq__" sEq fq dq
  hs : PySem.W.findIn K (.ref C) "__eq__" = some (some (.ref fq))
  hf : PySem.W.isFn K (.ref fq) = true
  b : Binds K dq ["self", "other"] []
  ne : ∀ (h : Heap) (x : Addr) (o : Obj), K.In h → h.get? x = some o → o.cls = .ref C → h.OwnEqNoNe x C fq "object" [.type "object"]
/-- what the body of == asks of the two -/
def EqAsk (K : Fg) (C : Addr) (D : Eqb) (a : Addr) (y : V) (b : Bool) (H : Hp) : Prop :=
  (∃ (c dx dy ts ss ts' ss' : Addr) (s s' : Str) (d d' : Int), y = .ref c ∧ H a = some (.ins C dx (flds s ts ss d)) ∧ H c = some (.ins C dy (flds s' ts' ss' d')) ∧ (s ≠ s' → b = false) ∧ (s = s' → D (.ref ts) (.ref ts') b H)) ∨
  (∃ t, TyX K H y t ∧ PySem.W.kitOne K t (.ref C) = some false ∧ b = false)
theorem eqV_str (a b : Str) : eqV (.str a) (.str b) = decide (a = b) := by
  show (a == b) = _
  by_cases h : a = b
  · rw [h, decide_eq_true rfl]; exact beq_self_eq_true b
  · rw [decide_eq_false h]; exact beq_false_of_ne h
section
variable {P : Program} {w : World} {K : Fg} {mg : Str → Option Value} {base : Heap} {A I : Nat → Addr} {D J : Nat → FuncData} {aS a1 a2 C fq : Addr} {dq : FuncData}
theorem ok_eq_of {n : Nat} {Q0 : Eqb} {R : Addr → V → Bool → Hp → Prop} (Z : Le K C fq dq) (L : Lb K mg A I D J aS a1 a2 C) (hop : ∀ X : Cx, X.prog = P → X.w = w → X.K = K → X.mg = mg → X.base = base → RcB X n .Eq id Q0)
    (hR : ∀ a y b H, R a y b H → EqAsk K C Q0 a y b H) : FnOk P w K mg base CX0 (n + 1) fq dq ["self", "other"] (spEqB R) := by
  refine Z.F.ok scEq (fun vs H Q E h => ?_) (fun cdv B outer s H vs Q E hr h => ?_)
  · obtain ⟨a, y, b, rfl, _⟩ := h
    rfl
  · obtain ⟨a, y, b, rfl, r, k⟩ := h
    refine ⟨_, pss_one (ps_ret (pe_and (pe_callB call_isi (by rfl) L.N.isi PyProof.Rows.boot_isinstance (pa_cons (pv 1) (pa_cons (pe_glob (v := .ref C) rfl L.c.g rfl) pa_nil)))
      (pe_and (pe_cmpR op_eq (pe_fld (pv 0) rfl) (pe_fld (pv 1) rfl) (nomark _)) (pe_one (pe_cmpR (op_Beq (hop _ rfl rfl rfl rfl rfl) hr) (pe_fld (pv 0) rfl) (pe_fld (pv 1) rfl) (nomark _)))))), ?_⟩
    rcases hR a y b H r with ⟨c, dx, dy, ts, ss, ts', ss', s1, s2, d, d', rfl, ha, hc, n1, n2⟩ | ⟨t, ty, kt, rfl⟩
    · refine ⟨_, rfl, .ref c, .ref C, .ref C, .ref C, true, rfl, .own C, L.c.ty hc, L.c.kc, _, rfl, ?_⟩
      refine iteT (B := True) ?_
      refine ⟨_, rfl, a, C, dx, _, .str s1, rfl, ha, L.c.cl, L.c.n1, get_source _ _ _ _, _, rfl, c, C, dy, _, .str s2, rfl, hc, L.c.cl, L.c.n1, get_source _ _ _ _, rfl, _, rfl, ?_⟩
      refine dif (fun e => ?_) (fun e => ?_)
      · have e' : s1 = s2 := V.str.inj e
        refine ⟨_, rfl, a, C, dx, _, .ref ts, rfl, ha, L.c.cl, L.c.n2, get_stages _ _ _ _, _, rfl, c, C, dy, _, .ref ts', rfl, hc, L.c.cl, L.c.n2, get_stages _ _ _ _, b, n2 e', fun H' ex => k H' ex⟩
      · have e' : s1 ≠ s2 := fun z => e (congrArg V.str z)
        rw [n1 e'] at k
        exact k H Ext.rfl'
    · exact ⟨_, rfl, y, .ref C, t, .ref C, false, rfl, .own C, ty, kt, _, rfl, iteF (A := True) (k H Ext.rfl')⟩
end
/-! ### two programs, by what they are -/
/-- all stages are of a known kind -/
def Two (K : Fg) (C : Addr) (m : Nat) (a : Addr) (y : V) (b : Bool) (H : Hp) : Prop := ∃ p q : Pg, PgAt K C H (.ref a) p ∧ PgAt K C H y q ∧ p.ok ∧ q.ok ∧ p.nest < m ∧ (b = true ↔ p = q)
def Rq (K : Fg) (C : Addr) (m : Nat) (a : Addr) (y : V) (b : Bool) (H : Hp) : Prop := Two K C m a y b H ∨ ∃ t, TyX K H y t ∧ PySem.W.kitOne K t (.ref C) = some false ∧ b = false
def DItem (K : Fg) (C : Addr) (m : Nat) : Eqb := fun x y b H => DFlatB x y b H ∨ DTwoB C (Two K C m) x y b H
abbrev DStage (K : Fg) (C : Addr) (m : Nat) : Eqb := DTupB K (DItem K C m)
abbrev DStages (K : Fg) (C : Addr) (m : Nat) : Eqb := DTupB K (DStage K C m)
theorem mon_two {K : Fg} {C : Addr} {m : Nat} : MonB (DTwoB C (Two K C m)) := by
  rintro x y b H H' e ⟨a, c, dx, dy, fs, gs, hx, hy, h1, h2, p, q, hp, hq, o1, o2, hn, hb⟩
  have k : Kp H H' := Kp.of e
  exact ⟨a, c, dx, dy, fs, gs, hx, hy, e _ _ h1, e _ _ h2, p, q, PgAt.kp k hp, PgAt.kp k hq, o1, o2, hn, hb⟩
theorem mon_item {K : Fg} {C : Addr} {m : Nat} : MonB (DItem K C m) := mon_flatB.or mon_two
theorem self_item {X : Cx} {C : Addr} {m : Nat} : SelfB X (DItem X.K C m) := by
  refine self_flat.or ?_
  rintro pins σ H s x b I ⟨a, c, dx, dy, fs, gs, rfl, e, h1, h2, p, q, hp, hq, o1, o2, hn, hb⟩
  cases e
  exact hb.mpr (PgAt.inj I hp hq)
def Sg.ty : Sg → Nat
  | .nm _ _ => 0
  | .num _ _ => 1
  | .flat => 2
  | .zip _ => 3
theorem kd_ty {x y : Sg} (hx : x.wf) (hy : y.wf) (e : x.kd = y.kd) : x.ty = y.ty := by
  have a1 : ∀ z ∈ K1, z ∉ K2 := by decide +kernel
  have a2 : ∀ z ∈ K1, z ≠ "flat" := by decide +kernel
  have a3 : ∀ z ∈ K1, z ≠ "zip" := by decide +kernel
  have a4 : ∀ z ∈ K2, z ≠ "flat" := by decide +kernel
  have a5 : ∀ z ∈ K2, z ≠ "zip" := by decide +kernel
  have a6 : ("flat" : Str) ≠ "zip" := by decide +kernel
  cases x with
  | nm k n =>
    cases y with
    | nm k' n' => rfl
    | num k' n' => exact absurd hy (by rw [← show k = k' from e]; exact a1 k hx)
    | flat => exact absurd e (a2 k hx)
    | zip p => exact absurd e (a3 k hx)
  | num k n =>
    cases y with
    | nm k' n' => exact absurd hx (by rw [show k = k' from e]; exact a1 k' hy)
    | num k' n' => rfl
    | flat => exact absurd e (a4 k hx)
    | zip p => exact absurd e (a5 k hx)
  | flat =>
    cases y with
    | nm k' n' => exact absurd e.symm (a2 k' hy)
    | num k' n' => exact absurd e.symm (a4 k' hy)
    | flat => rfl
    | zip p => exact absurd e a6
  | zip p =>
    cases y with
    | nm k' n' => exact absurd e.symm (a3 k' hy)
    | num k' n' => exact absurd e.symm (a5 k' hy)
    | flat => exact absurd e.symm a6
    | zip p => rfl
theorem flat_yes {K : Fg} {C : Addr} {m : Nat} {H : Hp} (z : Str) : DItem K C m (.str z) (.str z) true H := .inl ⟨rfl, rfl, beq_self_eq_true z⟩
theorem st_eq {K : Fg} {C : Addr} {m : Nat} {H : Hp} {v v' : V} {x y : Sg} {d d' : Int} {tk tk' : List Str} (hx : StV K C H v x) (hy : StV K C H v' y) (ox : x.ok d tk) (oy : y.ok d' tk') (hm : x.nest ≤ m) :
    ∃ b : Bool, DStage K C m v v' b H ∧ (b = true ↔ x = y) := by
  by_cases e : x.kd = y.kd
  · have ty := kd_ty ox.vd.wf oy.vd.wf e
    cases hx with
    | @nm a k n h =>
      cases hy with
      | @nm a' k' n' h' =>
        cases (show k = k' from e)
        refine ⟨decide (n = n'), ⟨_, _, _, _, rfl, rfl, h, h', .yes (flat_yes k) ?_⟩, ?_⟩
        · by_cases c : n = n'
          · rw [decide_eq_true c]
            exact .yes (.inl ⟨rfl, rfl, by rw [c]; exact beq_self_eq_true n'⟩) .nil
          · rw [decide_eq_false c]
            exact .no (.inl ⟨rfl, rfl, beq_false_of_ne c⟩)
        · rw [decide_eq_true_eq]
          exact ⟨fun z => by rw [z], fun z => by injection z⟩
      | num h' => exact absurd ty (by simp [Sg.ty])
      | flat h' => exact absurd ty (by simp [Sg.ty])
      | zip h' hp => exact absurd ty (by simp [Sg.ty])
    | @num a k n h =>
      cases hy with
      | nm h' => exact absurd ty (by simp [Sg.ty])
      | @num a' k' n' h' =>
        cases (show k = k' from e)
        refine ⟨decide (n = n'), ⟨_, _, _, _, rfl, rfl, h, h', .yes (flat_yes k) ?_⟩, ?_⟩
        · by_cases c : n = n'
          · rw [decide_eq_true c]
            exact .yes (.inl ⟨rfl, rfl, by rw [c]; exact beq_self_eq_true n'⟩) .nil
          · rw [decide_eq_false c]
            exact .no (.inl ⟨rfl, rfl, beq_false_of_ne c⟩)
        · rw [decide_eq_true_eq]
          exact ⟨fun z => by rw [z], fun z => by injection z⟩
      | flat h' => exact absurd ty (by simp [Sg.ty])
      | zip h' hp => exact absurd ty (by simp [Sg.ty])
    | @flat a h =>
      cases hy with
      | nm h' => exact absurd ty (by simp [Sg.ty])
      | num h' => exact absurd ty (by simp [Sg.ty])
      | flat h' => exact ⟨true, ⟨_, _, _, _, rfl, rfl, h, h', .yes (flat_yes _) .nil⟩, fun _ => rfl, fun _ => rfl⟩
      | zip h' hp => exact absurd ty (by simp [Sg.ty])
    | @zip a v p h hp =>
      cases hy with
      | nm h' => exact absurd ty (by simp [Sg.ty])
      | num h' => exact absurd ty (by simp [Sg.ty])
      | flat h' => exact absurd ty (by simp [Sg.ty])
      | @zip a' v' q h' hq =>
        have op : p.ok ∧ ∀ s ∈ p.srcs, s ∉ tk := ox
        have oq : q.ok ∧ ∀ s ∈ q.srcs, s ∉ tk' := oy
        have lt : p.nest < m := hm
        have hp0 := hp
        have hq0 := hq
        cases hp with
        | @mk c dx ts ss s l xs e1 e2 e3 e4 =>
        cases hq with
        | @mk c' dx' ts' ss' s' l' xs' f1 f2 f3 f4 =>
          have two : ∀ b : Bool, (b = true ↔ Pg.mk s l = Pg.mk s' l') → DItem K C m (.ref c) (.ref c') b H := fun b hb => .inr ⟨c, c', _, _, _, _, rfl, rfl, e1, f1, _, _, hp0, hq0, op.1, oq.1, lt, hb⟩
          by_cases q : Pg.mk s l = Pg.mk s' l'
          · exact ⟨true, ⟨_, _, _, _, rfl, rfl, h, h', .yes (flat_yes _) (.yes (two true ⟨fun _ => q, fun _ => rfl⟩) .nil)⟩, fun _ => by rw [q], fun _ => rfl⟩
          · exact ⟨false, ⟨_, _, _, _, rfl, rfl, h, h', .yes (flat_yes _) (.no (two false ⟨fun z => absurd z Bool.false_ne_true, fun z => absurd z q⟩))⟩, fun z => absurd z Bool.false_ne_true, fun z => by injection z with z; exact absurd z q⟩
  · obtain ⟨a, r, rfl, h⟩ := hx.at0
    obtain ⟨a', r', rfl, h'⟩ := hy.at0
    refine ⟨false, ⟨_, _, _, _, rfl, rfl, h, h', .no (.inl ⟨rfl, rfl, beq_false_of_ne e⟩)⟩, fun z => absurd z Bool.false_ne_true, fun z => absurd (by rw [z]) e⟩
theorem sts_eq {K : Fg} {C : Addr} {m : Nat} {H : Hp} : ∀ {xs ys : List V} {l l' : Sgs} {d d' : Int} {tk tk' : List Str}, StAll K C H xs l → StAll K C H ys l' → l.ok d tk → l'.ok d' tk' → l.nest ≤ m →
    ∃ b : Bool, PrB (DStage K C m) H xs ys b ∧ (b = true ↔ l = l')
  | _, _, _, _, _, _, _, _, .nil, .nil, _, _, _ => ⟨true, .nil, fun _ => rfl, fun _ => rfl⟩
  | _, _, _, _, _, _, _, _, .nil, .cons _ _, _, _, _ => ⟨false, .left, fun z => absurd z Bool.false_ne_true, fun z => by cases z⟩
  | _, _, _, _, _, _, _, _, .cons _ _, .nil, _, _, _ => ⟨false, .right, fun z => absurd z Bool.false_ne_true, fun z => by cases z⟩
  | _, _, _, _, _, _, _, _, .cons (x := x) (r := r) h t, .cons (x := y) (r := q) h' t', o, o', hm => by
    have o : x.ok _ _ ∧ r.ok _ _ := o
    have o' : y.ok _ _ ∧ q.ok _ _ := o'
    have hm : max x.nest r.nest ≤ m := hm
    obtain ⟨b, e, hb⟩ := st_eq h h' o.1 o'.1 (Nat.le_trans (Nat.le_max_left _ _) hm)
    obtain ⟨b2, e2, hb2⟩ := sts_eq t t' o.2 o'.2 (Nat.le_trans (Nat.le_max_right _ _) hm)
    cases b with
    | true =>
      have xy := hb.mp rfl
      refine ⟨b2, .yes e e2, fun z => by rw [xy, hb2.mp z], fun z => ?_⟩
      injection z with _ z
      exact hb2.mpr z
    | false =>
      refine ⟨false, .no e, fun z => absurd z Bool.false_ne_true, fun z => ?_⟩
      injection z with z _
      exact hb.mpr z
end K02
set_option Elab.async false
set_option linter.all false
set_option maxRecDepth 100000
set_option maxHeartbeats 4000000
namespace K02
open PySem L2 VK
theorem bool_iff {a b : Bool} {p : Prop} (h1 : a = true ↔ p) (h2 : b = true ↔ p) : a = b := by
  cases a <;> cases b
  · rfl
  · exact (h1.mpr (h2.mp rfl))
  · exact (h2.mpr (h1.mp rfl)).symm
  · rfl
theorem ask_of {K : Fg} {C : Addr} {m : Nat} {a : Addr} {y : V} {b : Bool} {H : Hp} (h : Rq K C (m + 1) a y b H) : EqAsk K C (DStages K C m) a y b H := by
  rcases h with ⟨p, q, hp, hq, o1, o2, hn, hb⟩ | h
  · cases hp with
    | @mk a dx ts ss s l xs e1 e2 e3 e4 =>
    cases hq with
    | @mk c dx' ts' ss' s' l' xs' f1 f2 f3 f4 =>
      have o1 : s ∈ K0 ∧ l.len ≤ 6 ∧ l.ok 0 [s] := o1
      have o2 : s' ∈ K0 ∧ l'.len ≤ 6 ∧ l'.ok 0 [s'] := o2
      have hn : l.nest ≤ m := Nat.le_of_lt_succ hn
      refine .inl ⟨c, dx, dx', ts, ss, ts', ss', s, s', _, _, rfl, e1, f1, fun ne => ?_, fun e => ?_⟩
      · cases b with
        | false => rfl
        | true =>
          have z := hb.mp rfl
          injection z with z _
          exact absurd z ne
      · subst e
        obtain ⟨b', pr, hb'⟩ := sts_eq e3 f3 o1.2.2 o2.2.2 hn
        have : b' = b := bool_iff (hb'.trans ⟨fun z => by rw [z], fun z => by injection z⟩) hb
        subst this
        exact ⟨ts, ts', xs, xs', rfl, rfl, e2, f2, pr⟩
  · exact .inr h
section
variable {P : Program} {w : World} {K : Fg} {mg : Str → Option Value} {base : Heap} {A I : Nat → Addr} {D J : Nat → FuncData} {aS a1 a2 C fq : Addr} {dq : FuncData}
theorem nf_self {K : Fg} {C : Addr} : PySem.W.notFirst K C (.ref C) = true := by simp [PySem.W.notFirst]
theorem two_own {m : Nat} (L : Lb K mg A I D J aS a1 a2 C) (x y : V) (b : Bool) (H : Hp) (h : DTwoB C (Two K C m) x y b H) : DOwnB K C (Rq K C m) x y b H := by
  obtain ⟨a, c, dx, dy, fs, gs, rfl, rfl, h1, h2, r⟩ := h
  exact ⟨a, dx, fs, .ref C, rfl, h1, L.c.ty h2, nf_self, .inl r⟩
theorem eqB_item {X : Cx} {m : Nat} (L : Lb X.K X.mg A I D J aS a1 a2 C) (Z : Le X.K C fq dq) (F : FnOk X.prog X.w X.K X.mg X.base CX0 (3 * m + 2) fq dq ["self", "other"] (spEqB (Rq X.K C m))) : EqB X (3 * m + 2) (DItem X.K C m) := by
  refine (eqB_flat.mono (Nat.zero_le _)).or (((rcB_own F Z.hs Z.hf Z.b pass0).imp (two_own L)).eqB ?_ ?_)
  · rintro x y b H ⟨a, c, _, _, _, _, rfl, rfl, _⟩
    exact ⟨a, c, rfl, rfl⟩
  · intro pins σ H s x b I d
    exact self_item pins σ H s x b I (.inr d)
theorem rcB_stage {X : Cx} {m : Nat} (L : Lb X.K X.mg A I D J aS a1 a2 C) (Z : Le X.K C fq dq) (F : FnOk X.prog X.w X.K X.mg X.base CX0 (3 * m + 2) fq dq ["self", "other"] (spEqB (Rq X.K C m))) : EqB X (3 * m + 3) (DStage X.K C m) := by
  refine (rcB_tup mon_item (eqB_item L Z F)).eqB ?_ (self_tup self_item)
  rintro x y b H ⟨a, c, _, _, rfl, rfl, _⟩
  exact ⟨a, c, rfl, rfl⟩
theorem rcB_stages {X : Cx} {m : Nat} (L : Lb X.K X.mg A I D J aS a1 a2 C) (Z : Le X.K C fq dq) (F : FnOk X.prog X.w X.K X.mg X.base CX0 (3 * m + 2) fq dq ["self", "other"] (spEqB (Rq X.K C m))) : RcB X (3 * m + 4) .Eq id (DStages X.K C m) :=
  rcB_tup (mon_tupB mon_item) (rcB_stage L Z F)
theorem rnB_stages {X : Cx} {m : Nat} (L : Lb X.K X.mg A I D J aS a1 a2 C) (Z : Le X.K C fq dq) (F : FnOk X.prog X.w X.K X.mg X.base CX0 (3 * m + 2) fq dq ["self", "other"] (spEqB (Rq X.K C m))) : RcB X (3 * m + 4) .NotEq not (DStages X.K C m) :=
  rnB_tup (mon_tupB mon_item) (rcB_stage L Z F)
theorem ok_eq (L : Lb K mg A I D J aS a1 a2 C) (Z : Le K C fq dq) : ∀ m : Nat, FnOk P w K mg base CX0 (3 * m + 2) fq dq ["self", "other"] (spEqB (Rq K C m))
  | 0 => by
    refine ok_eq_of (n := 1) (Q0 := DTupB K DFlatB) Z L (fun X h1 h2 h3 h4 h5 => ?_) (fun a y b H r => ?_)
    · subst h3
      exact rcB_tup mon_flatB eqB_flat
    · rcases r with ⟨p, q, hp, hq, o1, o2, hn, hb⟩ | r
      · exact absurd hn (Nat.not_lt_zero _)
      · exact .inr r
  | m + 1 => by
    have F := ok_eq L Z m
    refine ok_eq_of (n := 3 * m + 4) (Q0 := DStages K C m) Z L (fun X h1 h2 h3 h4 h5 => ?_) (fun a y b H r => ask_of r)
    subst h1 h2 h3 h4 h5
    exact rcB_stages L Z F
end
end K02
set_option Elab.async false
set_option linter.all false
set_option maxRecDepth 100000
set_option maxHeartbeats 4000000
set_option exponentiation.threshold 300
namespace K02
open PySem L2 VK
abbrev sSource : Stmt := top 24
abbrev sDraw : Stmt := top 25
abbrev sPick : Stmt := top 26
/-! ### the stream of draws: a list of two ints at p -/
def Strm (H : Hp) (p : Addr) : Prop := ∃ r m : Int, H p = some (.lst [.int r, .int m]) ∧ 0 ≤ m ∧ m ≤ 2147483647
def But (p : Addr) (H H' : Hp) : Prop := ∀ b, b ≠ p → H' b = H b
theorem But.upd {p : Addr} {H : Hp} {o : HO} : But p H (upd H p o) := fun b hb => upd_ne hb
theorem But.seq {K : Fg} {p : Addr} {H H' : Hp} (k : But p H H') {a : Addr} {xs : List V} (hne : a ≠ p) (h : SqL K H a xs) : SqL K H' a xs := by
  rcases h with (h | ⟨o, h⟩) | h
  · exact .inl (.inl ((k a hne).trans h))
  · exact .inl (.inr ⟨o, (k a hne).trans h⟩)
  · exact .inr h
def spDraw : Sp := fun vs H Q _ => ∃ (p : Addr) (n : Int), vs = [.ref p, .int n] ∧ Strm H p ∧ 0 < n ∧ n < 1000000 ∧
  ∀ (d : Int) (H' : Hp), 0 ≤ d → d < n → Strm H' p → But p H H' → Q (.int d) H'
theorem scDraw : FnScope ["stream", "span", "found"] ["stream", "span"] (defScope sDraw) := ⟨rfl, rfl, rfl, by decide +kernel, rfl, by decide +kernel, by decide +kernel⟩
section
variable {P : Program} {w : World} {K : Fg} {mg : Str → Option Value} {base : Heap}
theorem ok_draw {f : Addr} {fd : FuncData} (F : Fun K "_law_draw" "_law_draw" sDraw f fd) (N : Nm mg) : FnOk P w K mg base CX0 1 f fd ["stream", "span"] spDraw := by
  refine F.ok scDraw (fun vs H Q E h => ?_) (fun cdv A outer s H vs Q E hr h => ?_)
  · obtain ⟨p, n, rfl, _⟩ := h
    rfl
  · obtain ⟨p, n, rfl, ⟨r, m, hp, m0, m1⟩, n0, n1, k⟩ := h
    refine ⟨_, pss_cons (ps_if (pt_cmpR op_ge (pe_ix ix_list (pv 0) pe_int (fun _ _ => rfl)) (pv 1) (nomark _))
        (pss_cons (ps_set (i := 2) scDraw.nd rfl (Or.inl rfl) (pe_op op_mod (pe_callTy call_int1 (by rfl) N.int PyProof.Rows.boot_int (pa_cons (pe_ix ix_list (pv 0) pe_int (fun _ _ => rfl)) pa_nil)) (pv 1)))
        (pss_cons (ps_asg (pe_op op_fdiv (pe_ix ix_list (pv 0) pe_int (fun _ _ => rfl)) (pv 1)) (pg_sub (pv 0) pe_int set_list))
        (pss_one (ps_ret (pv 2))))) pss_nil)
      (pss_cons (ps_asg (pe_op op_mod (pe_callTy call_int1 (by rfl) N.int PyProof.Rows.boot_int
          (pa_cons (pe_op op_add (pe_op op_mul (pe_ix ix_list (pv 0) pe_int (fun _ _ => rfl)) pe_int) pe_int) pa_nil)) pe_int) (pg_sub (pv 0) pe_int set_list))
      (pss_one (ps_ret (pe_op op_mod (pe_callTy call_int1 (by rfl) N.int PyProof.Rows.boot_int
        (pa_cons (pe_op op_fdiv (pe_op op_mod (pe_callTy call_int1 (by rfl) N.int PyProof.Rows.boot_int
          (pa_cons (pe_op op_pow (pe_callTy call_int1 (by rfl) N.int PyProof.Rows.boot_int (pa_cons (pe_ix ix_list (pv 0) pe_int (fun _ _ => rfl)) pa_nil)) pe_int) pa_nil)) pe_int) pe_int) pa_nil)) (pv 1))))), ?_⟩
    refine ⟨_, rfl, p, _, 0, _, rfl, rfl, SqL.of hp, rfl, _, rfl, _, _, rfl, rfl, _, rfl, ?_⟩
    refine ite2 (fun _ => ?_) (fun _ => ?_)
    · refine ⟨_, rfl, p, _, 0, _, rfl, rfl, SqL.of hp, rfl, .inl ⟨_, rfl, _, rfl, _, _, rfl, rfl, n0, ?_⟩⟩
      refine ⟨_, rfl, p, _, 0, _, rfl, rfl, SqL.of hp, rfl, _, rfl, _, _, rfl, rfl, ⟨n0, by omega⟩, ?_⟩
      refine ⟨_, rfl, p, _, 0, 0, rfl, rfl, hp, rfl, _, rfl, ?_⟩
      exact k _ _ (Int.emod_nonneg _ (by omega)) (Int.emod_lt_of_pos _ n0) ⟨_, m, upd_same, m0, m1⟩ But.upd
    · refine ⟨_, rfl, p, _, 1, _, rfl, rfl, SqL.of hp, rfl, _, _, rfl, rfl, .inl ⟨by omega, by omega⟩, _, _, rfl, rfl, .inl ⟨_, rfl, _, _, rfl, rfl, by show (0 : Int) < 2147483647; decide, ?_⟩⟩
      refine ⟨_, rfl, p, _, 1, 1, rfl, rfl, hp, rfl, ?_⟩
      have b0 : 0 ≤ (m * 69621 + 3571) % 2147483647 := Int.emod_nonneg _ (by decide)
      have b1 : (m * 69621 + 3571) % 2147483647 < 2147483647 := Int.emod_lt_of_pos _ (by decide)
      refine ⟨_, rfl, p, _, 1, _, rfl, rfl, SqL.of upd_same, rfl, .inl ⟨_, rfl, _, _, rfl, rfl, ⟨by decide, by decide, by omega⟩, .inl ⟨_, rfl, _, _, rfl, rfl, (by show (0 : Int) < 1000000007; decide), _, _, rfl, rfl, ⟨by decide, by decide⟩, .inl ⟨_, rfl, _, rfl, _, _, rfl, rfl, n0, ?_⟩⟩⟩⟩
      exact k _ _ (Int.emod_nonneg _ (by omega)) (Int.emod_lt_of_pos _ n0) ⟨r, _, upd_same, b0, by show (m * 69621 + 3571) % 2147483647 ≤ 2147483647; omega⟩ But.upd
end
def spPick (K : Fg) : Sp := fun vs H Q _ => ∃ (p q : Addr) (xs : List V), vs = [.ref p, .ref q] ∧ Strm H p ∧ SqL K H q xs ∧ q ≠ p ∧ xs ≠ [] ∧ xs.length < 1000 ∧
  ∀ (x : V) (H' : Hp), x ∈ xs → Strm H' p → But p H H' → Q x H'
theorem scPick : FnScope ["stream", "things"] ["stream", "things"] (defScope sPick) := ⟨rfl, rfl, rfl, by decide +kernel, rfl, by decide +kernel, by decide +kernel⟩
theorem scSource : FnScope ["script", "start", "mixed", "cell", "rest"] ["script", "start"] (defScope sSource) := ⟨rfl, rfl, rfl, by decide +kernel, rfl, by decide +kernel, by decide +kernel⟩
/-- a place that is drawn lies in the list -/
theorem at_drawn {xs : List V} {d : Int} (h0 : 0 ≤ d) (h1 : d < xs.length) : ∃ v, atI xs d = some v ∧ v ∈ xs := by
  have hl : d.toNat < xs.length := by omega
  refine ⟨xs[d.toNat], ?_, List.getElem_mem hl⟩
  have e : d = (d.toNat : Int) := by omega
  exact at_of e (List.getElem?_eq_getElem hl)
/-- the script's ints: at most so many bits each -/
def Bits (ns : List Int) : Prop := ∀ z ∈ ns, Builtin.Int.intBits z ≤ 1048576
def spSource (K : Fg) : Sp := fun vs H Q _ => ∃ (a : Addr) (ns : List Int) (st : Int), vs = [.ref a, .int st] ∧ SqL K H a (ns.map V.int) ∧ ns.length ≤ 63 ∧ Bits ns ∧ 0 ≤ st ∧ st ≤ 100 ∧
  ∀ (p : Addr) (H' : Hp), H p = none → Strm H' p → But p H H' → Q (.ref p) H'
theorem log2_le {x : Int} {n : Nat} (h : x.natAbs < 2 ^ n) (h0 : 0 < n) : Builtin.Int.intBits x ≤ n := by
  have h1 := PySem.Flt.log2_lt_of h0 h
  unfold Builtin.Int.intBits
  split <;> omega
theorem abs_lt {x : Int} {n : Nat} (h : Builtin.Int.intBits x ≤ n) : x.natAbs < 2 ^ n := by
  unfold Builtin.Int.intBits at h
  split at h
  · rename_i e
    have e' : x = 0 := by simpa using e
    rw [e']
    exact Nat.two_pow_pos n
  · rename_i e
    have e' : x ≠ 0 := by simpa using e
    have h2 : x.natAbs ≠ 0 := by omega
    exact (Nat.log2_lt h2).mp (by omega)
theorem pow_le {n : Nat} (h : 50 ≤ n) : (1125899906842624 : Nat) ≤ 2 ^ n := by
  have e : (1125899906842624 : Nat) = 2 ^ 50 := by decide
  rw [e]
  exact Nat.pow_le_pow_right (by decide) h
/-- what is cubed has few enough bits -/
theorem cubed_ok {m z : Int} (h0 : 0 ≤ m) (h1 : m ≤ 2147483647) (hz : Builtin.Int.intBits z ≤ 1048576) : PowOk (m * 40009 + z) 3 := by
  refine ⟨by decide, ?_⟩
  have a := abs_lt hz
  have b := pow_le (n := 1048576) (by decide)
  have c : (m * 40009 + z).natAbs < 2 ^ 1048576 + 2 ^ 1048576 := by
    generalize (2 : Nat) ^ 1048576 = W at a b ⊢
    omega
  have e : (2 : Nat) ^ 1048577 = 2 ^ 1048576 + 2 ^ 1048576 := by rw [Nat.pow_succ]; exact Nat.mul_two _
  have d : Builtin.Int.intBits (m * 40009 + z) ≤ 1048577 := log2_le (by rw [e]; exact c) (by decide)
  omega
section
variable {P : Program} {w : World} {K : Fg} {mg : Str → Option Value} {base : Heap}
theorem ok_pick {f fD : Addr} {fd fdD : FuncData} (F : Fun K "_law_pick" "_law_pick" sPick f fd) (N : Nm mg) (gD : mg "_law_draw" = some (.ref fD))
    (FD : Fun K "_law_draw" "_law_draw" sDraw fD fdD) (bD : Binds K fdD ["stream", "span"] []) : FnOk P w K mg base CX0 2 f fd ["stream", "things"] (spPick K) := by
  have GD : FnOk P w K mg base CX0 1 fD fdD ["stream", "span"] spDraw := ok_draw FD N
  refine F.ok scPick (fun vs H Q E h => ?_) (fun cdv A outer s H vs Q E hr h => ?_)
  · obtain ⟨p, q, xs, rfl, _⟩ := h
    rfl
  · obtain ⟨p, q, xs, rfl, hp, hq, hne, hx, hl, k⟩ := h
    refine ⟨_, pss_one (ps_ret (pe_ix ix_list (pv 1) (pe_call GD hr rfl gD FD.kp bD .nil pass0 (pa_cons (pv 0) (pa_cons (pe_callB call_len_seq (by rfl) N.len PySem.boot_len (pa_cons (pv 1) pa_nil)) pa_nil))) (fun _ _ => rfl))), ?_⟩
    refine ⟨_, rfl, _, rfl, _, rfl, q, xs, rfl, .inl hq, p, _, rfl, hp, ?_, ?_, fun d H' d0 d1 hs hb => ?_⟩
    · have := List.length_pos_iff.mpr hx
      omega
    · omega
    · obtain ⟨v, e1, e2⟩ := at_drawn (xs := xs) d0 d1
      exact ⟨q, xs, d, v, rfl, rfl, hb.seq hne hq, e1, k v H' e2 hs hb⟩
theorem ok_source {f : Addr} {fd : FuncData} (F : Fun K "_law_source" "_law_source" sSource f fd) (N : Nm mg) : FnOk P w K mg base CX0 1 f fd ["script", "start"] (spSource K) := by
  refine F.ok scSource (fun vs H Q E h => ?_) (fun cdv A outer s H vs Q E hr h => ?_)
  · obtain ⟨a, ns, st, rfl, _⟩ := h
    rfl
  · obtain ⟨a, ns, st, rfl, hS, hl, hB, s0, s1, k⟩ := h
    refine ⟨_, pss_cons (ps_set (i := 2) scSource.nd rfl (Or.inl rfl) (pe_op op_add pe_int (pv 1)))
      (pss_cons (ps_for PassesOwn.never rfl (pi_list (pv 0)) (pg_name (i := 3) scSource.nd rfl (Or.inl rfl))
        (pss_one (ps_set (i := 2) scSource.nd rfl (Or.inl rfl) (pe_op op_add (pe_op op_mod (pe_callTy call_int1 (by rfl) N.int PyProof.Rows.boot_int
          (pa_cons (pe_op op_powB (pe_callTy call_int1 (by rfl) N.int PyProof.Rows.boot_int
            (pa_cons (pe_op op_add (pe_op op_mul (pv 2) pe_int) (pe_callTy call_int1 (by rfl) N.int PyProof.Rows.boot_int (pa_cons (pv 3) pa_nil))) pa_nil)) pe_int) pa_nil)) pe_int) pe_int))))
      (pss_cons (ps_set (i := 4) scSource.nd rfl (Or.inl rfl) pe_int)
      (pss_cons (ps_if (PW.pt (pw_and (pt_cmpR op_lt (pv 1) (pe_callB call_len_seq (by rfl) N.len PySem.boot_len (pa_cons (pv 0) pa_nil)) (nomark _))
          (pw_and1 (pt_cmpR op_ge (pe_ix ix_list (pv 0) (pv 1) (fun _ _ => rfl)) (pe_op op_pow pe_int pe_int) (nomark _)))))
        (pss_one (ps_set (i := 4) scSource.nd rfl (Or.inl rfl) (pe_op op_sub (pe_ix ix_list (pv 0) (pv 1) (fun _ _ => rfl)) (pe_op op_pow pe_int pe_int)))) pss_nil)
      (pss_one (ps_ret (pe_lst (pa_cons (pv 4) (pa_cons (pv 2) pa_nil)))))))), ?_⟩
    have ret : ∀ (m r : Int), 0 ≤ m → m ≤ 2147483647 → ∀ x : Addr, H x = none → Q (.ref x) (upd H x (.lst [.int r, .int m])) :=
      fun m r m0 m1 x hx => k x _ hx ⟨r, m, upd_same, m0, m1⟩ But.upd
    refine ⟨_, rfl, _, _, rfl, rfl, _, rfl, a, rfl, ⟨_, hS⟩, for_list (K := K) (a := a) (xs := ns.map V.int)
      (fun i σ H' => H' = H ∧ ∃ (v : Option V) (m : Int), σ = [some (.ref a), some (.int st), some (.int m), v, none] ∧ 0 ≤ m ∧ m ≤ 2147483647)
      ⟨rfl, none, _, rfl, by show 0 ≤ 59 + st; omega, by show 59 + st ≤ 2147483647; omega⟩ (fun i σ H' _ q => by rw [q.1]; exact hS) ?_ ?_⟩
    · rintro i y σ H' hi ⟨rfl, v, m, rfl, m0, m1⟩
      obtain ⟨z, hz, rfl⟩ : ∃ z, z ∈ ns ∧ y = V.int z := by
        rw [List.getElem?_map] at hi
        cases e : ns[i]? with
        | none =>
          rw [e] at hi
          cases hi
        | some z =>
          rw [e] at hi
          exact ⟨z, List.mem_of_getElem? e, (Option.some.inj hi).symm⟩
      refine ⟨_, rfl, _, _, rfl, rfl, .inl ⟨by omega, by omega⟩, _, rfl, .inl ⟨_, rfl, _, _, rfl, rfl, .inl ⟨_, rfl, _, _, rfl, rfl, cubed_ok m0 m1 (hB z hz), .inl ⟨_, rfl, _, _, rfl, rfl, (by show (0 : Int) < 2147483563; decide), _, _, rfl, rfl, ?_⟩⟩⟩⟩
      have b0 := Int.emod_nonneg ((m * 40009 + z) ^ (3 : Int).toNat) (show (2147483563 : Int) ≠ 0 by decide)
      have b1 := Int.emod_lt_of_pos ((m * 40009 + z) ^ (3 : Int).toNat) (show (0 : Int) < 2147483563 by decide)
      generalize hw : (m * 40009 + z) ^ (3 : Int).toNat % 2147483563 = u at b0 b1
      refine ⟨rfl, some (.int z), u + 1, rfl, by omega, by omega⟩
    · rintro σ H' ⟨rfl, v, m, rfl, m0, m1⟩
      refine ⟨_, rfl, _, rfl, a, _, rfl, .inl hS, _, _, rfl, rfl, _, rfl, ?_⟩
      refine ite2 (fun c => ?_) (fun c => ?_)
      · have c1 : st < (ns.map V.int).length := of_decide_eq_true c
        rw [List.length_map] at c1
        obtain ⟨z, hz⟩ : ∃ z, ns[st.toNat]? = some z := ⟨_, List.getElem?_eq_getElem (by omega)⟩
        have hat : atI (ns.map V.int) st = some (.int z) := at_of (j := st.toNat) (by omega) (by rw [List.getElem?_map, hz]; rfl)
        refine ⟨_, rfl, _, rfl, a, _, _, _, rfl, rfl, hS, hat, _, _, rfl, rfl, ⟨by decide, by decide, by decide⟩, _, _, rfl, rfl, _, rfl, ?_⟩
        refine ite2 (fun _ => ?_) (fun _ => ?_)
        · refine ⟨_, rfl, _, rfl, a, _, _, _, rfl, rfl, hS, hat, _, _, rfl, rfl, ⟨by decide, by decide, by decide⟩, _, _, rfl, rfl, ?_⟩
          exact ⟨_, rfl, _, rfl, by show 2 ≤ sizeLine; decide, fun x hx => ret _ _ m0 m1 x hx⟩
        · exact ⟨_, rfl, _, rfl, by show 2 ≤ sizeLine; decide, fun x hx => ret _ _ m0 m1 x hx⟩
      · exact ⟨_, rfl, _, rfl, by show 2 ≤ sizeLine; decide, fun x hx => ret _ _ m0 m1 x hx⟩
end
end K02
set_option Elab.async false
set_option linter.all false
set_option maxRecDepth 100000
set_option maxHeartbeats 4000000
namespace K02
open PySem L2 VK
abbrev sMixed : Stmt := top 27
theorem scMixed : FnScope ["stream", "things", "lot", "found"] ["stream", "things"] (defScope sMixed) := ⟨rfl, rfl, rfl, by decide +kernel, rfl, by decide +kernel, by decide +kernel⟩
/-! ### lists of ints and texts -/
inductive Pln : V → PyData → Prop where
  | int (i : Int) : Pln (.int i) (.int i)
  | str {z : Str} (h : PyData.strOk z = true) : Pln (.str z) (.str z)
def Plns (xs : List V) : Prop := ∀ x ∈ xs, ∃ d, Pln x d
theorem pln_dp {K : Fg} {H : Hp} : ∀ {xs : List V}, Plns xs → ∃ ds, DpAll K H xs ds ∧ ds.length = xs.length ∧ PyData.canLayAll0 ds = true ∧ PyData.depthAll ds = 0
  | [], _ => ⟨[], .nil, rfl, rfl, rfl⟩
  | x :: r, h => by
    obtain ⟨ds, a, b, c, e⟩ := pln_dp (K := K) (H := H) (xs := r) fun y hy => h y (List.mem_cons_of_mem _ hy)
    obtain ⟨d, hd⟩ := h x List.mem_cons_self
    cases hd with
    | int i => exact ⟨.int i :: ds, .cons (.int i) a, by rw [List.length_cons, List.length_cons, b], by simp [PyData.canLayAll0, PyData.canLay0, c], by simp [PyData.depthAll, PyData.depth, e]⟩
    | @str z hz => exact ⟨.str z :: ds, .cons (.str z) a, by rw [List.length_cons, List.length_cons, b], by simp [PyData.canLayAll0, PyData.canLay0, c, hz], by simp [PyData.depthAll, PyData.depth, e]⟩
theorem shaped_l {ds : List PyData} (c : PyData.canLayAll0 ds = true) (e : PyData.depthAll ds = 0) : SeqAt.shaped (.list ds) = true := by
  unfold SeqAt.shaped
  simp [PyData.canLay0, PyData.depth, c, e]
/-- xs != [] -/
theorem ne_nil {K : Fg} {H : Hp} {a b : Addr} {xs : List V} {Q : VK} (h : SqL K H a xs) (p : Plns xs) (hb : SqL K H b []) (k : Q (.bl (!xs.isEmpty)) H) : rNeD K (.ref a) (.ref b) H Q := by
  obtain ⟨ds, d1, d2, d3, d4⟩ := pln_dp (K := K) (H := H) p
  refine ⟨.list ds, .list [], .lst h d1, .lst hb .nil, shaped_l d3 d4, by decide, ?_⟩
  have e : (!PyData.eqv (.list ds) (.list [])) = !xs.isEmpty := by
    cases xs with
    | nil =>
      cases d1
      rfl
    | cons x r =>
      cases d1 with
      | cons _ _ => rfl
  rw [e]
  exact k
def spMixed (K : Fg) : Sp := fun vs H Q _ => ∃ (p q : Addr) (xs : List V), vs = [.ref p, .ref q] ∧ Strm H p ∧ SqL K H q xs ∧ q ≠ p ∧ xs.length ≤ 60 ∧ Plns xs ∧
  ∀ (r : Addr) (ys : List V) (H' : Hp), ys.Perm xs → H r = none → H' r = some (.lst ys) → Strm H' p → Bx p H H' → Q (.ref r) H'
theorem idx_nat {n k : Nat} (h : k < n) : seqIndex? (k : Int) n = some k := by
  unfold seqIndex?
  simp
  omega
theorem perm_erase {α : Type} : ∀ (l : List α) (i : Nat) (h : i < l.length), ([l[i]] ++ l.eraseIdx i).Perm l
  | [], i, h => absurd h (Nat.not_lt_zero _)
  | a :: r, 0, h => List.Perm.refl _
  | a :: r, i + 1, h => by
    have h' := Nat.lt_of_succ_lt_succ h
    have ih := perm_erase r i h'
    show (r[i] :: a :: r.eraseIdx i).Perm (a :: r)
    exact (List.Perm.swap a _ _).trans (List.Perm.cons a ih)
section
variable {P : Program} {w : World} {K : Fg} {mg : Str → Option Value} {base : Heap}
theorem strm_ne {H : Hp} {p a : Addr} (h : Strm H p) (n : H a = none) : a ≠ p := by
  obtain ⟨r, m, e, _⟩ := h
  exact fun z => by rw [z, e] at n; cases n
theorem Strm.bx {H H' : Hp} {p : Addr} (h : Strm H p) (e : H' p = H p) : Strm H' p := by
  obtain ⟨r, m, h, hm⟩ := h
  exact ⟨r, m, e.trans h, hm⟩
theorem Strm.same {H H' : Hp} {p : Addr} (h : Strm H p) (e : Same H H') : Strm H' p := by
  obtain ⟨r, m, h, hm⟩ := h
  exact ⟨r, m, e _ _ h, hm⟩
theorem But.bx {p : Addr} {H H' : Hp} (b : But p H H') : Bx p H H' := fun c o n e => (b c n).trans e
theorem ok_mixed {f fD : Addr} {fd fdD : FuncData} (F : Fun K "_law_mixed" "_law_mixed" sMixed f fd) (N : Nm mg) (gD : mg "_law_draw" = some (.ref fD))
    (FD : Fun K "_law_draw" "_law_draw" sDraw fD fdD) (bD : Binds K fdD ["stream", "span"] []) : FnOk P w K mg base CX0 2 f fd ["stream", "things"] (spMixed K) := by
  have GD : FnOk P w K mg base CX0 1 fD fdD ["stream", "span"] spDraw := ok_draw FD N
  refine F.ok scMixed (fun vs H Q E h => ?_) (fun cdv B outer s H vs Q E hr h => ?_)
  · obtain ⟨p, q, xs, rfl, _⟩ := h
    rfl
  · obtain ⟨p, q, xs, rfl, hp, hq, hqp, hl, pl, k⟩ := h
    refine ⟨_, pss_cons (ps_par (by rfl) scMixed.nd rfl rfl (show 2 ≠ 3 by decide) rfl rfl (pa_cons (pe_callTy call_list_of (by rfl) N.lst PyProof.Rows.boot_list (pa_cons (pv 1) pa_nil)) (pa_cons (pe_lst pa_nil) pa_nil)) (by rfl))
      (pss_cons (ps_while PassesOwn.never (pt_cmpR (op_neD hr.units) (pv 2) (pe_lst pa_nil) (nomark _))
        (pss_one (ps_expr (pe_bm PySem.F.plainAttrs_list PySem.F.slot_list_append PySem.F.type_list_append mt_append (pv 3) (pa_cons
          (pe_bm PySem.F.plainAttrs_list PySem.F.slot_list_pop PySem.F.type_list_pop mt_popAt (pv 2) (pa_cons (pe_call GD hr rfl gD FD.kp bD .nil pass0 (pa_cons (pv 0) (pa_cons (pe_callB call_len_seq (by rfl) N.len PySem.boot_len (pa_cons (pv 2) pa_nil)) pa_nil))) pa_nil)) pa_nil)))))
      (pss_one (ps_ret (pv 3)))), ?_⟩
    refine ⟨_, rfl, q, xs, rfl, .inl hq, fun a ha => ?_⟩
    have s1 : Same H (upd H a (.lst xs)) := same_new ha
    have e1 : upd H a (.lst xs) a = some (.lst xs) := upd_same
    generalize upd H a (.lst xs) = H1 at s1 e1
    refine ⟨by show 0 ≤ sizeLine; decide, fun b hb => ?_⟩
    have s2 : Same H1 (upd H1 b (.lst [])) := same_new hb
    have e2 : upd H1 b (.lst []) b = some (.lst []) := upd_same
    generalize upd H1 b (.lst []) = H2 at s2 e2
    have hb0 := s1.free hb
    have nab : a ≠ b := ne_of_none e1 hb
    have nap := strm_ne hp ha
    have nbp := strm_ne hp hb0
    refine ⟨_, _, rfl, ?_⟩
    refine while_by (fun σ H' => ∃ r1 r2 : List V, σ = [some (.ref p), some (.ref q), some (.ref a), some (.ref b)] ∧ Strm H' p ∧ H' a = some (.lst r1) ∧ H' b = some (.lst r2) ∧ (r2 ++ r1).Perm xs ∧ Bx p H H')
      (fun σ H' => match H' a with | some (.lst r) => r.length | _ => 0) ⟨xs, [], rfl, hp.same (s1.trans s2), s2 _ _ e1, e2, List.Perm.refl _, Bx.of (s1.trans s2)⟩ ?_ ?_
    · rintro σ H' ⟨r1, r2, rfl, hs, ea, eb, pm, bx⟩
      have len : r2.length + r1.length = xs.length := by rw [← pm.length_eq, List.length_append]
      have pl1 : Plns r1 := fun x hx => pl x (pm.mem_iff.mp (List.mem_append_right _ hx))
      refine ⟨_, rfl, by show 0 ≤ sizeLine; decide, fun c hc => ?_⟩
      have s3 : Same H' (upd H' c (.lst [])) := same_new hc
      have e3 : upd H' c (.lst []) c = some (.lst []) := upd_same
      generalize upd H' c (.lst []) = H3 at s3 e3
      refine ne_nil (SqL.of (s3 _ _ ea)) pl1 (SqL.of e3) ⟨_, rfl, ?_⟩
      cases r1 with
      | nil =>
        refine iteF (A := True) ⟨_, rfl, ?_⟩
        rw [List.append_nil] at pm
        exact k b r2 H3 pm hb0 (s3 _ _ eb) (hs.same s3) (bx.trans (Bx.of s3))
      | cons x0 r1 =>
        refine iteT (B := True) ?_
        refine ⟨_, rfl, .inl ⟨rfl, _, SqL.of (s3 _ _ eb)⟩, _, rfl, .inl ⟨rfl, _, SqL.of (s3 _ _ ea)⟩, _, rfl, _, rfl, a, _, rfl, .inl (SqL.of (s3 _ _ ea)), ?_⟩
        rw [List.length_cons] at len
        refine ⟨p, _, rfl, hs.same s3, by rw [List.length_cons]; omega, by rw [List.length_cons]; omega, fun d H4 d0 d1 hs4 bt => ?_⟩
        have ea4 : H4 a = some (.lst (x0 :: r1)) := (bt a nap).trans (s3 _ _ ea)
        have eb4 : H4 b = some (.lst r2) := (bt b nbp).trans (s3 _ _ eb)
        rw [List.length_cons] at d1
        have lt : d.toNat < (x0 :: r1).length := by rw [List.length_cons]; omega
        have ed : d = (d.toNat : Int) := by omega
        refine ⟨a, _, d, d.toNat, (x0 :: r1)[d.toNat], rfl, rfl, ea4, by omega, by omega, by rw [ed]; exact idx_nat lt, List.getElem?_eq_getElem lt, ?_⟩
        have eb5 : upd H4 a (.lst ((x0 :: r1).eraseIdx d.toNat)) b = some (.lst r2) := by rw [upd_ne (Ne.symm nab)]; exact eb4
        refine ⟨b, r2, _, rfl, rfl, eb5, small1000 (by omega), ?_⟩
        have ea6 : upd (upd H4 a (.lst ((x0 :: r1).eraseIdx d.toNat))) b (.lst (r2 ++ [(x0 :: r1)[d.toNat]])) a = some (.lst ((x0 :: r1).eraseIdx d.toNat)) := by rw [upd_ne nab, upd_same]
        refine ⟨⟨_, _, rfl, ?_, ea6, upd_same, ?_, ?_⟩, ?_⟩
        · refine hs4.bx ?_
          rw [upd_ne (Ne.symm nbp), upd_ne (Ne.symm nap)]
        · rw [List.append_assoc]
          refine (List.Perm.append_left r2 ?_).trans pm
          exact perm_erase _ _ lt
        · intro c' o n e
          rw [upd_ne (ne_of_none e hb0), upd_ne (ne_of_none e ha), bt c' n]
          exact s3 _ _ (bx _ _ n e)
        · show (match (upd (upd H4 a (.lst ((x0 :: r1).eraseIdx d.toNat))) b (.lst (r2 ++ [(x0 :: r1)[d.toNat]]))) a with | some (.lst r) => r.length | _ => 0) < (match H' a with | some (.lst r) => r.length | _ => 0)
          rw [ea6, ea]
          show ((x0 :: r1).eraseIdx d.toNat).length < (x0 :: r1).length
          rw [List.length_eraseIdx_of_lt lt]
          omega
    · rintro σ H' Q1 Q2 h ⟨v, ev, hl, q⟩
      refine ⟨v, ev, hl, fun c hc => ?_⟩
      obtain ⟨d, e, h1, h2, h3, h4, c', ec, q2⟩ := q c hc
      exact ⟨d, e, h1, h2, h3, h4, c', ec, h _ _ q2⟩
end
end K02
set_option Elab.async false
set_option linter.all false
set_option maxRecDepth 100000
set_option maxHeartbeats 4000000
namespace K02
open PySem L2 VK
abbrev sHeight : Stmt := top 28
abbrev sDepth : Stmt := top 29
theorem scHeight : FnScope ["height", "stage"] ["height", "stage"] (defScope sHeight) := ⟨rfl, rfl, rfl, by decide +kernel, rfl, by decide +kernel, by decide +kernel⟩
theorem scDepth : FnScope ["plan", "height", "stage"] ["plan"] (defScope sDepth) := ⟨rfl, rfl, rfl, by decide +kernel, rfl, by decide +kernel, by decide +kernel⟩
/-- a stage that is sound by itself -/
def Sg.sd : Sg → Prop
  | .nm k n => k ∈ K1 ∧ isNm n = true
  | .num k n => k ∈ K2 ∧ 1 ≤ n ∧ n ≤ 4
  | .flat => True
  | .zip p => p.ok
theorem Sg.ok.sd {x : Sg} {d : Int} {tk : List Str} (h : x.ok d tk) : x.sd := by
  cases x with
  | nm k n => exact h
  | num k n => exact h
  | flat => trivial
  | zip p =>
    have h : p.ok ∧ ∀ s ∈ p.srcs, s ∉ tk := h
    exact h.1
theorem Sg.sd.wf {x : Sg} (h : x.sd) : x.wf := by
  cases x with
  | nm k n => exact h.1
  | num k n => exact h.1
  | flat => trivial
  | zip p => trivial
def Sgs.sd : Sgs → Prop
  | .nil => True
  | .cons x r => x.sd ∧ r.sd
theorem Sgs.ok.sd : ∀ {l : Sgs} {d : Int} {tk : List Str}, l.ok d tk → l.sd
  | .nil, _, _, _ => trivial
  | .cons x r, _, _, h => by
    have h : x.ok _ _ ∧ r.ok _ _ := h
    exact ⟨h.1.sd, Sgs.ok.sd h.2⟩
theorem PsV.at0 {K : Fg} {H : Hp} {v : V} {x : Sg} (h : PsV K H v x) : ∃ a r, v = .ref a ∧ SqT K H a (.str x.kd :: r) := by
  cases h with
  | nm h => exact ⟨_, _, rfl, h⟩
  | num h => exact ⟨_, _, rfl, h⟩
  | flat h => exact ⟨_, _, rfl, h⟩
  | zip h _ => exact ⟨_, _, rfl, h⟩
def spHeight (K : Fg) (m : Nat) : Sp := fun vs H Q _ => ∃ (v : V) (x : Sg) (d : Int), vs = [.int d, v] ∧ PsV K H v x ∧ x.sd ∧ x.nest < m ∧ ∀ H', Same H H' → Q (.int (x.dep d)) H'
def spDepth (K : Fg) (m : Nat) : Sp := fun vs H Q _ => ∃ (v : V) (p : Pg), vs = [v] ∧ PlAt K H v p ∧ p.ok ∧ p.nest < m ∧ ∀ H', Same H H' → Q (.int p.dep) H'
def rowK : List (L2.Key × V) := [(.inr "lots", .int 1), (.inr "flat", .int (0 - 1))]
theorem getRow : mergeK [] rowK = rowK := by decide +kernel
theorem row_val {k : Str} : valV rowK (Sum.inr k) = if k = "lots" then some (.int 1) else if k = "flat" then some (.int (0 - 1)) else none := by
  unfold valV rowK
  by_cases a : k = "lots"
  · subst a
    rw [if_pos rfl]
    simp
  · by_cases b : k = "flat"
    · subst b
      rw [if_neg (by decide +kernel), if_pos rfl]
      have : ¬ (("lots" : Str) = "flat") := by decide +kernel
      simp [this]
    · rw [if_neg a, if_neg b]
      have a' : ¬ (("lots" : Str) = k) := fun z => a z.symm
      have b' : ¬ (("flat" : Str) = k) := fun z => b z.symm
      simp [a', b']
section
variable {P : Program} {w : World} {K : Fg} {mg : Str → Option Value} {base : Heap} {fH fD : Addr} {dH dD : FuncData}
theorem ok_height {m : Nat} (N : Nm mg) (FH : Fun K "_law_height" "_law_height" sHeight fH dH) (gD : mg "_law_depth" = some (.ref fD)) (FD : Fun K "_law_depth" "_law_depth" sDepth fD dD) (bD : Binds K dD ["plan"] [])
    (G : FnOk P w K mg base CX0 (2 * m + 2) fD dD ["plan"] (spDepth K m)) : FnOk P w K mg base CX0 (2 * m + 3) fH dH ["height", "stage"] (spHeight K (m + 1)) := by
  refine FH.ok scHeight (fun vs H Q E h => ?_) (fun cdv B outer s H vs Q E hr h => ?_)
  · obtain ⟨v, x, d, rfl, _⟩ := h
    rfl
  · obtain ⟨v, x, d, rfl, hv, hs, hn, k⟩ := h
    have hu : (B.deeper (PyProof.Rows.envOfC "_law_height" (defScope sHeight) s.heap.objs.size fH cdv)).units + 1 < cLine := by
      have := hr.units
      omega
    refine ⟨_, pss_cons (ps_if (pt_cmpR op_eq (pe_ix ix_tup (pv 1) pe_int (fun _ _ => rfl)) pe_str (nomark _)) (pss_one (ps_ret pe_int)) pss_nil)
      (pss_cons (ps_if (pt_cmpR op_eq (pe_ix ix_tup (pv 1) pe_int (fun _ _ => rfl)) pe_str (nomark _)) (pss_one (ps_ret (pe_op op_add pe_int (pe_callB (call_min2 rfl) (by rfl) N.min boot_min' (pa_cons (pv 0) (pa_cons
          (pe_call G hr rfl gD FD.kp bD .nil pass0 (pa_cons (pe_ix ix_tup (pv 1) pe_int (fun _ _ => rfl)) pa_nil)) pa_nil)))))) pss_nil)
      (pss_one (ps_ret (pe_op op_add (pv 0) (pe_dget2 hu (pe_disp (pps_cons pe_str pe_int (pps_cons pe_str (pe_op op_sub pe_int pe_int) pps_nil)) rfl rfl (fun z => by cases z) (by decide))
        (pe_ix ix_tup (pv 1) pe_int (fun _ _ => rfl)) pe_int ⟨rfl, rfl, rfl, rfl⟩))))), ?_⟩
    have sk : ∀ {a b : Str}, V.str a = V.str b → a = b := fun h => V.str.inj h
    have wf := hs.wf
    obtain ⟨a, r, rfl, ha⟩ := hv.at0
    refine ⟨_, rfl, a, _, _, .str x.kd, rfl, rfl, ha, at_of (j := 0) rfl rfl, rfl, _, rfl, ?_⟩
    refine dif (fun e0 => ?_) (fun e0 => ?_)
    · cases x with
      | nm z n =>
        have : (Sg.nm z n).dep d = 0 := if_pos (sk e0)
        rw [this] at k
        exact k _ (Same.refl H)
      | num z n => exact absurd (sk e0) ((by decide +kernel : ∀ z ∈ K2, ¬ (z = "map")) _ wf)
      | flat => exact absurd (sk e0) (by decide +kernel : ¬ (("flat" : Str) = "map"))
      | zip p => exact absurd (sk e0) (by decide +kernel : ¬ (("zip" : Str) = "map"))
    refine ⟨_, rfl, a, _, _, .str x.kd, rfl, rfl, ha, at_of (j := 0) rfl rfl, rfl, _, rfl, ?_⟩
    refine dif (fun e3 => ?_) (fun e3 => ?_)
    · cases hv with
      | nm h => exact absurd (sk e3) ((by decide +kernel : ∀ z ∈ K1, ¬ (z = "zip")) _ wf)
      | num h => exact absurd (sk e3) ((by decide +kernel : ∀ z ∈ K2, ¬ (z = "zip")) _ wf)
      | flat h => exact absurd (sk e3) (by decide +kernel : ¬ (("flat" : Str) = "zip"))
      | @zip _ v p h hp =>
        refine ⟨_, rfl, _, rfl, _, _, _, _, rfl, rfl, h, rfl, v, p, rfl, hp, hs, Nat.lt_of_succ_lt_succ hn, fun H' s1 => ?_⟩
        refine ⟨_, _, rfl, _, _, rfl, rfl, ?_⟩
        have k1 := k H' s1
        rw [show (Sg.zip p).dep d = (if p.dep < d then p.dep else d) + 1 from rfl, Int.add_comm] at k1
        exact k1
    · refine ⟨_, rfl, fun q hq => ⟨_, _, rfl, rfl, upd_same, rowK, rfl, by decide, ?_⟩⟩
      have s1 : Same H (upd (upd H q (.dK [])) q (.dK (mergeK [] rowK))) := fun b o e => by
        have n := ne_of_none e hq
        rw [upd_ne n, upd_ne n]
        exact e
      have eq : upd (upd H q (.dK [])) q (.dK (mergeK [] rowK)) q = some (.dK rowK) := by
        rw [upd_same, getRow]
      generalize upd (upd H q (.dK [])) q (.dK (mergeK [] rowK)) = H1 at s1 eq
      refine ⟨q, rfl, .inl ⟨_, .inl eq⟩, _, rfl, a, _, _, .str x.kd, rfl, rfl, (Kp.of s1).tup ha, at_of (j := 0) rfl rfl, _, DGet.k (k := Sum.inr x.kd) eq, ?_⟩
      have k1 := k H1 s1
      rw [row_val]
      cases x with
      | nm z n =>
        have : (Sg.nm z n).dep d = d := if_neg (fun e => e0 (congrArg V.str e))
        rw [this] at k1
        rw [show (Sg.nm z n).kd = z from rfl, if_neg (fun e : z = "lots" => (by decide +kernel : ∀ z ∈ K1, ¬ (z = "lots")) _ wf e), if_neg (fun e : z = "flat" => (by decide +kernel : ∀ z ∈ K1, ¬ (z = "flat")) _ wf e)]
        exact ⟨d, 0, rfl, rfl, (by rw [Int.add_zero]; exact k1 : Q (.int (d + 0)) H1)⟩
      | num z n =>
        by_cases c : z = "lots"
        · have : (Sg.num z n).dep d = d + 1 := if_pos c
          rw [this] at k1
          rw [show (Sg.num z n).kd = "lots" from c, if_pos rfl]
          exact ⟨d, 1, rfl, rfl, k1⟩
        · have : (Sg.num z n).dep d = d := if_neg c
          rw [this] at k1
          rw [show (Sg.num z n).kd = z from rfl, if_neg (fun e : z = "lots" => c e), if_neg (fun e : z = "flat" => (by decide +kernel : ∀ z ∈ K2, ¬ (z = "flat")) _ wf e)]
          exact ⟨d, 0, rfl, rfl, (by rw [Int.add_zero]; exact k1 : Q (.int (d + 0)) H1)⟩
      | flat =>
        rw [show Sg.flat.kd = "flat" from rfl, if_neg (by decide +kernel : ¬ (("flat" : Str) = "lots")), if_pos rfl]
        exact ⟨d, _, rfl, rfl, k1⟩
      | zip p => exact absurd rfl e3
theorem ok_depth {m : Nat} (FD : Fun K "_law_depth" "_law_depth" sDepth fD dD) (gH : mg "_law_height" = some (.ref fH)) (FH : Fun K "_law_height" "_law_height" sHeight fH dH) (bH : Binds K dH ["height", "stage"] [])
    (G : FnOk P w K mg base CX0 (2 * m + 1) fH dH ["height", "stage"] (spHeight K m)) : FnOk P w K mg base CX0 (2 * m + 2) fD dD ["plan"] (spDepth K m) := by
  refine FD.ok scDepth (fun vs H Q E h => ?_) (fun cdv B outer s H vs Q E hr h => ?_)
  · obtain ⟨v, p, rfl, _⟩ := h
    rfl
  · obtain ⟨v, p, rfl, hv, ho, hn, k⟩ := h
    refine ⟨_, pss_cons (ps_set (i := 1) scDepth.nd rfl (Or.inl rfl) pe_int)
      (pss_cons (ps_for PassesOwn.never rfl (pi_tup (pe_ix ix_tup (pv 0) pe_int (fun _ _ => rfl))) (pg_name (i := 2) scDepth.nd rfl (Or.inl rfl))
        (pss_one (ps_set (i := 1) scDepth.nd rfl (Or.inl rfl) (pe_call G hr rfl gH FH.kp bH .nil pass0 (pa_cons (pv 1) (pa_cons (pv 2) pa_nil))))))
      (pss_one (ps_ret (pv 1)))), ?_⟩
    cases hv with
    | @mk a b s l xs h hs hl =>
      have ho : s ∈ K0 ∧ l.len ≤ 6 ∧ l.ok 0 [s] := ho
      have hn : l.nest < m := hn
      refine ⟨_, rfl, a, _, _, _, rfl, rfl, h, rfl, b, rfl, ⟨_, hs⟩, ?_⟩
      refine for_it (walk_tup (xs := xs)) (fun i σ H' => ∃ (d : Int) (v2 : Option V) (r : Sgs), σ = [some (.ref a), some (.int d), v2] ∧ Same H H' ∧ PsAll K H (xs.drop i) r ∧ r.sd ∧ r.nest < m ∧ r.dep d = l.dep 0)
        ⟨0, none, l, rfl, Same.refl H, hl, ho.2.2.sd, hn, rfl⟩ (fun i σ H' _ q => ?_) ?_ ?_
      · obtain ⟨d, v2, r, _, z, _⟩ := q
        exact (Kp.of z).tup hs
      · rintro i y σ H1 H2 hi ⟨d, v2, r, rfl, s1, hr2, sd, nn, ed⟩ ⟨rfl, hy⟩
        have hd : xs.drop i = y :: xs.drop (i + 1) := by
          rw [List.drop_eq_getElem_cons hi]
          rw [List.getElem?_eq_getElem hi] at hy
          rw [Option.some.inj hy]
        rw [hd] at hr2
        cases hr2 with
        | @cons _ _ x r h1 h2 =>
          have sd : x.sd ∧ r.sd := sd
          have nn : max x.nest r.nest < m := nn
          refine ⟨_, rfl, _, rfl, y, x, d, rfl, PsV.kp (Kp.of s1) h1, sd.1, Nat.lt_of_le_of_lt (Nat.le_max_left _ _) nn, fun H3 s3 => ?_⟩
          exact ⟨x.dep d, _, r, rfl, s1.trans s3, h2, sd.2, Nat.lt_of_le_of_lt (Nat.le_max_right _ _) nn, ed⟩
      · rintro σ H1 ⟨d, v2, r, rfl, s1, hr2, sd, nn, ed⟩
        rw [List.drop_length] at hr2
        cases hr2
        have ed : d = l.dep 0 := ed
        subst ed
        exact ⟨_, rfl, k H1 s1⟩
theorem ok_hd (N : Nm mg) (gH : mg "_law_height" = some (.ref fH)) (FH : Fun K "_law_height" "_law_height" sHeight fH dH) (bH : Binds K dH ["height", "stage"] []) (gD : mg "_law_depth" = some (.ref fD)) (FD : Fun K "_law_depth" "_law_depth" sDepth fD dD)
    (bD : Binds K dD ["plan"] []) : ∀ m : Nat, FnOk P w K mg base CX0 (2 * m + 1) fH dH ["height", "stage"] (spHeight K m) ∧ FnOk P w K mg base CX0 (2 * m + 2) fD dD ["plan"] (spDepth K m)
  | 0 => by
    have h : FnOk P w K mg base CX0 1 fH dH ["height", "stage"] (spHeight K 0) := by
      refine FH.ok scHeight (fun vs H Q E h => ?_) (fun cdv B outer s H vs Q E hr h => ?_)
      · obtain ⟨v, x, d, rfl, _⟩ := h
        rfl
      · obtain ⟨v, x, d, rfl, hv, hs, hn, k⟩ := h
        exact absurd hn (Nat.not_lt_zero _)
    exact ⟨h, ok_depth FD gH FH bH h⟩
  | m + 1 => by
    have h := ok_height N FH gD FD bD (ok_hd N gH FH bH gD FD bD m).2
    exact ⟨h, ok_depth (m := m + 1) FD gH FH bH h⟩
end
end K02
set_option Elab.async false
set_option linter.all false
set_option maxRecDepth 100000
set_option maxHeartbeats 4000000
namespace K02
open PySem L2 VK
abbrev sName : Stmt := top 30
theorem scName0 : FnScope ["stream", "word", "turn"] ["stream"] (defScope sName) := ⟨rfl, rfl, rfl, by decide +kernel, rfl, by decide +kernel, by decide +kernel⟩
def spPickT : Sp := fun vs H Q _ => ∃ (p : Addr) (z : Str), vs = [.ref p, .str z] ∧ Strm H p ∧ 0 < z.length ∧ z.length < 1000 ∧ ∀ (c : Nat) (H' : Hp), c ∈ z.cps.toList → Strm H' p → But p H H' → Q (.str ⟨#[c]⟩) H'
def spName : Sp := fun vs H Q _ => ∃ p : Addr, vs = [.ref p] ∧ Strm H p ∧ ∀ (z : Str) (H' : Hp), isNm z = true → Strm H' p → Bx p H H' → Q (.str z) H'
/-- the letters alone -/
def letters (z : Str) : Bool := z.cps.toList.all okSign
section
variable {P : Program} {w : World} {K : Fg} {mg : Str → Option Value} {base : Heap}
theorem ok_pickT {f fD : Addr} {fd fdD : FuncData} (F : Fun K "_law_pick" "_law_pick" sPick f fd) (N : Nm mg) (gD : mg "_law_draw" = some (.ref fD))
    (FD : Fun K "_law_draw" "_law_draw" sDraw fD fdD) (bD : Binds K fdD ["stream", "span"] []) : FnOk P w K mg base CX0 2 f fd ["stream", "things"] spPickT := by
  have GD : FnOk P w K mg base CX0 1 fD fdD ["stream", "span"] spDraw := ok_draw FD N
  refine F.ok scPick (fun vs H Q E h => ?_) (fun cdv B outer s H vs Q E hr h => ?_)
  · obtain ⟨p, z, rfl, _⟩ := h
    rfl
  · obtain ⟨p, z, rfl, hp, h0, h1, k⟩ := h
    refine ⟨_, pss_one (ps_ret (pe_ix ix_str (pv 1) (pe_call GD hr rfl gD FD.kp bD .nil pass0 (pa_cons (pv 0) (pa_cons (pe_callB call_len_str (by rfl) N.len PySem.boot_len (pa_cons (pv 1) pa_nil)) pa_nil))) (fun _ _ => rfl))), ?_⟩
    have zl : z.length ≤ sizeLine := Nat.le_of_lt (small1000 (Nat.le_of_lt h1))
    refine ⟨_, rfl, _, rfl, _, rfl, z, rfl, zl, p, _, rfl, hp, by omega, by omega, fun d H' d0 d1 hs hb => ?_⟩
    obtain ⟨n, rfl⟩ := Int.eq_ofNat_of_zero_le d0
    have lt : n < z.cps.toList.length := by
      rw [Array.length_toList]
      show n < z.length
      omega
    refine ⟨z, (n : Int), z.cps.toList[n], rfl, rfl, zl, ?_, k _ H' (List.getElem_mem lt) hs hb⟩
    unfold atI
    rw [ixN_of lt]
    exact List.getElem?_eq_getElem lt
theorem ok_name {f fP fD : Addr} {fd dP dD : FuncData} (F : Fun K "_law_name" "_law_name" sName f fd) (N : Nm mg) (gP : mg "_law_pick" = some (.ref fP)) (FP : Fun K "_law_pick" "_law_pick" sPick fP dP) (bP : Binds K dP ["stream", "things"] [])
    (gD : mg "_law_draw" = some (.ref fD)) (FD : Fun K "_law_draw" "_law_draw" sDraw fD dD) (bD : Binds K dD ["stream", "span"] []) : FnOk P w K mg base CX0 3 f fd ["stream"] spName := by
  have GD : FnOk P w K mg base CX0 1 fD dD ["stream", "span"] spDraw := ok_draw FD N
  have GP : FnOk P w K mg base CX0 2 fP dP ["stream", "things"] (spPick K) := ok_pick FP N gD FD bD
  have GT : FnOk P w K mg base CX0 2 fP dP ["stream", "things"] spPickT := ok_pickT FP N gD FD bD
  refine F.ok scName0 (fun vs H Q E h => ?_) (fun cdv B outer s H vs Q E hr h => ?_)
  · obtain ⟨p, rfl, _⟩ := h
    rfl
  · obtain ⟨p, rfl, hp, k⟩ := h
    have hr1 := hr.mono (show 1 ≤ 2 by decide)
    refine ⟨_, pss_cons (ps_set (i := 1) scName0.nd rfl (Or.inl rfl) (pe_call GP hr rfl gP FP.kp bP .nil pass0 (pa_cons (pv 0) (pa_cons (pe_lst (pa_cons pe_str (pa_cons pe_str (pa_cons pe_str pa_nil)))) pa_nil))))
      (pss_cons (ps_for PassesOwn.never rfl (pi_range1 (by rfl) N.range (pa_cons (pe_op op_add pe_int (pe_call GD hr1 rfl gD FD.kp bD .nil pass0 (pa_cons (pv 0) (pa_cons pe_int pa_nil)))) pa_nil)) (pg_name (i := 2) scName0.nd rfl (Or.inl rfl))
        (pss_one (ps_set (i := 1) scName0.nd rfl (Or.inl rfl) (pe_op op_add_str (pv 1) (pe_call GT hr rfl gP FP.kp bP .nil pass0 (pa_cons (pv 0) (pa_cons pe_str pa_nil)))))))
      (pss_one (ps_ret (pe_call GP hr rfl gP FP.kp bP .nil pass0 (pa_cons (pv 0) (pa_cons (pe_lst (pa_cons (pv 1) (pa_cons (pv 1) (pa_cons pe_str (pa_cons pe_str (pa_cons pe_str (pa_cons pe_str (pa_cons pe_str (pa_cons pe_str (pa_cons pe_str (pa_cons pe_str (pa_cons pe_str pa_nil)))))))))))) pa_nil)))))), ?_⟩
    refine ⟨_, rfl, by show 3 ≤ sizeLine; decide, fun q hq => ?_⟩
    have nq := strm_ne hp hq
    have e0 : upd H q (.lst [.str "", .str "un", .str "to"]) q = some (.lst [.str "", .str "un", .str "to"]) := upd_same
    have s0 : Same H (upd H q (.lst [.str "", .str "un", .str "to"])) := same_new hq
    generalize upd H q (.lst [.str "", .str "un", .str "to"]) = H0 at e0 s0
    refine ⟨p, q, _, rfl, hp.same s0, SqL.of e0, nq, (fun z => by cases z), by show 3 < 1000; decide, fun w0 H1 hw hs1 b1 => ?_⟩
    have word : ∃ z : Str, w0 = .str z ∧ z.length ≤ 2 ∧ letters z = true := by
      rcases List.mem_cons.mp hw with rfl | hw
      · exact ⟨_, rfl, by decide, by decide +kernel⟩
      rcases List.mem_cons.mp hw with rfl | hw
      · exact ⟨_, rfl, by decide, by decide +kernel⟩
      rcases List.mem_cons.mp hw with rfl | hw
      · exact ⟨_, rfl, by decide, by decide +kernel⟩
      · cases hw
    obtain ⟨z0, rfl, l0, t0⟩ := word
    have bx1 : Bx p H H1 := (Bx.of s0).trans b1.bx
    refine ⟨_, rfl, p, 4, rfl, hs1, by decide, by decide, fun d H2 d0 d1 hs2 b2 => ?_⟩
    refine ⟨_, _, rfl, rfl, 1 + d, rfl, by omega, by omega, ?_⟩
    have alpha : ∀ c ∈ ("abcdefghijklmnopqrstuvwxyz" : Str).cps.toList, okSign c = true := by decide +kernel
    refine for_range (lo := 0) (n := (1 + d).toNat) (fun i σ H' => ∃ (z : Str) (v2 : Option V), σ = [some (.ref p), some (.str z), v2] ∧ Strm H' p ∧ Bx p H H' ∧ z.length ≤ 2 + i ∧ i ≤ z.length ∧ letters z = true)
      ⟨z0, none, rfl, hs2, bx1.trans b2.bx, l0, Nat.zero_le _, t0⟩ ?_ ?_
    · rintro i σ H3 hi ⟨z, v2, rfl, hs3, bx3, l1, l2, t3⟩
      refine ⟨_, rfl, _, rfl, p, _, rfl, hs3, by decide +kernel, by decide +kernel, fun c H4 hc hs4 b4 => ?_⟩
      have one : (⟨#[c]⟩ : Str).length = 1 := rfl
      have add : (z ++ (⟨#[c]⟩ : Str)).length = z.length + 1 := by rw [strLen_append, one]
      refine ⟨z, _, rfl, rfl, ?_, z ++ ⟨#[c]⟩, _, rfl, hs4, bx3.trans b4.bx, by omega, by omega, ?_⟩
      · rw [one, sizeLine_eq]
        omega
      · show (z.cps ++ #[c]).toList.all okSign = true
        rw [Array.toList_append, List.all_append, show z.cps.toList.all okSign = true from t3]
        show ([c].all okSign) = true
        rw [List.all_cons, alpha c hc]
        rfl
    · rintro σ H3 ⟨z, v2, rfl, hs3, bx3, l1, l2, t3⟩
      have nz : isNm z = true := by
        unfold isNm
        rw [decide_eq_true (show 1 ≤ z.length by omega), decide_eq_true (show z.length ≤ 8 by omega)]
        exact t3
      refine ⟨_, rfl, _, rfl, _, rfl, by show 11 ≤ sizeLine; decide, fun r hr3 => ?_⟩
      refine ⟨p, r, _, rfl, hs3.same (same_new hr3), SqL.of upd_same, strm_ne hs3 hr3, (fun z => by cases z), by show 11 < 1000; decide, fun x H4 hx hs4 b4 => ?_⟩
      have bx4 : Bx p H H4 := (bx3.trans (Bx.of (same_new hr3))).trans b4.bx
      have fin : ∃ t : Str, x = .str t ∧ isNm t = true := by
        rcases List.mem_cons.mp hx with rfl | hx
        · exact ⟨_, rfl, nz⟩
        rcases List.mem_cons.mp hx with rfl | hx
        · exact ⟨_, rfl, nz⟩
        have all : ∀ x ∈ [V.str "zip", .str "unzip", .str "flat", .str "from", .str "take", .str "map", .str "end", .str "a", .str "b"], ∃ t : Str, x = .str t ∧ isNm t = true := by
          intro x hx
          rw [show [V.str "zip", .str "unzip", .str "flat", .str "from", .str "take", .str "map", .str "end", .str "a", .str "b"] = (["zip", "unzip", "flat", "from", "take", "map", "end", "a", "b"] : List Str).map V.str from rfl] at hx
          obtain ⟨t, ht, rfl⟩ := List.mem_map.mp hx
          exact ⟨t, rfl, (by decide +kernel : ∀ t ∈ (["zip", "unzip", "flat", "from", "take", "map", "end", "a", "b"] : List Str), isNm t = true) t ht⟩
        exact all x hx
      obtain ⟨t, rfl, ht⟩ := fin
      exact k t H4 ht hs4 bx4
end
end K02
set_option Elab.async false
set_option linter.all false
set_option maxRecDepth 100000
set_option maxHeartbeats 4000000
namespace K02
open PySem L2 VK
abbrev sStg : Stmt := top 31
abbrev sPlan : Stmt := top 32
theorem scStg : FnScope ["stream", "height", "pool", "most", "some", "word", "name"] ["stream", "height", "pool", "most"] (defScope sStg) := ⟨rfl, rfl, rfl, by decide +kernel, rfl, by decide +kernel, by decide +kernel⟩
theorem scPlan : FnScope ["stream", "pool", "most", "first", "stages", "height", "turn", "stage"] ["stream", "pool", "most"] (defScope sPlan) := ⟨rfl, rfl, rfl, by decide +kernel, rfl, by decide +kernel, by decide +kernel⟩
/-- all but the stream and the pool stays -/
def Bxx (p q : Addr) (H H' : Hp) : Prop := ∀ b o, b ≠ p → b ≠ q → H b = some o → H' b = some o
theorem Bxx.trans {p q : Addr} {H H1 H2 : Hp} (a : Bxx p q H H1) (b : Bxx p q H1 H2) : Bxx p q H H2 := fun c o n m e => b c o n m (a c o n m e)
theorem Bx.xx {p q : Addr} {H H' : Hp} (b : Bx p H H') : Bxx p q H H' := fun c o n _ e => b c o n e
theorem Same.xx {p q : Addr} {H H' : Hp} (s : Same H H') : Bxx p q H H' := fun c o _ _ e => s c o e
/-- the pool -/
structure Pool (H : Hp) (q : Addr) (pl : List Str) : Prop where
  at_ : H q = some (.lst (pl.map V.str))
  nd : pl.Nodup
  sub : ∀ s ∈ pl, s ∈ K0
def spStg (K : Fg) (n : Nat) : Sp := fun vs H Q _ => ∃ (p q : Addr) (h : Int) (pl : List Str), vs = [.ref p, .int h, .ref q, .int 3] ∧ Strm H p ∧ q ≠ p ∧ Pool H q pl ∧ pl.length ≤ n ∧
  ∀ (v : V) (x : Sg) (pl' : List Str) (H' : Hp), PsV K H' v x → x.sd → (x = .flat → 0 < h) → x.srcs ++ pl' = pl → H' q = some (.lst (pl'.map V.str)) → Strm H' p → Bxx p q H H' → Q v H'
def spPlan (K : Fg) (n : Nat) : Sp := fun vs H Q _ => ∃ (p q : Addr) (m : Int) (pl : List Str), vs = [.ref p, .ref q, .int m] ∧ 0 ≤ m ∧ m ≤ 6 ∧ Strm H p ∧ q ≠ p ∧ Pool H q pl ∧ pl ≠ [] ∧ pl.length ≤ n ∧
  ∀ (v : V) (g : Pg) (pl' : List Str) (H' : Hp), PlAt K H' v g → g.ok → g.srcs ++ pl' = pl → H' q = some (.lst (pl'.map V.str)) → Strm H' p → Bxx p q H H' → Q v H'
theorem pl_plns {pl : List Str} (h : ∀ s ∈ pl, s ∈ K0) : Plns (pl.map V.str) := by
  intro x hx
  obtain ⟨s, hs, rfl⟩ := List.mem_map.mp hx
  exact ⟨_, .str ((by decide +kernel : ∀ s ∈ K0, PyData.strOk s = true) s (h s hs))⟩
/-- the words that are drawn -/
def KW : List Str := ["map", "keep", "while", "after", "take", "skip", "lots", "gather", "flat", "keep", "zip"]
def KN : List Str := ["p", "p", "q", "f", "p", "g", "f"]
/-- the name, and what is returned -/
theorem stg_tail {K : Fg} {p : Addr} {v1 v2 v3 v4 v6 : Option V} {k : Str} {Hc : Hp} {D : Ends} (hs : Strm Hc p)
    (kk : ∀ (v : V) (k' n : Str) (H' : Hp), k' ∈ K1 → isNm n = true → PsV K H' v (.nm k' n) → Strm H' p → Bx p Hc H' → D.rt v H') :
    tSeq (tAsg (tCall (spPick K) [] E0 (tCons (tVar 0) (tCons (tLst (tCons (tC (.str "p")) (tCons (tC (.str "p")) (tCons (tC (.str "q")) (tCons (tC (.str "f")) (tCons (tC (.str "p")) (tCons (tC (.str "g")) (tCons (tC (.str "f")) (tCons (tCall spName [] E0 (tCons (tVar 0) tNil)) tNil))))))))) tNil))) (gName 6)) (tRet (tTup (tCons (tIf (tTest (tOp (rIn K false) (tVar 5) (tTup (tCons (tC (.str "map")) (tCons (tC (.str "while")) (tCons (tC (.str "after")) tNil)))))) (tVar 5) (tC (.str "keep"))) (tCons (tVar 6) tNil)))) D [some (.ref p), v1, v2, v3, v4, some (.str k), v6] Hc := by
  refine ⟨_, rfl, _, rfl, p, rfl, hs, fun nm H1 hn hs1 b1 => ?_⟩
  refine ⟨by show 8 ≤ sizeLine; decide, fun c hc => ?_⟩
  refine ⟨p, c, (KN ++ [nm]).map V.str, rfl, hs1.same (same_new hc), SqL.of upd_same, strm_ne hs1 hc, (fun z => by cases z), by show 8 < 1000; decide, fun w0 H2 hw hs2 b2 => ?_⟩
  obtain ⟨n, hn2, rfl⟩ := List.mem_map.mp hw
  have okn : isNm n = true := by
    rcases List.mem_append.mp hn2 with h | h
    · exact (by decide +kernel : ∀ n ∈ KN, isNm n = true) n h
    · rw [List.mem_singleton.mp h]; exact hn
  have bx : Bx p Hc H2 := (b1.trans (Bx.of (same_new hc))).trans b2.bx
  refine ⟨_, rfl, by show 3 ≤ sizeLine; decide, fun t ht => ?_⟩
  have st : Same H2 (upd H2 t (.tup [.str "map", .str "while", .str "after"])) := same_new ht
  have et : upd H2 t (.tup [.str "map", .str "while", .str "after"]) t = some (.tup [.str "map", .str "while", .str "after"]) := upd_same
  generalize upd H2 t (.tup [.str "map", .str "while", .str "after"]) = H3 at st et
  refine ⟨t, _, rfl, .inr (.inl (.inl et)), rfl, rfl, _, rfl, ?_⟩
  rw [show inV (.str k) [.str "map", .str "while", .str "after"] = decide (k ∈ (["map", "while", "after"] : List Str)) from in_dec k ["map", "while", "after"]]
  refine dif (fun c1 => ?_) (fun c1 => ?_)
  · refine ⟨_, rfl, _, rfl, by show 2 ≤ sizeLine; decide, fun u hu => ?_⟩
    exact kk _ k n _ ((by decide +kernel : ∀ z ∈ (["map", "while", "after"] : List Str), z ∈ K1) k c1) okn (.nm (.inl (.inl upd_same))) ((hs2.same st).same (same_new hu)) (bx.trans (Bx.of (st.trans (same_new hu))))
  · refine ⟨_, rfl, by show 2 ≤ sizeLine; decide, fun u hu => ?_⟩
    exact kk _ "keep" n _ (by decide +kernel) okn (.nm (.inl (.inl upd_same))) ((hs2.same st).same (same_new hu)) (bx.trans (Bx.of (st.trans (same_new hu))))
section
variable {P : Program} {w : World} {K : Fg} {mg : Str → Option Value} {base : Heap} {fS fL fN fP fD : Addr} {dS dL dN dP dD : FuncData}
theorem ok_stg {n : Nat} (F : Fun K "_law_stage" "_law_stage" sStg fS dS) (N : Nm mg) (gL : mg "_law_plan" = some (.ref fL)) (FL : Fun K "_law_plan" "_law_plan" sPlan fL dL) (bL : Binds K dL ["stream", "pool", "most"] [])
    (gN : mg "_law_name" = some (.ref fN)) (FN : Fun K "_law_name" "_law_name" sName fN dN) (bN : Binds K dN ["stream"] []) (gP : mg "_law_pick" = some (.ref fP)) (FP : Fun K "_law_pick" "_law_pick" sPick fP dP) (bP : Binds K dP ["stream", "things"] [])
    (gD : mg "_law_draw" = some (.ref fD)) (FD : Fun K "_law_draw" "_law_draw" sDraw fD dD) (bD : Binds K dD ["stream", "span"] [])
    (GL : FnOk P w K mg base CX0 (2 * n + 12) fL dL ["stream", "pool", "most"] (spPlan K n)) : FnOk P w K mg base CX0 (2 * n + 13) fS dS ["stream", "height", "pool", "most"] (spStg K n) := by
  have GD : FnOk P w K mg base CX0 1 fD dD ["stream", "span"] spDraw := ok_draw FD N
  have GP : FnOk P w K mg base CX0 2 fP dP ["stream", "things"] (spPick K) := ok_pick FP N gD FD bD
  have GN : FnOk P w K mg base CX0 3 fN dN ["stream"] spName := ok_name FN N gP FP bP gD FD bD
  refine F.ok scStg (fun vs H Q E h => ?_) (fun cdv B outer s H vs Q E hr h => ?_)
  · obtain ⟨p, q, h, pl, rfl, _⟩ := h
    rfl
  · obtain ⟨p, q, h, pl, rfl, hp, hqp, hq, hn, k⟩ := h
    have hr1 := hr.mono (show 1 ≤ 2 * n + 12 by omega)
    have hr2 := hr.mono (show 2 ≤ 2 * n + 12 by omega)
    have hr3 := hr.mono (show 3 ≤ 2 * n + 12 by omega)
    refine ⟨_, pss_cons (ps_set (i := 4) scStg.nd rfl (Or.inl rfl) (pe_lst (pa_cons pe_str (pa_cons pe_str (pa_cons pe_str (pa_cons pe_str (pa_cons pe_str (pa_cons pe_str (pa_cons pe_str (pa_cons pe_str (pa_cons pe_str (pa_cons pe_str (pa_cons pe_str pa_nil)))))))))))))
      (pss_cons (ps_set (i := 5) scStg.nd rfl (Or.inl rfl) (pe_call GP hr2 rfl gP FP.kp bP .nil pass0 (pa_cons (pv 0) (pa_cons (pv 4) pa_nil))))
      (pss_cons (ps_if (PW.pt (pw_and (pt_cmpR op_eq (pv 5) pe_str (nomark _)) (pw_and1 (pt_cmpR (op_neD hr.units) (pv 2) (pe_lst pa_nil) (nomark _)))))
        (pss_one (ps_ret (pe_tup (pa_cons pe_str (pa_cons (pe_call GL hr rfl gL FL.kp bL .nil pass0 (pa_cons (pv 0) (pa_cons (pv 2) (pa_cons pe_int pa_nil)))) pa_nil))))) pss_nil)
      (pss_cons (ps_if (PW.pt (pw_and (pt_cmpR op_eq (pv 5) pe_str (nomark _)) (pw_and1 (pt_cmpR op_gt (pv 1) pe_int (nomark _)))))
        (pss_one (ps_ret (pe_tup (pa_cons pe_str pa_nil)))) pss_nil)
      (pss_cons (ps_if (pt_cmpR op_in_seq (pv 5) (pe_tup (pa_cons pe_str (pa_cons pe_str (pa_cons pe_str (pa_cons pe_str pa_nil))))) rfl)
        (pss_one (ps_ret (pe_tup (pa_cons (pv 5) (pa_cons (pe_op op_add pe_int (pe_call GD hr1 rfl gD FD.kp bD .nil pass0 (pa_cons (pv 0) (pa_cons (pv 3) pa_nil)))) pa_nil))))) pss_nil)
      (pss_cons (ps_set (i := 6) scStg.nd rfl (Or.inl rfl) (pe_call GP hr2 rfl gP FP.kp bP .nil pass0 (pa_cons (pv 0) (pa_cons (pe_lst (pa_cons pe_str (pa_cons pe_str (pa_cons pe_str (pa_cons pe_str (pa_cons pe_str (pa_cons pe_str (pa_cons pe_str (pa_cons (pe_call GN hr3 rfl gN FN.kp bN .nil pass0 (pa_cons (pv 0) pa_nil)) pa_nil))))))))) pa_nil))))
      (pss_one (ps_ret (pe_tup (pa_cons (pe_ifExp (pt_cmpR op_in_seq (pv 5) (pe_tup (pa_cons pe_str (pa_cons pe_str (pa_cons pe_str pa_nil)))) rfl) (pv 5) pe_str) (pa_cons (pv 6) pa_nil)))))))))), ?_⟩
    refine ⟨by show 11 ≤ sizeLine; decide, fun c hc => ?_⟩
    have nc := strm_ne hp hc
    refine ⟨_, rfl, _, rfl, p, c, KW.map V.str, rfl, hp.same (same_new hc), SqL.of upd_same, nc, (fun z => by cases z), by show 11 < 1000; decide, fun w0 H1 hw hs1 b1 => ?_⟩
    obtain ⟨wd, hwd, rfl⟩ := List.mem_map.mp hw
    have bx1 : Bx p H H1 := (Bx.of (same_new hc)).trans b1.bx
    have q1 := bx1 _ _ hqp hq.at_
    -- a stage with a name
    have named : ∀ (Hc : Hp), Bx p H Hc → ∀ (v : V) (k' n : Str) (H' : Hp), k' ∈ K1 → isNm n = true → PsV K H' v (.nm k' n) → Strm H' p → Bx p Hc H' → Q v H' := fun Hc bc v k' n H' h1 h2 h3 h4 h5 =>
      k v (.nm k' n) pl H' h3 ⟨h1, h2⟩ (fun z => by cases z) rfl ((bc.trans h5) _ _ hqp hq.at_) h4 (bc.trans h5).xx
    refine ⟨_, rfl, rfl, _, rfl, ?_⟩
    refine dif (fun ez => ?_) (fun ez => ?_)
    · have ew : wd = "zip" := V.str.inj ez
      subst ew
      refine ⟨_, rfl, by show 0 ≤ sizeLine; decide, fun t ht => ?_⟩
      have st : Same H1 (upd H1 t (.lst [])) := same_new ht
      have et : upd H1 t (.lst []) t = some (.lst []) := upd_same
      generalize upd H1 t (.lst []) = H2 at st et
      refine ne_nil (SqL.of (st _ _ q1)) (pl_plns hq.sub) (SqL.of et) ⟨_, rfl, ?_⟩
      have bx2 : Bx p H H2 := bx1.trans (Bx.of st)
      cases pl with
      | cons s0 pl0 =>
        refine iteT (B := True) ?_
        refine ⟨_, rfl, _, rfl, p, q, 2, s0 :: pl0, rfl, by decide, by decide, hs1.same st, hqp, ⟨st _ _ q1, hq.nd, hq.sub⟩, (fun z => by cases z), hn, fun v g pl' H' hv hg hsr hq' hs' bx' => ?_⟩
        refine ⟨by show 2 ≤ sizeLine; decide, fun u hu => ?_⟩
        have su : Same H' (upd H' u (.tup [.str "zip", v])) := same_new hu
        exact k _ (.zip g) pl' _ (.zip (.inl (.inl upd_same)) (PlAt.kp (Kp.of su) hv)) hg (fun z => by cases z) hsr (su _ _ hq') (hs'.same su) ((bx2.xx.trans bx').trans (Same.xx su))
      | nil =>
        refine iteF (A := True) ?_
        refine ⟨_, rfl, rfl, _, rfl, ?_⟩
        refine iteF (A := True) ?_
        refine ⟨_, rfl, by show 4 ≤ sizeLine; decide, fun r hr4 => ⟨r, _, rfl, .inr (.inl (.inl upd_same)), rfl, rfl, _, rfl, ?_⟩⟩
        refine iteF (A := True) ?_
        exact stg_tail ((hs1.same st).same (same_new hr4)) (named _ (bx2.trans (Bx.of (same_new hr4))))
    · refine ⟨_, rfl, rfl, _, rfl, ?_⟩
      refine dif (fun ef => ?_) (fun ef => ?_)
      · have ew : wd = "flat" := V.str.inj ef
        subst ew
        refine ⟨_, rfl, _, _, rfl, rfl, _, rfl, ?_⟩
        refine dif (fun hh => ?_) (fun hh => ?_)
        · refine ⟨by show 1 ≤ sizeLine; decide, fun u hu => ?_⟩
          exact k _ .flat pl _ (.flat (.inl (.inl upd_same))) trivial (fun _ => hh) rfl (same_new hu _ _ q1) (hs1.same (same_new hu)) (bx1.trans (Bx.of (same_new hu))).xx
        · refine ⟨_, rfl, by show 4 ≤ sizeLine; decide, fun r hr4 => ⟨r, _, rfl, .inr (.inl (.inl upd_same)), rfl, rfl, _, rfl, ?_⟩⟩
          refine iteF (A := True) ?_
          exact stg_tail (hs1.same (same_new hr4)) (named _ (bx1.trans (Bx.of (same_new hr4))))
      · refine ⟨_, rfl, by show 4 ≤ sizeLine; decide, fun r hr4 => ⟨r, _, rfl, .inr (.inl (.inl upd_same)), rfl, rfl, _, rfl, ?_⟩⟩
        have s4 : Same H1 (upd H1 r (.tup [.str "take", .str "skip", .str "lots", .str "gather"])) := same_new hr4
        generalize upd H1 r (.tup [.str "take", .str "skip", .str "lots", .str "gather"]) = H4 at s4
        rw [show inV (.str wd) [.str "take", .str "skip", .str "lots", .str "gather"] = decide (wd ∈ K2) from in_dec wd K2]
        have bx4 := bx1.trans (Bx.of s4)
        refine dif (fun c2 => ?_) (fun c2 => ?_)
        · refine ⟨_, rfl, _, rfl, _, rfl, p, 3, rfl, hs1.same s4, by decide, by decide, fun d H5 d0 d1 hs5 b5 => ⟨_, _, rfl, rfl, by show 2 ≤ sizeLine; decide, fun u hu => ?_⟩⟩
          have bx6 := (bx4.trans b5.bx).trans (Bx.of (same_new (o := .tup [.str wd, .int (1 + d)]) hu))
          exact k _ (.num wd (1 + d)) pl _ (.num (.inl (.inl upd_same))) ⟨c2, by omega, by omega⟩ (fun z => by cases z) rfl (bx6 _ _ hqp hq.at_) (hs5.same (same_new hu)) bx6.xx
        · exact stg_tail (hs1.same s4) (named _ bx4)
end
end K02
set_option Elab.async false
set_option linter.all false
set_option maxRecDepth 100000
set_option maxHeartbeats 4000000
namespace K02
open PySem L2 VK
/-! ### one stage more -/
def Sgs.snoc : Sgs → Sg → Sgs
  | .nil, x => .cons x .nil
  | .cons y r, x => .cons y (r.snoc x)
theorem dep_snoc : ∀ (l : Sgs) (x : Sg) (d : Int), (l.snoc x).dep d = x.dep (l.dep d)
  | .nil, _, _ => rfl
  | .cons y r, x, d => dep_snoc r x (y.dep d)
theorem srcs_snoc : ∀ (l : Sgs) (x : Sg), (l.snoc x).srcs = l.srcs ++ x.srcs
  | .nil, x => by
    show x.srcs ++ [] = [] ++ x.srcs
    rw [List.append_nil]
    rfl
  | .cons y r, x => by
    show y.srcs ++ (r.snoc x).srcs = (y.srcs ++ r.srcs) ++ x.srcs
    rw [srcs_snoc r x, List.append_assoc]
theorem len_snoc : ∀ (l : Sgs) (x : Sg), (l.snoc x).len = l.len + 1
  | .nil, _ => rfl
  | .cons y r, x => by
    show (r.snoc x).len + 1 = r.len + 1 + 1
    rw [len_snoc r x]
theorem ok_snoc : ∀ {l : Sgs} {x : Sg} {d : Int} {tk : List Str}, l.ok d tk → x.ok (l.dep d) (tk ++ l.srcs) → (l.snoc x).ok d tk
  | .nil, x, d, tk, _, h => by
    have h : x.ok d (tk ++ []) := h
    rw [List.append_nil] at h
    exact ⟨h, trivial⟩
  | .cons y r, x, d, tk, o, h => by
    have o : y.ok d tk ∧ r.ok (y.dep d) (tk ++ y.srcs) := o
    have h : x.ok (r.dep (y.dep d)) (tk ++ (y.srcs ++ r.srcs)) := h
    rw [← List.append_assoc] at h
    exact ⟨o.1, ok_snoc o.2 h⟩
theorem PsAll.snoc {K : Fg} {H : Hp} {v : V} {x : Sg} (hv : PsV K H v x) : ∀ {vs : List V} {l : Sgs}, PsAll K H vs l → PsAll K H (vs ++ [v]) (l.snoc x)
  | _, _, .nil => .cons hv .nil
  | _, _, .cons h t => .cons h (PsAll.snoc hv t)
mutual
theorem Sg.nest_le : ∀ x : Sg, x.nest ≤ x.srcs.length
  | .nm _ _ => Nat.le_refl 0
  | .num _ _ => Nat.le_refl 0
  | .flat => Nat.le_refl 0
  | .zip p => Pg.nest_lt p
theorem Pg.nest_lt : ∀ p : Pg, p.nest < p.srcs.length
  | .mk s l => by
    show l.nest < (s :: l.srcs).length
    rw [List.length_cons]
    exact Nat.lt_succ_of_le (Sgs.nest_le l)
theorem Sgs.nest_le : ∀ l : Sgs, l.nest ≤ l.srcs.length
  | .nil => Nat.le_refl 0
  | .cons x r => by
    show max x.nest r.nest ≤ (x.srcs ++ r.srcs).length
    rw [List.length_append]
    have a := Sg.nest_le x
    have b := Sgs.nest_le r
    omega
end
theorem Pg.nest4 {p : Pg} (h : p.ok) : p.nest < 4 := Nat.lt_of_lt_of_le (Pg.nest_lt p) (Pg.few h)
theorem Sg.nest5 {x : Sg} (h : x.sd) : x.nest < 5 := by
  cases x with
  | nm k n => exact Nat.succ_pos 4
  | num k n => exact Nat.succ_pos 4
  | flat => exact Nat.succ_pos 4
  | zip p => exact Nat.succ_lt_succ (Pg.nest4 h)
theorem Sg.sd.ok {x : Sg} {d : Int} {tk : List Str} (h : x.sd) (hf : x = .flat → 0 < d) (ht : ∀ s ∈ x.srcs, s ∉ tk) : x.ok d tk := by
  cases x with
  | nm k n => exact h
  | num k n => exact h
  | flat => exact hf rfl
  | zip p => exact ⟨h, ht⟩
theorem Bxx.kp {p q : Addr} {H H' : Hp} {xs ys : List V} (b : Bxx p q H H') (hp : H p = some (.lst xs)) (hq : H q = some (.lst ys)) : Kp H H' := fun c o e f => by
  refine b c o (fun z => ?_) (fun z => ?_) e
  · rw [z, hp] at e
    cases e
    cases f
  · rw [z, hq] at e
    cases e
    cases f
theorem kp_upd {H : Hp} {a : Addr} {xs : List V} {o : HO} (ha : H a = some (.lst xs)) : Kp H (upd H a o) := fun c u e f => by
  rw [upd_ne (fun z => ?_)]
  · exact e
  · rw [z, ha] at e
    cases e
    cases f
section
variable {P : Program} {w : World} {K : Fg} {mg : Str → Option Value} {base : Heap} {fS fL fH fD : Addr} {dS dL dH dD : FuncData}
theorem ok_plan {n : Nat} (F : Fun K "_law_plan" "_law_plan" sPlan fL dL) (N : Nm mg) (gS : mg "_law_stage" = some (.ref fS)) (FS : Fun K "_law_stage" "_law_stage" sStg fS dS) (bS : Binds K dS ["stream", "height", "pool", "most"] [])
    (gH : mg "_law_height" = some (.ref fH)) (FH : Fun K "_law_height" "_law_height" sHeight fH dH) (bH : Binds K dH ["height", "stage"] []) (gD : mg "_law_draw" = some (.ref fD)) (FD : Fun K "_law_draw" "_law_draw" sDraw fD dD) (bD : Binds K dD ["stream", "span"] [])
    (GH : FnOk P w K mg base CX0 11 fH dH ["height", "stage"] (spHeight K 5)) (GS : FnOk P w K mg base CX0 (2 * n + 13) fS dS ["stream", "height", "pool", "most"] (spStg K n)) :
    FnOk P w K mg base CX0 (2 * n + 14) fL dL ["stream", "pool", "most"] (spPlan K (n + 1)) := by
  have GD : FnOk P w K mg base CX0 1 fD dD ["stream", "span"] spDraw := ok_draw FD N
  refine F.ok scPlan (fun vs H Q E h => ?_) (fun cdv B outer s H vs Q E hr h => ?_)
  · obtain ⟨p, q, m, pl, rfl, _⟩ := h
    rfl
  · obtain ⟨p, q, m, pl, rfl, m0, m6, hp, hqp, hq, ne, hn, k⟩ := h
    have hr1 := hr.mono (show 1 ≤ 2 * n + 13 by omega)
    have hr11 := hr.mono (show 11 ≤ 2 * n + 13 by omega)
    refine ⟨_, pss_cons (ps_par3 rfl scPlan.nd rfl rfl rfl (show 3 ≠ 4 by decide) (show 3 ≠ 5 by decide) (show 4 ≠ 5 by decide) rfl rfl rfl
        (pa_cons (pe_bm PySem.F.plainAttrs_list PySem.F.slot_list_pop PySem.F.type_list_pop mt_popAt (pv 1) (pa_cons pe_int pa_nil)) (pa_cons (pe_lst pa_nil) (pa_cons pe_int pa_nil))) (by rfl))
      (pss_cons (ps_for PassesOwn.never rfl (pi_range1 (by rfl) N.range (pa_cons (pe_call GD hr1 rfl gD FD.kp bD .nil pass0 (pa_cons (pv 0) (pa_cons (pe_op op_add (pv 2) pe_int) pa_nil))) pa_nil)) (pg_name (i := 6) scPlan.nd rfl (Or.inl rfl))
        (pss_cons (ps_set (i := 7) scPlan.nd rfl (Or.inl rfl) (pe_call GS hr rfl gS FS.kp bS .nil pass0 (pa_cons (pv 0) (pa_cons (pv 5) (pa_cons (pv 1) (pa_cons pe_int pa_nil))))))
        (pss_cons (ps_expr (pe_bm PySem.F.plainAttrs_list PySem.F.slot_list_append PySem.F.type_list_append mt_append (pv 4) (pa_cons (pv 7) pa_nil)))
        (pss_one (ps_set (i := 5) scPlan.nd rfl (Or.inl rfl) (pe_call GH hr11 rfl gH FH.kp bH .nil pass0 (pa_cons (pv 5) (pa_cons (pv 7) pa_nil))))))))
      (pss_one (ps_ret (pe_tup (pa_cons (pv 3) (pa_cons (pe_tupleOf (by rfl) N.tup (pv 4)) pa_nil)))))), ?_⟩
    cases pl with
    | nil => exact absurd rfl ne
    | cons s0 pl0 =>
      refine ⟨_, rfl, .inl ⟨rfl, _, SqL.of hq.at_⟩, q, _, 0, 0, .str s0, rfl, rfl, hq.at_, by decide, by decide, idx_nat (by rw [List.length_map]; exact Nat.succ_pos _), rfl, ?_⟩
      have h1q : upd H q (.lst (((s0 :: pl0).map V.str).eraseIdx 0)) q = some (.lst (pl0.map V.str)) := upd_same
      have h1p : Strm (upd H q (.lst (((s0 :: pl0).map V.str).eraseIdx 0))) p := hp.bx (upd_ne (Ne.symm hqp))
      have h1x : Bxx p q H (upd H q (.lst (((s0 :: pl0).map V.str).eraseIdx 0))) := fun b o _ n e => by rw [upd_ne n]; exact e
      generalize upd H q (.lst (((s0 :: pl0).map V.str).eraseIdx 0)) = H1 at h1q h1p h1x
      refine ⟨by show 0 ≤ sizeLine; decide, fun a ha => ?_⟩
      have naq : a ≠ q := fun z => by rw [z, h1q] at ha; cases ha
      have nap := strm_ne h1p ha
      have haH : H a = none := by
        cases e : H a with
        | none => rfl
        | some o =>
          have := h1x a o nap naq e
          rw [ha] at this
          cases this
      have s2 : Same H1 (upd H1 a (.lst [])) := same_new ha
      have e2 : upd H1 a (.lst []) a = some (.lst []) := upd_same
      generalize upd H1 a (.lst []) = H2 at s2 e2
      refine ⟨_, _, _, rfl, ?_⟩
      refine ⟨_, rfl, _, rfl, _, _, rfl, rfl, p, m + 1, rfl, h1p.same s2, by omega, by omega, fun d H3 d0 d1 hs3 b3 => ?_⟩
      refine ⟨d, rfl, by omega, by omega, ?_⟩
      have lenp : pl0.length ≤ n := by
        rw [List.length_cons] at hn
        omega
      refine for_range (lo := 0) (n := d.toNat) (fun i σ H' => ∃ (l : Sgs) (vs : List V) (pl' : List Str) (v6 v7 : Option V), σ = [some (.ref p), some (.ref q), some (.int m), some (.str s0), some (.ref a), some (.int (l.dep 0)), v6, v7] ∧
          Strm H' p ∧ H' q = some (.lst (pl'.map V.str)) ∧ (s0 :: l.srcs) ++ pl' = s0 :: pl0 ∧ H' a = some (.lst vs) ∧ PsAll K H' vs l ∧ l.ok 0 [s0] ∧ l.len ≤ i ∧ vs.length ≤ i ∧ Bxx p q H H')
        ⟨.nil, [], pl0, none, none, rfl, hs3, (b3 q hqp).trans (s2 _ _ h1q), rfl, (b3 a nap).trans e2, .nil, trivial, Nat.zero_le _, Nat.zero_le _, (h1x.trans (Same.xx s2)).trans b3.bx.xx⟩ ?_ ?_
      · rintro i σ H4 hi ⟨l, vs, pl', v6, v7, rfl, hs4, hq4, epl, ea4, ps4, ok4, len4, vlen, bx4⟩
        have nd := hq.nd
        rw [← epl] at nd
        have nd2 := List.nodup_append.mp nd
        have plen : pl'.length ≤ n := by
          have := congrArg List.length epl
          rw [List.length_append, List.length_cons, List.length_cons] at this
          omega
        have sub' : ∀ s ∈ pl', s ∈ K0 := fun s h => hq.sub s (by rw [← epl]; exact List.mem_append_right _ h)
        refine ⟨_, rfl, _, rfl, _, rfl, p, q, _, pl', rfl, hs4, hqp, ⟨hq4, nd2.2.1, sub'⟩, plen, fun v x pl2 H5 hv sd hf hsr hq5 hs5 bx5 => ?_⟩
        have ea5 : H5 a = some (.lst vs) := bx5 _ _ nap naq ea4
        obtain ⟨sr, sm, spq, _⟩ := id hs4
        have kp5 : Kp H4 H5 := bx5.kp spq hq4
        refine ⟨_, rfl, .inl ⟨rfl, _, SqL.of ea5⟩, _, rfl, a, vs, v, rfl, rfl, ea5, small1000 (by omega), ?_⟩
        have kp6 : Kp H5 (upd H5 a (.lst (vs ++ [v]))) := kp_upd ea5
        have ea6 : upd H5 a (.lst (vs ++ [v])) a = some (.lst (vs ++ [v])) := upd_same
        have hq6 : upd H5 a (.lst (vs ++ [v])) q = some (.lst (pl2.map V.str)) := by rw [upd_ne (Ne.symm naq)]; exact hq5
        have hs6 : Strm (upd H5 a (.lst (vs ++ [v]))) p := hs5.bx (upd_ne (Ne.symm nap))
        have bx6 : Bxx p q H (upd H5 a (.lst (vs ++ [v]))) := fun b o n1 n2 e => by
          rw [upd_ne (ne_of_none e haH)]
          exact bx5 _ _ n1 n2 (bx4 _ _ n1 n2 e)
        generalize upd H5 a (.lst (vs ++ [v])) = H6 at kp6 ea6 hq6 hs6 bx6
        refine ⟨_, rfl, _, rfl, v, x, l.dep 0, rfl, PsV.kp kp6 hv, sd, Sg.nest5 sd, fun H7 s7 => ?_⟩
        have dis : ∀ s ∈ x.srcs, s ∉ [s0] ++ l.srcs := fun s h hm => nd2.2.2 s hm s (by rw [← hsr]; exact List.mem_append_left _ h) rfl
        refine ⟨l.snoc x, vs ++ [v], pl2, some (.int (0 + (i : Nat))), some v, ?_, hs6.same s7, s7 _ _ hq6, ?_, s7 _ _ ea6, PsAll.snoc (PsV.kp (kp6.trans (Kp.of s7)) hv) (PsAll.kp ((kp5.trans kp6).trans (Kp.of s7)) ps4), ok_snoc ok4 (sd.ok hf dis), ?_, ?_, bx6.trans (Same.xx s7)⟩
        · rw [dep_snoc]
          rfl
        · rw [srcs_snoc, ← List.cons_append, List.append_assoc, hsr]
          exact epl
        · rw [len_snoc]
          omega
        · rw [List.length_append]
          show vs.length + 1 ≤ i + 1
          omega
      · rintro σ H4 ⟨l, vs, pl', v6, v7, rfl, hs4, hq4, epl, ea4, ps4, ok4, len4, vlen, bx4⟩
        refine ⟨_, rfl, _, rfl, tup_either (.inl (SqL.of ea4)) fun t H5 s5 ht => ?_⟩
        refine ⟨by show 2 ≤ sizeLine; decide, fun u hu => ?_⟩
        have s6 : Same H4 (upd H5 u (.tup [.str s0, .ref t])) := s5.trans (same_new hu)
        have okp : (Pg.mk s0 l).ok := ⟨hq.sub s0 List.mem_cons_self, by omega, ok4⟩
        exact k _ (.mk s0 l) pl' _ (.mk (.inl (.inl upd_same)) ((Kp.of (same_new hu)).tup ht) (PsAll.kp (Kp.of s6) ps4)) okp epl (s6 _ _ hq4) (hs4.same s6) (bx4.trans (Same.xx s6))
end
end K02
set_option Elab.async false
set_option linter.all false
set_option maxRecDepth 100000
set_option maxHeartbeats 4000000
namespace K02
open PySem L2 VK
abbrev sProg : Stmt := top 33
theorem scProg : FnScope ["plan", "found", "stage"] ["plan"] (defScope sProg) := ⟨rfl, rfl, rfl, by decide +kernel, rfl, by decide +kernel, by decide +kernel⟩
def Sgs.app : Sgs → Sgs → Sgs
  | .nil, m => m
  | .cons x r, m => .cons x (r.app m)
theorem app_nil : ∀ l : Sgs, l.app .nil = l
  | .nil => rfl
  | .cons x r => by
    show Sgs.cons x (r.app .nil) = _
    rw [app_nil r]
theorem snoc_app : ∀ (l : Sgs) (x : Sg) (m : Sgs), (l.snoc x).app m = l.app (.cons x m)
  | .nil, _, _ => rfl
  | .cons y r, x, m => by
    show Sgs.cons y ((r.snoc x).app m) = Sgs.cons y (r.app (.cons x m))
    rw [snoc_app r x m]
theorem StAll.snoc {K : Fg} {C : Addr} {H : Hp} {v : V} {x : Sg} (hv : StV K C H v x) : ∀ {vs : List V} {l : Sgs}, StAll K C H vs l → StAll K C H (vs ++ [v]) (l.snoc x)
  | _, _, .nil => .cons hv .nil
  | _, _, .cons h t => .cons h (StAll.snoc hv t)
def spProg (K : Fg) (C : Addr) (m : Nat) : Sp := fun vs H Q _ => ∃ (v : V) (g : Pg), vs = [v] ∧ PlAt K H v g ∧ g.ok ∧ g.nest < m ∧ ∀ (a : Addr) (H' : Hp), H a = none → Same H H' → PgAt K C H' (.ref a) g → Q (.ref a) H'
section
variable {P : Program} {w : World} {K : Fg} {mg : Str → Option Value} {base : Heap} {A I : Nat → Addr} {D J : Nat → FuncData} {aS a1 a2 C e0 f : Addr} {fd : FuncData}
theorem ok_prog (F : Fun K "_law_program" "_law_program" sProg f fd) (b : Binds K fd ["plan"] []) (g0 : mg "_law_program" = some (.ref f)) (Z : Lp K mg A I D J aS a1 a2 C e0) :
    ∀ m : Nat, FnOk P w K mg base CX0 (m + 7) f fd ["plan"] (spProg K C m)
  | 0 => by
    refine F.ok scProg (fun vs H Q E h => ?_) (fun cdv B outer s H vs Q E hr h => ?_)
    · obtain ⟨v, g, rfl, _⟩ := h
      rfl
    · obtain ⟨v, g, rfl, hv, ho, hn, k⟩ := h
      exact absurd hn (Nat.not_lt_zero _)
  | m + 1 => by
    have G : FnOk P w K mg base CX0 (m + 7) f fd ["plan"] (spProg K C m) := ok_prog F b g0 Z m
    refine F.ok scProg (fun vs H Q E h => ?_) (fun cdv B outer s H vs Q E hr h => ?_)
    · obtain ⟨v, g, rfl, _⟩ := h
      rfl
    · obtain ⟨v, g, rfl, hv, ho, hn, k⟩ := h
      have hr6 := hr.mono (show 6 ≤ m + 7 by omega)
      refine ⟨_, pss_cons (ps_set (i := 1) scProg.nd rfl (Or.inl rfl) (pe_lst pa_nil))
        (pss_cons (ps_for PassesOwn.never rfl (pi_tup (pe_ix ix_tup (pv 0) pe_int (fun _ _ => rfl))) (pg_name (i := 2) scProg.nd rfl (Or.inl rfl))
          (pss_one (ps_expr (pe_bm PySem.F.plainAttrs_list PySem.F.slot_list_append PySem.F.type_list_append mt_append (pv 1) (pa_cons
            (pe_ifExp (pt_cmpR op_eq (pe_ix ix_tup (pv 2) pe_int (fun _ _ => rfl)) pe_str (nomark _)) (pe_tup (pa_cons pe_str (pa_cons (pe_call G hr rfl g0 F.kp b .nil pass0 (pa_cons (pe_ix ix_tup (pv 2) pe_int (fun _ _ => rfl)) pa_nil)) pa_nil))) (pv 2)) pa_nil)))))
        (pss_one (ps_ret (pe_make Z.m Z.o22 hr6 rfl Z.L.c.g Z.b .nil (E := E0) passL (pa_cons (pe_ix ix_tup (pv 0) pe_int (fun _ _ => rfl)) (pa_cons (pv 1) pa_nil)))))), ?_⟩
      cases hv with
      | @mk a t s0 l xs h hs hl =>
        have ok : s0 ∈ K0 ∧ l.len ≤ 6 ∧ l.ok 0 [s0] := ho
        have hn : l.nest < m + 1 := hn
        refine ⟨by show 0 ≤ sizeLine; decide, fun q hq => ?_⟩
        have s1 : Same H (upd H q (.lst [])) := same_new hq
        have e1 : upd H q (.lst []) q = some (.lst []) := upd_same
        generalize upd H q (.lst []) = H1 at s1 e1
        refine ⟨_, rfl, a, _, _, _, rfl, rfl, (Kp.of s1).tup h, rfl, t, rfl, ⟨_, (Kp.of s1).tup hs⟩, ?_⟩
        have xl : xs.length ≤ 6 := by rw [PsAll.len hl]; exact ok.2.1
        refine for_it (walk_tup (xs := xs)) (fun i σ H' => ∃ (l1 r : Sgs) (vs : List V) (v2 : Option V), σ = [some (.ref a), some (.ref q), v2] ∧ Same H H' ∧ H' q = some (.lst vs) ∧ StAll K C H' vs l1 ∧ vs.length ≤ i ∧ PsAll K H (xs.drop i) r ∧ r.sd ∧ r.nest < m + 1 ∧ l1.app r = l)
          ⟨.nil, l, [], none, rfl, s1, e1, .nil, Nat.zero_le _, hl, ok.2.2.sd, hn, rfl⟩ (fun i σ H' _ z => ?_) ?_ ?_
        · obtain ⟨_, _, _, _, _, z, _⟩ := z
          exact (Kp.of z).tup hs
        · rintro i y σ H2 H3 hi ⟨l1, r, vs, v2, rfl, s2, e2, st, vl, pr, sd, rn, el⟩ ⟨rfl, hy⟩
          have hd : xs.drop i = y :: xs.drop (i + 1) := by
            rw [List.drop_eq_getElem_cons hi]
            rw [List.getElem?_eq_getElem hi] at hy
            rw [Option.some.inj hy]
          rw [hd] at pr
          cases pr with
          | @cons _ _ x r h1 h2 =>
            have sd : x.sd ∧ r.sd := sd
            have rn : max x.nest r.nest < m + 1 := rn
            have hy2 := PsV.kp (Kp.of s2) h1
            refine ⟨_, rfl, .inl ⟨rfl, _, SqL.of e2⟩, ?_⟩
            obtain ⟨b0, rr, rfl, hb0⟩ := hy2.at0
            refine ⟨_, rfl, b0, _, _, .str x.kd, rfl, rfl, hb0, at_of (j := 0) rfl rfl, rfl, _, rfl, ?_⟩
            have fin : ∀ (v : V) (H4 : Hp), Same H3 H4 → StV K C H4 v x → ∃ (l0 : Addr) (ys : List V) (y0 : V), V.ref q = V.ref l0 ∧ [v] = [y0] ∧ H4 l0 = some (.lst ys) ∧ ys.length < sizeLine ∧
                ∃ (l1' r' : Sgs) (vs' : List V) (v2' : Option V), [some (V.ref a), some (V.ref q), some (V.ref b0)] = [some (.ref a), some (.ref q), v2'] ∧ Same H (upd H4 l0 (.lst (ys ++ [y0]))) ∧ upd H4 l0 (.lst (ys ++ [y0])) q = some (.lst vs') ∧
                  StAll K C (upd H4 l0 (.lst (ys ++ [y0]))) vs' l1' ∧ vs'.length ≤ i + 1 ∧ PsAll K H (xs.drop (i + 1)) r' ∧ r'.sd ∧ r'.nest < m + 1 ∧ l1'.app r' = l := by
              intro v H4 s4 hv
              have e4 := s4 _ _ e2
              have kp := kp_upd (o := .lst (vs ++ [v])) e4
              refine ⟨q, vs, v, rfl, rfl, e4, small1000 (by omega), l1.snoc x, r, vs ++ [v], some (.ref b0), rfl, ?_, upd_same, StAll.snoc (StV.kp kp hv) (StAll.kp ((Kp.of s4).trans kp) st), ?_, h2, sd.2, Nat.lt_of_le_of_lt (Nat.le_max_right _ _) rn, ?_⟩
              · intro b o e
                rw [upd_ne (ne_of_none e hq)]
                exact s4 _ _ (s2 _ _ e)
              · rw [List.length_append]
                show vs.length + 1 ≤ i + 1
                omega
              · rw [snoc_app]
                exact el
            refine dif (fun ez => ?_) (fun ez => ?_)
            · cases hy2 with
              | nm h => exact absurd (V.str.inj ez) ((by decide +kernel : ∀ z ∈ K1, ¬ (z = "zip")) _ sd.1.wf)
              | num h => exact absurd (V.str.inj ez) ((by decide +kernel : ∀ z ∈ K2, ¬ (z = "zip")) _ sd.1.wf)
              | flat h => exact absurd (V.str.inj ez) (by decide +kernel : ¬ (("flat" : Str) = "zip"))
              | @zip _ v p h hp =>
                have pn : p.nest < m := Nat.lt_of_succ_lt_succ (Nat.lt_of_le_of_lt (Nat.le_max_left _ _) rn)
                refine ⟨_, rfl, _, _, _, _, rfl, rfl, h, rfl, v, p, rfl, hp, sd.1, pn, fun a' H4 hn4 s4 pg => ?_⟩
                refine ⟨by show 2 ≤ sizeLine; decide, fun u hu => ?_⟩
                exact fin _ _ (s4.trans (same_new hu)) (.zip (.inl (.inl upd_same)) (PgAt.kp (Kp.of (same_new hu)) pg))
            · refine ⟨_, rfl, fin _ H3 (Same.refl H3) ?_⟩
              cases hy2 with
              | nm h => exact .nm h
              | num h => exact .num h
              | flat h => exact .flat h
              | zip h hp => exact absurd rfl ez
        · rintro σ H2 ⟨l1, r, vs, v2, rfl, s2, e2, st, vl, pr, sd, rn, el⟩
          rw [List.drop_length] at pr
          cases pr
          rw [app_nil] at el
          subst el
          refine ⟨_, rfl, a, _, _, _, rfl, rfl, (Kp.of s2).tup h, rfl, _, rfl, ?_⟩
          exact mk_good ho (.inl (SqL.of e2)) st fun p H3 s3 hp pg => k p H3 (s2.free hp) (s2.trans s3) pg
end
end K02
set_option Elab.async false
set_option linter.all false
set_option maxRecDepth 100000
set_option maxHeartbeats 4000000
namespace K02
open PySem L2 VK
abbrev sTold : Stmt := top 35
theorem scTold : FnScope ["program", "word", "value", "error"] ["program", "word", "value"] (defScope sTold) := ⟨rfl, rfl, rfl, by decide +kernel, rfl, by decide +kernel, by decide +kernel⟩
/-- the class's methods -/
structure Lm (K : Fg) (C : Addr) (mg : Str → Option Value) (A : Nat → Addr) (M : Nat → Addr) (T : Nat → FuncData) : Prop where
  m0 : Meth K C "then" (M 0)
  m1 : Meth K C "without" (M 1)
  m2 : Meth K C "exchanged" (M 2)
  F0 : Fun K "then" "Program.then" sThen (M 0) (T 0)
  F1 : Fun K "without" "Program.without" sWithout (M 1) (T 1)
  F2 : Fun K "exchanged" "Program.exchanged" sExch (M 2) (T 2)
  b0 : Binds K (T 0) ["self", "stage"] []
  b1 : Binds K (T 1) ["self", "positions"] []
  b2 : Binds K (T 2) ["self", "position"] []
  ex : ∀ i j, i ∈ [3, 4, 5] → j ∈ [3, 4, 5] → PySem.W.exmOne K (.ref (A i)) (.ref (A j)) = some (decide (i = j))
/-- the pair that is told -/
def Told (K : Fg) (z : Str) (y : V) (H : Hp) (Q : VK) : Prop := ∀ (t : Addr) (H' : Hp), Same H H' → SqT K H' t [.str z, y] → Q (.ref t) H'
def ToldE (K : Fg) (CB CL CP : Addr) (Q : VK) : XK := fun cls d H => ∃ (dd : Addr) (f : Str) (y : V), d = some dd ∧ H dd = some (.xd [(f, y)]) ∧
  ((cls = .ref CP ∧ f = "value" ∧ Told K "positions" y H Q) ∨ (cls = .ref CL ∧ f = "value" ∧ Told K "stages" y H Q) ∨ (cls = .ref CB ∧ f = "position" ∧ Told K "stage" y H Q))
def spTold (K : Fg) (C CB CL CP : Addr) : Sp := fun vs H Q _ => ∃ (a ts ss dx : Addr) (s : Str) (d : Int) (word : Str) (v : V), vs = [.ref a, .str word, v] ∧ H a = some (.ins C dx (flds s ts ss d)) ∧
  ((word = "then" ∧ spThen K C CB CL [.ref a, v] H (fun r H1 => Told K "made" r H1 Q) (ToldE K CB CL CP Q)) ∨
   (word = "without" ∧ spWithout K C CB CP [.ref a, v] H (fun r H1 => Told K "made" r H1 Q) (ToldE K CB CL CP Q)) ∨
   (word = "exchanged" ∧ spExch K C CB CP [.ref a, v] H (fun r H1 => Told K "made" r H1 Q) (ToldE K CB CL CP Q)))
theorem MkEnd.mono {K : Fg} {C CB : Addr} {s : Str} {xs : List V} {H : Hp} {Q Q' : VK} {E E' : XK} {o : Out} (hq : ∀ v H, Q v H → Q' v H) (he : ∀ c d H, E c d H → E' c d H) (h : MkEnd K C CB s xs H Q E o) : MkEnd K C CB s xs H Q' E' o := by
  cases o with
  | inl a =>
    obtain ⟨d, tk⟩ := a
    exact fun p dx ts ss H2 s1 hp e t1 t2 => hq _ _ (h p dx ts ss H2 s1 hp e t1 t2)
  | inr i => exact fun H' e a b c => he _ _ _ (h H' e a b c)
theorem ErrP.mono {CP : Addr} {f : Str} {H : Hp} {v : V} {E E' : XK} (he : ∀ c d H, E c d H → E' c d H) (h : ErrP CP f H v E) : ErrP CP f H v E' := fun H' e a b c => he _ _ _ (h H' e a b c)
section
variable {K : Fg} {C CB CL CP : Addr} {vs : List V} {H : Hp} {Q Q' : VK} {E E' : XK}
theorem then_mono (hq : ∀ v H, Q v H → Q' v H) (he : ∀ c d H, E c d H → E' c d H) (h : spThen K C CB CL vs H Q E) : spThen K C CB CL vs H Q' E' := by
  obtain ⟨a, ts, s, xs, v, e, o, k⟩ := h
  refine ⟨a, ts, s, xs, v, e, o, ?_⟩
  rcases k with ⟨h6, o, r, k⟩ | ⟨h6, k⟩
  · exact .inl ⟨h6, o, r, k.mono hq he⟩
  · exact .inr ⟨h6, fun H' e st a b c d => he _ _ _ (k H' e st a b c d)⟩
theorem without_mono (hq : ∀ v H, Q v H → Q' v H) (he : ∀ c d H, E c d H → E' c d H) (h : spWithout K C CB CP vs H Q E) : spWithout K C CB CP vs H Q' E' := by
  obtain ⟨a, ts, s, xs, v, e, o, k⟩ := h
  refine ⟨a, ts, s, xs, v, e, o, ?_⟩
  rcases k with ⟨t, ty, kt, k⟩ | ⟨b, ys, cs, e1, e2, e3, e4, k⟩
  · exact .inl ⟨t, ty, kt, k.mono he⟩
  · refine .inr ⟨b, ys, cs, e1, e2, e3, e4, ?_⟩
    rcases k with ⟨h, k⟩ | ⟨ns, o, h1, h2, h3, k⟩
    · exact .inl ⟨h, k.mono he⟩
    · exact .inr ⟨ns, o, h1, h2, h3, k.mono hq he⟩
theorem exch_mono (hq : ∀ v H, Q v H → Q' v H) (he : ∀ c d H, E c d H → E' c d H) (h : spExch K C CB CP vs H Q E) : spExch K C CB CP vs H Q' E' := by
  obtain ⟨a, ts, s, xs, v, c, e, o, i, k⟩ := h
  refine ⟨a, ts, s, xs, v, c, e, o, i, ?_⟩
  rcases k with ⟨h, k⟩ | ⟨i, x, y, o, h1, h2, h3, h4, h5, k⟩
  · exact .inl ⟨h, k.mono he⟩
  · exact .inr ⟨i, x, y, o, h1, h2, h3, h4, h5, k.mono hq he⟩
end
theorem get_meth {s : Str} {ts ss : Addr} {d : Int} {m : Str} (h : m ∈ (["then", "without", "exchanged"] : List Str)) : (flds s ts ss d).lookup m = none := by
  have n : ∀ m ∈ (["then", "without", "exchanged"] : List Str), m ≠ "_depth" ∧ m ≠ "_sources" ∧ m ≠ "_stages" ∧ m ≠ "_source" := by decide +kernel
  obtain ⟨n1, n2, n3, n4⟩ := n m h
  unfold flds
  rw [lookup_putF, if_neg n1, lookup_putF, if_neg n2, lookup_putF, if_neg n3, lookup_putF, if_neg n4]
  rfl
theorem look1 {f : Str} {y : V} : [(f, y)].lookup f = some y := by simp [List.lookup]
section
variable {P : Program} {w : World} {K : Fg} {mg : Str → Option Value} {base : Heap} {A I : Nat → Addr} {D J : Nat → FuncData} {aS a1 a2 C e0 : Addr} {M : Nat → Addr} {T : Nat → FuncData}
theorem ok_told {f : Addr} {fd : FuncData} (F : Fun K "_law_told" "_law_told" sTold f fd) (Z : Lp K mg A I D J aS a1 a2 C e0) (Y : Lm K C mg A M T) : FnOk P w K mg base CX0 8 f fd ["program", "word", "value"] (spTold K C (A 4) (A 3) (A 5)) := by
  refine F.ok scTold (fun vs H Q E h => ?_) (fun cdv B outer s H vs Q E hr h => ?_)
  · obtain ⟨a, ts, ss, dx, s, d, word, v, rfl, _⟩ := h
    rfl
  · obtain ⟨a, ts, ss, dx, s, d, word, v, rfl, ha, k⟩ := h
    refine ⟨_, pss_one (ps_try_each (n := "error") (i := 3) (Wo := fun _ _ _ _ => False)
      (tb := fun W => tSeq (tIfS (tTest (tOp rEq (tVar 1) (tC (.str "then")))) (tRet (tTup (tCons (tC (.str "made")) (tCons (tMethX C "then" (spThen K C (A 4) (A 3)) (WE W) (tVar 0) (tCons (tVar 2) tNil)) tNil)))) tNext)
        (tRet (tTup (tCons (tC (.str "made")) (tCons (tIf (tTest (tOp rEq (tVar 1) (tC (.str "without")))) (tMethX C "without" (spWithout K C (A 4) (A 5)) (WE W) (tVar 0) (tCons (tVar 2) tNil))
          (tMethX C "exchanged" (spExch K C (A 4) (A 5)) (WE W) (tVar 0) (tCons (tVar 2) tNil))) tNil)))))
      rfl rfl scTold.nd rfl rfl takes0
      (fun W pn xe tk _ => by exact (pss_cons (ps_if (pt_cmpR op_eq (pv 1) pe_str (nomark _)) (pss_one (ps_ret (pe_tup (pa_cons pe_str (pa_cons (pe_methX (pv 0) Z.L.c.cl Y.m0 (ok_then Y.F0 Z) hr Y.b0 (fun σ => passAt tk σ) (pa_cons (pv 2) pa_nil)) pa_nil))))) pss_nil)
        (pss_one (ps_ret (pe_tup (pa_cons pe_str (pa_cons (pe_ifExp (pt_cmpR op_eq (pv 1) pe_str (nomark _)) (pe_methX (pv 0) Z.L.c.cl Y.m1 (ok_without Y.F1 Z) hr Y.b1 (fun σ => passAt tk σ) (pa_cons (pv 2) pa_nil))
          (pe_methX (pv 0) Z.L.c.cl Y.m2 (ok_exch Y.F2 Z) hr Y.b2 (fun σ => passAt tk σ) (pa_cons (pv 2) pa_nil))) pa_nil)))))))
      (.cons (c := .ref (A 5)) ⟨rfl, by decide, .inl Z.L.e5.g⟩ (fun a oe cls d pn hz hf => by exact pss_one (ps_ret (pe_tup (pa_cons pe_str (pa_cons (pe_xf Z.L.e5.xf Z.L.e5.no hz hf (pv 3)) pa_nil)))))
      (.cons (c := .ref (A 3)) ⟨rfl, by decide, .inl Z.L.e3.g⟩ (fun a oe cls d pn hz hf => by exact pss_one (ps_ret (pe_tup (pa_cons pe_str (pa_cons (pe_xf Z.L.e3.xf Z.L.e3.no hz hf (pv 3)) pa_nil)))))
      (.cons (c := .ref (A 4)) ⟨rfl, by decide, .inl Z.L.e4.g⟩ (fun a oe cls d pn hz hf => by exact pss_one (ps_ret (pe_tup (pa_cons pe_str (pa_cons (pe_xf Z.L.e4.xf Z.L.e4.no hz hf (pv 3)) pa_nil))))) .nil)))), ?_⟩
    have made : ∀ r H1, Told K "made" r H1 Q → [V.str "made", r].length ≤ sizeLine ∧ ∀ p, H1 p = none → Q (.ref p) (upd H1 p (.tup [.str "made", r])) := fun r H1 h =>
      ⟨by show 2 ≤ sizeLine; decide, fun p hp => h p _ (same_new hp) (.inl (.inl upd_same))⟩
    have n35 : decide (3 = 5) = false := by decide
    have n45 : decide (4 = 5) = false := by decide
    have n43 : decide (4 = 3) = false := by decide
    have x55 := Y.ex 5 5 (by decide) (by decide)
    have x35 := Y.ex 3 5 (by decide) (by decide)
    have x33 := Y.ex 3 3 (by decide) (by decide)
    have x45 := Y.ex 4 5 (by decide) (by decide)
    have x43 := Y.ex 4 3 (by decide) (by decide)
    have x44 := Y.ex 4 4 (by decide) (by decide)
    have pair : ∀ {z : Str} {y : V} {H1 : Hp}, Told K z y H1 Q → [V.str z, y].length ≤ sizeLine ∧ ∀ p, H1 p = none → Q (.ref p) (upd H1 p (.tup [.str z, y])) := fun {z y H1} h =>
      ⟨by show 2 ≤ sizeLine; decide, fun p hp => h p _ (same_new hp) (.inl (.inl upd_same))⟩
    rcases k with ⟨rfl, k⟩ | ⟨rfl, k⟩ | ⟨rfl, k⟩
    · refine ⟨_, rfl, rfl, _, rfl, iteT (B := True) ?_⟩
      refine ⟨_, rfl, a, dx, _, rfl, ha, get_meth (by decide +kernel), _, rfl, then_mono made (fun cls dd H1 h => ?_) k⟩
      obtain ⟨e, g, y, rfl, hd, ⟨rfl, rfl, q⟩ | ⟨rfl, rfl, q⟩ | ⟨rfl, rfl, q⟩⟩ := h
      · exact ⟨true, x55, fun _ a0 na => ⟨_, rfl, rfl, rfl, e, _, y, rfl, hd, look1, pair q⟩, (fun z => by cases z)⟩
      · exact ⟨false, x35, (fun z => by cases z), fun _ => ⟨true, x33, fun _ a0 na => ⟨_, rfl, rfl, rfl, e, _, y, rfl, hd, look1, pair q⟩, (fun z => by cases z)⟩⟩
      · exact ⟨false, x45, (fun z => by cases z), fun _ => ⟨false, x43, (fun z => by cases z), fun _ => ⟨true, x44, fun _ a0 na => ⟨_, rfl, rfl, rfl, e, _, y, rfl, hd, look1, pair q⟩, (fun z => by cases z)⟩⟩⟩
    · refine ⟨_, rfl, rfl, _, rfl, iteF (A := True) ?_⟩
      refine ⟨_, rfl, rfl, _, rfl, iteT (B := True) ?_⟩
      refine ⟨_, rfl, a, dx, _, rfl, ha, get_meth (by decide +kernel), _, rfl, without_mono made (fun cls dd H1 h => ?_) k⟩
      obtain ⟨e, g, y, rfl, hd, ⟨rfl, rfl, q⟩ | ⟨rfl, rfl, q⟩ | ⟨rfl, rfl, q⟩⟩ := h
      · exact ⟨true, x55, fun _ a0 na => ⟨_, rfl, rfl, rfl, e, _, y, rfl, hd, look1, pair q⟩, (fun z => by cases z)⟩
      · exact ⟨false, x35, (fun z => by cases z), fun _ => ⟨true, x33, fun _ a0 na => ⟨_, rfl, rfl, rfl, e, _, y, rfl, hd, look1, pair q⟩, (fun z => by cases z)⟩⟩
      · exact ⟨false, x45, (fun z => by cases z), fun _ => ⟨false, x43, (fun z => by cases z), fun _ => ⟨true, x44, fun _ a0 na => ⟨_, rfl, rfl, rfl, e, _, y, rfl, hd, look1, pair q⟩, (fun z => by cases z)⟩⟩⟩
    · refine ⟨_, rfl, rfl, _, rfl, iteF (A := True) ?_⟩
      refine ⟨_, rfl, rfl, _, rfl, iteF (A := True) ?_⟩
      refine ⟨_, rfl, a, dx, _, rfl, ha, get_meth (by decide +kernel), _, rfl, exch_mono made (fun cls dd H1 h => ?_) k⟩
      obtain ⟨e, g, y, rfl, hd, ⟨rfl, rfl, q⟩ | ⟨rfl, rfl, q⟩ | ⟨rfl, rfl, q⟩⟩ := h
      · exact ⟨true, x55, fun _ a0 na => ⟨_, rfl, rfl, rfl, e, _, y, rfl, hd, look1, pair q⟩, (fun z => by cases z)⟩
      · exact ⟨false, x35, (fun z => by cases z), fun _ => ⟨true, x33, fun _ a0 na => ⟨_, rfl, rfl, rfl, e, _, y, rfl, hd, look1, pair q⟩, (fun z => by cases z)⟩⟩
      · exact ⟨false, x45, (fun z => by cases z), fun _ => ⟨false, x43, (fun z => by cases z), fun _ => ⟨true, x44, fun _ a0 na => ⟨_, rfl, rfl, rfl, e, _, y, rfl, hd, look1, pair q⟩, (fun z => by cases z)⟩⟩⟩
end
end K02
set_option Elab.async false
set_option linter.all false
set_option maxRecDepth 100000
set_option maxHeartbeats 4000000
namespace K02
open PySem L2 VK
/-! ### plans changed: what is left, neighbours exchanged, the first bad place -/
def Sgs.keep (ns : List Int) : Nat → Sgs → Sgs
  | _, .nil => .nil
  | i, .cons x r => if ((i : Nat) : Int) ∈ ns then r.keep ns (i + 1) else .cons x (r.keep ns (i + 1))
def Sgs.swap0 : Sgs → Sgs
  | .cons x (.cons y r) => .cons y (.cons x r)
  | l => l
def Sgs.swap : Nat → Sgs → Sgs
  | 0, l => l.swap0
  | _ + 1, .nil => .nil
  | i + 1, .cons x r => .cons x (r.swap i)
def swap0 {α : Type} : List α → List α
  | x :: y :: r => y :: x :: r
  | l => l
def swapL {α : Type} : Nat → List α → List α
  | 0, l => swap0 l
  | _ + 1, [] => []
  | i + 1, x :: r => x :: swapL i r
theorem swapL_G {α : Type} : ∀ {xs : List α} {i : Nat} {x y : α}, xs[i]? = some x → xs[i + 1]? = some y → swapL i xs = swapG i x y xs
  | [], i, x, y, h, _ => by cases h
  | [a], 0, x, y, _, h => by cases h
  | a :: b :: r, 0, x, y, h, h2 => by
    cases h
    cases h2
    rfl
  | a :: r, i + 1, x, y, h, h2 => by
    have h : r[i]? = some x := h
    have h2 : r[i + 1]? = some y := h2
    show a :: swapL i r = a :: ((r.set i y).set (i + 1) x)
    rw [swapL_G h h2]
    rfl
theorem swapL_cut {α : Type} : ∀ {xs : List α} {i : Nat} {x y : α}, xs[i]? = some x → xs[i + 1]? = some y → swapL i xs = xs.take i ++ [y, x] ++ xs.drop (i + 2)
  | [], i, x, y, h, _ => by cases h
  | [a], 0, x, y, _, h => by cases h
  | a :: b :: r, 0, x, y, h, h2 => by
    cases h
    cases h2
    rfl
  | a :: r, i + 1, x, y, h, h2 => by
    have h : r[i]? = some x := h
    have h2 : r[i + 1]? = some y := h2
    show a :: swapL i r = a :: (r.take i ++ [y, x] ++ r.drop (i + 2))
    rw [swapL_cut h h2]
section
variable {K : Fg} {C : Addr} {H : Hp}
theorem PsAll.keep (ns : List Int) : ∀ {xs : List V} {l : Sgs} (i : Nat), PsAll K H xs l → PsAll K H (keepG ns i xs) (l.keep ns i)
  | _, _, _, .nil => .nil
  | _, _, i, .cons (v := v) (vs := vs) (x := x) (r := r) h t => by
    show PsAll K H (if ((i : Nat) : Int) ∈ ns then keepG ns (i + 1) vs else v :: keepG ns (i + 1) vs) (if ((i : Nat) : Int) ∈ ns then r.keep ns (i + 1) else .cons x (r.keep ns (i + 1)))
    by_cases c : ((i : Nat) : Int) ∈ ns
    · rw [if_pos c, if_pos c]
      exact PsAll.keep ns (i + 1) t
    · rw [if_neg c, if_neg c]
      exact .cons h (PsAll.keep ns (i + 1) t)
theorem StAll.keep (ns : List Int) : ∀ {xs : List V} {l : Sgs} (i : Nat), StAll K C H xs l → StAll K C H (keepG ns i xs) (l.keep ns i)
  | _, _, _, .nil => .nil
  | _, _, i, .cons (v := v) (vs := vs) (x := x) (r := r) h t => by
    show StAll K C H (if ((i : Nat) : Int) ∈ ns then keepG ns (i + 1) vs else v :: keepG ns (i + 1) vs) (if ((i : Nat) : Int) ∈ ns then r.keep ns (i + 1) else .cons x (r.keep ns (i + 1)))
    by_cases c : ((i : Nat) : Int) ∈ ns
    · rw [if_pos c, if_pos c]
      exact StAll.keep ns (i + 1) t
    · rw [if_neg c, if_neg c]
      exact .cons h (StAll.keep ns (i + 1) t)
theorem PsAll.swap : ∀ {xs : List V} {l : Sgs} (i : Nat), PsAll K H xs l → PsAll K H (swapL i xs) (l.swap i)
  | _, _, 0, .nil => .nil
  | _, _, _ + 1, .nil => .nil
  | _, _, 0, .cons h .nil => .cons h .nil
  | _, _, 0, .cons h (.cons h' t) => .cons h' (.cons h t)
  | _, _, i + 1, .cons h t => .cons h (PsAll.swap i t)
theorem StAll.swap : ∀ {xs : List V} {l : Sgs} (i : Nat), StAll K C H xs l → StAll K C H (swapL i xs) (l.swap i)
  | _, _, 0, .nil => .nil
  | _, _, _ + 1, .nil => .nil
  | _, _, 0, .cons h .nil => .cons h .nil
  | _, _, 0, .cons h (.cons h' t) => .cons h' (.cons h t)
  | _, _, i + 1, .cons h t => .cons h (StAll.swap i t)
end
theorem keep_srcs (ns : List Int) : ∀ (l : Sgs) (i : Nat), (l.keep ns i).srcs.Sublist l.srcs
  | .nil, _ => List.Sublist.refl _
  | .cons x r, i => by
    show (if ((i : Nat) : Int) ∈ ns then r.keep ns (i + 1) else Sgs.cons x (r.keep ns (i + 1))).srcs.Sublist (x.srcs ++ r.srcs)
    by_cases c : ((i : Nat) : Int) ∈ ns
    · rw [if_pos c]
      exact (keep_srcs ns r (i + 1)).trans (List.sublist_append_right _ _)
    · rw [if_neg c]
      exact List.Sublist.append (List.Sublist.refl x.srcs) (keep_srcs ns r (i + 1))
theorem keep_sd (ns : List Int) : ∀ (l : Sgs) (i : Nat), l.sd → (l.keep ns i).sd
  | .nil, _, _ => trivial
  | .cons x r, i, h => by
    have h : x.sd ∧ r.sd := h
    show (if ((i : Nat) : Int) ∈ ns then r.keep ns (i + 1) else Sgs.cons x (r.keep ns (i + 1))).sd
    by_cases c : ((i : Nat) : Int) ∈ ns
    · rw [if_pos c]
      exact keep_sd ns r (i + 1) h.2
    · rw [if_neg c]
      exact ⟨h.1, keep_sd ns r (i + 1) h.2⟩
theorem keep_len (ns : List Int) : ∀ (l : Sgs) (i : Nat), (l.keep ns i).len ≤ l.len
  | .nil, _ => Nat.le_refl 0
  | .cons x r, i => by
    show (if ((i : Nat) : Int) ∈ ns then r.keep ns (i + 1) else Sgs.cons x (r.keep ns (i + 1))).len ≤ r.len + 1
    by_cases c : ((i : Nat) : Int) ∈ ns
    · rw [if_pos c]
      exact Nat.le_succ_of_le (keep_len ns r (i + 1))
    · rw [if_neg c]
      exact Nat.succ_le_succ (keep_len ns r (i + 1))
theorem swap_srcs : ∀ (l : Sgs) (i : Nat), (l.swap i).srcs.Perm l.srcs
  | .nil, 0 => List.Perm.refl _
  | .nil, _ + 1 => List.Perm.refl _
  | .cons x .nil, 0 => List.Perm.refl _
  | .cons x (.cons y r), 0 => by
    show (y.srcs ++ (x.srcs ++ r.srcs)).Perm (x.srcs ++ (y.srcs ++ r.srcs))
    rw [← List.append_assoc, ← List.append_assoc]
    exact List.Perm.append_right _ List.perm_append_comm
  | .cons x r, i + 1 => List.Perm.append_left x.srcs (swap_srcs r i)
theorem swap_sd : ∀ (l : Sgs) (i : Nat), l.sd → (l.swap i).sd
  | .nil, 0, _ => trivial
  | .nil, _ + 1, _ => trivial
  | .cons x .nil, 0, h => h
  | .cons x (.cons y r), 0, h => by
    have h : x.sd ∧ y.sd ∧ r.sd := h
    exact ⟨h.2.1, h.1, h.2.2⟩
  | .cons x r, i + 1, h => by
    have h : x.sd ∧ r.sd := h
    exact ⟨h.1, swap_sd r i h.2⟩
theorem swap_len : ∀ (l : Sgs) (i : Nat), (l.swap i).len = l.len
  | .nil, 0 => rfl
  | .nil, _ + 1 => rfl
  | .cons x .nil, 0 => rfl
  | .cons x (.cons y r), 0 => rfl
  | .cons x r, i + 1 => by
    show (r.swap i).len + 1 = r.len + 1
    rw [swap_len r i]
theorem snoc_sd {x : Sg} (hx : x.sd) : ∀ (l : Sgs), l.sd → (l.snoc x).sd
  | .nil, _ => ⟨hx, trivial⟩
  | .cons y r, h => by
    have h : y.sd ∧ r.sd := h
    exact ⟨h.1, snoc_sd hx r h.2⟩
def Sg.isFlat : Sg → Bool
  | .flat => true
  | _ => false
def Sgs.bad : Int → Nat → Sgs → Option Nat
  | _, _, .nil => none
  | d, i, .cons x r => if x.isFlat = true ∧ d = 0 then some i else Sgs.bad (x.dep d) (i + 1) r
mutual
theorem Sg.dep0 : ∀ (x : Sg) (d : Int) (tk : List Str), x.ok d tk → 0 ≤ d → 0 ≤ x.dep d
  | .nm k n, d, _, _, h => by
    show 0 ≤ if k = "map" then 0 else d
    split <;> omega
  | .num k n, d, _, _, h => by
    show 0 ≤ if k = "lots" then d + 1 else d
    split <;> omega
  | .flat, d, _, o, h => by
    have o : 0 < d := o
    show 0 ≤ d - 1
    omega
  | .zip p, d, _, o, h => by
    have o : p.ok ∧ _ := o
    have := Pg.dep0 p o.1
    show 0 ≤ (if p.dep < d then p.dep else d) + 1
    split <;> omega
theorem Pg.dep0 : ∀ p : Pg, p.ok → 0 ≤ p.dep
  | .mk s l, o => by
    have o : s ∈ K0 ∧ l.len ≤ 6 ∧ l.ok 0 [s] := o
    exact Sgs.dep0 l 0 [s] o.2.2 (Int.le_refl 0)
theorem Sgs.dep0 : ∀ (l : Sgs) (d : Int) (tk : List Str), l.ok d tk → 0 ≤ d → 0 ≤ l.dep d
  | .nil, _, _, _, h => h
  | .cons x r, d, tk, o, h => by
    have o : x.ok d tk ∧ r.ok (x.dep d) (tk ++ x.srcs) := o
    exact Sgs.dep0 r _ _ o.2 (Sg.dep0 x d tk o.1 h)
end
/-- what a program of these stages comes to -/
def badOut (d : Int) (tk : List Str) (i : Nat) (l : Sgs) : Out := match l.bad d i with
  | none => .inl (l.dep d, tk ++ l.srcs)
  | some j => .inr j
theorem rest_bad {K : Fg} {C : Addr} {H : Hp} : ∀ {xs : List V} {l : Sgs} {d : Int} {tk : List Str} (i : Nat), StAll K C H xs l → l.sd → (tk ++ l.srcs).Nodup → 0 ≤ d →
    Rest K C H d tk i xs (badOut d tk i l) ∧ (l.bad d i = none → l.ok d tk)
  | _, _, d, tk, i, .nil, _, _, _ => by
    refine ⟨?_, fun _ => trivial⟩
    show Rest K C H d tk i [] (.inl (d, tk ++ []))
    rw [List.append_nil]
    exact .nil
  | _, _, d, tk, i, .cons (x := x) (r := r) h t, sd, nd, h0 => by
    have sd : x.sd ∧ r.sd := sd
    have nd : (tk ++ (x.srcs ++ r.srcs)).Nodup := nd
    rw [← List.append_assoc] at nd
    have dis : ∀ s ∈ x.srcs, s ∉ tk := fun s hs ht => (List.nodup_append.mp (List.nodup_append.mp nd).1).2.2 s ht s hs rfl
    by_cases c : x.isFlat = true ∧ d = 0
    · have e : (Sgs.cons x r).bad d i = some i := if_pos c
      unfold badOut
      rw [e]
      have ex : x = .flat := by
        cases x with
        | flat => rfl
        | nm _ _ => exact absurd c.1 Bool.false_ne_true
        | num _ _ => exact absurd c.1 Bool.false_ne_true
        | zip _ => exact absurd c.1 Bool.false_ne_true
      subst ex
      exact ⟨.cant h trivial (Nat.zero_le _) (decide_eq_false (by omega)), fun z => by cases z⟩
    · have e : (Sgs.cons x r).bad d i = r.bad (x.dep d) (i + 1) := if_neg c
      have ok : x.ok d tk := sd.1.ok (fun z => by
        subst z
        have : d ≠ 0 := fun z => c ⟨rfl, z⟩
        omega) dis
      obtain ⟨a, b⟩ := rest_bad (i + 1) t sd.2 nd (Sg.dep0 x d tk ok h0)
      refine ⟨.go h ok.vd (Sg.few ok) ok.can ?_, fun z => ⟨ok, b (by rw [← e]; exact z)⟩⟩
      unfold badOut at a ⊢
      rw [e]
      have es : (tk ++ x.srcs) ++ r.srcs = tk ++ (Sgs.cons x r).srcs := List.append_assoc _ _ _
      rw [es] at a
      exact a
end K02
set_option Elab.async false
set_option linter.all false
set_option maxRecDepth 100000
set_option maxHeartbeats 4000000
namespace K02
open PySem L2 VK
abbrev sBad : Stmt := top 34
abbrev sPlace : Stmt := top 36
theorem scBad : FnScope ["plan", "height", "at", "stage"] ["plan"] (defScope sBad) := ⟨rfl, rfl, rfl, by decide +kernel, rfl, by decide +kernel, by decide +kernel⟩
theorem scPlace : FnScope ["thing", "many"] ["thing", "many"] (defScope sPlace) := ⟨rfl, rfl, rfl, by decide +kernel, rfl, by decide +kernel, by decide +kernel⟩
def badV : Option Nat → V
  | none => .non
  | some i => .int (i : Nat)
def spBad (K : Fg) : Sp := fun vs H Q _ => ∃ (a b : Addr) (s : Str) (xs : List V) (l : Sgs), vs = [.ref a] ∧ SqT K H a [.str s, .ref b] ∧ SqT K H b xs ∧ PsAll K H xs l ∧ l.sd ∧ ∀ H', Same H H' → Q (badV (l.bad 0 0)) H'
theorem flat_kd {x : Sg} (h : x.sd) : decide (V.str x.kd = V.str "flat") = x.isFlat := by
  rw [kd_eq]
  cases x with
  | nm k n => exact decide_eq_false ((by decide +kernel : ∀ z ∈ K1, ¬ (z = "flat")) k h.1)
  | num k n => exact decide_eq_false ((by decide +kernel : ∀ z ∈ K2, ¬ (z = "flat")) k h.1)
  | flat => exact decide_eq_true rfl
  | zip p => exact decide_eq_false (by decide +kernel : ¬ (("zip" : Str) = "flat"))
section
variable {P : Program} {w : World} {K : Fg} {mg : Str → Option Value} {base : Heap} {f fH : Addr} {fd dH : FuncData}
theorem ok_place (F : Fun K "_law_is_place" "_law_is_place" sPlace f fd) (N : Nm mg) : FnOk P w K mg base CX0 1 f fd ["thing", "many"] (spIsPos K) := by
  refine F.ok scPlace (fun vs H Q E h => ?_) (fun cdv B outer s H vs Q E hr h => ?_)
  · obtain ⟨v, m, c, rfl, _⟩ := h
    rfl
  · obtain ⟨v, m, c, rfl, hv, k⟩ := h
    refine ⟨_, pss_one (ps_ret (pe_and (pe_callB call_isi (by rfl) N.isi PyProof.Rows.boot_isinstance (pa_cons (pv 0) (pa_cons (pe_bltn (v := .ty "int") (by rfl) N.int PyProof.Rows.boot_int rfl) pa_nil)))
      (pe_and (pe_not (pe_callB call_isi (by rfl) N.isi PyProof.Rows.boot_isinstance (pa_cons (pv 0) (pa_cons (pe_bltn (v := .ty "bool") (by rfl) N.bool boot_bool' rfl) pa_nil))))
        (pe_one (pe_chain op_le op_lt pe_int (pv 0) (pv 1)))))), ?_⟩
    cases hv with
    | int i =>
      refine ⟨_, rfl, .int i, .ty "int", .type "int", .type "int", true, rfl, .ty _, .base (.int i), kit_ty (by decide +kernel), _, rfl, ?_⟩
      refine iteT (B := True) ⟨_, rfl, .int i, .ty "bool", .type "int", .type "bool", false, rfl, .ty _, .base (.int i), kit_ty (by decide +kernel), _, rfl, _, rfl, ?_⟩
      refine iteT (B := True) ⟨_, rfl, _, _, rfl, rfl, _, rfl, ?_⟩
      have k : Q (.bl (decide (0 ≤ i) && decide (i < m))) H := k
      refine dif (fun h0 => ?_) (fun h0 => ?_)
      · rw [decide_eq_true h0, Bool.true_and] at k
        exact ⟨_, rfl, _, _, rfl, rfl, k⟩
      · rw [decide_eq_false h0, Bool.false_and] at k
        exact k
    | @oth _ t b c' ty kb kc e =>
      refine ⟨_, rfl, v, .ty "int", .type t, .type "int", b, rfl, .ty _, ty, kit_ty kb, _, rfl, ?_⟩
      cases b with
      | false => exact iteF (A := True) k
      | true =>
        refine iteT (B := True) ⟨_, rfl, v, .ty "bool", .type t, .type "bool", c', rfl, .ty _, ty, kit_ty kc, _, rfl, _, rfl, ?_⟩
        cases c' with
        | false => cases e
        | true => exact iteF (A := True) k
theorem ok_bad (F : Fun K "_law_first_bad" "_law_first_bad" sBad f fd) (N : Nm mg) (gH : mg "_law_height" = some (.ref fH)) (FH : Fun K "_law_height" "_law_height" sHeight fH dH) (bH : Binds K dH ["height", "stage"] [])
    (G : FnOk P w K mg base CX0 11 fH dH ["height", "stage"] (spHeight K 5)) : FnOk P w K mg base CX0 12 f fd ["plan"] (spBad K) := by
  refine F.ok scBad (fun vs H Q E h => ?_) (fun cdv B outer s H vs Q E hr h => ?_)
  · obtain ⟨a, b, s, xs, l, rfl, _⟩ := h
    rfl
  · obtain ⟨a, b, s, xs, l, rfl, ha, hb, hl, sd, k⟩ := h
    refine ⟨_, pss_cons (ps_set (i := 1) scBad.nd rfl (Or.inl rfl) pe_int)
      (pss_cons (ps_for PassesOwn.never rfl (pi_enumA (by rfl) N.enm (pa_cons (pe_ix ix_tup (pv 0) pe_int (fun _ _ => rfl)) pa_nil)) (pg_tup rfl (pgs_cons (pg_name (i := 2) scBad.nd rfl (Or.inl rfl)) (pgs_cons (pg_name (i := 3) scBad.nd rfl (Or.inl rfl)) pgs_nil)))
        (pss_cons (ps_if (PW.pt (pw_and (pt_cmpR op_eq (pe_ix ix_tup (pv 3) pe_int (fun _ _ => rfl)) pe_str (nomark _)) (pw_and1 (pt_cmpR op_eq (pv 1) pe_int (nomark _))))) (pss_one (ps_ret (pv 2))) pss_nil)
        (pss_one (ps_set (i := 1) scBad.nd rfl (Or.inl rfl) (pe_call G hr rfl gH FH.kp bH .nil pass0 (pa_cons (pv 1) (pa_cons (pv 3) pa_nil)))))))
      (pss_one (ps_ret pe_non))), ?_⟩
    refine ⟨_, rfl, a, _, _, _, rfl, rfl, ha, rfl, b, xs, rfl, _, .inr ⟨hb, rfl⟩, ?_⟩
    refine for_it (walk_enumT (xs := xs)) (fun i σ H' => ∃ (d : Int) (v3 v4 : Option V) (r : Sgs), σ = [some (.ref a), some (.int d), v3, v4] ∧ Same H H' ∧ PsAll K H (xs.drop i) r ∧ r.sd ∧ r.bad d i = l.bad 0 0)
      ⟨0, none, none, l, rfl, Same.refl H, hl, sd, rfl⟩ (fun i σ H' _ z => ?_) ?_ ?_
    · obtain ⟨_, _, _, _, _, z, _⟩ := z
      exact (Kp.of z).tup hb
    · rintro i y σ H1 H2 hi ⟨d, v3, v4, r, rfl, s1, pr, sd, eb⟩ ⟨T, u, st, rfl, hT, rfl, eu, es⟩
      have eu' : V.int (i : Nat) = u := Option.some.inj eu
      subst eu'
      have es' : xs[i]? = some st := es
      refine ⟨T, _, rfl, .inl (.inl upd_same), rfl, _, _, rfl, _, _, rfl, rfl, ?_⟩
      have sT : Same H (upd H1 T (.tup [.int (i : Nat), st])) := s1.trans (same_new hT)
      generalize upd H1 T (.tup [.int (i : Nat), st]) = G1 at sT
      have hd : xs.drop i = st :: xs.drop (i + 1) := by
        rw [List.drop_eq_getElem_cons hi]
        rw [List.getElem?_eq_getElem hi] at es'
        rw [Option.some.inj es']
      rw [hd] at pr
      cases pr with
      | @cons _ _ x r h1 h2 =>
        have sd : x.sd ∧ r.sd := sd
        have h1' := PsV.kp (Kp.of sT) h1
        obtain ⟨b0, rr, rfl, hb0⟩ := h1'.at0
        refine ⟨_, rfl, b0, _, _, .str x.kd, rfl, rfl, hb0, at_of (j := 0) rfl rfl, rfl, _, rfl, ?_⟩
        have go : ¬ (x.isFlat = true ∧ d = 0) → ∀ H3, Same G1 H3 → ∃ (d' : Int) (v3' v4' : Option V) (r' : Sgs), [some (V.ref a), some (.int (x.dep d)), some (.int (i : Nat)), some (.ref b0)] = [some (.ref a), some (.int d'), v3', v4'] ∧ Same H H3 ∧ PsAll K H (xs.drop (i + 1)) r' ∧ r'.sd ∧ r'.bad d' (i + 1) = l.bad 0 0 := fun c H3 s3 =>
          ⟨x.dep d, _, _, r, rfl, sT.trans s3, h2, sd.2, by rw [← eb]; exact (if_neg c).symm⟩
        refine dif (fun ef => ?_) (fun ef => ?_)
        · have xf : x.isFlat = true := by rw [← flat_kd sd.1]; exact decide_eq_true ef
          refine ⟨_, rfl, rfl, _, rfl, ?_⟩
          refine dif (fun e0 => ?_) (fun e0 => ?_)
          · have e0 : d = 0 := V.int.inj e0
            have : l.bad 0 0 = some i := by rw [← eb]; exact if_pos ⟨xf, e0⟩
            rw [this] at k
            exact ⟨_, rfl, k _ sT⟩
          · refine ⟨_, rfl, _, rfl, _, x, d, rfl, h1', sd.1, Sg.nest5 sd.1, fun H3 s3 => go (fun z => e0 (congrArg V.int z.2)) H3 s3⟩
        · have xf : ¬ (x.isFlat = true ∧ d = 0) := fun z => by
            rw [← flat_kd sd.1, decide_eq_false ef] at z
            exact Bool.false_ne_true z.1
          exact ⟨_, rfl, _, rfl, _, x, d, rfl, h1', sd.1, Sg.nest5 sd.1, fun H3 s3 => go xf H3 s3⟩
    · rintro σ H1 ⟨d, v3, v4, r, rfl, s1, pr, sd, eb⟩
      rw [List.drop_length] at pr
      cases pr
      have : l.bad 0 0 = none := by rw [← eb]; rfl
      rw [this] at k
      exact k H1 s1
end
end K02
set_option Elab.async false
set_option linter.all false
set_option maxRecDepth 100000
set_option maxHeartbeats 4000000
namespace K02
open PySem L2 VK
abbrev sDue : Stmt := top 37
theorem scDue : FnScope ["plan", "word", "value", "stages", "many", "is_list", "found", "bad", "one", "at", "stage"] ["plan", "word", "value"] (defScope sDue) := ⟨rfl, rfl, rfl, by decide +kernel, rfl, by decide +kernel, by decide +kernel⟩
/-- what is due of a changed plan -/
def DueMade (K : Fg) (s : Str) (l : Sgs) (H : Hp) (Q : VK) : Prop := match l.bad 0 0 with
  | some i => Told K "stage" (.int (i : Nat)) H Q
  | none => ∀ (t g : Addr) (H' : Hp), Same H H' → SqT K H' t [.str "made", .ref g] → PlAt K H' (.ref g) (.mk s l) → Q (.ref t) H'
def spDue (K : Fg) : Sp := fun vs H Q _ => ∃ (a b : Addr) (s : Str) (xs : List V) (l : Sgs) (word : Str) (v : V), vs = [.ref a, .str word, v] ∧ SqT K H a [.str s, .ref b] ∧ SqT K H b xs ∧ PsAll K H xs l ∧ l.sd ∧ l.len ≤ 6 ∧
  ((word = "without" ∧ ((∃ t, TyX K H v t ∧ PySem.W.kitOne K t (.type "list") = some false ∧ Told K "positions" v H Q) ∨
      ∃ (c : Addr) (ys : List V) (cs : List (Option Int)), v = .ref c ∧ SqL K H c ys ∧ ys.length < 64 ∧ Paired (Itm K H) ys cs ∧
        ((arePos (xs.length : Nat) cs = false ∧ Told K "positions" v H Q) ∨ ∃ ns : List Int, ys = ns.map V.int ∧ arePos (xs.length : Nat) cs = true ∧ DueMade K s (l.keep ns 0) H Q))) ∨
   (word = "exchanged" ∧ ∃ c, Itm K H v c ∧ ((inB ((xs.length : Nat) - 1) c = false ∧ Told K "positions" v H Q) ∨ ∃ i : Nat, c = some (i : Int) ∧ i + 1 < xs.length ∧ DueMade K s (l.swap i) H Q)) ∨
   (word = "then" ∧ ∃ y, PsV K H v y ∧ y.sd ∧ ((xs.length = 6 ∧ Told K "stages" .non H Q) ∨ (xs.length < 6 ∧ DueMade K s (l.snoc y) H Q))))
theorem map_int_inj : ∀ {a b : List Int}, a.map V.int = b.map V.int → a = b
  | [], [], _ => rfl
  | [], _ :: _, h => by cases h
  | _ :: _, [], h => by cases h
  | x :: r, y :: q, h => by
    injection h with h1 h2
    rw [V.int.inj h1, map_int_inj h2]
/-- what stands behind the three ways -/
theorem due_tail {K : Fg} {v0 v1 v2 v3 v4 v5 v7 v8 v9 v10 : Option V} {g b : Addr} {s : Str} {xs : List V} {l : Sgs} {Hf : Hp} {D : Ends} (hg : SqT K Hf g [.str s, .ref b]) (hb : SqT K Hf b xs) (hl : PsAll K Hf xs l) (sd : l.sd) (k : DueMade K s l Hf D.rt) :
    tSeq (tAsg (tCall (spBad K) [] E0 (tCons (tVar 6) tNil)) (gName 7)) (tRet (tIf (tTest (tOp (fun x y H Q => y = .non ∧ Q (.bl (decide (x = .non))) H) (tVar 7) (tC .non))) (tTup (tCons (tC (.str "made")) (tCons (tVar 6) tNil)))
      (tTup (tCons (tC (.str "stage")) (tCons (tVar 7) tNil))))) D [v0, v1, v2, v3, v4, v5, some (.ref g), v7, v8, v9, v10] Hf := by
  refine ⟨_, rfl, g, b, s, xs, l, rfl, hg, hb, hl, sd, fun H1 s1 => ?_⟩
  unfold DueMade at k
  cases e : l.bad 0 0 with
  | none =>
    rw [e] at k
    refine ⟨_, rfl, rfl, _, rfl, iteT (B := True) ⟨_, rfl, by show 2 ≤ sizeLine; decide, fun t ht => ?_⟩⟩
    have z := s1.trans (same_new (o := .tup [.str "made", .ref g]) ht)
    exact k t g _ z (.inl (.inl upd_same)) (.mk ((Kp.of z).tup hg) ((Kp.of z).tup hb) (PsAll.kp (Kp.of z) hl))
  | some i =>
    rw [e] at k
    refine ⟨_, rfl, rfl, _, rfl, iteF (A := True) ⟨_, rfl, by show 2 ≤ sizeLine; decide, fun t ht => ?_⟩⟩
    exact k t _ (s1.trans (same_new ht)) (.inl (.inl upd_same))
theorem Told.up {K : Fg} {z : Str} {y : V} {H H1 : Hp} {Q : VK} (s : Same H H1) (k : Told K z y H Q) : Told K z y H1 Q := fun t H' s1 h => k t H' (s.trans s1) h
theorem DueMade.up {K : Fg} {s : Str} {l : Sgs} {H H1 : Hp} {Q : VK} (z : Same H H1) (k : DueMade K s l H Q) : DueMade K s l H1 Q := by
  unfold DueMade at k ⊢
  cases e : l.bad 0 0 with
  | none =>
    rw [e] at k
    exact fun t g H' s1 h1 h2 => k t g H' (z.trans s1) h1 h2
  | some i =>
    rw [e] at k
    exact Told.up z k
section
variable {P : Program} {w : World} {K : Fg} {mg : Str → Option Value} {base : Heap} {f fP fB fH : Addr} {fd dP dB dH : FuncData}
theorem ok_due (F : Fun K "_law_due" "_law_due" sDue f fd) (N : Nm mg) (gP : mg "_law_is_place" = some (.ref fP)) (FP : Fun K "_law_is_place" "_law_is_place" sPlace fP dP) (bP : Binds K dP ["thing", "many"] [])
    (gB : mg "_law_first_bad" = some (.ref fB)) (FB : Fun K "_law_first_bad" "_law_first_bad" sBad fB dB) (bB : Binds K dB ["plan"] []) (gH : mg "_law_height" = some (.ref fH)) (FH : Fun K "_law_height" "_law_height" sHeight fH dH) (bH : Binds K dH ["height", "stage"] [])
    (G : FnOk P w K mg base CX0 11 fH dH ["height", "stage"] (spHeight K 5)) : FnOk P w K mg base CX0 13 f fd ["plan", "word", "value"] (spDue K) := by
  have GP : FnOk P w K mg base CX0 1 fP dP ["thing", "many"] (spIsPos K) := ok_place FP N
  have GB : FnOk P w K mg base CX0 12 fB dB ["plan"] (spBad K) := ok_bad FB N gH FH bH G
  refine F.ok scDue (fun vs H Q E h => ?_) (fun cdv B outer s0 H vs Q E hr h => ?_)
  · obtain ⟨a, b, s, xs, l, word, v, rfl, _⟩ := h
    rfl
  · obtain ⟨a, b, s, xs, l, word, v, rfl, ha, hb, hl, sd, len6, k⟩ := h
    have hr1 := hr.mono (show 1 ≤ 12 by decide)
    refine ⟨_, pss_cons (ps_asg (pe_tup (pa_cons (pe_callTy call_list_of (by rfl) N.lst PyProof.Rows.boot_list (pa_cons (pe_ix ix_tup (pv 0) pe_int (fun _ _ => rfl)) pa_nil)) (pa_cons (pe_callB call_len_seq (by rfl) N.len PySem.boot_len (pa_cons (pe_ix ix_tup (pv 0) pe_int (fun _ _ => rfl)) pa_nil)) pa_nil))) (pg_tup rfl (pgs_cons (pg_name (i := 3) scDue.nd rfl (Or.inl rfl)) (pgs_cons (pg_name (i := 4) scDue.nd rfl (Or.inr rfl)) pgs_nil))))
      (pss_cons (ps_if (pt_cmpR op_eq (pv 1) pe_str (nomark _))
        (pss_cons (ps_set (i := 5) scDue.nd rfl (Or.inl rfl) (pe_and (pe_callB call_isi (by rfl) N.isi PyProof.Rows.boot_isinstance (pa_cons (pv 2) (pa_cons (pe_bltn (v := .ty "list") (by rfl) N.lst PyProof.Rows.boot_list rfl) pa_nil))) (pe_one (pe_cmpR (op_eqNil hr.units) (pe_lc (own := [("one", 8)]) (g := gName 8) (tt := tNot (tB (tCall (spIsPos K) [] E0 (tCons (tVar 8) (tCons (tVar 4) tNil))))) (te := tVar 8) rfl scDue.nd (pi_list (pv 2)) (blkOk_by (N := ["plan", "word", "value", "stages", "many", "is_list", "found", "bad", "one", "at", "stage"]) (sc := defScope sDue) (by decide +kernel))
            (fun _ _ _ _ _ => pg_name (i := 8) scDue.nd rfl (Or.inl rfl)) (fun _ _ _ _ _ => by exact pts_one (pt_not (pt_val (pe_call GP hr1 rfl gP FP.kp bP .nil pass0 (pa_cons (pv 8) (pa_cons (pv 4) pa_nil)))))) (fun _ _ _ _ _ => by exact pv 8)) (pe_lst pa_nil) (nomark _)))))
        (pss_cons (ps_if (PW.pt (pw_or (pt_not (pt_val (pv 5))) (pw_or1 (pt_cmpR op_ne (pe_lenSetA rfl (by rfl) N.len (by rfl) N.set (pv 2)) (pe_callB call_len_seq (by rfl) N.len PySem.boot_len (pa_cons (pv 2) pa_nil)) (nomark _))))) (pss_one (ps_ret (pe_tup (pa_cons pe_str (pa_cons (pv 2) pa_nil))))) pss_nil)
        (pss_one (ps_set (i := 6) scDue.nd rfl (Or.inl rfl) (pe_tup (pa_cons (pe_ix ix_tup (pv 0) pe_int (fun _ _ => rfl)) (pa_cons (pe_tupleOf (by rfl) N.tup (pe_lc (own := [("at", 9), ("stage", 10)]) (g := gTup K 2 (gCons (gName 9) (gCons (gName 10) gNil))) (tt := tTest (tOp (rIn K true) (tVar 9) (tVar 2))) (te := tVar 10) rfl scDue.nd (pi_enumA (by rfl) N.enm (pa_cons (pv 3) pa_nil)) (blkOk_by (N := ["plan", "word", "value", "stages", "many", "is_list", "found", "bad", "one", "at", "stage"]) (sc := defScope sDue) (by decide +kernel))
            (fun _ _ _ _ _ => by exact pg_tup rfl (pgs_cons (pg_name (i := 9) scDue.nd rfl (Or.inl rfl)) (pgs_cons (pg_name (i := 10) scDue.nd rfl (Or.inl rfl)) pgs_nil)))
            (fun _ _ _ _ _ => by exact pts_one (pt_cmpR op_notIn_seq (pv 9) (pv 2) rfl)) (fun _ _ _ _ _ => by exact pv 10))) pa_nil)))))))
        (pss_one (ps_if (pt_cmpR op_eq (pv 1) pe_str (nomark _))
          (pss_cons (ps_if (pt_not (pt_val (pe_call GP hr1 rfl gP FP.kp bP .nil pass0 (pa_cons (pv 2) (pa_cons (pe_op op_sub (pv 4) pe_int) pa_nil))))) (pss_one (ps_ret (pe_tup (pa_cons pe_str (pa_cons (pv 2) pa_nil))))) pss_nil)
          (pss_one (ps_set (i := 6) scDue.nd rfl (Or.inl rfl) (pe_tup (pa_cons (pe_ix ix_tup (pv 0) pe_int (fun _ _ => rfl)) (pa_cons (pe_tupleOf (by rfl) N.tup (pe_op op_cat (pe_op op_cat (pe_slice sl_list (pv 3) po_none (po_some (pv 2))) (pe_lst (pa_cons (pe_ix ix_list (pv 3) (pe_op op_add (pv 2) pe_int) (fun _ _ => rfl)) (pa_cons (pe_ix ix_list (pv 3) (pv 2) (fun _ _ => rfl)) pa_nil)))) (pe_slice sl_list (pv 3) (po_some (pe_op op_add (pv 2) pe_int)) po_none))) pa_nil))))))
          (pss_cons (ps_set (i := 6) scDue.nd rfl (Or.inl rfl) (pe_tup (pa_cons (pe_ix ix_tup (pv 0) pe_int (fun _ _ => rfl)) (pa_cons (pe_tupleOf (by rfl) N.tup (pe_op op_cat (pv 3) (pe_lst (pa_cons (pv 2) pa_nil)))) pa_nil))))
          (pss_one (ps_if (pt_cmpR op_gt (pe_callB call_len_seq (by rfl) N.len PySem.boot_len (pa_cons (pe_ix ix_tup (pv 6) pe_int (fun _ _ => rfl)) pa_nil)) pe_int (nomark _)) (pss_one (ps_ret (pe_tup (pa_cons pe_str (pa_cons pe_non pa_nil))))) pss_nil))))))
      (pss_cons (ps_set (i := 7) scDue.nd rfl (Or.inl rfl) (pe_call GB hr rfl gB FB.kp bB .nil pass0 (pa_cons (pv 6) pa_nil)))
      (pss_one (ps_ret (pe_ifExp (pt_cmpR op_isN (pv 7) pe_non rfl) (pe_tup (pa_cons pe_str (pa_cons (pv 6) pa_nil))) (pe_tup (pa_cons pe_str (pa_cons (pv 7) pa_nil)))))))), ?_⟩
    refine ⟨_, rfl, a, _, _, _, rfl, rfl, ha, rfl, b, xs, rfl, .inr hb, fun c hc => ?_⟩
    have s1 : Same H (upd H c (.lst xs)) := same_new hc
    have e1 : upd H c (.lst xs) c = some (.lst xs) := upd_same
    generalize upd H c (.lst xs) = H1 at s1 e1
    refine ⟨_, rfl, a, _, _, _, rfl, rfl, (Kp.of s1).tup ha, rfl, b, xs, rfl, .inr ((Kp.of s1).tup hb), by show 2 ≤ sizeLine; decide, fun q hq => ?_⟩
    have s2 : Same H1 (upd H1 q (.tup [.ref c, .int (xs.length : Nat)])) := same_new hq
    have e2 : upd H1 q (.tup [.ref c, .int (xs.length : Nat)]) q = some (.tup [.ref c, .int (xs.length : Nat)]) := upd_same
    generalize upd H1 q (.tup [.ref c, .int (xs.length : Nat)]) = H2 at s2 e2
    refine ⟨q, _, rfl, .inl (.inl e2), rfl, _, _, rfl, _, _, rfl, rfl, ?_⟩
    have z2 := s1.trans s2
    have ec := s2 _ _ e1
    have posd : ∀ {H3 : Hp}, Same H H3 → Told K "positions" v H Q → [V.str "positions", v].length ≤ sizeLine ∧ ∀ p, H3 p = none → Q (.ref p) (upd H3 p (.tup [.str "positions", v])) := fun z kk =>
      ⟨by show 2 ≤ sizeLine; decide, fun p hp => kk p _ (z.trans (same_new hp)) (.inl (.inl upd_same))⟩
    refine ⟨_, rfl, rfl, _, rfl, ?_⟩
    have xl : xs.length ≤ 6 := by rw [PsAll.len hl]; exact len6
    rcases k with ⟨rfl, k⟩ | ⟨rfl, k⟩ | ⟨rfl, k⟩
    · refine iteT (B := True) ?_
      rcases k with ⟨t, ty, kt, k⟩ | ⟨c', ys, cs, rfl, hy, yl, ps, k⟩
      · refine ⟨_, rfl, v, .ty "list", t, .type "list", false, rfl, .ty _, TyX.same ty z2, kt, _, rfl, iteF (A := True) ?_⟩
        exact ⟨_, rfl, _, rfl, iteT (B := True) ⟨_, rfl, posd z2 k⟩⟩
      refine ⟨_, rfl, .ref c', .ty "list", .type "list", .type "list", true, rfl, .ty _, tyL (z2.seq hy), kit_ty (by decide +kernel), _, rfl, iteT (B := True) ?_⟩
      refine ⟨_, rfl, c', rfl, ⟨_, z2.seq hy⟩, fun Da hD => ?_⟩
      have len := ps.length
      refine lc_it (walk_list (xs := ys)) (fun i H' => Same H2 H' ∧ ∃ zs, H' Da = some (.lst zs) ∧ zs.length ≤ i ∧ zs.isEmpty = (cs.take i).all (inB (xs.length : Nat))) ⟨same_new hD, [], upd_same, Nat.zero_le _, rfl⟩ (fun i H' _ z => z.1.seq (z2.seq hy)) ?_ ?_
      · rintro i y H3 H4 hi ⟨q1, zs, q2, q3, q4⟩ ⟨rfl, hyi⟩
        obtain ⟨o, ho, it⟩ := pair_get ps hyi
        have tk : cs.take (i + 1) = cs.take i ++ [o] := by rw [List.take_add_one, ho]; rfl
        refine ⟨rfl, _, rfl, _, rfl, y, _, o, rfl, it.same (z2.trans q1), _, rfl, ?_⟩
        cases eo : inB (xs.length : Nat) o with
        | true =>
          refine iteF (A := True) ⟨q1, zs, q2, Nat.le_succ_of_le q3, ?_⟩
          rw [tk, List.all_append, ← q4, List.all_cons, eo]
          simp
        | false =>
          refine iteT (B := True) ⟨_, rfl, zs, q2, small1000 (by omega), ?_, zs ++ [y], upd_same, ?_, ?_⟩
          · intro b0 o0 e0
            rw [upd_ne (ne_of_none e0 hD)]
            exact q1 _ _ e0
          · rw [List.length_append]
            show zs.length + 1 ≤ i + 1
            omega
          · rw [tk, List.all_append, List.all_cons, eo]
            simp
      · rintro H3 ⟨q1, zs, q2, q3, q4⟩
        rw [len, List.take_length] at q4
        have z3 := z2.trans q1
        refine ⟨by show 0 ≤ sizeLine; decide, fun e he => ⟨Da, e, zs, rfl, rfl, SqL.of (same_new he _ _ q2), SqL.of upd_same, ?_⟩⟩
        have z4 : Same H (upd H3 e (.lst [])) := z3.trans (same_new he)
        have s34 : Same H3 (upd H3 e (.lst [])) := same_new he
        generalize upd H3 e (.lst []) = H4 at z4 s34
        rw [q4]
        refine ⟨_, rfl, _, rfl, ?_⟩
        cases al : cs.all (inB (xs.length : Nat)) with
        | false =>
          refine iteT (B := True) ⟨_, rfl, ?_⟩
          rcases k with ⟨_, k⟩ | ⟨ns, e5, e6, k⟩
          · exact posd z4 k
          · unfold arePos at e6
            rw [al] at e6
            cases e6
        | true =>
          obtain ⟨ns, rfl, rfl⟩ := itms_int ps al
          refine iteF (A := True) ?_
          refine ⟨_, rfl, c', ns, rfl, z4.seq hy, by rw [List.length_map] at yl; exact yl, fun n hn => ?_⟩
          refine ⟨_, rfl, c', _, rfl, .inl (z4.seq hy), rfl, _, rfl, ?_⟩
          have en : (!decide (V.int (n : Nat) = V.int ((ns.map V.int).length : Nat))) = !decide (ns.map some).Nodup := by
            rw [List.length_map]
            by_cases nd : ns.Nodup
            · rw [decide_eq_true ((nodup_some ns).mpr nd), decide_eq_true (by rw [hn.mpr nd])]
            · rw [decide_eq_false (fun z => nd ((nodup_some ns).mp z)), decide_eq_false]
              intro z
              injection z with z
              exact nd (hn.mp (by omega))
          rw [en]
          have ap : arePos (xs.length : Nat) (ns.map some) = decide (ns.map some).Nodup := by
            unfold arePos
            rw [al, Bool.true_and]
          by_cases nd : (ns.map some).Nodup
          · rw [decide_eq_true nd] at ap ⊢
            rcases k with ⟨e6, _⟩ | ⟨ns', e5, _, k⟩
            · rw [ap] at e6
              cases e6
            have ens : ns' = ns := map_int_inj e5.symm
            subst ens
            refine iteF (A := True) ?_
            have ec4 := s34 _ _ (q1 _ _ ec)
            refine ⟨_, rfl, a, _, _, _, rfl, rfl, (Kp.of z4).tup ha, rfl, _, rfl, c, xs, rfl, _, .inl ⟨SqL.of ec4, rfl⟩, fun Db hDb => ?_⟩
            refine lc_it (walk_enum (xs := xs)) (fun i H' => Same H4 H' ∧ H' Db = some (.lst (keepG ns' 0 (xs.take i)))) ⟨same_new hDb, upd_same⟩ (fun i H' _ z => z.1.seq (SqL.of ec4)) ?_ ?_
            · rintro i z H5 H6 hi ⟨r1, r2⟩ ⟨T, u, y, rfl, hT, rfl, eu, ey⟩
              have eu' : V.int (i : Nat) = u := Option.some.inj eu
              subst eu'
              have ey' : xs[i]? = some y := ey
              refine ⟨T, _, rfl, .inl (.inl upd_same), rfl, _, _, rfl, _, _, rfl, rfl, rfl, ?_⟩
              have sT : Same H5 (upd H5 T (.tup [.int (i : Nat), y])) := same_new hT
              generalize upd H5 T (.tup [.int (i : Nat), y]) = G2 at sT
              refine ⟨_, rfl, _, rfl, c', _, rfl, .inl ((z4.trans (r1.trans sT)).seq hy), rfl, flat_int ns', _, rfl, ?_⟩
              have tk : keepG ns' 0 (xs.take (i + 1)) = keepG ns' 0 (xs.take i) ++ (if ((i : Nat) : Int) ∈ ns' then [] else [y]) := by
                rw [List.take_add_one, ey']
                show keepG ns' 0 (xs.take i ++ [y]) = _
                rw [keepG_snoc, List.length_take, Nat.zero_add, Nat.min_eq_left (Nat.le_of_lt hi)]
              have ent := sT _ _ r2
              by_cases cc : ((i : Nat) : Int) ∈ ns'
              · rw [show (if true = true then !inV (V.int (i : Nat)) (ns'.map V.int) else inV (V.int (i : Nat)) (ns'.map V.int)) = false from by
                  rw [if_pos rfl, in_int, decide_eq_true cc]; rfl]
                refine iteF (A := True) ⟨r1.trans sT, ?_⟩
                rw [tk, if_pos cc, List.append_nil]
                exact ent
              · rw [show (if true = true then !inV (V.int (i : Nat)) (ns'.map V.int) else inV (V.int (i : Nat)) (ns'.map V.int)) = true from by
                  rw [if_pos rfl, in_int, decide_eq_false cc]; rfl]
                refine iteT (B := True) ⟨_, rfl, _, ent, ?_, ?_, ?_⟩
                · refine small1000 (Nat.le_trans (keepG_len _ _ _) ?_)
                  rw [List.length_take]
                  omega
                · intro r t er
                  rw [upd_ne (ne_of_none er hDb)]
                  exact sT _ _ (r1 _ _ er)
                · rw [upd_same, tk, if_neg cc]
            · rintro H5 ⟨r1, r2⟩
              rw [List.take_of_length_le (Nat.le_refl _)] at r2
              refine tup_either (.inl (SqL.of r2)) fun t H6 s6 ht => ⟨by show 2 ≤ sizeLine; decide, fun g hg => ?_⟩
              have zg := (z4.trans (r1.trans s6)).trans (same_new (o := .tup [.str s, .ref t]) hg)
              exact due_tail (.inl (.inl upd_same)) ((Kp.of (same_new hg)).tup ht) (PsAll.kp (Kp.of zg) (PsAll.keep ns' 0 hl)) (keep_sd ns' l 0 sd) (DueMade.up zg k)
          · rw [decide_eq_false nd] at ap ⊢
            rcases k with ⟨_, k⟩ | ⟨ns', _, e6, _⟩
            · exact iteT (B := True) ⟨_, rfl, posd z4 k⟩
            · rw [ap] at e6
              cases e6
    · refine iteF (A := True) ⟨_, rfl, rfl, _, rfl, iteT (B := True) ?_⟩
      obtain ⟨cc, hv, k⟩ := k
      refine ⟨_, rfl, _, rfl, _, _, rfl, rfl, v, _, cc, rfl, hv.same z2, _, rfl, ?_⟩
      rcases k with ⟨e, k⟩ | ⟨i, ecc, hi, k⟩
      · rw [e]
        exact iteT (B := True) ⟨_, rfl, posd z2 k⟩
      subst ecc
      cases hv
      rw [show inB ((xs.length : Nat) - 1) (some (i : Int)) = true from by
        show (decide (0 ≤ (i : Int)) && decide ((i : Int) < (xs.length : Nat) - 1)) = true
        rw [decide_eq_true (by omega), decide_eq_true (by omega)]
        rfl]
      refine iteF (A := True) ?_
      obtain ⟨x, hx⟩ : ∃ x, xs[i]? = some x := ⟨_, List.getElem?_eq_getElem (by omega)⟩
      obtain ⟨y, hy⟩ : ∃ y, xs[i + 1]? = some y := ⟨_, List.getElem?_eq_getElem hi⟩
      have cut1 : cutV xs none (some (i : Int)) = xs.take i := by
        unfold cutV
        rw [HT.sIx_none, HT.sIx_nat]
        show (xs.drop 0).take (min i xs.length - 0) = _
        rw [Nat.min_eq_left (by omega), List.drop_zero, Nat.sub_zero]
      have cut2 : cutV xs (some ((i : Int) + 2)) none = xs.drop (i + 2) := by
        unfold cutV
        rw [show (i : Int) + 2 = ((i + 2 : Nat) : Int) from by omega, HT.sIx_nat, HT.sIx_none]
        rw [Nat.min_eq_left (by omega)]
        exact List.take_of_length_le (by rw [List.length_drop]; exact Nat.le_refl _)
      refine ⟨_, rfl, a, _, _, _, rfl, rfl, (Kp.of z2).tup ha, rfl, _, rfl, _, rfl, _, rfl, c, xs, rfl, SqL.of ec, fun p1 hp1 => ?_⟩
      rw [cut1]
      have t1 : Same H2 (upd H2 p1 (.lst (xs.take i))) := same_new hp1
      have f1 : upd H2 p1 (.lst (xs.take i)) p1 = some (.lst (xs.take i)) := upd_same
      generalize upd H2 p1 (.lst (xs.take i)) = H3 at t1 f1
      have ec3 := t1 _ _ ec
      refine ⟨_, rfl, _, rfl, _, _, rfl, rfl, c, xs, _, y, rfl, rfl, SqL.of ec3, at_of (j := i + 1) (by omega) hy, _, rfl, _, rfl, c, xs, _, x, rfl, rfl, SqL.of ec3, at_of (j := i) rfl hx, by show 2 ≤ sizeLine; decide, fun p2 hp2 => ?_⟩
      have t2 : Same H3 (upd H3 p2 (.lst [y, x])) := same_new hp2
      have f2 : upd H3 p2 (.lst [y, x]) p2 = some (.lst [y, x]) := upd_same
      generalize upd H3 p2 (.lst [y, x]) = H4 at t2 f2
      refine ⟨p1, p2, _, _, rfl, rfl, t2 _ _ f1, f2, ?_, fun p3 hp3 => ?_⟩
      · rw [List.length_take, sizeLine_eq]
        show _ + 2 ≤ _
        omega
      have t3 : Same H4 (upd H4 p3 (.lst (xs.take i ++ [y, x]))) := same_new hp3
      have f3 : upd H4 p3 (.lst (xs.take i ++ [y, x])) p3 = some (.lst (xs.take i ++ [y, x])) := upd_same
      generalize upd H4 p3 (.lst (xs.take i ++ [y, x])) = H5 at t3 f3
      refine ⟨_, rfl, _, rfl, _, _, rfl, rfl, _, rfl, c, xs, rfl, SqL.of (t3 _ _ (t2 _ _ ec3)), fun p4 hp4 => ?_⟩
      rw [cut2]
      have t4 : Same H5 (upd H5 p4 (.lst (xs.drop (i + 2)))) := same_new hp4
      have f4 : upd H5 p4 (.lst (xs.drop (i + 2))) p4 = some (.lst (xs.drop (i + 2))) := upd_same
      generalize upd H5 p4 (.lst (xs.drop (i + 2))) = H6 at t4 f4
      refine ⟨p3, p4, _, _, rfl, rfl, t4 _ _ f3, f4, ?_, fun p5 hp5 => ?_⟩
      · rw [List.length_append, List.length_take, List.length_drop, sizeLine_eq]
        show _ + 2 + _ ≤ _
        omega
      rw [← swapL_cut hx hy]
      have t5 : Same H6 (upd H6 p5 (.lst (swapL i xs))) := same_new hp5
      have f5 : upd H6 p5 (.lst (swapL i xs)) p5 = some (.lst (swapL i xs)) := upd_same
      generalize upd H6 p5 (.lst (swapL i xs)) = H7 at t5 f5
      refine tup_either (.inl (SqL.of f5)) fun t H8 s8 ht => ⟨by show 2 ≤ sizeLine; decide, fun g hg => ?_⟩
      have zg := (z2.trans (t1.trans (t2.trans (t3.trans (t4.trans (t5.trans s8)))))).trans (same_new (o := .tup [.str s, .ref t]) hg)
      exact due_tail (.inl (.inl upd_same)) ((Kp.of (same_new hg)).tup ht) (PsAll.kp (Kp.of zg) (PsAll.swap i hl)) (swap_sd l i sd) (DueMade.up zg k)
    · refine iteF (A := True) ⟨_, rfl, rfl, _, rfl, iteF (A := True) ?_⟩
      obtain ⟨y, hy, ysd, k⟩ := k
      refine ⟨_, rfl, a, _, _, _, rfl, rfl, (Kp.of z2).tup ha, rfl, _, rfl, _, rfl, by show 1 ≤ sizeLine; decide, fun p hp => ?_⟩
      have t1 : Same H2 (upd H2 p (.lst [v])) := same_new hp
      have f1 : upd H2 p (.lst [v]) p = some (.lst [v]) := upd_same
      generalize upd H2 p (.lst [v]) = H3 at t1 f1
      refine ⟨c, p, xs, [v], rfl, rfl, t1 _ _ ec, f1, ?_, fun p2 hp2 => ?_⟩
      · rw [sizeLine_eq]
        show xs.length + 1 ≤ _
        omega
      have t2 : Same H3 (upd H3 p2 (.lst (xs ++ [v]))) := same_new hp2
      have f2 : upd H3 p2 (.lst (xs ++ [v])) p2 = some (.lst (xs ++ [v])) := upd_same
      generalize upd H3 p2 (.lst (xs ++ [v])) = H4 at t2 f2
      refine tup_either (.inl (SqL.of f2)) fun t H5 s5 ht => ⟨by show 2 ≤ sizeLine; decide, fun g hg => ?_⟩
      have s6 : Same H5 (upd H5 g (.tup [.str s, .ref t])) := same_new hg
      have f6 : upd H5 g (.tup [.str s, .ref t]) g = some (.tup [.str s, .ref t]) := upd_same
      generalize upd H5 g (.tup [.str s, .ref t]) = H6 at s6 f6
      have zg : Same H H6 := (z2.trans (t1.trans (t2.trans s5))).trans s6
      have ht6 := (Kp.of s6).tup ht
      have len : (xs ++ [v]).length = xs.length + 1 := by rw [List.length_append]; rfl
      refine ⟨_, rfl, g, _, _, _, rfl, rfl, .inl (.inl f6), rfl, t, _, rfl, .inr ht6, _, _, rfl, rfl, _, rfl, ?_⟩
      refine dif (fun big => ?_) (fun big => ?_)
      · rcases k with ⟨_, k⟩ | ⟨h6, _⟩
        · exact ⟨by show 2 ≤ sizeLine; decide, fun u hu => k u _ (zg.trans (same_new hu)) (.inl (.inl upd_same))⟩
        · rw [len] at big
          omega
      · rcases k with ⟨h6, _⟩ | ⟨_, k⟩
        · rw [len] at big
          omega
        · exact due_tail (.inl (.inl f6)) ht6 (PsAll.kp (Kp.of zg) (PsAll.snoc hy hl)) (snoc_sd ysd l sd) (DueMade.up zg k)
end
end K02
set_option Elab.async false
set_option linter.all false
set_option maxRecDepth 100000
set_option maxHeartbeats 4000000
namespace K02
open PySem L2 VK
abbrev sCmp : Stmt := top 40
theorem scCmp : FnScope ["source", "plan", "program", "same", "other", "near", "one", "thing"] ["source", "plan", "program"] (defScope sCmp) := ⟨rfl, rfl, rfl, by decide +kernel, rfl, by decide +kernel, by decide +kernel⟩
theorem ok_nobad : ∀ (l : Sgs) (d : Int) (tk : List Str) (i : Nat), l.ok d tk → 0 ≤ d → l.bad d i = none
  | .nil, _, _, _, _, _ => rfl
  | .cons x r, d, tk, i, o, h => by
    have o : x.ok d tk ∧ r.ok (x.dep d) (tk ++ x.srcs) := o
    have ne : ¬ (x.isFlat = true ∧ d = 0) := fun z => by
      cases x with
      | flat =>
        have o1 : 0 < d := o.1
        omega
      | nm _ _ => exact Bool.false_ne_true z.1
      | num _ _ => exact Bool.false_ne_true z.1
      | zip _ => exact Bool.false_ne_true z.1
    show (if x.isFlat = true ∧ d = 0 then some i else Sgs.bad (x.dep d) (i + 1) r) = none
    rw [if_neg ne]
    exact ok_nobad r _ _ _ o.2 (Sg.dep0 x d tk o.1 h)
/-- built-in types beside the class -/
structure Lk (K : Fg) (C : Addr) : Prop where
  kt : ∀ T ∈ (["NoneType", "tuple", "str", "int"] : List String), PySem.W.kitOne K (.type T) (.ref C) = some false ∧ PySem.W.notFirst K C (.type T) = true
def spCmp (K : Fg) (C : Addr) : Sp := fun vs H Q _ => ∃ (p pa a : Addr) (g : Pg), vs = [.ref p, .ref pa, .ref a] ∧ Strm H p ∧ PlAt K H (.ref pa) g ∧ PgAt K C H (.ref a) g ∧ g.ok ∧ g.srcs.length ≤ 3 ∧
  ∀ H', Strm H' p → Bx p H H' → Q (.bl true) H'
theorem mk_goodR {K : Fg} {C CB CL : Addr} {s : Str} {l : Sgs} {st : Addr} {xs : List V} {H1 : Hp} {R : Addr → Hp → Prop} {E : XK} (ok : (Pg.mk s l).ok) (hst : SqL K H1 st xs ∨ SqT K H1 st xs) (hx : StAll K C H1 xs l)
    (k : ∀ (p : Addr) (H2 : Hp), Same H1 H2 → H1 p = none → PgAt K C H2 (.ref p) (.mk s l) → R p H2) (x dx : Addr) (h1 : H1 x = none) (h2 : H1 dx = none) (hne : dx ≠ x) :
    spInit K C CB CL [.ref x, .str s, .ref st] (upd (upd H1 dx (.own x)) x (.ins C dx [])) (fun v H2 => v = .non ∧ R x H2) E := by
  have ok : s ∈ K0 ∧ l.len ≤ 6 ∧ l.ok 0 [s] := ok
  have sm := same_mk (C := C) h1 h2
  refine ⟨x, dx, s, st, xs, rfl, upd_same, ok.1, sq_same sm hst, .inl ⟨by rw [StAll.len hx]; exact ok.2.1, _, (rest_good 0 hx ok.2.2).same sm, ?_⟩⟩
  refine fun H' ts ss b e t1 t2 => ⟨rfl, k x H' (fun c u z => ?_) h1 (.mk e t1 (StAll.kp (fun c u z fx => ?_) hx) t2)⟩
  · exact b c u (ne_of_none z h1) (sm _ _ z)
  · exact b c u (ne_of_none z h1) (sm _ _ z)
theorem perm_map {α β : Type} {f : α → β} {ys zs : List β} (h : ys.Perm zs) : ∀ l : List α, zs = l.map f → ∃ l' : List α, l'.Perm l ∧ ys = l'.map f := by
  induction h with
  | nil =>
    intro l e
    cases l with
    | nil => exact ⟨[], .refl _, rfl⟩
    | cons _ _ => cases e
  | cons x _ ih =>
    intro l e
    cases l with
    | nil => cases e
    | cons a r =>
      injection e with e1 e2
      obtain ⟨l', p, e3⟩ := ih r e2
      exact ⟨a :: l', .cons a p, by rw [List.map_cons, e1, e3]⟩
  | swap x y l0 =>
    intro l e
    match l, e with
    | a :: b :: r, e =>
      injection e with e1 e2
      injection e2 with e2 e3
      exact ⟨b :: a :: r, .swap _ _ _, by rw [List.map_cons, List.map_cons, e1, e2, e3]⟩
  | trans _ _ ih1 ih2 =>
    intro l e
    obtain ⟨l1, p1, e1⟩ := ih2 l e
    obtain ⟨l2, p2, e2⟩ := ih1 l1 e1
    exact ⟨l2, p2.trans p1, e2⟩
/-- a plan that is drawn of three of the four sources -/
theorem drawn_plan {K : Fg} {p : Addr} {i : Nat} {σ : L2.St} {H0 : Hp} {Q : VK} (hi : σ[i]? = some (some (.ref p))) (hp : Strm H0 p)
    (k : ∀ (v : V) (g : Pg) (H' : Hp), PlAt K H' v g → g.ok → g.srcs.length ≤ 3 → Strm H' p → Bx p H0 H' → Q v H') :
    tCall (spPlan K 4) [] E0 (tCons (tVar i) (tCons (tSl (rSlL K) (tCall (spMixed K) [] E0 (tCons (tVar i) (tCons (tLst (tCons (tC (.str "a")) (tCons (tC (.str "b")) (tCons (tC (.str "c")) (tCons (tC (.str "d")) tNil))))) tNil))) tNoPart (tPart (tC (.int 3))))
      (tCons (tC (.int 6)) tNil))) σ H0 Q := by
  refine ⟨_, hi, _, hi, by show 4 ≤ sizeLine; decide, fun m hm => ?_⟩
  have pk : Plns (K0.map V.str) := pl_plns fun s h => h
  refine ⟨p, m, K0.map V.str, rfl, hp.same (same_new hm), SqL.of upd_same, strm_ne hp hm, by decide, pk, fun r ys H2 pm nr er hs2 bx2 => ?_⟩
  obtain ⟨zs, pz, rfl⟩ := perm_map pm K0 rfl
  have bx2' : Bx p H0 H2 := (Bx.of (same_new hm)).trans bx2
  refine ⟨3, rfl, r, _, rfl, SqL.of er, fun q hq => ?_⟩
  have cut : cutV (zs.map V.str) none (some 3) = (zs.take 3).map V.str := by
    unfold cutV
    rw [HT.sIx_none, show (3 : Int) = ((3 : Nat) : Int) from rfl, HT.sIx_nat, List.length_map, pz.length_eq]
    show ((zs.map V.str).drop 0).take 3 = _
    rw [List.drop_zero, List.map_take]
  rw [cut]
  have eq : upd H2 q (.lst ((zs.take 3).map V.str)) q = some (.lst ((zs.take 3).map V.str)) := upd_same
  have sq : Same H2 (upd H2 q (.lst ((zs.take 3).map V.str))) := same_new hq
  have nqp := strm_ne hs2 hq
  generalize upd H2 q (.lst ((zs.take 3).map V.str)) = H3 at eq sq
  have nd : (zs.take 3).Nodup := (List.take_sublist 3 zs).nodup (pz.nodup_iff.mpr (by decide +kernel))
  have sub : ∀ s ∈ zs.take 3, s ∈ K0 := fun s h => pz.mem_iff.mp (List.mem_of_mem_take h)
  have len : (zs.take 3).length = 3 := by rw [List.length_take, pz.length_eq]; rfl
  refine ⟨p, q, 6, zs.take 3, rfl, by decide, by decide, hs2.same sq, nqp, ⟨eq, nd, sub⟩, (fun z => by rw [z] at len; cases len), by omega, fun v g pl' H4 hv ok hsr hq4 hs4 bx4 => ?_⟩
  refine k v g H4 hv ok ?_ hs4 (fun b o n e => ?_)
  · have := congrArg List.length hsr
    rw [List.length_append, len] at this
    omega
  · have e2 := bx2' _ _ n e
    exact bx4 _ _ n (ne_of_none e2 hq) (sq _ _ e2)
theorem PgAt.ins {K : Fg} {C : Addr} {H : Hp} {a : Addr} {p : Pg} (h : PgAt K C H (.ref a) p) : ∃ (dx : Addr) (fs : List (Str × V)), H a = some (.ins C dx fs) := by
  cases h with
  | mk h _ _ _ => exact ⟨_, _, h⟩
theorem two_of {K : Fg} {C : Addr} {H : Hp} {a c : Addr} {p q : Pg} {b : Bool} (hp : PgAt K C H (.ref a) p) (hq : PgAt K C H (.ref c) q) (op : p.ok) (oq : q.ok) (hb : b = true ↔ p = q) : DTwoB C (Two K C 4) (.ref a) (.ref c) b H := by
  obtain ⟨dx, fs, e1⟩ := hp.ins
  obtain ⟨dy, gs, e2⟩ := hq.ins
  exact ⟨a, c, dx, dy, fs, gs, rfl, rfl, e1, e2, p, q, hp, hq, op, oq, Pg.nest4 op, hb⟩
theorem ifF {A B : Prop} {b : Bool} (e : b = false) (h : B) : if b = true then A else B := by
  rw [e]
  exact iteF h
theorem two_rq {K : Fg} {C : Addr} {m : Nat} {x y : V} {b : Bool} {H : Hp} (h : DTwoB C (Two K C m) x y b H) : DTwoB C (Rq K C m) x y b H := by
  obtain ⟨a, c, dx, dy, fs, gs, h1, h2, h3, h4, r⟩ := h
  exact ⟨a, c, dx, dy, fs, gs, h1, h2, h3, h4, .inl r⟩
theorem oth_of {K : Fg} {C : Addr} {H : Hp} {a : Addr} {p : Pg} {y : V} {T : String} (W : Lk K C) (hp : PgAt K C H (.ref a) p) (ty : TyX K H y (.type T)) (hT : T ∈ (["NoneType", "tuple", "str", "int"] : List String)) : DOwnB K C (Rq K C 4) (.ref a) y false H := by
  obtain ⟨dx, fs, e1⟩ := hp.ins
  obtain ⟨k1, k2⟩ := W.kt T hT
  exact ⟨a, dx, fs, .type T, rfl, e1, ty, k2, .inr ⟨_, ty, k1, rfl⟩⟩
theorem abcd_at : ∀ (i c : Nat), ("abcd" : Str).cps[i]? = some c → K0[i]? = some ⟨#[c]⟩
  | 0, c, h => by cases h; rfl
  | 1, c, h => by cases h; rfl
  | 2, c, h => by cases h; rfl
  | 3, c, h => by cases h; rfl
  | _ + 4, c, h => by cases h
section
variable {P : Program} {w : World} {K : Fg} {mg : Str → Option Value} {base : Heap} {A I : Nat → Addr} {D J : Nat → FuncData} {aS a1 a2 C e0 fq f fR fL fM : Addr} {dq fd dR dL dM : FuncData}
theorem ok_cmp (F : Fun K "_law_compared" "_law_compared" sCmp f fd) (Z : Lp K mg A I D J aS a1 a2 C e0) (U : Le K C fq dq) (W : Lk K C)
    (gR : mg "_law_program" = some (.ref fR)) (FR : Fun K "_law_program" "_law_program" sProg fR dR) (bR : Binds K dR ["plan"] []) (gL : mg "_law_plan" = some (.ref fL)) (FL : Fun K "_law_plan" "_law_plan" sPlan fL dL) (bL : Binds K dL ["stream", "pool", "most"] [])
    (gM : mg "_law_mixed" = some (.ref fM)) (FM : Fun K "_law_mixed" "_law_mixed" sMixed fM dM) (bM : Binds K dM ["stream", "things"] [])
    (GM : FnOk P w K mg base CX0 2 fM dM ["stream", "things"] (spMixed K)) (GL : FnOk P w K mg base CX0 20 fL dL ["stream", "pool", "most"] (spPlan K 4)) : FnOk P w K mg base CX0 21 f fd ["source", "plan", "program"] (spCmp K C) := by
  have GR : FnOk P w K mg base CX0 11 fR dR ["plan"] (spProg K C 4) := ok_prog FR bR gR Z 4
  obtain ⟨q1, ga1, gd1, po1, G1, gb1⟩ := Z.L.p1 P w base
  obtain ⟨q2, ga2, gd2, po2, G2, gb2⟩ := Z.L.p2 P w base
  obtain ⟨q3, ga3, gd3, po3, G3, gb3⟩ := Z.L.p3 P w base
  refine F.ok scCmp (fun vs H Q E h => ?_) (fun cdv B outer s0 H vs Q E hr h => ?_)
  · obtain ⟨p, pa, a, g, rfl, _⟩ := h
    rfl
  · obtain ⟨p, pa, a, g, rfl, hp, hpl, hpg, ok, few, k⟩ := h
    have hr1 := hr.mono (show 2 ≤ 20 by decide)
    have hr2 := hr.mono (show 2 ≤ 20 by decide)
    have hr6 := hr.mono (show 6 ≤ 20 by decide)
    have hr11 := hr.mono (show 11 ≤ 20 by decide)
    have hr14 := hr.mono (show 3 * 4 + 2 ≤ 20 by decide)
    have hr15 := hr.mono (show 3 * 4 + 2 + 1 ≤ 20 by decide)
    have hr16 := hr.mono (show 3 * 4 + 4 ≤ 20 by decide)
    refine ⟨_, pss_cons (ps_set (i := 3) scCmp.nd rfl (Or.inl rfl) (pe_make Z.m Z.o22 hr6 rfl Z.L.c.g Z.b .nil (E := E0) passL (pa_cons (pe_ix ix_tup (pv 1) pe_int (fun _ _ => rfl)) (pa_cons (pe_tupleOf (by rfl) Z.L.N.tup (pe_prop (pv 2) Z.L.c.cl po2 G2 hr1 gb2 .nil pass0 rfl)) pa_nil))))
      (pss_cons (ps_set (i := 4) scCmp.nd rfl (Or.inl rfl) (pe_call GR hr11 rfl gR FR.kp bR .nil pass0 (pa_cons (pe_call GL hr rfl gL FL.kp bL .nil pass0 (pa_cons (pv 0) (pa_cons (pe_slice sl_list (pe_call GM hr2 rfl gM FM.kp bM .nil pass0 (pa_cons (pv 0) (pa_cons (pe_lst (pa_cons pe_str (pa_cons pe_str (pa_cons pe_str (pa_cons pe_str pa_nil))))) pa_nil))) po_none (po_some pe_int)) (pa_cons pe_int pa_nil)))) pa_nil)))
      (pss_cons (ps_if (PW.pt (pw_or (pt_not (pt_cmpR (op_Beq (rcB_own (ok_eq Z.L U 4) U.hs U.hf U.b pass0) hr14) (pv 2) (pv 3) (nomark _))) (pw_or1 (pt_cmpR (op_Bne (rnB_own (ok_eq Z.L U 4) U.ne U.b pass0) hr15) (pv 2) (pv 3) (nomark _))))) (pss_one (ps_ret pe_bl)) pss_nil)
      (pss_cons (ps_if (pt_cmpR op_ne (pe_cmpR (op_Beq (rcB_own (ok_eq Z.L U 4) U.hs U.hf U.b pass0) hr14) (pv 4) (pv 2) (nomark _)) (pe_and (pe_cmpR op_eq (pe_prop (pv 4) Z.L.c.cl po1 G1 hr1 gb1 .nil pass0 rfl) (pe_prop (pv 2) Z.L.c.cl po1 G1 hr1 gb1 .nil pass0 rfl) (nomark _)) (pe_one (pe_cmpR (op_Beq (rcB_stages (m := 4) Z.L U (ok_eq Z.L U 4)) hr16) (pe_prop (pv 4) Z.L.c.cl po2 G2 hr1 gb2 .nil pass0 rfl) (pe_prop (pv 2) Z.L.c.cl po2 G2 hr1 gb2 .nil pass0 rfl) (nomark _)))) (nomark _)) (pss_one (ps_ret pe_bl)) pss_nil)
      (pss_cons (ps_set (i := 5) scCmp.nd rfl (Or.inl rfl) (pe_make Z.m Z.o22 hr6 rfl Z.L.c.g Z.b .nil (E := E0) passL (pa_cons (pe_ix ix_list (pe_lc (own := [("one", 6)]) (g := gName 6) (tt := tTest (tOp (rIn K true) (tVar 6) (tProp C (getSp C "_sources") [] E0 (tVar 2)))) (te := tVar 6) rfl scCmp.nd (pi_str pe_str) (blkOk_by (N := ["source", "plan", "program", "same", "other", "near", "one", "thing"]) (sc := defScope sCmp) (by decide +kernel))
          (fun _ _ _ _ _ => pg_name (i := 6) scCmp.nd rfl (Or.inl rfl)) (fun _ _ _ _ _ => by exact pts_one (pt_cmpR op_notIn_seq (pv 6) (pe_prop (pv 2) Z.L.c.cl po3 G3 hr1 gb3 .nil pass0 rfl) rfl)) (fun _ _ _ _ _ => by exact pv 6)) pe_int (fun _ _ => rfl)) (pa_cons (pe_prop (pv 2) Z.L.c.cl po2 G2 hr1 gb2 .nil pass0 rfl) pa_nil))))
      (pss_one (ps_ret (pe_cmpR (op_eqNil hr.units) (pe_lc (own := [("thing", 7)]) (g := gName 7) (tt := tTest (tOp (rB id (DOwnB K C (Rq K C 4))) (tVar 2) (tVar 7))) (te := tVar 7) rfl scCmp.nd (pi_list (pe_lst (pa_cons pe_non (pa_cons (pv 1) (pa_cons (pe_ix ix_tup (pv 1) pe_int (fun _ _ => rfl)) (pa_cons (pe_prop (pv 2) Z.L.c.cl po2 G2 hr1 gb2 .nil pass0 rfl) (pa_cons pe_str (pa_cons pe_int (pa_cons (pv 5) pa_nil))))))))) (blkOk_by (N := ["source", "plan", "program", "same", "other", "near", "one", "thing"]) (sc := defScope sCmp) (by decide +kernel))
          (fun _ _ _ _ _ => pg_name (i := 7) scCmp.nd rfl (Or.inl rfl)) (fun _ _ _ _ _ => by exact pts_one (pt_cmpR (op_Beq (rcB_own (ok_eq Z.L U 4) U.hs U.hf U.b pass0) hr14) (pv 2) (pv 7) (nomark _))) (fun _ _ _ _ _ => by exact pv 7)) (pe_lst pa_nil) (nomark _)))))))), ?_⟩
    cases hpl with
    | @mk _ b s l ys h hs hl =>
    have hpg0 := hpg
    cases hpg with
    | @mk _ dx ts ss _ _ xs e1 e2 e3 e4 =>
      have ok' : s ∈ K0 ∧ l.len ≤ 6 ∧ l.ok 0 [s] := ok
      refine ⟨_, rfl, pa, _, _, .str s, rfl, rfl, h, rfl, _, rfl, a, dx, _, rfl, e1, a, dx, _, .ref ts, rfl, e1, get_stages _ _ _ _, .inr ⟨ts, xs, rfl, e2, ?_⟩⟩
      refine mk_goodR ok (.inr e2) e3 fun pS H1 s1 hpS pgS => ?_
      refine drawn_plan (i := 0) rfl (hp.same s1) fun v g2 H2 hv ok2 few2 hs2 bx2 => ?_
      refine ⟨v, g2, rfl, hv, ok2, Pg.nest4 ok2, fun po H3 npo s3 pgO => ?_⟩
      have pN : ∀ {c : Addr} {o : HO}, H1 c = some o → fixd o = true → c ≠ p := fun {c o} e f z => by
        obtain ⟨r, m, e9, _⟩ := hp.same s1
        rw [z, e9] at e
        cases e
        cases f
      have k13 : Kp H1 H3 := fun c o e f => s3 _ _ (bx2 c o (pN e f) e)
      have bx3 : Bx p H H3 := ((Bx.of s1).trans bx2).trans (Bx.of s3)
      have k03 : Kp H H3 := (Kp.of s1).trans k13
      have hs3 := hs2.same s3
      have pg3 := PgAt.kp k03 hpg0
      refine ⟨_, rfl, _, rfl, true, two_own Z.L _ _ _ _ (two_of pg3 (PgAt.kp k13 pgS) ok ok ⟨fun _ => rfl, fun _ => rfl⟩), fun H4 x4 => ⟨_, rfl, iteF (A := True) ?_⟩⟩
      have x4 : Same H3 H4 := x4
      have k04 := k03.trans (Kp.of x4)
      refine ⟨_, rfl, _, rfl, true, two_rq <| two_of (PgAt.kp k04 hpg0) (PgAt.kp (k13.trans (Kp.of x4)) pgS) ok ok ⟨fun _ => rfl, fun _ => rfl⟩, fun H5 x5 => ⟨_, rfl, iteF (A := True) ?_⟩⟩
      have x5 : Same H4 H5 := x5
      have z35 : Same H3 H5 := x4.trans x5
      have k05 := k03.trans (Kp.of z35)
      have pgO5 := PgAt.kp (Kp.of z35) pgO
      have pg5 := PgAt.kp k05 hpg0
      obtain ⟨b1, hb1⟩ : ∃ b1 : Bool, b1 = true ↔ g2 = Pg.mk s l := by
        by_cases e : g2 = Pg.mk s l
        · exact ⟨true, fun _ => e, fun _ => rfl⟩
        · exact ⟨false, (fun z => by cases z), fun z => absurd z e⟩
      refine ⟨_, rfl, _, rfl, b1, two_own Z.L _ _ _ _ (two_of pgO5 pg5 ok2 ok hb1), fun Hn x6 => ?_⟩
      have x6 : Same H5 Hn := x6
      have z3n : Same H3 Hn := z35.trans x6
      have pgOn := PgAt.kp (Kp.of z3n) pgO
      cases pgOn with
      | @mk _ dy ts' ss' s' l' xs' f1 f2 f3 f4 =>
      have ok2' : s' ∈ K0 ∧ l'.len ≤ 6 ∧ l'.ok 0 [s'] := ok2
      have en := (k03.trans (Kp.of z3n)) _ _ e1 rfl
      refine ⟨_, rfl, po, dy, _, rfl, f1, po, dy, _, .str s', rfl, f1, get_source _ _ _ _, _, rfl, a, dx, _, rfl, en, a, dx, _, .str s, rfl, en, get_source _ _ _ _, rfl, _, rfl, ?_⟩
      have fin : ∀ {b2 : Bool}, b1 = b2 → (!decide (V.bl b1 = V.bl b2)) = false := fun {b2} e => by rw [e, decide_eq_true rfl]; rfl
      have e2n := (k03.trans (Kp.of z3n)).tup e2
      have st5 := StAll.kp (k03.trans (Kp.of z3n)) e3
      refine dif (fun es => ?A) (fun es => ?B)
      case' A =>
        have es : s' = s := V.str.inj es
        obtain ⟨b2, pr, hb2⟩ := sts_eq (m := 4) f3 st5 ok2'.2.2 ok'.2.2 (Nat.le_of_lt (Pg.nest4 ok2))
        have e12 : b1 = b2 := bool_iff hb1 (hb2.trans ⟨fun z => by rw [es, z], fun z => by injection z⟩)
        refine ⟨_, rfl, po, dy, _, rfl, f1, po, dy, _, .ref ts', rfl, f1, get_stages _ _ _ _, _, rfl, a, dx, _, rfl, en, a, dx, _, .ref ts, rfl, en, get_stages _ _ _ _, b2, ⟨ts', ts, xs', xs, rfl, rfl, f2, e2n, pr⟩, fun Hm x7 => ⟨rfl, _, rfl, ?_⟩⟩
        have z3m : Same H3 Hm := z3n.trans x7
        refine ifF (fin e12) ?_
        clear x7
      case' B =>
        have es : s' ≠ s := fun z => es (congrArg V.str z)
        have e12 : b1 = false := by
          cases b1 with
          | false => rfl
          | true =>
            have := hb1.mp rfl
            injection this with z _
            exact absurd z es
        refine ⟨rfl, _, rfl, ?_⟩
        refine ifF (fin e12) ?_
        have z3m := z3n
        generalize Hn = Hm at z3m ⊢
      all_goals
        have km := k03.trans (Kp.of z3m)
        have em := km _ _ e1 rfl
        have e4m := km.tup e4
        refine ⟨"abcd", rfl, fun Da hD => ?_⟩
        have srcs : (Pg.mk s l).srcs = s :: l.srcs := rfl
        refine lc_it walk_str (fun i H' => Same Hm H' ∧ H' Da = some (.lst (((K0.take i).filter fun z => !decide (z ∈ s :: l.srcs)).map V.str))) ⟨same_new hD, upd_same⟩ (fun _ _ _ _ => trivial) ?_ ?_
        · rintro i x Ha Hb hi ⟨r1, r2⟩ ⟨rfl, c, hc, rfl⟩
          have hk := abcd_at i c hc
          have ea := r1 _ _ em
          refine ⟨rfl, _, rfl, _, rfl, a, dx, _, rfl, ea, a, dx, _, .ref ss, rfl, ea, get_sources _ _ _ _, ss, _, rfl, .inr ((Kp.of r1).tup e4m), rfl, all_flat _, _, rfl, ?_⟩
          have tk : K0.take (i + 1) = K0.take i ++ [⟨#[c]⟩] := by rw [List.take_add_one, hk]; rfl
          by_cases cm : (⟨#[c]⟩ : Str) ∈ s :: l.srcs
          · rw [show (if true = true then !inV (V.str ⟨#[c]⟩) ((s :: l.srcs).map V.str) else inV (V.str ⟨#[c]⟩) ((s :: l.srcs).map V.str)) = false from by
              rw [if_pos rfl, in_dec, decide_eq_true cm]; rfl]
            refine iteF (A := True) ⟨r1, ?_⟩
            have : [(⟨#[c]⟩ : Str)].filter (fun z => !decide (z ∈ s :: l.srcs)) = [] := by simp only [List.filter_cons, decide_eq_true cm]; rfl
            rw [tk, List.filter_append, this, List.append_nil]
            exact r2
          · rw [show (if true = true then !inV (V.str ⟨#[c]⟩) ((s :: l.srcs).map V.str) else inV (V.str ⟨#[c]⟩) ((s :: l.srcs).map V.str)) = true from by
              rw [if_pos rfl, in_dec, decide_eq_false cm]; rfl]
            refine iteT (B := True) ⟨_, rfl, _, r2, ?_, ?_, ?_⟩
            · rw [List.length_map]
              refine small1000 (Nat.le_trans (List.length_filter_le _ _) ?_)
              rw [List.length_take]
              show min i 4 ≤ 1000
              omega
            · intro r t er
              rw [upd_ne (ne_of_none er hD)]
              exact r1 _ _ er
            · rw [upd_same, tk, List.filter_append, List.map_append]
              have : [(⟨#[c]⟩ : Str)].filter (fun z => !decide (z ∈ s :: l.srcs)) = [⟨#[c]⟩] := by simp only [List.filter_cons, decide_eq_false cm]; rfl
              rw [this]
              rfl
        · rintro Ha ⟨r1, r2⟩
          have fine := Pg.fine _ ok
          have r2 : Ha Da = some (.lst ((K0.filter fun z => !decide (z ∈ s :: l.srcs)).map V.str)) := r2
          obtain ⟨z, zr, hz⟩ : ∃ z zr, (K0.filter fun z => !decide (z ∈ s :: l.srcs)) = z :: zr := by
            cases e : (K0.filter fun z => !decide (z ∈ s :: l.srcs)) with
            | cons z zr => exact ⟨z, zr, rfl⟩
            | nil =>
              have sub : ∀ x ∈ K0, x ∈ s :: l.srcs := fun x hx => by
                by_cases c : x ∈ s :: l.srcs
                · exact c
                · exact absurd (by rw [decide_eq_false c]; rfl) (List.filter_eq_nil_iff.mp e x hx)
              have := nd_len K0 (s :: l.srcs) (by decide +kernel) sub
              have few' : (s :: l.srcs).length ≤ 3 := few
              have k4 : K0.length = 4 := rfl
              omega
          have hzm : z ∈ (K0.filter fun z => !decide (z ∈ s :: l.srcs)) := by rw [hz]; exact List.mem_cons_self
          have hzk := (List.mem_filter.mp hzm).1
          have hzn : z ∉ s :: l.srcs := by
            have := (List.mem_filter.mp hzm).2
            simpa using this
          rw [hz] at r2
          have fnd : (s :: l.srcs).Nodup := fine.1
          have ndz : ([z] ++ l.srcs).Nodup := List.nodup_cons.mpr ⟨fun h => hzn (List.mem_cons_of_mem _ h), (List.nodup_cons.mp fnd).2⟩
          have okN : (Pg.mk z l).ok := ⟨hzk, ok'.2.1, (rest_bad 0 e3 ok'.2.2.sd ndz (Int.le_refl 0)).2 (ok_nobad l 0 [s] 0 ok'.2.2 (Int.le_refl 0))⟩
          have ka := km.trans (Kp.of r1)
          have ea := ka _ _ e1 rfl
          refine ⟨Da, _, 0, .str z, rfl, rfl, SqL.of r2, at_of (j := 0) rfl rfl, _, rfl, a, dx, _, rfl, ea, a, dx, _, .ref ts, rfl, ea, get_stages _ _ _ _, ?_⟩
          refine mk_goodR okN (.inr (ka.tup e2)) (StAll.kp ka e3) fun pn Hc s8 hpn pgN => ?_
          have kc := ka.trans (Kp.of s8)
          have ec := kc _ _ e1 rfl
          refine ⟨_, rfl, _, rfl, pa, _, _, .ref b, rfl, rfl, kc.tup h, rfl, _, rfl, a, dx, _, rfl, ec, a, dx, _, .ref ts, rfl, ec, get_stages _ _ _ _, _, rfl, by show 7 ≤ sizeLine; decide, fun m hm => ?_⟩
          have sm : Same Hc (upd Hc m (.lst [.non, .ref pa, .ref b, .ref ts, .str "a", .int 0, .ref pn])) := same_new hm
          have em2 : upd Hc m (.lst [.non, .ref pa, .ref b, .ref ts, .str "a", .int 0, .ref pn]) m = some (.lst [.non, .ref pa, .ref b, .ref ts, .str "a", .int 0, .ref pn]) := upd_same
          generalize upd Hc m (.lst [.non, .ref pa, .ref b, .ref ts, .str "a", .int 0, .ref pn]) = Hd at sm em2
          refine ⟨m, rfl, ⟨_, SqL.of em2⟩, fun D2 hD2 => ?_⟩
          refine lc_it (walk_list (xs := [.non, .ref pa, .ref b, .ref ts, .str "a", .int 0, .ref pn])) (fun i H' => Same Hd H' ∧ H' D2 = some (.lst [])) ⟨same_new hD2, upd_same⟩ (fun i H' _ z => z.1.seq (SqL.of em2)) ?_ ?_
          · rintro i y Hx Hy hi ⟨q1, q2⟩ ⟨rfl, hy⟩
            have mem := List.mem_of_getElem? hy
            have kx := (kc.trans (Kp.of sm)).trans (Kp.of q1)
            have pgx := PgAt.kp kx hpg0
            have pgNx := PgAt.kp ((Kp.of sm).trans (Kp.of q1)) pgN
            have Dn : DOwnB K C (Rq K C 4) (.ref a) y false Hy := by
              rcases List.mem_cons.mp mem with rfl | mem
              · exact oth_of W pgx (.base .non) (by decide)
              rcases List.mem_cons.mp mem with rfl | mem
              · exact oth_of W pgx (tyT (kx.tup h)) (by decide)
              rcases List.mem_cons.mp mem with rfl | mem
              · exact oth_of W pgx (tyT (kx.tup hs)) (by decide)
              rcases List.mem_cons.mp mem with rfl | mem
              · exact oth_of W pgx (tyT (kx.tup e2)) (by decide)
              rcases List.mem_cons.mp mem with rfl | mem
              · exact oth_of W pgx (.base (.str _)) (by decide)
              rcases List.mem_cons.mp mem with rfl | mem
              · exact oth_of W pgx (.base (.int _)) (by decide)
              rcases List.mem_cons.mp mem with rfl | mem
              · refine two_own Z.L _ _ _ _ (two_of pgx pgNx ok okN ⟨(fun z => by cases z), fun z => ?_⟩)
                injection z with z _
                exact absurd (by rw [z]; exact List.mem_cons_self) hzn
              · cases mem
            exact ⟨rfl, _, rfl, _, rfl, false, Dn, fun Hz x => ⟨_, rfl, iteF (A := True) ⟨q1.trans x, x _ _ q2⟩⟩⟩
          · rintro He ⟨q1, q2⟩
            refine ⟨by show 0 ≤ sizeLine; decide, fun u hu => ⟨D2, u, [], rfl, rfl, SqL.of (same_new hu _ _ q2), SqL.of upd_same, ?_⟩⟩
            have zz := (((z3m.trans r1).trans s8).trans sm).trans (q1.trans (same_new (o := .lst []) hu))
            exact k _ (hs3.same zz) (bx3.trans (Bx.of zz))
end
end K02
set_option Elab.async false
set_option linter.all false
set_option maxRecDepth 100000
set_option maxHeartbeats 4000000
namespace K02
open PySem L2 VK
/-! ### what comes of a question: the same for the law's own reckoning and for the program -/
inductive Res where
  | pos
  | long
  | stg (i : Nat)
  | made (l : Sgs)
def DueRes (K : Fg) (s : Str) (v : V) (H : Hp) (t : Addr) : Res → Prop
  | .pos => SqT K H t [.str "positions", v]
  | .long => SqT K H t [.str "stages", .non]
  | .stg i => SqT K H t [.str "stage", .int (i : Nat)]
  | .made l => ∃ g : Addr, SqT K H t [.str "made", .ref g] ∧ PlAt K H (.ref g) (.mk s l)
def ToldRes (K : Fg) (C : Addr) (s : Str) (xs : List V) (v : V) (H : Hp) (t : Addr) : Res → Prop
  | .pos => SqT K H t [.str "positions", v]
  | .long => ∃ st : Addr, SqT K H t [.str "stages", .ref st] ∧ H st = some (.lst (xs ++ [v]))
  | .stg i => SqT K H t [.str "stage", .int (i : Nat)]
  | .made l => ∃ p : Addr, SqT K H t [.str "made", .ref p] ∧ PgAt K C H (.ref p) (.mk s l)
/-- what the law asks with -/
def AskC (K : Fg) (C : Addr) (H : Hp) (n : Nat) (word : Str) (v : V) : Prop :=
  (word = "then" ∧ ∃ y, PsV K H v y ∧ StV K C H v y ∧ y.sd ∧ y.srcs = []) ∨
  (word = "without" ∧ ((∃ t, TyX K H v t ∧ PySem.W.kitOne K t (.type "list") = some false) ∨ ∃ (c : Addr) (ys : List V) (cs : List (Option Int)), v = .ref c ∧ H c = some (.lst ys) ∧ ys.length < 63 ∧ Paired (Itm K H) ys cs)) ∨
  (word = "exchanged" ∧ ∃ c, Itm K H v c ∧ ((∃ t, TyX K H v t ∧ PySem.W.kitOne K t (.type "list") = some false) ∨ ∃ (c' : Addr) (ys : List V), v = .ref c' ∧ H c' = some (.lst ys) ∧ ys.length < 63))
theorem itms_same {K : Fg} {H H' : Hp} (s : Same H H') : ∀ {xs : List V} {cs : List (Option Int)}, Paired (Itm K H) xs cs → Paired (Itm K H') xs cs
  | _, _, .nil => .nil
  | _, _, .cons h t => .cons (h.same s) (itms_same s t)
theorem AskC.same {K : Fg} {C : Addr} {H H' : Hp} {n : Nat} {word : Str} {v : V} (z : Same H H') (h : AskC K C H n word v) : AskC K C H' n word v := by
  rcases h with ⟨e, y, h1, h2, h3⟩ | ⟨e, h⟩ | ⟨e, c, hc, h⟩
  · exact .inl ⟨e, y, PsV.kp (Kp.of z) h1, StV.kp (Kp.of z) h2, h3⟩
  · refine .inr (.inl ⟨e, ?_⟩)
    rcases h with ⟨t, ty, kt⟩ | ⟨c, ys, cs, e1, e2, e3, e4⟩
    · exact .inl ⟨t, TyX.same ty z, kt⟩
    · exact .inr ⟨c, ys, cs, e1, z _ _ e2, e3, itms_same z e4⟩
  · refine .inr (.inr ⟨e, c, hc.same z, ?_⟩)
    rcases h with ⟨t, ty, kt⟩ | ⟨c, ys, e1, e2, e3⟩
    · exact .inl ⟨t, TyX.same ty z, kt⟩
    · exact .inr ⟨c, ys, e1, z _ _ e2, e3⟩
section
variable {K : Fg} {C CB CL CP : Addr} {s : Str} {l l' : Sgs} {xs xs' ys' : List V} {v : V} {H H1 : Hp} {Q : VK}
/-- of a changed row: the stage that is bad, or the plan and the program made -/
def outOf (l' : Sgs) : Res := match l'.bad 0 0 with
  | some i => .stg i
  | none => .made l'
theorem due_of (k : ∀ (t : Addr) (H' : Hp), Same H H' → DueRes K s v H' t (outOf l') → Q (.ref t) H') : DueMade K s l' H Q := by
  unfold DueMade
  unfold outOf at k
  cases e : l'.bad 0 0 with
  | some i =>
    rw [e] at k
    exact fun t H' s1 h => k t H' s1 h
  | none =>
    rw [e] at k
    exact fun t g H' s1 h hp => k t H' s1 ⟨g, h, hp⟩
theorem told_of (hx : StAll K C H xs' l') (sd : l'.sd) (nd : (s :: l'.srcs).Nodup) (k : ∀ (t : Addr) (H' : Hp), Same H H' → ToldRes K C s xs v H' t (outOf l') → Q (.ref t) H') :
    ∃ o, Rest K C H 0 [s] 0 xs' o ∧ MkEnd K C CB s xs' H (fun r H1 => Told K "made" r H1 Q) (ToldE K CB CL CP Q) o := by
  obtain ⟨r, okb⟩ := rest_bad 0 hx sd (show ([s] ++ l'.srcs).Nodup from nd) (Int.le_refl 0)
  refine ⟨_, r, ?_⟩
  unfold badOut
  unfold outOf at k
  cases e : l'.bad 0 0 with
  | some i =>
    rw [e] at k
    exact fun H' ee he s1 h => ⟨ee, "position", _, rfl, h, .inr (.inr ⟨rfl, rfl, fun t H2 s2 ht => k t H2 (s1.trans s2) ht⟩)⟩
  | none =>
    rw [e] at k
    refine fun p dx ts ss H2 s1 hp h t1 t2 t H3 s3 ht => k t H3 (s1.trans s3) ⟨p, ht, ?_⟩
    exact PgAt.kp (Kp.of s3) (.mk h t1 (StAll.kp (Kp.of s1) hx) t2)
end
end K02
set_option Elab.async false
set_option linter.all false
set_option maxRecDepth 100000
set_option maxHeartbeats 4000000
namespace K02
open PySem L2 VK
/-- a bad place lies within the row -/
theorem bad_lt : ∀ (l : Sgs) (d : Int) (j i : Nat), l.bad d j = some i → i < j + l.len
  | .nil, _, _, _, h => by cases h
  | .cons x r, d, j, i, h => by
    have h : (if x.isFlat = true ∧ d = 0 then some j else Sgs.bad (x.dep d) (j + 1) r) = some i := h
    show i < j + (r.len + 1)
    by_cases c : x.isFlat = true ∧ d = 0
    · rw [if_pos c] at h
      cases h
      omega
    · rw [if_neg c] at h
      have := bad_lt r _ _ _ h
      omega
theorem out_lt {l' : Sgs} {i : Nat} (len : l'.len ≤ 6) (e : outOf l' = .stg i) : i < 7 := by
  unfold outOf at e
  cases eb : l'.bad 0 0 with
  | some j =>
    rw [eb] at e
    cases e
    have := bad_lt l' 0 0 _ eb
    omega
  | none =>
    rw [eb] at e
    cases e
section
variable {K : Fg} {C CB CL CP : Addr} {s : Str} {l l' : Sgs} {xs xs' ys : List V} {v : V} {H H1 : Hp} {Q : VK} {E E' : XK} {a pa b dx ts ss : Addr} {word : Str} {n : Nat}
theorem out_ok {l'' : Sgs} (hx : StAll K C H xs' l') (sd : l'.sd) (nd : (s :: l'.srcs).Nodup) (hs : s ∈ K0) (len : l'.len ≤ 6) (e : outOf l' = .made l'') : (Pg.mk s l'').ok := by
  obtain ⟨_, okb⟩ := rest_bad (K := K) (C := C) (H := H) 0 hx sd (show ([s] ++ l'.srcs).Nodup from nd) (Int.le_refl 0)
  unfold outOf at e
  cases eb : l'.bad 0 0 with
  | some i =>
    rw [eb] at e
    cases e
  | none =>
    rw [eb] at e
    cases e
    exact ⟨hs, len, okb eb⟩
/-- the two answers to one question -/
def Two2 (K : Fg) (C CB CL CP : Addr) (H : Hp) (a pa : Addr) (s : Str) (xs : List V) (word : Str) (v : V) (r : Res) : Prop :=
  (∀ l', r = .made l' → (Pg.mk s l').ok) ∧ (∀ i, r = .stg i → i < 7) ∧
  (∀ H1, Same H H1 → ∀ (Q : VK) (E : XK), (∀ (t : Addr) (H' : Hp), Same H1 H' → DueRes K s v H' t r → Q (.ref t) H') → spDue K [.ref pa, .str word, v] H1 Q E) ∧
  ∀ H1, Same H H1 → ∀ (Q : VK) (E : XK), (∀ (t : Addr) (H' : Hp), Same H1 H' → ToldRes K C s xs v H' t r → Q (.ref t) H') → spTold K C CB CL CP [.ref a, .str word, v] H1 Q E
theorem told_pos (k : ∀ (t : Addr) (H' : Hp), Same H1 H' → ToldRes K C s xs v H' t .pos → Q (.ref t) H') : ErrP CP "value" H1 v (ToldE K CB CL CP Q) := fun H' e he s1 h =>
  ⟨e, "value", v, rfl, h, .inl ⟨rfl, rfl, fun t H2 s2 ht => k t H2 (s1.trans s2) ht⟩⟩
theorem ask_res (ea : H a = some (.ins C dx (flds s ts ss (l.dep 0)))) (ht : SqT K H ts xs) (hx : StAll K C H xs l) (hp : SqT K H pa [.str s, .ref b]) (hb : SqT K H b ys) (hl : PsAll K H ys l) (ok : (Pg.mk s l).ok)
    (h : AskC K C H n word v) : ∃ r, Two2 K C CB CL CP H a pa s xs word v r := by
  have ok' : s ∈ K0 ∧ l.len ≤ 6 ∧ l.ok 0 [s] := ok
  have nd : (s :: l.srcs).Nodup := (Pg.fine _ ok).1
  have lx := StAll.len hx
  have ly := PsAll.len hl
  have sd := ok'.2.2.sd
  have obj : ∀ H1, Same H H1 → ObjP K C H1 a s ts xs := fun H1 z => ⟨dx, ss, l.dep 0, z _ _ ea, ok'.1, (Kp.of z).tup ht, by omega⟩
  rcases h with ⟨rfl, y, hy, hy2, ysd, ysr⟩ | ⟨rfl, h⟩ | ⟨rfl, c, hc, h⟩
  · by_cases h6 : l.len = 6
    · refine ⟨.long, (fun _ z => by cases z), (fun _ z => by cases z), fun H1 z Q E k => ?_, fun H1 z Q E k => ?_⟩
      · exact ⟨pa, b, s, ys, l, _, v, rfl, (Kp.of z).tup hp, (Kp.of z).tup hb, PsAll.kp (Kp.of z) hl, sd, ok'.2.1, .inr (.inr ⟨rfl, y, PsV.kp (Kp.of z) hy, ysd, .inl ⟨by omega, fun t H' s1 q => k t H' s1 q⟩⟩)⟩
      · refine ⟨a, ts, ss, dx, s, _, _, v, rfl, z _ _ ea, .inl ⟨rfl, a, ts, s, xs, v, rfl, obj H1 z, .inr ⟨by omega, fun H' e st he s1 hx hst => ?_⟩⟩⟩
        exact ⟨e, "value", _, rfl, hx, .inr (.inl ⟨rfl, rfl, fun t H2 s2 q => k t H2 (s1.trans s2) ⟨st, q, s2 _ _ hst⟩⟩)⟩
    · have st := StAll.snoc hy2 hx
      have sd' := snoc_sd ysd l sd
      have nd' : (s :: (l.snoc y).srcs).Nodup := by rw [srcs_snoc, ysr, List.append_nil]; exact nd
      have len' : (l.snoc y).len ≤ 6 := by rw [len_snoc]; omega
      refine ⟨outOf (l.snoc y), fun l'' e => out_ok st sd' nd' ok'.1 len' e, fun i e => out_lt len' e, fun H1 z Q E k => ?_, fun H1 z Q E k => ?_⟩
      · exact ⟨pa, b, s, ys, l, _, v, rfl, (Kp.of z).tup hp, (Kp.of z).tup hb, PsAll.kp (Kp.of z) hl, sd, ok'.2.1, .inr (.inr ⟨rfl, y, PsV.kp (Kp.of z) hy, ysd, .inr ⟨by omega, due_of k⟩⟩)⟩
      · exact ⟨a, ts, ss, dx, s, _, _, v, rfl, z _ _ ea, .inl ⟨rfl, a, ts, s, xs, v, rfl, obj H1 z, .inl ⟨by omega, told_of (StAll.kp (Kp.of z) st) sd' nd' k⟩⟩⟩
  · rcases h with ⟨t, ty, kt⟩ | ⟨c, zs, cs, rfl, hz, zl, ps⟩
    · refine ⟨.pos, (fun _ z => by cases z), (fun _ z => by cases z), fun H1 z Q E k => ?_, fun H1 z Q E k => ?_⟩
      · exact ⟨pa, b, s, ys, l, _, v, rfl, (Kp.of z).tup hp, (Kp.of z).tup hb, PsAll.kp (Kp.of z) hl, sd, ok'.2.1, .inl ⟨rfl, .inl ⟨t, TyX.same ty z, kt, fun t H' s1 q => k t H' s1 q⟩⟩⟩
      · exact ⟨a, ts, ss, dx, s, _, _, v, rfl, z _ _ ea, .inr (.inl ⟨rfl, a, ts, s, xs, v, rfl, obj H1 z, .inl ⟨t, TyX.same ty z, kt, told_pos k⟩⟩)⟩
    · cases ap : arePos (xs.length : Nat) cs with
      | false =>
        refine ⟨.pos, (fun _ z => by cases z), (fun _ z => by cases z), fun H1 z Q E k => ?_, fun H1 z Q E k => ?_⟩
        · exact ⟨pa, b, s, ys, l, _, _, rfl, (Kp.of z).tup hp, (Kp.of z).tup hb, PsAll.kp (Kp.of z) hl, sd, ok'.2.1, .inl ⟨rfl, .inr ⟨c, zs, cs, rfl, SqL.of (z _ _ hz), by omega, itms_same z ps, .inl ⟨by rw [← ap, lx, ly], fun t H' s1 q => k t H' s1 q⟩⟩⟩⟩
        · exact ⟨a, ts, ss, dx, s, _, _, _, rfl, z _ _ ea, .inr (.inl ⟨rfl, a, ts, s, xs, _, rfl, obj H1 z, .inr ⟨c, zs, cs, rfl, SqL.of (z _ _ hz), by omega, itms_same z ps, .inl ⟨ap, told_pos k⟩⟩⟩)⟩
      | true =>
        have al : cs.all (inB (xs.length : Nat)) = true := by
          unfold arePos at ap
          exact (Bool.and_eq_true_iff.mp ap).1
        obtain ⟨ns, rfl, rfl⟩ := itms_int ps al
        have st := StAll.keep ns 0 hx
        have sd' := keep_sd ns l 0 sd
        have nd' : (s :: (l.keep ns 0).srcs).Nodup := (List.Sublist.cons_cons s (keep_srcs ns l 0)).nodup nd
        have len' : (l.keep ns 0).len ≤ 6 := Nat.le_trans (keep_len ns l 0) ok'.2.1
        refine ⟨outOf (l.keep ns 0), fun l'' e => out_ok st sd' nd' ok'.1 len' e, fun i e => out_lt len' e, fun H1 z Q E k => ?_, fun H1 z Q E k => ?_⟩
        · exact ⟨pa, b, s, ys, l, _, _, rfl, (Kp.of z).tup hp, (Kp.of z).tup hb, PsAll.kp (Kp.of z) hl, sd, ok'.2.1, .inl ⟨rfl, .inr ⟨c, _, _, rfl, SqL.of (z _ _ hz), by omega, itms_same z ps, .inr ⟨ns, rfl, by rw [← ap, lx, ly], due_of k⟩⟩⟩⟩
        · obtain ⟨o, r1, r2⟩ := told_of (CB := CB) (CL := CL) (CP := CP) (StAll.kp (Kp.of z) st) sd' nd' k
          exact ⟨a, ts, ss, dx, s, _, _, _, rfl, z _ _ ea, .inr (.inl ⟨rfl, a, ts, s, xs, _, rfl, obj H1 z, .inr ⟨c, _, _, rfl, SqL.of (z _ _ hz), by omega, itms_same z ps, .inr ⟨ns, o, rfl, ap, r1, r2⟩⟩⟩)⟩
  · cases ib : inB ((xs.length : Nat) - 1) c with
    | false =>
      refine ⟨.pos, (fun _ z => by cases z), (fun _ z => by cases z), fun H1 z Q E k => ?_, fun H1 z Q E k => ?_⟩
      · exact ⟨pa, b, s, ys, l, _, v, rfl, (Kp.of z).tup hp, (Kp.of z).tup hb, PsAll.kp (Kp.of z) hl, sd, ok'.2.1, .inr (.inl ⟨rfl, c, hc.same z, .inl ⟨by rw [← ib, lx, ly], fun t H' s1 q => k t H' s1 q⟩⟩)⟩
      · exact ⟨a, ts, ss, dx, s, _, _, v, rfl, z _ _ ea, .inr (.inr ⟨rfl, a, ts, s, xs, v, c, rfl, obj H1 z, hc.same z, .inl ⟨ib, told_pos k⟩⟩)⟩
    | true =>
      cases c with
      | none => cases ib
      | some i0 =>
        have ib : (decide (0 ≤ i0) && decide (i0 < (xs.length : Nat) - 1)) = true := ib
        rw [Bool.and_eq_true, decide_eq_true_eq, decide_eq_true_eq] at ib
        obtain ⟨i, rfl⟩ := Int.eq_ofNat_of_zero_le ib.1
        have hi : i + 1 < xs.length := by omega
        obtain ⟨x, hx1⟩ : ∃ x, xs[i]? = some x := ⟨_, List.getElem?_eq_getElem (by omega)⟩
        obtain ⟨y, hy1⟩ : ∃ y, xs[i + 1]? = some y := ⟨_, List.getElem?_eq_getElem hi⟩
        have st := StAll.swap i hx
        rw [swapL_G hx1 hy1] at st
        have sd' := swap_sd l i sd
        have nd' : (s :: (l.swap i).srcs).Nodup := ((swap_srcs l i).cons s).nodup_iff.mpr nd
        have len' : (l.swap i).len ≤ 6 := by rw [swap_len]; exact ok'.2.1
        refine ⟨outOf (l.swap i), fun l'' e => out_ok st sd' nd' ok'.1 len' e, fun i e => out_lt len' e, fun H1 z Q E k => ?_, fun H1 z Q E k => ?_⟩
        · exact ⟨pa, b, s, ys, l, _, v, rfl, (Kp.of z).tup hp, (Kp.of z).tup hb, PsAll.kp (Kp.of z) hl, sd, ok'.2.1, .inr (.inl ⟨rfl, _, hc.same z, .inr ⟨i, rfl, by omega, due_of k⟩⟩)⟩
        · obtain ⟨o, r1, r2⟩ := told_of (CB := CB) (CL := CL) (CP := CP) (StAll.kp (Kp.of z) st) sd' nd' k
          exact ⟨a, ts, ss, dx, s, _, _, v, rfl, z _ _ ea, .inr (.inr ⟨rfl, a, ts, s, xs, v, _, rfl, obj H1 z, hc.same z, .inr ⟨i, x, y, o, rfl, hi, hx1, hy1, r1, r2⟩⟩)⟩
end
end K02
set_option Elab.async false
set_option linter.all false
set_option maxRecDepth 100000
set_option maxHeartbeats 4000000
namespace K02
open PySem L2 VK
/-- a value of which repr is asked is flat, or a reference -/
theorem shw_self {K : Fg} {H : Hp} {v : V} {d : PyData} (h : ShwV K H v d) : flatV v = true ∨ ∃ a, v = .ref a := by
  cases h with
  | dct _ _ => exact .inr ⟨_, rfl⟩
  | data h _ =>
    cases h with
    | non => exact .inl rfl
    | bl _ => exact .inl rfl
    | int _ => exact .inl rfl
    | str _ => exact .inl rfl
    | lst _ _ => exact .inr ⟨_, rfl⟩
    | tup _ _ => exact .inr ⟨_, rfl⟩
/-- a row of stages is equal to itself, item by item -/
theorem prs_self {H : Hp} {xs : List V} (h : ∀ x ∈ xs, flatV x = true ∨ ∃ a, x = .ref a) : Prs (fun x y H => DSelf x y true H) xs xs H :=
  ⟨rfl, fun i x y h1 h2 => by
    rw [h1] at h2
    cases h2
    exact ⟨rfl, rfl, h x (List.mem_of_getElem? h1)⟩⟩
theorem stall_refs {K : Fg} {C : Addr} {H : Hp} : ∀ {xs : List V} {l : Sgs}, StAll K C H xs l → ∀ x ∈ xs, ∃ a, x = .ref a
  | _, _, .nil, _, h => by cases h
  | _, _, .cons h t, x, hx => by
    rcases List.mem_cons.mp hx with rfl | hx
    · obtain ⟨a, _, e, _⟩ := h.at0
      exact ⟨a, e⟩
    · exact stall_refs t x hx
end K02
set_option Elab.async false
set_option linter.all false
set_option maxRecDepth 100000
set_option maxHeartbeats 4000000
namespace K02
open PySem L2 VK
abbrev sAsk : Stmt := top 38
theorem scAsk : FnScope ["program", "plan", "word", "value", "due", "seen", "told", "like", "free", "more", "one"] ["program", "plan", "word", "value"] (defScope sAsk) := ⟨rfl, rfl, rfl, by decide +kernel, rfl, by decide +kernel, by decide +kernel⟩
theorem boot_repr' : bootBuiltins "repr" = some (.builtin "repr") := by decide +kernel
/-- what stands in a list of stages: the things themselves -/
def DThing (K : Fg) (C : Addr) : Eqb := fun x y b H => DFlatB x y b H ∨ DStage K C 4 x y b H
theorem mon_item4 {K : Fg} {C : Addr} : MonB (DThing K C) := mon_flatB.or (mon_tupB mon_item)
section
variable {P : Program} {w : World} {K : Fg} {mg : Str → Option Value} {base : Heap} {A I : Nat → Addr} {D J : Nat → FuncData} {aS a1 a2 C e0 fq : Addr} {dq : FuncData} {M : Nat → Addr} {T : Nat → FuncData}
theorem eqB_things {X : Cx} (L : Lb X.K X.mg A I D J aS a1 a2 C) (Z : Le X.K C fq dq) (F : FnOk X.prog X.w X.K X.mg X.base CX0 (3 * 4 + 2) fq dq ["self", "other"] (spEqB (Rq X.K C 4))) : EqB X (3 * 4 + 3) (DThing X.K C) :=
  (eqB_flat.mono (Nat.zero_le _)).or (rcB_stage (m := 4) L Z F)
def FitV (K : Fg) (v : V) (d : PyData) (H : Hp) : Prop := ShwV K H v d ∧ d.showable = true ∧ d.shown.length ≤ sizeLine ∧ d.depth ≤ 10
def spAsk (K : Fg) (C : Addr) : Sp := fun vs H Q _ => ∃ (a pa : Addr) (g : Pg) (word : Str) (v : V) (d : PyData), vs = [.ref a, .ref pa, .str word, v] ∧ PgAt K C H (.ref a) g ∧ PlAt K H (.ref pa) g ∧ g.ok ∧ g.srcs.length ≤ 3 ∧ AskC K C H 0 word v ∧
  (∀ H', Same H H' → FitV K v d H') ∧
  ((∃ t, TyX K H v t ∧ PySem.W.kitOne K t (.type "list") = some false ∧ ∀ H', Same H H' → Q (.bl true) H') ∨
   ∃ (c : Addr) (ys : List V), v = .ref c ∧ H c = some (.lst ys) ∧ ys.length < 63 ∧ (∀ H', Same H H' → Q (.bl true) H') ∧ ∀ H', Bx c H H' → H' c = some (.lst (ys ++ [.str "more"])) → (∃ d1, FitV K v d1 H') ∧ Q (.bl true) H')
/-- the two answers, side by side -/
def Pair2 (K : Fg) (C : Addr) (s : Str) (xs : List V) (v : V) (H1 H2 : Hp) (z : Str) (u1 u2 : V) : Prop :=
  (z = "positions" ∧ u1 = v ∧ u2 = v) ∨ (z = "stages" ∧ ∃ st, u2 = .ref st ∧ H2 st = some (.lst (xs ++ [v]))) ∨ (z = "stage" ∧ ∃ i : Nat, i < 7 ∧ u1 = .int (i : Nat) ∧ u2 = .int (i : Nat)) ∨
  (z = "made" ∧ ∃ (l : Sgs) (gp np : Addr), u1 = .ref gp ∧ u2 = .ref np ∧ PlAt K H1 (.ref gp) (.mk s l) ∧ PgAt K C H2 (.ref np) (.mk s l) ∧ (Pg.mk s l).ok)
theorem pair2 {K : Fg} {C : Addr} {s : Str} {xs : List V} {v : V} {H1 H2 : Hp} {t1 t2 : Addr} {r : Res} (ok : ∀ l, r = .made l → (Pg.mk s l).ok) (lt : ∀ i, r = .stg i → i < 7) (d : DueRes K s v H1 t1 r) (t : ToldRes K C s xs v H2 t2 r) :
    ∃ z u1 u2, SqT K H1 t1 [.str z, u1] ∧ SqT K H2 t2 [.str z, u2] ∧ Pair2 K C s xs v H1 H2 z u1 u2 := by
  cases r with
  | pos => exact ⟨_, _, _, d, t, .inl ⟨rfl, rfl, rfl⟩⟩
  | long =>
    obtain ⟨st, h1, h2⟩ := t
    exact ⟨_, _, _, d, h1, .inr (.inl ⟨rfl, st, rfl, h2⟩)⟩
  | stg i => exact ⟨_, _, _, d, t, .inr (.inr (.inl ⟨rfl, i, lt i rfl, rfl, rfl⟩))⟩
  | made l =>
    obtain ⟨g, h1, h2⟩ := d
    obtain ⟨p, h3, h4⟩ := t
    exact ⟨_, _, _, h1, h3, .inr (.inr (.inr ⟨rfl, l, g, p, rfl, rfl, h2, h4, ok l rfl⟩))⟩
theorem dp_strs {K : Fg} {H : Hp} : ∀ ws : List Str, DpAll K H (ws.map V.str) (ws.map PyData.str)
  | [] => .nil
  | z :: r => .cons (.str z) (dp_strs r)
theorem eqv_strs : ∀ ws : List Str, PyData.eqvAll (ws.map PyData.str) (ws.map PyData.str) = true
  | [] => rfl
  | z :: r => by
    show (PyData.eqv (.str z) (.str z) && PyData.eqvAll (r.map PyData.str) (r.map PyData.str)) = true
    rw [eqv_strs r, Bool.and_true]
    show (z == z) = true
    exact beq_self_eq_true z
theorem lay_strs : ∀ ws : List Str, (∀ z ∈ ws, z ∈ K0) → PyData.canLayAll0 (ws.map PyData.str) = true ∧ PyData.depthAll (ws.map PyData.str) = 0
  | [], _ => ⟨rfl, rfl⟩
  | z :: r, h => by
    obtain ⟨a, b⟩ := lay_strs r fun y hy => h y (List.mem_cons_of_mem _ hy)
    have := (by decide +kernel : ∀ s ∈ K0, PyData.strOk s = true) z (h z List.mem_cons_self)
    exact ⟨by simp [PyData.canLayAll0, PyData.canLay0, a, this], by simp [PyData.depthAll, PyData.depth, b]⟩
/-- two rows of the same sources are not different -/
theorem ne_srcs {K : Fg} {H : Hp} {t1 t2 : Addr} {ws : List Str} {Q : VK} (h : ∀ z ∈ ws, z ∈ K0) (h1 : SqT K H t1 (ws.map V.str)) (h2 : SqT K H t2 (ws.map V.str)) (k : Q (.bl false) H) : rNeD K (.ref t1) (.ref t2) H Q := by
  obtain ⟨a, b⟩ := lay_strs ws h
  have sh : SeqAt.shaped (.tuple (ws.map PyData.str)) = true := by
    unfold SeqAt.shaped
    simp [PyData.canLay0, PyData.depth, a, b]
  refine ⟨_, _, .tup h1 (dp_strs ws), .tup h2 (dp_strs ws), sh, sh, ?_⟩
  rw [show PyData.eqv (.tuple (ws.map PyData.str)) (.tuple (ws.map PyData.str)) = true from eqv_strs ws]
  exact k
theorem ok_ask {f fR fD fT fU : Addr} {fd dR dD dT dU : FuncData} (F : Fun K "_law_asked_right" "_law_asked_right" sAsk f fd) (Z : Lp K mg A I D J aS a1 a2 C e0) (U : Le K C fq dq) (Y : Lm K C mg A M T)
    (gR : mg "_law_program" = some (.ref fR)) (FR : Fun K "_law_program" "_law_program" sProg fR dR) (bR : Binds K dR ["plan"] []) (gD : mg "_law_depth" = some (.ref fD)) (FD : Fun K "_law_depth" "_law_depth" sDepth fD dD) (bD : Binds K dD ["plan"] [])
    (gT : mg "_law_told" = some (.ref fT)) (FT : Fun K "_law_told" "_law_told" sTold fT dT) (bT : Binds K dT ["program", "word", "value"] []) (gU : mg "_law_due" = some (.ref fU)) (FU : Fun K "_law_due" "_law_due" sDue fU dU) (bU : Binds K dU ["plan", "word", "value"] [])
    (GD : FnOk P w K mg base CX0 12 fD dD ["plan"] (spDepth K 5)) (GU : FnOk P w K mg base CX0 13 fU dU ["plan", "word", "value"] (spDue K)) : RunG P w K mg base 19 f fd ["program", "plan", "word", "value"] (spAsk K C) := by
  have GR : FnOk P w K mg base CX0 11 fR dR ["plan"] (spProg K C 4) := ok_prog FR bR gR Z 4
  have GT : FnOk P w K mg base CX0 8 fT dT ["program", "word", "value"] (spTold K C (A 4) (A 3) (A 5)) := ok_told FT Z Y
  obtain ⟨q1, ga1, gd1, po1, G1, gb1⟩ := Z.L.p1 P w base
  obtain ⟨q2, ga2, gd2, po2, G2, gb2⟩ := Z.L.p2 P w base
  obtain ⟨q3, ga3, gd3, po3, G3, gb3⟩ := Z.L.p3 P w base
  obtain ⟨q4, ga4, gd4, po4, G4, gb4⟩ := Z.L.p4 P w base
  refine runG_of F scAsk (fun vs H Q E h => ?_) (fun B cdv outer s0 H vs Q E hg hr h => ?_)
  · obtain ⟨a, pa, g, word, v, d, rfl, _⟩ := h
    rfl
  · obtain ⟨a, pa, g, word, v, d, rfl, hpg, hpl, ok, few, ask, fit, k⟩ := h
    have hr1 := hr.mono (show 2 ≤ 18 by decide)
    have hr6 := hr.mono (show 6 ≤ 18 by decide)
    have hr7 := hr.mono (show 7 ≤ 18 by decide)
    have hr8 := hr.mono (show 8 ≤ 18 by decide)
    have hr11 := hr.mono (show 11 ≤ 18 by decide)
    have hr12 := hr.mono (show 12 ≤ 18 by decide)
    have hr13 := hr.mono (show 13 ≤ 18 by decide)
    have hr15 := hr.mono (show 3 * 4 + 2 + 1 ≤ 18 by decide)
    have hr16 := hr.mono (show 3 * 4 + 4 ≤ 18 by decide)
    have hr17 := hr.mono (show 0 + 1 ≤ 18 by decide)
    refine ⟨_, pss_cons (ps_par (by rfl) scAsk.nd rfl rfl (show 4 ≠ 5 by decide) rfl rfl (pa_cons (pe_call GU hr13 rfl gU FU.kp bU .nil pass0 (pa_cons (pv 1) (pa_cons (pv 2) (pa_cons (pv 3) pa_nil)))) (pa_cons (pe_callB (call_showV hg hr.units) (by rfl) Z.L.N.repr boot_repr' (pa_cons (pv 3) pa_nil)) pa_nil)) (by rfl))
      (pss_cons (ps_set (i := 6) scAsk.nd rfl (Or.inl rfl) (pe_call GT hr8 rfl gT FT.kp bT .nil pass0 (pa_cons (pv 0) (pa_cons (pv 2) (pa_cons (pv 3) pa_nil)))))
      (pss_cons (ps_if (PW.pt (pw_or (pt_cmpR op_ne (pe_ix ix_tup (pv 6) pe_int (fun _ _ => rfl)) (pe_ix ix_tup (pv 4) pe_int (fun _ _ => rfl)) (nomark _)) (pw_or (pt_cmpR (op_Bne (rnB_own (ok_eq Z.L U 4) U.ne U.b pass0) hr15) (pv 0) (pe_call GR hr11 rfl gR FR.kp bR .nil pass0 (pa_cons (pv 1) pa_nil)) (nomark _)) (pw_or1 (pt_cmpR op_ne (pe_callB (call_showV hg hr.units) (by rfl) Z.L.N.repr boot_repr' (pa_cons (pv 3) pa_nil)) (pv 5) (nomark _)))))) (pss_one (ps_ret pe_bl)) pss_nil)
      (pss_cons (ps_if (PW.pt (pw_or (pt_cmpR op_ne (pe_prop (pv 0) Z.L.c.cl po4 G4 hr1 gb4 .nil pass0 rfl) (pe_call GD hr12 rfl gD FD.kp bD .nil pass0 (pa_cons (pv 1) pa_nil)) (nomark _)) (pw_or1 (pt_cmpR (op_neD hr.units) (pe_prop (pv 0) Z.L.c.cl po3 G3 hr1 gb3 .nil pass0 rfl) (pe_prop (pe_call GR hr11 rfl gR FR.kp bR .nil pass0 (pa_cons (pv 1) pa_nil)) Z.L.c.cl po3 G3 hr1 gb3 .nil pass0 rfl) (nomark _))))) (pss_one (ps_ret pe_bl)) pss_nil)
      (pss_cons (ps_if (pt_cmpR op_eq (pe_ix ix_tup (pv 4) pe_int (fun _ _ => rfl)) pe_str (nomark _))
          (pss_cons (ps_set (i := 7) scAsk.nd rfl (Or.inr rfl) (pe_call GR hr11 rfl gR FR.kp bR .nil pass0 (pa_cons (pe_ix ix_tup (pv 4) pe_int (fun _ _ => rfl)) pa_nil)))
          (pss_cons (ps_if (PW.pt (pw_or (pt_cmpR (op_Bne (rnB_own (ok_eq Z.L U 4) U.ne U.b pass0) hr15) (pe_ix ix_tup (pv 6) pe_int (fun _ _ => rfl)) (pv 7) (nomark _)) (pw_or (pt_cmpR (op_neD hr.units) (pe_prop (pe_ix ix_tup (pv 6) pe_int (fun _ _ => rfl)) Z.L.c.cl po3 G3 hr1 gb3 .nil pass0 rfl) (pe_prop (pv 7) Z.L.c.cl po3 G3 hr1 gb3 .nil pass0 rfl) (nomark _)) (pw_or1 (pt_cmpR (op_Bne (rnB_stages (m := 4) Z.L U (ok_eq Z.L U 4)) hr16) (pe_prop (pe_ix ix_tup (pv 6) pe_int (fun _ _ => rfl)) Z.L.c.cl po2 G2 hr1 gb2 .nil pass0 rfl) (pe_prop (pv 7) Z.L.c.cl po2 G2 hr1 gb2 .nil pass0 rfl) (nomark _)))))) (pss_one (ps_ret pe_bl)) pss_nil)
          (pss_cons (ps_setLc (i := 8) (own := [("one", 10)]) (g := gName 10) (tt := tTest (tOp (rIn K true) (tVar 10) (tProp C (getSp C "_sources") [] E0 (tVar 7)))) (te := tTup (tCons (tC (.str "zip")) (tCons (tMake C (spInit K C (A 4) (A 3)) [.ref e0] E0 (tCons (tVar 10) tNil)) tNil))) rfl scAsk.nd rfl rfl
            (sw_true rfl rfl rfl (by decide +kernel)) (pi_str pe_str) (blkOk_by (N := ["program", "plan", "word", "value", "due", "seen", "told", "like", "free", "more", "one"]) (sc := defScope sAsk) (by decide +kernel)) (fun _ _ _ _ _ => pg_name (i := 10) scAsk.nd rfl (Or.inl rfl)) (fun _ _ _ _ _ => by exact pts_one (pt_cmpR op_notIn_seq (pv 10) (pe_prop (pv 7) Z.L.c.cl po3 G3 hr1 gb3 .nil pass0 rfl) rfl)) (fun _ _ _ _ _ => by exact (pe_tup (pa_cons pe_str (pa_cons (pe_make Z.m Z.o22 hr6 rfl Z.L.c.g Z.b0 (.cons rfl .nil) (E := E0) passL (pa_cons (pv 10) pa_nil)) pa_nil)))))
          (pss_cons (ps_for PassesOwn.never rfl (pi_list (pe_ifExp (pt_cmpR op_lt (pe_callB call_len_seq (by rfl) Z.L.N.len PySem.boot_len (pa_cons (pe_prop (pv 7) Z.L.c.cl po2 G2 hr1 gb2 .nil pass0 rfl) pa_nil)) pe_int (nomark _)) (pe_op op_cat (pe_slice sl_list (pv 8) po_none (po_some pe_int)) (pe_lst (pa_cons (pe_tup (pa_cons pe_str (pa_cons pe_int pa_nil))) pa_nil))) (pe_lst pa_nil))) (pg_name (i := 9) scAsk.nd rfl (Or.inl rfl)) (pss_one (ps_if (pt_cmpR (op_Bne (rnB_own (ok_eq Z.L U 4) U.ne U.b pass0) hr15) (pe_meth (pe_ix ix_tup (pv 6) pe_int (fun _ _ => rfl)) Z.L.c.cl Y.m0 (ok_then Y.F0 Z) hr7 Y.b0 .nil (E := E0) passL (pa_cons (pv 9) pa_nil)) (pe_make Z.m Z.o22 hr6 rfl Z.L.c.g Z.b .nil (E := E0) passL (pa_cons (pe_prop (pv 7) Z.L.c.cl po1 G1 hr1 gb1 .nil pass0 rfl) (pa_cons (pe_op op_cat (pe_callTy call_list_of (by rfl) Z.L.N.lst PyProof.Rows.boot_list (pa_cons (pe_prop (pv 7) Z.L.c.cl po2 G2 hr1 gb2 .nil pass0 rfl) pa_nil)) (pe_lst (pa_cons (pv 9) pa_nil))) pa_nil))) (nomark _)) (pss_one (ps_ret pe_bl)) pss_nil)))
          (pss_one (ps_ret (pe_and (pe_cmpR op_eq (pe_prop (pe_ix ix_tup (pv 6) pe_int (fun _ _ => rfl)) Z.L.c.cl po4 G4 hr1 gb4 .nil pass0 rfl) (pe_call GD hr12 rfl gD FD.kp bD .nil pass0 (pa_cons (pe_ix ix_tup (pv 4) pe_int (fun _ _ => rfl)) pa_nil)) (nomark _)) (pe_one (pe_callB call_isi (by rfl) Z.L.N.isi PyProof.Rows.boot_isinstance (pa_cons (pe_prop (pe_ix ix_tup (pv 6) pe_int (fun _ _ => rfl)) Z.L.c.cl po2 G2 hr1 gb2 .nil pass0 rfl) (pa_cons (pe_bltn (v := .ty "tuple") (by rfl) Z.L.N.tup boot_tup' rfl) pa_nil))))))))))) pss_nil)
      (pss_cons (ps_if (pt_cmpR op_eq (pe_ix ix_tup (pv 4) pe_int (fun _ _ => rfl)) pe_str (nomark _)) (pss_one (ps_ret (pe_cmpR (op_eqL mon_self eqB_self hr17) (pe_ix ix_tup (pv 6) pe_int (fun _ _ => rfl)) (pe_op op_cat (pe_callTy call_list_of (by rfl) Z.L.N.lst PyProof.Rows.boot_list (pa_cons (pe_prop (pv 0) Z.L.c.cl po2 G2 hr1 gb2 .nil pass0 rfl) pa_nil)) (pe_lst (pa_cons (pv 3) pa_nil))) (nomark _)))) pss_nil)
      (pss_cons (ps_if (pt_val (pe_callB call_isi (by rfl) Z.L.N.isi PyProof.Rows.boot_isinstance (pa_cons (pe_ix ix_tup (pv 4) pe_int (fun _ _ => rfl)) (pa_cons (pe_bltn (v := .ty "list") (by rfl) Z.L.N.lst PyProof.Rows.boot_list rfl) pa_nil))))
        (pss_one (ps_expr (pe_bm PySem.F.plainAttrs_list PySem.F.slot_list_append PySem.F.type_list_append mt_append (pe_ix ix_tup (pv 4) pe_int (fun _ _ => rfl)) (pa_cons pe_str pa_nil)))) pss_nil)
      (pss_one (ps_ret (pe_cmpR op_eq (pe_callB (call_showV hg hr.units) (by rfl) Z.L.N.repr boot_repr' (pa_cons (pe_ix ix_tup (pv 6) pe_int (fun _ _ => rfl)) pa_nil)) (pe_callB (call_showV hg hr.units) (by rfl) Z.L.N.repr boot_repr' (pa_cons (pe_ix ix_tup (pv 4) pe_int (fun _ _ => rfl)) pa_nil)) (nomark _)))))))))), ?_⟩
    have hpg0 := hpg
    have hpl0 := hpl
    cases hpl with
    | @mk _ b s l ys h hs hl =>
    cases hpg with
    | @mk _ dx ts ss _ _ xs e1 e2 e3 e4 =>
    obtain ⟨r, tw⟩ := ask_res (CB := A 4) (CL := A 3) (CP := A 5) e1 e2 e3 h hs hl ok ask
    refine ⟨_, rfl, _, rfl, _, rfl, tw.2.2.1 H (Same.refl H) _ E0 fun t1 H1 s1 dr => ?_⟩
    have s1 : Same H H1 := s1
    obtain ⟨f1, f2, f3, f4⟩ := fit H1 s1
    refine ⟨_, rfl, v, d, rfl, f1, f2, f3, by omega, _, _, rfl, ?_⟩
    refine ⟨_, rfl, _, rfl, _, rfl, tw.2.2.2 H1 s1 _ E0 fun t2 H2 s2 tr => ?_⟩
    have s2 : Same H1 H2 := s2
    obtain ⟨z, u1, u2, ht1, ht2, pr⟩ := pair2 tw.1 tw.2.1 dr tr
    have z2 := s1.trans s2
    have ht1' := (Kp.of s2).tup ht1
    refine ⟨_, rfl, t2, _, _, .str z, rfl, rfl, ht2, rfl, _, rfl, t1, _, _, .str z, rfl, rfl, ht1', rfl, rfl, _, rfl, ?_⟩
    have same : ∀ x : V, (!decide (x = x)) = false := fun x => by rw [decide_eq_true rfl]; rfl
    refine ifF (same _) ?_
    refine ⟨_, rfl, _, rfl, .ref pa, _, rfl, PlAt.kp (Kp.of z2) hpl0, ok, Pg.nest4 ok, fun q3 H3 hq3 s3 pg3 => ?_⟩
    have s3 : Same H2 H3 := s3
    have z3 := z2.trans s3
    refine ⟨true, two_rq (two_of (PgAt.kp (Kp.of z3) hpg0) pg3 ok ok ⟨fun _ => rfl, fun _ => rfl⟩), fun H4 x4 => ⟨_, rfl, iteF (A := True) ?_⟩⟩
    have z4 : Same H H4 := z3.trans x4
    have s24 : Same H2 H4 := s3.trans x4
    obtain ⟨f1, f2, f3, f4⟩ := fit H4 z4
    refine ⟨_, rfl, v, d, rfl, f1, f2, f3, by omega, _, rfl, rfl, _, rfl, ?_⟩
    refine ifF (same _) ?_
    have dep5 : (Pg.mk s l).nest < 5 := Nat.lt_succ_of_lt (Pg.nest4 ok)
    have e14 := z4 _ _ e1
    refine ⟨_, rfl, a, dx, _, rfl, e14, a, dx, _, .int (l.dep 0), rfl, e14, get_depth _ _ _ _, _, rfl, .ref pa, _, rfl, PlAt.kp (Kp.of z4) hpl0, ok, dep5, fun H5 x5 => ⟨rfl, _, rfl, ?_⟩⟩
    refine ifF (same _) ?_
    have z5 : Same H H5 := z4.trans x5
    have e15 := z5 _ _ e1
    refine ⟨_, rfl, a, dx, _, rfl, e15, a, dx, _, .ref ss, rfl, e15, get_sources _ _ _ _, _, rfl, .ref pa, _, rfl, PlAt.kp (Kp.of z5) hpl0, ok, Pg.nest4 ok, fun q6 H6 hq6 x6 pg6 => ?_⟩
    have z6 : Same H H6 := z5.trans x6
    have s26 : Same H2 H6 := (s24.trans x5).trans x6
    cases pg6 with
    | @mk _ dx6 ts6 ss6 _ _ xs6 g1 g2 g3 g4 =>
    refine ⟨q6, dx6, _, rfl, g1, q6, dx6, _, .ref ss6, rfl, g1, get_sources _ _ _ _, ne_srcs (ws := s :: l.srcs) (Pg.fine _ ok).2 ((Kp.of z6).tup e4) g4 ⟨_, rfl, iteF (A := True) ?_⟩⟩
    have t1' := (Kp.of s26).tup ht1'
    have t2' := (Kp.of s26).tup ht2
    have e16 := z6 _ _ e1
    refine ⟨_, rfl, t1, _, _, .str z, rfl, rfl, t1', rfl, rfl, _, rfl, ?_⟩
    have eqT : ∀ x : V, decide (x = x) = true := fun x => decide_eq_true rfl
    rcases pr with ⟨rfl, h1, h2⟩ | ⟨rfl, st, rfl, hst⟩ | ⟨rfl, i, i7, rfl, rfl⟩ | ⟨rfl, l', gp, np, rfl, rfl, hpp, hpn, okn⟩
    · have h1 := h1.symm
      have h2 := h2.symm
      subst h1 h2
      refine iteF (A := True) ?_
      refine ⟨_, rfl, t1, _, _, _, rfl, rfl, t1', rfl, rfl, _, rfl, iteF (A := True) ?_⟩
      rcases k with ⟨t, ty, kt, k⟩ | ⟨c, ys0, rfl, hc, yl, _, k⟩
      · refine ⟨_, rfl, t1, _, _, v, rfl, rfl, t1', rfl, v, .ty "list", t, .type "list", false, rfl, .ty _, TyX.same ty z6, kt, _, rfl, iteF (A := True) ?_⟩
        obtain ⟨f1, f2, f3, f4⟩ := fit H6 z6
        refine ⟨_, rfl, t2, _, _, v, rfl, rfl, t2', rfl, v, d, rfl, f1, f2, f3, by omega, _, rfl, t1, _, _, v, rfl, rfl, t1', rfl, v, d, rfl, f1, f2, f3, by omega, rfl, ?_⟩
        rw [eqT]
        exact k H6 z6
      · have hc6 := z6 _ _ hc
        refine ⟨_, rfl, t1, _, _, .ref c, rfl, rfl, t1', rfl, .ref c, .ty "list", .type "list", .type "list", true, rfl, .ty _, .base (.lst hc6), kit_ty (by decide +kernel), _, rfl, iteT (B := True) ?_⟩
        refine ⟨_, rfl, t1, _, _, .ref c, rfl, rfl, t1', rfl, .inl ⟨rfl, _, SqL.of hc6⟩, c, ys0, _, rfl, rfl, hc6, small1000 (by omega), ?_⟩
        have kp := kp_upd (o := .lst (ys0 ++ [.str "more"])) hc6
        have bx : Bx c H (upd H6 c (.lst (ys0 ++ [.str "more"]))) := (Bx.of z6).trans Bx.upd
        obtain ⟨⟨d1, f1, f2, f3, f4⟩, k⟩ := k _ bx upd_same
        refine ⟨_, rfl, t2, _, _, .ref c, rfl, rfl, kp.tup t2', rfl, .ref c, d1, rfl, f1, f2, f3, by omega, _, rfl, t1, _, _, .ref c, rfl, rfl, kp.tup t1', rfl, .ref c, d1, rfl, f1, f2, f3, by omega, rfl, ?_⟩
        rw [eqT]
        exact k
    · refine iteF (A := True) ?_
      refine ⟨_, rfl, t1, _, _, _, rfl, rfl, t1', rfl, rfl, _, rfl, iteT (B := True) ?_⟩
      have hst6 := s26 _ _ hst
      refine ⟨_, rfl, t2, _, _, .ref st, rfl, rfl, t2', rfl, _, rfl, a, dx, _, rfl, e16, a, dx, _, .ref ts, rfl, e16, get_stages _ _ _ _, ts, xs, rfl, .inr ((Kp.of z6).tup e2), fun p hp => ?_⟩
      have w1 : Same H6 (upd H6 p (.lst xs)) := same_new hp
      have i1 : upd H6 p (.lst xs) p = some (.lst xs) := upd_same
      generalize upd H6 p (.lst xs) = H7 at w1 i1
      refine ⟨_, rfl, by show 1 ≤ sizeLine; decide, fun p2 hp2 => ?_⟩
      have w2 : Same H7 (upd H7 p2 (.lst [v])) := same_new hp2
      have i2 : upd H7 p2 (.lst [v]) p2 = some (.lst [v]) := upd_same
      generalize upd H7 p2 (.lst [v]) = H8 at w2 i2
      have ok6 : s ∈ K0 ∧ l.len ≤ 6 ∧ l.ok 0 [s] := ok
      refine ⟨p, p2, xs, [v], rfl, rfl, w2 _ _ i1, i2, ?_, fun p3 hp3 => ?_⟩
      · rw [sizeLine_eq, StAll.len e3]
        show l.len + 1 ≤ _
        omega
      have w3 : Same H8 (upd H8 p3 (.lst (xs ++ [v]))) := same_new hp3
      have i3 : upd H8 p3 (.lst (xs ++ [v])) p3 = some (.lst (xs ++ [v])) := upd_same
      generalize upd H8 p3 (.lst (xs ++ [v])) = H9 at w3 i3
      have z9 : Same H H9 := z6.trans (w1.trans (w2.trans w3))
      refine ⟨⟨st, p3, _, _, rfl, rfl, w3 _ _ (w2 _ _ (w1 _ _ hst6)), i3, prs_self fun x hx => ?_⟩, fun Hz xz => ?_⟩
      · rcases List.mem_append.mp hx with hx | hx
        · exact .inr (stall_refs e3 x hx)
        · rw [List.mem_singleton.mp hx]
          exact shw_self (fit H (Same.refl H)).1
      · rcases k with ⟨_, _, _, k⟩ | ⟨_, _, _, _, _, k, _⟩
        · exact k Hz (z9.trans xz)
        · exact k Hz (z9.trans xz)
    · refine iteF (A := True) ?_
      refine ⟨_, rfl, t1, _, _, _, rfl, rfl, t1', rfl, rfl, _, rfl, iteF (A := True) ?_⟩
      refine ⟨_, rfl, t1, _, _, .int (i : Nat), rfl, rfl, t1', rfl, .int (i : Nat), .ty "list", .type "int", .type "list", false, rfl, .ty _, .base (.int _), kit_ty (by decide +kernel), _, rfl, iteF (A := True) ?_⟩
      have fi : ∀ j : _root_.Fin 7, PyData.showable (.int (j.val : Int)) = true ∧ (PyData.shown (.int (j.val : Int))).length ≤ 100 := by decide +kernel
      obtain ⟨f1, f2⟩ := fi ⟨i, i7⟩
      have f3 : (PyData.shown (.int (i : Int))).length ≤ sizeLine := Nat.le_of_lt (small1000 (Nat.le_trans f2 (by decide)))
      refine ⟨_, rfl, t2, _, _, .int (i : Nat), rfl, rfl, t2', rfl, _, .int (i : Nat), rfl, .data (.int _) rfl, f1, f3, Nat.zero_le _, _, rfl, t1, _, _, .int (i : Nat), rfl, rfl, t1', rfl, _, .int (i : Nat), rfl, .data (.int _) rfl, f1, f3, Nat.zero_le _, rfl, ?_⟩
      rw [eqT]
      rcases k with ⟨_, _, _, k⟩ | ⟨_, _, _, _, _, k, _⟩
      · exact k H6 z6
      · exact k H6 z6
    · refine iteT (B := True) ?_
      have hpp6 := PlAt.kp (Kp.of (s2.trans s26)) hpp
      refine ⟨_, rfl, t1, _, _, .ref gp, rfl, rfl, t1', rfl, .ref gp, _, rfl, hpp6, okn, Pg.nest4 okn, fun pL H7 hL x7 pgL => ?_⟩
      have x7 : Same H6 H7 := x7
      have t27 := (Kp.of x7).tup t2'
      have pgN := PgAt.kp (Kp.of (s26.trans x7)) hpn
      refine ⟨_, rfl, t2, _, _, .ref np, rfl, rfl, t27, rfl, _, rfl, true, two_rq (two_of pgN pgL okn okn ⟨fun _ => rfl, fun _ => rfl⟩), fun H8 x8 => ⟨_, rfl, iteF (A := True) ?_⟩⟩
      have x8 : Same H7 H8 := x8
      have pgN := PgAt.kp (Kp.of x8) pgN
      have pgL := PgAt.kp (Kp.of x8) pgL
      have pgN0 := pgN
      have pgL0 := pgL
      have t28 := (Kp.of x8).tup t27
      have okn' : s ∈ K0 ∧ l'.len ≤ 6 ∧ l'.ok 0 [s] := okn
      cases pgN with
      | @mk _ dn tn sn _ _ xn n1 n2 n3 n4 =>
      cases pgL with
      | @mk _ dL tL sL _ _ xL m1 m2 m3 m4 =>
      refine ⟨_, rfl, t2, _, _, .ref np, rfl, rfl, t28, rfl, np, dn, _, rfl, n1, np, dn, _, .ref sn, rfl, n1, get_sources _ _ _ _, _, rfl, pL, dL, _, rfl, m1, pL, dL, _, .ref sL, rfl, m1, get_sources _ _ _ _, ne_srcs (ws := s :: l'.srcs) (Pg.fine _ okn).2 n4 m4 ⟨_, rfl, iteF (A := True) ?_⟩⟩
      obtain ⟨b2, pr2, hb2⟩ := sts_eq (m := 4) n3 m3 okn'.2.2 okn'.2.2 (Nat.le_of_lt (Pg.nest4 okn))
      have b2t : b2 = true := hb2.mpr rfl
      subst b2t
      refine ⟨_, rfl, t2, _, _, .ref np, rfl, rfl, t28, rfl, np, dn, _, rfl, n1, np, dn, _, .ref tn, rfl, n1, get_stages _ _ _ _, _, rfl, pL, dL, _, rfl, m1, pL, dL, _, .ref tL, rfl, m1, get_stages _ _ _ _, true, ⟨tn, tL, xn, xL, rfl, rfl, n2, m2, pr2⟩, fun H9 x9 => ⟨_, rfl, iteF (A := True) ?_⟩⟩
      have x9 : Same H8 H9 := x9
      -- the free sources
      have m19 := x9 _ _ m1
      refine ⟨"abcd", rfl, fun Da hD => ?_⟩
      refine lc_it walk_str (fun i H' => Same H9 H' ∧ ∃ es : List V, H' Da = some (.lst es) ∧ es.length ≤ i ∧ ∀ e ∈ es, ∃ z ∈ K0, z ∉ s :: l'.srcs ∧ StV K C H' e (.zip (.mk z .nil))) ⟨same_new hD, [], upd_same, Nat.zero_le _, fun _ h => by cases h⟩ (fun _ _ _ _ => trivial) ?_ ?_
      · rintro i x Ha Hb hi ⟨r1, es, r2, r3, r4⟩ ⟨rfl, c, hc, rfl⟩
        have hk := abcd_at i c hc
        have ma := r1 _ _ m19
        refine ⟨rfl, _, rfl, _, rfl, pL, dL, _, rfl, ma, pL, dL, _, .ref sL, rfl, ma, get_sources _ _ _ _, sL, _, rfl, .inr ((Kp.of (x9.trans r1)).tup m4), rfl, all_flat _, _, rfl, ?_⟩
        by_cases cm : (⟨#[c]⟩ : Str) ∈ s :: l'.srcs
        · rw [show (if true = true then !inV (V.str ⟨#[c]⟩) ((s :: l'.srcs).map V.str) else inV (V.str ⟨#[c]⟩) ((s :: l'.srcs).map V.str)) = false from by
            rw [if_pos rfl, in_dec, decide_eq_true cm]; rfl]
          exact iteF (A := True) ⟨r1, es, r2, Nat.le_succ_of_le r3, r4⟩
        · rw [show (if true = true then !inV (V.str ⟨#[c]⟩) ((s :: l'.srcs).map V.str) else inV (V.str ⟨#[c]⟩) ((s :: l'.srcs).map V.str)) = true from by
            rw [if_pos rfl, in_dec, decide_eq_false cm]; rfl]
          have zk : (⟨#[c]⟩ : Str) ∈ K0 := List.mem_of_getElem? hk
          have okz : (Pg.mk ⟨#[c]⟩ .nil).ok := ⟨zk, by decide, trivial⟩
          refine iteT (B := True) ⟨_, rfl, ?_⟩
          refine mk_goodR okz (.inr (Z.h0 _)) .nil fun q Hc y1 hq pgq => ?_
          refine ⟨by show 2 ≤ sizeLine; decide, fun u hu => ?_⟩
          have y2 : Same Hc (upd Hc u (.tup [.str "zip", .ref q])) := same_new hu
          have f2 : upd Hc u (.tup [.str "zip", .ref q]) u = some (.tup [.str "zip", .ref q]) := upd_same
          generalize upd Hc u (.tup [.str "zip", .ref q]) = Hd at y2 f2
          have ya := y1.trans y2
          have r2' := ya _ _ r2
          refine ⟨es, r2', small1000 (Nat.le_trans r3 (Nat.le_of_lt (Nat.lt_trans hi (by decide +kernel)))), ?_, es ++ [.ref u], upd_same, ?_, ?_⟩
          · intro bb o e
            rw [upd_ne (ne_of_none e hD)]
            exact ya _ _ (r1 _ _ e)
          · rw [List.length_append]
            show es.length + 1 ≤ i + 1
            omega
          · intro e he
            have kk := kp_upd (o := .lst (es ++ [.ref u])) r2'
            rcases List.mem_append.mp he with he | he
            · obtain ⟨z, h1, h2, h3⟩ := r4 e he
              exact ⟨z, h1, h2, StV.kp ((Kp.of ya).trans kk) h3⟩
            · rw [List.mem_singleton.mp he]
              exact ⟨_, zk, cm, StV.kp kk (.zip (.inl (.inl f2)) (PgAt.kp (Kp.of y2) pgq))⟩
      · rintro Ha ⟨r1, es, r2, r3, r4⟩
        have ya := x9.trans r1
        have ma := ya _ _ m1
        have za : Same H Ha := ((z6.trans x7).trans x8).trans ya
        have lenL := StAll.len m3
        have fin : ∀ Hz, Same Ha Hz → Q (.bl true) Hz := fun Hz xz => by
          rcases k with ⟨_, _, _, k⟩ | ⟨_, _, _, _, _, k, _⟩
          · exact k Hz (za.trans xz)
          · exact k Hz (za.trans xz)
        refine ⟨_, rfl, pL, dL, _, rfl, ma, pL, dL, _, .ref tL, rfl, ma, get_stages _ _ _ _, tL, xL, rfl, .inr ((Kp.of ya).tup m2), _, _, rfl, rfl, _, rfl, ?_⟩
        refine dif (fun c6 => ?A) (fun c6 => ?B)
        case' A =>
          refine ⟨_, rfl, 1, rfl, Da, es, rfl, SqL.of r2, fun p hp => ?_⟩
          have cutm : ∀ e ∈ cutV es none (some 1), e ∈ es := fun e he => by
            unfold cutV at he
            exact List.mem_of_mem_drop (List.mem_of_mem_take he)
          have cutl := cutV_length es none (some 1)
          generalize cutV es none (some 1) = fs at cutm cutl
          have y1 : Same Ha (upd Ha p (.lst fs)) := same_new hp
          have g1' : upd Ha p (.lst fs) p = some (.lst fs) := upd_same
          generalize upd Ha p (.lst fs) = Hb at y1 g1'
          refine ⟨by show 2 ≤ sizeLine; decide, fun q hq => ?_⟩
          have y2 : Same Hb (upd Hb q (.tup [.str "skip", .int 1])) := same_new hq
          have g2' : upd Hb q (.tup [.str "skip", .int 1]) q = some (.tup [.str "skip", .int 1]) := upd_same
          generalize upd Hb q (.tup [.str "skip", .int 1]) = Hc at y2 g2'
          refine ⟨by show 1 ≤ sizeLine; decide, fun r hr5 => ?_⟩
          have y3 : Same Hc (upd Hc r (.lst [.ref q])) := same_new hr5
          have g3' : upd Hc r (.lst [.ref q]) r = some (.lst [.ref q]) := upd_same
          generalize upd Hc r (.lst [.ref q]) = Hd at y3 g3'
          have e4' : ("abcd" : Str).cps.size = 4 := by decide +kernel
          refine ⟨p, r, fs, [.ref q], rfl, rfl, y3 _ _ (y2 _ _ g1'), g3', ?_, fun w hw => ?_⟩
          · rw [sizeLine_eq]
            show fs.length + 1 ≤ _
            omega
          have y4 : Same Hd (upd Hd w (.lst (fs ++ [.ref q]))) := same_new hw
          have g4' : upd Hd w (.lst (fs ++ [.ref q])) w = some (.lst (fs ++ [.ref q])) := upd_same
          generalize upd Hd w (.lst (fs ++ [.ref q])) = Hw at y4 g4'
          have yw : Same Ha Hw := y1.trans (y2.trans (y3.trans y4))
          have all : ∀ e ∈ fs ++ [.ref q], l'.len < 6 ∧ ∃ y : Sg, StV K C Hw e y ∧ y.sd ∧ y ≠ .flat ∧ ∀ z ∈ y.srcs, z ∉ s :: l'.srcs := fun e he => by
            refine ⟨by omega, ?_⟩
            rcases List.mem_append.mp he with he | he
            · obtain ⟨z, h1, h2, h3⟩ := r4 e (cutm e he)
              refine ⟨_, StV.kp (Kp.of yw) h3, ⟨h1, by decide, trivial⟩, (fun z => by cases z), fun z' hz' => ?_⟩
              rcases List.mem_cons.mp hz' with e1 | e1
              · rw [e1]; exact h2
              · cases e1
            · rw [List.mem_singleton.mp he]
              exact ⟨.num "skip" 1, .num (.inl (.inl (y4 _ _ (y3 _ _ g2')))), ⟨by decide +kernel, by decide, by decide⟩, (fun z => by cases z), fun z' hz' => by cases hz'⟩
          generalize fs ++ [.ref q] = ms at g4' all
        case' B =>
          refine ⟨by show 0 ≤ sizeLine; decide, fun w hw => ?_⟩
          have yw : Same Ha (upd Ha w (.lst [])) := same_new hw
          have g4' : upd Ha w (.lst []) w = some (.lst []) := upd_same
          generalize upd Ha w (.lst []) = Hw at yw g4'
          obtain ⟨ms, hms⟩ : ∃ ms : List V, ms = [] := ⟨_, rfl⟩
          rw [← hms] at g4'
          have all : ∀ e ∈ ms, l'.len < 6 ∧ ∃ y : Sg, StV K C Hw e y ∧ y.sd ∧ y ≠ .flat ∧ ∀ z ∈ y.srcs, z ∉ s :: l'.srcs := fun e he => by rw [hms] at he; cases he
        all_goals
          refine ⟨w, rfl, ⟨_, SqL.of g4'⟩, ?_⟩
          refine for_it (walk_list (xs := ms)) (fun i σ H' => (∃ v9 : Option V, σ = [some (.ref a), some (.ref pa), some (.str word), some v, some (.ref t1), some (.str d.shown), some (.ref t2), some (.ref pL), some (.ref Da), v9, none]) ∧ Same Hw H')
            ⟨⟨none, rfl⟩, Same.refl Hw⟩ (fun i σ H' _ z => z.2.seq (SqL.of g4')) ?_ ?_
          · rintro i e σ Hx Hy hi ⟨⟨v9, rfl⟩, q1⟩ ⟨rfl, he⟩
            obtain ⟨l6, y, hy0, ysd, ynf, ydis⟩ := all e (List.mem_of_getElem? he)
            have zx := ya.trans (yw.trans q1)
            have hy := StV.kp (Kp.of q1) hy0
            have okS : (Pg.mk s (l'.snoc y)).ok := ⟨okn'.1, by rw [len_snoc]; omega, ok_snoc okn'.2.2 (ysd.ok (fun z => absurd z ynf) ydis)⟩
            have nx1 := zx _ _ n1
            have lenN := StAll.len n3
            have stN := StAll.snoc hy (StAll.kp (Kp.of zx) n3)
            have lxe : ∀ xs0 : List V, xs0.length = l'.len → xs0.length < 6 := fun xs0 h => by omega
            refine ⟨_, rfl, t2, _, _, .ref np, rfl, rfl, (Kp.of zx).tup t28, rfl, np, dn, _, rfl, nx1, get_meth (by decide +kernel), _, rfl, ?_⟩
            refine ⟨np, tn, s, xn, e, rfl, ⟨dn, sn, _, nx1, okn'.1, (Kp.of zx).tup n2, by omega⟩, .inl ⟨by omega, _, rest_good 0 stN okS.2.2, fun p1 d1 ts1 ss1 Hm sm hp1 h1 h2 h3 => ?_⟩⟩
            have sm : Same Hy Hm := sm
            have mm := sm _ _ (zx _ _ m1)
            have m2m := (Kp.of (zx.trans sm)).tup m2
            refine ⟨_, rfl, pL, dL, _, rfl, mm, pL, dL, _, .str s, rfl, mm, get_source _ _ _ _, _, rfl, pL, dL, _, rfl, mm, pL, dL, _, .ref tL, rfl, mm, get_stages _ _ _ _, tL, xL, rfl, .inr m2m, fun p2 hp2 => ?_⟩
            have y1 : Same Hm (upd Hm p2 (.lst xL)) := same_new hp2
            have f1 : upd Hm p2 (.lst xL) p2 = some (.lst xL) := upd_same
            generalize upd Hm p2 (.lst xL) = Hn1 at y1 f1
            refine ⟨_, rfl, by show 1 ≤ sizeLine; decide, fun q2 hq2 => ?_⟩
            have y2 : Same Hn1 (upd Hn1 q2 (.lst [e])) := same_new hq2
            have f2 : upd Hn1 q2 (.lst [e]) q2 = some (.lst [e]) := upd_same
            generalize upd Hn1 q2 (.lst [e]) = Hn2 at y2 f2
            refine ⟨p2, q2, xL, [e], rfl, rfl, y2 _ _ f1, f2, ?_, fun r2 hr2 => ?_⟩
            · rw [sizeLine_eq]
              show xL.length + 1 ≤ _
              omega
            have y3 : Same Hn2 (upd Hn2 r2 (.lst (xL ++ [e]))) := same_new hr2
            have f3 : upd Hn2 r2 (.lst (xL ++ [e])) r2 = some (.lst (xL ++ [e])) := upd_same
            generalize upd Hn2 r2 (.lst (xL ++ [e])) = Hn3 at y3 f3
            have ym : Same Hm Hn3 := y1.trans (y2.trans y3)
            have stL := StAll.snoc (StV.kp (Kp.of (sm.trans ym)) hy) (StAll.kp (Kp.of (zx.trans (sm.trans ym))) m3)
            refine mk_goodR okS (.inl (SqL.of f3)) stL fun p3 Ho y4 hp3 pg3 => ?_
            have yo : Same Hm Ho := ym.trans y4
            have pg1 : PgAt K C Ho (.ref p1) (.mk s (l'.snoc y)) := PgAt.kp (Kp.of yo) (.mk h1 h2 (StAll.kp (Kp.of sm) stN) h3)
            refine ⟨true, two_rq (two_of pg1 pg3 okS okS ⟨fun _ => rfl, fun _ => rfl⟩), fun Hz xz => ⟨_, rfl, iteF (A := True) ⟨⟨_, rfl⟩, q1.trans (sm.trans (yo.trans xz))⟩⟩⟩
          · rintro σ Hx ⟨⟨v9, rfl⟩, q1⟩
            have zx := ya.trans (yw.trans q1)
            have nx1 := zx _ _ n1
            have hx := (x7.trans x8).trans zx
            refine ⟨_, rfl, t2, _, _, .ref np, rfl, rfl, (Kp.of zx).tup t28, rfl, np, dn, _, rfl, nx1, np, dn, _, .int (l'.dep 0), rfl, nx1, get_depth _ _ _ _, ?_⟩
            refine ⟨_, rfl, t1, _, _, .ref gp, rfl, rfl, (Kp.of hx).tup t1', rfl, .ref gp, _, rfl, PlAt.kp (Kp.of hx) hpp6, okn, Nat.lt_succ_of_lt (Pg.nest4 okn), fun Hz xz => ⟨rfl, _, rfl, ?_⟩⟩
            have xz : Same Hx Hz := xz
            refine dif (fun _ => ?_) (fun c => absurd rfl c)
            have nz := xz _ _ nx1
            exact ⟨_, rfl, t2, _, _, .ref np, rfl, rfl, (Kp.of (zx.trans xz)).tup t28, rfl, np, dn, _, rfl, nz, np, dn, _, .ref tn, rfl, nz, get_stages _ _ _ _, .ref tn, .ty "tuple", .type "tuple", .type "tuple", true, rfl, .ty _, tyT ((Kp.of (zx.trans xz)).tup n2), kit_ty (by decide +kernel), fin Hz ((yw.trans q1).trans xz)⟩
end
end K02
set_option Elab.async false
set_option linter.all false
set_option maxRecDepth 100000
set_option maxHeartbeats 4000000
namespace K02
open PySem L2 VK
/-- a thing put behind a good row that is no stage, or cannot stand there -/
def Wrong (K : Fg) (C : Addr) (H : Hp) (s : Str) (l : Sgs) (v : V) : Prop := IsSt K C H v false ∨ ∃ x, StV K C H v x ∧ x.vd ∧ x.srcs.length ≤ 1000 ∧ x.can (l.dep 0) (s :: l.srcs) = false
theorem rest_wrong {K : Fg} {C : Addr} {H : Hp} {v : V} : ∀ {xs : List V} {l : Sgs} {d : Int} {tk : List Str} (i : Nat), StAll K C H xs l → l.ok d tk →
    (IsSt K C H v false ∨ ∃ x, StV K C H v x ∧ x.vd ∧ x.srcs.length ≤ 1000 ∧ x.can (l.dep d) (tk ++ l.srcs) = false) → Rest K C H d tk i (xs ++ [v]) (.inr (i + xs.length))
  | _, _, d, tk, i, .nil, _, w => by
    rcases w with h | ⟨x, h1, h2, h3, h4⟩
    · exact .bad h
    · have h4 : x.can d (tk ++ []) = false := h4
      rw [List.append_nil] at h4
      exact .cant h1 h2 h3 h4
  | _, _, d, tk, i, .cons (x := x) (r := r) (vs := vs) h t, o, w => by
    have o : x.ok d tk ∧ r.ok (x.dep d) (tk ++ x.srcs) := o
    have z := rest_wrong (i + 1) t o.2 (w.imp id fun ⟨y, h1, h2, h3, h4⟩ => ⟨y, h1, h2, h3, by rw [List.append_assoc]; exact h4⟩)
    rw [show i + 1 + vs.length = i + (vs.length + 1) by omega] at z
    exact .go h o.1.vd (Sg.few o.1) o.1.can z
/-- what the program tells of it -/
theorem told_wrong {K : Fg} {C CB CL CP a : Addr} {s : Str} {l : Sgs} {H : Hp} {v : V} {Q : VK} {E : XK} {dx ts ss : Addr} {xs : List V} (e1 : H a = some (.ins C dx (flds s ts ss (l.dep 0)))) (e2 : SqT K H ts xs) (e3 : StAll K C H xs l) (ok : (Pg.mk s l).ok) (w : Wrong K C H s l v)
    (k : ∀ (t : Addr) (H' : Hp), Same H H' → ToldRes K C s xs v H' t (if l.len < 6 then .stg l.len else .long) → Q (.ref t) H') : spTold K C CB CL CP [.ref a, .str "then", v] H Q E := by
  have ok' : s ∈ K0 ∧ l.len ≤ 6 ∧ l.ok 0 [s] := ok
  have lx := StAll.len e3
  refine ⟨a, ts, ss, dx, s, _, _, v, rfl, e1, .inl ⟨rfl, a, ts, s, xs, v, rfl, ⟨dx, ss, l.dep 0, e1, ok'.1, e2, by omega⟩, ?_⟩⟩
  by_cases h6 : l.len < 6
  · rw [if_pos h6] at k
    refine .inl ⟨by omega, _, rest_wrong 0 e3 ok'.2.2 w, fun H' ee he s1 h => ⟨ee, "position", _, rfl, h, .inr (.inr ⟨rfl, rfl, fun t H2 s2 ht => k t H2 (s1.trans s2) ?_⟩)⟩⟩
    rw [Nat.zero_add, lx] at ht
    exact ht
  · rw [if_neg h6] at k
    exact .inr ⟨by omega, fun H' e st he s1 hx hst => ⟨e, "value", _, rfl, hx, .inr (.inl ⟨rfl, rfl, fun t H2 s2 q => k t H2 (s1.trans s2) ⟨st, q, s2 _ _ hst⟩⟩)⟩⟩
/-- what the program tells of a stage that may stand there -/
theorem told_right {K : Fg} {C CB CL CP a : Addr} {s : Str} {l : Sgs} {y : Sg} {H : Hp} {v : V} {Q : VK} {E : XK} {dx ts ss : Addr} {xs : List V} (e1 : H a = some (.ins C dx (flds s ts ss (l.dep 0)))) (e2 : SqT K H ts xs) (e3 : StAll K C H xs l) (ok : (Pg.mk s l).ok) (hy : StV K C H v y) (h6 : l.len < 6) (oks : (Pg.mk s (l.snoc y)).ok)
    (k : ∀ (t : Addr) (H' : Hp), Same H H' → ToldRes K C s xs v H' t (.made (l.snoc y)) → Q (.ref t) H') : spTold K C CB CL CP [.ref a, .str "then", v] H Q E := by
  have ok' : s ∈ K0 ∧ l.len ≤ 6 ∧ l.ok 0 [s] := ok
  have lx := StAll.len e3
  have st := StAll.snoc hy e3
  refine ⟨a, ts, ss, dx, s, _, _, v, rfl, e1, .inl ⟨rfl, a, ts, s, xs, v, rfl, ⟨dx, ss, l.dep 0, e1, ok'.1, e2, by omega⟩, .inl ⟨by omega, _, rest_good 0 st oks.2.2, ?_⟩⟩⟩
  refine fun p dx ts ss H2 s1 hp h t1 t2 t H3 s3 ht => k t H3 (s1.trans s3) ⟨p, ht, ?_⟩
  exact PgAt.kp (Kp.of s3) (.mk h t1 (StAll.kp (Kp.of s1) st) t2)
/-- a long row: what is put behind is told as too long, whatever it is -/
theorem told_long {K : Fg} {C CB CL CP a : Addr} {s : Str} {l : Sgs} {H : Hp} {v : V} {Q : VK} {E : XK} {dx ts ss : Addr} {xs : List V} (e1 : H a = some (.ins C dx (flds s ts ss (l.dep 0)))) (e2 : SqT K H ts xs) (e3 : StAll K C H xs l) (ok : (Pg.mk s l).ok) (h6 : l.len = 6)
    (k : ∀ (t : Addr) (H' : Hp), Same H H' → ToldRes K C s xs v H' t .long → Q (.ref t) H') : spTold K C CB CL CP [.ref a, .str "then", v] H Q E := by
  have ok' : s ∈ K0 ∧ l.len ≤ 6 ∧ l.ok 0 [s] := ok
  have lx := StAll.len e3
  refine ⟨a, ts, ss, dx, s, _, _, v, rfl, e1, .inl ⟨rfl, a, ts, s, xs, v, rfl, ⟨dx, ss, l.dep 0, e1, ok'.1, e2, by omega⟩, ?_⟩⟩
  exact .inr ⟨by omega, fun H' e st he s1 hx hst => ⟨e, "value", _, rfl, hx, .inr (.inl ⟨rfl, rfl, fun t H2 s2 q => k t H2 (s1.trans s2) ⟨st, q, s2 _ _ hst⟩⟩)⟩⟩
/-- a zip whose source is taken cannot stand there -/
theorem zip_cant {K : Fg} {C : Addr} {H : Hp} {s : Str} {l : Sgs} {v : V} {g : Pg} (hv : StV K C H v (.zip g)) (ok : g.ok) (t : (Sg.zip g).can (l.dep 0) (s :: l.srcs) = false) (few : (Sg.zip g).srcs.length ≤ 1000) (vd : (Sg.zip g).vd) : Wrong K C H s l v := .inr ⟨_, hv, vd, few, t⟩
end K02
set_option Elab.async false
set_option linter.all false
set_option maxRecDepth 100000
set_option maxHeartbeats 4000000
namespace K02
open PySem L2 VK
/-- the pairs that are no stages -/
theorem is_map {K : Fg} {C a : Addr} {H : Hp} (h : SqT K H a [.str "map"]) : IsSt K C H (.ref a) false := by
  have := IsSt.one (C := C) h
  rwa [show decide (V.str "map" = V.str "flat") = false by decide +kernel] at this
theorem is_take {K : Fg} {C a : Addr} {H : Hp} (h : SqT K H a [.str "take", .int 0]) : IsSt K C H (.ref a) false := .two h (.num (i := 0) (by decide +kernel))
theorem is_lots {K : Fg} {C a : Addr} {H : Hp} (h : SqT K H a [.str "lots", .int 5]) : IsSt K C H (.ref a) false := .two h (.num (i := 5) (by decide +kernel))
theorem is_keep {K : Fg} {C a : Addr} {H : Hp} (h : SqT K H a [.str "keep", .str "P"]) : IsSt K C H (.ref a) false := by
  have := IsSt.two (C := C) h (.nm (n := "P") (by decide +kernel) (by decide +kernel))
  rwa [show isNm "P" = false by decide +kernel] at this
theorem is_zipt {K : Fg} {C a b : Addr} {H : Hp} {xs : List V} (W : Lk K C) (h : SqT K H a [.str "zip", .ref b]) (hb : SqT K H b xs) : IsSt K C H (.ref a) false := .two h (.zip (tyT hb) (W.kt "tuple" (by decide)).1)
theorem is_oth {K : Fg} {C : Addr} {H : Hp} {v : V} {T : String} (ty : TyX K H v (.type T)) (k : PySem.W.kitOne K (.type T) (.type "tuple") = some false) : IsSt K C H v false := .other ty k
theorem is_non {K : Fg} {C : Addr} {H : Hp} : IsSt K C H .non false := .other (t := .type "NoneType") (.base .non) (kit_ty (by decide +kernel))
theorem is_flatS {K : Fg} {C : Addr} {H : Hp} {z : Str} : IsSt K C H (.str z) false := .other (t := .type "str") (.base (.str z)) (kit_ty (by decide +kernel))
theorem is_intV {K : Fg} {C : Addr} {H : Hp} {i : Int} : IsSt K C H (.int i) false := .other (t := .type "int") (.base (.int i)) (kit_ty (by decide +kernel))
theorem is_lst {K : Fg} {C a : Addr} {H : Hp} {xs : List V} (h : SqL K H a xs) : IsSt K C H (.ref a) false := .other (tyL h) (kit_ty (by decide +kernel))
/-- a zip whose side shows a source that is taken -/
theorem cant_zip {g : Pg} {d : Int} {tk : List Str} {z : Str} (h1 : z ∈ (Sg.zip g).srcs) (h2 : z ∈ tk) : (Sg.zip g).can d tk = false := by
  show (!((Sg.zip g).srcs.any fun s => decide (s ∈ tk))) = false
  rw [List.any_eq_true.mpr ⟨z, h1, decide_eq_true h2⟩]
  rfl
theorem wrong_last {K : Fg} {C : Addr} {H : Hp} {s z : Str} {l : Sgs} {v : V} (hv : StV K C H v (.zip (.mk z .nil))) (h : z ∈ s :: l.srcs) : Wrong K C H s l v :=
  .inr ⟨_, hv, trivial, (by show (1 : Nat) ≤ 1000; decide), cant_zip (z := z) List.mem_cons_self h⟩
theorem wrong_nest {K : Fg} {C : Addr} {H : Hp} {s z : Str} {l : Sgs} {v : V} (hv : StV K C H v (.zip (.mk z (.cons (.zip (.mk s .nil)) .nil)))) : Wrong K C H s l v :=
  .inr ⟨_, hv, trivial, (by show (2 : Nat) ≤ 1000; decide), cant_zip (z := s) (List.mem_cons_of_mem _ List.mem_cons_self) List.mem_cons_self⟩
end K02
set_option Elab.async false
set_option linter.all false
set_option maxRecDepth 100000
set_option maxHeartbeats 4000000
namespace K02
open PySem L2 VK
abbrev sOdd : Stmt := top 39
theorem scOdd : FnScope ["program", "plan", "many", "free", "stage", "told", "due", "one"] ["program", "plan"] (defScope sOdd) := ⟨rfl, rfl, rfl, by decide +kernel, rfl, by decide +kernel, by decide +kernel⟩
def spOdd (K : Fg) (C : Addr) : Sp := fun vs H Q _ => ∃ (a pa : Addr) (g : Pg), vs = [.ref a, .ref pa] ∧ PgAt K C H (.ref a) g ∧ PlAt K H (.ref pa) g ∧ g.ok ∧ g.srcs.length ≤ 3 ∧ ∀ H', Same H H' → Q (.bl true) H'
/-- the answer to a row that is too long: a text, and a list -/
def DLong : Eqb := fun x y b H => DFlatB x y b H ∨ DTrue (DList fun x y H => DSelf x y true H) x y b H
theorem mon_dlist : Mon (DList fun x y H => DSelf x y true H) := by
  first
    | exact mon_list mon_self.g
    | exact Mon.list mon_self.g
theorem mon_long : MonB DLong := mon_flatB.or (mon_true mon_dlist)
theorem eqB_long {X : Cx} : EqB X 1 DLong := (eqB_flat.mono (Nat.zero_le _)).or (eqB_list mon_self eqB_self)
theorem at_last {ws : List Str} (h : 0 < ws.length) : ∃ z ∈ ws, atI (ws.map V.str) (-1) = some (.str z) := by
  have lt : ws.length - 1 < ws.length := by omega
  refine ⟨ws[ws.length - 1], List.getElem_mem lt, ?_⟩
  unfold atI ixN
  rw [if_neg (by omega), if_pos (by rw [List.length_map]; omega)]
  show (ws.map V.str)[(-1 + ((ws.map V.str).length : Int)).toNat]? = _
  rw [List.length_map, show (-1 + (ws.length : Int)).toNat = ws.length - 1 by omega, List.getElem?_map, List.getElem?_eq_getElem lt]
  rfl
theorem Wrong.same {K : Fg} {C : Addr} {H H' : Hp} {s : Str} {l : Sgs} {v : V} (h : Wrong K C H s l v) (z : Same H H') : Wrong K C H' s l v := by
  rcases h with h | ⟨x, h1, h2, h3, h4⟩
  · exact .inl (h.same z)
  · exact .inr ⟨x, StV.kp (Kp.of z) h1, h2, h3, h4⟩
theorem six {n : Nat} (h : n < 6) : ((n : Int) < 6) := by omega
theorem ifT {A B : Prop} {b : Bool} (e : b = true) (h : A) : if b = true then A else B := by
  rw [e]
  exact iteT h
theorem shw_stage (n : Nat) (h : n < 7) {K : Fg} {H : Hp} {t : Addr} (ht : SqT K H t [.str "stage", .int (n : Nat)]) : FitV K (.ref t) (.tuple [.str "stage", .int (n : Nat)]) H := by
  have fi : ∀ j : _root_.Fin 7, PyData.showable (.tuple [.str "stage", .int (j.val : Int)]) = true ∧ (PyData.shown (.tuple [.str "stage", .int (j.val : Int)])).length ≤ 100 ∧ (PyData.tuple [.str "stage", .int (j.val : Int)]).depth ≤ 10 ∧ (PyData.tuple [.str "stage", .int (j.val : Int)]).hasDict = false := by decide +kernel
  obtain ⟨f1, f2, f3, f4⟩ := fi ⟨n, h⟩
  exact ⟨.data (.tup ht (.cons (.str _) (.cons (.int _) .nil))) f4, f1, Nat.le_of_lt (small1000 (Nat.le_trans f2 (by decide))), f3⟩
/-- two rows of the same sources are equal -/
theorem eq_srcs {K : Fg} {H : Hp} {t1 t2 : Addr} {ws : List Str} {Q : VK} (h : ∀ z ∈ ws, z ∈ K0) (h1 : SqT K H t1 (ws.map V.str)) (h2 : SqT K H t2 (ws.map V.str)) (k : Q (.bl true) H) : rEqD K (.ref t1) (.ref t2) H Q := by
  obtain ⟨a, b⟩ := lay_strs ws h
  have sh : SeqAt.shaped (.tuple (ws.map PyData.str)) = true := by
    unfold SeqAt.shaped
    simp [PyData.canLay0, PyData.depth, a, b]
  refine ⟨_, _, .tup h1 (dp_strs ws), .tup h2 (dp_strs ws), sh, sh, ?_⟩
  rw [show PyData.eqv (.tuple (ws.map PyData.str)) (.tuple (ws.map PyData.str)) = true from eqv_strs ws]
  exact k
section
variable {P : Program} {w : World} {K : Fg} {mg : Str → Option Value} {base : Heap} {A I : Nat → Addr} {D J : Nat → FuncData} {aS a1 a2 C e0 fq : Addr} {dq : FuncData} {M : Nat → Addr} {T : Nat → FuncData}
theorem ok_odd {f fT : Addr} {fd dT : FuncData} (F : Fun K "_law_odd_right" "_law_odd_right" sOdd f fd) (Z : Lp K mg A I D J aS a1 a2 C e0) (W : Lk K C) (Y : Lm K C mg A M T)
    (gT : mg "_law_told" = some (.ref fT)) (FT : Fun K "_law_told" "_law_told" sTold fT dT) (bT : Binds K dT ["program", "word", "value"] []) : RunG P w K mg base 19 f fd ["program", "plan"] (spOdd K C) := by
  have GT : FnOk P w K mg base CX0 8 fT dT ["program", "word", "value"] (spTold K C (A 4) (A 3) (A 5)) := ok_told FT Z Y
  obtain ⟨q1, ga1, gd1, po1, G1, gb1⟩ := Z.L.p1 P w base
  obtain ⟨q2, ga2, gd2, po2, G2, gb2⟩ := Z.L.p2 P w base
  obtain ⟨q3, ga3, gd3, po3, G3, gb3⟩ := Z.L.p3 P w base
  obtain ⟨q4, ga4, gd4, po4, G4, gb4⟩ := Z.L.p4 P w base
  refine runG_of F scOdd (fun vs H Q E h => ?_) (fun B cdv outer s0 H vs Q E hg hr h => ?_)
  · obtain ⟨a, pa, g, rfl, _⟩ := h
    rfl
  · obtain ⟨a, pa, g, rfl, hpg, hpl, ok, few, k⟩ := h
    have hr1 := hr.mono (show 2 ≤ 18 by decide)
    have hr2 := hr.mono (show 1 + 1 ≤ 18 by decide)
    have hr6 := hr.mono (show 6 ≤ 18 by decide)
    have hr8 := hr.mono (show 8 ≤ 18 by decide)
    refine ⟨_, pss_cons (ps_par (by rfl) scOdd.nd rfl rfl (show 2 ≠ 3 by decide) rfl rfl (pa_cons (pe_callB call_len_seq (by rfl) Z.L.N.len PySem.boot_len (pa_cons (pe_ix ix_tup (pv 1) pe_int (fun _ _ => rfl)) pa_nil)) (pa_cons (pe_ix ix_list (pe_lc (own := [("one", 7)]) (g := gName 7) (tt := tTest (tOp (rIn K true) (tVar 7) (tProp C (getSp C "_sources") [] E0 (tVar 0)))) (te := tVar 7) rfl scOdd.nd (pi_str pe_str) (blkOk_by (N := ["program", "plan", "many", "free", "stage", "told", "due", "one"]) (sc := defScope sOdd) (by decide +kernel))
          (fun _ _ _ _ _ => pg_name (i := 7) scOdd.nd rfl (Or.inl rfl)) (fun _ _ _ _ _ => by exact pts_one (pt_cmpR op_notIn_seq (pv 7) (pe_prop (pv 0) Z.L.c.cl po3 G3 hr1 gb3 .nil pass0 rfl) rfl)) (fun _ _ _ _ _ => by exact pv 7)) pe_int (fun _ _ => rfl)) pa_nil)) (by rfl))
      (pss_cons (ps_for PassesOwn.never rfl (pi_list (pe_lst (pa_cons (pe_tup (pa_cons pe_str (pa_cons (pe_make Z.m Z.o22 hr6 rfl Z.L.c.g Z.b0 (.cons (show RelV (.ref e0) (Value.ref e0) from rfl) .nil) (E := E0) passL (pa_cons (pe_ix ix_tup (pe_prop (pv 0) Z.L.c.cl po3 G3 hr1 gb3 .nil pass0 rfl) (pe_un un_neg pe_int) (fun _ _ => rfl)) pa_nil)) pa_nil)))
          (pa_cons (pe_tup (pa_cons pe_str (pa_cons (pe_make Z.m Z.o22 hr6 rfl Z.L.c.g Z.b .nil (E := E0) passL (pa_cons (pv 3) (pa_cons (pe_lst (pa_cons (pe_tup (pa_cons pe_str (pa_cons (pe_make Z.m Z.o22 hr6 rfl Z.L.c.g Z.b0 (.cons (show RelV (.ref e0) (Value.ref e0) from rfl) .nil) (E := E0) passL (pa_cons (pe_prop (pv 0) Z.L.c.cl po1 G1 hr1 gb1 .nil pass0 rfl) pa_nil)) pa_nil))) pa_nil)) pa_nil))) pa_nil))) pa_nil)))) (pg_name (i := 4) scOdd.nd rfl (Or.inl rfl))
        (pss_cons (ps_if (pt_cmpR op_ne (pe_ix ix_tup (pe_call GT hr8 rfl gT FT.kp bT .nil pass0 (pa_cons (pv 0) (pa_cons pe_str (pa_cons (pv 4) pa_nil)))) pe_int (fun _ _ => rfl)) (pe_ifExp (pt_cmpR op_lt (pv 2) pe_int (nomark _)) pe_str pe_str) (nomark _)) (pss_one (ps_ret pe_bl)) pss_nil)
        (pss_one (ps_if (PW.pt (pw_and (pt_cmpR op_lt (pv 2) pe_int (nomark _)) (pw_and1 (pt_cmpR op_ne (pe_ix ix_tup (pe_call GT hr8 rfl gT FT.kp bT .nil pass0 (pa_cons (pv 0) (pa_cons pe_str (pa_cons (pv 4) pa_nil)))) pe_int (fun _ _ => rfl)) (pv 2) (nomark _))))) (pss_one (ps_ret pe_bl)) pss_nil))))
      (pss_cons (ps_for PassesOwn.never rfl (pi_list (pe_lst (pa_cons pe_non (pa_cons (pe_tup pa_nil) (pa_cons (pe_tup (pa_cons pe_str pa_nil)) (pa_cons (pe_tup (pa_cons pe_str (pa_cons pe_int pa_nil))) (pa_cons (pe_tup (pa_cons pe_str (pa_cons pe_int pa_nil))) (pa_cons (pe_lst (pa_cons pe_str (pa_cons pe_str pa_nil)))
          (pa_cons (pe_tup (pa_cons pe_str (pa_cons (pv 1) pa_nil))) (pa_cons (pe_tup (pa_cons pe_str (pa_cons pe_str pa_nil))) (pa_cons pe_str (pa_cons pe_int pa_nil)))))))))))) (pg_name (i := 4) scOdd.nd rfl (Or.inl rfl))
        (pss_cons (ps_set (i := 5) scOdd.nd rfl (Or.inl rfl) (pe_call GT hr8 rfl gT FT.kp bT .nil pass0 (pa_cons (pv 0) (pa_cons pe_str (pa_cons (pv 4) pa_nil)))))
        (pss_cons (ps_if (PW.pt (pw_and (pt_cmpR op_lt (pv 2) pe_int (nomark _)) (pw_and1 (pt_cmpR op_ne (pe_callB (call_showV hg hr.units) (by rfl) Z.L.N.repr boot_repr' (pa_cons (pv 5) pa_nil)) (pe_callB (call_showV hg hr.units) (by rfl) Z.L.N.repr boot_repr' (pa_cons (pe_tup (pa_cons pe_str (pa_cons (pv 2) pa_nil))) pa_nil)) (nomark _))))) (pss_one (ps_ret pe_bl)) pss_nil)
        (pss_one (ps_if (PW.pt (pw_and (pt_cmpR op_eq (pv 2) pe_int (nomark _)) (pw_and1 (pt_cmpR (op_Bne (rnB_tup mon_long eqB_long) hr2) (pv 5) (pe_tup (pa_cons pe_str (pa_cons (pe_op op_cat (pe_callTy call_list_of (by rfl) Z.L.N.lst PyProof.Rows.boot_list (pa_cons (pe_prop (pv 0) Z.L.c.cl po2 G2 hr1 gb2 .nil pass0 rfl) pa_nil)) (pe_lst (pa_cons (pv 4) pa_nil))) pa_nil))) (nomark _))))) (pss_one (ps_ret pe_bl)) pss_nil)))))
      (pss_cons (ps_set (i := 5) scOdd.nd rfl (Or.inl rfl) (pe_call GT hr8 rfl gT FT.kp bT .nil pass0 (pa_cons (pv 0) (pa_cons pe_str (pa_cons (pe_tup (pa_cons pe_str (pa_cons (pe_make Z.m Z.o22 hr6 rfl Z.L.c.g Z.b .nil (E := E0) passL (pa_cons (pv 3) (pa_cons (pe_lst (pa_cons (pe_tup (pa_cons pe_str (pa_cons pe_int pa_nil))) pa_nil)) pa_nil))) pa_nil))) pa_nil)))))
      (pss_cons (ps_if (pt_cmpR op_eq (pv 2) pe_int (nomark _)) (pss_one (ps_ret (pe_cmpR op_eq (pe_ix ix_tup (pv 5) pe_int (fun _ _ => rfl)) pe_str (nomark _)))) pss_nil)
      (pss_cons (ps_set (i := 6) scOdd.nd rfl (Or.inl rfl) (pe_op op_catT (pe_prop (pv 0) Z.L.c.cl po3 G3 hr1 gb3 .nil pass0 rfl) (pe_tup (pa_cons (pv 3) pa_nil))))
      (pss_one (ps_ret (pe_and (pe_cmpR op_eq (pe_ix ix_tup (pv 5) pe_int (fun _ _ => rfl)) pe_str (nomark _)) (pe_and (pe_cmpR (op_eqD hr.units) (pe_prop (pe_ix ix_tup (pv 5) pe_int (fun _ _ => rfl)) Z.L.c.cl po3 G3 hr1 gb3 .nil pass0 rfl) (pv 6) (nomark _))
        (pe_one (pe_cmpR op_eq (pe_prop (pe_ix ix_tup (pv 5) pe_int (fun _ _ => rfl)) Z.L.c.cl po4 G4 hr1 gb4 .nil pass0 rfl) (pe_op op_add pe_int (pe_callB (call_min2 rfl) (by rfl) Z.L.N.min boot_min' (pa_cons (pe_prop (pv 0) Z.L.c.cl po4 G4 hr1 gb4 .nil pass0 rfl) (pa_cons pe_int pa_nil)))) (nomark _)))))))))))), ?_⟩
    have same : ∀ x : V, (!decide (x = x)) = false := fun x => by rw [decide_eq_true rfl]; rfl
    have hpg0 := hpg
    have hpl0 := hpl
    cases hpl with
    | @mk _ b s l ys h hs hl =>
    cases hpg with
    | @mk _ dx ts ss _ _ xs e1 e2 e3 e4 =>
    have ok' : s ∈ K0 ∧ l.len ≤ 6 ∧ l.ok 0 [s] := ok
    have lx := StAll.len e3
    have ly := PsAll.len hl
    have fine := Pg.fine _ ok
    refine ⟨_, rfl, pa, _, _, .ref b, rfl, rfl, h, rfl, b, ys, rfl, .inr hs, ?_⟩
    rw [ly]
    refine ⟨"abcd", rfl, fun Da hD => ?_⟩
    refine lc_it walk_str (fun i H' => Same H H' ∧ H' Da = some (.lst (((K0.take i).filter fun z => !decide (z ∈ s :: l.srcs)).map V.str))) ⟨same_new hD, upd_same⟩ (fun _ _ _ _ => trivial) ?_ ?_
    · rintro i x Ha Hb hi ⟨r1, r2⟩ ⟨rfl, c, hc, rfl⟩
      have hk := abcd_at i c hc
      have ea := r1 _ _ e1
      refine ⟨rfl, _, rfl, _, rfl, a, dx, _, rfl, ea, a, dx, _, .ref ss, rfl, ea, get_sources _ _ _ _, ss, _, rfl, .inr ((Kp.of r1).tup e4), rfl, all_flat _, _, rfl, ?_⟩
      have tk : K0.take (i + 1) = K0.take i ++ [⟨#[c]⟩] := by rw [List.take_add_one, hk]; rfl
      by_cases cm : (⟨#[c]⟩ : Str) ∈ s :: l.srcs
      · rw [show (if true = true then !inV (V.str ⟨#[c]⟩) ((s :: l.srcs).map V.str) else inV (V.str ⟨#[c]⟩) ((s :: l.srcs).map V.str)) = false from by
          rw [if_pos rfl, in_dec, decide_eq_true cm]; rfl]
        refine iteF (A := True) ⟨r1, ?_⟩
        have : [(⟨#[c]⟩ : Str)].filter (fun z => !decide (z ∈ s :: l.srcs)) = [] := by simp only [List.filter_cons, decide_eq_true cm]; rfl
        rw [tk, List.filter_append, this, List.append_nil]
        exact r2
      · rw [show (if true = true then !inV (V.str ⟨#[c]⟩) ((s :: l.srcs).map V.str) else inV (V.str ⟨#[c]⟩) ((s :: l.srcs).map V.str)) = true from by
          rw [if_pos rfl, in_dec, decide_eq_false cm]; rfl]
        refine iteT (B := True) ⟨_, rfl, _, r2, ?_, ?_, ?_⟩
        · rw [List.length_map]
          refine small1000 (Nat.le_trans (List.length_filter_le _ _) ?_)
          rw [List.length_take]
          show min i 4 ≤ 1000
          omega
        · intro r t er
          rw [upd_ne (ne_of_none er hD)]
          exact r1 _ _ er
        · rw [upd_same, tk, List.filter_append, List.map_append]
          have : [(⟨#[c]⟩ : Str)].filter (fun z => !decide (z ∈ s :: l.srcs)) = [⟨#[c]⟩] := by simp only [List.filter_cons, decide_eq_false cm]; rfl
          rw [this]
          rfl
    · rintro Ha ⟨r1, r2⟩
      have r2 : Ha Da = some (.lst ((K0.filter fun z => !decide (z ∈ s :: l.srcs)).map V.str)) := r2
      obtain ⟨z, zr, hz⟩ : ∃ z zr, (K0.filter fun z => !decide (z ∈ s :: l.srcs)) = z :: zr := by
        cases e : (K0.filter fun z => !decide (z ∈ s :: l.srcs)) with
        | cons z zr => exact ⟨z, zr, rfl⟩
        | nil =>
          have sub : ∀ x ∈ K0, x ∈ s :: l.srcs := fun x hx => by
            by_cases c : x ∈ s :: l.srcs
            · exact c
            · exact absurd (by rw [decide_eq_false c]; rfl) (List.filter_eq_nil_iff.mp e x hx)
          have := nd_len K0 (s :: l.srcs) (by decide +kernel) sub
          have few' : (s :: l.srcs).length ≤ 3 := few
          have k4 : K0.length = 4 := rfl
          omega
      have hzm : z ∈ (K0.filter fun z => !decide (z ∈ s :: l.srcs)) := by rw [hz]; exact List.mem_cons_self
      have hzk := (List.mem_filter.mp hzm).1
      have hzn : z ∉ s :: l.srcs := by
        have := (List.mem_filter.mp hzm).2
        simpa using this
      rw [hz] at r2
      have ea := r1 _ _ e1
      refine ⟨Da, _, 0, .str z, rfl, rfl, SqL.of r2, at_of (j := 0) rfl rfl, _, _, rfl, ?_⟩
      -- the two wrong zips
      obtain ⟨zl, hzl, atl⟩ := at_last (ws := s :: l.srcs) (by rw [List.length_cons]; omega)
      refine ⟨_, rfl, a, dx, _, rfl, ea, a, dx, _, .ref ss, rfl, ea, get_sources _ _ _ _, _, rfl, ss, _, _, .str zl, rfl, rfl, (Kp.of r1).tup e4, atl, ?_⟩
      have zlk : zl ∈ K0 := fine.2 _ hzl
      have okl : (Pg.mk zl .nil).ok := ⟨zlk, by decide, trivial⟩
      have oks : (Pg.mk s .nil).ok := ⟨ok'.1, by decide, trivial⟩
      refine mk_goodR okl (.inr (Z.h0 _)) .nil fun p1 H1 x1 hp1 pg1 => ?_
      refine ⟨by show 2 ≤ sizeLine; decide, fun u1 hu1 => ?_⟩
      have x2 : Same H1 (upd H1 u1 (.tup [.str "zip", .ref p1])) := same_new hu1
      have f2 : upd H1 u1 (.tup [.str "zip", .ref p1]) u1 = some (.tup [.str "zip", .ref p1]) := upd_same
      generalize upd H1 u1 (.tup [.str "zip", .ref p1]) = H2 at x2 f2
      have z2 : Same H H2 := r1.trans (x1.trans x2)
      have ea2 := z2 _ _ e1
      refine ⟨_, rfl, _, rfl, a, dx, _, rfl, ea2, a, dx, _, .str s, rfl, ea2, get_source _ _ _ _, ?_⟩
      refine mk_goodR oks (.inr (Z.h0 _)) .nil fun p3 H3 x3 hp3 pg3 => ?_
      refine ⟨by show 2 ≤ sizeLine; decide, fun u4 hu4 => ?_⟩
      have x4 : Same H3 (upd H3 u4 (.tup [.str "zip", .ref p3])) := same_new hu4
      have f4 : upd H3 u4 (.tup [.str "zip", .ref p3]) u4 = some (.tup [.str "zip", .ref p3]) := upd_same
      generalize upd H3 u4 (.tup [.str "zip", .ref p3]) = H4 at x4 f4
      refine ⟨by show 1 ≤ sizeLine; decide, fun u5 hu5 => ?_⟩
      have x5 : Same H4 (upd H4 u5 (.lst [.ref u4])) := same_new hu5
      have f5 : upd H4 u5 (.lst [.ref u4]) u5 = some (.lst [.ref u4]) := upd_same
      generalize upd H4 u5 (.lst [.ref u4]) = H5 at x5 f5
      have st4 : StV K C H5 (.ref u4) (.zip (.mk s .nil)) := .zip (.inl (.inl (x5 _ _ f4))) (PgAt.kp (Kp.of (x4.trans x5)) pg3)
      have zs : z ≠ s := fun e => hzn (by rw [e]; exact List.mem_cons_self)
      have okn : (Pg.mk z (.cons (.zip (.mk s .nil)) .nil)).ok := ⟨hzk, (by show 1 ≤ 6; decide), ⟨oks, fun q hq hq2 => by
        rcases List.mem_cons.mp hq with e | e
        · rw [e] at hq2
          exact zs (List.mem_singleton.mp hq2).symm
        · cases e⟩, trivial⟩
      refine mk_goodR okn (.inl (SqL.of f5)) (.cons st4 .nil) fun p6 H6 x6 hp6 pg6 => ?_
      refine ⟨by show 2 ≤ sizeLine; decide, fun u7 hu7 => ?_⟩
      have x7 : Same H6 (upd H6 u7 (.tup [.str "zip", .ref p6])) := same_new hu7
      have f7 : upd H6 u7 (.tup [.str "zip", .ref p6]) u7 = some (.tup [.str "zip", .ref p6]) := upd_same
      generalize upd H6 u7 (.tup [.str "zip", .ref p6]) = H7 at x7 f7
      refine ⟨by show 2 ≤ sizeLine; decide, fun u8 hu8 => ?_⟩
      have x8 : Same H7 (upd H7 u8 (.lst [.ref u1, .ref u7])) := same_new hu8
      have f8 : upd H7 u8 (.lst [.ref u1, .ref u7]) u8 = some (.lst [.ref u1, .ref u7]) := upd_same
      generalize upd H7 u8 (.lst [.ref u1, .ref u7]) = H8 at x8 f8
      have z28 : Same H2 H8 := x3.trans (x4.trans (x5.trans (x6.trans (x7.trans x8))))
      have z8 : Same H H8 := z2.trans z28
      have wr1 : Wrong K C H8 s l (.ref u1) := wrong_last (.zip (.inl (.inl (z28 _ _ f2))) (PgAt.kp (Kp.of (x2.trans z28)) pg1)) hzl
      have wr2 : Wrong K C H8 s l (.ref u7) := wrong_nest (.zip (.inl (.inl (x8 _ _ f7))) (PgAt.kp (Kp.of (x7.trans x8)) pg6))
      refine ⟨u8, rfl, ⟨_, SqL.of f8⟩, ?_⟩
      refine for_it (walk_list (xs := [.ref u1, .ref u7])) (fun i σ H' => (∃ v4 : Option V, σ = [some (.ref a), some (.ref pa), some (.int (l.len : Nat)), some (.str z), v4, none, none, none]) ∧ Same H8 H')
        ⟨⟨none, rfl⟩, Same.refl H8⟩ (fun i σ H' _ q => q.2.seq (SqL.of f8)) ?_ ?_
      · rintro i e σ Hx Hy hi ⟨⟨v4, rfl⟩, q1⟩ ⟨rfl, he⟩
        have wr : Wrong K C H8 s l e := by
          rcases List.mem_cons.mp (List.mem_of_getElem? he) with rfl | m
          · exact wr1
          rcases List.mem_cons.mp m with rfl | m
          · exact wr2
          · cases m
        have zx := z8.trans q1
        have l6' : l.len ≤ 6 := ok'.2.1
        have wx := wr.same q1
        refine ⟨_, rfl, _, rfl, told_wrong (E := E0) (zx _ _ e1) ((Kp.of zx).tup e2) (StAll.kp (Kp.of zx) e3) ok wx fun t1 G1 y1 rr => ?_⟩
        by_cases h6 : l.len < 6
        · rw [if_pos h6] at rr
          have lt : decide ((l.len : Int) < 6) = true := decide_eq_true (six h6)
          refine ⟨t1, _, _, .str "stage", rfl, rfl, rr, rfl, _, rfl, _, _, rfl, rfl, _, rfl, ifT lt ?_⟩
          refine ⟨rfl, _, rfl, ifF (same _) ?_⟩
          refine ⟨_, rfl, _, _, rfl, rfl, _, rfl, ifT lt ?_⟩
          have zy := zx.trans y1
          refine ⟨_, rfl, _, rfl, told_wrong (E := E0) (zy _ _ e1) ((Kp.of zy).tup e2) (StAll.kp (Kp.of zy) e3) ok (wx.same y1) fun t2 G2 y2 rr => ?_⟩
          rw [if_pos h6] at rr
          refine ⟨t2, _, _, .int (l.len : Nat), rfl, rfl, rr, rfl, _, rfl, rfl, _, rfl, ifF (same _) ?_⟩
          exact ⟨⟨_, rfl⟩, q1.trans (y1.trans y2)⟩
        · rw [if_neg h6] at rr
          obtain ⟨st, ht, _⟩ := rr
          have nlt : decide ((l.len : Int) < 6) = false := decide_eq_false (by omega)
          refine ⟨t1, _, _, .str "stages", rfl, rfl, ht, rfl, _, rfl, _, _, rfl, rfl, _, rfl, ifF nlt ?_⟩
          refine ⟨rfl, _, rfl, ifF (same _) ?_⟩
          refine ⟨_, rfl, _, _, rfl, rfl, _, rfl, ifF nlt ?_⟩
          exact iteF (A := True) ⟨⟨_, rfl⟩, q1.trans y1⟩
      · rintro σ Hx ⟨⟨v4, rfl⟩, q1⟩
        have zx := z8.trans q1
        refine ⟨by show 0 ≤ sizeLine; decide, fun w1 hw1 => ?_⟩
        have k1 : Same Hx (upd Hx w1 (.tup [])) := same_new hw1
        have j1 : upd Hx w1 (.tup []) w1 = some (.tup []) := upd_same
        generalize upd Hx w1 (.tup []) = K1 at k1 j1
        refine ⟨by show 1 ≤ sizeLine; decide, fun w2 hw2 => ?_⟩
        have k2 : Same K1 (upd K1 w2 (.tup [.str "map"])) := same_new hw2
        have j2 : upd K1 w2 (.tup [.str "map"]) w2 = some (.tup [.str "map"]) := upd_same
        generalize upd K1 w2 (.tup [.str "map"]) = K2 at k2 j2
        refine ⟨by show 2 ≤ sizeLine; decide, fun w3 hw3 => ?_⟩
        have k3 : Same K2 (upd K2 w3 (.tup [.str "take", .int 0])) := same_new hw3
        have j3 : upd K2 w3 (.tup [.str "take", .int 0]) w3 = some (.tup [.str "take", .int 0]) := upd_same
        generalize upd K2 w3 (.tup [.str "take", .int 0]) = K3 at k3 j3
        refine ⟨by show 2 ≤ sizeLine; decide, fun w4 hw4 => ?_⟩
        have k4 : Same K3 (upd K3 w4 (.tup [.str "lots", .int 5])) := same_new hw4
        have j4 : upd K3 w4 (.tup [.str "lots", .int 5]) w4 = some (.tup [.str "lots", .int 5]) := upd_same
        generalize upd K3 w4 (.tup [.str "lots", .int 5]) = K4 at k4 j4
        refine ⟨by show 2 ≤ sizeLine; decide, fun w5 hw5 => ?_⟩
        have k5 : Same K4 (upd K4 w5 (.lst [.str "map", .str "f"])) := same_new hw5
        have j5 : upd K4 w5 (.lst [.str "map", .str "f"]) w5 = some (.lst [.str "map", .str "f"]) := upd_same
        generalize upd K4 w5 (.lst [.str "map", .str "f"]) = K5 at k5 j5
        refine ⟨_, rfl, by show 2 ≤ sizeLine; decide, fun w6 hw6 => ?_⟩
        have k6 : Same K5 (upd K5 w6 (.tup [.str "zip", .ref pa])) := same_new hw6
        have j6 : upd K5 w6 (.tup [.str "zip", .ref pa]) w6 = some (.tup [.str "zip", .ref pa]) := upd_same
        generalize upd K5 w6 (.tup [.str "zip", .ref pa]) = K6 at k6 j6
        refine ⟨by show 2 ≤ sizeLine; decide, fun w7 hw7 => ?_⟩
        have k7 : Same K6 (upd K6 w7 (.tup [.str "keep", .str "P"])) := same_new hw7
        have j7 : upd K6 w7 (.tup [.str "keep", .str "P"]) w7 = some (.tup [.str "keep", .str "P"]) := upd_same
        generalize upd K6 w7 (.tup [.str "keep", .str "P"]) = K7 at k7 j7
        refine ⟨by show 10 ≤ sizeLine; decide, fun w8 hw8 => ?_⟩
        have k8 : Same K7 (upd K7 w8 (.lst [.non, .ref w1, .ref w2, .ref w3, .ref w4, .ref w5, .ref w6, .ref w7, .str "flat", .int 5])) := same_new hw8
        have j8 : upd K7 w8 (.lst [.non, .ref w1, .ref w2, .ref w3, .ref w4, .ref w5, .ref w6, .ref w7, .str "flat", .int 5]) w8 = some (.lst [.non, .ref w1, .ref w2, .ref w3, .ref w4, .ref w5, .ref w6, .ref w7, .str "flat", .int 5]) := upd_same
        generalize upd K7 w8 (.lst [.non, .ref w1, .ref w2, .ref w3, .ref w4, .ref w5, .ref w6, .ref w7, .str "flat", .int 5]) = K8 at k8 j8
        have c7 : Same K7 K8 := k8
        have c6 : Same K6 K8 := k7.trans c7
        have c5 : Same K5 K8 := k6.trans c6
        have c4 : Same K4 K8 := k5.trans c5
        have c3 : Same K3 K8 := k4.trans c4
        have c2 : Same K2 K8 := k3.trans c3
        have c1 : Same K1 K8 := k2.trans c2
        have z9 : Same H K8 := zx.trans (k1.trans c1)
        have h9 := (Kp.of z9).tup h
        have all : ∀ e ∈ ([.non, .ref w1, .ref w2, .ref w3, .ref w4, .ref w5, .ref w6, .ref w7, .str "flat", .int 5] : List V), Wrong K C K8 s l e ∧ (flatV e = true ∨ ∃ a, e = .ref a) := fun e m => by
          rcases List.mem_cons.mp m with rfl | m
          · exact ⟨.inl (is_non), .inl rfl⟩
          rcases List.mem_cons.mp m with rfl | m
          · exact ⟨.inl (.none (.inl (.inl (c1 _ _ j1)))), .inr ⟨_, rfl⟩⟩
          rcases List.mem_cons.mp m with rfl | m
          · exact ⟨.inl (is_map (.inl (.inl (c2 _ _ j2)))), .inr ⟨_, rfl⟩⟩
          rcases List.mem_cons.mp m with rfl | m
          · exact ⟨.inl (is_take (.inl (.inl (c3 _ _ j3)))), .inr ⟨_, rfl⟩⟩
          rcases List.mem_cons.mp m with rfl | m
          · exact ⟨.inl (is_lots (.inl (.inl (c4 _ _ j4)))), .inr ⟨_, rfl⟩⟩
          rcases List.mem_cons.mp m with rfl | m
          · exact ⟨.inl (is_lst (SqL.of (c5 _ _ j5))), .inr ⟨_, rfl⟩⟩
          rcases List.mem_cons.mp m with rfl | m
          · exact ⟨.inl (is_zipt W (.inl (.inl (c6 _ _ j6))) h9), .inr ⟨_, rfl⟩⟩
          rcases List.mem_cons.mp m with rfl | m
          · exact ⟨.inl (is_keep (.inl (.inl (c7 _ _ j7)))), .inr ⟨_, rfl⟩⟩
          rcases List.mem_cons.mp m with rfl | m
          · exact ⟨.inl (is_flatS), .inl rfl⟩
          rcases List.mem_cons.mp m with rfl | m
          · exact ⟨.inl (is_intV), .inl rfl⟩
          · cases m
        refine ⟨w8, rfl, ⟨_, SqL.of j8⟩, ?_⟩
        clear k1 k2 k3 k4 k5 k6 k7 k8 j1 j2 j3 j4 j5 j6 j7 c1 c2 c3 c4 c5 c6 c7
        generalize ([.non, .ref w1, .ref w2, .ref w3, .ref w4, .ref w5, .ref w6, .ref w7, .str "flat", .int 5] : List V) = ms at j8 all
        refine for_it (walk_list (xs := ms)) (fun i σ H' => (∃ v4 v5 : Option V, σ = [some (.ref a), some (.ref pa), some (.int (l.len : Nat)), some (.str z), v4, v5, none, none]) ∧ Same K8 H')
          ⟨⟨_, none, rfl⟩, Same.refl K8⟩ (fun i σ H' _ q => q.2.seq (SqL.of j8)) ?_ ?_
        · rintro i e σ Hy Hz hi ⟨⟨v4, v5, rfl⟩, q2⟩ ⟨rfl, he⟩
          obtain ⟨wr, fl⟩ := all e (List.mem_of_getElem? he)
          have zy := z9.trans q2
          refine ⟨_, rfl, _, rfl, told_wrong (E := E0) (zy _ _ e1) ((Kp.of zy).tup e2) (StAll.kp (Kp.of zy) e3) ok (wr.same q2) fun t1 G1 y1 rr => ?_⟩
          have zg := zy.trans y1
          have eg := zg _ _ e1
          by_cases h6 : l.len < 6
          · rw [if_pos h6] at rr
            have lt : decide ((l.len : Int) < 6) = true := decide_eq_true (six h6)
            obtain ⟨f1, f2, f3, f4⟩ := shw_stage l.len (by omega) rr
            refine ⟨_, rfl, _, _, rfl, rfl, _, rfl, ifT lt ?_⟩
            refine ⟨_, rfl, .ref t1, _, rfl, f1, f2, f3, by omega, _, rfl, by show 2 ≤ sizeLine; decide, fun u hu => ?_⟩
            have y2 : Same G1 (upd G1 u (.tup [.str "stage", .int (l.len : Nat)])) := same_new hu
            have f5 : upd G1 u (.tup [.str "stage", .int (l.len : Nat)]) u = some (.tup [.str "stage", .int (l.len : Nat)]) := upd_same
            generalize upd G1 u (.tup [.str "stage", .int (l.len : Nat)]) = G2 at y2 f5
            obtain ⟨g1, g2, g3, g4⟩ := shw_stage l.len (by omega) (K := K) (.inl (.inl f5))
            refine ⟨.ref u, _, rfl, g1, g2, g3, by omega, rfl, _, rfl, ifF (same _) ?_⟩
            refine ⟨_, rfl, rfl, _, rfl, ?_⟩
            refine dif (fun c => absurd (V.int.inj c) (by omega)) (fun _ => ?_)
            exact iteF (A := True) ⟨⟨_, _, rfl⟩, q2.trans (y1.trans y2)⟩
          · rw [if_neg h6] at rr
            obtain ⟨st, ht, hst⟩ := rr
            have nlt : decide ((l.len : Int) < 6) = false := decide_eq_false (by omega)
            refine ⟨_, rfl, _, _, rfl, rfl, _, rfl, ifF nlt ?_⟩
            refine iteF (A := True) ?_
            refine ⟨_, rfl, rfl, _, rfl, ?_⟩
            refine dif (fun _ => ?_) (fun c => absurd (show V.int (l.len : Nat) = V.int 6 from by rw [show l.len = 6 by omega]; rfl) c)
            refine ⟨_, rfl, _, rfl, a, dx, _, rfl, eg, a, dx, _, .ref ts, rfl, eg, get_stages _ _ _ _, ts, xs, rfl, .inr ((Kp.of zg).tup e2), fun p2 hp2 => ?_⟩
            have y2 : Same G1 (upd G1 p2 (.lst xs)) := same_new hp2
            have f1 : upd G1 p2 (.lst xs) p2 = some (.lst xs) := upd_same
            generalize upd G1 p2 (.lst xs) = G2 at y2 f1
            refine ⟨_, rfl, by show 1 ≤ sizeLine; decide, fun q2' hq2 => ?_⟩
            have y3 : Same G2 (upd G2 q2' (.lst [e])) := same_new hq2
            have f2 : upd G2 q2' (.lst [e]) q2' = some (.lst [e]) := upd_same
            generalize upd G2 q2' (.lst [e]) = G3 at y3 f2
            refine ⟨p2, q2', xs, [e], rfl, rfl, y3 _ _ f1, f2, ?_, fun r2' hr2' => ?_⟩
            · rw [sizeLine_eq]
              show xs.length + 1 ≤ _
              omega
            have y4 : Same G3 (upd G3 r2' (.lst (xs ++ [e]))) := same_new hr2'
            have f3 : upd G3 r2' (.lst (xs ++ [e])) r2' = some (.lst (xs ++ [e])) := upd_same
            generalize upd G3 r2' (.lst (xs ++ [e])) = G4 at y4 f3
            refine ⟨by show 2 ≤ sizeLine; decide, fun u hu => ?_⟩
            have y5 : Same G4 (upd G4 u (.tup [.str "stages", .ref r2'])) := same_new hu
            have f5 : upd G4 u (.tup [.str "stages", .ref r2']) u = some (.tup [.str "stages", .ref r2']) := upd_same
            generalize upd G4 u (.tup [.str "stages", .ref r2']) = G5 at y5 f5
            have yy : Same G1 G5 := y2.trans (y3.trans (y4.trans y5))
            have prs : Prs (fun x y H => DSelf x y true H) (xs ++ [e]) (xs ++ [e]) G5 := prs_self fun x hx => by
              rcases List.mem_append.mp hx with hx | hx
              · exact .inr (stall_refs e3 x hx)
              · rw [List.mem_singleton.mp hx]
                exact fl
            refine ⟨true, ⟨t1, u, _, _, rfl, rfl, (Kp.of yy).tup ht, .inl (.inl f5), .yes (.inl ⟨rfl, rfl, beq_self_eq_true _⟩) (.yes (.inr ⟨rfl, st, r2', _, _, rfl, rfl, yy _ _ hst, y5 _ _ f3, prs⟩) .nil)⟩, fun Hw xw => ⟨_, rfl, ?_⟩⟩
            exact iteF (A := True) ⟨⟨_, _, rfl⟩, q2.trans (y1.trans (yy.trans xw))⟩
        · rintro σ Hy ⟨⟨v4, v5, rfl⟩, q2⟩
          have zy := z9.trans q2
          refine ⟨_, rfl, _, rfl, by show 2 ≤ sizeLine; decide, fun u hu => ?_⟩
          have y1 : Same Hy (upd Hy u (.tup [.str "lots", .int 2])) := same_new hu
          have f1 : upd Hy u (.tup [.str "lots", .int 2]) u = some (.tup [.str "lots", .int 2]) := upd_same
          generalize upd Hy u (.tup [.str "lots", .int 2]) = G1 at y1 f1
          refine ⟨by show 1 ≤ sizeLine; decide, fun u2 hu2 => ?_⟩
          have y2 : Same G1 (upd G1 u2 (.lst [.ref u])) := same_new hu2
          have f2 : upd G1 u2 (.lst [.ref u]) u2 = some (.lst [.ref u]) := upd_same
          generalize upd G1 u2 (.lst [.ref u]) = G2 at y2 f2
          have stu : StV K C G2 (.ref u) (.num "lots" 2) := .num (.inl (.inl (y2 _ _ f1)))
          have okp : (Pg.mk z (.cons (.num "lots" 2) .nil)).ok := ⟨hzk, (by show 1 ≤ 6; decide), ⟨by decide +kernel, by decide, by decide⟩, trivial⟩
          refine mk_goodR okp (.inl (SqL.of f2)) (.cons stu .nil) fun p G3 y3 hp pgp => ?_
          refine ⟨by show 2 ≤ sizeLine; decide, fun u4 hu4 => ?_⟩
          have y4 : Same G3 (upd G3 u4 (.tup [.str "zip", .ref p])) := same_new hu4
          have f4 : upd G3 u4 (.tup [.str "zip", .ref p]) u4 = some (.tup [.str "zip", .ref p]) := upd_same
          generalize upd G3 u4 (.tup [.str "zip", .ref p]) = G4 at y4 f4
          have hv : StV K C G4 (.ref u4) (.zip (.mk z (.cons (.num "lots" 2) .nil))) := .zip (.inl (.inl f4)) (PgAt.kp (Kp.of y4) pgp)
          have ysr : (Sg.zip (.mk z (.cons (.num "lots" 2) .nil))).srcs = [z] := rfl
          have ysd : (Sg.zip (.mk z (.cons (.num "lots" 2) .nil))).sd := okp
          have yy : Same Hy G4 := y1.trans (y2.trans (y3.trans y4))
          have zg : Same H G4 := zy.trans yy
          have ydep : ∀ d : Int, (Sg.zip (.mk z (.cons (.num "lots" 2) .nil))).dep d = 1 + (if 1 < d then 1 else d) := fun d => by
            show (if (1 : Int) < d then (1 : Int) else d) + 1 = _
            omega
          generalize hy : Sg.zip (.mk z (.cons (.num "lots" 2) .nil)) = y at hv ysr ysd ydep
          by_cases h6 : l.len < 6
          · have okS : (Pg.mk s (l.snoc y)).ok := ⟨ok'.1, by rw [len_snoc]; omega, ok_snoc ok'.2.2 (ysd.ok (fun e => by rw [← hy] at e; cases e) fun q hq hq2 => by
              rw [ysr] at hq
              rw [List.mem_singleton.mp hq] at hq2
              exact hzn hq2)⟩
            refine told_right (E := E0) (y := y) (zg _ _ e1) ((Kp.of zg).tup e2) (StAll.kp (Kp.of zg) e3) ok hv h6 okS fun t G5 y5 rr => ?_
            obtain ⟨np, ht, hnp⟩ := rr
            refine ⟨_, rfl, rfl, _, rfl, ?_⟩
            refine dif (fun c => absurd (V.int.inj c) (by omega)) (fun _ => ?_)
            have z5 := zg.trans y5
            have ea5 := z5 _ _ e1
            have e45 := (Kp.of z5).tup e4
            refine ⟨_, rfl, a, dx, _, rfl, ea5, a, dx, _, .ref ss, rfl, ea5, get_sources _ _ _ _, _, rfl, by show 1 ≤ sizeLine; decide, fun q6 hq6 => ?_⟩
            have y6 : Same G5 (upd G5 q6 (.tup [.str z])) := same_new hq6
            have f6 : upd G5 q6 (.tup [.str z]) q6 = some (.tup [.str z]) := upd_same
            generalize upd G5 q6 (.tup [.str z]) = G6 at y6 f6
            have few' : (s :: l.srcs).length ≤ 3 := few
            refine ⟨ss, q6, _, _, rfl, rfl, (Kp.of y6).tup e45, .inl (.inl f6), (fun e => by cases e), ?_, (fun e => by cases e), fun _ p7 hp7 => ?_⟩
            · rw [sizeLine_eq, List.length_map]
              show (s :: l.srcs).length + 1 ≤ _
              omega
            have y7 : Same G6 (upd G6 p7 (.tup ((s :: l.srcs).map V.str ++ [.str z]))) := same_new hp7
            have f7 : upd G6 p7 (.tup ((s :: l.srcs).map V.str ++ [.str z])) p7 = some (.tup ((s :: l.srcs).map V.str ++ [.str z])) := upd_same
            generalize upd G6 p7 (.tup ((s :: l.srcs).map V.str ++ [.str z])) = G7 at y7 f7
            have ht7 := (Kp.of (y6.trans y7)).tup ht
            have hnp7 := PgAt.kp (Kp.of (y6.trans y7)) hnp
            have z7 : Same H G7 := z5.trans (y6.trans y7)
            have ea7 := z7 _ _ e1
            cases hnp7 with
            | @mk _ dn tn sn _ _ xn n1 n2 n3 n4 =>
            have due : SqT K G7 p7 ((s :: (l.snoc y).srcs).map V.str) := by
              rw [srcs_snoc, ysr, ← List.cons_append, List.map_append]
              exact .inl (.inl f7)
            refine ⟨_, rfl, t, _, _, .str "made", rfl, rfl, ht7, rfl, rfl, _, rfl, ?_⟩
            refine dif (fun _ => ?_) (fun c => absurd rfl c)
            refine ⟨_, rfl, t, _, _, .ref np, rfl, rfl, ht7, rfl, np, dn, _, rfl, n1, np, dn, _, .ref sn, rfl, n1, get_sources _ _ _ _, _, rfl, eq_srcs (ws := s :: (l.snoc y).srcs) (Pg.fine _ okS).2 n4 due ⟨_, rfl, iteT (B := True) ?_⟩⟩
            refine ⟨_, rfl, t, _, _, .ref np, rfl, rfl, ht7, rfl, np, dn, _, rfl, n1, np, dn, _, .int ((l.snoc y).dep 0), rfl, n1, get_depth _ _ _ _, ?_⟩
            refine ⟨_, rfl, a, dx, _, rfl, ea7, a, dx, _, .int (l.dep 0), rfl, ea7, get_depth _ _ _ _, _, _, rfl, _, _, rfl, rfl, rfl, ?_⟩
            rw [dep_snoc, ydep, decide_eq_true rfl]
            exact k _ z7
          · refine told_long (E := E0) (zg _ _ e1) ((Kp.of zg).tup e2) (StAll.kp (Kp.of zg) e3) ok (show l.len = 6 by have := ok'.2.1; omega) fun t G5 y5 rr => ?_
            obtain ⟨st, ht, hst⟩ := rr
            refine ⟨_, rfl, rfl, _, rfl, ?_⟩
            refine dif (fun _ => ?_) (fun c => absurd (show V.int (l.len : Nat) = V.int 6 from by rw [show l.len = 6 by have := ok'.2.1; omega]; rfl) c)
            refine ⟨_, rfl, t, _, _, .str "stages", rfl, rfl, ht, rfl, rfl, ?_⟩
            rw [decide_eq_true rfl]
            exact k _ (zg.trans y5)
end
end K02
set_option Elab.async false
set_option linter.all false
set_option maxRecDepth 100000
set_option maxHeartbeats 4000000
namespace K02
open PySem L2 VK
/-! ### the values that the law asks with: scalars, lists of such, (), (0,), {} -/
def okD (d : PyData) : Bool := d.showable && decide (d.shown.length ≤ 100)
inductive ScG : V → PyData → Prop where
  | non : ScG .non .none
  | bl (b : Bool) : ScG (.bl b) (.bool b)
  | int (i : Int) (h : okD (.int i) = true) : ScG (.int i) (.int i)
  | str (z : Str) (h : okD (.str z) = true) : ScG (.str z) (.str z)
theorem okD_bl : ∀ b : Bool, okD (.bool b) = true := by decide +kernel
theorem okD_non : okD .none = true := by decide +kernel
theorem okD_more : okD (.str "more") = true := by decide +kernel
theorem okD_small {n : Nat} (h : n < 64) : okD (.int (n : Nat)) = true := (by decide +kernel : ∀ j : _root_.Fin 64, okD (.int (j.val : Int)) = true) ⟨n, h⟩
theorem ScG.ok {v : V} {d : PyData} (h : ScG v d) : okD d = true ∧ d.depth = 0 ∧ d.hasDict = false := by
  cases h with
  | non => exact ⟨okD_non, rfl, rfl⟩
  | bl b => exact ⟨okD_bl b, rfl, rfl⟩
  | int i h => exact ⟨h, rfl, rfl⟩
  | str z h => exact ⟨h, rfl, rfl⟩
theorem ScG.dp {K : Fg} {H : Hp} {v : V} {d : PyData} (h : ScG v d) : Dp K H v d := by
  cases h with
  | non => exact .non
  | bl b => exact .bl b
  | int i _ => exact .int i
  | str z _ => exact .str z
/-- a scalar, or a list of at most m such, n deep, at no address of av -/
def PlI (av : List Addr) (H : Hp) (m : Nat) : Nat → V → Prop
  | 0, v => ∃ d, ScG v d
  | n + 1, v => (∃ d, ScG v d) ∨ ∃ (a : Addr) (xs : List V), v = .ref a ∧ H a = some (.lst xs) ∧ a ∉ av ∧ xs.length ≤ m ∧ ∀ x ∈ xs, PlI av H m n x
theorem PlI.sc {av : List Addr} {H : Hp} {m : Nat} {v : V} {d : PyData} (h : ScG v d) : ∀ n, PlI av H m n v
  | 0 => ⟨d, h⟩
  | _ + 1 => .inl ⟨d, h⟩
theorem PlI.imp {av av' : List Addr} {H H' : Hp} {m m' : Nat} (hm : m ≤ m') (hl : ∀ a xs, H a = some (.lst xs) → a ∉ av → H' a = some (.lst xs) ∧ a ∉ av') : ∀ {n : Nat} {v : V}, PlI av H m n v → PlI av' H' m' n v
  | 0, _, h => h
  | _ + 1, _, .inl h => .inl h
  | _ + 1, _, .inr ⟨a, xs, e, h1, h2, h3, h4⟩ => .inr ⟨a, xs, e, (hl a xs h1 h2).1, (hl a xs h1 h2).2, Nat.le_trans h3 hm, fun x hx => PlI.imp hm hl (h4 x hx)⟩
theorem PlI.up {av : List Addr} {H : Hp} {m m' : Nat} (hm : m ≤ m') {n : Nat} {v : V} (h : PlI av H m n v) : PlI av H m' n v := h.imp hm fun _ _ e q => ⟨e, q⟩
theorem PlI.deep {av : List Addr} {H : Hp} {m : Nat} : ∀ {n : Nat} {v : V}, PlI av H m n v → PlI av H m (n + 1) v
  | 0, _, h => .inl h
  | _ + 1, _, .inl h => .inl h
  | _ + 1, _, .inr ⟨a, xs, e, h1, h2, h3, h4⟩ => .inr ⟨a, xs, e, h1, h2, h3, fun x hx => PlI.deep (h4 x hx)⟩
theorem PlI.same {av : List Addr} {H H' : Hp} {m n : Nat} {v : V} (h : PlI av H m n v) (s : Same H H') : PlI av H' m n v := h.imp (Nat.le_refl _) fun _ _ e q => ⟨s _ _ e, q⟩
theorem PlI.app {av : List Addr} {H H' : Hp} {m : Nat} {c : Addr} {ys : List V} (b : Bx c H H') (e : H c = some (.lst ys)) (e' : H' c = some (.lst (ys ++ [.str "more"]))) : ∀ {n : Nat} {v : V}, PlI av H m n v → PlI av H' (m + 1) n v
  | 0, _, h => h
  | _ + 1, _, .inl h => .inl h
  | n + 1, _, .inr ⟨a, xs, e1, h1, h2, h3, h4⟩ => by
    by_cases z : a = c
    · subst z
      rw [e] at h1
      cases h1
      refine .inr ⟨a, _, e1, e', h2, by rw [List.length_append]; exact Nat.succ_le_succ h3, fun x hx => ?_⟩
      rcases List.mem_append.mp hx with hx | hx
      · exact PlI.app b e e' (h4 x hx)
      · rw [List.mem_singleton.mp hx]
        exact PlI.sc (.str "more" okD_more) n
    · exact .inr ⟨a, xs, e1, b _ _ z h1, h2, Nat.le_succ_of_le h3, fun x hx => PlI.app b e e' (h4 x hx)⟩
/-- how long a text such a value has -/
def plB (m : Nat) : Nat → Nat
  | 0 => 100
  | n + 1 => m * (plB m n + 2) + 103
theorem sum_le {f : PyData → Nat} {B : Nat} : ∀ {ds : List PyData}, (∀ d ∈ ds, f d ≤ B) → (ds.map f).sum ≤ ds.length * B
  | [], _ => by simp
  | d :: r, h => by
    have := sum_le (f := f) (B := B) (ds := r) fun x hx => h x (List.mem_cons_of_mem _ hx)
    have h0 := h d List.mem_cons_self
    rw [List.map_cons, List.sum_cons, List.length_cons, Nat.succ_mul]
    omega
theorem shownAll_map : ∀ ds : List PyData, PyData.shownAll ds = ds.map PyData.shown
  | [] => rfl
  | d :: r => by
    show PyData.shown d :: PyData.shownAll r = _
    rw [shownAll_map r]
    rfl
theorem list_len {ds : List PyData} {B m : Nat} (h : ∀ d ∈ ds, d.shown.length ≤ B) (hl : ds.length ≤ m) : (PyData.shown (.list ds)).length ≤ m * (B + 2) + 3 := by
  have e : PyData.shown (.list ds) = listText (PyData.shownAll ds) := rfl
  rw [e, shownAll_map]
  refine Nat.le_trans (listText_len_le _) ?_
  rw [List.map_map, List.length_map]
  have := sum_le (f := fun d => (PyData.shown d).length) h
  have e2 : ((fun x : Str => x.length) ∘ PyData.shown) = fun d : PyData => (PyData.shown d).length := rfl
  rw [e2]
  have h3 : ds.length * B ≤ m * B := Nat.mul_le_mul_right _ hl
  rw [Nat.mul_add]
  omega
structure FitD (d : PyData) (n B : Nat) : Prop where
  sh : d.showable = true
  len : d.shown.length ≤ B
  dep : d.depth ≤ n
  dic : d.hasDict = false
theorem fit_all : ∀ {ds : List PyData} {n B : Nat}, (∀ d ∈ ds, FitD d n B) → PyData.showableAll ds = true ∧ PyData.depthAll ds ≤ n ∧ PyData.hasDictAll ds = false
  | [], _, _, _ => ⟨rfl, Nat.zero_le _, rfl⟩
  | d :: r, n, B, h => by
    obtain ⟨a, b, c⟩ := fit_all (ds := r) fun x hx => h x (List.mem_cons_of_mem _ hx)
    have h0 := h d List.mem_cons_self
    refine ⟨?_, ?_, ?_⟩
    · show (PyData.showable d && PyData.showableAll r) = true
      rw [h0.sh, a]
      rfl
    · show max (PyData.depth d) (PyData.depthAll r) ≤ n
      exact Nat.max_le.mpr ⟨h0.dep, b⟩
    · show (PyData.hasDict d || PyData.hasDictAll r) = false
      rw [h0.dic, c]
      rfl
mutual
theorem Dp.same' {K : Fg} {H H' : Hp} (s : Same H H') : ∀ {v : V} {d : PyData}, Dp K H v d → Dp K H' v d
  | _, _, .non => .non
  | _, _, .bl b => .bl b
  | _, _, .int i => .int i
  | _, _, .str x => .str x
  | _, _, .lst h t => .lst (s.seq h) (DpAll.same' s t)
  | _, _, .tup h t => .tup ((Kp.of s).tup h) (DpAll.same' s t)
theorem DpAll.same' {K : Fg} {H H' : Hp} (s : Same H H') : ∀ {vs : List V} {ds : List PyData}, DpAll K H vs ds → DpAll K H' vs ds
  | _, _, .nil => .nil
  | _, _, .cons h t => .cons (Dp.same' s h) (DpAll.same' s t)
end
theorem dp_of {K : Fg} {H : Hp} {n B : Nat} : ∀ {xs : List V}, (∀ x ∈ xs, ∃ d, FitD d n B ∧ Dp K H x d) → ∃ ds, DpAll K H xs ds ∧ ds.length = xs.length ∧ ∀ d ∈ ds, FitD d n B
  | [], _ => ⟨[], .nil, rfl, fun _ h => by cases h⟩
  | x :: r, h => by
    obtain ⟨ds, a, b, c⟩ := dp_of (xs := r) fun y hy => h y (List.mem_cons_of_mem _ hy)
    obtain ⟨d, f, e⟩ := h x List.mem_cons_self
    refine ⟨d :: ds, .cons e a, by rw [List.length_cons, List.length_cons, b], fun y hy => ?_⟩
    rcases List.mem_cons.mp hy with rfl | hy
    · exact f
    · exact c y hy
theorem PlI.fit {K : Fg} {av : List Addr} {H : Hp} {m : Nat} : ∀ {n : Nat} {v : V}, PlI av H m n v → ∃ d, FitD d n (plB m n) ∧ Dp K H v d := by
  have sc : ∀ {n : Nat} {v : V} {d : PyData}, ScG v d → ∃ d, FitD d n (plB m n) ∧ Dp K H v d := fun {n v d} h => by
    obtain ⟨h1, h2, h3⟩ := h.ok
    unfold okD at h1
    rw [Bool.and_eq_true, decide_eq_true_eq] at h1
    refine ⟨d, ⟨h1.1, Nat.le_trans h1.2 ?_, by omega, h3⟩, h.dp⟩
    cases n with
    | zero => exact Nat.le_refl _
    | succ n => show 100 ≤ m * (plB m n + 2) + 103; omega
  intro n
  induction n with
  | zero =>
    rintro v ⟨d, h⟩
    exact sc h
  | succ n ih =>
    rintro v (⟨d, h⟩ | ⟨a, xs, rfl, h1, h2, h3, h4⟩)
    · exact sc h
    · obtain ⟨ds, e1, e2, e3⟩ := dp_of fun x hx => ih (h4 x hx)
      obtain ⟨f1, f2, f3⟩ := fit_all e3
      refine ⟨.list ds, ⟨f1, ?_, ?_, f3⟩, .lst (SqL.of h1) e1⟩
      · refine Nat.le_trans (list_len (fun d hd => (e3 d hd).len) (by rw [e2]; exact h3)) ?_
        show m * (plB m n + 2) + 3 ≤ m * (plB m n + 2) + 103
        omega
      · show PyData.depthAll ds + 1 ≤ n + 1
        omega
theorem plB_small {m : Nat} (h : m ≤ 30) : plB m 2 ≤ sizeLine := by
  have h0 : plB m 1 ≤ 30 * (100 + 2) + 103 := by
    show m * (100 + 2) + 103 ≤ _
    have := Nat.mul_le_mul_right 102 h
    omega
  have h1 : plB m 2 ≤ 30 * (3163 + 2) + 103 := by
    show m * (plB m 1 + 2) + 103 ≤ _
    have := Nat.mul_le_mul h (show plB m 1 + 2 ≤ 3165 by omega)
    omega
  exact Nat.le_trans h1 (by rw [sizeLine_eq]; omega)
/-- what the law may ask with -/
inductive TopV (K : Fg) (av : List Addr) (H : Hp) (m : Nat) : V → Prop where
  | pl {v : V} (h : PlI av H m 2 v) : TopV K av H m v
  | dct {a : Addr} (h : H a = some (.dK [])) : TopV K av H m (.ref a)
  | t0 {a : Addr} (h : SqT K H a []) : TopV K av H m (.ref a)
  | t1 {a : Addr} (h : SqT K H a [.int 0]) : TopV K av H m (.ref a)
theorem TopV.fit {K : Fg} {av : List Addr} {H : Hp} {m : Nat} {v : V} (h : TopV K av H m v) (hm : m ≤ 30) : ∃ d, ∀ H', Same H H' → FitV K v d H' := by
  cases h with
  | pl h =>
    obtain ⟨d, f, e⟩ := h.fit (K := K)
    exact ⟨d, fun H' s => ⟨.data (Dp.same' s e) f.dic, f.sh, Nat.le_trans f.len (plB_small hm), Nat.le_trans f.dep (by decide)⟩⟩
  | dct h => exact ⟨.dict [], fun H' s => ⟨.dct (s _ _ h) .nil, by decide +kernel, Nat.le_of_lt (small1000 (by decide +kernel)), by decide +kernel⟩⟩
  | t0 h => exact ⟨.tuple [], fun H' s => ⟨.data (.tup ((Kp.of s).tup h) .nil) (by decide +kernel), by decide +kernel, Nat.le_of_lt (small1000 (by decide +kernel)), by decide +kernel⟩⟩
  | t1 h => exact ⟨.tuple [.int 0], fun H' s => ⟨.data (.tup ((Kp.of s).tup h) (.cons (.int 0) .nil)) (by decide +kernel), by decide +kernel, Nat.le_of_lt (small1000 (by decide +kernel)), by decide +kernel⟩⟩
/-- what kind of a thing it is, for the program's questions -/
theorem tyD {K : Fg} {H : Hp} {a : Addr} {kvs : List (Key × V)} (h : H a = some (.dK kvs)) : TyX K H (.ref a) (.type "dict") := .base (.dK h)
theorem ScG.kind {K : Fg} {H : Hp} {v : V} {d : PyData} (h : ScG v d) : (∃ t, TyX K H v (.type t) ∧ PySem.W.kitOne K (.type t) (.type "list") = some false) ∧ ∃ c, Itm K H v c := by
  cases h with
  | non => exact ⟨⟨"NoneType", .base .non, kit_ty (by decide +kernel)⟩, none, .oth (t := "NoneType") (b := false) (c := false) (.base .non) (by decide +kernel) (by decide +kernel) rfl⟩
  | bl b => exact ⟨⟨"bool", .base (.bl b), kit_ty (by decide +kernel)⟩, none, .oth (t := "bool") (b := true) (c := true) (.base (.bl b)) (by decide +kernel) (by decide +kernel) rfl⟩
  | int i _ => exact ⟨⟨"int", .base (.int i), kit_ty (by decide +kernel)⟩, some i, .int i⟩
  | str z _ => exact ⟨⟨"str", .base (.str z), kit_ty (by decide +kernel)⟩, none, .oth (t := "str") (b := false) (c := false) (.base (.str z)) (by decide +kernel) (by decide +kernel) rfl⟩
theorem itm_lst {K : Fg} {H : Hp} {a : Addr} {xs : List V} (h : H a = some (.lst xs)) : Itm K H (.ref a) none := .oth (t := "list") (b := false) (c := false) (.base (.lst h)) (by decide +kernel) (by decide +kernel) rfl
theorem PlI.itm {K : Fg} {av : List Addr} {H : Hp} {m : Nat} : ∀ {n : Nat} {v : V}, PlI av H m n v → ∃ c, Itm K H v c
  | 0, _, ⟨d, h⟩ => h.kind.2
  | _ + 1, _, .inl ⟨d, h⟩ => h.kind.2
  | _ + 1, _, .inr ⟨a, xs, e, h1, _⟩ => ⟨none, by rw [e]; exact itm_lst h1⟩
theorem pair_of {K : Fg} {H : Hp} : ∀ {xs : List V}, (∀ x ∈ xs, ∃ c, Itm K H x c) → ∃ cs, Paired (Itm K H) xs cs
  | [], _ => ⟨[], .nil⟩
  | x :: r, h => by
    obtain ⟨cs, a⟩ := pair_of (xs := r) fun y hy => h y (List.mem_cons_of_mem _ hy)
    obtain ⟨c, b⟩ := h x List.mem_cons_self
    exact ⟨c :: cs, .cons b a⟩
theorem TopV.kind {K : Fg} {av : List Addr} {H : Hp} {m : Nat} {v : V} (h : TopV K av H m v) : (∃ c, Itm K H v c) ∧
    ((∃ t, TyX K H v (.type t) ∧ PySem.W.kitOne K (.type t) (.type "list") = some false) ∨ ∃ (c : Addr) (ys : List V), v = .ref c ∧ H c = some (.lst ys) ∧ c ∉ av ∧ ys.length ≤ m ∧ ∀ y ∈ ys, PlI av H m 1 y) := by
  cases h with
  | pl h =>
    refine ⟨h.itm, ?_⟩
    rcases h with ⟨d, h⟩ | ⟨a, xs, e, h1, h2, h3, h4⟩
    · exact .inl h.kind.1
    · exact .inr ⟨a, xs, e, h1, h2, h3, h4⟩
  | dct h => exact ⟨⟨none, .oth (t := "dict") (b := false) (c := false) (tyD h) (by decide +kernel) (by decide +kernel) rfl⟩, .inl ⟨"dict", tyD h, kit_ty (by decide +kernel)⟩⟩
  | t0 h => exact ⟨⟨none, .oth (t := "tuple") (b := false) (c := false) (tyT h) (by decide +kernel) (by decide +kernel) rfl⟩, .inl ⟨"tuple", tyT h, kit_ty (by decide +kernel)⟩⟩
  | t1 h => exact ⟨⟨none, .oth (t := "tuple") (b := false) (c := false) (tyT h) (by decide +kernel) (by decide +kernel) rfl⟩, .inl ⟨"tuple", tyT h, kit_ty (by decide +kernel)⟩⟩
theorem TopV.up {K : Fg} {av : List Addr} {H : Hp} {m m' : Nat} (hm : m ≤ m') {v : V} (h : TopV K av H m v) : TopV K av H m' v := by
  cases h with
  | pl h => exact .pl (h.up hm)
  | dct h => exact .dct h
  | t0 h => exact .t0 h
  | t1 h => exact .t1 h
theorem TopV.same {K : Fg} {av : List Addr} {H H' : Hp} {m : Nat} {v : V} (h : TopV K av H m v) (s : Same H H') : TopV K av H' m v := by
  cases h with
  | pl h => exact .pl (h.same s)
  | dct h => exact .dct (s _ _ h)
  | t0 h => exact .t0 ((Kp.of s).tup h)
  | t1 h => exact .t1 ((Kp.of s).tup h)
/-- a list that is not among them changes -/
theorem TopV.bx {K : Fg} {av : List Addr} {H H' : Hp} {m : Nat} {v : V} {p : Addr} {rs : List V} (h : TopV K av H m v) (b : Bx p H H') (e : H p = some (.lst rs)) (hp : p ∈ av) : TopV K av H' m v := by
  have kp : Kp H H' := fun c o ec f => b c o (fun z => by rw [z, e] at ec; cases ec; cases f) ec
  cases h with
  | pl h => exact .pl (h.imp (Nat.le_refl _) fun a xs e1 n => ⟨b _ _ (fun z => n (by rw [z]; exact hp)) e1, n⟩)
  | dct h => exact .dct (b _ _ (fun z => by rw [z, e] at h; cases h) h)
  | t0 h => exact .t0 (kp.tup h)
  | t1 h => exact .t1 (kp.tup h)
/-- a new list is none of them -/
theorem TopV.av {K : Fg} {av : List Addr} {H : Hp} {m : Nat} {v : V} {q : Addr} (h : TopV K av H m v) (hq : H q = none) : TopV K (q :: av) H m v := by
  cases h with
  | pl h => exact .pl (h.imp (Nat.le_refl _) fun a xs e1 n => ⟨e1, fun z => by
      rcases List.mem_cons.mp z with z | z
      · rw [z, hq] at e1
        cases e1
      · exact n z⟩)
  | dct h => exact .dct h
  | t0 h => exact .t0 h
  | t1 h => exact .t1 h
/-- what a question may do: things are made, or a list that was asked with has one more item -/
structure Ap (K : Fg) (av : List Addr) (H H' : Hp) : Prop where
  kp : Kp H H'
  pin : ∀ q ∈ av, ∀ o, H q = some o → H' q = some o
  top : ∀ m v, TopV K av H m v → TopV K av H' (m + 1) v
theorem Ap.of {K : Fg} {av : List Addr} {H H' : Hp} (s : Same H H') : Ap K av H H' := ⟨Kp.of s, fun _ _ _ e => s _ _ e, fun m v h => (h.same s).up (Nat.le_succ m)⟩
theorem Ap.app {K : Fg} {av : List Addr} {H H' : Hp} {c : Addr} {ys : List V} (b : Bx c H H') (e : H c = some (.lst ys)) (e' : H' c = some (.lst (ys ++ [.str "more"]))) (n : c ∉ av) : Ap K av H H' := by
  have kp : Kp H H' := fun a o ec f => b a o (fun z => by rw [z, e] at ec; cases ec; cases f) ec
  refine ⟨kp, fun q hq o eq => b _ _ (fun z => n (by rw [← z]; exact hq)) eq, fun m v h => ?_⟩
  cases h with
  | pl h => exact .pl (h.app b e e')
  | dct h => exact .dct (b _ _ (fun z => by rw [z, e] at h; cases h) h)
  | t0 h => exact .t0 (kp.tup h)
  | t1 h => exact .t1 (kp.tup h)
/-- a question with such a value -/
theorem ask_top {K : Fg} {C a pa : Addr} {g : Pg} {H : Hp} {word : Str} {v : V} {Q : VK} {E : XK} {av : List Addr} {m : Nat} (hpg : PgAt K C H (.ref a) g) (hpl : PlAt K H (.ref pa) g) (ok : g.ok) (few : g.srcs.length ≤ 3)
    (hw : word = "without" ∨ word = "exchanged") (h : TopV K av H m v) (hm : m ≤ 29) (k : ∀ H', Ap K av H H' → Q (.bl true) H') : spAsk K C [.ref a, .ref pa, .str word, v] H Q E := by
  obtain ⟨d, fit⟩ := h.fit (by omega)
  obtain ⟨⟨c0, hc0⟩, kd⟩ := h.kind
  have lst : ∀ {c : Addr} {ys : List V}, v = .ref c → H c = some (.lst ys) → c ∉ av → ys.length ≤ m → (∀ H', Same H H' → Q (.bl true) H') ∧ ∀ H', Bx c H H' → H' c = some (.lst (ys ++ [.str "more"])) → (∃ d1, FitV K v d1 H') ∧ Q (.bl true) H' := fun {c ys} ev e n l => by
    refine ⟨fun H' s => k H' (.of s), fun H' b e' => ?_⟩
    have ap : Ap K av H H' := .app b e e' n
    obtain ⟨d1, f1⟩ := (ap.top m v h).fit (by omega)
    exact ⟨⟨d1, f1 H' (Same.refl H')⟩, k H' ap⟩
  refine ⟨a, pa, g, word, v, d, rfl, hpg, hpl, ok, few, ?_, fit, ?_⟩
  · rcases hw with rfl | rfl
    · refine .inr (.inl ⟨rfl, ?_⟩)
      rcases kd with ⟨t, ty, kt⟩ | ⟨c, ys, e, h1, h2, h3, h4⟩
      · exact .inl ⟨_, ty, kt⟩
      · obtain ⟨cs, pr⟩ := pair_of (K := K) fun y hy => (h4 y hy).itm
        exact .inr ⟨c, ys, cs, e, h1, by omega, pr⟩
    · refine .inr (.inr ⟨rfl, c0, hc0, ?_⟩)
      rcases kd with ⟨t, ty, kt⟩ | ⟨c, ys, e, h1, h2, h3, h4⟩
      · exact .inl ⟨_, ty, kt⟩
      · exact .inr ⟨c, ys, e, h1, by omega⟩
  · rcases kd with ⟨t, ty, kt⟩ | ⟨c, ys, e, h1, h2, h3, h4⟩
    · exact .inl ⟨_, ty, kt, fun H' s => k H' (.of s)⟩
    · exact .inr ⟨c, ys, e, h1, by omega, lst e h1 h2 h3⟩
/-- a question with a stage -/
theorem ask_then {K : Fg} {C a pa u : Addr} {g : Pg} {H : Hp} {y : Sg} {ds : List PyData} {xs : List V} {Q : VK} {E : XK} (hpg : PgAt K C H (.ref a) g) (hpl : PlAt K H (.ref pa) g) (ok : g.ok) (few : g.srcs.length ≤ 3)
    (hu : SqT K H u xs) (hp : PsV K H (.ref u) y) (hv : StV K C H (.ref u) y) (sd : y.sd) (sr : y.srcs = []) (dp : ∀ H', DpAll K H' xs ds) (f : PyData.showable (.tuple ds) = true ∧ (PyData.shown (.tuple ds)).length ≤ 100 ∧ (PyData.tuple ds).depth ≤ 10 ∧ (PyData.tuple ds).hasDict = false)
    (k : ∀ H', Same H H' → Q (.bl true) H') : spAsk K C [.ref a, .ref pa, .str "then", .ref u] H Q E := by
  obtain ⟨f1, f2, f3, f4⟩ := f
  exact ⟨a, pa, g, "then", .ref u, .tuple ds, rfl, hpg, hpl, ok, few, .inl ⟨rfl, y, hp, hv, sd, sr⟩, fun H' s => ⟨.data (.tup ((Kp.of s).tup hu) (dp H')) f4, f1, Nat.le_of_lt (small1000 (Nat.le_trans f2 (by decide))), f3⟩,
    .inl ⟨_, tyT hu, kit_ty (by decide +kernel), k⟩⟩
end K02
set_option Elab.async false
set_option linter.all false
set_option maxRecDepth 100000
set_option maxHeartbeats 8000000
namespace K02
open PySem L2 VK
abbrev sLaw : Stmt := top 41
abbrev NL : List Str := ["script", "start", "source", "turn", "plan", "program", "many", "stage", "odd", "look", "some", "near", "more", "bad", "value", "place"]
theorem scL : FnScope NL ["script"] (defScope sLaw) := ⟨rfl, rfl, rfl, by decide +kernel, rfl, by decide +kernel, by decide +kernel⟩
def spLaw (K : Fg) : Sp := fun vs H Q _ => ∃ (a : Addr) (ns : List Int), vs = [.ref a] ∧ Only H ∧ SqL K H a (ns.map V.int) ∧ ns.length ≤ 63 ∧ Bits ns ∧ ∀ H', Q (.bl true) H'
/-- what stands while a list of values is gone through -/
structure Nw (K : Fg) (p qo : Addr) (odds : List V) (Hz H : Hp) (m : Nat) : Prop where
  kp : Kp Hz H
  st : Strm H p
  ne : qo ≠ p
  oq : H qo = some (.lst odds)
  top : ∀ e ∈ odds, TopV K [qo, p] H m e
theorem Nw.same {K : Fg} {p qo : Addr} {odds : List V} {Hz H H' : Hp} {m : Nat} (h : Nw K p qo odds Hz H m) (s : Same H H') : Nw K p qo odds Hz H' m := ⟨h.kp.trans (Kp.of s), h.st.same s, h.ne, s _ _ h.oq, fun e he => (h.top e he).same s⟩
theorem Nw.bx {K : Fg} {p qo : Addr} {odds : List V} {Hz H H' : Hp} {m : Nat} (h : Nw K p qo odds Hz H m) (b : Bx p H H') (s : Strm H' p) : Nw K p qo odds Hz H' m := by
  obtain ⟨r, m0, e, _⟩ := h.st
  exact ⟨h.kp.trans fun c o ec f => b c o (fun z => by rw [z, e] at ec; cases ec; cases f) ec, s, h.ne, b _ _ h.ne h.oq, fun e1 he => (h.top e1 he).bx b e (List.mem_cons_of_mem _ List.mem_cons_self)⟩
theorem Nw.ap {K : Fg} {p qo : Addr} {odds : List V} {Hz H H' : Hp} {m : Nat} (h : Nw K p qo odds Hz H m) (a : Ap K [qo, p] H H') : Nw K p qo odds Hz H' (m + 1) := by
  obtain ⟨r, m0, e, b⟩ := h.st
  exact ⟨h.kp.trans a.kp, ⟨r, m0, a.pin _ (List.mem_cons_of_mem _ List.mem_cons_self) _ e, b⟩, h.ne, a.pin _ List.mem_cons_self _ h.oq, fun e1 he => a.top m e1 (h.top e1 he)⟩
theorem Bx.kp {p : Addr} {H H' : Hp} (b : Bx p H H') (h : Strm H p) : Kp H H' := by
  obtain ⟨r, m0, e, _⟩ := h
  exact fun c o ec f => b c o (fun z => by rw [z, e] at ec; cases ec; cases f) ec
theorem cutV_mem {xs : List V} {lo hi : Option Int} {x : V} (h : x ∈ cutV xs lo hi) : x ∈ xs := by
  unfold cutV at h
  exact List.mem_of_mem_drop (List.mem_of_mem_take h)
theorem rg_mem {n : Nat} {x : V} (h : x ∈ rgV 0 (n : Int)) : ∃ i : Nat, i < n ∧ x = .int (i : Nat) := by
  unfold rgV at h
  obtain ⟨i, hi, e⟩ := List.mem_map.mp h
  have := List.mem_range.mp hi
  exact ⟨i, by omega, by rw [← e]; congr 1; omega⟩
theorem rg_len (n : Nat) : (rgV 0 (n : Int)).length = n := by
  rw [rgV_length]
  omega
theorem rg_plns (n : Nat) : Plns (rgV 0 (n : Int)) := fun x hx => by
  obtain ⟨i, _, rfl⟩ := rg_mem hx
  exact ⟨_, .int _⟩
theorem okD_neg : okD (.int (0 - 1)) = true := by decide +kernel
theorem okD_big : okD (.int (10 ^ (30 : Int).toNat)) = true := by decide +kernel
theorem okD_0 : okD (.int 0) = true := by decide +kernel
theorem okD_t0 : okD (.str "0") = true := by decide +kernel
/-- a list of scalars -/
theorem top_l {K : Fg} {av : List Addr} {H : Hp} {m : Nat} {a : Addr} {xs : List V} (e : H a = some (.lst xs)) (n : a ∉ av) (l : xs.length ≤ m) (h : ∀ x ∈ xs, PlI av H m 1 x) : TopV K av H m (.ref a) := .pl (.inr ⟨a, xs, rfl, e, n, l, h⟩)
theorem pli_l {av : List Addr} {H : Hp} {m : Nat} {a : Addr} {xs : List V} (e : H a = some (.lst xs)) (n : a ∉ av) (l : xs.length ≤ m) (h : ∀ x ∈ xs, ∃ d, ScG x d) : PlI av H m 1 (.ref a) := .inr ⟨a, xs, rfl, e, n, l, h⟩
theorem sc_all1 {av : List Addr} {H : Hp} {m : Nat} {x : V} {d : PyData} (h : ScG x d) : ∀ y ∈ [x], PlI av H m 1 y := fun y hy => by rw [List.mem_singleton.mp hy]; exact PlI.sc h 1
section
variable {P : Program} {w : World} {K : Fg} {mg : Str → Option Value} {base : Heap} {A I : Nat → Addr} {D J : Nat → FuncData} {aS a1 a2 C e0 fq : Addr} {dq : FuncData} {M : Nat → Addr} {T : Nat → FuncData}
/-- the defs that the law calls -/
structure Defs (K : Fg) (mg : Str → Option Value) (fS fD fP fM fL fR fQ fO fC : Addr) (dS dD dP dM dL dR dQ dO dC : FuncData) : Prop where
  gS : mg "_law_source" = some (.ref fS)
  gD : mg "_law_draw" = some (.ref fD)
  gP : mg "_law_pick" = some (.ref fP)
  gM : mg "_law_mixed" = some (.ref fM)
  gL : mg "_law_plan" = some (.ref fL)
  gR : mg "_law_program" = some (.ref fR)
  gQ : mg "_law_asked_right" = some (.ref fQ)
  gO : mg "_law_odd_right" = some (.ref fO)
  gC : mg "_law_compared" = some (.ref fC)
  FS : Fun K "_law_source" "_law_source" sSource fS dS
  FD : Fun K "_law_draw" "_law_draw" sDraw fD dD
  FP : Fun K "_law_pick" "_law_pick" sPick fP dP
  FM : Fun K "_law_mixed" "_law_mixed" sMixed fM dM
  FL : Fun K "_law_plan" "_law_plan" sPlan fL dL
  FR : Fun K "_law_program" "_law_program" sProg fR dR
  FQ : Fun K "_law_asked_right" "_law_asked_right" sAsk fQ dQ
  FO : Fun K "_law_odd_right" "_law_odd_right" sOdd fO dO
  FC : Fun K "_law_compared" "_law_compared" sCmp fC dC
  bS : Binds K dS ["script", "start"] []
  bD : Binds K dD ["stream", "span"] []
  bP : Binds K dP ["stream", "things"] []
  bM : Binds K dM ["stream", "things"] []
  bL : Binds K dL ["stream", "pool", "most"] []
  bR : Binds K dR ["plan"] []
  bQ : Binds K dQ ["program", "plan", "word", "value"] []
  bO : Binds K dO ["program", "plan"] []
  bC : Binds K dC ["source", "plan", "program"] []
theorem run_law {f fS fD fP fM fL fR fQ fO fC : Addr} {fd dS dD dP dM dL dR dQ dO dC : FuncData} (F : Fun K "law" "law" sLaw f fd) (Z : Lp K mg A I D J aS a1 a2 C e0) (U : Le K C fq dq)
    (Y : Defs K mg fS fD fP fM fL fR fQ fO fC dS dD dP dM dL dR dQ dO dC)
    (GL : FnOk P w K mg base CX0 20 fL dL ["stream", "pool", "most"] (spPlan K 4)) (GQ : RunG P w K mg base 19 fQ dQ ["program", "plan", "word", "value"] (spAsk K C)) (GO : RunG P w K mg base 19 fO dO ["program", "plan"] (spOdd K C))
    (GC : FnOk P w K mg base CX0 21 fC dC ["source", "plan", "program"] (spCmp K C)) : RunAt P w K mg base PySem.callerA f fd ["script"] (spLaw K) := by
  have GS : FnOk P w K mg base CX0 1 fS dS ["script", "start"] (spSource K) := ok_source Y.FS Z.L.N
  have GD : FnOk P w K mg base CX0 1 fD dD ["stream", "span"] spDraw := ok_draw Y.FD Z.L.N
  have GP : FnOk P w K mg base CX0 2 fP dP ["stream", "things"] (spPick K) := ok_pick Y.FP Z.L.N Y.gD Y.FD Y.bD
  have GM : FnOk P w K mg base CX0 2 fM dM ["stream", "things"] (spMixed K) := ok_mixed Y.FM Z.L.N Y.gD Y.FD Y.bD
  have GR : FnOk P w K mg base CX0 11 fR dR ["plan"] (spProg K C 4) := ok_prog Y.FR Y.bR Y.gR Z 4
  refine runAt_of (k := 22) F scL (fun vs H Q E h => ?_) ⟨rfl, by decide, by decide⟩ (fun cdv outer s H vs Q E hr h => ?_)
  · obtain ⟨a, ns, rfl, _⟩ := h
    rfl
  · obtain ⟨a, ns, rfl, only, hS, hlen, hbits, kk⟩ := h
    have hr1 : Room 1 _ := hr.mono (by decide)
    have hr2 : Room 2 _ := hr.mono (by decide)
    have hr11 : Room 11 _ := hr.mono (by decide)
    have hr15 : Room (3 * 4 + 2 + 1) _ := hr.mono (by decide)
    have hr19 : Room 19 _ := hr.mono (by decide)
    have hr20 : Room 20 _ := hr.mono (by decide)
    have hr21 : Room 21 _ := hr.mono (by decide)
    refine ⟨_, pss_cons (ps_for PassesOwn.never rfl
        (pi_range1 rfl Z.L.N.range (pa_cons (pe_callB (call_max2 rfl) (by rfl) Z.L.N.max PyProof.Rows.boot_max (pa_cons pe_int (pa_cons (pe_callB (call_min2 rfl) (by rfl) Z.L.N.min boot_min'
          (pa_cons pe_int (pa_cons (pe_callB call_len_seq (by rfl) Z.L.N.len PySem.boot_len (pa_cons (pv 0) pa_nil)) pa_nil))) pa_nil))) pa_nil))
        (pg_name (i := 1) scL.nd rfl (Or.inl rfl))
        (pss_cons (ps_set (i := 2) scL.nd rfl (Or.inl rfl) (pe_call GS hr1 rfl Y.gS Y.FS.kp Y.bS .nil pass0 (pa_cons (pv 0) (pa_cons (pv 1) pa_nil))))
        (pss_one (ps_for PassesOwn.never rfl (pi_range1 rfl Z.L.N.range (pa_cons pe_int pa_nil)) (pg_name (i := 3) scL.nd rfl (Or.inl rfl))
          (pss_cons (ps_set (i := 4) scL.nd rfl (Or.inl rfl) (pe_call GL hr20 rfl Y.gL Y.FL.kp Y.bL .nil pass0 (pa_cons (pv 2) (pa_cons (pe_slice sl_list (pe_call GM hr2 rfl Y.gM Y.FM.kp Y.bM .nil pass0 (pa_cons (pv 2) (pa_cons (pe_lst (pa_cons pe_str (pa_cons pe_str (pa_cons pe_str (pa_cons pe_str pa_nil))))) pa_nil))) po_none (po_some pe_int)) (pa_cons pe_int pa_nil)))))
          (pss_cons (ps_par (by rfl) scL.nd rfl rfl (show 5 ≠ 6 by decide) rfl rfl (pa_cons (pe_call GR hr11 rfl Y.gR Y.FR.kp Y.bR .nil pass0 (pa_cons (pv 4) pa_nil)) (pa_cons (pe_callB call_len_seq (by rfl) Z.L.N.len PySem.boot_len (pa_cons (pe_ix ix_tup (pv 4) pe_int (fun _ _ => rfl)) pa_nil)) pa_nil)) (by rfl))
          (pss_cons (ps_for PassesOwn.never rfl (pi_list (pe_lst (pa_cons (pe_tup (pa_cons pe_str pa_nil)) (pa_cons (pe_tup (pa_cons pe_str (pa_cons pe_int pa_nil))) (pa_cons (pe_tup (pa_cons pe_str (pa_cons pe_str pa_nil))) (pa_cons (pe_tup (pa_cons pe_str (pa_cons pe_int pa_nil))) (pa_cons (pe_tup (pa_cons pe_str (pa_cons pe_str pa_nil))) pa_nil))))))) (pg_name (i := 7) scL.nd rfl (Or.inl rfl))
            (pss_one (ps_if (pt_not (pt_val (pe_callG GQ rfl hr19 rfl Y.gQ Y.FQ.kp Y.bQ (pa_cons (pv 5) (pa_cons (pv 4) (pa_cons pe_str (pa_cons (pv 7) pa_nil))))))) (pss_one (ps_ret pe_bl)) pss_nil)))
          (pss_cons (ps_if (PW.pt (pw_or (pt_not (pt_val (pe_callG GO rfl hr19 rfl Y.gO Y.FO.kp Y.bO (pa_cons (pv 5) (pa_cons (pv 4) pa_nil))))) (pw_or1 (pt_cmpR (op_Bne (rnB_own (ok_eq Z.L U 4) U.ne U.b pass0) hr15) (pv 5) (pe_call GR hr11 rfl Y.gR Y.FR.kp Y.bR .nil pass0 (pa_cons (pv 4) pa_nil)) (nomark _))))) (pss_one (ps_ret pe_bl)) pss_nil)
          (pss_cons (ps_set (i := 8) scL.nd rfl (Or.inl rfl) (pe_lst (pa_cons pe_non (pa_cons (pe_tup pa_nil) (pa_cons pe_str (pa_cons (pe_lst (pa_cons pe_non pa_nil)) (pa_cons (pe_lst (pa_cons pe_bl pa_nil)) (pa_cons (pe_lst (pa_cons pe_str pa_nil)) (pa_cons (pe_lst (pa_cons (pe_op op_sub pe_int pe_int) pa_nil)) (pa_cons (pe_lst (pa_cons (pv 6) pa_nil))
            (pa_cons (pe_lst (pa_cons pe_int (pa_cons pe_int pa_nil))) (pa_cons pe_dnewK (pa_cons pe_int (pa_cons (pe_tup (pa_cons pe_int pa_nil)) (pa_cons (pe_lst (pa_cons (pe_lst (pa_cons pe_int pa_nil)) pa_nil)) (pa_cons (pe_lst (pa_cons (pe_op op_pow pe_int pe_int) pa_nil)) pa_nil))))))))))))))))
          (pss_cons (ps_for PassesOwn.never rfl (pi_range1 rfl Z.L.N.range (pa_cons pe_int pa_nil)) (pg_name (i := 9) scL.nd rfl (Or.inl rfl))
            (pss_cons (ps_set (i := 10) scL.nd rfl (Or.inl rfl) (pe_slice sl_list (pe_call GM hr2 rfl Y.gM Y.FM.kp Y.bM .nil pass0 (pa_cons (pv 2) (pa_cons (pe_listRg rfl rfl Z.L.N.lst (prg_1 rfl Z.L.N.range (pv 6))) pa_nil))) po_none (po_some (pe_call GD hr1 rfl Y.gD Y.FD.kp Y.bD .nil pass0 (pa_cons (pv 2) (pa_cons (pe_op op_add (pv 6) pe_int) pa_nil))))))
            (pss_cons (ps_set (i := 11) scL.nd rfl (Or.inl rfl) (pe_call GD hr1 rfl Y.gD Y.FD.kp Y.bD .nil pass0 (pa_cons (pv 2) (pa_cons (pe_op op_add (pe_callB call_len_seq (by rfl) Z.L.N.len PySem.boot_len (pa_cons (pv 10) pa_nil)) pe_int) pa_nil))))
            (pss_cons (ps_set (i := 12) scL.nd rfl (Or.inl rfl) (pe_call GP hr2 rfl Y.gP Y.FP.kp Y.bP .nil pass0 (pa_cons (pv 2) (pa_cons (pe_op op_cat (pe_lst (pa_cons pe_non (pa_cons pe_bl (pa_cons (pv 6) (pa_cons (pe_op op_sub pe_int pe_int) (pa_cons pe_str (pa_cons (pe_lst (pa_cons pe_int pa_nil)) pa_nil))))))) (pv 10)) pa_nil))))
            (pss_cons (ps_set (i := 13) scL.nd rfl (Or.inl rfl) (pe_op op_cat (pe_op op_cat (pe_callTy call_list_of (by rfl) Z.L.N.lst PyProof.Rows.boot_list (pa_cons (pe_slice sl_list (pv 10) po_none (po_some (pv 11))) pa_nil)) (pe_lst (pa_cons (pv 12) pa_nil))) (pe_callTy call_list_of (by rfl) Z.L.N.lst PyProof.Rows.boot_list (pa_cons (pe_slice sl_list (pv 10) (po_some (pv 11)) po_none) pa_nil))))
            (pss_cons (ps_set (i := 14) scL.nd rfl (Or.inl rfl) (pe_call GP hr2 rfl Y.gP Y.FP.kp Y.bP .nil pass0 (pa_cons (pv 2) (pa_cons (pe_lst (pa_cons (pv 10) (pa_cons (pv 10) (pa_cons (pv 13) (pa_cons (pv 13) (pa_cons (pe_call GP hr2 rfl Y.gP Y.FP.kp Y.bP .nil pass0 (pa_cons (pv 2) (pa_cons (pv 8) pa_nil))) pa_nil)))))) pa_nil))))
            (pss_one (ps_if (pt_not (pt_val (pe_callG GQ rfl hr19 rfl Y.gQ Y.FQ.kp Y.bQ (pa_cons (pv 5) (pa_cons (pv 4) (pa_cons pe_str (pa_cons (pv 14) pa_nil))))))) (pss_one (ps_ret pe_bl)) pss_nil))))))))
          (pss_cons (ps_for PassesOwn.never rfl (pi_list (pe_op op_cat (pe_listRg rfl rfl Z.L.N.lst (prg_1 rfl Z.L.N.range (pv 6))) (pe_lst (pa_cons pe_non (pa_cons pe_bl (pa_cons pe_str (pa_cons (pe_op op_sub pe_int pe_int) (pa_cons (pv 6) (pa_cons (pe_lst (pa_cons pe_int pa_nil)) (pa_cons (pe_op op_pow pe_int pe_int) pa_nil)))))))))) (pg_name (i := 15) scL.nd rfl (Or.inl rfl))
            (pss_one (ps_if (pt_not (pt_val (pe_callG GQ rfl hr19 rfl Y.gQ Y.FQ.kp Y.bQ (pa_cons (pv 5) (pa_cons (pv 4) (pa_cons pe_str (pa_cons (pv 15) pa_nil))))))) (pss_one (ps_ret pe_bl)) pss_nil)))
          (pss_one (ps_if (pt_not (pt_val (pe_call GC hr21 rfl Y.gC Y.FC.kp Y.bC .nil pass0 (pa_cons (pv 2) (pa_cons (pv 4) (pa_cons (pv 5) pa_nil)))))) (pss_one (ps_ret pe_bl)) pss_nil)))))))))))))
      (pss_one (ps_ret pe_bl)), ?_⟩
    have hS2 : ∀ H', Kp H H' → SqL K H' a (ns.map V.int) := fun H' kp => by
      rcases hS with (h | ⟨o, h⟩) | h
      · rcases only a with z | ⟨ob, xs, z⟩
        · rw [h] at z; cases z
        · rw [h] at z; cases z
      · exact .inl (.inr ⟨o, kp _ _ h rfl⟩)
      · exact .inr h
    have hj : ∀ n : Nat, n ≤ 63 → (1 : Int) ≤ (if (if (n : Int) < 4 then (n : Int) else 4) > 1 then (if (n : Int) < 4 then (n : Int) else 4) else 1) ∧ (if (if (n : Int) < 4 then (n : Int) else 4) > 1 then (if (n : Int) < 4 then (n : Int) else 4) else 1) ≤ 4 := by
      intro n hn
      split <;> split <;> omega
    have hj2 := hj (ns.map V.int).length (by rw [List.length_map]; exact hlen)
    generalize hJ : (if (if ((ns.map V.int).length : Int) < 4 then ((ns.map V.int).length : Int) else 4) > 1 then (if ((ns.map V.int).length : Int) < 4 then ((ns.map V.int).length : Int) else 4) else 1) = J at hj2
    refine ⟨_, rfl, a, _, rfl, .inl hS, _, _, rfl, _, _, rfl, J, by rw [← hJ], by omega, by omega, ?_⟩
    refine for_range (lo := 0) (n := J.toNat) (fun _ σ H' => Kp H H' ∧ ∃ v1 v2 v3 v4 v5 v6 v7 v8 v9 v10 v11 v12 v13 v14 v15 : Option V, σ = [some (.ref a), v1, v2, v3, v4, v5, v6, v7, v8, v9, v10, v11, v12, v13, v14, v15])
      ⟨Kp.refl _, _, _, _, _, _, _, _, _, _, _, _, _, _, _, _, rfl⟩ ?_ (fun σ H' _ => kk H')
    rintro i σ H1 hi ⟨k1, v1, v2, v3, v4, v5, v6, v7, v8, v9, v10, v11, v12, v13, v14, v15, rfl⟩
    refine ⟨_, rfl, _, rfl, a, ns, _, rfl, hS2 _ k1, hlen, hbits, by omega, by omega, fun p H2 np st2 but2 => ?_⟩
    have s2 : Same H1 H2 := fun b o e => (but2 b (ne_of_none e np)).trans e
    have k2 : Kp H H2 := k1.trans (Kp.of s2)
    refine ⟨3, rfl, by decide, by decide, ?_⟩
    refine for_range (lo := 0) (n := 3) (fun _ σ H' => Kp H H' ∧ Strm H' p ∧ ∃ v3 v4 v5 v6 v7 v8 v9 v10 v11 v12 v13 v14 v15 : Option V, σ = [some (.ref a), some (.int (0 + (i : Int))), some (.ref p), v3, v4, v5, v6, v7, v8, v9, v10, v11, v12, v13, v14, v15])
      ⟨k2, st2, _, _, _, _, _, _, _, _, _, _, _, _, _, rfl⟩ ?_ (fun σ H' z => by obtain ⟨z1, _, v3, v4, v5, v6, v7, v8, v9, v10, v11, v12, v13, v14, v15, rfl⟩ := z; exact ⟨z1, _, _, _, _, _, _, _, _, _, _, _, _, _, _, _, rfl⟩)
    rintro t σ H3 ht ⟨k3, st3, v3, v4, v5, v6, v7, v8, v9, v10, v11, v12, v13, v14, v15, rfl⟩
    refine drawn_plan (i := 2) rfl st3 fun v g H4 hv ok few st4 bx4 => ?_
    have k4 : Kp H H4 := k3.trans (bx4.kp st3)
    cases hv with
    | @mk pa b s l ys h hs hl =>
    have hv : PlAt K H4 (.ref pa) (.mk s l) := .mk h hs hl
    have ly := PsAll.len hl
    have ok' : s ∈ K0 ∧ l.len ≤ 6 ∧ l.ok 0 [s] := ok
    refine ⟨_, rfl, .ref pa, _, rfl, hv, ok, Pg.nest4 ok, fun pr H5 npr s5 pg5 => ?_⟩
    refine ⟨_, rfl, pa, _, _, .ref b, rfl, rfl, (Kp.of s5).tup h, rfl, b, ys, rfl, .inr ((Kp.of s5).tup hs), _, _, rfl, ?_⟩
    rw [ly]
    have n6 : l.len ≤ 6 := ok'.2.1
    generalize l.len = n at n6 ⊢
    have hv5 := PlAt.kp (Kp.of s5) hv
    have k5 : Kp H H5 := k4.trans (Kp.of s5)
    have st5 := st4.same s5
    clear k1 k2 k3 k4 s2 but2 st2 st3 bx4 s5 st4 hj hJ ly h hs hl hv
    refine ⟨by show 1 ≤ sizeLine; decide, fun u1 hu1 => ?_⟩
    have x1 : Same H5 (upd H5 u1 (.tup [.str "flat"])) := same_new hu1
    have f1 : upd H5 u1 (.tup [.str "flat"]) u1 = some (.tup [.str "flat"]) := upd_same
    generalize upd H5 u1 (.tup [.str "flat"]) = G1 at x1 f1
    refine ⟨by show 2 ≤ sizeLine; decide, fun u2 hu2 => ?_⟩
    have x2 : Same G1 (upd G1 u2 (.tup [.str "lots", .int 2])) := same_new hu2
    have f2 : upd G1 u2 (.tup [.str "lots", .int 2]) u2 = some (.tup [.str "lots", .int 2]) := upd_same
    generalize upd G1 u2 (.tup [.str "lots", .int 2]) = G2 at x2 f2
    refine ⟨by show 2 ≤ sizeLine; decide, fun u3 hu3 => ?_⟩
    have x3 : Same G2 (upd G2 u3 (.tup [.str "map", .str "f"])) := same_new hu3
    have f3 : upd G2 u3 (.tup [.str "map", .str "f"]) u3 = some (.tup [.str "map", .str "f"]) := upd_same
    generalize upd G2 u3 (.tup [.str "map", .str "f"]) = G3 at x3 f3
    refine ⟨by show 2 ≤ sizeLine; decide, fun u4 hu4 => ?_⟩
    have x4 : Same G3 (upd G3 u4 (.tup [.str "take", .int 4])) := same_new hu4
    have f4 : upd G3 u4 (.tup [.str "take", .int 4]) u4 = some (.tup [.str "take", .int 4]) := upd_same
    generalize upd G3 u4 (.tup [.str "take", .int 4]) = G4 at x4 f4
    refine ⟨by show 2 ≤ sizeLine; decide, fun u5 hu5 => ?_⟩
    have x5 : Same G4 (upd G4 u5 (.tup [.str "keep", .str "abcdefgh"])) := same_new hu5
    have f5 : upd G4 u5 (.tup [.str "keep", .str "abcdefgh"]) u5 = some (.tup [.str "keep", .str "abcdefgh"]) := upd_same
    generalize upd G4 u5 (.tup [.str "keep", .str "abcdefgh"]) = G5 at x5 f5
    refine ⟨by show 5 ≤ sizeLine; decide, fun u6 hu6 => ?_⟩
    have x6 : Same G5 (upd G5 u6 (.lst [.ref u1, .ref u2, .ref u3, .ref u4, .ref u5])) := same_new hu6
    have f6 : upd G5 u6 (.lst [.ref u1, .ref u2, .ref u3, .ref u4, .ref u5]) u6 = some (.lst [.ref u1, .ref u2, .ref u3, .ref u4, .ref u5]) := upd_same
    generalize upd G5 u6 (.lst [.ref u1, .ref u2, .ref u3, .ref u4, .ref u5]) = G6 at x6 f6
    have c5 : Same G5 G6 := x6
    have c4 : Same G4 G6 := x5.trans c5
    have c3 : Same G3 G6 := x4.trans c4
    have c2 : Same G2 G6 := x3.trans c3
    have c1 : Same G1 G6 := x2.trans c2
    have c0 : Same H5 G6 := x1.trans c1
    have pg6 := PgAt.kp (Kp.of c0) pg5
    have hv6 := PlAt.kp (Kp.of c0) hv5
    have all : ∀ e ∈ ([.ref u1, .ref u2, .ref u3, .ref u4, .ref u5] : List V), ∀ G', Same G6 G' → ∀ Q : VK, (∀ G2, Same G' G2 → Q (.bl true) G2) → spAsk K C [.ref pr, .ref pa, .str "then", e] G' Q E0 := fun e m G' sg Q kq => by
      have pgg := PgAt.kp (Kp.of sg) pg6
      have hvg := PlAt.kp (Kp.of sg) hv6
      rcases List.mem_cons.mp m with rfl | m
      · have q : SqT K G' u1 [.str "flat"] := .inl (.inl ((c1.trans sg) _ _ f1))
        exact ask_then (y := .flat) (ds := [.str "flat"]) pgg hvg ok few q (.flat q) (.flat q) True.intro rfl (fun _ => .cons (.str _) .nil) (by decide +kernel) kq
      rcases List.mem_cons.mp m with rfl | m
      · have q : SqT K G' u2 [.str "lots", .int 2] := .inl (.inl ((c2.trans sg) _ _ f2))
        exact ask_then (y := .num "lots" 2) (ds := [.str "lots", .int 2]) pgg hvg ok few q (.num q) (.num q) ⟨by decide +kernel, by decide, by decide⟩ rfl (fun _ => .cons (.str _) (.cons (.int _) .nil)) (by decide +kernel) kq
      rcases List.mem_cons.mp m with rfl | m
      · have q : SqT K G' u3 [.str "map", .str "f"] := .inl (.inl ((c3.trans sg) _ _ f3))
        exact ask_then (y := .nm "map" "f") (ds := [.str "map", .str "f"]) pgg hvg ok few q (.nm q) (.nm q) ⟨by decide +kernel, by decide +kernel⟩ rfl (fun _ => .cons (.str _) (.cons (.str _) .nil)) (by decide +kernel) kq
      rcases List.mem_cons.mp m with rfl | m
      · have q : SqT K G' u4 [.str "take", .int 4] := .inl (.inl ((c4.trans sg) _ _ f4))
        exact ask_then (y := .num "take" 4) (ds := [.str "take", .int 4]) pgg hvg ok few q (.num q) (.num q) ⟨by decide +kernel, by decide, by decide⟩ rfl (fun _ => .cons (.str _) (.cons (.int _) .nil)) (by decide +kernel) kq
      rcases List.mem_cons.mp m with rfl | m
      · have q : SqT K G' u5 [.str "keep", .str "abcdefgh"] := .inl (.inl ((c5.trans sg) _ _ f5))
        exact ask_then (y := .nm "keep" "abcdefgh") (ds := [.str "keep", .str "abcdefgh"]) pgg hvg ok few q (.nm q) (.nm q) ⟨by decide +kernel, by decide +kernel⟩ rfl (fun _ => .cons (.str _) (.cons (.str _) .nil)) (by decide +kernel) kq
      · cases m
    refine ⟨u6, rfl, ⟨_, SqL.of f6⟩, ?_⟩
    generalize ([.ref u1, .ref u2, .ref u3, .ref u4, .ref u5] : List V) = ms at f6 all
    refine for_it (walk_list (xs := ms)) (fun j0 σ H' => (∃ v7 : Option V, σ = [some (.ref a), some (.int (0 + (i : Int))), some (.ref p), some (.int (0 + (t : Int))), some (.ref pa), some (.ref pr), some (.int (n : Nat)), v7, v8, v9, v10, v11, v12, v13, v14, v15]) ∧ Same G6 H') ⟨⟨_, rfl⟩, Same.refl G6⟩ (fun j0 σ H' _ q => q.2.seq (SqL.of f6)) ?_ ?_
    · rintro j e σ Hx Hy hj ⟨⟨w7, rfl⟩, q1⟩ ⟨rfl, he⟩
      refine ⟨_, rfl, _, rfl, _, rfl, ?_⟩
      dsimp only [tNil]
      refine all e (List.mem_of_getElem? he) _ q1 _ fun Hz s1 => ?_
      exact ⟨_, rfl, iteF (A := True) ⟨⟨_, rfl⟩, q1.trans s1⟩⟩
    rintro σ H6 ⟨⟨w7, rfl⟩, q6⟩
    have c6 : Same H5 H6 := c0.trans q6
    have pg6 := PgAt.kp (Kp.of c6) pg5
    have hv6 := PlAt.kp (Kp.of c6) hv5
    have k6 := k5.trans (Kp.of c6)
    have st6 := st5.same c6
    clear all c0 c1 c2 c3 c4 c5 x1 x2 x3 x4 x5 x6 f1 f2 f3 f4 f5 f6 q6 c6 pg5 hv5 k5 st5
    refine ⟨_, rfl, _, rfl, pr, pa, _, rfl, pg6, hv6, ok, few, fun H7 s7 => ⟨_, rfl, iteF (A := True) ?_⟩⟩
    have s7 : Same H6 H7 := s7
    refine ⟨_, rfl, _, rfl, .ref pa, _, rfl, PlAt.kp (Kp.of s7) hv6, ok, Pg.nest4 ok, fun q8 H8 nq8 s8 pg8 => ?_⟩
    refine ⟨true, two_rq (two_of (PgAt.kp (Kp.of (s7.trans s8)) pg6) pg8 ok ok ⟨fun _ => rfl, fun _ => rfl⟩), fun H9 x9 => ⟨_, rfl, iteF (A := True) ?_⟩⟩
    have c9 : Same H6 H9 := s7.trans (s8.trans x9)
    have pg9 := PgAt.kp (Kp.of c9) pg6
    have hv9 := PlAt.kp (Kp.of c9) hv6
    have k9 := k6.trans (Kp.of c9)
    have st9 := st6.same c9
    clear s7 s8 x9 c9 pg6 hv6 k6 st6 pg8
    refine ⟨by show 0 ≤ sizeLine; decide, fun o1 ho1 => ?_⟩
    have x1 : Same H9 (upd H9 o1 (.tup [])) := same_new ho1
    have f1 : upd H9 o1 (.tup []) o1 = some (.tup []) := upd_same
    generalize upd H9 o1 (.tup []) = G1 at x1 f1
    refine ⟨by show 1 ≤ sizeLine; decide, fun o2 ho2 => ?_⟩
    have x2 : Same G1 (upd G1 o2 (.lst [.non])) := same_new ho2
    have f2 : upd G1 o2 (.lst [.non]) o2 = some (.lst [.non]) := upd_same
    generalize upd G1 o2 (.lst [.non]) = G2 at x2 f2
    refine ⟨by show 1 ≤ sizeLine; decide, fun o3 ho3 => ?_⟩
    have x3 : Same G2 (upd G2 o3 (.lst [.bl true])) := same_new ho3
    have f3 : upd G2 o3 (.lst [.bl true]) o3 = some (.lst [.bl true]) := upd_same
    generalize upd G2 o3 (.lst [.bl true]) = G3 at x3 f3
    refine ⟨by show 1 ≤ sizeLine; decide, fun o4 ho4 => ?_⟩
    have x4 : Same G3 (upd G3 o4 (.lst [.str "0"])) := same_new ho4
    have f4 : upd G3 o4 (.lst [.str "0"]) o4 = some (.lst [.str "0"]) := upd_same
    generalize upd G3 o4 (.lst [.str "0"]) = G4 at x4 f4
    refine ⟨_, _, rfl, rfl, by show 1 ≤ sizeLine; decide, fun o5 ho5 => ?_⟩
    have x5 : Same G4 (upd G4 o5 (.lst [.int (0 - 1)])) := same_new ho5
    have f5 : upd G4 o5 (.lst [.int (0 - 1)]) o5 = some (.lst [.int (0 - 1)]) := upd_same
    generalize upd G4 o5 (.lst [.int (0 - 1)]) = G5 at x5 f5
    refine ⟨_, rfl, by show 1 ≤ sizeLine; decide, fun o6 ho6 => ?_⟩
    have x6 : Same G5 (upd G5 o6 (.lst [.int (n : Nat)])) := same_new ho6
    have f6 : upd G5 o6 (.lst [.int (n : Nat)]) o6 = some (.lst [.int (n : Nat)]) := upd_same
    generalize upd G5 o6 (.lst [.int (n : Nat)]) = G6 at x6 f6
    refine ⟨by show 2 ≤ sizeLine; decide, fun o7 ho7 => ?_⟩
    have x7 : Same G6 (upd G6 o7 (.lst [.int 0, .int 0])) := same_new ho7
    have f7 : upd G6 o7 (.lst [.int 0, .int 0]) o7 = some (.lst [.int 0, .int 0]) := upd_same
    generalize upd G6 o7 (.lst [.int 0, .int 0]) = G7 at x7 f7
    intro o8 ho8
    have x8 : Same G7 (upd G7 o8 (.dK [])) := same_new ho8
    have f8 : upd G7 o8 (.dK []) o8 = some (.dK []) := upd_same
    generalize upd G7 o8 (.dK []) = G8 at x8 f8
    refine ⟨by show 1 ≤ sizeLine; decide, fun o9 ho9 => ?_⟩
    have x9 : Same G8 (upd G8 o9 (.tup [.int 0])) := same_new ho9
    have f9 : upd G8 o9 (.tup [.int 0]) o9 = some (.tup [.int 0]) := upd_same
    generalize upd G8 o9 (.tup [.int 0]) = G9 at x9 f9
    refine ⟨by show 1 ≤ sizeLine; decide, fun o10 ho10 => ?_⟩
    have x10 : Same G9 (upd G9 o10 (.lst [.int 0])) := same_new ho10
    have f10 : upd G9 o10 (.lst [.int 0]) o10 = some (.lst [.int 0]) := upd_same
    generalize upd G9 o10 (.lst [.int 0]) = G10 at x10 f10
    refine ⟨by show 1 ≤ sizeLine; decide, fun o11 ho11 => ?_⟩
    have x11 : Same G10 (upd G10 o11 (.lst [.ref o10])) := same_new ho11
    have f11 : upd G10 o11 (.lst [.ref o10]) o11 = some (.lst [.ref o10]) := upd_same
    generalize upd G10 o11 (.lst [.ref o10]) = G11 at x11 f11
    refine ⟨_, _, rfl, rfl, ⟨by decide, by decide, by decide⟩, by show 1 ≤ sizeLine; decide, fun o12 ho12 => ?_⟩
    have x12 : Same G11 (upd G11 o12 (.lst [.int (10 ^ (30 : Int).toNat)])) := same_new ho12
    have f12 : upd G11 o12 (.lst [.int (10 ^ (30 : Int).toNat)]) o12 = some (.lst [.int (10 ^ (30 : Int).toNat)]) := upd_same
    generalize upd G11 o12 (.lst [.int (10 ^ (30 : Int).toNat)]) = G12 at x12 f12
    have c12 : Same G12 G12 := Same.refl _
    have c11 : Same G11 G12 := x12.trans c12
    have c10 : Same G10 G12 := x11.trans c11
    have c9 : Same G9 G12 := x10.trans c10
    have c8 : Same G8 G12 := x9.trans c9
    have c7 : Same G7 G12 := x8.trans c8
    have c6 : Same G6 G12 := x7.trans c7
    have c5 : Same G5 G12 := x6.trans c6
    have c4 : Same G4 G12 := x5.trans c5
    have c3 : Same G3 G12 := x4.trans c4
    have c2 : Same G2 G12 := x3.trans c3
    have c1 : Same G1 G12 := x2.trans c2
    have c0 : Same H9 G12 := x1.trans c1
    have cc1 : Same H9 G1 := x1
    have cc2 : Same H9 G2 := cc1.trans x2
    have cc3 : Same H9 G3 := cc2.trans x3
    have cc4 : Same H9 G4 := cc3.trans x4
    have cc5 : Same H9 G5 := cc4.trans x5
    have cc6 : Same H9 G6 := cc5.trans x6
    have cc7 : Same H9 G7 := cc6.trans x7
    have cc8 : Same H9 G8 := cc7.trans x8
    have cc9 : Same H9 G9 := cc8.trans x9
    have cc10 : Same H9 G10 := cc9.trans x10
    have cc11 : Same H9 G11 := cc10.trans x11
    have n2 : o2 ∉ [p] := fun z => strm_ne (st9.same (x1)) ho2 (List.mem_singleton.mp z)
    have n3 : o3 ∉ [p] := fun z => strm_ne (st9.same (cc2)) ho3 (List.mem_singleton.mp z)
    have n4 : o4 ∉ [p] := fun z => strm_ne (st9.same (cc3)) ho4 (List.mem_singleton.mp z)
    have n5 : o5 ∉ [p] := fun z => strm_ne (st9.same (cc4)) ho5 (List.mem_singleton.mp z)
    have nn6 : o6 ∉ [p] := fun z => strm_ne (st9.same (cc5)) ho6 (List.mem_singleton.mp z)
    have n7 : o7 ∉ [p] := fun z => strm_ne (st9.same (cc6)) ho7 (List.mem_singleton.mp z)
    have n10 : o10 ∉ [p] := fun z => strm_ne (st9.same (cc9)) ho10 (List.mem_singleton.mp z)
    have n11 : o11 ∉ [p] := fun z => strm_ne (st9.same (cc10)) ho11 (List.mem_singleton.mp z)
    have n12 : o12 ∉ [p] := fun z => strm_ne (st9.same (cc11)) ho12 (List.mem_singleton.mp z)
    have all : ∀ e ∈ ([.non, .ref o1, .str "0", .ref o2, .ref o3, .ref o4, .ref o5, .ref o6, .ref o7, .ref o8, .int 0, .ref o9, .ref o11, .ref o12] : List V), TopV K [p] G12 2 e := fun e m => by
      rcases List.mem_cons.mp m with rfl | m
      · exact .pl (PlI.sc .non 2)
      rcases List.mem_cons.mp m with rfl | m
      · exact .t0 (.inl (.inl (c1 _ _ f1)))
      rcases List.mem_cons.mp m with rfl | m
      · exact .pl (PlI.sc (.str "0" okD_t0) 2)
      rcases List.mem_cons.mp m with rfl | m
      · exact top_l (c2 _ _ f2) n2 (by decide) (sc_all1 .non)
      rcases List.mem_cons.mp m with rfl | m
      · exact top_l (c3 _ _ f3) n3 (by decide) (sc_all1 (.bl true))
      rcases List.mem_cons.mp m with rfl | m
      · exact top_l (c4 _ _ f4) n4 (by decide) (sc_all1 (.str "0" okD_t0))
      rcases List.mem_cons.mp m with rfl | m
      · exact top_l (c5 _ _ f5) n5 (by decide) (sc_all1 (.int _ okD_neg))
      rcases List.mem_cons.mp m with rfl | m
      · exact top_l (c6 _ _ f6) nn6 (by show 1 ≤ 2; decide) (sc_all1 (.int _ (okD_small (by omega))))
      rcases List.mem_cons.mp m with rfl | m
      · exact top_l (c7 _ _ f7) n7 (by decide) (fun y hy => by simp only [List.mem_cons, List.not_mem_nil, or_false, or_self] at hy; rw [hy]; exact PlI.sc (.int 0 okD_0) 1)
      rcases List.mem_cons.mp m with rfl | m
      · exact .dct (c8 _ _ f8)
      rcases List.mem_cons.mp m with rfl | m
      · exact .pl (PlI.sc (.int 0 okD_0) 2)
      rcases List.mem_cons.mp m with rfl | m
      · exact .t1 (.inl (.inl (c9 _ _ f9)))
      rcases List.mem_cons.mp m with rfl | m
      · exact top_l (c11 _ _ f11) n11 (by show 1 ≤ 2; decide) (fun y hy => by rw [List.mem_singleton.mp hy]; exact pli_l (c10 _ _ f10) n10 (by decide) (fun z hz => by rw [List.mem_singleton.mp hz]; exact ⟨_, .int 0 okD_0⟩))
      rcases List.mem_cons.mp m with rfl | m
      · exact top_l (c12 _ _ f12) n12 (by decide) (sc_all1 (.int _ okD_big))
      · cases m
    refine ⟨by show 14 ≤ sizeLine; decide, fun qo hqo => ?_⟩
    have st12 := st9.same c0
    have neq : qo ≠ p := strm_ne st12 hqo
    have x13 : Same G12 (upd G12 qo (.lst [.non, .ref o1, .str "0", .ref o2, .ref o3, .ref o4, .ref o5, .ref o6, .ref o7, .ref o8, .int 0, .ref o9, .ref o11, .ref o12])) := same_new hqo
    have f13 : upd G12 qo (.lst [.non, .ref o1, .str "0", .ref o2, .ref o3, .ref o4, .ref o5, .ref o6, .ref o7, .ref o8, .int 0, .ref o9, .ref o11, .ref o12]) qo = some (.lst [.non, .ref o1, .str "0", .ref o2, .ref o3, .ref o4, .ref o5, .ref o6, .ref o7, .ref o8, .int 0, .ref o9, .ref o11, .ref o12]) := upd_same
    generalize upd G12 qo (.lst [.non, .ref o1, .str "0", .ref o2, .ref o3, .ref o4, .ref o5, .ref o6, .ref o7, .ref o8, .int 0, .ref o9, .ref o11, .ref o12]) = G13 at x13 f13
    have nw0 : Nw K p qo [.non, .ref o1, .str "0", .ref o2, .ref o3, .ref o4, .ref o5, .ref o6, .ref o7, .ref o8, .int 0, .ref o9, .ref o11, .ref o12] H9 G13 (2 + 0) := ⟨Kp.of (c0.trans x13), st12.same x13, neq, f13, fun e he => ((all e he).av hqo).same x13⟩
    have ne0 : ([.non, .ref o1, .str "0", .ref o2, .ref o3, .ref o4, .ref o5, .ref o6, .ref o7, .ref o8, .int 0, .ref o9, .ref o11, .ref o12] : List V) ≠ [] := fun z => by cases z
    have ln0 : ([.non, .ref o1, .str "0", .ref o2, .ref o3, .ref o4, .ref o5, .ref o6, .ref o7, .ref o8, .int 0, .ref o9, .ref o11, .ref o12] : List V).length < 1000 := by show 14 < 1000; decide
    clear x1 x2 x3 x4 x5 x6 x7 x8 x9 x10 x11 x12 x13 f1 f2 f3 f4 f5 f6 f7 f8 f9 f10 f11 f12 f13 c0 c1 c2 c3 c4 c5 c6 c7 c8 c9 c10 c11 c12 cc1 cc2 cc3 cc4 cc5 cc6 cc7 cc8 cc9 cc10 cc11 all st12
    generalize ([.non, .ref o1, .str "0", .ref o2, .ref o3, .ref o4, .ref o5, .ref o6, .ref o7, .ref o8, .int 0, .ref o9, .ref o11, .ref o12] : List V) = odds at nw0 ne0 ln0
    refine ⟨6, rfl, by decide, by decide, ?_⟩
    refine for_range (lo := 0) (n := 6) (fun j σ H' => Nw K p qo odds H9 H' (2 + j) ∧ ∃ v9 v10 v11 v12 v13 v14 : Option V, σ = [some (.ref a), some (.int (0 + (i : Int))), some (.ref p), some (.int (0 + (t : Int))), some (.ref pa), some (.ref pr), some (.int (n : Nat)), w7, some (.ref qo), v9, v10, v11, v12, v13, v14, v15]) ⟨nw0, _, _, _, _, _, _, rfl⟩ ?_ ?_
    · rintro j σ J0 hj ⟨nw, v9, v10, v11, v12, v13, v14, rfl⟩
      refine ⟨_, rfl, _, rfl, _, rfl, RgOk.of_le (by omega) (by omega) (by omega) (by omega), fun q1 hq1 => ?_⟩
      have neq1 := strm_ne nw.st hq1
      have x1 : Same J0 (upd J0 q1 (.lst (rgV 0 (n : Int)))) := same_new hq1
      have f1 : upd J0 q1 (.lst (rgV 0 (n : Int))) q1 = some (.lst (rgV 0 (n : Int))) := upd_same
      generalize upd J0 q1 (.lst (rgV 0 (n : Int))) = J1 at x1 f1
      have nw := nw.same x1
      refine ⟨p, q1, _, rfl, nw.st, SqL.of f1, neq1, by rw [rg_len]; omega, rg_plns n, fun r ys J2 pm nr er st2 bx2 => ?_⟩
      have ner := strm_ne nw.st nr
      have nw := nw.bx bx2 st2
      refine ⟨_, rfl, _, rfl, _, _, rfl, rfl, p, _, rfl, nw.st, by omega, by omega, fun d J3 d0 d1 st3 but3 => ?_⟩
      have nw := nw.bx but3.bx st3
      have er3 : J3 r = some (.lst ys) := (but3 r ner).trans er
      have sml : ∀ x ∈ cutV ys none (some d), ∃ i : Nat, i < n ∧ x = .int (i : Nat) := fun x hx => rg_mem (pm.mem_iff.mp (cutV_mem hx))
      have sln : (cutV ys none (some d)).length ≤ 6 := by have := cutV_length ys none (some d); have := pm.length_eq; rw [rg_len] at this; omega
      refine ⟨d, rfl, r, ys, rfl, SqL.of er3, fun q3 hq3 => ?_⟩
      generalize cutV ys none (some d) = ss at sml sln ⊢
      have neq3 := strm_ne nw.st hq3
      have avq3 : ∀ z ∈ [qo, p], q3 ≠ z := fun z hz e => by
        rcases List.mem_cons.mp hz with h | h
        · rw [e, h, nw.oq] at hq3; cases hq3
        · rw [List.mem_singleton.mp h] at e; exact neq3 e
      have x4 : Same J3 (upd J3 q3 (.lst ss)) := same_new hq3
      have f4 : upd J3 q3 (.lst ss) q3 = some (.lst ss) := upd_same
      generalize upd J3 q3 (.lst ss) = J4 at x4 f4
      have nw := nw.same x4
      refine ⟨_, rfl, _, rfl, q3, ss, rfl, .inl (SqL.of f4), _, _, rfl, rfl, p, _, rfl, nw.st, by omega, by omega, fun d2 J5 d20 d21 st5 but5 => ?_⟩
      have nw := nw.bx but5.bx st5
      have f5 : J5 q3 = some (.lst ss) := (but5 q3 neq3).trans f4
      refine ⟨_, rfl, _, rfl, _, _, rfl, rfl, by show 1 ≤ sizeLine; decide, fun q4 hq4 => ?_⟩
      have neq4 := strm_ne nw.st hq4
      have avq4 : ∀ z ∈ [qo, p], q4 ≠ z := fun z hz e => by
        rcases List.mem_cons.mp hz with h | h
        · rw [e, h, nw.oq] at hq4; cases hq4
        · rw [List.mem_singleton.mp h] at e; exact neq4 e
      have x6 : Same J5 (upd J5 q4 (.lst [.int 0])) := same_new hq4
      have f6 : upd J5 q4 (.lst [.int 0]) q4 = some (.lst [.int 0]) := upd_same
      generalize upd J5 q4 (.lst [.int 0]) = J6 at x6 f6
      have nw := nw.same x6
      refine ⟨by show 6 ≤ sizeLine; decide, fun q5 hq5 => ?_⟩
      have x7 : Same J6 (upd J6 q5 (.lst [.non, .bl true, .int (n : Nat), .int (0 - 1), .str "0", .ref q4])) := same_new hq5
      have f7 : upd J6 q5 (.lst [.non, .bl true, .int (n : Nat), .int (0 - 1), .str "0", .ref q4]) q5 = some (.lst [.non, .bl true, .int (n : Nat), .int (0 - 1), .str "0", .ref q4]) := upd_same
      generalize upd J6 q5 (.lst [.non, .bl true, .int (n : Nat), .int (0 - 1), .str "0", .ref q4]) = J7 at x7 f7
      have nw := nw.same x7
      have x57 := x6.trans x7
      refine ⟨_, rfl, q5, q3, _, _, rfl, rfl, f7, x57 _ _ f5, ?_, fun q6 hq6 => ?_⟩
      · rw [sizeLine_eq]
        show 6 + ss.length ≤ _
        omega
      have neq6 := strm_ne nw.st hq6
      have x8 : Same J7 (upd J7 q6 (.lst ([.non, .bl true, .int (n : Nat), .int (0 - 1), .str "0", .ref q4] ++ ss))) := same_new hq6
      have f8 : upd J7 q6 (.lst ([.non, .bl true, .int (n : Nat), .int (0 - 1), .str "0", .ref q4] ++ ss)) q6 = some (.lst ([.non, .bl true, .int (n : Nat), .int (0 - 1), .str "0", .ref q4] ++ ss)) := upd_same
      generalize upd J7 q6 (.lst ([.non, .bl true, .int (n : Nat), .int (0 - 1), .str "0", .ref q4] ++ ss)) = J8 at x8 f8
      have nw := nw.same x8
      refine ⟨p, q6, _, rfl, nw.st, SqL.of f8, neq6, (fun z => by cases z), ?_, fun more J9 hmore st9b but9 => ?_⟩
      · rw [List.length_append]
        show 6 + ss.length < 1000
        omega
      have x78 := x7.trans x8
      have f9 : J9 q4 = some (.lst [.int 0]) := (but9 q4 neq4).trans (x78 _ _ f6)
      have f93 : J9 q3 = some (.lst ss) := (but9 q3 neq3).trans (x8 _ _ (x57 _ _ f5))
      have nw := nw.bx but9.bx st9b
      have ssP : ∀ {G : Hp} (x : V), x ∈ ss → PlI [qo, p] G 20 1 x := fun x hx => by
        obtain ⟨i, hi, rfl⟩ := sml x hx
        exact PlI.sc (.int _ (okD_small (by omega))) 1
      have moreP : ∀ G : Hp, G q4 = some (.lst [.int 0]) → PlI [qo, p] G 20 1 more := fun G eg => by
        rcases List.mem_append.mp hmore with m | m
        · rcases List.mem_cons.mp m with rfl | m
          · exact PlI.sc .non 1
          rcases List.mem_cons.mp m with rfl | m
          · exact PlI.sc (.bl true) 1
          rcases List.mem_cons.mp m with rfl | m
          · exact PlI.sc (.int _ (okD_small (by omega))) 1
          rcases List.mem_cons.mp m with rfl | m
          · exact PlI.sc (.int _ okD_neg) 1
          rcases List.mem_cons.mp m with rfl | m
          · exact PlI.sc (.str "0" okD_t0) 1
          rcases List.mem_cons.mp m with rfl | m
          · exact pli_l eg (fun z => avq4 _ z rfl) (by decide) (fun z hz => by rw [List.mem_singleton.mp hz]; exact ⟨_, .int 0 okD_0⟩)
          · cases m
        · exact ssP more m
      refine ⟨_, rfl, _, rfl, d2, rfl, q3, ss, rfl, SqL.of f93, fun q8 hq8 => ?_⟩
      have l1 := cutV_length ss none (some d2)
      have m1 : ∀ x ∈ cutV ss none (some d2), x ∈ ss := fun x hx => cutV_mem hx
      generalize cutV ss none (some d2) = s1 at l1 m1 ⊢
      have x10 : Same J9 (upd J9 q8 (.lst s1)) := same_new hq8
      have f10 : upd J9 q8 (.lst s1) q8 = some (.lst s1) := upd_same
      generalize upd J9 q8 (.lst s1) = J10 at x10 f10
      have nw := nw.same x10
      refine ⟨q8, s1, rfl, .inl (SqL.of f10), fun q9 hq9 => ?_⟩
      have x11 : Same J10 (upd J10 q9 (.lst s1)) := same_new hq9
      have f11 : upd J10 q9 (.lst s1) q9 = some (.lst s1) := upd_same
      generalize upd J10 q9 (.lst s1) = J11 at x11 f11
      have nw := nw.same x11
      refine ⟨_, rfl, by show 1 ≤ sizeLine; decide, fun q10 hq10 => ?_⟩
      have x12 : Same J11 (upd J11 q10 (.lst [more])) := same_new hq10
      have f12 : upd J11 q10 (.lst [more]) q10 = some (.lst [more]) := upd_same
      generalize upd J11 q10 (.lst [more]) = J12 at x12 f12
      have nw := nw.same x12
      refine ⟨q9, q10, s1, [more], rfl, rfl, x12 _ _ f11, f12, ?_, fun q11 hq11 => ?_⟩
      · rw [sizeLine_eq]
        show s1.length + 1 ≤ _
        omega
      have x13 : Same J12 (upd J12 q11 (.lst (s1 ++ [more]))) := same_new hq11
      have f13 : upd J12 q11 (.lst (s1 ++ [more])) q11 = some (.lst (s1 ++ [more])) := upd_same
      generalize upd J12 q11 (.lst (s1 ++ [more])) = J13 at x13 f13
      have nw := nw.same x13
      have y13 : Same J9 J13 := x10.trans (x11.trans (x12.trans x13))
      refine ⟨_, rfl, _, rfl, d2, rfl, q3, ss, rfl, SqL.of (y13 _ _ f93), fun q12 hq12 => ?_⟩
      have l2 := cutV_length ss (some d2) none
      have m2 : ∀ x ∈ cutV ss (some d2) none, x ∈ ss := fun x hx => cutV_mem hx
      generalize cutV ss (some d2) none = s2 at l2 m2 ⊢
      have x14 : Same J13 (upd J13 q12 (.lst s2)) := same_new hq12
      have f14 : upd J13 q12 (.lst s2) q12 = some (.lst s2) := upd_same
      generalize upd J13 q12 (.lst s2) = J14 at x14 f14
      have nw := nw.same x14
      refine ⟨q12, s2, rfl, .inl (SqL.of f14), fun q13 hq13 => ?_⟩
      have x15 : Same J14 (upd J14 q13 (.lst s2)) := same_new hq13
      have f15 : upd J14 q13 (.lst s2) q13 = some (.lst s2) := upd_same
      generalize upd J14 q13 (.lst s2) = J15 at x15 f15
      have nw := nw.same x15
      refine ⟨q11, q13, _, s2, rfl, rfl, (x14.trans x15) _ _ f13, f15, ?_, fun q14 hq14 => ?_⟩
      · rw [sizeLine_eq, List.length_append]
        show s1.length + 1 + s2.length ≤ _
        omega
      have neq14 := strm_ne nw.st hq14
      have avq14 : ∀ z ∈ [qo, p], q14 ≠ z := fun z hz e => by
        rcases List.mem_cons.mp hz with h | h
        · rw [e, h, nw.oq] at hq14; cases hq14
        · rw [List.mem_singleton.mp h] at e; exact neq14 e
      have x16 : Same J15 (upd J15 q14 (.lst (s1 ++ [more] ++ s2))) := same_new hq14
      have f16 : upd J15 q14 (.lst (s1 ++ [more] ++ s2)) q14 = some (.lst (s1 ++ [more] ++ s2)) := upd_same
      generalize upd J15 q14 (.lst (s1 ++ [more] ++ s2)) = J16 at x16 f16
      have nw := nw.same x16
      have y16 : Same J9 J16 := y13.trans (x14.trans (x15.trans x16))
      refine ⟨_, rfl, _, rfl, _, rfl, _, rfl, _, rfl, _, rfl, _, rfl, p, qo, odds, rfl, nw.st, SqL.of nw.oq, neq, ne0, ln0, fun od J17 hod st17 but17 => ?_⟩
      have nw := nw.bx but17.bx st17
      refine ⟨by show 5 ≤ sizeLine; decide, fun q15 hq15 => ?_⟩
      have neq15 := strm_ne nw.st hq15
      have x18 : Same J17 (upd J17 q15 (.lst [.ref q3, .ref q3, .ref q14, .ref q14, od])) := same_new hq15
      have f18 : upd J17 q15 (.lst [.ref q3, .ref q3, .ref q14, .ref q14, od]) q15 = some (.lst [.ref q3, .ref q3, .ref q14, .ref q14, od]) := upd_same
      generalize upd J17 q15 (.lst [.ref q3, .ref q3, .ref q14, .ref q14, od]) = J18 at x18 f18
      have nw := nw.same x18
      refine ⟨p, q15, _, rfl, nw.st, SqL.of f18, neq15, (fun z => by cases z), by show 5 < 1000; decide, fun vl J19 hvl st19 but19 => ?_⟩
      have nw := nw.bx but19.bx st19
      have g3 : J19 q3 = some (.lst ss) := (but19 q3 neq3).trans (x18 _ _ ((but17 q3 neq3).trans (y16 _ _ f93)))
      have g4 : J19 q4 = some (.lst [.int 0]) := (but19 q4 neq4).trans (x18 _ _ ((but17 q4 neq4).trans (y16 _ _ f9)))
      have g14 : J19 q14 = some (.lst (s1 ++ [more] ++ s2)) := (but19 q14 neq14).trans (x18 _ _ ((but17 q14 neq14).trans f16))
      have tp : TopV K [qo, p] J19 20 vl := by
        have t1 : TopV K [qo, p] J19 20 (.ref q3) := top_l g3 (fun z => avq3 _ z rfl) (by omega) ssP
        have t2 : TopV K [qo, p] J19 20 (.ref q14) := top_l g14 (fun z => avq14 _ z rfl) (by rw [List.length_append, List.length_append]; show s1.length + 1 + s2.length ≤ 20; omega) fun x hx => by
          rcases List.mem_append.mp hx with hx | hx
          · rcases List.mem_append.mp hx with hx | hx
            · exact ssP x (m1 x hx)
            · rw [List.mem_singleton.mp hx]
              exact moreP J19 g4
          · exact ssP x (m2 x hx)
        rcases List.mem_cons.mp hvl with rfl | hvl
        · exact t1
        rcases List.mem_cons.mp hvl with rfl | hvl
        · exact t1
        rcases List.mem_cons.mp hvl with rfl | hvl
        · exact t2
        rcases List.mem_cons.mp hvl with rfl | hvl
        · exact t2
        rcases List.mem_cons.mp hvl with rfl | hvl
        · exact (nw.top _ hod).up (by omega)
        · cases hvl
      refine ⟨_, rfl, _, rfl, _, rfl, ?_⟩
      dsimp only [tNil]
      refine ask_top (E := E0) (PgAt.kp nw.kp pg9) (PlAt.kp nw.kp hv9) ok few (.inl rfl) tp (by decide) fun J20 ap => ?_
      exact ⟨_, rfl, iteF (A := True) ⟨nw.ap ap, _, _, _, _, _, _, rfl⟩⟩
    rintro σ J0 ⟨nw, v9, v10, v11, v12, v13, v14, rfl⟩
    have pgA := PgAt.kp nw.kp pg9
    have hvA := PlAt.kp nw.kp hv9
    have kA := k9.trans nw.kp
    have stA := nw.st
    clear nw nw0 pg9 hv9 k9 st9
    refine ⟨_, rfl, _, rfl, RgOk.of_le (by omega) (by omega) (by omega) (by omega), fun q1 hq1 => ?_⟩
    have x1 : Same J0 (upd J0 q1 (.lst (rgV 0 (n : Int)))) := same_new hq1
    have f1 : upd J0 q1 (.lst (rgV 0 (n : Int))) q1 = some (.lst (rgV 0 (n : Int))) := upd_same
    generalize upd J0 q1 (.lst (rgV 0 (n : Int))) = J1 at x1 f1
    refine ⟨_, _, rfl, rfl, _, rfl, by show 1 ≤ sizeLine; decide, fun q2 hq2 => ?_⟩
    have stB := stA.same x1
    have neq2 := strm_ne stB hq2
    have x2 : Same J1 (upd J1 q2 (.lst [.int 0])) := same_new hq2
    have f2 : upd J1 q2 (.lst [.int 0]) q2 = some (.lst [.int 0]) := upd_same
    generalize upd J1 q2 (.lst [.int 0]) = J2 at x2 f2
    refine ⟨_, _, rfl, rfl, ⟨by decide, by decide, by decide⟩, by show 7 ≤ sizeLine; decide, fun q3 hq3 => ?_⟩
    have x3 : Same J2 (upd J2 q3 (.lst [.non, .bl true, .str "0", .int (0 - 1), .int (n : Nat), .ref q2, .int (10 ^ (30 : Int).toNat)])) := same_new hq3
    have f3 : upd J2 q3 (.lst [.non, .bl true, .str "0", .int (0 - 1), .int (n : Nat), .ref q2, .int (10 ^ (30 : Int).toNat)]) q3 = some (.lst [.non, .bl true, .str "0", .int (0 - 1), .int (n : Nat), .ref q2, .int (10 ^ (30 : Int).toNat)]) := upd_same
    generalize upd J2 q3 (.lst [.non, .bl true, .str "0", .int (0 - 1), .int (n : Nat), .ref q2, .int (10 ^ (30 : Int).toNat)]) = J3 at x3 f3
    refine ⟨q1, q3, _, _, rfl, rfl, (x2.trans x3) _ _ f1, f3, ?_, fun q4 hq4 => ?_⟩
    · rw [sizeLine_eq, rg_len]
      show n + 7 ≤ _
      omega
    have stC := stB.same (x2.trans x3)
    have neq4 := strm_ne stC hq4
    have all : ∀ e ∈ rgV 0 (n : Int) ++ ([.non, .bl true, .str "0", .int (0 - 1), .int (n : Nat), .ref q2, .int (10 ^ (30 : Int).toNat)] : List V), TopV K [p] J3 2 e := fun e m => by
      rcases List.mem_append.mp m with m | m
      · obtain ⟨i, hi, rfl⟩ := rg_mem m
        exact .pl (PlI.sc (.int _ (okD_small (by omega))) 2)
      · rcases List.mem_cons.mp m with rfl | m
        · exact .pl (PlI.sc .non 2)
        rcases List.mem_cons.mp m with rfl | m
        · exact .pl (PlI.sc (.bl true) 2)
        rcases List.mem_cons.mp m with rfl | m
        · exact .pl (PlI.sc (.str "0" okD_t0) 2)
        rcases List.mem_cons.mp m with rfl | m
        · exact .pl (PlI.sc (.int _ okD_neg) 2)
        rcases List.mem_cons.mp m with rfl | m
        · exact .pl (PlI.sc (.int _ (okD_small (by omega))) 2)
        rcases List.mem_cons.mp m with rfl | m
        · exact top_l (x3 _ _ f2) (fun z => neq2 (List.mem_singleton.mp z)) (by decide) (sc_all1 (.int 0 okD_0))
        rcases List.mem_cons.mp m with rfl | m
        · exact .pl (PlI.sc (.int _ okD_big) 2)
        · cases m
    have lnx : (rgV 0 (n : Int) ++ ([.non, .bl true, .str "0", .int (0 - 1), .int (n : Nat), .ref q2, .int (10 ^ (30 : Int).toNat)] : List V)).length ≤ 13 := by rw [List.length_append, rg_len]; show n + 7 ≤ 13; omega
    generalize rgV 0 (n : Int) ++ ([.non, .bl true, .str "0", .int (0 - 1), .int (n : Nat), .ref q2, .int (10 ^ (30 : Int).toNat)] : List V) = its at all lnx ⊢
    have x4 : Same J3 (upd J3 q4 (.lst its)) := same_new hq4
    have f4 : upd J3 q4 (.lst its) q4 = some (.lst its) := upd_same
    generalize upd J3 q4 (.lst its) = J4 at x4 f4
    have y4 : Same J0 J4 := x1.trans (x2.trans (x3.trans x4))
    have nw0 : Nw K p q4 its J0 J4 (2 + 0) := ⟨Kp.of y4, stC.same x4, neq4, f4, fun e he => ((all e he).av hq4).same x4⟩
    refine ⟨q4, rfl, ⟨_, SqL.of f4⟩, ?_⟩
    refine for_it (walk_list (xs := its)) (fun j σ H' => Nw K p q4 its J0 H' (2 + j) ∧ ∃ v15 : Option V, σ = [some (.ref a), some (.int (0 + (i : Int))), some (.ref p), some (.int (0 + (t : Int))), some (.ref pa), some (.ref pr), some (.int (n : Nat)), w7, some (.ref qo), v9, v10, v11, v12, v13, v14, v15]) ⟨nw0, _, rfl⟩ (fun j σ H' _ q => SqL.of q.1.oq) ?_ ?_
    · rintro j e σ Hx Hy hj ⟨nw, v15, rfl⟩ ⟨rfl, he⟩
      refine ⟨_, rfl, _, rfl, _, rfl, ?_⟩
      dsimp only [tNil]
      refine ask_top (E := E0) (PgAt.kp nw.kp pgA) (PlAt.kp nw.kp hvA) ok few (.inr rfl) (nw.top e (List.mem_of_getElem? he)) (by omega) fun J20 ap => ?_
      exact ⟨_, rfl, iteF (A := True) ⟨nw.ap ap, _, rfl⟩⟩
    rintro σ J5 ⟨nw, v15, rfl⟩
    refine ⟨_, rfl, _, rfl, _, rfl, p, pa, pr, _, rfl, nw.st, PlAt.kp nw.kp hvA, PgAt.kp nw.kp pgA, ok, few, fun J6 st6 bx6 => ⟨_, rfl, iteF (A := True) ⟨(kA.trans nw.kp).trans (bx6.kp nw.st), st6, _, _, _, _, _, _, _, _, _, _, _, _, _, rfl⟩⟩⟩
end
end K02
set_option Elab.async false
set_option linter.all false
set_option maxRecDepth 100000
set_option maxHeartbeats 8000000
namespace K02
open PySem L2 VK
abbrev sP1 : Stmt := inClass (top 22) 1
abbrev sP2 : Stmt := inClass (top 22) 2
abbrev sP3 : Stmt := inClass (top 22) 3
abbrev sP4 : Stmt := inClass (top 22) 4
theorem scP1 : FnScope ["self"] ["self"] (defScope sP1) := ⟨rfl, rfl, rfl, by decide +kernel, rfl, by decide +kernel, by decide +kernel⟩
theorem scP2 : FnScope ["self"] ["self"] (defScope sP2) := ⟨rfl, rfl, rfl, by decide +kernel, rfl, by decide +kernel, by decide +kernel⟩
theorem scP3 : FnScope ["self"] ["self"] (defScope sP3) := ⟨rfl, rfl, rfl, by decide +kernel, rfl, by decide +kernel, by decide +kernel⟩
theorem scP4 : FnScope ["self"] ["self"] (defScope sP4) := ⟨rfl, rfl, rfl, by decide +kernel, rfl, by decide +kernel, by decide +kernel⟩
section
variable {K : Fg} {h : Heap} {mg : Str → Option Value} {C S fI : Addr}
theorem err_mk (X : K.In h) (G : h.Ns mainGlobals mg) {name qual f : Str} {st : Stmt}
    {nm q : Str} {N : Addr} {bs bm : List Value} {sn : List Str} {sub : List Value} {ab : Bool} {col : Option Bool} {dd : Option Addr} {m0 m1 m2 m3 m5 : Option Value}
    {od an : Option Addr} {sl : Array (Option Value)} {oc kV dc pm cd ct : Value}
    (aC : PySem.W.nsIn K mainGlobals name = some (some (.ref C)))
    (xL : K.lookup C = some (excClassObj nm q C N bs bm true sn sub ab col dd m0 m1 m2 m3 m5 "ValueError.__new__")) (bv : PySem.HandSPX.refsVE bm = true)
    (sa : PySem.W.findIn K (.ref C) "__setattr__" = some (some (.builtin "object.__setattr__")))
    (eC : PySem.W.subIn K (.ref C) (.type "BaseException") = some true) (tC : PySem.W.typeIn K (.ref C) = some (.type "type")) (kC : PySem.W.keepIn K (.ref C) = true)
    (no : PySem.W.findIn K (.ref C) f = some none) (ini : PySem.W.findIn K (.ref C) "__init__" = some (some (.ref fI))) (tyI : PySem.W.typeIn K (.ref fI) = some (.type "function"))
    (l : K.lookup fI = some ⟨oc, od, .func (PySem.W.fnOf "__init__" qual (defArgs st) (defBody st) (defScope st) .none kV dc pm an cd ct), sl⟩) (c : PySem.W.codeIn K cd qual = true) (k : PySem.W.keepIn K (.ref fI) = true)
    (ga : PySem.W.findIn K (.ref C) "__getattribute__" = some (some (.builtin "BaseException.__getattribute__"))) (gg : PySem.W.findIn K (.ref C) "__getattr__" = some none) (hC : PySem.W.hasDictIn K C = true)
    (bd : ∀ (kV doc pm : Value) (an : Option Addr) (cdv ct : Value) (us : List Value), us.length = 2 → bindArgs (PySem.W.fnOf "__init__" qual (defArgs st) (defBody st) (defScope st) .none kV doc pm an cdv ct) ⟨us, []⟩ = pure ((["self", f] : List Str).zip us)) :
    ErrC K mg name qual f st C fI (PySem.W.fnOf "__init__" qual (defArgs st) (defBody st) (defScope st) .none kV dc pm an cd ct) := by
  have F := fun_mk (st := st) l c k
  exact ⟨PySem.W.mg_of X G aC, ⟨⟨nm, q, N, bs, _, sn, sub, ab, col, dd, m0, m1, m2, m3, m5, xL, bv⟩, sa, eC, tC, kC⟩, ⟨ga, gg, eC, hC⟩, no, ini, tyI, F, F.binds (ps := ["self", f]) bd⟩
theorem prp_mk {f g : Str} {st : Stmt} {p ga : Addr} {rest : List Value} {od an : Option Addr} {sl : Array (Option Value)} {oc kV dc pm cd ct : Value} {qual : Str} {p1 p2 p3 : Pos} (c : Cls K C) (n : NoAttr K C g)
    (pa : PySem.W.findIn K (.ref C) f = some (some (.ref p))) (ps : PySem.W.specialIn K (.ref p) "__get__" = some (some (.builtin "property.__get__"))) (pt : PySem.W.takesIn K (.ref p) = some true) (pr : PySem.W.recIn K p "property" = some (.ref ga :: rest))
    (l : K.lookup ga = some ⟨oc, od, .func (PySem.W.fnOf f qual (defArgs st) (defBody st) (defScope st) .none kV dc pm an cd ct), sl⟩) (cc : PySem.W.codeIn K cd qual = true) (sc : FnScope ["self"] ["self"] (defScope st))
    (hb : defBody st = [.Return (some (.Attribute (.Name "self" p1) g p2)) p3])
    (bd : ∀ (kV doc pm : Value) (an : Option Addr) (cdv ct : Value) (us : List Value), us.length = 1 → bindArgs (PySem.W.fnOf f qual (defArgs st) (defBody st) (defScope st) .none kV doc pm an cdv ct) ⟨us, []⟩ = pure ((["self"] : List Str).zip us)) :
    ∀ (P : Program) (w : World) (base : Heap), Prp P w K mg base C f g := fun P w base =>
  ⟨p, ga, _, ⟨pa, ps, pt, rest, pr⟩, fn_getter (k := 0) l cc sc rfl hb c n, .all (bd kV dc pm an cd ct)⟩
theorem sqK {a : Addr} {d : Option Addr} {its : Array Value} {n : Nat} {sl : Array (Option Value)} {xs : List V} (l : K.lookup a = some ⟨.type "tuple", d, .seq its n, sl⟩) (v : Vals xs its.toList) (hz : its.size ≤ 1000) (H : Hp) : SqT K H a xs :=
  .inr ⟨_, its, n, l, rfl, rfl, Nat.le_of_lt (small1000 hz), v⟩
end
/-- an entry of a namespace -/
theorem mq_of {K : Fg} {h : Heap} {N : Addr} {m : Str → Option Value} {n : Str} {v : Value} (X : K.In h) (G : h.Ns N m) (e : PySem.W.nsIn K N n = some (some v)) : m n = some v := by
  obtain ⟨o, es, ep, ho, hd, _, hf⟩ := G
  unfold PySem.W.nsIn at e
  split at e
  · rename_i c d es' n' sl q
    have := X _ _ q
    rw [ho] at this
    cases this
    cases hd
    split at e
    · rename_i en he
      cases e
      rw [← hf]
      unfold nsFind findBy
      rw [← Array.find?_toList, he]
      rfl
    · split at e <;> cases e
  · cases e
/-- the plans, as deep as need be -/
theorem plans {P : Program} {w : World} {K : Fg} {mg : Str → Option Value} {base : Heap} {fS fL : Addr} {dS dL : FuncData} (FL : Fun K "_law_plan" "_law_plan" sPlan fL dL)
    (st : ∀ n, FnOk P w K mg base CX0 (2 * n + 12) fL dL ["stream", "pool", "most"] (spPlan K n) → FnOk P w K mg base CX0 (2 * n + 13) fS dS ["stream", "height", "pool", "most"] (spStg K n))
    (pl : ∀ n, FnOk P w K mg base CX0 (2 * n + 13) fS dS ["stream", "height", "pool", "most"] (spStg K n) → FnOk P w K mg base CX0 (2 * n + 14) fL dL ["stream", "pool", "most"] (spPlan K (n + 1))) :
    ∀ n : Nat, FnOk P w K mg base CX0 (2 * n + 12) fL dL ["stream", "pool", "most"] (spPlan K n)
  | 0 => by
    refine FL.ok scPlan (fun vs H Q E h => ?_) (fun cdv B outer s H vs Q E hr h => ?_)
    · obtain ⟨p, q, m, pl, rfl, _⟩ := h
      rfl
    · obtain ⟨p, q, m, pl, rfl, m0, m1, hp, hq, pp, ne, le, k⟩ := h
      exact absurd (List.length_eq_zero_iff.mp (Nat.le_zero.mp le)) ne
  | n + 1 => pl n (st n (plans FL st pl n))
theorem all_mk {l : PySem.W.OpenLaw} {w : World} {K : Fg} {h : Heap} {mg : Str → Option Value} {fa : Addr} (X : K.In h) (G : h.Ns mainGlobals mg) (hfa : mg "law" = some (.ref fa))
    {f13 : Addr} {odf13 anf13 : Option Addr} {slf13 : Array (Option Value)} {ocf13 kVf13 dcf13 pmf13 cdf13 ctf13 : Value}
    {f14 : Addr} {odf14 anf14 : Option Addr} {slf14 : Array (Option Value)} {ocf14 kVf14 dcf14 pmf14 cdf14 ctf14 : Value}
    {f15 : Addr} {odf15 anf15 : Option Addr} {slf15 : Array (Option Value)} {ocf15 kVf15 dcf15 pmf15 cdf15 ctf15 : Value}
    {f16 : Addr} {odf16 anf16 : Option Addr} {slf16 : Array (Option Value)} {ocf16 kVf16 dcf16 pmf16 cdf16 ctf16 : Value}
    {f17 : Addr} {odf17 anf17 : Option Addr} {slf17 : Array (Option Value)} {ocf17 kVf17 dcf17 pmf17 cdf17 ctf17 : Value}
    {f18 : Addr} {odf18 anf18 : Option Addr} {slf18 : Array (Option Value)} {ocf18 kVf18 dcf18 pmf18 cdf18 ctf18 : Value}
    {f19 : Addr} {odf19 anf19 : Option Addr} {slf19 : Array (Option Value)} {ocf19 kVf19 dcf19 pmf19 cdf19 ctf19 : Value}
    {f20 : Addr} {odf20 anf20 : Option Addr} {slf20 : Array (Option Value)} {ocf20 kVf20 dcf20 pmf20 cdf20 ctf20 : Value}
    {f21 : Addr} {odf21 anf21 : Option Addr} {slf21 : Array (Option Value)} {ocf21 kVf21 dcf21 pmf21 cdf21 ctf21 : Value}
    {f24 : Addr} {odf24 anf24 : Option Addr} {slf24 : Array (Option Value)} {ocf24 kVf24 dcf24 pmf24 cdf24 ctf24 : Value}
    {f25 : Addr} {odf25 anf25 : Option Addr} {slf25 : Array (Option Value)} {ocf25 kVf25 dcf25 pmf25 cdf25 ctf25 : Value}
    {f26 : Addr} {odf26 anf26 : Option Addr} {slf26 : Array (Option Value)} {ocf26 kVf26 dcf26 pmf26 cdf26 ctf26 : Value}
    {f27 : Addr} {odf27 anf27 : Option Addr} {slf27 : Array (Option Value)} {ocf27 kVf27 dcf27 pmf27 cdf27 ctf27 : Value}
    {f28 : Addr} {odf28 anf28 : Option Addr} {slf28 : Array (Option Value)} {ocf28 kVf28 dcf28 pmf28 cdf28 ctf28 : Value}
    {f29 : Addr} {odf29 anf29 : Option Addr} {slf29 : Array (Option Value)} {ocf29 kVf29 dcf29 pmf29 cdf29 ctf29 : Value}
    {f30 : Addr} {odf30 anf30 : Option Addr} {slf30 : Array (Option Value)} {ocf30 kVf30 dcf30 pmf30 cdf30 ctf30 : Value}
    {f31 : Addr} {odf31 anf31 : Option Addr} {slf31 : Array (Option Value)} {ocf31 kVf31 dcf31 pmf31 cdf31 ctf31 : Value}
    {f32 : Addr} {odf32 anf32 : Option Addr} {slf32 : Array (Option Value)} {ocf32 kVf32 dcf32 pmf32 cdf32 ctf32 : Value}
    {f33 : Addr} {odf33 anf33 : Option Addr} {slf33 : Array (Option Value)} {ocf33 kVf33 dcf33 pmf33 cdf33 ctf33 : Value}
    {f34 : Addr} {odf34 anf34 : Option Addr} {slf34 : Array (Option Value)} {ocf34 kVf34 dcf34 pmf34 cdf34 ctf34 : Value}
    {f35 : Addr} {odf35 anf35 : Option Addr} {slf35 : Array (Option Value)} {ocf35 kVf35 dcf35 pmf35 cdf35 ctf35 : Value}
    {f36 : Addr} {odf36 anf36 : Option Addr} {slf36 : Array (Option Value)} {ocf36 kVf36 dcf36 pmf36 cdf36 ctf36 : Value}
    {f37 : Addr} {odf37 anf37 : Option Addr} {slf37 : Array (Option Value)} {ocf37 kVf37 dcf37 pmf37 cdf37 ctf37 : Value}
    {f38 : Addr} {odf38 anf38 : Option Addr} {slf38 : Array (Option Value)} {ocf38 kVf38 dcf38 pmf38 cdf38 ctf38 : Value}
    {f39 : Addr} {odf39 anf39 : Option Addr} {slf39 : Array (Option Value)} {ocf39 kVf39 dcf39 pmf39 cdf39 ctf39 : Value}
    {f40 : Addr} {odf40 anf40 : Option Addr} {slf40 : Array (Option Value)} {ocf40 kVf40 dcf40 pmf40 cdf40 ctf40 : Value}
    {f41 : Addr} {odf41 anf41 : Option Addr} {slf41 : Array (Option Value)} {ocf41 kVf41 dcf41 pmf41 cdf41 ctf41 : Value}
    {S : Addr}
    {C3 N3 I3 : Addr} {nm3 q3 : Str} {bs3 sub3 : List Value} {sn3 : List Str} {ab3 : Bool} {col3 : Option Bool} {dd3 : Option Addr} {w03 w13 w23 w33 w53 : Option Value} {ode3 ane3 : Option Addr} {sle3 : Array (Option Value)} {oce3 kVe3 dce3 pme3 cde3 cte3 : Value}
    {C4 N4 I4 : Addr} {nm4 q4 : Str} {bs4 sub4 : List Value} {sn4 : List Str} {ab4 : Bool} {col4 : Option Bool} {dd4 : Option Addr} {w04 w14 w24 w34 w54 : Option Value} {ode4 ane4 : Option Addr} {sle4 : Array (Option Value)} {oce4 kVe4 dce4 pme4 cde4 cte4 : Value}
    {C5 N5 I5 : Addr} {nm5 q5 : Str} {bs5 sub5 : List Value} {sn5 : List Str} {ab5 : Bool} {col5 : Option Bool} {dd5 : Option Addr} {w05 w15 w25 w35 w55 : Option Value} {ode5 ane5 : Option Addr} {sle5 : Array (Option Value)} {oce5 kVe5 dce5 pme5 cde5 cte5 : Value}
    {C NC e0 T22 : Addr} {f22 : Addr} {odf22 anf22 : Option Addr} {slf22 : Array (Option Value)} {ocf22 kVf22 dcf22 pmf22 cdf22 ctf22 : Value} {cT : Value} {dT dE : Option Addr} {nT nE : Nat} {sT sE : Array (Option Value)}
    {nmC qC : Str} {bsC subC : List Value} {hdC abC : Bool} {snC : List Str} {colC : Option Bool} {ddC : Option Addr} {w0C w1C w2C w3C w5C : Option Value} {newC : String} {cN : Value} {dN : Option Addr} {esN : Array DictEntry} {nN : Nat} {sN : Array (Option Value)}
    {p1 g1 : Addr} {rest1 : List Value} {odp1 anp1 : Option Addr} {slp1 : Array (Option Value)} {ocp1 kVp1 dcp1 pmp1 cdp1 ctp1 : Value}
    {p2 g2 : Addr} {rest2 : List Value} {odp2 anp2 : Option Addr} {slp2 : Array (Option Value)} {ocp2 kVp2 dcp2 pmp2 cdp2 ctp2 : Value}
    {p3 g3 : Addr} {rest3 : List Value} {odp3 anp3 : Option Addr} {slp3 : Array (Option Value)} {ocp3 kVp3 dcp3 pmp3 cdp3 ctp3 : Value}
    {p4 g4 : Addr} {rest4 : List Value} {odp4 anp4 : Option Addr} {slp4 : Array (Option Value)} {ocp4 kVp4 dcp4 pmp4 cdp4 ctp4 : Value}
    {m0 : Addr} {odm0 anm0 : Option Addr} {slm0 : Array (Option Value)} {ocm0 kVm0 dcm0 pmm0 cdm0 ctm0 : Value}
    {m1 : Addr} {odm1 anm1 : Option Addr} {slm1 : Array (Option Value)} {ocm1 kVm1 dcm1 pmm1 cdm1 ctm1 : Value}
    {m2 : Addr} {odm2 anm2 : Option Addr} {slm2 : Array (Option Value)} {ocm2 kVm2 dcm2 pmm2 cdm2 ctm2 : Value}
    {mq : Addr} {odmq anmq : Option Addr} {slmq : Array (Option Value)} {ocmq kVmq dcmq pmmq cdmq ctmq : Value}
    {t6 t8 t4 : Tok} {aS aM aN : Addr}
    {daS : Option Addr} {iaS : Array Value} {naS : Nat} {saS : Array (Option Value)}
    {daM : Option Addr} {iaM : Array Value} {naM : Nat} {saM : Array (Option Value)}
    {daN : Option Addr} {iaN : Array Value} {naN : Nat} {saN : Array (Option Value)}
    (a13 : PySem.W.nsIn K mainGlobals "is_integer" = some (some (.ref f13)))
    (l13 : K.lookup f13 = some ⟨ocf13, odf13, .func (PySem.W.fnOf "is_integer" "is_integer" (defArgs sIsInt) (defBody sIsInt) (defScope sIsInt) .none kVf13 dcf13 pmf13 anf13 cdf13 ctf13), slf13⟩)
    (c13 : PySem.W.codeIn K cdf13 "is_integer" = true)
    (k13 : PySem.W.keepIn K (.ref f13) = true)
    (a14 : PySem.W.nsIn K mainGlobals "is_name" = some (some (.ref f14)))
    (l14 : K.lookup f14 = some ⟨ocf14, odf14, .func (PySem.W.fnOf "is_name" "is_name" (defArgs sIsName) (defBody sIsName) (defScope sIsName) .none kVf14 dcf14 pmf14 anf14 cdf14 ctf14), slf14⟩)
    (c14 : PySem.W.codeIn K cdf14 "is_name" = true)
    (k14 : PySem.W.keepIn K (.ref f14) = true)
    (a15 : PySem.W.nsIn K mainGlobals "is_stage_number" = some (some (.ref f15)))
    (l15 : K.lookup f15 = some ⟨ocf15, odf15, .func (PySem.W.fnOf "is_stage_number" "is_stage_number" (defArgs sIsNum) (defBody sIsNum) (defScope sIsNum) .none kVf15 dcf15 pmf15 anf15 cdf15 ctf15), slf15⟩)
    (c15 : PySem.W.codeIn K cdf15 "is_stage_number" = true)
    (k15 : PySem.W.keepIn K (.ref f15) = true)
    (a16 : PySem.W.nsIn K mainGlobals "is_stage" = some (some (.ref f16)))
    (l16 : K.lookup f16 = some ⟨ocf16, odf16, .func (PySem.W.fnOf "is_stage" "is_stage" (defArgs sIsStage) (defBody sIsStage) (defScope sIsStage) .none kVf16 dcf16 pmf16 anf16 cdf16 ctf16), slf16⟩)
    (c16 : PySem.W.codeIn K cdf16 "is_stage" = true)
    (k16 : PySem.W.keepIn K (.ref f16) = true)
    (a17 : PySem.W.nsIn K mainGlobals "sources_of_stage" = some (some (.ref f17)))
    (l17 : K.lookup f17 = some ⟨ocf17, odf17, .func (PySem.W.fnOf "sources_of_stage" "sources_of_stage" (defArgs sSrcs) (defBody sSrcs) (defScope sSrcs) .none kVf17 dcf17 pmf17 anf17 cdf17 ctf17), slf17⟩)
    (c17 : PySem.W.codeIn K cdf17 "sources_of_stage" = true)
    (k17 : PySem.W.keepIn K (.ref f17) = true)
    (a18 : PySem.W.nsIn K mainGlobals "can_stand" = some (some (.ref f18)))
    (l18 : K.lookup f18 = some ⟨ocf18, odf18, .func (PySem.W.fnOf "can_stand" "can_stand" (defArgs sCan) (defBody sCan) (defScope sCan) .none kVf18 dcf18 pmf18 anf18 cdf18 ctf18), slf18⟩)
    (c18 : PySem.W.codeIn K cdf18 "can_stand" = true)
    (k18 : PySem.W.keepIn K (.ref f18) = true)
    (a19 : PySem.W.nsIn K mainGlobals "depth_behind" = some (some (.ref f19)))
    (l19 : K.lookup f19 = some ⟨ocf19, odf19, .func (PySem.W.fnOf "depth_behind" "depth_behind" (defArgs sDep) (defBody sDep) (defScope sDep) .none kVf19 dcf19 pmf19 anf19 cdf19 ctf19), slf19⟩)
    (c19 : PySem.W.codeIn K cdf19 "depth_behind" = true)
    (k19 : PySem.W.keepIn K (.ref f19) = true)
    (a20 : PySem.W.nsIn K mainGlobals "is_position" = some (some (.ref f20)))
    (l20 : K.lookup f20 = some ⟨ocf20, odf20, .func (PySem.W.fnOf "is_position" "is_position" (defArgs sIsPos) (defBody sIsPos) (defScope sIsPos) .none kVf20 dcf20 pmf20 anf20 cdf20 ctf20), slf20⟩)
    (c20 : PySem.W.codeIn K cdf20 "is_position" = true)
    (k20 : PySem.W.keepIn K (.ref f20) = true)
    (a21 : PySem.W.nsIn K mainGlobals "are_positions" = some (some (.ref f21)))
    (l21 : K.lookup f21 = some ⟨ocf21, odf21, .func (PySem.W.fnOf "are_positions" "are_positions" (defArgs sArePos) (defBody sArePos) (defScope sArePos) .none kVf21 dcf21 pmf21 anf21 cdf21 ctf21), slf21⟩)
    (c21 : PySem.W.codeIn K cdf21 "are_positions" = true)
    (k21 : PySem.W.keepIn K (.ref f21) = true)
    (a24 : PySem.W.nsIn K mainGlobals "_law_source" = some (some (.ref f24)))
    (l24 : K.lookup f24 = some ⟨ocf24, odf24, .func (PySem.W.fnOf "_law_source" "_law_source" (defArgs sSource) (defBody sSource) (defScope sSource) .none kVf24 dcf24 pmf24 anf24 cdf24 ctf24), slf24⟩)
    (c24 : PySem.W.codeIn K cdf24 "_law_source" = true)
    (k24 : PySem.W.keepIn K (.ref f24) = true)
    (a25 : PySem.W.nsIn K mainGlobals "_law_draw" = some (some (.ref f25)))
    (l25 : K.lookup f25 = some ⟨ocf25, odf25, .func (PySem.W.fnOf "_law_draw" "_law_draw" (defArgs sDraw) (defBody sDraw) (defScope sDraw) .none kVf25 dcf25 pmf25 anf25 cdf25 ctf25), slf25⟩)
    (c25 : PySem.W.codeIn K cdf25 "_law_draw" = true)
    (k25 : PySem.W.keepIn K (.ref f25) = true)
    (a26 : PySem.W.nsIn K mainGlobals "_law_pick" = some (some (.ref f26)))
    (l26 : K.lookup f26 = some ⟨ocf26, odf26, .func (PySem.W.fnOf "_law_pick" "_law_pick" (defArgs sPick) (defBody sPick) (defScope sPick) .none kVf26 dcf26 pmf26 anf26 cdf26 ctf26), slf26⟩)
    (c26 : PySem.W.codeIn K cdf26 "_law_pick" = true)
    (k26 : PySem.W.keepIn K (.ref f26) = true)
    (a27 : PySem.W.nsIn K mainGlobals "_law_mixed" = some (some (.ref f27)))
    (l27 : K.lookup f27 = some ⟨ocf27, odf27, .func (PySem.W.fnOf "_law_mixed" "_law_mixed" (defArgs sMixed) (defBody sMixed) (defScope sMixed) .none kVf27 dcf27 pmf27 anf27 cdf27 ctf27), slf27⟩)
    (c27 : PySem.W.codeIn K cdf27 "_law_mixed" = true)
    (k27 : PySem.W.keepIn K (.ref f27) = true)
    (a28 : PySem.W.nsIn K mainGlobals "_law_height" = some (some (.ref f28)))
    (l28 : K.lookup f28 = some ⟨ocf28, odf28, .func (PySem.W.fnOf "_law_height" "_law_height" (defArgs sHeight) (defBody sHeight) (defScope sHeight) .none kVf28 dcf28 pmf28 anf28 cdf28 ctf28), slf28⟩)
    (c28 : PySem.W.codeIn K cdf28 "_law_height" = true)
    (k28 : PySem.W.keepIn K (.ref f28) = true)
    (a29 : PySem.W.nsIn K mainGlobals "_law_depth" = some (some (.ref f29)))
    (l29 : K.lookup f29 = some ⟨ocf29, odf29, .func (PySem.W.fnOf "_law_depth" "_law_depth" (defArgs sDepth) (defBody sDepth) (defScope sDepth) .none kVf29 dcf29 pmf29 anf29 cdf29 ctf29), slf29⟩)
    (c29 : PySem.W.codeIn K cdf29 "_law_depth" = true)
    (k29 : PySem.W.keepIn K (.ref f29) = true)
    (a30 : PySem.W.nsIn K mainGlobals "_law_name" = some (some (.ref f30)))
    (l30 : K.lookup f30 = some ⟨ocf30, odf30, .func (PySem.W.fnOf "_law_name" "_law_name" (defArgs sName) (defBody sName) (defScope sName) .none kVf30 dcf30 pmf30 anf30 cdf30 ctf30), slf30⟩)
    (c30 : PySem.W.codeIn K cdf30 "_law_name" = true)
    (k30 : PySem.W.keepIn K (.ref f30) = true)
    (a31 : PySem.W.nsIn K mainGlobals "_law_stage" = some (some (.ref f31)))
    (l31 : K.lookup f31 = some ⟨ocf31, odf31, .func (PySem.W.fnOf "_law_stage" "_law_stage" (defArgs sStg) (defBody sStg) (defScope sStg) .none kVf31 dcf31 pmf31 anf31 cdf31 ctf31), slf31⟩)
    (c31 : PySem.W.codeIn K cdf31 "_law_stage" = true)
    (k31 : PySem.W.keepIn K (.ref f31) = true)
    (a32 : PySem.W.nsIn K mainGlobals "_law_plan" = some (some (.ref f32)))
    (l32 : K.lookup f32 = some ⟨ocf32, odf32, .func (PySem.W.fnOf "_law_plan" "_law_plan" (defArgs sPlan) (defBody sPlan) (defScope sPlan) .none kVf32 dcf32 pmf32 anf32 cdf32 ctf32), slf32⟩)
    (c32 : PySem.W.codeIn K cdf32 "_law_plan" = true)
    (k32 : PySem.W.keepIn K (.ref f32) = true)
    (a33 : PySem.W.nsIn K mainGlobals "_law_program" = some (some (.ref f33)))
    (l33 : K.lookup f33 = some ⟨ocf33, odf33, .func (PySem.W.fnOf "_law_program" "_law_program" (defArgs sProg) (defBody sProg) (defScope sProg) .none kVf33 dcf33 pmf33 anf33 cdf33 ctf33), slf33⟩)
    (c33 : PySem.W.codeIn K cdf33 "_law_program" = true)
    (k33 : PySem.W.keepIn K (.ref f33) = true)
    (a34 : PySem.W.nsIn K mainGlobals "_law_first_bad" = some (some (.ref f34)))
    (l34 : K.lookup f34 = some ⟨ocf34, odf34, .func (PySem.W.fnOf "_law_first_bad" "_law_first_bad" (defArgs sBad) (defBody sBad) (defScope sBad) .none kVf34 dcf34 pmf34 anf34 cdf34 ctf34), slf34⟩)
    (c34 : PySem.W.codeIn K cdf34 "_law_first_bad" = true)
    (k34 : PySem.W.keepIn K (.ref f34) = true)
    (a35 : PySem.W.nsIn K mainGlobals "_law_told" = some (some (.ref f35)))
    (l35 : K.lookup f35 = some ⟨ocf35, odf35, .func (PySem.W.fnOf "_law_told" "_law_told" (defArgs sTold) (defBody sTold) (defScope sTold) .none kVf35 dcf35 pmf35 anf35 cdf35 ctf35), slf35⟩)
    (c35 : PySem.W.codeIn K cdf35 "_law_told" = true)
    (k35 : PySem.W.keepIn K (.ref f35) = true)
    (a36 : PySem.W.nsIn K mainGlobals "_law_is_place" = some (some (.ref f36)))
    (l36 : K.lookup f36 = some ⟨ocf36, odf36, .func (PySem.W.fnOf "_law_is_place" "_law_is_place" (defArgs sPlace) (defBody sPlace) (defScope sPlace) .none kVf36 dcf36 pmf36 anf36 cdf36 ctf36), slf36⟩)
    (c36 : PySem.W.codeIn K cdf36 "_law_is_place" = true)
    (k36 : PySem.W.keepIn K (.ref f36) = true)
    (a37 : PySem.W.nsIn K mainGlobals "_law_due" = some (some (.ref f37)))
    (l37 : K.lookup f37 = some ⟨ocf37, odf37, .func (PySem.W.fnOf "_law_due" "_law_due" (defArgs sDue) (defBody sDue) (defScope sDue) .none kVf37 dcf37 pmf37 anf37 cdf37 ctf37), slf37⟩)
    (c37 : PySem.W.codeIn K cdf37 "_law_due" = true)
    (k37 : PySem.W.keepIn K (.ref f37) = true)
    (a38 : PySem.W.nsIn K mainGlobals "_law_asked_right" = some (some (.ref f38)))
    (l38 : K.lookup f38 = some ⟨ocf38, odf38, .func (PySem.W.fnOf "_law_asked_right" "_law_asked_right" (defArgs sAsk) (defBody sAsk) (defScope sAsk) .none kVf38 dcf38 pmf38 anf38 cdf38 ctf38), slf38⟩)
    (c38 : PySem.W.codeIn K cdf38 "_law_asked_right" = true)
    (k38 : PySem.W.keepIn K (.ref f38) = true)
    (a39 : PySem.W.nsIn K mainGlobals "_law_odd_right" = some (some (.ref f39)))
    (l39 : K.lookup f39 = some ⟨ocf39, odf39, .func (PySem.W.fnOf "_law_odd_right" "_law_odd_right" (defArgs sOdd) (defBody sOdd) (defScope sOdd) .none kVf39 dcf39 pmf39 anf39 cdf39 ctf39), slf39⟩)
    (c39 : PySem.W.codeIn K cdf39 "_law_odd_right" = true)
    (k39 : PySem.W.keepIn K (.ref f39) = true)
    (a40 : PySem.W.nsIn K mainGlobals "_law_compared" = some (some (.ref f40)))
    (l40 : K.lookup f40 = some ⟨ocf40, odf40, .func (PySem.W.fnOf "_law_compared" "_law_compared" (defArgs sCmp) (defBody sCmp) (defScope sCmp) .none kVf40 dcf40 pmf40 anf40 cdf40 ctf40), slf40⟩)
    (c40 : PySem.W.codeIn K cdf40 "_law_compared" = true)
    (k40 : PySem.W.keepIn K (.ref f40) = true)
    (a41 : PySem.W.nsIn K mainGlobals "law" = some (some (.ref f41)))
    (l41 : K.lookup f41 = some ⟨ocf41, odf41, .func (PySem.W.fnOf "law" "law" (defArgs sLaw) (defBody sLaw) (defScope sLaw) .none kVf41 dcf41 pmf41 anf41 cdf41 ctf41), slf41⟩)
    (c41 : PySem.W.codeIn K cdf41 "law" = true)
    (k41 : PySem.W.keepIn K (.ref f41) = true)
    (eg3 : PySem.W.nsIn K mainGlobals "BadStages" = some (some (.ref C3)))
    (ex3 : K.lookup C3 = some (excClassObj nm3 q3 C3 N3 bs3 (.ref S :: [.type "ValueError", .type "Exception", .type "BaseException", .type "object"]) true sn3 sub3 ab3 col3 dd3 w03 w13 w23 w33 w53 "ValueError.__new__"))
    (es3 : PySem.W.findIn K (.ref C3) "__setattr__" = some (some (.builtin "object.__setattr__")))
    (eb3 : PySem.W.subIn K (.ref C3) (.type "BaseException") = some true)
    (et3 : PySem.W.typeIn K (.ref C3) = some (.type "type"))
    (ek3 : PySem.W.keepIn K (.ref C3) = true)
    (en3 : PySem.W.findIn K (.ref C3) "value" = some none)
    (ei3 : PySem.W.findIn K (.ref C3) "__init__" = some (some (.ref I3)))
    (ety3 : PySem.W.typeIn K (.ref I3) = some (.type "function"))
    (el3 : K.lookup I3 = some ⟨oce3, ode3, .func (PySem.W.fnOf "__init__" "BadStages.__init__" (defArgs sI1) (defBody sI1) (defScope sI1) .none kVe3 dce3 pme3 ane3 cde3 cte3), sle3⟩)
    (ec3 : PySem.W.codeIn K cde3 "BadStages.__init__" = true)
    (eK3 : PySem.W.keepIn K (.ref I3) = true)
    (ega3 : PySem.W.findIn K (.ref C3) "__getattribute__" = some (some (.builtin "BaseException.__getattribute__")))
    (egg3 : PySem.W.findIn K (.ref C3) "__getattr__" = some none)
    (ehd3 : PySem.W.hasDictIn K C3 = true)
    (eg4 : PySem.W.nsIn K mainGlobals "BadStage" = some (some (.ref C4)))
    (ex4 : K.lookup C4 = some (excClassObj nm4 q4 C4 N4 bs4 (.ref S :: [.type "ValueError", .type "Exception", .type "BaseException", .type "object"]) true sn4 sub4 ab4 col4 dd4 w04 w14 w24 w34 w54 "ValueError.__new__"))
    (es4 : PySem.W.findIn K (.ref C4) "__setattr__" = some (some (.builtin "object.__setattr__")))
    (eb4 : PySem.W.subIn K (.ref C4) (.type "BaseException") = some true)
    (et4 : PySem.W.typeIn K (.ref C4) = some (.type "type"))
    (ek4 : PySem.W.keepIn K (.ref C4) = true)
    (en4 : PySem.W.findIn K (.ref C4) "position" = some none)
    (ei4 : PySem.W.findIn K (.ref C4) "__init__" = some (some (.ref I4)))
    (ety4 : PySem.W.typeIn K (.ref I4) = some (.type "function"))
    (el4 : K.lookup I4 = some ⟨oce4, ode4, .func (PySem.W.fnOf "__init__" "BadStage.__init__" (defArgs sI2) (defBody sI2) (defScope sI2) .none kVe4 dce4 pme4 ane4 cde4 cte4), sle4⟩)
    (ec4 : PySem.W.codeIn K cde4 "BadStage.__init__" = true)
    (eK4 : PySem.W.keepIn K (.ref I4) = true)
    (ega4 : PySem.W.findIn K (.ref C4) "__getattribute__" = some (some (.builtin "BaseException.__getattribute__")))
    (egg4 : PySem.W.findIn K (.ref C4) "__getattr__" = some none)
    (ehd4 : PySem.W.hasDictIn K C4 = true)
    (eg5 : PySem.W.nsIn K mainGlobals "BadPositions" = some (some (.ref C5)))
    (ex5 : K.lookup C5 = some (excClassObj nm5 q5 C5 N5 bs5 (.ref S :: [.type "ValueError", .type "Exception", .type "BaseException", .type "object"]) true sn5 sub5 ab5 col5 dd5 w05 w15 w25 w35 w55 "ValueError.__new__"))
    (es5 : PySem.W.findIn K (.ref C5) "__setattr__" = some (some (.builtin "object.__setattr__")))
    (eb5 : PySem.W.subIn K (.ref C5) (.type "BaseException") = some true)
    (et5 : PySem.W.typeIn K (.ref C5) = some (.type "type"))
    (ek5 : PySem.W.keepIn K (.ref C5) = true)
    (en5 : PySem.W.findIn K (.ref C5) "value" = some none)
    (ei5 : PySem.W.findIn K (.ref C5) "__init__" = some (some (.ref I5)))
    (ety5 : PySem.W.typeIn K (.ref I5) = some (.type "function"))
    (el5 : K.lookup I5 = some ⟨oce5, ode5, .func (PySem.W.fnOf "__init__" "BadPositions.__init__" (defArgs sI3) (defBody sI3) (defScope sI3) .none kVe5 dce5 pme5 ane5 cde5 cte5), sle5⟩)
    (ec5 : PySem.W.codeIn K cde5 "BadPositions.__init__" = true)
    (eK5 : PySem.W.keepIn K (.ref I5) = true)
    (ega5 : PySem.W.findIn K (.ref C5) "__getattribute__" = some (some (.builtin "BaseException.__getattribute__")))
    (egg5 : PySem.W.findIn K (.ref C5) "__getattr__" = some none)
    (ehd5 : PySem.W.hasDictIn K C5 = true)
    (em33 : PySem.W.exmOne K (.ref C3) (.ref C3) = some true)
    (em34 : PySem.W.exmOne K (.ref C3) (.ref C4) = some false)
    (em35 : PySem.W.exmOne K (.ref C3) (.ref C5) = some false)
    (em43 : PySem.W.exmOne K (.ref C4) (.ref C3) = some false)
    (em44 : PySem.W.exmOne K (.ref C4) (.ref C4) = some true)
    (em45 : PySem.W.exmOne K (.ref C4) (.ref C5) = some false)
    (em53 : PySem.W.exmOne K (.ref C5) (.ref C3) = some false)
    (em54 : PySem.W.exmOne K (.ref C5) (.ref C4) = some false)
    (em55 : PySem.W.exmOne K (.ref C5) (.ref C5) = some true)
    (aC : PySem.W.nsIn K mainGlobals "Program" = some (some (.ref C)))
    (pg : PySem.W.plainGet K C Str.empty = true)
    (hd : PySem.W.hasDictIn K C = true)
    (po : PySem.W.plainOver K C = true)
    (sa : PySem.W.findIn K (.ref C) "__setattr__" = some (some (.builtin "object.__setattr__")))
    (cl : PySem.W.findIn K (.ref C) "__class__" = some (some (.builtin "object.__class__")))
    (sp : PySem.W.specialIn K (.builtin "object.__class__") "__get__" = some (some (.builtin "getset_descriptor.__get__")))
    (tk : PySem.W.takesIn K (.builtin "object.__class__") = some true)
    (ob : PySem.W.mroIn K C (.type "object") = some true)
    (kc : PySem.W.kitOne K (.ref C) (.ref C) = some true)
    (ct : PySem.W.kitOne K (.ref C) (.type "tuple") = some false)
    (ktNoneType : PySem.W.kitOne K (.type "NoneType") (.ref C) = some false)
    (nfNoneType : PySem.W.notFirst K C (.type "NoneType") = true)
    (kttuple : PySem.W.kitOne K (.type "tuple") (.ref C) = some false)
    (nftuple : PySem.W.notFirst K C (.type "tuple") = true)
    (ktstr : PySem.W.kitOne K (.type "str") (.ref C) = some false)
    (nfstr : PySem.W.notFirst K C (.type "str") = true)
    (ktint : PySem.W.kitOne K (.type "int") (.ref C) = some false)
    (nfint : PySem.W.notFirst K C (.type "int") = true)
    (n1 : PySem.W.findIn K (.ref C) "_source" = some none)
    (n2 : PySem.W.findIn K (.ref C) "_stages" = some none)
    (n3 : PySem.W.findIn K (.ref C) "_sources" = some none)
    (n4 : PySem.W.findIn K (.ref C) "_depth" = some none)
    (mk : PySem.W.makesIn K C = true)
    (ini : PySem.W.findIn K (.ref C) "__init__" = some (some (.ref f22)))
    (fi22 : PySem.W.isFn K (.ref f22) = true)
    (kC : PySem.W.keepIn K (.ref C) = true)
    (l22 : K.lookup f22 = some ⟨ocf22, odf22, .func (PySem.W.fnOf "__init__" "Program.__init__" (defArgs sInit) (defBody sInit) (defScope sInit) (.ref T22) kVf22 dcf22 pmf22 anf22 cdf22 ctf22), slf22⟩)
    (c22 : PySem.W.codeIn K cdf22 "Program.__init__" = true)
    (k22 : PySem.W.keepIn K (.ref f22) = true)
    (lT : K.lookup T22 = some ⟨cT, dT, .seq #[.ref e0] nT, sT⟩)
    (lE : K.lookup e0 = some ⟨.type "tuple", dE, .seq #[] nE, sE⟩)
    (pa1 : PySem.W.findIn K (.ref C) "source" = some (some (.ref p1)))
    (ps1 : PySem.W.specialIn K (.ref p1) "__get__" = some (some (.builtin "property.__get__")))
    (pt1 : PySem.W.takesIn K (.ref p1) = some true)
    (pr1 : PySem.W.recIn K p1 "property" = some (.ref g1 :: rest1))
    (pl1 : K.lookup g1 = some ⟨ocp1, odp1, .func (PySem.W.fnOf "source" "Program.source" (defArgs sP1) (defBody sP1) (defScope sP1) .none kVp1 dcp1 pmp1 anp1 cdp1 ctp1), slp1⟩)
    (pc1 : PySem.W.codeIn K cdp1 "Program.source" = true)
    (pk1 : PySem.W.keepIn K (.ref g1) = true)
    (pa2 : PySem.W.findIn K (.ref C) "stages" = some (some (.ref p2)))
    (ps2 : PySem.W.specialIn K (.ref p2) "__get__" = some (some (.builtin "property.__get__")))
    (pt2 : PySem.W.takesIn K (.ref p2) = some true)
    (pr2 : PySem.W.recIn K p2 "property" = some (.ref g2 :: rest2))
    (pl2 : K.lookup g2 = some ⟨ocp2, odp2, .func (PySem.W.fnOf "stages" "Program.stages" (defArgs sP2) (defBody sP2) (defScope sP2) .none kVp2 dcp2 pmp2 anp2 cdp2 ctp2), slp2⟩)
    (pc2 : PySem.W.codeIn K cdp2 "Program.stages" = true)
    (pk2 : PySem.W.keepIn K (.ref g2) = true)
    (pa3 : PySem.W.findIn K (.ref C) "sources" = some (some (.ref p3)))
    (ps3 : PySem.W.specialIn K (.ref p3) "__get__" = some (some (.builtin "property.__get__")))
    (pt3 : PySem.W.takesIn K (.ref p3) = some true)
    (pr3 : PySem.W.recIn K p3 "property" = some (.ref g3 :: rest3))
    (pl3 : K.lookup g3 = some ⟨ocp3, odp3, .func (PySem.W.fnOf "sources" "Program.sources" (defArgs sP3) (defBody sP3) (defScope sP3) .none kVp3 dcp3 pmp3 anp3 cdp3 ctp3), slp3⟩)
    (pc3 : PySem.W.codeIn K cdp3 "Program.sources" = true)
    (pk3 : PySem.W.keepIn K (.ref g3) = true)
    (pa4 : PySem.W.findIn K (.ref C) "depth" = some (some (.ref p4)))
    (ps4 : PySem.W.specialIn K (.ref p4) "__get__" = some (some (.builtin "property.__get__")))
    (pt4 : PySem.W.takesIn K (.ref p4) = some true)
    (pr4 : PySem.W.recIn K p4 "property" = some (.ref g4 :: rest4))
    (pl4 : K.lookup g4 = some ⟨ocp4, odp4, .func (PySem.W.fnOf "depth" "Program.depth" (defArgs sP4) (defBody sP4) (defScope sP4) .none kVp4 dcp4 pmp4 anp4 cdp4 ctp4), slp4⟩)
    (pc4 : PySem.W.codeIn K cdp4 "Program.depth" = true)
    (pk4 : PySem.W.keepIn K (.ref g4) = true)
    (ma0 : PySem.W.findIn K (.ref C) "then" = some (some (.ref m0)))
    (mi0 : PySem.W.isFn K (.ref m0) = true)
    (mk0 : PySem.W.keepIn K (.ref m0) = true)
    (ml0 : K.lookup m0 = some ⟨ocm0, odm0, .func (PySem.W.fnOf "then" "Program.then" (defArgs sThen) (defBody sThen) (defScope sThen) .none kVm0 dcm0 pmm0 anm0 cdm0 ctm0), slm0⟩)
    (mc0 : PySem.W.codeIn K cdm0 "Program.then" = true)
    (ma1 : PySem.W.findIn K (.ref C) "without" = some (some (.ref m1)))
    (mi1 : PySem.W.isFn K (.ref m1) = true)
    (mk1 : PySem.W.keepIn K (.ref m1) = true)
    (ml1 : K.lookup m1 = some ⟨ocm1, odm1, .func (PySem.W.fnOf "without" "Program.without" (defArgs sWithout) (defBody sWithout) (defScope sWithout) .none kVm1 dcm1 pmm1 anm1 cdm1 ctm1), slm1⟩)
    (mc1 : PySem.W.codeIn K cdm1 "Program.without" = true)
    (ma2 : PySem.W.findIn K (.ref C) "exchanged" = some (some (.ref m2)))
    (mi2 : PySem.W.isFn K (.ref m2) = true)
    (mk2 : PySem.W.keepIn K (.ref m2) = true)
    (ml2 : K.lookup m2 = some ⟨ocm2, odm2, .func (PySem.W.fnOf "exchanged" "Program.exchanged" (defArgs sExch) (defBody sExch) (defScope sExch) .none kVm2 dcm2 pmm2 anm2 cdm2 ctm2), slm2⟩)
    (mc2 : PySem.W.codeIn K cdm2 "Program.exchanged" = true)
    (maq : PySem.W.findIn K (.ref C) "__eq__" = some (some (.ref mq)))
    (miq : PySem.W.isFn K (.ref mq) = true)
    (mkq : PySem.W.keepIn K (.ref mq) = true)
    (mlq : K.lookup mq = some ⟨ocmq, odmq, .func (PySem.W.fnOf "__eq__" "Program.__eq__" (defArgs sEq) (defBody sEq) (defScope sEq) .none kVmq dcmq pmmq anmq cdmq ctmq), slmq⟩)
    (mcq : PySem.W.codeIn K cdmq "Program.__eq__" = true)
    (xC : K.lookup C = some (excClassObj nmC qC C NC bsC [.type "object"] hdC snC subC abC colC ddC w0C w1C w2C w3C w5C newC))
    (lN : K.lookup NC = some ⟨cN, dN, .dict esN nN, sN⟩)
    (okN : (esN.toList.all fun e => match e.key with | .str _ _ => true | _ => false) = true)
    (nsq : PySem.W.nsIn K NC "__eq__" = some (some (.ref mq)))
    (nsn : PySem.W.nsIn K NC "__ne__" = some none)
    (z6 : PySem.W.nsIn K mainGlobals "MOST_STAGES" = some (some (.int 6 t6)))
    (z8 : PySem.W.nsIn K mainGlobals "MOST_LETTERS" = some (some (.int 8 t8)))
    (z4 : PySem.W.nsIn K mainGlobals "GREATEST_NUMBER" = some (some (.int 4 t4)))
    (gaS : PySem.W.nsIn K mainGlobals "SOURCES" = some (some (.ref aS)))
    (laS : K.lookup aS = some ⟨.type "tuple", daS, .seq iaS naS, saS⟩)
    (vaS : Vals [.str "a", .str "b", .str "c", .str "d"] iaS.toList)
    (waS : iaS.size = 4)
    (gaM : PySem.W.nsIn K mainGlobals "STAGES_WITH_NAME" = some (some (.ref aM)))
    (laM : K.lookup aM = some ⟨.type "tuple", daM, .seq iaM naM, saM⟩)
    (vaM : Vals [.str "map", .str "keep", .str "while", .str "after"] iaM.toList)
    (waM : iaM.size = 4)
    (gaN : PySem.W.nsIn K mainGlobals "STAGES_WITH_NUMBER" = some (some (.ref aN)))
    (laN : K.lookup aN = some ⟨.type "tuple", daN, .seq iaN naN, saN⟩)
    (vaN : Vals [.str "take", .str "skip", .str "lots", .str "gather"] iaN.toList)
    (waN : iaN.size = 4)
    (y0 : PySem.W.nsIn K mainGlobals "len" = some none)
    (y1 : PySem.W.nsIn K mainGlobals "int" = some none)
    (y2 : PySem.W.nsIn K mainGlobals "bool" = some none)
    (y3 : PySem.W.nsIn K mainGlobals "str" = some none)
    (y4 : PySem.W.nsIn K mainGlobals "tuple" = some none)
    (y5 : PySem.W.nsIn K mainGlobals "list" = some none)
    (y6 : PySem.W.nsIn K mainGlobals "all" = some none)
    (y7 : PySem.W.nsIn K mainGlobals "any" = some none)
    (y8 : PySem.W.nsIn K mainGlobals "max" = some none)
    (y9 : PySem.W.nsIn K mainGlobals "min" = some none)
    (y10 : PySem.W.nsIn K mainGlobals "set" = some none)
    (y11 : PySem.W.nsIn K mainGlobals "range" = some none)
    (y12 : PySem.W.nsIn K mainGlobals "isinstance" = some none)
    (y13 : PySem.W.nsIn K mainGlobals "enumerate" = some none)
    (y14 : PySem.W.nsIn K mainGlobals "repr" = some none) :
    ∃ fd : FuncData, (∀ (s : Shared) (v : Value), BindsTo s fd ⟨[v], []⟩ [("script", v)]) ∧ ∀ base : Heap, K.In base → base.Ns mainGlobals mg → RunAt l.prog w K mg base callerA fa fd ["script"] (spLaw K) := by
  have e := hfa.symm.trans (PySem.W.mg_of X G a41)
  cases e
  have F13 := fun_mk (st := sIsInt) l13 c13 k13
  have b13 := F13.binds (ps := ["value"]) fun _ _ _ _ _ _ us hl => match us, hl with | [_], _ => rfl
  have g13 := PySem.W.mg_of X G a13
  have F14 := fun_mk (st := sIsName) l14 c14 k14
  have b14 := F14.binds (ps := ["value"]) fun _ _ _ _ _ _ us hl => match us, hl with | [_], _ => rfl
  have g14 := PySem.W.mg_of X G a14
  have F15 := fun_mk (st := sIsNum) l15 c15 k15
  have b15 := F15.binds (ps := ["value"]) fun _ _ _ _ _ _ us hl => match us, hl with | [_], _ => rfl
  have g15 := PySem.W.mg_of X G a15
  have F16 := fun_mk (st := sIsStage) l16 c16 k16
  have b16 := F16.binds (ps := ["value"]) fun _ _ _ _ _ _ us hl => match us, hl with | [_], _ => rfl
  have g16 := PySem.W.mg_of X G a16
  have F17 := fun_mk (st := sSrcs) l17 c17 k17
  have b17 := F17.binds (ps := ["stage"]) fun _ _ _ _ _ _ us hl => match us, hl with | [_], _ => rfl
  have g17 := PySem.W.mg_of X G a17
  have F18 := fun_mk (st := sCan) l18 c18 k18
  have b18 := F18.binds (ps := ["stage", "depth", "sources"]) fun _ _ _ _ _ _ us hl => match us, hl with | [_, _, _], _ => rfl
  have g18 := PySem.W.mg_of X G a18
  have F19 := fun_mk (st := sDep) l19 c19 k19
  have b19 := F19.binds (ps := ["stage", "depth"]) fun _ _ _ _ _ _ us hl => match us, hl with | [_, _], _ => rfl
  have g19 := PySem.W.mg_of X G a19
  have F20 := fun_mk (st := sIsPos) l20 c20 k20
  have b20 := F20.binds (ps := ["value", "many"]) fun _ _ _ _ _ _ us hl => match us, hl with | [_, _], _ => rfl
  have g20 := PySem.W.mg_of X G a20
  have F21 := fun_mk (st := sArePos) l21 c21 k21
  have b21 := F21.binds (ps := ["value", "many"]) fun _ _ _ _ _ _ us hl => match us, hl with | [_, _], _ => rfl
  have g21 := PySem.W.mg_of X G a21
  have F24 := fun_mk (st := sSource) l24 c24 k24
  have b24 := F24.binds (ps := ["script", "start"]) fun _ _ _ _ _ _ us hl => match us, hl with | [_, _], _ => rfl
  have g24 := PySem.W.mg_of X G a24
  have F25 := fun_mk (st := sDraw) l25 c25 k25
  have b25 := F25.binds (ps := ["stream", "span"]) fun _ _ _ _ _ _ us hl => match us, hl with | [_, _], _ => rfl
  have g25 := PySem.W.mg_of X G a25
  have F26 := fun_mk (st := sPick) l26 c26 k26
  have b26 := F26.binds (ps := ["stream", "things"]) fun _ _ _ _ _ _ us hl => match us, hl with | [_, _], _ => rfl
  have g26 := PySem.W.mg_of X G a26
  have F27 := fun_mk (st := sMixed) l27 c27 k27
  have b27 := F27.binds (ps := ["stream", "things"]) fun _ _ _ _ _ _ us hl => match us, hl with | [_, _], _ => rfl
  have g27 := PySem.W.mg_of X G a27
  have F28 := fun_mk (st := sHeight) l28 c28 k28
  have b28 := F28.binds (ps := ["height", "stage"]) fun _ _ _ _ _ _ us hl => match us, hl with | [_, _], _ => rfl
  have g28 := PySem.W.mg_of X G a28
  have F29 := fun_mk (st := sDepth) l29 c29 k29
  have b29 := F29.binds (ps := ["plan"]) fun _ _ _ _ _ _ us hl => match us, hl with | [_], _ => rfl
  have g29 := PySem.W.mg_of X G a29
  have F30 := fun_mk (st := sName) l30 c30 k30
  have b30 := F30.binds (ps := ["stream"]) fun _ _ _ _ _ _ us hl => match us, hl with | [_], _ => rfl
  have g30 := PySem.W.mg_of X G a30
  have F31 := fun_mk (st := sStg) l31 c31 k31
  have b31 := F31.binds (ps := ["stream", "height", "pool", "most"]) fun _ _ _ _ _ _ us hl => match us, hl with | [_, _, _, _], _ => rfl
  have g31 := PySem.W.mg_of X G a31
  have F32 := fun_mk (st := sPlan) l32 c32 k32
  have b32 := F32.binds (ps := ["stream", "pool", "most"]) fun _ _ _ _ _ _ us hl => match us, hl with | [_, _, _], _ => rfl
  have g32 := PySem.W.mg_of X G a32
  have F33 := fun_mk (st := sProg) l33 c33 k33
  have b33 := F33.binds (ps := ["plan"]) fun _ _ _ _ _ _ us hl => match us, hl with | [_], _ => rfl
  have g33 := PySem.W.mg_of X G a33
  have F34 := fun_mk (st := sBad) l34 c34 k34
  have b34 := F34.binds (ps := ["plan"]) fun _ _ _ _ _ _ us hl => match us, hl with | [_], _ => rfl
  have g34 := PySem.W.mg_of X G a34
  have F35 := fun_mk (st := sTold) l35 c35 k35
  have b35 := F35.binds (ps := ["program", "word", "value"]) fun _ _ _ _ _ _ us hl => match us, hl with | [_, _, _], _ => rfl
  have g35 := PySem.W.mg_of X G a35
  have F36 := fun_mk (st := sPlace) l36 c36 k36
  have b36 := F36.binds (ps := ["thing", "many"]) fun _ _ _ _ _ _ us hl => match us, hl with | [_, _], _ => rfl
  have g36 := PySem.W.mg_of X G a36
  have F37 := fun_mk (st := sDue) l37 c37 k37
  have b37 := F37.binds (ps := ["plan", "word", "value"]) fun _ _ _ _ _ _ us hl => match us, hl with | [_, _, _], _ => rfl
  have g37 := PySem.W.mg_of X G a37
  have F38 := fun_mk (st := sAsk) l38 c38 k38
  have b38 := F38.binds (ps := ["program", "plan", "word", "value"]) fun _ _ _ _ _ _ us hl => match us, hl with | [_, _, _, _], _ => rfl
  have g38 := PySem.W.mg_of X G a38
  have F39 := fun_mk (st := sOdd) l39 c39 k39
  have b39 := F39.binds (ps := ["program", "plan"]) fun _ _ _ _ _ _ us hl => match us, hl with | [_, _], _ => rfl
  have g39 := PySem.W.mg_of X G a39
  have F40 := fun_mk (st := sCmp) l40 c40 k40
  have b40 := F40.binds (ps := ["source", "plan", "program"]) fun _ _ _ _ _ _ us hl => match us, hl with | [_, _, _], _ => rfl
  have g40 := PySem.W.mg_of X G a40
  have F41 := fun_mk (st := sLaw) l41 c41 k41
  have b41 := F41.binds (ps := ["script"]) fun _ _ _ _ _ _ us hl => match us, hl with | [_], _ => rfl
  have g41 := PySem.W.mg_of X G a41
  have FM0 := fun_mk (st := sThen) ml0 mc0 mk0
  have bM0 := FM0.binds (ps := ["self", "stage"]) fun _ _ _ _ _ _ us hl => match us, hl with | [_, _], _ => rfl
  have FM1 := fun_mk (st := sWithout) ml1 mc1 mk1
  have bM1 := FM1.binds (ps := ["self", "positions"]) fun _ _ _ _ _ _ us hl => match us, hl with | [_, _], _ => rfl
  have FM2 := fun_mk (st := sExch) ml2 mc2 mk2
  have bM2 := FM2.binds (ps := ["self", "position"]) fun _ _ _ _ _ _ us hl => match us, hl with | [_, _], _ => rfl
  have FMq := fun_mk (st := sEq) mlq mcq mkq
  have bMq := FMq.binds (ps := ["self", "other"]) fun _ _ _ _ _ _ us hl => match us, hl with | [_, _], _ => rfl
  have E3 : ErrC K mg "BadStages" "BadStages.__init__" "value" sI1 C3 I3 _ := err_mk X G eg3 ex3 (by show PySem.HandSPX.refsVE ([.type "ValueError", .type "Exception", .type "BaseException", .type "object"] : List Value) = true; decide +kernel) es3 eb3 et3 ek3 en3 ei3 ety3 el3 ec3 eK3 ega3 egg3 ehd3 (fun _ _ _ _ _ _ us hl => match us, hl with | [_, _], _ => rfl)
  have E4 : ErrC K mg "BadStage" "BadStage.__init__" "position" sI2 C4 I4 _ := err_mk X G eg4 ex4 (by show PySem.HandSPX.refsVE ([.type "ValueError", .type "Exception", .type "BaseException", .type "object"] : List Value) = true; decide +kernel) es4 eb4 et4 ek4 en4 ei4 ety4 el4 ec4 eK4 ega4 egg4 ehd4 (fun _ _ _ _ _ _ us hl => match us, hl with | [_, _], _ => rfl)
  have E5 : ErrC K mg "BadPositions" "BadPositions.__init__" "value" sI3 C5 I5 _ := err_mk X G eg5 ex5 (by show PySem.HandSPX.refsVE ([.type "ValueError", .type "Exception", .type "BaseException", .type "object"] : List Value) = true; decide +kernel) es5 eb5 et5 ek5 en5 ei5 ety5 el5 ec5 eK5 ega5 egg5 ehd5 (fun _ _ _ _ _ _ us hl => match us, hl with | [_, _], _ => rfl)
  have N : Nm mg := ⟨PySem.W.mg_none_of X G y0, PySem.W.mg_none_of X G y1, PySem.W.mg_none_of X G y2, PySem.W.mg_none_of X G y3, PySem.W.mg_none_of X G y4, PySem.W.mg_none_of X G y5, PySem.W.mg_none_of X G y6, PySem.W.mg_none_of X G y7, PySem.W.mg_none_of X G y8, PySem.W.mg_none_of X G y9, PySem.W.mg_none_of X G y10, PySem.W.mg_none_of X G y11, PySem.W.mg_none_of X G y12, PySem.W.mg_none_of X G y13, PySem.W.mg_none_of X G y14⟩
  have Z0 : Cst K mg aS aM aN := ⟨⟨_, PySem.W.mg_of X G z6⟩, ⟨_, PySem.W.mg_of X G z8⟩, ⟨_, PySem.W.mg_of X G z4⟩, PySem.W.mg_of X G gaS, PySem.W.mg_of X G gaM, PySem.W.mg_of X G gaN, sqK laS vaS (by omega), sqK laM vaM (by omega), sqK laN vaN (by omega)⟩
  have cls : Cls K C := ⟨pg, hd, po, sa⟩
  have c : Cl K mg C := ⟨cls, PySem.W.mg_of X G aC, cl, sp, tk, ob, kttuple, kc, ct, n1, n2, n3, n4⟩
  have q1 : ∀ (P : Program) (w : World) (base : Heap), Prp P w K mg base C "source" "_source" := prp_mk (st := sP1) cls n1 pa1 ps1 pt1 pr1 pl1 pc1 scP1 rfl (fun _ _ _ _ _ _ us hl => match us, hl with | [_], _ => rfl)
  have q2 : ∀ (P : Program) (w : World) (base : Heap), Prp P w K mg base C "stages" "_stages" := prp_mk (st := sP2) cls n2 pa2 ps2 pt2 pr2 pl2 pc2 scP2 rfl (fun _ _ _ _ _ _ us hl => match us, hl with | [_], _ => rfl)
  have q3 : ∀ (P : Program) (w : World) (base : Heap), Prp P w K mg base C "sources" "_sources" := prp_mk (st := sP3) cls n3 pa3 ps3 pt3 pr3 pl3 pc3 scP3 rfl (fun _ _ _ _ _ _ us hl => match us, hl with | [_], _ => rfl)
  have q4 : ∀ (P : Program) (w : World) (base : Heap), Prp P w K mg base C "depth" "_depth" := prp_mk (st := sP4) cls n4 pa4 ps4 pt4 pr4 pl4 pc4 scP4 rfl (fun _ _ _ _ _ _ us hl => match us, hl with | [_], _ => rfl)
  let A : Nat → Addr := fun n => ([C3, C3, C3, C3, C4, C5, C3, C3, C3, C3, C3, C3, C3, f13, f14, f15, f16, f17, f18, f19, f20, f21, f22] : List Addr).getD n C3
  let I : Nat → Addr := fun n => ([I3, I3, I3, I3, I4, I5] : List Addr).getD n I3
  let D : Nat → FuncData := fun n => ([PySem.W.fnOf "is_integer" "is_integer" (defArgs sIsInt) (defBody sIsInt) (defScope sIsInt) .none kVf13 dcf13 pmf13 anf13 cdf13 ctf13, PySem.W.fnOf "is_integer" "is_integer" (defArgs sIsInt) (defBody sIsInt) (defScope sIsInt) .none kVf13 dcf13 pmf13 anf13 cdf13 ctf13, PySem.W.fnOf "is_integer" "is_integer" (defArgs sIsInt) (defBody sIsInt) (defScope sIsInt) .none kVf13 dcf13 pmf13 anf13 cdf13 ctf13, PySem.W.fnOf "is_integer" "is_integer" (defArgs sIsInt) (defBody sIsInt) (defScope sIsInt) .none kVf13 dcf13 pmf13 anf13 cdf13 ctf13, PySem.W.fnOf "is_integer" "is_integer" (defArgs sIsInt) (defBody sIsInt) (defScope sIsInt) .none kVf13 dcf13 pmf13 anf13 cdf13 ctf13, PySem.W.fnOf "is_integer" "is_integer" (defArgs sIsInt) (defBody sIsInt) (defScope sIsInt) .none kVf13 dcf13 pmf13 anf13 cdf13 ctf13, PySem.W.fnOf "is_integer" "is_integer" (defArgs sIsInt) (defBody sIsInt) (defScope sIsInt) .none kVf13 dcf13 pmf13 anf13 cdf13 ctf13, PySem.W.fnOf "is_integer" "is_integer" (defArgs sIsInt) (defBody sIsInt) (defScope sIsInt) .none kVf13 dcf13 pmf13 anf13 cdf13 ctf13, PySem.W.fnOf "is_integer" "is_integer" (defArgs sIsInt) (defBody sIsInt) (defScope sIsInt) .none kVf13 dcf13 pmf13 anf13 cdf13 ctf13, PySem.W.fnOf "is_integer" "is_integer" (defArgs sIsInt) (defBody sIsInt) (defScope sIsInt) .none kVf13 dcf13 pmf13 anf13 cdf13 ctf13, PySem.W.fnOf "is_integer" "is_integer" (defArgs sIsInt) (defBody sIsInt) (defScope sIsInt) .none kVf13 dcf13 pmf13 anf13 cdf13 ctf13, PySem.W.fnOf "is_integer" "is_integer" (defArgs sIsInt) (defBody sIsInt) (defScope sIsInt) .none kVf13 dcf13 pmf13 anf13 cdf13 ctf13, PySem.W.fnOf "is_integer" "is_integer" (defArgs sIsInt) (defBody sIsInt) (defScope sIsInt) .none kVf13 dcf13 pmf13 anf13 cdf13 ctf13, PySem.W.fnOf "is_integer" "is_integer" (defArgs sIsInt) (defBody sIsInt) (defScope sIsInt) .none kVf13 dcf13 pmf13 anf13 cdf13 ctf13, PySem.W.fnOf "is_name" "is_name" (defArgs sIsName) (defBody sIsName) (defScope sIsName) .none kVf14 dcf14 pmf14 anf14 cdf14 ctf14, PySem.W.fnOf "is_stage_number" "is_stage_number" (defArgs sIsNum) (defBody sIsNum) (defScope sIsNum) .none kVf15 dcf15 pmf15 anf15 cdf15 ctf15, PySem.W.fnOf "is_stage" "is_stage" (defArgs sIsStage) (defBody sIsStage) (defScope sIsStage) .none kVf16 dcf16 pmf16 anf16 cdf16 ctf16, PySem.W.fnOf "sources_of_stage" "sources_of_stage" (defArgs sSrcs) (defBody sSrcs) (defScope sSrcs) .none kVf17 dcf17 pmf17 anf17 cdf17 ctf17, PySem.W.fnOf "can_stand" "can_stand" (defArgs sCan) (defBody sCan) (defScope sCan) .none kVf18 dcf18 pmf18 anf18 cdf18 ctf18, PySem.W.fnOf "depth_behind" "depth_behind" (defArgs sDep) (defBody sDep) (defScope sDep) .none kVf19 dcf19 pmf19 anf19 cdf19 ctf19, PySem.W.fnOf "is_position" "is_position" (defArgs sIsPos) (defBody sIsPos) (defScope sIsPos) .none kVf20 dcf20 pmf20 anf20 cdf20 ctf20, PySem.W.fnOf "are_positions" "are_positions" (defArgs sArePos) (defBody sArePos) (defScope sArePos) .none kVf21 dcf21 pmf21 anf21 cdf21 ctf21, PySem.W.fnOf "__init__" "Program.__init__" (defArgs sInit) (defBody sInit) (defScope sInit) (.ref T22) kVf22 dcf22 pmf22 anf22 cdf22 ctf22] : List FuncData).getD n (PySem.W.fnOf "is_integer" "is_integer" (defArgs sIsInt) (defBody sIsInt) (defScope sIsInt) .none kVf13 dcf13 pmf13 anf13 cdf13 ctf13)
  let J : Nat → FuncData := fun n => ([PySem.W.fnOf "__init__" "BadStages.__init__" (defArgs sI1) (defBody sI1) (defScope sI1) .none kVe3 dce3 pme3 ane3 cde3 cte3, PySem.W.fnOf "__init__" "BadStages.__init__" (defArgs sI1) (defBody sI1) (defScope sI1) .none kVe3 dce3 pme3 ane3 cde3 cte3, PySem.W.fnOf "__init__" "BadStages.__init__" (defArgs sI1) (defBody sI1) (defScope sI1) .none kVe3 dce3 pme3 ane3 cde3 cte3, PySem.W.fnOf "__init__" "BadStages.__init__" (defArgs sI1) (defBody sI1) (defScope sI1) .none kVe3 dce3 pme3 ane3 cde3 cte3, PySem.W.fnOf "__init__" "BadStage.__init__" (defArgs sI2) (defBody sI2) (defScope sI2) .none kVe4 dce4 pme4 ane4 cde4 cte4, PySem.W.fnOf "__init__" "BadPositions.__init__" (defArgs sI3) (defBody sI3) (defScope sI3) .none kVe5 dce5 pme5 ane5 cde5 cte5] : List FuncData).getD n (PySem.W.fnOf "__init__" "BadStages.__init__" (defArgs sI1) (defBody sI1) (defScope sI1) .none kVe3 dce3 pme3 ane3 cde3 cte3)
  have L : Lb K mg A I D J aS aM aN C := ⟨N, Z0, c, E3, E4, E5, q1, q2, q3, q4, g13, F13, b13, g14, F14, b14, g15, F15, b15, g16, F16, b16, g17, F17, b17, g18, F18, b18, g19, F19, b19, g20, F20, b20, g21, F21, b21⟩
  have FD : L2.FunD K "__init__" "Program.__init__" (defArgs sInit) (defBody sInit) (defScope sInit) [.ref e0] [] f22 (PySem.W.fnOf "__init__" "Program.__init__" (defArgs sInit) (defBody sInit) (defScope sInit) (.ref T22) kVf22 dcf22 pmf22 anf22 cdf22 ctf22) := ⟨⟨_, _, _, _, _, _, _, _, _, _, rfl, l22, c22, .inr ⟨(fun z => by cases z), T22, _, [.ref e0], nT, rfl, lT, rfl, .cons rfl .nil⟩, .inl rfl⟩, k22⟩
  have B3 : Binds K (D 22) ["self", "source", "stages"] [] := by
    obtain ⟨ds, v, b⟩ := FD.binds1 (ps := ["self", "source", "stages"]) 3 1 (fun z => by cases z) rfl (fun T kV doc pm an cdv ct us its hl hi => match us, its, hl, hi with | [_, _, _], [_], _, _ => ⟨_, rfl, rfl⟩)
    cases v
    exact b
  have B2 : Binds K (D 22) ["self", "source", "stages"] [.ref e0] := by
    obtain ⟨ds, v, b⟩ := FD.binds1 (ps := ["self", "source", "stages"]) 2 0 (fun z => by cases z) rfl (fun T kV doc pm an cdv ct us its hl hi => match us, its, hl, hi with | [_, _], [_], _, _ => ⟨_, rfl, rfl⟩)
    cases v with
    | cons r v =>
      cases v
      cases r
      exact b
  have Zp : Lp K mg A I D J aS aM aN C e0 := ⟨L, ⟨mk, ini, fi22, kC⟩, ⟨⟨_, _, _, _, _, _, _, _, _, _, rfl, l22, c22⟩⟩, B3, B2, sqK lE .nil (Nat.zero_le _)⟩
  let M : Nat → Addr := fun n => ([m0, m1, m2] : List Addr).getD n m0
  let T : Nat → FuncData := fun n => ([PySem.W.fnOf "then" "Program.then" (defArgs sThen) (defBody sThen) (defScope sThen) .none kVm0 dcm0 pmm0 anm0 cdm0 ctm0, PySem.W.fnOf "without" "Program.without" (defArgs sWithout) (defBody sWithout) (defScope sWithout) .none kVm1 dcm1 pmm1 anm1 cdm1 ctm1, PySem.W.fnOf "exchanged" "Program.exchanged" (defArgs sExch) (defBody sExch) (defScope sExch) .none kVm2 dcm2 pmm2 anm2 cdm2 ctm2] : List FuncData).getD n (PySem.W.fnOf "then" "Program.then" (defArgs sThen) (defBody sThen) (defScope sThen) .none kVm0 dcm0 pmm0 anm0 cdm0 ctm0)
  have Y : Lm K C mg A M T := by
    refine ⟨⟨ma0, mi0, mk0⟩, ⟨ma1, mi1, mk1⟩, ⟨ma2, mi2, mk2⟩, FM0, FM1, FM2, bM0, bM1, bM2, fun i j hi hj => ?_⟩
    have m3 : ∀ i ∈ ([3, 4, 5] : List Nat), i = 3 ∨ i = 4 ∨ i = 5 := by decide
    rcases m3 i hi with rfl | rfl | rfl <;> rcases m3 j hj with rfl | rfl | rfl
    · exact em33
    · exact em34
    · exact em35
    · exact em43
    · exact em44
    · exact em45
    · exact em53
    · exact em54
    · exact em55
  have okn : PySem.W.nsOkIn K NC = true := by
    unfold PySem.W.nsOkIn
    rw [lN]
    show esN.all _ = true
    rw [← Array.all_toList]
    exact okN
  have U : Le K C mq _ := ⟨FMq, maq, miq, bMq, fun h' x o KX hx ho => by
    have ns := Heap.Ns.of_isNs (PySem.W.isNs_of_in KX okn)
    obtain ⟨of, hof, hofc⟩ : ∃ of, h'.get? mq = some of ∧ of.cls = .type "function" := by
      refine ⟨_, KX _ _ mlq, ?_⟩
      have t : (List.lookup mq K).map (fun x => x.cls) = some (.type "function") := beq_iff_eq.mp miq
      rw [mlq] at t
      exact Option.some.inj t
    exact ⟨o, of, nmC, qC, NC, bsC, hdC, snC, subC, abC, colC, ddC, w0C, w1C, w2C, w3C, w5C, newC, _, _, hx, ho, KX _ _ xC, ns, mq_of KX ns nsq, hof, hofc, PySem.F.mro_object, rfl, PySem.W.ns_none_of KX ns nsn⟩⟩
  have Wk : Lk K C := ⟨fun T hT => by
    rcases List.mem_cons.mp hT with rfl | hT
    · exact ⟨ktNoneType, nfNoneType⟩
    rcases List.mem_cons.mp hT with rfl | hT
    · exact ⟨kttuple, nftuple⟩
    rcases List.mem_cons.mp hT with rfl | hT
    · exact ⟨ktstr, nfstr⟩
    rcases List.mem_cons.mp hT with rfl | hT
    · exact ⟨ktint, nfint⟩
    · cases hT⟩
  refine ⟨PySem.W.fnOf "law" "law" (defArgs sLaw) (defBody sLaw) (defScope sLaw) .none kVf41 dcf41 pmf41 anf41 cdf41 ctf41, fun s v => .of_eq rfl, fun base _ _ => ?_⟩
  have HD := ok_hd (P := l.prog) (w := w) (base := base) N g28 F28 b28 g29 F29 b29 5
  have GS := fun n => ok_stg (P := l.prog) (w := w) (base := base) (n := n) F31 N g32 F32 b32 g30 F30 b30 g26 F26 b26 g25 F25 b25
  have GPn := fun n => ok_plan (P := l.prog) (w := w) (base := base) (n := n) F32 N g31 F31 b31 g28 F28 b28 g25 F25 b25 HD.1
  have GL := plans (P := l.prog) (w := w) (base := base) F32 GS GPn 4
  have GU := ok_due (P := l.prog) (w := w) (base := base) F37 N g36 F36 b36 g34 F34 b34 g28 F28 b28 HD.1
  have GQ := ok_ask (P := l.prog) (w := w) (base := base) F38 Zp U Y g33 F33 b33 g29 F29 b29 g35 F35 b35 g37 F37 b37 HD.2 GU
  have GO := ok_odd (P := l.prog) (w := w) (base := base) F39 Zp Wk Y g35 F35 b35
  have GM : FnOk l.prog w K mg base CX0 2 f27 _ ["stream", "things"] (spMixed K) := ok_mixed F27 N g25 F25 b25
  have GC := ok_cmp (P := l.prog) (w := w) (base := base) F40 Zp U Wk g33 F33 b33 g32 F32 b32 g27 F27 b27 GM GL
  exact run_law F41 Zp U ⟨g24, g25, g26, g27, g32, g33, g38, g39, g40, F24, F25, F26, F27, F32, F33, F38, F39, F40, b24, b25, b26, b27, b32, b33, b38, b39, b40⟩ GL GQ GO GC
end K02
set_option Elab.async false
set_option linter.all false
open PySem PySem.W PyProof.Rows
set_option maxRecDepth 100000 in
set_option maxHeartbeats 0 in
theorem PySem.Challenge.cw_pulledonce_k02_programs_changed_and_comp_holds : PySem.Challenge.rw_pulledonce_k02_programs_changed_and_comp.Holds := by
  w_on; o_law; k_head; (case hw => w_witness2)
  k_fill
  refine VK.walk_at (l := PySem.Challenge.rw_pulledonce_k02_programs_changed_and_comp) (n := 63) (x := "script") (sp := fun w => K02.spLaw _) rfl (by decide) rfl (fun w h Y => PySem.W.kIn_of Y) ?F (fun w H a ns hl hb hO hS => ⟨a, ns, rfl, hO, hS, hl, hb, fun _ => rfl⟩)
  case F =>
    intro w mg fa h KX G hmg
    refine' K02.all_mk KX G hmg ?a13 ?l13 ?c13 ?k13 ?a14 ?l14 ?c14 ?k14 ?a15 ?l15 ?c15 ?k15 ?a16 ?l16 ?c16 ?k16 ?a17 ?l17 ?c17 ?k17 ?a18 ?l18 ?c18 ?k18 ?a19 ?l19 ?c19 ?k19 ?a20 ?l20 ?c20 ?k20 ?a21 ?l21 ?c21 ?k21 ?a24 ?l24 ?c24 ?k24 ?a25 ?l25 ?c25 ?k25 ?a26 ?l26 ?c26 ?k26 ?a27 ?l27 ?c27 ?k27 ?a28 ?l28 ?c28 ?k28 ?a29 ?l29 ?c29 ?k29 ?a30 ?l30 ?c30 ?k30 ?a31 ?l31 ?c31 ?k31 ?a32 ?l32 ?c32 ?k32 ?a33 ?l33 ?c33 ?k33 ?a34 ?l34 ?c34 ?k34 ?a35 ?l35 ?c35 ?k35 ?a36 ?l36 ?c36 ?k36 ?a37 ?l37 ?c37 ?k37 ?a38 ?l38 ?c38 ?k38 ?a39 ?l39 ?c39 ?k39 ?a40 ?l40 ?c40 ?k40 ?a41 ?l41 ?c41 ?k41 ?eg3 ?ex3 ?es3 ?eb3 ?et3 ?ek3 ?en3 ?ei3 ?ety3 ?el3 ?ec3 ?eK3 ?ega3 ?egg3 ?ehd3 ?eg4 ?ex4 ?es4 ?eb4 ?et4 ?ek4 ?en4 ?ei4 ?ety4 ?el4 ?ec4 ?eK4 ?ega4 ?egg4 ?ehd4 ?eg5 ?ex5 ?es5 ?eb5 ?et5 ?ek5 ?en5 ?ei5 ?ety5 ?el5 ?ec5 ?eK5 ?ega5 ?egg5 ?ehd5 ?em33 ?em34 ?em35 ?em43 ?em44 ?em45 ?em53 ?em54 ?em55 ?aC ?pg ?hd ?po ?sa ?cl ?sp ?tk ?ob ?kc ?ct ?ktNoneType ?nfNoneType ?kttuple ?nftuple ?ktstr ?nfstr ?ktint ?nfint ?n1 ?n2 ?n3 ?n4 ?mk ?ini ?fi22 ?kC ?l22 ?c22 ?k22 ?lT ?lE ?pa1 ?ps1 ?pt1 ?pr1 ?pl1 ?pc1 ?pk1 ?pa2 ?ps2 ?pt2 ?pr2 ?pl2 ?pc2 ?pk2 ?pa3 ?ps3 ?pt3 ?pr3 ?pl3 ?pc3 ?pk3 ?pa4 ?ps4 ?pt4 ?pr4 ?pl4 ?pc4 ?pk4 ?ma0 ?mi0 ?mk0 ?ml0 ?mc0 ?ma1 ?mi1 ?mk1 ?ml1 ?mc1 ?ma2 ?mi2 ?mk2 ?ml2 ?mc2 ?maq ?miq ?mkq ?mlq ?mcq ?xC ?lN ?okN ?nsq ?nsn ?z6 ?z8 ?z4 ?gaS ?laS ?vaS ?waS ?gaM ?laM ?vaM ?waM ?gaN ?laN ?vaN ?waN ?y0 ?y1 ?y2 ?y3 ?y4 ?y5 ?y6 ?y7 ?y8 ?y9 ?y10 ?y11 ?y12 ?y13 ?y14
    (case a13 => k_is)
    (case l13 => k_is)
    (case c13 => k_is)
    (case k13 => k_is)
    (case a14 => k_is)
    (case l14 => k_is)
    (case c14 => k_is)
    (case k14 => k_is)
    (case a15 => k_is)
    (case l15 => k_is)
    (case c15 => k_is)
    (case k15 => k_is)
    (case a16 => k_is)
    (case l16 => k_is)
    (case c16 => k_is)
    (case k16 => k_is)
    (case a17 => k_is)
    (case l17 => k_is)
    (case c17 => k_is)
    (case k17 => k_is)
    (case a18 => k_is)
    (case l18 => k_is)
    (case c18 => k_is)
    (case k18 => k_is)
    (case a19 => k_is)
    (case l19 => k_is)
    (case c19 => k_is)
    (case k19 => k_is)
    (case a20 => k_is)
    (case l20 => k_is)
    (case c20 => k_is)
    (case k20 => k_is)
    (case a21 => k_is)
    (case l21 => k_is)
    (case c21 => k_is)
    (case k21 => k_is)
    (case a24 => k_is)
    (case l24 => k_is)
    (case c24 => k_is)
    (case k24 => k_is)
    (case a25 => k_is)
    (case l25 => k_is)
    (case c25 => k_is)
    (case k25 => k_is)
    (case a26 => k_is)
    (case l26 => k_is)
    (case c26 => k_is)
    (case k26 => k_is)
    (case a27 => k_is)
    (case l27 => k_is)
    (case c27 => k_is)
    (case k27 => k_is)
    (case a28 => k_is)
    (case l28 => k_is)
    (case c28 => k_is)
    (case k28 => k_is)
    (case a29 => k_is)
    (case l29 => k_is)
    (case c29 => k_is)
    (case k29 => k_is)
    (case a30 => k_is)
    (case l30 => k_is)
    (case c30 => k_is)
    (case k30 => k_is)
    (case a31 => k_is)
    (case l31 => k_is)
    (case c31 => k_is)
    (case k31 => k_is)
    (case a32 => k_is)
    (case l32 => k_is)
    (case c32 => k_is)
    (case k32 => k_is)
    (case a33 => k_is)
    (case l33 => k_is)
    (case c33 => k_is)
    (case k33 => k_is)
    (case a34 => k_is)
    (case l34 => k_is)
    (case c34 => k_is)
    (case k34 => k_is)
    (case a35 => k_is)
    (case l35 => k_is)
    (case c35 => k_is)
    (case k35 => k_is)
    (case a36 => k_is)
    (case l36 => k_is)
    (case c36 => k_is)
    (case k36 => k_is)
    (case a37 => k_is)
    (case l37 => k_is)
    (case c37 => k_is)
    (case k37 => k_is)
    (case a38 => k_is)
    (case l38 => k_is)
    (case c38 => k_is)
    (case k38 => k_is)
    (case a39 => k_is)
    (case l39 => k_is)
    (case c39 => k_is)
    (case k39 => k_is)
    (case a40 => k_is)
    (case l40 => k_is)
    (case c40 => k_is)
    (case k40 => k_is)
    (case a41 => k_is)
    (case l41 => k_is)
    (case c41 => k_is)
    (case k41 => k_is)
    (case eg3 => k_is)
    (case ex3 => k_is)
    (case es3 => k_is)
    (case eb3 => k_is)
    (case et3 => k_is)
    (case ek3 => k_is)
    (case en3 => k_is)
    (case ei3 => k_is)
    (case ety3 => k_is)
    (case el3 => k_is)
    (case ec3 => k_is)
    (case eK3 => k_is)
    (case ega3 => k_is)
    (case egg3 => k_is)
    (case ehd3 => k_is)
    (case eg4 => k_is)
    (case ex4 => k_is)
    (case es4 => k_is)
    (case eb4 => k_is)
    (case et4 => k_is)
    (case ek4 => k_is)
    (case en4 => k_is)
    (case ei4 => k_is)
    (case ety4 => k_is)
    (case el4 => k_is)
    (case ec4 => k_is)
    (case eK4 => k_is)
    (case ega4 => k_is)
    (case egg4 => k_is)
    (case ehd4 => k_is)
    (case eg5 => k_is)
    (case ex5 => k_is)
    (case es5 => k_is)
    (case eb5 => k_is)
    (case et5 => k_is)
    (case ek5 => k_is)
    (case en5 => k_is)
    (case ei5 => k_is)
    (case ety5 => k_is)
    (case el5 => k_is)
    (case ec5 => k_is)
    (case eK5 => k_is)
    (case ega5 => k_is)
    (case egg5 => k_is)
    (case ehd5 => k_is)
    (case em33 => kts_exm)
    (case em34 => kts_exm)
    (case em35 => kts_exm)
    (case em43 => kts_exm)
    (case em44 => kts_exm)
    (case em45 => kts_exm)
    (case em53 => kts_exm)
    (case em54 => kts_exm)
    (case em55 => kts_exm)
    (case aC => k_is)
    (case pg => k_is)
    (case hd => k_is)
    (case po => k_is)
    (case sa => k_is)
    (case cl => k_is)
    (case sp => k_is)
    (case tk => k_is)
    (case ob => k_is)
    (case kc => kit_is)
    (case ct => kit_is)
    (case ktNoneType => kit_is)
    (case nfNoneType => k_is)
    (case kttuple => kit_is)
    (case nftuple => k_is)
    (case ktstr => kit_is)
    (case nfstr => k_is)
    (case ktint => kit_is)
    (case nfint => k_is)
    (case n1 => k_is)
    (case n2 => k_is)
    (case n3 => k_is)
    (case n4 => k_is)
    (case mk => k_is)
    (case ini => k_is)
    (case fi22 => k_is)
    (case kC => k_is)
    (case l22 => k_is)
    (case c22 => k_is)
    (case k22 => k_is)
    (case lT => k_is)
    (case lE => k_is)
    (case pa1 => k_is)
    (case ps1 => k_is)
    (case pt1 => k_is)
    (case pr1 => k_is)
    (case pl1 => k_is)
    (case pc1 => k_is)
    (case pk1 => k_is)
    (case pa2 => k_is)
    (case ps2 => k_is)
    (case pt2 => k_is)
    (case pr2 => k_is)
    (case pl2 => k_is)
    (case pc2 => k_is)
    (case pk2 => k_is)
    (case pa3 => k_is)
    (case ps3 => k_is)
    (case pt3 => k_is)
    (case pr3 => k_is)
    (case pl3 => k_is)
    (case pc3 => k_is)
    (case pk3 => k_is)
    (case pa4 => k_is)
    (case ps4 => k_is)
    (case pt4 => k_is)
    (case pr4 => k_is)
    (case pl4 => k_is)
    (case pc4 => k_is)
    (case pk4 => k_is)
    (case ma0 => k_is)
    (case mi0 => k_is)
    (case mk0 => k_is)
    (case ml0 => k_is)
    (case mc0 => k_is)
    (case ma1 => k_is)
    (case mi1 => k_is)
    (case mk1 => k_is)
    (case ml1 => k_is)
    (case mc1 => k_is)
    (case ma2 => k_is)
    (case mi2 => k_is)
    (case mk2 => k_is)
    (case ml2 => k_is)
    (case mc2 => k_is)
    (case maq => k_is)
    (case miq => k_is)
    (case mkq => k_is)
    (case mlq => k_is)
    (case mcq => k_is)
    (case xC => k_is)
    (case lN => k_is)
    (case okN => rfl)
    (case nsq => k_is)
    (case nsn => k_is)
    (case z6 => k_is)
    (case z8 => k_is)
    (case z4 => k_is)
    (case gaS => k_is)
    (case laS => k_is)
    (case vaS => exact .cons ⟨_, rfl⟩ (.cons ⟨_, rfl⟩ (.cons ⟨_, rfl⟩ (.cons ⟨_, rfl⟩ .nil))))
    (case waS => rfl)
    (case gaM => k_is)
    (case laM => k_is)
    (case vaM => exact .cons ⟨_, rfl⟩ (.cons ⟨_, rfl⟩ (.cons ⟨_, rfl⟩ (.cons ⟨_, rfl⟩ .nil))))
    (case waM => rfl)
    (case gaN => k_is)
    (case laN => k_is)
    (case vaN => exact .cons ⟨_, rfl⟩ (.cons ⟨_, rfl⟩ (.cons ⟨_, rfl⟩ (.cons ⟨_, rfl⟩ .nil))))
    (case waN => rfl)
    (case y0 => k_is)
    (case y1 => k_is)
    (case y2 => k_is)
    (case y3 => k_is)
    (case y4 => k_is)
    (case y5 => k_is)
    (case y6 => k_is)
    (case y7 => k_is)
    (case y8 => k_is)
    (case y9 => k_is)
    (case y10 => k_is)
    (case y11 => k_is)
    (case y12 => k_is)
    (case y13 => k_is)
    (case y14 => k_is)

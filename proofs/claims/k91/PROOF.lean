import PyProof.Rows.All
import Wide.All
import OpenK.AllK
import Wide.FinOn
import HandS.Base
import HandS.Call
import HandS.List
import HandS.Ends
import HandS.Exc
import HandS.ExcInit
import HandS.WideBits
import PyProof.ReprReads
import KE.KExcIs
import HandS.ExcField
import HandS.IsInst
import HandS.MakeKw
import HandS.ForMost
import HandS.ForExc
import HandS.EndBits
import PySem.Challenge.RW_pulledonce_k91_errors_by_hand
set_option Elab.async false
set_option linter.all false
set_option maxRecDepth 100000
set_option maxHeartbeats 4000000
/-! Rules of my own over the hand layer: powers of great ints, exceptions held as values, repr of data. -/
namespace VK
open PySem PySem.Spec PyProof.Rows L2

/-! ### powers -/
def PowOk (i j : Int) : Prop := 0 ≤ j ∧ (Builtin.Int.intBits i : Int) * j ≤ 2 ^ 27
theorem op_powB {X : Cx} : OpR X (binaryOp .Pow) (rI PowOk fun i j => .int (i ^ j.toNat)) :=
  opI fun _ _ _ _ _ _ _ hc q => pow_int hc.1 hc.2 q

/-! ### an exception of one's own, held as a value: its object exo, its dict exd -/
section
variable {X : Cx} {e : Expr} {es : List Expr} {te : TE} {ta : TA} {p pos : Pos}
def tErr (sp : Sp) (dvs : List V) (C : Addr) (ta : TA) : TE := fun σ H Q => ta σ H fun vs H1 => vs.length ≤ 1000 ∧
  ∀ a, H1 a = none → sp (.ref a :: (vs ++ dvs)) (upd H1 a (exo a C none)) (fun v H2 => v = .non ∧ Q (.ref a) H2) fun _ _ _ => False

/-- C(e, ..), C an own class over ValueError with its own __init__ -/
theorem pe_err {CX : CXT} {x : Str} {C fI : Addr} {k : Nat} {fd : FuncData} {ps : List Str} {sp : Sp} {ds : List Value} {dvs : List V}
    (T : OexC X.K C) (iC : PySem.W.findIn X.K (.ref C) "__init__" = some (some (.ref fI)))
    (tI : PySem.W.typeIn X.K (.ref fI) = some (.type "function"))
    (F1 : FnOk X.prog X.w X.K X.mg X.base CX k fI fd ps sp) (hr : Room (k + 1) X.A) (hb : Binds X.K fd ps ds) (hd : Vals dvs ds)
    (hx : Passes CX X (fun _ _ _ => False)) (hg : Gl X x) (hm : X.mg x = some (.ref C)) (ha : PA X (e :: es) ta)
    (hdb : (x == ("__debug__" : Str)) = false := by decide)
    (he : starEach (e :: es) X.env = (false, eval e X.env) :: starEach es X.env := by rfl)
    (hpl : (backTo pos (starEach es X.env)).any (·.1) = false := by rfl) :
    PE X (.Call (.Name x p) (e :: es) [] pos) (tErr sp dvs C ta) := by
  refine ⟨fun pins s σ H Q I h => ?_⟩
  obtain ⟨nm, q, N, bs, bm, sn, sub, ab, col, dd, k0, k1, k2, k3, k5, hC, hbm⟩ := T.cls
  refine wpAny_Call_Name_kw (ld_glob I hg hm ?_ hdb)
  refine PySem.W.callWith_K (h₀ := X.base) I.ok.mod.kin T.kC (thn (ha.run pos pins s σ H _ I h) fun us s1 ha1 => ?_) he hpl
  obtain ⟨vs, H1, I1, r1, hz, q1⟩ := ha1
  refine ⟨I1.kIn, ?_⟩
  show wpAny _ _ (call (.ref C) us) _ _ _
  obtain ⟨hp, g, dr, tk, os⟩ := s1
  generalize hA : hp.objs.size + 1 = aa at *
  have hle : hp.objs.size ≤ aa := by omega
  have hnew : H1 aa = none := I1.hok.fresh hle
  have want := q1 aa hnew
  have keepAll : ∀ b o, hp.get? b = some o →
      ((hp.push (PySem.W.kdv_tup us)).push (PySem.HandSPX.excO C hp.objs.size)).get? b = some o :=
    fun b o e => Heap.get?_push_of_some _ (Heap.get?_push_of_some _ e)
  have at2 : ((hp.push (PySem.W.kdv_tup us)).push (PySem.HandSPX.excO C hp.objs.size)).get? aa =
      some (PySem.HandSPX.excO C hp.objs.size) := by
    subst hA
    heap_get
  have I2 : Inv X pins σ (upd H1 aa (exo aa C none))
      ⟨(hp.push (PySem.W.kdv_tup us)).push (PySem.HandSPX.excO C hp.objs.size), g, dr, tk, os⟩ :=
    I1.laid (t' := tk) (o := exo aa C none) keepAll hle (exo_ok at2)
  have r2 : Vals (V.ref aa :: (vs ++ dvs)) (Value.ref aa :: (us ++ ds)) := .cons rfl (r1.append hd)
  have hl : (Value.ref aa :: us ++ ds).length = ps.length := by
    have e0 := r2.length
    rw [F1.len _ _ _ _ want] at e0
    exact e0.symm
  have hus : us.length ≤ sizeLine := by
    rw [← Paired.length r1, sizeLine_eq]
    omega
  subst hA
  refine wpAny_call (PySem.HandSPX.call_own F.excBase_ValueError
    (fun Y => PySem.HandSPX.refsVE_contains Y bm hbm) (I1.kIn _ _ hC) (PySem.W.looks_findIn I1.kIn iC)
    (fun self => PySem.W.bind_fn I1.kIn self tI) hus ?_)
  refine codeAny_mono (F1.run _ X.stack _ _ ⟨_ :: us, []⟩ (_ :: (us ++ ds)) _ _ (fun _ _ _ => False)
    (hr.make C us []) (I2.env0.make C us []) (hb _ (_ :: us) I2.kIn hl) r2 want) fun r s' hq' => ?_
  cases r with
  | error er => exact hx pins σ _ _ er s' I2 hq'
  | ok fl =>
    cases fl with
    | ret u =>
      obtain ⟨v, H2, I3, rv, ev, q2⟩ := I2.after hq'
      subst ev
      exact ⟨rv, .ref _, H2, I3, rfl, q2⟩
    | next => exact hq'.elim
    | brk => exact hq'.elim
    | cont => exact hq'.elim
end
end VK
set_option Elab.async false
set_option linter.all false
set_option maxRecDepth 100000
set_option maxHeartbeats 4000000
namespace VK
open PySem PySem.Spec PyProof.Rows L2

/-! ### repr of a list of data; a dict of scalars may stand among its items -/
def keyD : Key → PyData
  | .inl i => .int i
  | .inr x => .str x
/-- scalars as data -/
inductive ScD : V → PyData → Prop where
  | non : ScD .non .none
  | bl (b : Bool) : ScD (.bl b) (.bool b)
  | int (i : Int) : ScD (.int i) (.int i)
  | str (x : Str) : ScD (.str x) (.str x)
inductive ShwV (K : PySem.W.Frag) (H : Hp) : V → PyData → Prop where
  | data {x : V} {d : PyData} (h : Dp K H x d) (n : d.hasDict = false) : ShwV K H x d
  | dct {p : Addr} {kvs : List (Key × V)} {des : List (PyData × PyData)} (e : H p = some (.dK kvs))
      (r : Paired (fun kv de => de.1 = keyD kv.1 ∧ ScD kv.2 de.2) kvs des) : ShwV K H (.ref p) (.dict des)
inductive ShwAll (K : PySem.W.Frag) (H : Hp) : List V → List PyData → Prop where
  | nil : ShwAll K H [] []
  | cons {x : V} {d : PyData} {xs : List V} {ds : List PyData} : ShwV K H x d → ShwAll K H xs ds → ShwAll K H (x :: xs) (d :: ds)
theorem ScD.reads {x : V} {d : PyData} {u : Value} {h : Heap} (k : ScD x d) (r : RelV x u) : Reads h u d [] := by
  cases k with
  | non => cases r; exact .none
  | bl b => cases r; exact .bool b
  | int i => obtain ⟨t, rfl⟩ := r; exact .int i t
  | str x => obtain ⟨t, rfl⟩ := r; exact .str x t
section
variable {X : Cx} {pins : List (Addr × Obj)} {σ : L2.St} {H : Hp} {s : Shared}
theorem dict_reads {h : Heap} : ∀ (kvs : List (Key × V)) (des : List (PyData × PyData)) (vs : List (Key × Value)) (es : List DictEntry),
    Paired (fun kv de => de.1 = keyD kv.1 ∧ ScD kv.2 de.2) kvs des → KV kvs vs → Pairs (mixKind X.prog X.w) es vs →
    ReadsAll h (es.map (·.key)) (des.map (·.1)) [] ∧ ReadsAll h (es.map (·.val)) (des.map (·.2)) []
  | [], des, vs, es, ra, rb, rc => by
    cases ra
    cases rb
    cases rc
    exact ⟨.nil, .nil⟩
  | kv :: kvs, des, vs, es, ra, rb, rc => by
    cases ra with
    | @cons _ de _ des a ra =>
      cases rb with
      | @cons _ kv2 _ vs b rb =>
        cases rc with
        | @cons e _ es _ c1 c2 rc =>
          obtain ⟨a1, a2⟩ := a
          obtain ⟨b1, b2⟩ := b
          obtain ⟨i1, i2⟩ := dict_reads kvs des vs es ra rb rc
          have c3 : keyIs kv2.1 e.key = true := c1
          have k1 : Reads h e.key de.1 [] := by
            rw [a1, b1]
            rcases keyIs_shape c3 with ⟨i, t, e1, e2⟩ | ⟨x, t, e1, e2⟩
            · rw [e2, e1]; exact .int i t
            · rw [e2, e1]; exact .str x t
          have k2 : Reads h e.val de.2 [] := by
            rw [c2]
            exact a2.reads b2
          exact ⟨ReadsAll.cons (as := []) (bs := []) k1 i1, ReadsAll.cons (as := []) (bs := []) k2 i2⟩
theorem ShwV.reads (I : Inv X pins σ H s) {x : V} {d : PyData} {u : Value} (k : ShwV X.K H x d) (r : RelV x u) :
    ∃ as, Reads s.heap u d as ∧ (d.hasDict = true → sysModules ∉ as) := by
  cases k with
  | data h n =>
    obtain ⟨as, q⟩ := Dp.reads I _ _ _ h r
    exact ⟨as, q, fun z => by rw [n] at z; cases z⟩
  | @dct p kvs des e rr =>
    cases r
    have ob : ObjOk X.prog X.w H s.heap p (.dK kvs) := I.hok p _ e
    obtain ⟨_, hs, vs, kv, o, es, ep, ho, ex, hd, _, pr, _⟩ := ob
    obtain ⟨i1, i2⟩ := dict_reads (X := X) (h := s.heap) _ _ _ _ rr kv pr
    refine ⟨[p], Reads.dict (as := []) (bs := []) ho ex.1 hd i1 i2, fun _ hm => ?_⟩
    have e2 : sysModules = p := by simpa using hm
    rw [e2] at hs
    simp at hs
theorem shw_all (I : Inv X pins σ H s) : ∀ {xs : List V} {ds : List PyData} {us : List Value}, ShwAll X.K H xs ds → Vals xs us →
    PyData.showableAll ds = true → (∀ t ∈ PyData.shownAll ds, t.length ≤ sizeLine) →
    (∃ as, ReadsAll s.heap us ds as) ∧ ∃ bs, ReadAtMost s.heap (PyData.depthAll ds) bs ∧
      ReprAllK X.prog X.w bs s.heap (PyData.depthAll ds) us (PyData.shownAll ds)
  | _, _, _, .nil, .nil, _, _ => ⟨⟨_, .nil⟩, [], (fun _ h => by cases h), by simp only [PyData.shownAll]; exact .nil⟩
  | _, _, _, .cons (d := d) (ds := ds) k ks, .cons r rs, hs, hz => by
    have hs2 : d.showable = true ∧ PyData.showableAll ds = true := by simpa [PyData.showableAll] using hs
    obtain ⟨as, q1, q2⟩ := k.reads I r
    have hz1 : d.shown.length ≤ sizeLine := hz _ (by simp only [PyData.shownAll]; exact List.mem_cons_self ..)
    obtain ⟨b1, m1, k1⟩ := ReprK.of_reads (prog := X.prog) (w := X.w) q1 hs2.1 q2 hz1
    obtain ⟨⟨as2, q3⟩, b2, m2, k2⟩ := shw_all I ks rs hs2.2 fun t ht => hz t (by simp only [PyData.shownAll]; exact List.mem_cons_of_mem _ ht)
    refine ⟨⟨_, .cons q1 q3⟩, b1 ++ b2, ?_, ?_⟩
    · have a1 : d.depth ≤ PyData.depthAll (d :: ds) := by simp only [PyData.depthAll]; exact Nat.le_max_left ..
      have a2 : PyData.depthAll ds ≤ PyData.depthAll (d :: ds) := by simp only [PyData.depthAll]; exact Nat.le_max_right ..
      exact (m1.mono a1).append (m2.mono a2)
    · simp only [PyData.depthAll, PyData.shownAll]
      refine .cons ((k1.more fun b hb => List.mem_append_left _ hb).level_le (Nat.le_max_left ..)) ?_
      exact k2.more_le (fun b hb => List.mem_append_right _ hb) (Nat.le_max_right ..)
end
def rShow (K : PySem.W.Frag) : List V → Hp → VK → Prop := fun vs H Q => ∃ (p : Addr) (xs : List V) (ds : List PyData),
  vs = [.ref p] ∧ SqL K H p xs ∧ ShwAll K H xs ds ∧ PyData.showableAll ds = true ∧ (listText (PyData.shownAll ds)).length ≤ sizeLine ∧
    PyData.depthAll ds ≤ 40 ∧ Q (.str (listText (PyData.shownAll ds))) H
theorem call_show {X : Cx} (hg : X.A.guards = some []) (hu : X.A.units + 64 < cLine) : CallR X (.builtin "repr") (rShow X.K) := by
  intro pins s σ H vs us Q I r h
  obtain ⟨p, xs, ds, rfl, hS, hA, sh, hz, hd, q⟩ := h
  obtain ⟨u, rfl, ru⟩ := vals1 r
  cases ru
  obtain ⟨its, rv, ⟨o, n, ho, hc, _, hdat⟩, _⟩ := I.list hS
  obtain ⟨⟨as, ra⟩, bs, mb, hk⟩ := shw_all I hA rv sh fun t ht => Nat.le_trans (listText_mem_le ht) hz
  have hna : p ∉ bs := not_mem_of_deeper (Reads.list ho hc hdat ra) (by simp only [PyData.depth]; omega) mb
  have fin : ∀ (h' : Heap) (u : Tok) (tk : Nat), (∀ b o, s.heap.get? b = some o → h'.get? b = some o) →
      EP X pins σ Q (.str (listText (PyData.shownAll ds)) u) { s with heap := h', toks := tk } :=
    fun h' u tk k => ⟨.str _, H, I.kept k, ⟨u, rfl⟩, q⟩
  refine call_repr_slot (by omega) ⟨o, ho, hc⟩ F.slot_list_repr.toG ?_
  have hg2 : X.A.in1.guards = some [] := hg
  cases rv with
  | nil =>
    cases hA
    simp only [PyData.shownAll, listText_nil] at fin
    exact call_list_repr_empty ⟨o, ho, hc⟩ ho hdat ⟨_, _, rfl, fin s.heap _ _ fun _ _ e => e⟩
  | cons r1 r2 =>
    refine call_list_reprK ho hc hdat hna (by simpa using hk.length_eq) (fun i y e => hk.item i y (by simpa using e)) hg2 (fun b _ => Clear.nil b) ?_ (fun _ _ e => e) (fun h' u tk k => ⟨_, _, rfl, fin h' u tk k⟩) hz
    show X.A.units + 1 + _ < cLine
    omega
end VK
set_option Elab.async false
set_option linter.all false
set_option maxRecDepth 100000
set_option maxHeartbeats 4000000
namespace VK
open PySem PySem.Spec PyProof.Rows L2

/-! ### a held exception's field; isinstance of it -/
/-- at a an exception of the class at C with the fields fs -/
def ErrAt (H : Hp) (a C : Addr) (fs : List (Str × V)) : Prop := ∃ d, H a = some (exo a C (some d)) ∧ H d = some (exd d fs)
theorem ErrAt.same {H H' : Hp} {a C : Addr} {fs : List (Str × V)} (k : ErrAt H a C fs) (s : Same H H') : ErrAt H' a C fs := by
  obtain ⟨d, e1, e2⟩ := k
  exact ⟨d, s _ _ e1, s _ _ e2⟩
theorem ErrAt.inst {X : Cx} {pins : List (Addr × Obj)} {σ : L2.St} {H : Hp} {s : Shared} {a C : Addr} {fs : List (Str × V)}
    (I : Inv X pins σ H s) (k : ErrAt H a C fs) : ∃ (oe od : Obj) (mA : Str → Option Value),
      PySem.W.InstAt s.heap a oe C (some od) ∧ (∀ n, PySem.W.lookIn n od = some (mA n)) ∧ ∀ f, RelO (fs.lookup f) (mA f) := by
  obtain ⟨d, e1, e2⟩ := k
  obtain ⟨t1, ho⟩ := exo_at I.hok e1
  obtain ⟨mA, hns, hr⟩ := exd_at I.hok e2
  obtain ⟨od, hd, hl⟩ := lookIn_ns hns
  exact ⟨_, od, mA, ⟨ho, rfl, rfl, hd⟩, hl, hr⟩
def tErrF (K : PySem.W.Frag) (f : Str) (te : TE) : TE := fun σ H Q => te σ H fun x H1 => ∃ (a C : Addr) (fs : List (Str × V)) (v : V),
  x = .ref a ∧ XfC K C ∧ PySem.W.findIn K (.ref C) f = some none ∧ ErrAt H1 a C fs ∧ fs.lookup f = some v ∧ Q v H1
theorem pe_errF {X : Cx} {e : Expr} {te : TE} {pos : Pos} {f : Str} (he : PE X e te)
    (hb : attributeBase e f X.env (eval e X.env) = eval e X.env := by rfl) : PE X (.Attribute e f pos) (tErrF X.K f te) := by
  refine ⟨fun pins s σ H Q I h => ?_⟩
  refine attr_of hb (thn (he.run pins s σ H _ I h) fun u s1 hh => ?_)
  obtain ⟨x, H1, I1, rx, a, C, fs, v, ex, T, hno, k, l, q⟩ := hh
  subst ex
  obtain rfl : u = Value.ref a := rx
  obtain ⟨oe, od, mA, J, hl, hr⟩ := k.inst I1
  obtain ⟨u, hu, ru⟩ := RelO.some_of (v := v) (o := mA f) (by rw [← l]; exact hr f)
  refine HandSPX.exc_get I1.kIn J T.ga T.gg T.exC ?_ (handed_of ru) ⟨v, H1, I1.tok _, ru, q⟩
  exact PySem.W.findObj_own T.hdC hno rfl (by rw [hl, hu])

/-- what the class must say for isinstance -/
structure ErrI (K : PySem.W.Frag) (C : Addr) : Prop where
  xf : XfC K C
  cl : PySem.W.findIn K (.ref C) "__class__" = some (some (.builtin "object.__class__"))
  sp : PySem.W.specialIn K (.builtin "object.__class__") "__get__" = some (some (.builtin "getset_descriptor.__get__"))
  tk : PySem.W.takesIn K (.builtin "object.__class__") = some true
  ob : PySem.W.mroIn K C (.type "object") = some true
  is : (PySem.W.clsIn K C).isSome = true
def rErrIs (K : PySem.W.Frag) : List V → Hp → VK → Prop := fun vs H Q => ∃ (a C : Addr) (fs : List (Str × V)) (c : V) (cv : Value) (b : Bool),
  vs = [.ref a, c] ∧ ErrI K C ∧ ErrAt H a C fs ∧ ClsV c cv ∧ PySem.W.kitOne K (.ref C) cv = some b ∧ Q (.bl b) H
theorem call_errIs {X : Cx} : CallR X (.builtin "isinstance") (rErrIs X.K) := by
  intro pins s σ H vs us Q I r h
  obtain ⟨a, C, fs, c, cv, b, rfl, T, k, hc, e, q⟩ := h
  obtain ⟨u1, u2, rfl, r1, r2⟩ := vals2 r
  cases r1
  have e2 := hc.eq r2
  subst e2
  obtain ⟨oe, od, mA, J, _, _⟩ := k.inst I
  refine PySem.W.kia_one (PySem.W.kitx_exc (od := some od) T.is T.xf.ga T.xf.gg T.xf.exC T.cl T.sp T.tk T.ob) I.kIn J e (fun z => nomatch z) fun tk => ?_
  exact ⟨.bl b, H, I.tok tk, rfl, q⟩
/-- either rule for a call of a built-in -/
theorem CallR.or {X : Cx} {f : Value} {r r' : List V → Hp → VK → Prop} (h : CallR X f r) (h' : CallR X f r') :
    CallR X f (fun vs H Q => r vs H Q ∨ r' vs H Q) := fun pins s σ H xs us Q I rv q => q.elim (h pins s σ H xs us Q I rv) (h' pins s σ H xs us Q I rv)
end VK
set_option Elab.async false
set_option linter.all false
set_option maxRecDepth 100000
set_option maxHeartbeats 4000000
/-! an own exception made by a call with one keyword -/
namespace VKX
open PySem PySem.HandSPX PySem.Builtin PySem.Builtin.ObjectAttr
section
variable {prog : Program} {w : World} {A : Around} {E : Value → Shared → Prop} {R : Result → Shared → Prop} {h : Heap} {g : Array GenState} {d : Drawn} {t : Nat} {os : OsState}
variable {nm q f : Str} {v : Value} {C N : Addr} {bs bm bmB : List Value} {hdct : Bool} {sn : List Str} {sub : List Value} {ab : Bool} {col : Option Bool} {dd : Option Addr} {k0 k1 k2 k3 k5 : Option Value} {B newId initId : String}
theorem kw_check (F : ExcBaseFacts B newId initId bmB) (hT : ∀ X : String, bm.contains (.type X) = bmB.contains (.type X)) {Q : Unit → Shared → Prop}
    (hC : h.get? C = some (excClassObj nm q C N bs bm hdct sn sub ab col dd k0 k1 k2 k3 k5 newId)) (hq : Q () ⟨h, g, d, t, os⟩) :
    wpAny (model prog w) A (checkBuiltinCall newId ⟨[.ref C], [(f, v)]⟩) Q E ⟨h, g, d, t, os⟩ := by
  have inB : (Value.ref C :: bm).contains (.type B) = true := by
    rw [List.contains_cons, hT, F.hasB]
    exact Bool.or_true _
  have star := F.noStar
  simp only [checkBuiltinCall, F.newKind, F.newSplit, F.newRow]
  repeat (first
    | refine wpAny_loadPart_at hC ?_
    | (refine wpAny_isSubtype_exc hC ?_; rw [inB])
    | refine wpAny_staticBase_exc hC ?_
    | refine wpAny_madeBy_exc hC ?_
    | simp only [bne_self_eq_false, Bool.false_eq_true, if_false]
    | wp_step)
  exact hq
theorem kw_new (F : ExcBaseFacts B newId initId bmB) (hT : ∀ X : String, bm.contains (.type X) = bmB.contains (.type X))
    (hC : h.get? C = some (excClassObj nm q C N bs bm hdct sn sub ab col dd k0 k1 k2 k3 k5 newId))
    (hq : R (.ok (.ret (.ref (h.objs.size + 1)))) ⟨(h.push (W.kdv_tup [])).push (excO C h.objs.size), g, d, t, os⟩) :
    codeAny (model prog w) A (.builtin newId ⟨[.ref C], [(f, v)]⟩) R ⟨h, g, d, t, os⟩ := by
  have ends := F.ends
  have inB : (Value.ref C :: bm).contains (.type B) = true := by
    rw [List.contains_cons, hT, F.hasB]
    exact Bool.or_true _
  have noA : (Value.ref C :: bm).contains (.type "AttributeError") = false := by
    rw [List.contains_cons, hT, F.noAttr]
    exact rfl
  have noN : (Value.ref C :: bm).contains (.type "NameError") = false := by
    rw [List.contains_cons, hT, F.noName]
    exact rfl
  refine codeAny_builtinAt F.entry ?_
  unfold Builtin.«BaseException.__new__»
  refine wpAt_bind ?_
  show wpAt _ _ _ (stack >>= _) _ _ _
  refine wpAt_bind (wpAt_stack fun p below => wpAt_of_wpAny ?_)
  wp_walk
  refine wpAt_of_wpAny ?_
  rw [F.owner]
  repeat (first
    | with_reducible refine wpAny_madeHere_exc F.canon hC ?_
    | with_reducible refine wpAny_loadPart_at hC ?_
    | (with_reducible refine wpAny_isSubtype_exc hC ?_; first | rw [inB] | rw [noA] | rw [noN])
    | wp_step)
  show R _ _
  rw [Heap.size_push]
  exact hq
theorem kw_call {fI : Addr} (F : ExcBaseFacts B newId initId bmB) (hT : ∀ X : String, bm.contains (.type X) = bmB.contains (.type X))
    (hC : h.get? C = some (excClassObj nm q C N bs bm hdct sn sub ab col dd k0 k1 k2 k3 k5 newId))
    (hi : W.Looks (model prog w) h (typeLookup (.ref C) "__init__") (some (.ref fI)))
    (hb : ∀ self, W.Looks (model prog w) h (bindSpecial (.ref fI) self) (.ref fI, [self]))
    (hq : codeAny (model prog w) (A.under (.builtin "type.__call__" ⟨[.ref C], [(f, v)]⟩))
      (.call (.ref fI) ⟨[.ref (h.objs.size + 1)], [(f, v)]⟩) (W.InitBack (h.objs.size + 1) R)
      ⟨(h.push (W.kdv_tup [])).push (excO C h.objs.size), g, d, t, os⟩) :
    codeAny (model prog w) A (.call (.ref C) ⟨[], [(f, v)]⟩) R ⟨h, g, d, t, os⟩ := by
  have f1 := tc_lookup
  have f2 := tc_bind (.ref C)
  have hTy : (⟨h, g, d, t, os⟩ : Shared).TypeIs (.ref C) "type" := ⟨_, hC, rfl⟩
  refine codeAny_of_tree ?_
  show wpAny _ _ (callAny (.ref C) _) _ _ _
  repeat (any_goals (first
    | assumption
    | with_reducible refine wpAny_loadPart_at hC ?_
    | wp_step))
  refine ⟨rfl, ?_⟩
  refine codeAny_call_builtin_at (Code.quiet_builtin _ (by decide +kernel)) entry_typeCall ?_
  refine wpAny_check_type_call_sub hC ?_
  repeat (first
    | with_reducible refine wpAny_loadPart_at hC ?_
    | with_reducible refine wpAny_madeBy_exc hC ?_
    | wp_step)
  refine codeAny_call_builtin_code (Code.quiet_builtin _ F.quiet) (kw_check F hT hC ?_)
  refine kw_new F hT hC ?_
  show wpAny _ _ _ _ _ _
  have k : ∀ b o, h.get? b = some o → ((h.push (W.kdv_tup [])).push (excO C h.objs.size)).get? b = some o :=
    fun b o e => Heap.get?_push_of_some _ (Heap.get?_push_of_some _ e)
  have hC2 := k _ _ hC
  have at2 : ((h.push (W.kdv_tup [])).push (excO C h.objs.size)).get? (h.objs.size + 1) = some (excO C h.objs.size) := by
    heap_get
  have inC : (Value.ref C :: bm).contains (.ref C) = true := by simp
  have i1 := hi.keeps k
  have b1 := (hb (.ref (h.objs.size + 1))).keeps k
  unfold isInstance
  repeat (first
    | with_reducible refine wpAny_loadPart_at at2 ?_
    | (with_reducible refine wpAny_isSubtype_exc hC2 ?_; rw [inC])
    | wp_step)
  show wpAny _ _ (typeLookup (.ref C) _) _ _ _
  refine i1.at ?_
  refine wpAny_holding (wpAny_bind (b1.at ?_))
  refine wpAny_bind (wpAny_call (codeAny_mono hq fun r s' z => ?_))
  rcases r with e | (_ | _ | _ | _)
  all_goals (first | exact z | exact z.elim | skip)
  obtain ⟨rfl, z⟩ := z
  first
    | exact wpAny_pure (wpAny_pure z)
    | (wp_walk; done)
    | (wp_walk; exact z)
end
end VKX
set_option Elab.async false
set_option linter.all false
set_option maxRecDepth 100000
set_option maxHeartbeats 4000000
namespace VK
open PySem PySem.Spec PyProof.Rows L2
section
variable {X : Cx} {e : Expr} {te : TE} {p pos kpos : Pos}
def tErrK (sp : Sp) (C : Addr) (te : TE) : TE := fun σ H Q => tCons te tNil σ H fun vs H1 => ∃ y, vs = [y] ∧
  ∀ a, H1 a = none → sp [.ref a, y] (upd H1 a (exo a C none)) (fun v H2 => v = .non ∧ Q (.ref a) H2) fun _ _ _ => False
/-- C(f = e) -/
theorem pe_errK {CX : CXT} {x f self : Str} {C fI : Addr} {k : Nat} {fd : FuncData} {sp : Sp}
    (T : OexC X.K C) (iC : PySem.W.findIn X.K (.ref C) "__init__" = some (some (.ref fI)))
    (tI : PySem.W.typeIn X.K (.ref fI) = some (.type "function"))
    (F1 : FnOk X.prog X.w X.K X.mg X.base CX k fI fd [self, f] sp) (hr : Room (k + 1) X.A)
    (hb : ∀ (s : Shared) (u v : Value), BindsTo s fd ⟨[u], [(f, v)]⟩ [(self, u), (f, v)])
    (hx : Passes CX X (fun _ _ _ => False)) (hg : Gl X x) (hm : X.mg x = some (.ref C)) (he : PE X e te)
    (hdb : (x == ("__debug__" : Str)) = false := by decide)
    (hall : (backToKw pos (keywordEach [⟨some f, e, kpos⟩] X.env)).all (·.1.isSome) = true := by rfl)
    (hks : (backToKw pos (keywordEach [⟨some f, e, kpos⟩] X.env)).filterMap (·.1) = [f] := by rfl)
    (hpl : ((backTo pos (starEach [] X.env)).any (·.1) || (backToKw pos (keywordEach [⟨some f, e, kpos⟩] X.env)).any (·.1.isNone)) = false := by rfl) :
    PE X (.Call (.Name x p) [] [⟨some f, e, kpos⟩] pos) (tErrK sp C te) := by
  refine ⟨fun pins s σ H Q I h => ?_⟩
  obtain ⟨nm, q, N, bs, bm, sn, sub, ab, col, dd, k0, k1, k2, k3, k5, hC, hbm⟩ := T.cls
  refine wpAny_Call_Name_kw (ld_glob I hg hm ?_ hdb)
  refine PySem.W.callWith_KW0 (h₀ := X.base) I.ok.mod.kin T.kC hall ?_ hpl
  rw [hks]
  refine thn ((pk_cons he pk_nil).run pos pins s σ H _ I h) fun us s1 ha1 => ?_
  obtain ⟨vs, H1, I1, r1, y, ey, q1⟩ := ha1
  subst ey
  obtain ⟨u, rfl, ru⟩ := vals1 r1
  refine ⟨I1.kIn, ?_⟩
  show wpAny _ _ (call (.ref C) [] [(f, u)]) _ _ _
  obtain ⟨hp, g, dr, tk, os⟩ := s1
  generalize hA : hp.objs.size + 1 = aa at *
  have hle : hp.objs.size ≤ aa := by omega
  have hnew : H1 aa = none := I1.hok.fresh hle
  have want := q1 aa hnew
  have keepAll : ∀ b o, hp.get? b = some o →
      ((hp.push (PySem.W.kdv_tup [])).push (PySem.HandSPX.excO C hp.objs.size)).get? b = some o :=
    fun b o e => Heap.get?_push_of_some _ (Heap.get?_push_of_some _ e)
  have at2 : ((hp.push (PySem.W.kdv_tup [])).push (PySem.HandSPX.excO C hp.objs.size)).get? aa =
      some (PySem.HandSPX.excO C hp.objs.size) := by
    subst hA
    heap_get
  have I2 : Inv X pins σ (upd H1 aa (exo aa C none))
      ⟨(hp.push (PySem.W.kdv_tup [])).push (PySem.HandSPX.excO C hp.objs.size), g, dr, tk, os⟩ :=
    I1.laid (t' := tk) (o := exo aa C none) keepAll hle (exo_ok at2)
  have r2 : Vals [V.ref aa, y] [Value.ref aa, u] := .cons rfl (.cons ru .nil)
  subst hA
  refine wpAny_call (VKX.kw_call F.excBase_ValueError
    (fun Y => PySem.HandSPX.refsVE_contains Y bm hbm) (I1.kIn _ _ hC) (PySem.W.looks_findIn I1.kIn iC)
    (fun self => PySem.W.bind_fn I1.kIn self tI) ?_)
  refine codeAny_mono (F1.run _ X.stack _ _ ⟨[_], [(f, u)]⟩ [_, u] _ _ (fun _ _ _ => False)
    (hr.make C [] [(f, u)]) (I2.env0.make C [] [(f, u)]) (hb _ _ u) r2 want) fun r s' hq' => ?_
  cases r with
  | error er => exact hx pins σ _ _ er s' I2 hq'
  | ok fl =>
    cases fl with
    | ret u =>
      obtain ⟨v, H2, I3, rv, ev, q2⟩ := I2.after hq'
      subst ev
      exact ⟨rv, .ref _, H2, I3, rfl, q2⟩
    | next => exact hq'.elim
    | brk => exact hq'.elim
    | cont => exact hq'.elim
end
end VK
set_option Elab.async false
set_option linter.all false
set_option maxRecDepth 100000
set_option maxHeartbeats 4000000
/-! a def that is run at the caller's own place alone: there no repr runs (the guards are known) -/
namespace VK
open PySem PySem.Spec PyProof.Rows L2
/-- a def's run at one place -/
def RunAt (P : Program) (w : World) (K : PySem.W.Frag) (mg : Str → Option Value) (base : Heap) (A : Around) (f : Addr) (fd : FuncData) (ps : List Str) (sp : Sp) : Prop :=
  ∀ (outer : List Env) (s : Shared) (H : Hp) (args : Args) (us : List Value) (vs : List V) (Q : VK) (E : XK), Env0 P w K mg base A outer s H → BindsTo s fd args (ps.zip us) → Vals vs us → sp vs H Q E →
    codeAny (model P w) A (.call (.ref f) args) (CR CX0 outer P w H s Q E) s
section
variable {P : Program} {w : World} {K : PySem.W.Frag} {mg : Str → Option Value} {base : Heap}
theorem runAt_of {x qual : Str} {st : Stmt} {f : Addr} {fd : FuncData} {N ps : List Str} {k : Nat} {sp : Sp} {A : Around}
    (F : Fun K x qual st f fd) (S : FnScope N ps (defScope st)) (len : ∀ vs H Q E, sp vs H Q E → vs.length = ps.length) (hr : Room (k + 1) A)
    (hbody : ∀ (cdv : Value) (outer : List Env) (s : Shared) (H : Hp) (vs : List V) (Q : VK) (E : XK), Room k (A.deeper (envOfC qual (defScope st) s.heap.objs.size f cdv)) → sp vs H Q E →
      ∃ t, PSs (cxOf CX0 P w K mg base N qual (defScope st) f cdv A outer s H E).nox (defBody st) t ∧ t { nx := fun _ H' => Q .non H', rt := Q } (start N vs) H) :
    RunAt P w K mg base A f fd ps sp := by
  obtain ⟨oc, od, kV, doc, pm, an, cdv, ct, osl, rfl, lk, hcd⟩ := F.ex
  intro outer s H args us vs Q E e0 hb r hsp
  have hl := len _ _ _ _ hsp
  have stay : ∀ b o, base.get? b = some o → s.heap.get? b = some o := fun b o e => (e0.bs b o e).1
  have KX : K.In s.heap := e0.mod.kin.keeps stay
  have lim : s.heap.NoLimit := e0.mod.nolimit.keeps stay
  have places : ∀ y ∈ ps.zip us, (defScope st).names.lookup y.1 = some .local ∨
      ((defScope st).names.lookup y.1 = some .cell ∧ ((cellsFrom (s.heap.objs.size + 1) (defScope st).names []).lookup y.1).isSome = true) := by
    rintro ⟨n, v⟩ hy
    rcases S.par n (List.of_mem_zip hy).1 with q | q
    · exact .inl q
    · exact .inr ⟨q, PySem.W.cellsFrom_some _ _ _ (.inl q)⟩
  refine codeAny_call_function hr.depth (KX _ _ lk) rfl S.co S.gen rfl (PySem.W.codeRec_of KX hcd) (hb _ _ _ _ ?_)
  refine wpAny_newFunctionEnv_cells S.kind places fun env he s1 x => ?_
  subst he
  refine ⟨lim.keeps x.toInCall.keep, codeAny_func ?_⟩
  obtain ⟨t, ht, hq⟩ := hbody cdv outer s H vs Q E (hr.deeper _) hsp
  have I : Inv (cxOf CX0 P w K mg base N qual (defScope st) f cdv A outer s H E) [] (start N vs) H s1 := inv_start S hr.hd e0 hl r x
  refine wpAny_mono (ht.nox.run [] s1 (start N vs) H _ I hq) (fun fl s' hs => ?_) fun e s' hs => hs
  cases fl with
  | ret u =>
    obtain ⟨v, σ', H', J, rv, q⟩ := hs
    exact ⟨v, H', J.os, J.bare, J.base, J.hok, rv, q⟩
  | next =>
    obtain ⟨σ', H', J, q⟩ := hs
    exact ⟨.non, H', J.os, J.bare, J.base, J.hok, rfl, q⟩
  | brk =>
    obtain ⟨_, _, _, q⟩ := hs
    exact q.elim
  | cont =>
    obtain ⟨_, _, _, q⟩ := hs
    exact q.elim
/-- the law's call -/
theorem law_at {mb : Str → Option Value} {fa a : Addr} {fd : FuncData} {x : Str} {sp : Sp} {s₁ : Shared} {vs : List Value} {ns : List Int}
    (KX : K.In s₁.heap) (hns : s₁.heap.Ns mainGlobals mg) (hb : s₁.heap.Ns builtinsNs mb) (hbb : ∀ x : Str, x ≠ "__name__" → mb x = bootBuiltins x) (hlim : s₁.heap.NoLimit) (hg : s₁.gens = #[])
    (ha : s₁.heap.get? a = some { cls := .type "list", data := .seq vs.toArray }) (hi : IntsAre vs ns) (hl : ns.length ≤ sizeLine)
    (F : ∀ base : Heap, K.In base → base.Ns mainGlobals mg → RunAt P w K mg base callerA fa fd [x] sp) (hbind : ∀ (s : Shared) (u : Value), BindsTo s fd ⟨[u], []⟩ [(x, u)])
    (hsp : ∀ H : Hp, Only H → SqL K H a (ns.map V.int) → sp [.ref a] H (fun v _ => v = .bl true) fun _ _ _ => False) :
    codeAny (model P w) callerA (.call (.ref fa) ⟨[.ref a], []⟩) (fun r s' => r = .ok (.ret (.bool true)) ∧ OldK s₁.heap s'.heap ∧ s'.os = s₁.os ∧ AllBare s'.gens) s₁ := by
  have rv := vals_ints hi
  have same := hi.length
  have core : ∀ H : Hp, Only H → SqL K H a (ns.map V.int) → HOk P w H s₁.heap → (∀ b, H b ≠ none → b = a) → (H a ≠ none → K.lookup a = none) →
      codeAny (model P w) callerA (.call (.ref fa) ⟨[.ref a], []⟩) (fun r s' => r = .ok (.ret (.bool true)) ∧ OldK s₁.heap s'.heap ∧ s'.os = s₁.os ∧ AllBare s'.gens) s₁ := by
    intro H only seq hok alone own
    have isDict : ∀ {b : Addr} {o : Obj} {es : Array DictEntry} {ep : Nat}, s₁.heap.get? b = some o → o.data = .dict es ep → H b = none := by
      intro b o es ep e d
      cases q : H b with
      | none => rfl
      | some u =>
        have e2 : b = a := alone b (by rw [q]; exact fun z => nomatch z)
        subst e2
        rw [ha] at e
        cases e
        cases (show Data.seq vs.toArray _ = Data.dict es ep from d)
    have nsK : ∀ {b : Addr} {m : Str → Option Value}, s₁.heap.Ns b m → (hidT s₁.heap H).Ns b m := by
      rintro b m ⟨o, es, ep, e, d, r⟩
      exact ⟨o, es, ep, hidT_get e (isDict e d), d, r⟩
    have kin : K.In (hidT s₁.heap H) := by
      intro b o e
      refine hidT_get (KX b o e) ?_
      cases q : H b with
      | none => rfl
      | some u =>
        have some2 : H b ≠ none := by rw [q]; exact fun z => nomatch z
        have e2 : b = a := alone b some2
        subst e2
        rw [own some2] at e
        cases e
    obtain ⟨mc, l1, l2⟩ := hlim
    have hM : Mod K mg (hidT s₁.heap H) := ⟨kin, nsK hns, ⟨mb, nsK hb, hbb⟩, mc, nsK l1, l2⟩
    have noEnv : frs ([] : List Env) = [] := rfl
    have e0 : Env0 P w K mg (hidT s₁.heap H) callerA [] s₁ H :=
      ⟨rfl, hM, fun b o e => of_hidT e, Nat.le_of_eq (hidT_size _ _), trivial, fun b hb => (by rw [noEnv] at hb; cases hb), hok, .of_eq hg⟩
    refine codeAny_mono (F _ kin (nsK hns) [] s₁ H ⟨[.ref a], []⟩ [.ref a] [.ref a] _ _ e0 (hbind s₁ (.ref a)) (.cons rfl .nil) (hsp H only seq)) fun r s' h => ?_
    cases r with
    | error e => exact False.elim h
    | ok fl =>
      cases fl with
      | next => exact False.elim h
      | brk => exact False.elim h
      | cont => exact False.elim h
      | ret u =>
        obtain ⟨v, H', os, bare, un, hok2, r2, q⟩ := h
        have q2 : v = .bl true := q
        subst q2
        obtain rfl : u = Value.bool true := r2
        refine ⟨rfl, OldK.of_keep fun b o e => ?_, os, bare⟩
        cases q : H b with
        | none => exact un.keep b o e q (by rw [noEnv]; exact fun z => nomatch z) (fun z => nomatch z)
        | some u =>
          rcases only b with z | ⟨ob, xs, z⟩
          · rw [q] at z
            cases z
          · obtain ⟨e1, _⟩ := hok b _ z
            obtain ⟨e2, _⟩ := hok2 b _ (un.frzs b ob _ z)
            rw [e] at e1
            cases e1
            exact e2
  cases hk : K.lookup a with
  | some o =>
    have e := KX a o hk
    rw [ha] at e
    cases e
    refine core (fun _ => none) (fun _ => .inl rfl) (.inr ⟨_, vs.toArray, _, hk, rfl, rfl, rfl, ?_, ?_⟩) (fun b u z => ?_) (fun b z => absurd rfl z) fun z => absurd rfl z
    · rw [List.size_toArray, same]
      exact hl
    · simpa using rv
    · cases (show (none : Option HO) = some u from z)
  | none =>
    refine core (fun b => if b = a then some (.frz { cls := .type "list", data := .seq vs.toArray } (.lst (ns.map V.int))) else none) (fun b => ?_) (.inl (.inr ⟨_, if_pos rfl⟩)) (fun b u z => ?_) (fun b z => ?_) fun _ => hk
    · by_cases hb : b = a
      · exact .inr ⟨_, _, if_pos hb⟩
      · exact .inl (if_neg hb)
    · by_cases hb : b = a
      · cases ((if_pos hb).symm.trans z)
        subst hb
        exact ⟨ha, by rw [List.length_map]; exact hl, vs, _, rv, ha⟩
      · cases ((if_neg hb).symm.trans z)
    · by_cases hb : b = a
      · exact hb
      · exact absurd (if_neg hb) z
end
/-- the goal that the head leaves, with the script's bits -/
theorem walk_at {l : PySem.W.OpenLaw} {n : Nat} {q : Program} {loose : List Str} {XP : (Str → Option Value) → Heap → Prop} {YP : World → Heap → Prop} {d : DefRec} {K : Params → PySem.W.Frag} {sp : World → Sp} {x : Str}
    (hn : l.most = some n) (hn2 : n ≤ sizeLine) (hdf : d.params.defaults = [])
    (hY : ∀ (w : World) (h : Heap), YP w h → (K w.params).In h)
    (F : ∀ (w : World) (mg : Str → Option Value) (fa : Addr) (h : Heap), (K w.params).In h → h.Ns mainGlobals mg → mg d.name = some (.ref fa) →
      ∃ fd : FuncData, (∀ (s : Shared) (u : Value), BindsTo s fd ⟨[u], []⟩ [(x, u)]) ∧
        ∀ base : Heap, (K w.params).In base → base.Ns mainGlobals mg → RunAt l.prog w (K w.params) mg base callerA fa fd [x] (sp w))
    (hsp : ∀ (w : World) (H : Hp) (a : Addr) (ns : List Int), ns.length ≤ n → (∀ z ∈ ns, Builtin.Int.intBits z ≤ 1048576) → Only H → SqL (K w.params) H a (ns.map V.int) → sp w [.ref a] H (fun v _ => v = .bl true) fun _ _ _ => False) :
    PySem.W.WalkO q loose XP YP l.row.toRowW d [] (fun f vs => PySem.call f vs) := by
  refine Att.attach_callB hn hdf fun w s₀ s₁ mg mb fa o pm cd doc a vs ns G Y ho hd hcd hmg hobj hints hlen hbits hg => ?_
  have KX := hY w _ Y
  obtain ⟨fd, hb, hF⟩ := F w mg fa _ KX G.T.g hmg
  exact law_at KX G.T.g G.T.b G.T.builtins G.T.nolimit hg hobj hints (Nat.le_trans hlen hn2) hF hb fun H hO hS => hsp w H a ns hlen hbits hO hS
end VK
set_option Elab.async false
set_option linter.all false
set_option maxRecDepth 100000
set_option maxHeartbeats 4000000
namespace K91
open PySem L2 VK
abbrev Fg := PySem.W.Frag
def top (i : Nat) : Stmt := PySem.Challenge.pw_pulledonce_k91_errors_by_hand.main.body.getD i (.Pass ⟨0, 0, 0, 0⟩)
abbrev sSource : Stmt := top 12
abbrev sDraw : Stmt := top 13
abbrev sPick : Stmt := top 14

/-! ### the stream of draws: a list of two ints at p -/
def Strm (H : Hp) (p : Addr) : Prop := ∃ r m : Int, H p = some (.lst [.int r, .int m]) ∧ 0 ≤ m ∧ m ≤ 2147483647
def But (p : Addr) (H H' : Hp) : Prop := ∀ b, b ≠ p → H' b = H b
theorem But.upd {p : Addr} {H : Hp} {o : HO} : But p H (upd H p o) := fun b hb => upd_ne hb
theorem But.seq {K : Fg} {p : Addr} {H H' : Hp} (k : But p H H') {a : Addr} {xs : List V} (hne : a ≠ p) (h : SqL K H a xs) : SqL K H' a xs := by
  rcases h with (h | ⟨o, h⟩) | h
  · exact .inl (.inl ((k a hne).trans h))
  · exact .inl (.inr ⟨o, (k a hne).trans h⟩)
  · exact .inr h
/-- names of the built-ins that the law's defs call -/
structure Nm (mg : Str → Option Value) : Prop where
  len : mg "len" = none
  int : mg "int" = none
  max : mg "max" = none
  min : mg "min" = none
  range : mg "range" = none
  isi : mg "isinstance" = none
  repr : mg "repr" = none
  lst : mg "list" = none
  dct : mg "dict" = none
  enm : mg "enumerate" = none
  vle : mg "ValueError" = none
def spDraw : Sp := fun vs H Q _ => ∃ (p : Addr) (n : Int), vs = [.ref p, .int n] ∧ Strm H p ∧ 0 < n ∧ n < 1000000 ∧
  ∀ (d : Int) (H' : Hp), 0 ≤ d → d < n → Strm H' p → But p H H' → Q (.int d) H'
theorem scDraw : FnScope ["stream", "span", "found"] ["stream", "span"] (defScope sDraw) := ⟨rfl, rfl, rfl, by decide +kernel, rfl, by decide +kernel, by decide +kernel⟩
section
variable {P : Program} {w : World} {K : Fg} {mg : Str → Option Value} {base : Heap}
theorem ok_draw {f : Addr} {fd : FuncData} (F : Fun K "_law_draw" "_law_draw" sDraw f fd) (N : Nm mg) : FnOk P w K mg base CX0 1 f fd ["stream", "span"] spDraw := by
  refine F.ok scDraw (fun vs H Q E h => ?_) (fun cdv A outer s H vs Q E hr h => ?_)
  · obtain ⟨p, n, rfl, _⟩ := h
    rfl
  · obtain ⟨p, n, rfl, ⟨r, m, hp, m0, m1⟩, n0, n1, k⟩ := h
    refine ⟨_, pss_cons (ps_if (pt_cmpR op_ge (pe_ix ix_list (pv 0) pe_int (fun _ _ => rfl)) (pv 1) (nomark _))
        (pss_cons (ps_set (i := 2) scDraw.nd rfl (Or.inl rfl) (pe_op op_mod (pe_callTy call_int1 (by rfl) N.int PyProof.Rows.boot_int (pa_cons (pe_ix ix_list (pv 0) pe_int (fun _ _ => rfl)) pa_nil)) (pv 1)))
        (pss_cons (ps_asg (pe_op op_fdiv (pe_ix ix_list (pv 0) pe_int (fun _ _ => rfl)) (pv 1)) (pg_sub (pv 0) pe_int set_list))
        (pss_one (ps_ret (pv 2))))) pss_nil)
      (pss_cons (ps_asg (pe_op op_mod (pe_callTy call_int1 (by rfl) N.int PyProof.Rows.boot_int
          (pa_cons (pe_op op_add (pe_op op_mul (pe_ix ix_list (pv 0) pe_int (fun _ _ => rfl)) pe_int) pe_int) pa_nil)) pe_int) (pg_sub (pv 0) pe_int set_list))
      (pss_one (ps_ret (pe_op op_mod (pe_callTy call_int1 (by rfl) N.int PyProof.Rows.boot_int
        (pa_cons (pe_op op_fdiv (pe_op op_mod (pe_callTy call_int1 (by rfl) N.int PyProof.Rows.boot_int
          (pa_cons (pe_op op_pow (pe_callTy call_int1 (by rfl) N.int PyProof.Rows.boot_int (pa_cons (pe_ix ix_list (pv 0) pe_int (fun _ _ => rfl)) pa_nil)) pe_int) pa_nil)) pe_int) pe_int) pa_nil)) (pv 1))))), ?_⟩
    refine ⟨_, rfl, p, _, 0, _, rfl, rfl, SqL.of hp, rfl, _, rfl, _, _, rfl, rfl, _, rfl, ?_⟩
    refine ite2 (fun _ => ?_) (fun _ => ?_)
    · refine ⟨_, rfl, p, _, 0, _, rfl, rfl, SqL.of hp, rfl, .inl ⟨_, rfl, _, rfl, _, _, rfl, rfl, n0, ?_⟩⟩
      refine ⟨_, rfl, p, _, 0, _, rfl, rfl, SqL.of hp, rfl, _, rfl, _, _, rfl, rfl, ⟨n0, by omega⟩, ?_⟩
      refine ⟨_, rfl, p, _, 0, 0, rfl, rfl, hp, rfl, _, rfl, ?_⟩
      exact k _ _ (Int.emod_nonneg _ (by omega)) (Int.emod_lt_of_pos _ n0) ⟨_, m, upd_same, m0, m1⟩ But.upd
    · refine ⟨_, rfl, p, _, 1, _, rfl, rfl, SqL.of hp, rfl, _, _, rfl, rfl, .inl ⟨by omega, by omega⟩, _, _, rfl, rfl, .inl ⟨_, rfl, _, _, rfl, rfl, by show (0 : Int) < 2147483647; decide, ?_⟩⟩
      refine ⟨_, rfl, p, _, 1, 1, rfl, rfl, hp, rfl, ?_⟩
      have b0 : 0 ≤ (m * 69621 + 3571) % 2147483647 := Int.emod_nonneg _ (by decide)
      have b1 : (m * 69621 + 3571) % 2147483647 < 2147483647 := Int.emod_lt_of_pos _ (by decide)
      refine ⟨_, rfl, p, _, 1, _, rfl, rfl, SqL.of upd_same, rfl, .inl ⟨_, rfl, _, _, rfl, rfl, ⟨by decide, by decide, by omega⟩, .inl ⟨_, rfl, _, _, rfl, rfl, (by show (0 : Int) < 1000000007; decide), _, _, rfl, rfl, ⟨by decide, by decide⟩, .inl ⟨_, rfl, _, rfl, _, _, rfl, rfl, n0, ?_⟩⟩⟩⟩
      exact k _ _ (Int.emod_nonneg _ (by omega)) (Int.emod_lt_of_pos _ n0) ⟨r, _, upd_same, b0, by show (m * 69621 + 3571) % 2147483647 ≤ 2147483647; omega⟩ But.upd
end
end K91
set_option Elab.async false
set_option linter.all false
set_option maxRecDepth 100000
set_option maxHeartbeats 4000000
set_option exponentiation.threshold 300
namespace K91
open PySem L2 VK
def spPick (K : Fg) : Sp := fun vs H Q _ => ∃ (p q : Addr) (xs : List V), vs = [.ref p, .ref q] ∧ Strm H p ∧ SqL K H q xs ∧ q ≠ p ∧ xs ≠ [] ∧ xs.length < 1000 ∧
  ∀ (x : V) (H' : Hp), x ∈ xs → Strm H' p → But p H H' → Q x H'
theorem scPick : FnScope ["stream", "things"] ["stream", "things"] (defScope sPick) := ⟨rfl, rfl, rfl, by decide +kernel, rfl, by decide +kernel, by decide +kernel⟩
theorem scSource : FnScope ["script", "start", "mixed", "cell", "rest"] ["script", "start"] (defScope sSource) := ⟨rfl, rfl, rfl, by decide +kernel, rfl, by decide +kernel, by decide +kernel⟩
/-- a place that is drawn lies in the list -/
theorem at_drawn {xs : List V} {d : Int} (h0 : 0 ≤ d) (h1 : d < xs.length) : ∃ v, atI xs d = some v ∧ v ∈ xs := by
  have hl : d.toNat < xs.length := by omega
  refine ⟨xs[d.toNat], ?_, List.getElem_mem hl⟩
  have e : d = (d.toNat : Int) := by omega
  exact at_of e (List.getElem?_eq_getElem hl)
/-- the script's ints: at most so many bits each -/
def Bits (ns : List Int) : Prop := ∀ z ∈ ns, Builtin.Int.intBits z ≤ 1048576
def spSource (K : Fg) : Sp := fun vs H Q _ => ∃ (a : Addr) (ns : List Int) (st : Int), vs = [.ref a, .int st] ∧ SqL K H a (ns.map V.int) ∧ ns.length ≤ 63 ∧ Bits ns ∧ 0 ≤ st ∧ st ≤ 100 ∧
  ∀ (p : Addr) (H' : Hp), H p = none → Strm H' p → But p H H' → Q (.ref p) H'
theorem log2_le {x : Int} {n : Nat} (h : x.natAbs < 2 ^ n) (h0 : 0 < n) : Builtin.Int.intBits x ≤ n := by
  have h1 := PySem.Flt.log2_lt_of h0 h
  unfold Builtin.Int.intBits
  split <;> omega
theorem abs_lt {x : Int} {n : Nat} (h : Builtin.Int.intBits x ≤ n) : x.natAbs < 2 ^ n := by
  unfold Builtin.Int.intBits at h
  split at h
  · rename_i e
    have e' : x = 0 := by simpa using e
    rw [e']
    exact Nat.two_pow_pos n
  · rename_i e
    have e' : x ≠ 0 := by simpa using e
    have h2 : x.natAbs ≠ 0 := by omega
    exact (Nat.log2_lt h2).mp (by omega)
theorem pow_le {n : Nat} (h : 50 ≤ n) : (1125899906842624 : Nat) ≤ 2 ^ n := by
  have e : (1125899906842624 : Nat) = 2 ^ 50 := by decide
  rw [e]
  exact Nat.pow_le_pow_right (by decide) h
/-- what is cubed has few enough bits -/
theorem cubed_ok {m z : Int} (h0 : 0 ≤ m) (h1 : m ≤ 2147483647) (hz : Builtin.Int.intBits z ≤ 1048576) : PowOk (m * 40009 + z) 3 := by
  refine ⟨by decide, ?_⟩
  have a := abs_lt hz
  have b := pow_le (n := 1048576) (by decide)
  have c : (m * 40009 + z).natAbs < 2 ^ 1048576 + 2 ^ 1048576 := by
    generalize (2 : Nat) ^ 1048576 = W at a b ⊢
    omega
  have e : (2 : Nat) ^ 1048577 = 2 ^ 1048576 + 2 ^ 1048576 := by rw [Nat.pow_succ]; exact Nat.mul_two _
  have d : Builtin.Int.intBits (m * 40009 + z) ≤ 1048577 := log2_le (by rw [e]; exact c) (by decide)
  omega
section
variable {P : Program} {w : World} {K : Fg} {mg : Str → Option Value} {base : Heap}
theorem ok_pick {f fD : Addr} {fd fdD : FuncData} (F : Fun K "_law_pick" "_law_pick" sPick f fd) (N : Nm mg) (gD : mg "_law_draw" = some (.ref fD))
    (FD : Fun K "_law_draw" "_law_draw" sDraw fD fdD) (bD : Binds K fdD ["stream", "span"] []) : FnOk P w K mg base CX0 2 f fd ["stream", "things"] (spPick K) := by
  have GD : FnOk P w K mg base CX0 1 fD fdD ["stream", "span"] spDraw := ok_draw FD N
  refine F.ok scPick (fun vs H Q E h => ?_) (fun cdv A outer s H vs Q E hr h => ?_)
  · obtain ⟨p, q, xs, rfl, _⟩ := h
    rfl
  · obtain ⟨p, q, xs, rfl, hp, hq, hne, hx, hl, k⟩ := h
    refine ⟨_, pss_one (ps_ret (pe_ix ix_list (pv 1) (pe_call GD hr rfl gD FD.kp bD .nil pass0 (pa_cons (pv 0) (pa_cons (pe_callB call_len_seq (by rfl) N.len PySem.boot_len (pa_cons (pv 1) pa_nil)) pa_nil))) (fun _ _ => rfl))), ?_⟩
    refine ⟨_, rfl, _, rfl, _, rfl, q, xs, rfl, .inl hq, p, _, rfl, hp, ?_, ?_, fun d H' d0 d1 hs hb => ?_⟩
    · have := List.length_pos_iff.mpr hx
      omega
    · omega
    · obtain ⟨v, e1, e2⟩ := at_drawn (xs := xs) d0 d1
      exact ⟨q, xs, d, v, rfl, rfl, hb.seq hne hq, e1, k v H' e2 hs hb⟩
theorem ok_source {f : Addr} {fd : FuncData} (F : Fun K "_law_source" "_law_source" sSource f fd) (N : Nm mg) : FnOk P w K mg base CX0 1 f fd ["script", "start"] (spSource K) := by
  refine F.ok scSource (fun vs H Q E h => ?_) (fun cdv A outer s H vs Q E hr h => ?_)
  · obtain ⟨a, ns, st, rfl, _⟩ := h
    rfl
  · obtain ⟨a, ns, st, rfl, hS, hl, hB, s0, s1, k⟩ := h
    refine ⟨_, pss_cons (ps_set (i := 2) scSource.nd rfl (Or.inl rfl) (pe_op op_add pe_int (pv 1)))
      (pss_cons (ps_for PassesOwn.never rfl (pi_list (pv 0)) (pg_name (i := 3) scSource.nd rfl (Or.inl rfl))
        (pss_one (ps_set (i := 2) scSource.nd rfl (Or.inl rfl) (pe_op op_add (pe_op op_mod (pe_callTy call_int1 (by rfl) N.int PyProof.Rows.boot_int
          (pa_cons (pe_op op_powB (pe_callTy call_int1 (by rfl) N.int PyProof.Rows.boot_int
            (pa_cons (pe_op op_add (pe_op op_mul (pv 2) pe_int) (pe_callTy call_int1 (by rfl) N.int PyProof.Rows.boot_int (pa_cons (pv 3) pa_nil))) pa_nil)) pe_int) pa_nil)) pe_int) pe_int))))
      (pss_cons (ps_set (i := 4) scSource.nd rfl (Or.inl rfl) pe_int)
      (pss_cons (ps_if (PW.pt (pw_and (pt_cmpR op_lt (pv 1) (pe_callB call_len_seq (by rfl) N.len PySem.boot_len (pa_cons (pv 0) pa_nil)) (nomark _))
          (pw_and1 (pt_cmpR op_ge (pe_ix ix_list (pv 0) (pv 1) (fun _ _ => rfl)) (pe_op op_pow pe_int pe_int) (nomark _)))))
        (pss_one (ps_set (i := 4) scSource.nd rfl (Or.inl rfl) (pe_op op_sub (pe_ix ix_list (pv 0) (pv 1) (fun _ _ => rfl)) (pe_op op_pow pe_int pe_int)))) pss_nil)
      (pss_one (ps_ret (pe_lst (pa_cons (pv 4) (pa_cons (pv 2) pa_nil)))))))), ?_⟩
    have ret : ∀ (m r : Int), 0 ≤ m → m ≤ 2147483647 → ∀ x : Addr, H x = none → Q (.ref x) (upd H x (.lst [.int r, .int m])) :=
      fun m r m0 m1 x hx => k x _ hx ⟨r, m, upd_same, m0, m1⟩ But.upd
    refine ⟨_, rfl, _, _, rfl, rfl, _, rfl, a, rfl, ⟨_, hS⟩, for_list (K := K) (a := a) (xs := ns.map V.int)
      (fun i σ H' => H' = H ∧ ∃ (v : Option V) (m : Int), σ = [some (.ref a), some (.int st), some (.int m), v, none] ∧ 0 ≤ m ∧ m ≤ 2147483647)
      ⟨rfl, none, _, rfl, by show 0 ≤ 59 + st; omega, by show 59 + st ≤ 2147483647; omega⟩ (fun i σ H' _ q => by rw [q.1]; exact hS) ?_ ?_⟩
    · rintro i y σ H' hi ⟨rfl, v, m, rfl, m0, m1⟩
      obtain ⟨z, hz, rfl⟩ : ∃ z, z ∈ ns ∧ y = V.int z := by
        rw [List.getElem?_map] at hi
        cases e : ns[i]? with
        | none =>
          rw [e] at hi
          cases hi
        | some z =>
          rw [e] at hi
          exact ⟨z, List.mem_of_getElem? e, (Option.some.inj hi).symm⟩
      refine ⟨_, rfl, _, _, rfl, rfl, .inl ⟨by omega, by omega⟩, _, rfl, .inl ⟨_, rfl, _, _, rfl, rfl, .inl ⟨_, rfl, _, _, rfl, rfl, cubed_ok m0 m1 (hB z hz), .inl ⟨_, rfl, _, _, rfl, rfl, (by show (0 : Int) < 2147483563; decide), _, _, rfl, rfl, ?_⟩⟩⟩⟩
      have b0 := Int.emod_nonneg ((m * 40009 + z) ^ (3 : Int).toNat) (show (2147483563 : Int) ≠ 0 by decide)
      have b1 := Int.emod_lt_of_pos ((m * 40009 + z) ^ (3 : Int).toNat) (show (0 : Int) < 2147483563 by decide)
      generalize hw : (m * 40009 + z) ^ (3 : Int).toNat % 2147483563 = u at b0 b1
      refine ⟨rfl, some (.int z), u + 1, rfl, by omega, by omega⟩
    · rintro σ H' ⟨rfl, v, m, rfl, m0, m1⟩
      refine ⟨_, rfl, _, rfl, a, _, rfl, .inl hS, _, _, rfl, rfl, _, rfl, ?_⟩
      refine ite2 (fun c => ?_) (fun c => ?_)
      · have c1 : st < (ns.map V.int).length := of_decide_eq_true c
        rw [List.length_map] at c1
        obtain ⟨z, hz⟩ : ∃ z, ns[st.toNat]? = some z := ⟨_, List.getElem?_eq_getElem (by omega)⟩
        have hat : atI (ns.map V.int) st = some (.int z) := at_of (j := st.toNat) (by omega) (by rw [List.getElem?_map, hz]; rfl)
        refine ⟨_, rfl, _, rfl, a, _, _, _, rfl, rfl, hS, hat, _, _, rfl, rfl, ⟨by decide, by decide, by decide⟩, _, _, rfl, rfl, _, rfl, ?_⟩
        refine ite2 (fun _ => ?_) (fun _ => ?_)
        · refine ⟨_, rfl, _, rfl, a, _, _, _, rfl, rfl, hS, hat, _, _, rfl, rfl, ⟨by decide, by decide, by decide⟩, _, _, rfl, rfl, ?_⟩
          exact ⟨_, rfl, _, rfl, by show 2 ≤ sizeLine; decide, fun x hx => ret _ _ m0 m1 x hx⟩
        · exact ⟨_, rfl, _, rfl, by show 2 ≤ sizeLine; decide, fun x hx => ret _ _ m0 m1 x hx⟩
      · exact ⟨_, rfl, _, rfl, by show 2 ≤ sizeLine; decide, fun x hx => ret _ _ m0 m1 x hx⟩
end
end K91
set_option Elab.async false
set_option linter.all false
set_option maxRecDepth 100000
set_option maxHeartbeats 4000000
namespace K91
open PySem L2 VK
theorem same_new {H : Hp} {p : Addr} {o : HO} (h : H p = none) : Same H (upd H p o) := fun b u e => by
  rw [upd_ne (ne_of_none e h)]
  exact e
/-- __init__ of an own error with one field -/
def spErr (C : Addr) (f : Str) : Sp := fun vs H Q _ => ∃ (a : Addr) (v : V), vs = [.ref a, v] ∧ H a = some (exo a C none) ∧
  ∀ dx, H dx = none → dx ≠ a → Q .non (upd (upd H dx (exd dx [(f, v)])) a (exo a C (some dx)))
theorem read_err {C : Addr} {f : Str} {x : V} {H1 : Hp} {R : Addr → Hp → Prop}
    (k : ∀ a H2, H1 a = none → Same H1 H2 → ErrAt H2 a C [(f, x)] → R a H2) (a : Addr) (ha : H1 a = none) :
    spErr C f [.ref a, x] (upd H1 a (exo a C none)) (fun v H2 => v = .non ∧ R a H2) fun _ _ _ => False := by
  refine ⟨a, x, rfl, upd_same, fun dx hd hne => ⟨rfl, k a _ ha (fun b o e => ?_) ⟨dx, upd_same, ?_⟩⟩⟩
  · rw [upd_ne hne] at hd
    have n1 := ne_of_none e ha
    rw [upd_ne n1, upd_ne (ne_of_none e hd), upd_ne n1]
    exact e
  · rw [upd_ne hne, upd_same]
structure ErrC (K : Fg) (mg : Str → Option Value) (name qual f : Str) (st : Stmt) (C fI : Addr) (fd : FuncData) : Prop where
  g : mg name = some (.ref C)
  ox : OexC K C
  no : PySem.W.findIn K (.ref C) f = some none
  ini : PySem.W.findIn K (.ref C) "__init__" = some (some (.ref fI))
  tyI : PySem.W.typeIn K (.ref fI) = some (.type "function")
  fn : Fun K "__init__" qual st fI fd
  bd : Binds K fd ["self", f] []
  bk : ∀ (s : Shared) (u v : Value), BindsTo s fd ⟨[u], [(f, v)]⟩ [("self", u), (f, v)]
abbrev sI0 : Stmt := inClass (top 2) 0
abbrev sI1 : Stmt := inClass (top 3) 0
abbrev sI2 : Stmt := inClass (top 5) 0
abbrev sI3 : Stmt := inClass (top 6) 0
abbrev sI4 : Stmt := inClass (top 9) 0
abbrev sI5 : Stmt := inClass (top 4) 0
abbrev sI6 : Stmt := inClass (top 7) 0
abbrev sI7 : Stmt := inClass (top 8) 0
abbrev sI8 : Stmt := inClass (top 10) 0
abbrev sKinds : Stmt := top 15
abbrev sPlace : Stmt := top 16
abbrev sName : Stmt := top 17
abbrev sStored : Stmt := top 18
/-- the nine errors -/
structure Nine (K : Fg) (mg : Str → Option Value) (C I : Nat → Addr) (D : Nat → FuncData) : Prop where
  t0 : ErrC K mg "BadSource" "BadSource.__init__" "value" sI0 (C 0) (I 0) (D 0)
  t1 : ErrC K mg "BadStages" "BadStages.__init__" "value" sI1 (C 1) (I 1) (D 1)
  t2 : ErrC K mg "BadPositions" "BadPositions.__init__" "value" sI2 (C 2) (I 2) (D 2)
  t3 : ErrC K mg "BadReply" "BadReply.__init__" "value" sI3 (C 3) (I 3) (D 3)
  t4 : ErrC K mg "BadLoop" "BadLoop.__init__" "value" sI4 (C 4) (I 4) (D 4)
  t5 : ErrC K mg "BadStage" "BadStage.__init__" "position" sI5 (C 5) (I 5) (D 5)
  t6 : ErrC K mg "BadReplies" "BadReplies.__init__" "position" sI6 (C 6) (I 6) (D 6)
  t7 : ErrC K mg "HasZip" "HasZip.__init__" "position" sI7 (C 7) (I 7) (D 7)
  t8 : ErrC K mg "BadText" "BadText.__init__" "line" sI8 (C 8) (I 8) (D 8)
  ei : ∀ i, i < 9 → ErrI K (C i)
  kit : ∀ i j, i < 9 → j < 9 → PySem.W.kitOne K (.ref (C i)) (.ref (C j)) = some (decide (j = i))
def Rows (C : Nat → Addr) (x y : V) : List (Addr × Str × V) :=
  [(C 0, "value", x), (C 1, "value", x), (C 2, "value", x), (C 3, "value", x), (C 4, "value", x), (C 5, "position", y), (C 6, "position", y), (C 7, "position", y), (C 8, "line", y)]
abbrev ErrsAt (H : Hp) (as : List Addr) (rows : List (Addr × Str × V)) : Prop := Paired (fun a r => ErrAt H a r.1 [(r.2.1, r.2.2)]) as rows
theorem errs_same {H H' : Hp} (s : Same H H') : ∀ {as : List Addr} {rows : List (Addr × Str × V)}, ErrsAt H as rows → ErrsAt H' as rows
  | _, _, .nil => .nil
  | _, _, .cons h t => .cons (h.same s) (errs_same s t)
def spMake (C : Nat → Addr) : Sp := fun vs H Q _ => ∃ x y : V, vs = [x, y] ∧
  ∀ (p : Addr) (as : List Addr) (H' : Hp), Same H H' → H p = none → H' p = some (.lst (as.map V.ref)) → ErrsAt H' as (Rows C x y) → Q (.ref p) H'
def kindsOf (i : Nat) : List Bool := (List.range 9).map fun j => decide (j = i)
def spKinds (C : Nat → Addr) : Sp := fun vs H Q _ => ∃ (a : Addr) (i : Nat) (fs : List (Str × V)), vs = [.ref a] ∧ i < 9 ∧ ErrAt H a (C i) fs ∧
  ∀ (q : Addr) (H' : Hp), Same H H' → H q = none → H' q = some (.lst ((kindsOf i).map V.bl)) → Q (.ref q) H'
def spStored (C : Nat → Addr) : Sp := fun vs H Q _ => ∃ (p : Addr) (as : List Addr) (x y : V), vs = [.ref p] ∧ H p = some (.lst (as.map V.ref)) ∧ ErrsAt H as (Rows C x y) ∧
  ∀ (q : Addr) (H' : Hp), Same H H' → H q = none → H' q = some (.lst [x, x, x, x, x, y, y, y, y]) → Q (.ref q) H'
section
variable {P : Program} {w : World} {K : Fg} {mg : Str → Option Value} {base : Heap}
theorem scI0 : FnScope ["self", "value"] ["self", "value"] (defScope sI0) := ⟨rfl, rfl, rfl, by decide +kernel, rfl, by decide +kernel, by decide +kernel⟩
theorem ok_i0 {C fI : Addr} {fd : FuncData} (T : ErrC K mg "BadSource" "BadSource.__init__" "value" sI0 C fI fd) : FnOk P w K mg base CX0 1 fI fd ["self", "value"] (spErr C "value") := by
  refine T.fn.ok scI0 (fun vs H Q E h => ?_) (fun cdv A outer s H vs Q E hr h => ?_)
  · obtain ⟨a, v, rfl, _⟩ := h
    rfl
  · obtain ⟨a, v, rfl, ha, k⟩ := h
    exact ⟨_, pss_one (ps_ost (pv 0) (pv 1)), _, rfl, _, rfl, a, C, rfl, T.ox, T.no, .inl ⟨ha, k⟩⟩
theorem scI1 : FnScope ["self", "value"] ["self", "value"] (defScope sI1) := ⟨rfl, rfl, rfl, by decide +kernel, rfl, by decide +kernel, by decide +kernel⟩
theorem ok_i1 {C fI : Addr} {fd : FuncData} (T : ErrC K mg "BadStages" "BadStages.__init__" "value" sI1 C fI fd) : FnOk P w K mg base CX0 1 fI fd ["self", "value"] (spErr C "value") := by
  refine T.fn.ok scI1 (fun vs H Q E h => ?_) (fun cdv A outer s H vs Q E hr h => ?_)
  · obtain ⟨a, v, rfl, _⟩ := h
    rfl
  · obtain ⟨a, v, rfl, ha, k⟩ := h
    exact ⟨_, pss_one (ps_ost (pv 0) (pv 1)), _, rfl, _, rfl, a, C, rfl, T.ox, T.no, .inl ⟨ha, k⟩⟩
theorem scI2 : FnScope ["self", "value"] ["self", "value"] (defScope sI2) := ⟨rfl, rfl, rfl, by decide +kernel, rfl, by decide +kernel, by decide +kernel⟩
theorem ok_i2 {C fI : Addr} {fd : FuncData} (T : ErrC K mg "BadPositions" "BadPositions.__init__" "value" sI2 C fI fd) : FnOk P w K mg base CX0 1 fI fd ["self", "value"] (spErr C "value") := by
  refine T.fn.ok scI2 (fun vs H Q E h => ?_) (fun cdv A outer s H vs Q E hr h => ?_)
  · obtain ⟨a, v, rfl, _⟩ := h
    rfl
  · obtain ⟨a, v, rfl, ha, k⟩ := h
    exact ⟨_, pss_one (ps_ost (pv 0) (pv 1)), _, rfl, _, rfl, a, C, rfl, T.ox, T.no, .inl ⟨ha, k⟩⟩
theorem scI3 : FnScope ["self", "value"] ["self", "value"] (defScope sI3) := ⟨rfl, rfl, rfl, by decide +kernel, rfl, by decide +kernel, by decide +kernel⟩
theorem ok_i3 {C fI : Addr} {fd : FuncData} (T : ErrC K mg "BadReply" "BadReply.__init__" "value" sI3 C fI fd) : FnOk P w K mg base CX0 1 fI fd ["self", "value"] (spErr C "value") := by
  refine T.fn.ok scI3 (fun vs H Q E h => ?_) (fun cdv A outer s H vs Q E hr h => ?_)
  · obtain ⟨a, v, rfl, _⟩ := h
    rfl
  · obtain ⟨a, v, rfl, ha, k⟩ := h
    exact ⟨_, pss_one (ps_ost (pv 0) (pv 1)), _, rfl, _, rfl, a, C, rfl, T.ox, T.no, .inl ⟨ha, k⟩⟩
theorem scI4 : FnScope ["self", "value"] ["self", "value"] (defScope sI4) := ⟨rfl, rfl, rfl, by decide +kernel, rfl, by decide +kernel, by decide +kernel⟩
theorem ok_i4 {C fI : Addr} {fd : FuncData} (T : ErrC K mg "BadLoop" "BadLoop.__init__" "value" sI4 C fI fd) : FnOk P w K mg base CX0 1 fI fd ["self", "value"] (spErr C "value") := by
  refine T.fn.ok scI4 (fun vs H Q E h => ?_) (fun cdv A outer s H vs Q E hr h => ?_)
  · obtain ⟨a, v, rfl, _⟩ := h
    rfl
  · obtain ⟨a, v, rfl, ha, k⟩ := h
    exact ⟨_, pss_one (ps_ost (pv 0) (pv 1)), _, rfl, _, rfl, a, C, rfl, T.ox, T.no, .inl ⟨ha, k⟩⟩
theorem scI5 : FnScope ["self", "position"] ["self", "position"] (defScope sI5) := ⟨rfl, rfl, rfl, by decide +kernel, rfl, by decide +kernel, by decide +kernel⟩
theorem ok_i5 {C fI : Addr} {fd : FuncData} (T : ErrC K mg "BadStage" "BadStage.__init__" "position" sI5 C fI fd) : FnOk P w K mg base CX0 1 fI fd ["self", "position"] (spErr C "position") := by
  refine T.fn.ok scI5 (fun vs H Q E h => ?_) (fun cdv A outer s H vs Q E hr h => ?_)
  · obtain ⟨a, v, rfl, _⟩ := h
    rfl
  · obtain ⟨a, v, rfl, ha, k⟩ := h
    exact ⟨_, pss_one (ps_ost (pv 0) (pv 1)), _, rfl, _, rfl, a, C, rfl, T.ox, T.no, .inl ⟨ha, k⟩⟩
theorem scI6 : FnScope ["self", "position"] ["self", "position"] (defScope sI6) := ⟨rfl, rfl, rfl, by decide +kernel, rfl, by decide +kernel, by decide +kernel⟩
theorem ok_i6 {C fI : Addr} {fd : FuncData} (T : ErrC K mg "BadReplies" "BadReplies.__init__" "position" sI6 C fI fd) : FnOk P w K mg base CX0 1 fI fd ["self", "position"] (spErr C "position") := by
  refine T.fn.ok scI6 (fun vs H Q E h => ?_) (fun cdv A outer s H vs Q E hr h => ?_)
  · obtain ⟨a, v, rfl, _⟩ := h
    rfl
  · obtain ⟨a, v, rfl, ha, k⟩ := h
    exact ⟨_, pss_one (ps_ost (pv 0) (pv 1)), _, rfl, _, rfl, a, C, rfl, T.ox, T.no, .inl ⟨ha, k⟩⟩
theorem scI7 : FnScope ["self", "position"] ["self", "position"] (defScope sI7) := ⟨rfl, rfl, rfl, by decide +kernel, rfl, by decide +kernel, by decide +kernel⟩
theorem ok_i7 {C fI : Addr} {fd : FuncData} (T : ErrC K mg "HasZip" "HasZip.__init__" "position" sI7 C fI fd) : FnOk P w K mg base CX0 1 fI fd ["self", "position"] (spErr C "position") := by
  refine T.fn.ok scI7 (fun vs H Q E h => ?_) (fun cdv A outer s H vs Q E hr h => ?_)
  · obtain ⟨a, v, rfl, _⟩ := h
    rfl
  · obtain ⟨a, v, rfl, ha, k⟩ := h
    exact ⟨_, pss_one (ps_ost (pv 0) (pv 1)), _, rfl, _, rfl, a, C, rfl, T.ox, T.no, .inl ⟨ha, k⟩⟩
theorem scI8 : FnScope ["self", "line"] ["self", "line"] (defScope sI8) := ⟨rfl, rfl, rfl, by decide +kernel, rfl, by decide +kernel, by decide +kernel⟩
theorem ok_i8 {C fI : Addr} {fd : FuncData} (T : ErrC K mg "BadText" "BadText.__init__" "line" sI8 C fI fd) : FnOk P w K mg base CX0 1 fI fd ["self", "line"] (spErr C "line") := by
  refine T.fn.ok scI8 (fun vs H Q E h => ?_) (fun cdv A outer s H vs Q E hr h => ?_)
  · obtain ⟨a, v, rfl, _⟩ := h
    rfl
  · obtain ⟨a, v, rfl, ha, k⟩ := h
    exact ⟨_, pss_one (ps_ost (pv 0) (pv 1)), _, rfl, _, rfl, a, C, rfl, T.ox, T.no, .inl ⟨ha, k⟩⟩
theorem scPlace : FnScope ["thing", "many", "found"] ["thing", "many"] (defScope sPlace) := ⟨rfl, rfl, rfl, by decide +kernel, rfl, by decide +kernel, by decide +kernel⟩
theorem ok_Place {f : Addr} {fd : FuncData} {C I : Nat → Addr} {D : Nat → FuncData} (F : Fun K "_law_by_place" "_law_by_place" sPlace f fd) (N : Nine K mg C I D) : FnOk P w K mg base CX0 3 f fd ["thing", "many"] (spMake C) := by
  refine F.ok scPlace (fun vs H Q E h => ?_) (fun cdv A outer s H vs Q E hr2 h => ?_)
  · obtain ⟨x, y, rfl, _⟩ := h
    rfl
  · obtain ⟨x, y, rfl, k⟩ := h
    refine ⟨_, pss_cons (ps_set (i := 2) scPlace.nd rfl (Or.inl rfl) (pe_lst (pa_cons (pe_err N.t0.ox N.t0.ini N.t0.tyI (ok_i0 N.t0) hr2 N.t0.bd .nil pass0 rfl N.t0.g (pa_cons (pv 0) pa_nil))
        (pa_cons (pe_err N.t1.ox N.t1.ini N.t1.tyI (ok_i1 N.t1) hr2 N.t1.bd .nil pass0 rfl N.t1.g (pa_cons (pv 0) pa_nil))
        (pa_cons (pe_err N.t2.ox N.t2.ini N.t2.tyI (ok_i2 N.t2) hr2 N.t2.bd .nil pass0 rfl N.t2.g (pa_cons (pv 0) pa_nil))
        (pa_cons (pe_err N.t3.ox N.t3.ini N.t3.tyI (ok_i3 N.t3) hr2 N.t3.bd .nil pass0 rfl N.t3.g (pa_cons (pv 0) pa_nil))
        (pa_cons (pe_err N.t4.ox N.t4.ini N.t4.tyI (ok_i4 N.t4) hr2 N.t4.bd .nil pass0 rfl N.t4.g (pa_cons (pv 0) pa_nil))
        pa_nil)))))))
      (pss_one (ps_ret (pe_op op_cat (pv 2) (pe_lst (pa_cons (pe_err N.t5.ox N.t5.ini N.t5.tyI (ok_i5 N.t5) hr2 N.t5.bd .nil pass0 rfl N.t5.g (pa_cons (pv 1) pa_nil))
        (pa_cons (pe_err N.t6.ox N.t6.ini N.t6.tyI (ok_i6 N.t6) hr2 N.t6.bd .nil pass0 rfl N.t6.g (pa_cons (pv 1) pa_nil))
        (pa_cons (pe_err N.t7.ox N.t7.ini N.t7.tyI (ok_i7 N.t7) hr2 N.t7.bd .nil pass0 rfl N.t7.g (pa_cons (pv 1) pa_nil))
        (pa_cons (pe_err N.t8.ox N.t8.ini N.t8.tyI (ok_i8 N.t8) hr2 N.t8.bd .nil pass0 rfl N.t8.g (pa_cons (pv 1) pa_nil))
        pa_nil)))))))), ?_⟩
    refine ⟨_, rfl, by show 1 ≤ 1000; decide, read_err fun a0 H0 n0 s0 e0 => ?_⟩
    refine ⟨_, rfl, by show 1 ≤ 1000; decide, read_err fun a1 H1 n1 s1 e1 => ?_⟩
    refine ⟨_, rfl, by show 1 ≤ 1000; decide, read_err fun a2 H2 n2 s2 e2 => ?_⟩
    refine ⟨_, rfl, by show 1 ≤ 1000; decide, read_err fun a3 H3 n3 s3 e3 => ?_⟩
    refine ⟨_, rfl, by show 1 ≤ 1000; decide, read_err fun a4 H4 n4 s4 e4 => ?_⟩
    refine ⟨by show 5 ≤ sizeLine; decide, fun p0 hp0 => ?_⟩
    refine ⟨_, rfl, ?_⟩
    refine ⟨_, rfl, by show 1 ≤ 1000; decide, read_err fun a5 H5 n5 s5 e5 => ?_⟩
    refine ⟨_, rfl, by show 1 ≤ 1000; decide, read_err fun a6 H6 n6 s6 e6 => ?_⟩
    refine ⟨_, rfl, by show 1 ≤ 1000; decide, read_err fun a7 H7 n7 s7 e7 => ?_⟩
    refine ⟨_, rfl, by show 1 ≤ 1000; decide, read_err fun a8 H8 n8 s8 e8 => ?_⟩
    refine ⟨by show 4 ≤ sizeLine; decide, fun p1 hp1 => ?_⟩
    refine ⟨_, _, _, _, rfl, rfl, (s5.trans (s6.trans (s7.trans (s8.trans ((same_new hp1)))))) _ _ upd_same, upd_same, by show 9 ≤ sizeLine; decide, fun q1 hq1 => ?_⟩
    refine k q1 [a0, a1, a2, a3, a4, a5, a6, a7, a8] _ ?_ ?_ upd_same ?_
    · exact s0.trans (s1.trans (s2.trans (s3.trans (s4.trans ((same_new hp0).trans (s5.trans (s6.trans (s7.trans (s8.trans ((same_new hp1).trans ((same_new hq1))))))))))))
    · exact (s0.trans (s1.trans (s2.trans (s3.trans (s4.trans ((same_new hp0).trans (s5.trans (s6.trans (s7.trans (s8.trans ((same_new hp1)))))))))))).free hq1
    exact .cons (e0.same (s1.trans (s2.trans (s3.trans (s4.trans ((same_new hp0).trans (s5.trans (s6.trans (s7.trans (s8.trans ((same_new hp1).trans ((same_new hq1))))))))))))) (.cons (e1.same (s2.trans (s3.trans (s4.trans ((same_new hp0).trans (s5.trans (s6.trans (s7.trans (s8.trans ((same_new hp1).trans ((same_new hq1)))))))))))) (.cons (e2.same (s3.trans (s4.trans ((same_new hp0).trans (s5.trans (s6.trans (s7.trans (s8.trans ((same_new hp1).trans ((same_new hq1))))))))))) (.cons (e3.same (s4.trans ((same_new hp0).trans (s5.trans (s6.trans (s7.trans (s8.trans ((same_new hp1).trans ((same_new hq1)))))))))) (.cons (e4.same ((same_new hp0).trans (s5.trans (s6.trans (s7.trans (s8.trans ((same_new hp1).trans ((same_new hq1))))))))) (.cons (e5.same (s6.trans (s7.trans (s8.trans ((same_new hp1).trans ((same_new hq1))))))) (.cons (e6.same (s7.trans (s8.trans ((same_new hp1).trans ((same_new hq1)))))) (.cons (e7.same (s8.trans ((same_new hp1).trans ((same_new hq1))))) (.cons (e8.same ((same_new hp1).trans ((same_new hq1)))) (.nil)))))))))
theorem scName : FnScope ["thing", "many", "found"] ["thing", "many"] (defScope sName) := ⟨rfl, rfl, rfl, by decide +kernel, rfl, by decide +kernel, by decide +kernel⟩
theorem ok_Name {f : Addr} {fd : FuncData} {C I : Nat → Addr} {D : Nat → FuncData} (F : Fun K "_law_by_name" "_law_by_name" sName f fd) (N : Nine K mg C I D) : FnOk P w K mg base CX0 3 f fd ["thing", "many"] (spMake C) := by
  refine F.ok scName (fun vs H Q E h => ?_) (fun cdv A outer s H vs Q E hr2 h => ?_)
  · obtain ⟨x, y, rfl, _⟩ := h
    rfl
  · obtain ⟨x, y, rfl, k⟩ := h
    refine ⟨_, pss_cons (ps_set (i := 2) scName.nd rfl (Or.inl rfl) (pe_lst (pa_cons (pe_errK N.t0.ox N.t0.ini N.t0.tyI (ok_i0 N.t0) hr2 N.t0.bk pass0 rfl N.t0.g (pv 0))
        (pa_cons (pe_errK N.t1.ox N.t1.ini N.t1.tyI (ok_i1 N.t1) hr2 N.t1.bk pass0 rfl N.t1.g (pv 0))
        (pa_cons (pe_errK N.t2.ox N.t2.ini N.t2.tyI (ok_i2 N.t2) hr2 N.t2.bk pass0 rfl N.t2.g (pv 0))
        (pa_cons (pe_errK N.t3.ox N.t3.ini N.t3.tyI (ok_i3 N.t3) hr2 N.t3.bk pass0 rfl N.t3.g (pv 0))
        pa_nil))))))
      (pss_cons (ps_set (i := 2) scName.nd rfl (Or.inl rfl) (pe_op op_cat (pv 2) (pe_lst (pa_cons (pe_errK N.t4.ox N.t4.ini N.t4.tyI (ok_i4 N.t4) hr2 N.t4.bk pass0 rfl N.t4.g (pv 0))
        (pa_cons (pe_errK N.t5.ox N.t5.ini N.t5.tyI (ok_i5 N.t5) hr2 N.t5.bk pass0 rfl N.t5.g (pv 1))
        (pa_cons (pe_errK N.t6.ox N.t6.ini N.t6.tyI (ok_i6 N.t6) hr2 N.t6.bk pass0 rfl N.t6.g (pv 1))
        pa_nil))))))
      (pss_one (ps_ret (pe_op op_cat (pv 2) (pe_lst (pa_cons (pe_errK N.t7.ox N.t7.ini N.t7.tyI (ok_i7 N.t7) hr2 N.t7.bk pass0 rfl N.t7.g (pv 1))
        (pa_cons (pe_errK N.t8.ox N.t8.ini N.t8.tyI (ok_i8 N.t8) hr2 N.t8.bk pass0 rfl N.t8.g (pv 1))
        pa_nil))))))), ?_⟩
    refine ⟨_, rfl, _, rfl, read_err fun a0 H0 n0 s0 e0 => ?_⟩
    refine ⟨_, rfl, _, rfl, read_err fun a1 H1 n1 s1 e1 => ?_⟩
    refine ⟨_, rfl, _, rfl, read_err fun a2 H2 n2 s2 e2 => ?_⟩
    refine ⟨_, rfl, _, rfl, read_err fun a3 H3 n3 s3 e3 => ?_⟩
    refine ⟨by show 4 ≤ sizeLine; decide, fun p0 hp0 => ?_⟩
    refine ⟨_, rfl, ?_⟩
    refine ⟨_, rfl, _, rfl, read_err fun a4 H4 n4 s4 e4 => ?_⟩
    refine ⟨_, rfl, _, rfl, read_err fun a5 H5 n5 s5 e5 => ?_⟩
    refine ⟨_, rfl, _, rfl, read_err fun a6 H6 n6 s6 e6 => ?_⟩
    refine ⟨by show 3 ≤ sizeLine; decide, fun p1 hp1 => ?_⟩
    refine ⟨_, _, _, _, rfl, rfl, (s4.trans (s5.trans (s6.trans ((same_new hp1))))) _ _ upd_same, upd_same, by show 7 ≤ sizeLine; decide, fun q1 hq1 => ?_⟩
    refine ⟨_, rfl, ?_⟩
    refine ⟨_, rfl, _, rfl, read_err fun a7 H7 n7 s7 e7 => ?_⟩
    refine ⟨_, rfl, _, rfl, read_err fun a8 H8 n8 s8 e8 => ?_⟩
    refine ⟨by show 2 ≤ sizeLine; decide, fun p2 hp2 => ?_⟩
    refine ⟨_, _, _, _, rfl, rfl, (s7.trans (s8.trans ((same_new hp2)))) _ _ upd_same, upd_same, by show 9 ≤ sizeLine; decide, fun q2 hq2 => ?_⟩
    refine k q2 [a0, a1, a2, a3, a4, a5, a6, a7, a8] _ ?_ ?_ upd_same ?_
    · exact s0.trans (s1.trans (s2.trans (s3.trans ((same_new hp0).trans (s4.trans (s5.trans (s6.trans ((same_new hp1).trans ((same_new hq1).trans (s7.trans (s8.trans ((same_new hp2).trans ((same_new hq2))))))))))))))
    · exact (s0.trans (s1.trans (s2.trans (s3.trans ((same_new hp0).trans (s4.trans (s5.trans (s6.trans ((same_new hp1).trans ((same_new hq1).trans (s7.trans (s8.trans ((same_new hp2)))))))))))))).free hq2
    exact .cons (e0.same (s1.trans (s2.trans (s3.trans ((same_new hp0).trans (s4.trans (s5.trans (s6.trans ((same_new hp1).trans ((same_new hq1).trans (s7.trans (s8.trans ((same_new hp2).trans ((same_new hq2))))))))))))))) (.cons (e1.same (s2.trans (s3.trans ((same_new hp0).trans (s4.trans (s5.trans (s6.trans ((same_new hp1).trans ((same_new hq1).trans (s7.trans (s8.trans ((same_new hp2).trans ((same_new hq2)))))))))))))) (.cons (e2.same (s3.trans ((same_new hp0).trans (s4.trans (s5.trans (s6.trans ((same_new hp1).trans ((same_new hq1).trans (s7.trans (s8.trans ((same_new hp2).trans ((same_new hq2))))))))))))) (.cons (e3.same ((same_new hp0).trans (s4.trans (s5.trans (s6.trans ((same_new hp1).trans ((same_new hq1).trans (s7.trans (s8.trans ((same_new hp2).trans ((same_new hq2)))))))))))) (.cons (e4.same (s5.trans (s6.trans ((same_new hp1).trans ((same_new hq1).trans (s7.trans (s8.trans ((same_new hp2).trans ((same_new hq2)))))))))) (.cons (e5.same (s6.trans ((same_new hp1).trans ((same_new hq1).trans (s7.trans (s8.trans ((same_new hp2).trans ((same_new hq2))))))))) (.cons (e6.same ((same_new hp1).trans ((same_new hq1).trans (s7.trans (s8.trans ((same_new hp2).trans ((same_new hq2)))))))) (.cons (e7.same (s8.trans ((same_new hp2).trans ((same_new hq2))))) (.cons (e8.same ((same_new hp2).trans ((same_new hq2)))) (.nil)))))))))
end
end K91
set_option Elab.async false
set_option linter.all false
set_option maxRecDepth 100000
set_option maxHeartbeats 4000000
namespace K91
open PySem L2 VK
theorem scKinds : FnScope ["error", "found"] ["error"] (defScope sKinds) := ⟨rfl, rfl, rfl, by decide +kernel, rfl, by decide +kernel, by decide +kernel⟩
theorem scStored : FnScope ["errors", "error"] ["errors"] (defScope sStored) := ⟨rfl, rfl, rfl, by decide +kernel, rfl, by decide +kernel, by decide +kernel⟩
section
variable {P : Program} {w : World} {K : Fg} {mg : Str → Option Value} {base : Heap}
theorem ok_kinds {f : Addr} {fd : FuncData} {C I : Nat → Addr} {D : Nat → FuncData} (F : Fun K "_law_kinds" "_law_kinds" sKinds f fd) (N : Nm mg) (T : Nine K mg C I D) : FnOk P w K mg base CX0 1 f fd ["error"] (spKinds C) := by
  refine F.ok scKinds (fun vs H Q E h => ?_) (fun cdv A outer s H vs Q E hr h => ?_)
  · obtain ⟨a, i, fs, rfl, _⟩ := h
    rfl
  · obtain ⟨a, i, fs, rfl, hi, ha, k⟩ := h
    refine ⟨_, pss_cons (ps_set (i := 1) scKinds.nd rfl (Or.inl rfl) (pe_lst (pa_cons (pe_callB call_errIs (by rfl) N.isi PyProof.Rows.boot_isinstance (pa_cons (pv 0) (pa_cons (pe_glob (v := .ref (C 0)) rfl T.t0.g rfl) pa_nil)))
        (pa_cons (pe_callB call_errIs (by rfl) N.isi PyProof.Rows.boot_isinstance (pa_cons (pv 0) (pa_cons (pe_glob (v := .ref (C 1)) rfl T.t1.g rfl) pa_nil)))
        (pa_cons (pe_callB call_errIs (by rfl) N.isi PyProof.Rows.boot_isinstance (pa_cons (pv 0) (pa_cons (pe_glob (v := .ref (C 2)) rfl T.t2.g rfl) pa_nil)))
        pa_nil)))))
      (pss_cons (ps_set (i := 1) scKinds.nd rfl (Or.inl rfl) (pe_op op_cat (pv 1) (pe_lst (pa_cons (pe_callB call_errIs (by rfl) N.isi PyProof.Rows.boot_isinstance (pa_cons (pv 0) (pa_cons (pe_glob (v := .ref (C 3)) rfl T.t3.g rfl) pa_nil)))
        (pa_cons (pe_callB call_errIs (by rfl) N.isi PyProof.Rows.boot_isinstance (pa_cons (pv 0) (pa_cons (pe_glob (v := .ref (C 4)) rfl T.t4.g rfl) pa_nil)))
        (pa_cons (pe_callB call_errIs (by rfl) N.isi PyProof.Rows.boot_isinstance (pa_cons (pv 0) (pa_cons (pe_glob (v := .ref (C 5)) rfl T.t5.g rfl) pa_nil)))
        pa_nil))))))
      (pss_one (ps_ret (pe_op op_cat (pv 1) (pe_lst (pa_cons (pe_callB call_errIs (by rfl) N.isi PyProof.Rows.boot_isinstance (pa_cons (pv 0) (pa_cons (pe_glob (v := .ref (C 6)) rfl T.t6.g rfl) pa_nil)))
        (pa_cons (pe_callB call_errIs (by rfl) N.isi PyProof.Rows.boot_isinstance (pa_cons (pv 0) (pa_cons (pe_glob (v := .ref (C 7)) rfl T.t7.g rfl) pa_nil)))
        (pa_cons (pe_callB call_errIs (by rfl) N.isi PyProof.Rows.boot_isinstance (pa_cons (pv 0) (pa_cons (pe_glob (v := .ref (C 8)) rfl T.t8.g rfl) pa_nil)))
        pa_nil)))))))), ?_⟩
    refine ⟨_, rfl, a, C i, fs, _, .ref (C 0), _, rfl, T.ei i hi, ha.same (Same.refl _), .own _, T.kit i 0 hi (by decide), _, rfl, a, C i, fs, _, .ref (C 1), _, rfl, T.ei i hi, ha.same (Same.refl _), .own _, T.kit i 1 hi (by decide), _, rfl, a, C i, fs, _, .ref (C 2), _, rfl, T.ei i hi, ha.same (Same.refl _), .own _, T.kit i 2 hi (by decide), by show 3 ≤ sizeLine; decide, fun p0 n0 => ?_⟩
    have s0 := same_new (o := .lst [.bl (decide (0 = i)), .bl (decide (1 = i)), .bl (decide (2 = i))]) n0
    refine ⟨_, rfl, _, rfl, a, C i, fs, _, .ref (C 3), _, rfl, T.ei i hi, ha.same s0, .own _, T.kit i 3 hi (by decide), _, rfl, a, C i, fs, _, .ref (C 4), _, rfl, T.ei i hi, ha.same s0, .own _, T.kit i 4 hi (by decide), _, rfl, a, C i, fs, _, .ref (C 5), _, rfl, T.ei i hi, ha.same s0, .own _, T.kit i 5 hi (by decide), by show 3 ≤ sizeLine; decide, fun p1 n1 => ?_⟩
    have s1 := s0.trans (same_new (o := .lst [.bl (decide (3 = i)), .bl (decide (4 = i)), .bl (decide (5 = i))]) n1)
    refine ⟨_, _, _, _, rfl, rfl, same_new n1 _ _ upd_same, upd_same, by show 6 ≤ sizeLine; decide, fun p2 n2 => ?_⟩
    have s2 := s1.trans (same_new (o := .lst ([.bl (decide (0 = i)), .bl (decide (1 = i)), .bl (decide (2 = i))] ++ [.bl (decide (3 = i)), .bl (decide (4 = i)), .bl (decide (5 = i))])) n2)
    refine ⟨_, rfl, _, rfl, a, C i, fs, _, .ref (C 6), _, rfl, T.ei i hi, ha.same s2, .own _, T.kit i 6 hi (by decide), _, rfl, a, C i, fs, _, .ref (C 7), _, rfl, T.ei i hi, ha.same s2, .own _, T.kit i 7 hi (by decide), _, rfl, a, C i, fs, _, .ref (C 8), _, rfl, T.ei i hi, ha.same s2, .own _, T.kit i 8 hi (by decide), by show 3 ≤ sizeLine; decide, fun p3 n3 => ?_⟩
    have s3 := s2.trans (same_new (o := .lst [.bl (decide (6 = i)), .bl (decide (7 = i)), .bl (decide (8 = i))]) n3)
    refine ⟨_, _, _, _, rfl, rfl, same_new n3 _ _ upd_same, upd_same, by show 9 ≤ sizeLine; decide, fun p4 n4 => ?_⟩
    exact k p4 _ (s3.trans (same_new n4)) (s3.free n4) upd_same
/-- one turn of a comprehension that reads a field: the list so far -/
theorem app_rep {x : V} (i : Nat) : List.replicate i x ++ [x] = List.replicate (i + 1) x := by
  rw [List.replicate_succ']
theorem ok_stored {f : Addr} {fd : FuncData} {C I : Nat → Addr} {D : Nat → FuncData} (F : Fun K "_law_stored" "_law_stored" sStored f fd) (N : Nm mg) (T : Nine K mg C I D) : FnOk P w K mg base CX0 1 f fd ["errors"] (spStored C) := by
  refine F.ok scStored (fun vs H Q E h => ?_) (fun cdv A outer s H vs Q E hr h => ?_)
  · obtain ⟨p, as, x, y, rfl, _⟩ := h
    rfl
  · obtain ⟨p, as, x, y, rfl, hp, hE, k⟩ := h
    cases hE with | @cons a0 _ as _ e0 hE => ?_
    cases hE with | @cons a1 _ as _ e1 hE => ?_
    cases hE with | @cons a2 _ as _ e2 hE => ?_
    cases hE with | @cons a3 _ as _ e3 hE => ?_
    cases hE with | @cons a4 _ as _ e4 hE => ?_
    cases hE with | @cons a5 _ as _ e5 hE => ?_
    cases hE with | @cons a6 _ as _ e6 hE => ?_
    cases hE with | @cons a7 _ as _ e7 hE => ?_
    cases hE with | @cons a8 _ as _ e8 hE => ?_
    cases hE
    simp only [List.map_cons, List.map_nil] at hp
    refine ⟨_, pss_one (ps_ret (pe_op op_cat (pe_op op_cat
      (pe_lc (own := [("error", 1)]) (g := gName 1) (tt := tYes) (te := tErrF K "value" (tVar 1)) rfl scStored.nd (pi_list (pe_slice sl_list (pv 0) po_none (po_some pe_int))) (blkOk_by (N := ["errors", "error"]) (sc := defScope sStored) (by decide +kernel))
        (fun _ _ _ _ _ => pg_name (i := 1) scStored.nd rfl (Or.inl rfl)) (fun _ _ _ _ _ => pts_nil) (fun _ _ _ _ _ => by exact pe_errF (pv 1)))
      (pe_lc (own := [("error", 1)]) (g := gName 1) (tt := tYes) (te := tErrF K "position" (tVar 1)) rfl scStored.nd (pi_list (pe_slice sl_list (pv 0) (po_some pe_int) (po_some pe_int))) (blkOk_by (N := ["errors", "error"]) (sc := defScope sStored) (by decide +kernel))
        (fun _ _ _ _ _ => pg_name (i := 1) scStored.nd rfl (Or.inl rfl)) (fun _ _ _ _ _ => pts_nil) (fun _ _ _ _ _ => by exact pe_errF (pv 1))))
      (pe_lst (pa_cons (by exact pe_errF (pe_ix ix_list (pv 0) pe_int (fun _ _ => rfl))) pa_nil)))), ?_⟩
    -- errors[:5]
    refine ⟨_, rfl, 5, rfl, p, _, rfl, SqL.of hp, fun q0 m0 => ?_⟩
    have c0 : cutV [V.ref a0, .ref a1, .ref a2, .ref a3, .ref a4, .ref a5, .ref a6, .ref a7, .ref a8] none (some 5) = [V.ref a0, .ref a1, .ref a2, .ref a3, .ref a4] := rfl
    rw [c0]
    refine ⟨q0, rfl, ⟨_, SqL.of upd_same⟩, fun D0 d0 => ?_⟩
    have h0 : Same H (upd H q0 (.lst [V.ref a0, .ref a1, .ref a2, .ref a3, .ref a4])) := same_new m0
    generalize hG0 : upd H q0 (.lst [V.ref a0, .ref a1, .ref a2, .ref a3, .ref a4]) = G0 at h0 d0
    have g0 : G0 q0 = some (.lst [V.ref a0, .ref a1, .ref a2, .ref a3, .ref a4]) := by rw [← hG0]; exact upd_same
    refine lc_list (K := K) (a := q0) (xs := [V.ref a0, .ref a1, .ref a2, .ref a3, .ref a4]) (fun i H' => Same G0 H' ∧ H' D0 = some (.lst (List.replicate i x)))
      ⟨same_new d0, upd_same⟩ (fun i H' _ q => SqL.of (q.1 _ _ g0)) ?_ ?_
    · rintro i v H' hi ⟨s1, hD⟩
      have fld : ∃ (a : Addr) (j : Nat), v = .ref a ∧ j < 5 ∧ ErrAt H a (C j) [("value", x)] := by
        match i, hi with
        | 0, hi => exact ⟨a0, 0, (Option.some.inj hi).symm, by decide, e0⟩
        | 1, hi => exact ⟨a1, 1, (Option.some.inj hi).symm, by decide, e1⟩
        | 2, hi => exact ⟨a2, 2, (Option.some.inj hi).symm, by decide, e2⟩
        | 3, hi => exact ⟨a3, 3, (Option.some.inj hi).symm, by decide, e3⟩
        | 4, hi => exact ⟨a4, 4, (Option.some.inj hi).symm, by decide, e4⟩
      obtain ⟨a, j, rfl, hj, ea⟩ := fld
      have noV : PySem.W.findIn K (.ref (C j)) "value" = some none := by
        match j, hj with
        | 0, _ => exact T.t0.no
        | 1, _ => exact T.t1.no
        | 2, _ => exact T.t2.no
        | 3, _ => exact T.t3.no
        | 4, _ => exact T.t4.no
      have hi5 : i < 5 := (List.getElem?_eq_some_iff.mp hi).1
      refine ⟨rfl, iteT (B := True) ⟨_, rfl, a, C j, _, x, rfl, (T.ei j (by omega)).xf, noV, ea.same (h0.trans s1), by simp [List.lookup], _, hD, ?_, ?_, ?_⟩⟩
      · rw [List.length_replicate]; exact small1000 (by omega)
      · intro b o e
        have : b ≠ D0 := fun z => by rw [z, d0] at e; cases e
        rw [upd_ne this]
        exact s1 b o e
      · rw [upd_same, app_rep]
    rintro G1 ⟨s1, hD0⟩
    have t1 := h0.trans s1
    -- errors[5:8]
    refine ⟨_, rfl, 5, rfl, 8, rfl, p, _, rfl, SqL.of (t1 _ _ hp), fun q1 m1 => ?_⟩
    have c1 : cutV [V.ref a0, .ref a1, .ref a2, .ref a3, .ref a4, .ref a5, .ref a6, .ref a7, .ref a8] (some 5) (some 8) = [V.ref a5, .ref a6, .ref a7] := rfl
    rw [c1]
    refine ⟨q1, rfl, ⟨_, SqL.of upd_same⟩, fun D1 d1 => ?_⟩
    have h1 : Same G1 (upd G1 q1 (.lst [V.ref a5, .ref a6, .ref a7])) := same_new m1
    generalize hG1 : upd G1 q1 (.lst [V.ref a5, .ref a6, .ref a7]) = G2 at h1 d1
    have g1 : G2 q1 = some (.lst [V.ref a5, .ref a6, .ref a7]) := by rw [← hG1]; exact upd_same
    refine lc_list (K := K) (a := q1) (xs := [V.ref a5, .ref a6, .ref a7]) (fun i H' => Same G2 H' ∧ H' D1 = some (.lst (List.replicate i y)))
      ⟨same_new d1, upd_same⟩ (fun i H' _ q => SqL.of (q.1 _ _ g1)) ?_ ?_
    · rintro i v H' hi ⟨s2, hD⟩
      have fld : ∃ (a : Addr) (j : Nat), v = .ref a ∧ j < 9 ∧ ErrAt H a (C j) [("position", y)] ∧ PySem.W.findIn K (.ref (C j)) "position" = some none := by
        match i, hi with
        | 0, hi => exact ⟨a5, 5, (Option.some.inj hi).symm, by decide, e5, T.t5.no⟩
        | 1, hi => exact ⟨a6, 6, (Option.some.inj hi).symm, by decide, e6, T.t6.no⟩
        | 2, hi => exact ⟨a7, 7, (Option.some.inj hi).symm, by decide, e7, T.t7.no⟩
      obtain ⟨a, j, rfl, hj, ea, noV⟩ := fld
      have hi3 : i < 3 := (List.getElem?_eq_some_iff.mp hi).1
      refine ⟨rfl, iteT (B := True) ⟨_, rfl, a, C j, _, y, rfl, (T.ei j (by omega)).xf, noV, ea.same (t1.trans (h1.trans s2)), by simp [List.lookup], _, hD, ?_, ?_, ?_⟩⟩
      · rw [List.length_replicate]; exact small1000 (by omega)
      · intro b o e
        have : b ≠ D1 := fun z => by rw [z, d1] at e; cases e
        rw [upd_ne this]
        exact s2 b o e
      · rw [upd_same, app_rep]
    rintro G3 ⟨s2, hD1⟩
    have t3 := t1.trans (h1.trans s2)
    refine ⟨D0, D1, _, _, rfl, rfl, (h1.trans s2) _ _ hD0, hD1, by show 8 ≤ sizeLine; decide, fun r0 u0 => ?_⟩
    have t4 := t3.trans (same_new (o := .lst (List.replicate 5 x ++ List.replicate 3 y)) u0)
    -- [errors[8].line]
    refine ⟨_, rfl, p, _, 8, .ref a8, rfl, rfl, SqL.of (t4 _ _ hp), rfl, a8, C 8, _, y, rfl, (T.ei 8 (by decide)).xf, T.t8.no, e8.same t4, by simp [List.lookup], by show 1 ≤ sizeLine; decide, fun r1 u1 => ?_⟩
    refine ⟨_, _, _, _, rfl, rfl, same_new u1 _ _ upd_same, upd_same, by show 9 ≤ sizeLine; decide, fun r2 u2 => ?_⟩
    have t5 := t4.trans (same_new (o := .lst [y]) u1)
    exact k r2 _ (t5.trans (same_new u2)) (t5.free u2) upd_same
end
end K91
set_option Elab.async false
set_option linter.all false
set_option maxRecDepth 100000
set_option maxHeartbeats 4000000
namespace K91
open PySem L2 VK
/-! ### the thing that is drawn, after k changes -/
inductive Kd where
  | lst | dct | oth
  deriving DecidableEq
abbrev nul (k : Nat) : List V := List.replicate k (.int 0)
abbrev nulD (k : Nat) : List PyData := List.replicate k (.int 0)
inductive Thg : Kd → Hp → V → Nat → PyData → Prop where
  | five {H : Hp} {p : Addr} {k : Nat} (h : H p = some (.lst (.int 5 :: nul k))) : Thg .lst H (.ref p) k (.list (.int 5 :: nulD k))
  | an {H : Hp} {p : Addr} {k : Nat} (h : H p = some (.lst (.str "a" :: .non :: nul k))) : Thg .lst H (.ref p) k (.list (.str "a" :: .none :: nulD k))
  | nest {H : Hp} {p q : Addr} {k : Nat} (h : H p = some (.lst (.ref q :: nul k))) (hq : H q = some (.lst [])) : Thg .lst H (.ref p) k (.list (.list [] :: nulD k))
  | dct0 {H : Hp} {p : Addr} (h : H p = some (.dK [(.inr "a", .int 1)])) : Thg .dct H (.ref p) 0 (.dict [(.str "a", .int 1)])
  | dct1 {H : Hp} {p : Addr} {k : Nat} (h : H p = some (.dK [(.inr "a", .int 1), (.inr "more", .int 0)])) : Thg .dct H (.ref p) (k + 1) (.dict [(.str "a", .int 1), (.str "more", .int 0)])
  | tup {H : Hp} {p : Addr} {k : Nat} (h : H p = some (.tup [.int 1])) : Thg .oth H (.ref p) k (.tuple [.int 1])
  | non {H : Hp} {k : Nat} : Thg .oth H .non k .none
  | str {H : Hp} {k : Nat} : Thg .oth H (.str "x") k (.str "x")
  | bl {H : Hp} {k : Nat} : Thg .oth H (.bl true) k (.bool true)
  | int {H : Hp} {k : Nat} : Thg .oth H (.int (0 - 3)) k (.int (0 - 3))
section
variable {κ : Kd} {H H' : Hp} {x : V} {k : Nat} {d : PyData} {K : Fg}
theorem Thg.same (t : Thg κ H x k d) (s : Same H H') : Thg κ H' x k d := by
  cases t with
  | five h => exact .five (s _ _ h)
  | an h => exact .an (s _ _ h)
  | nest h hq => exact .nest (s _ _ h) (s _ _ hq)
  | dct0 h => exact .dct0 (s _ _ h)
  | dct1 h => exact .dct1 (s _ _ h)
  | tup h => exact .tup (s _ _ h)
  | non => exact .non
  | str => exact .str
  | bl => exact .bl
  | int => exact .int
/-- the stream changes -/
theorem Thg.but {p : Addr} (t : Thg κ H x 0 d) (hp : Strm H p) (b : But p H H') : Thg κ H' x 0 d := by
  obtain ⟨r, m, hp, _⟩ := hp
  have go : ∀ {a : Addr} {o : HO}, H a = some o → o ≠ .lst [.int r, .int m] → H' a = some o := fun {a o} e n => (b a (ne_of e hp n)).trans e
  cases t with
  | five h => exact .five (go h (fun z => by cases z))
  | an h => exact .an (go h (fun z => by cases z))
  | nest h hq => exact .nest (go h (fun z => by cases z)) (go hq (fun z => by cases z))
  | dct0 h => exact .dct0 (go h (fun z => by cases z))
  | tup h => exact .tup (go h (fun z => by cases z))
  | non => exact .non
  | str => exact .str
  | bl => exact .bl
  | int => exact .int
theorem dp_nul : ∀ k, DpAll K H (nul k) (nulD k)
  | 0 => .nil
  | k + 1 => .cons (.int 0) (dp_nul k)
theorem nd_nul : ∀ k, PyData.hasDictAll (nulD k) = false
  | 0 => rfl
  | k + 1 => nd_nul k
theorem Thg.shw (t : Thg κ H x k d) : ShwV K H x d := by
  cases t with
  | five h => exact .data (.lst (SqL.of h) (.cons (.int 5) (dp_nul k))) (nd_nul k)
  | an h => exact .data (.lst (SqL.of h) (.cons (.str _) (.cons .non (dp_nul k)))) (nd_nul k)
  | nest h hq => exact .data (.lst (SqL.of h) (.cons (.lst (SqL.of hq) .nil) (dp_nul k))) (nd_nul k)
  | dct0 h => exact .dct h (.cons ⟨rfl, .int 1⟩ .nil)
  | dct1 h => exact .dct h (.cons ⟨rfl, .int 1⟩ (.cons ⟨rfl, .int 0⟩ .nil))
  | tup h => exact .data (.tup (SqT.of h) (.cons (.int 1) .nil)) rfl
  | non => exact .data .non rfl
  | str => exact .data (.str _) rfl
  | bl => exact .data (.bl _) rfl
  | int => exact .data (.int _) rfl
structure Fit (d : PyData) : Prop where
  sh : d.showable = true
  ln : d.shown.length ≤ 100
  dp : d.depth ≤ 10
theorem Thg.fit (t : Thg κ H x k d) (hk : k ≤ 2) : Fit d := by
  cases t with
  | five h => match k, hk with
    | 0, _ => exact ⟨by decide +kernel, by decide +kernel, by decide +kernel⟩
    | 1, _ => exact ⟨by decide +kernel, by decide +kernel, by decide +kernel⟩
    | 2, _ => exact ⟨by decide +kernel, by decide +kernel, by decide +kernel⟩
  | an h => match k, hk with
    | 0, _ => exact ⟨by decide +kernel, by decide +kernel, by decide +kernel⟩
    | 1, _ => exact ⟨by decide +kernel, by decide +kernel, by decide +kernel⟩
    | 2, _ => exact ⟨by decide +kernel, by decide +kernel, by decide +kernel⟩
  | nest h hq => match k, hk with
    | 0, _ => exact ⟨by decide +kernel, by decide +kernel, by decide +kernel⟩
    | 1, _ => exact ⟨by decide +kernel, by decide +kernel, by decide +kernel⟩
    | 2, _ => exact ⟨by decide +kernel, by decide +kernel, by decide +kernel⟩
  | _ => exact ⟨by decide +kernel, by decide +kernel, by decide +kernel⟩
/-- many: a small number, or the thing again -/
inductive Mny (x : V) (d : PyData) : V → PyData → Prop where
  | num (m : Int) (h0 : 0 ≤ m) (h1 : m < 60) : Mny x d (.int m) (.int m)
  | same : Mny x d x d
theorem num_fit (m : Int) (h0 : 0 ≤ m) (h1 : m < 60) : Fit (.int m) := by
  have e : m = (m.toNat : Int) := by omega
  have all : ∀ n : _root_.Fin 60, PyData.showable (.int (n.val : Int)) = true ∧ (PyData.shown (.int (n.val : Int))).length ≤ 100 ∧ PyData.depth (.int (n.val : Int)) ≤ 10 := by decide +kernel
  obtain ⟨a, b, c⟩ := all ⟨m.toNat, by omega⟩
  rw [e]
  exact ⟨a, b, c⟩
theorem text_le (ts : List Str) : (listText ts).length ≤ piled ts + 2 := by
  cases ts with
  | nil => decide +kernel
  | cons t r =>
    have h := textFrom_length_pos r 1 (("[" : Str) ++ (if (0 : Nat) > 0 then ", " else "" : String) ++ t) (Nat.succ_pos 0)
    have e : ((("[" : Str) ++ (if (0 : Nat) > 0 then ", " else "" : String) ++ t)).length = 1 + t.length := by
      rw [strLen_append, strLen_append]
      rfl
    have z : (listText (t :: r)).length = (textFrom 1 (("[" : Str) ++ (if (0 : Nat) > 0 then ", " else "" : String) ++ t) r).length + 1 := by
      show (textFrom 0 "[" (t :: r) ++ "]").length = _
      rw [strLen_append]
      rfl
    rw [z, h, e, piled_cons]
    omega
/-- the text of the nine values fits -/
theorem nine_fits {d e : PyData} (a : Fit d) (b : Fit e) :
    PyData.showableAll [d, d, d, d, d, e, e, e, e] = true ∧ (listText (PyData.shownAll [d, d, d, d, d, e, e, e, e])).length ≤ sizeLine ∧ PyData.depthAll [d, d, d, d, d, e, e, e, e] ≤ 40 := by
  refine ⟨?_, ?_, ?_⟩
  · simp [PyData.showableAll, a.sh, b.sh]
  · refine Nat.le_trans (text_le _) ?_
    have h1 := a.ln
    have h2 := b.ln
    simp only [PyData.shownAll, piled_cons, piled_nil]
    rw [sizeLine_eq]
    omega
  · have h1 := a.dp
    have h2 := b.dp
    simp only [PyData.depthAll]
    omega
end
end K91
set_option Elab.async false
set_option linter.all false
set_option maxRecDepth 100000
set_option maxHeartbeats 4000000
namespace K91
open PySem L2 VK
abbrev sLaw : Stmt := top 19
/-! ### loops over enumerate -/
theorem for_enum {K : Fg} {a : Addr} {xs : List V} {g : TG} {tb : TS} {D : Ends} {σ : L2.St} {H : Hp} (Pv : Nat → L2.St → Hp → Prop) (h0 : Pv 0 σ H) (hl : ∀ i σ H, i ≤ xs.length → Pv i σ H → SqL K H a xs)
    (hs : ∀ i x T σ H, xs[i]? = some x → Pv i σ H → H T = none → g (.ref T) σ (upd H T (.tup [.int (i : Nat), x])) fun σ2 H2 => tb { D with nx := Pv (i + 1), ct := Pv (i + 1), bk := D.nx } σ2 H2)
    (hd : ∀ σ H, Pv xs.length σ H → D.nx σ H) :
    ∃ W : Nat → Nat → L2.St → Hp → Prop, (∃ m, W 0 m σ H) ∧ ∀ i m σ H, W i m σ H →
      ((Ite K a).stop i H ∧ D.nx σ H) ∨ ((Ite K a).go i H ∧ ∃ N : L2.St → Hp → Prop, (∀ σ' H', N σ' H' → ∃ m', m' < m ∧ W (i + 1) m' σ' H') ∧ ∀ x H', (Ite K a).yld i H x H' → g x σ H' fun σ2 H2 => tb { D with nx := N, ct := N, bk := D.nx } σ2 H2) := by
  refine ⟨fun i m σ H => m = xs.length - i ∧ i ≤ xs.length ∧ Pv i σ H, ⟨xs.length, by simp, Nat.zero_le _, h0⟩, ?_⟩
  rintro i m σ H ⟨rfl, hi, p⟩
  have q := hl i σ H hi p
  rcases Nat.lt_or_ge i xs.length with hlt | hge
  · refine .inr ⟨⟨xs, xs[i], q, by simp [hlt]⟩, Pv (i + 1), fun σ' H' p' => ⟨xs.length - (i + 1), by omega, rfl, hlt, p'⟩, fun x H' y => ?_⟩
    obtain ⟨T, z, e1, e2, e3, e4⟩ := y
    subst e1 e3
    exact hs i z T σ H (e4 xs q) p e2
  · have e : i = xs.length := by omega
    subst e
    exact .inl ⟨⟨xs, q, Nat.le_refl _⟩, hd σ H p⟩
section
variable {κ : Kd} {H H' : Hp} {x : V} {k : Nat} {d : PyData} {K : Fg}
/-- what isinstance says of the thing -/
theorem Thg.isl (t : Thg κ H x k d) : ∃ S : String, TyX K H x (.type S) ∧ kitB S "list" = some (decide (κ = .lst)) ∧ kitB S "dict" = some (decide (κ = .dct)) := by
  cases t with
  | five h => exact ⟨"list", .base (.lst h), by decide +kernel, by decide +kernel⟩
  | an h => exact ⟨"list", .base (.lst h), by decide +kernel, by decide +kernel⟩
  | nest h hq => exact ⟨"list", .base (.lst h), by decide +kernel, by decide +kernel⟩
  | dct0 h => exact ⟨"dict", .base (.dK h), by decide +kernel, by decide +kernel⟩
  | dct1 h => exact ⟨"dict", .base (.dK h), by decide +kernel, by decide +kernel⟩
  | tup h => exact ⟨"tuple", .base (.tup h), by decide +kernel, by decide +kernel⟩
  | non => exact ⟨"NoneType", .base .non, by decide +kernel, by decide +kernel⟩
  | str => exact ⟨"str", .base (.str _), by decide +kernel, by decide +kernel⟩
  | bl => exact ⟨"bool", .base (.bl _), by decide +kernel, by decide +kernel⟩
  | int => exact ⟨"int", .base (.int _), by decide +kernel, by decide +kernel⟩
theorem nul_app (k : Nat) : nul k ++ [V.int 0] = nul (k + 1) := by
  show List.replicate k (V.int 0) ++ [V.int 0] = _
  rw [← List.replicate_succ']
/-- thing.append(0) -/
theorem Thg.app (t : Thg .lst H x k d) (hk : k ≤ 3) : ∃ (p : Addr) (xs : List V) (d' : PyData), x = .ref p ∧ H p = some (.lst xs) ∧ xs.length < 9 ∧ Thg .lst (upd H p (.lst (xs ++ [.int 0]))) x (k + 1) d' := by
  cases t with
  | @five _ p k h =>
    refine ⟨p, _, _, rfl, h, by simp; omega, .five (k := k + 1) ?_⟩
    rw [upd_same, List.cons_append, nul_app]
  | @an _ p k h =>
    refine ⟨p, _, _, rfl, h, by simp; omega, .an (k := k + 1) ?_⟩
    rw [upd_same, List.cons_append, List.cons_append, nul_app]
  | @nest _ p q k h hq =>
    have ne : q ≠ p := ne_of hq h (fun z => by cases z)
    refine ⟨p, _, _, rfl, h, by simp; omega, .nest (q := q) (k := k + 1) ?_ ?_⟩
    · rw [upd_same, List.cons_append, nul_app]
    · rw [upd_ne ne]
      exact hq
/-- thing['more'] = 0 -/
theorem Thg.put (t : Thg .dct H x k d) : ∃ (p : Addr) (kvs : List (Key × V)) (d' : PyData), x = .ref p ∧ H p = some (.dK kvs) ∧ kvs.length < 9 ∧ Thg .dct (upd H p (.dK (putK kvs (.inr "more") (.int 0)))) x (k + 1) d' := by
  cases t with
  | @dct0 _ p h =>
    have e : putK ([(.inr "a", .int 1)] : List (Key × V)) (.inr "more") (.int 0) = [(.inr "a", .int 1), (.inr "more", .int 0)] := by decide +kernel
    exact ⟨p, _, _, rfl, h, by decide, .dct1 (k := 0) (by rw [upd_same, e])⟩
  | @dct1 _ p k h =>
    have e : putK ([(.inr "a", .int 1), (.inr "more", .int 0)] : List (Key × V)) (.inr "more") (.int 0) = [(.inr "a", .int 1), (.inr "more", .int 0)] := by decide +kernel
    exact ⟨p, _, _, rfl, h, by decide, .dct1 (k := k + 1) (by rw [upd_same, e])⟩
theorem Thg.more (t : Thg .oth H x k d) : Thg .oth H x (k + 1) d := by
  cases t with
  | tup h => exact .tup h
  | non => exact .non
  | str => exact .str
  | bl => exact .bl
  | int => exact .int
theorem Thg.there (t : Thg κ H x k d) {b : Addr} (e : x = .ref b) : ∃ o, H b = some o := by
  cases t with
  | five h => cases e; exact ⟨_, h⟩
  | an h => cases e; exact ⟨_, h⟩
  | nest h hq => cases e; exact ⟨_, h⟩
  | dct0 h => cases e; exact ⟨_, h⟩
  | dct1 h => cases e; exact ⟨_, h⟩
  | tup h => cases e; exact ⟨_, h⟩
  | non => cases e
  | str => cases e
  | bl => cases e
  | int => cases e
theorem err_upd {a C p : Addr} {fs : List (Str × V)} {o u : HO} (e : ErrAt H a C fs) (hp : H p = some o) (ho : (∃ xs, o = .lst xs) ∨ ∃ kvs, o = .dK kvs) : ErrAt (upd H p u) a C fs := by
  obtain ⟨dd, e1, e2⟩ := e
  refine ⟨dd, ?_, ?_⟩
  · rw [upd_ne (ne_of e1 hp (by rcases ho with ⟨xs, rfl⟩ | ⟨xs, rfl⟩ <;> exact fun z => by cases (show HO.ext _ = _ from z)))]
    exact e1
  · rw [upd_ne (ne_of e2 hp (by rcases ho with ⟨xs, rfl⟩ | ⟨xs, rfl⟩ <;> exact fun z => by cases (show HO.ext _ = _ from z)))]
    exact e2
theorem errs_upd {p : Addr} {o u : HO} (hp : H p = some o) (ho : (∃ xs, o = .lst xs) ∨ ∃ kvs, o = .dK kvs) : ∀ {as : List Addr} {rows : List (Addr × Str × V)}, ErrsAt H as rows → ErrsAt (upd H p u) as rows
  | _, _, .nil => .nil
  | _, _, .cons h t => .cons (err_upd h hp ho) (errs_upd hp ho t)
end
/-- between two turns of the loop over the two rows of errors -/
structure Now (C : Nat → Addr) (H0 H : Hp) (κ : Kd) (x y : V) (k : Nat) (d : PyData) (p1 p2 L : Addr) (as1 as2 : List Addr) : Prop where
  base : Same H0 H
  th : Thg κ H x k d
  fr : ∀ b, x = .ref b → H0 b = none ∧ b ≠ p1 ∧ b ≠ p2 ∧ b ≠ L
  l1 : H p1 = some (.lst (as1.map V.ref))
  l2 : H p2 = some (.lst (as2.map V.ref))
  lL : H L = some (.lst [.ref p1, .ref p2])
  e1 : ErrsAt H as1 (Rows C x y)
  e2 : ErrsAt H as2 (Rows C x y)
section
variable {C : Nat → Addr} {H0 H H' : Hp} {κ : Kd} {x y : V} {k : Nat} {d : PyData} {p1 p2 L : Addr} {as1 as2 : List Addr}
theorem Now.same (n : Now C H0 H κ x y k d p1 p2 L as1 as2) (s : Same H H') : Now C H0 H' κ x y k d p1 p2 L as1 as2 :=
  ⟨n.base.trans s, n.th.same s, n.fr, s _ _ n.l1, s _ _ n.l2, s _ _ n.lL, errs_same s n.e1, errs_same s n.e2⟩
theorem Now.upd {b : Addr} {o u : HO} {k' : Nat} {d' : PyData} (n : Now C H0 H κ x y k d p1 p2 L as1 as2) (ex : x = .ref b) (hb : H b = some o) (ho : (∃ xs, o = .lst xs) ∨ ∃ kvs, o = .dK kvs)
    (t : Thg κ (upd H b u) x k' d') : Now C H0 (upd H b u) κ x y k' d' p1 p2 L as1 as2 := by
  obtain ⟨f0, f1, f2, f3⟩ := n.fr b ex
  refine ⟨fun c v e => ?_, t, n.fr, ?_, ?_, ?_, errs_upd hb ho n.e1, errs_upd hb ho n.e2⟩
  · rw [upd_ne (ne_of_none e f0)]
    exact n.base c v e
  · rw [upd_ne f1.symm]
    exact n.l1
  · rw [upd_ne f2.symm]
    exact n.l2
  · rw [upd_ne f3.symm]
    exact n.lL
end
end K91
set_option Elab.async false
set_option linter.all false
set_option maxRecDepth 100000
set_option maxHeartbeats 8000000
namespace K91
open PySem L2 VK
def spLaw (K : Fg) : Sp := fun vs H Q _ => ∃ (a : Addr) (ns : List Int), vs = [.ref a] ∧ SqL K H a (ns.map V.int) ∧ ns.length ≤ 63 ∧ Bits ns ∧ ∀ H', Q (.bl true) H'
abbrev NL : List Str := ["script", "start", "source", "thing", "many", "errors", "at", "error", "spot"]
theorem scL : FnScope NL ["script"] (defScope sLaw) := ⟨rfl, rfl, rfl, by decide +kernel, rfl, by decide +kernel, by decide +kernel⟩
/-- the defs that the law calls -/
structure Defs (K : Fg) (mg : Str → Option Value) (fS fD fP fK fB fN fR : Addr) (dS dD dP dK dB dN dR : FuncData) : Prop where
  gS : mg "_law_source" = some (.ref fS)
  gD : mg "_law_draw" = some (.ref fD)
  gP : mg "_law_pick" = some (.ref fP)
  gK : mg "_law_kinds" = some (.ref fK)
  gB : mg "_law_by_place" = some (.ref fB)
  gN : mg "_law_by_name" = some (.ref fN)
  gR : mg "_law_stored" = some (.ref fR)
  FS : Fun K "_law_source" "_law_source" sSource fS dS
  FD : Fun K "_law_draw" "_law_draw" sDraw fD dD
  FP : Fun K "_law_pick" "_law_pick" sPick fP dP
  FK : Fun K "_law_kinds" "_law_kinds" sKinds fK dK
  FB : Fun K "_law_by_place" "_law_by_place" sPlace fB dB
  FN : Fun K "_law_by_name" "_law_by_name" sName fN dN
  FR : Fun K "_law_stored" "_law_stored" sStored fR dR
  bS : Binds K dS ["script", "start"] []
  bD : Binds K dD ["stream", "span"] []
  bP : Binds K dP ["stream", "things"] []
  bK : Binds K dK ["error"] []
  bB : Binds K dB ["thing", "many"] []
  bN : Binds K dN ["thing", "many"] []
  bR : Binds K dR ["errors"] []
/-- the base class of the errors -/
structure Base (K : Fg) (mg : Str → Option Value) (C : Nat → Addr) (S : Addr) : Prop where
  g : mg "StreamError" = some (.ref S)
  ks : ∀ i, i < 9 → PySem.W.kitOne K (.ref (C i)) (.ref S) = some true
  kv : ∀ i, i < 9 → PySem.W.kitOne K (.ref (C i)) (.type "ValueError") = some true
theorem boot_repr' : bootBuiltins "repr" = some (.builtin "repr") := by decide +kernel
theorem boot_vle : bootBuiltins "ValueError" = some (.type "ValueError") := by decide +kernel
/-- the error at a place of the row -/
theorem errs_at {C : Nat → Addr} {H : Hp} {as : List Addr} {x y : V} (e : ErrsAt H as (Rows C x y)) {i : Nat} {v : V} (h : (as.map V.ref)[i]? = some v) :
    ∃ (a : Addr) (fs : List (Str × V)), v = .ref a ∧ i < 9 ∧ ErrAt H a (C i) fs := by
  rw [List.getElem?_map] at h
  cases ha : as[i]? with
  | none => rw [ha] at h; cases h
  | some a =>
    rw [ha] at h
    obtain ⟨r, hr, he⟩ := paired_get e ha
    have hi : i < 9 := (List.getElem?_eq_some_iff.mp hr).1
    have e2 : r.1 = C i := by
      match i, hi, hr with
      | 0, _, hr => cases hr; rfl
      | 1, _, hr => cases hr; rfl
      | 2, _, hr => cases hr; rfl
      | 3, _, hr => cases hr; rfl
      | 4, _, hr => cases hr; rfl
      | 5, _, hr => cases hr; rfl
      | 6, _, hr => cases hr; rfl
      | 7, _, hr => cases hr; rfl
      | 8, _, hr => cases hr; rfl
    rw [e2] at he
    exact ⟨a, _, (Option.some.inj h).symm, hi, he⟩
theorem dp_bools {K : Fg} {H : Hp} : ∀ bs : List Bool, DpAll K H (bs.map V.bl) (bs.map PyData.bool)
  | [] => .nil
  | b :: bs => .cons (.bl b) (dp_bools bs)
theorem lay_bools : ∀ bs : List Bool, PyData.canLayAll0 (bs.map PyData.bool) = true ∧ PyData.depthAll (bs.map PyData.bool) ≤ 1
  | [] => ⟨rfl, by decide⟩
  | b :: bs => by
    obtain ⟨h1, h2⟩ := lay_bools bs
    refine ⟨?_, ?_⟩
    · show PyData.canLayAll0 (PyData.bool b :: bs.map PyData.bool) = true
      simp only [PyData.canLayAll0, PyData.canLay0, h1, Bool.and_self]
    · show PyData.depthAll (PyData.bool b :: bs.map PyData.bool) ≤ 1
      simp only [PyData.depthAll, PyData.depth]
      omega
theorem bools_shaped (bs : List Bool) : SeqAt.shaped (.list (bs.map PyData.bool)) = true := by
  obtain ⟨h1, h2⟩ := lay_bools bs
  have a : PyData.canLay0 (.list (bs.map PyData.bool)) = true := by simpa [PyData.canLay0] using h1
  have b : PyData.depth (.list (bs.map PyData.bool)) ≤ 64 := by simp only [PyData.depth]; omega
  unfold SeqAt.shaped
  rw [a, decide_eq_true b]
  rfl
theorem dec_spot (s i : Nat) : decide (V.int (0 + (s : Int)) = V.int (i : Int)) = decide (s = i) := by
  by_cases e : s = i
  · subst e
    simp
  · rw [decide_eq_false e, decide_eq_false]
    intro z
    have := V.int.inj z
    omega
theorem But.base {p : Addr} {H0 H H' : Hp} (b : But p H H') (s : Same H0 H) (n : H0 p = none) : Same H0 H' := fun c o e =>
  (b c (ne_of_none e n)).trans (s c o e)
theorem Strm.same {H H' : Hp} {p : Addr} (h : Strm H p) (s : Same H H') : Strm H' p := by
  obtain ⟨r, m, e, b⟩ := h
  exact ⟨r, m, s _ _ e, b⟩
theorem Strm.ne {H : Hp} {p q : Addr} (h : Strm H p) (n : H q = none) : q ≠ p := by
  obtain ⟨r, m, e, _⟩ := h
  exact (ne_of_none e n).symm
theorem Mny.at {x y : V} {d d' e : PyData} (m : Mny x d y e) : ∃ e', Mny x d' y e' := by
  cases m with
  | num m h0 h1 => exact ⟨_, .num m h0 h1⟩
  | same => exact ⟨_, .same⟩
theorem Mny.fit {x y : V} {d e : PyData} (m : Mny x d y e) (f : Fit d) : Fit e := by
  cases m with
  | num m h0 h1 => exact num_fit m h0 h1
  | same => exact f
theorem Mny.shw {K : Fg} {H : Hp} {x y : V} {d e : PyData} (m : Mny x d y e) (f : ShwV K H x d) : ShwV K H y e := by
  cases m with
  | num m h0 h1 => exact .data (.int m) rfl
  | same => exact f
theorem shw_nine {K : Fg} {H : Hp} {x y : V} {d e : PyData} (a : ShwV K H x d) (b : ShwV K H y e) : ShwAll K H [x, x, x, x, x, y, y, y, y] [d, d, d, d, d, e, e, e, e] :=
  .cons a (.cons a (.cons a (.cons a (.cons a (.cons b (.cons b (.cons b (.cons b .nil))))))))
theorem spots (u t : Nat) : ((List.range u).map fun s => decide (s = t)).map V.bl ++ [V.bl (decide (V.int (0 + (u : Int)) = V.int (t : Int)))] = ((List.range (u + 1)).map fun s => decide (s = t)).map V.bl := by
  rw [dec_spot, List.range_succ, List.map_append, List.map_append]
  rfl
section
variable {P : Program} {w : World} {K : Fg} {mg : Str → Option Value} {base : Heap} {fS fD fP fK fB fN fR : Addr} {dS dD dP dK dB dN dR : FuncData} {C I : Nat → Addr} {D : Nat → FuncData} {S : Addr}
theorem run_law {f : Addr} {fd : FuncData} (F : Fun K "law" "law" sLaw f fd) (N : Nm mg) (T : Nine K mg C I D) (B : Base K mg C S) (Z : Defs K mg fS fD fP fK fB fN fR dS dD dP dK dB dN dR) :
    RunAt P w K mg base PySem.callerA f fd ["script"] (spLaw K) := by
  have GS : FnOk P w K mg base CX0 1 fS dS ["script", "start"] (spSource K) := ok_source Z.FS N
  have GD : FnOk P w K mg base CX0 1 fD dD ["stream", "span"] spDraw := ok_draw Z.FD N
  have GP : FnOk P w K mg base CX0 2 fP dP ["stream", "things"] (spPick K) := ok_pick Z.FP N Z.gD Z.FD Z.bD
  have GK : FnOk P w K mg base CX0 1 fK dK ["error"] (spKinds C) := ok_kinds Z.FK N T
  have GB : FnOk P w K mg base CX0 3 fB dB ["thing", "many"] (spMake C) := ok_Place Z.FB T
  have GN : FnOk P w K mg base CX0 3 fN dN ["thing", "many"] (spMake C) := ok_Name Z.FN T
  have GR : FnOk P w K mg base CX0 1 fR dR ["errors"] (spStored C) := ok_stored Z.FR N T
  refine runAt_of (k := 3) F scL (fun vs H Q E h => ?_) ⟨rfl, by decide, by decide⟩ (fun cdv outer s H vs Q E hr h => ?_)
  · obtain ⟨a, ns, rfl, _⟩ := h
    rfl
  · obtain ⟨a, ns, rfl, hS, hlen, hbits, kk⟩ := h
    have hu := hu_of hr
    have hr1 : Room 1 _ := hr.mono (by decide)
    have hr2 : Room 2 _ := hr.mono (by decide)
    refine ⟨_, pss_cons (ps_for PassesOwn.never rfl
        (pi_range1 rfl N.range (pa_cons (pe_callB (call_max2 rfl) (by rfl) N.max PyProof.Rows.boot_max (pa_cons pe_int (pa_cons (pe_callB (call_min2 rfl) (by rfl) N.min PyProof.Rows.boot_min
          (pa_cons pe_int (pa_cons (pe_callB call_len_seq (by rfl) N.len PySem.boot_len (pa_cons (pv 0) pa_nil)) pa_nil))) pa_nil))) pa_nil))
        (pg_name (i := 1) scL.nd rfl (Or.inl rfl))
        (pss_cons (ps_set (i := 2) scL.nd rfl (Or.inl rfl) (pe_call GS hr1 rfl Z.gS Z.FS.kp Z.bS .nil pass0 (pa_cons (pv 0) (pa_cons (pv 1) pa_nil))))
        (pss_cons (ps_set (i := 3) scL.nd rfl (Or.inl rfl) (pe_call GP hr2 rfl Z.gP Z.FP.kp Z.bP .nil pass0 (pa_cons (pv 2) (pa_cons
          (pe_lst (pa_cons (pe_lst (pa_cons pe_int pa_nil)) (pa_cons (pe_lst (pa_cons pe_str (pa_cons pe_non pa_nil))) (pa_cons (pe_lst (pa_cons (pe_lst pa_nil) pa_nil))
            (pa_cons (pe_disp (pps_cons pe_str pe_int pps_nil) rfl rfl (fun z => by cases z) (by decide)) (pa_cons pe_non (pa_cons pe_str (pa_cons (pe_tup (pa_cons pe_int pa_nil))
              (pa_cons pe_bl (pa_cons (pe_op op_sub pe_int pe_int) pa_nil)))))))))) pa_nil))))
        (pss_cons (ps_set (i := 4) scL.nd rfl (Or.inl rfl) (pe_call GP hr2 rfl Z.gP Z.FP.kp Z.bP .nil pass0 (pa_cons (pv 2) (pa_cons
          (pe_lst (pa_cons (pe_call GD hr1 rfl Z.gD Z.FD.kp Z.bD .nil pass0 (pa_cons (pv 2) (pa_cons pe_int pa_nil))) (pa_cons (pv 3) (pa_cons (pv 3) pa_nil)))) pa_nil))))
        (pss_one (ps_for PassesOwn.never rfl
          (pi_list (pe_lst (pa_cons (pe_call GB hr rfl Z.gB Z.FB.kp Z.bB .nil pass0 (pa_cons (pv 3) (pa_cons (pv 4) pa_nil))) (pa_cons (pe_call GN hr rfl Z.gN Z.FN.kp Z.bN .nil pass0 (pa_cons (pv 3) (pa_cons (pv 4) pa_nil))) pa_nil))))
          (pg_name (i := 5) scL.nd rfl (Or.inl rfl))
          (pss_cons (ps_for PassesOwn.never rfl (pi_enum (by rfl) N.enm (pa_cons (pv 5) pa_nil))
            (pg_tup rfl (pgs_cons (pg_name (i := 6) scL.nd rfl (Or.inr rfl)) (pgs_cons (pg_name (i := 7) scL.nd rfl (Or.inl rfl)) pgs_nil)))
            (pss_cons (ps_if (PW.pt (pw_or
                (pt_not (pt_val (pe_callB call_errIs (by rfl) N.isi PyProof.Rows.boot_isinstance (pa_cons (pv 7) (pa_cons (pe_glob (v := .ref S) rfl B.g rfl) pa_nil)))))
                (pw_or1 (pt_not (pt_val (pe_callB call_errIs (by rfl) N.isi PyProof.Rows.boot_isinstance (pa_cons (pv 7) (pa_cons (pe_bltn (v := .ty "ValueError") (by rfl) N.vle boot_vle rfl) pa_nil))))))))
              (pss_one (ps_ret pe_bl)) pss_nil)
            (pss_one (ps_if (pt_cmpR (op_neD hr.units) (pe_call GK hr1 rfl Z.gK Z.FK.kp Z.bK .nil pass0 (pa_cons (pv 7) pa_nil))
                (pe_lc (own := [("spot", 8)]) (g := gName 8) (tt := tYes) (te := tOp rEq (tVar 8) (tVar 6)) rfl scL.nd (pi_range1 rfl N.range (pa_cons pe_int pa_nil)) (blkOk_by (N := NL) (sc := defScope sLaw) (by decide +kernel))
                  (fun _ _ _ _ _ => pg_name (i := 8) scL.nd rfl (Or.inl rfl)) (fun _ _ _ _ _ => pts_nil) (fun _ _ _ _ _ => by exact pe_cmpR op_eq (pv 8) (pv 6) (nomark _))) (nomark _))
              (pss_one (ps_ret pe_bl)) pss_nil))))
          (pss_cons (ps_if (pt_val (pe_callB call_isi (by rfl) N.isi PyProof.Rows.boot_isinstance (pa_cons (pv 3) (pa_cons (pe_bltn (v := .ty "list") (by rfl) N.lst PyProof.Rows.boot_list rfl) pa_nil))))
            (pss_one (ps_expr (pe_bm PySem.F.plainAttrs_list PySem.F.slot_list_append PySem.F.type_list_append mt_append (pv 3) (pa_cons pe_int pa_nil)))) pss_nil)
          (pss_cons (ps_if (pt_val (pe_callB call_isi (by rfl) N.isi PyProof.Rows.boot_isinstance (pa_cons (pv 3) (pa_cons (pe_bltn (v := .ty "dict") (by rfl) N.dct PyProof.Rows.boot_dict rfl) pa_nil))))
            (pss_one (ps_dput hu (pv 3) pe_str pe_int rfl)) pss_nil)
          (pss_one (ps_if (pt_cmpR op_ne
              (pe_callB (call_show rfl hr.units) (by rfl) N.repr boot_repr' (pa_cons (pe_call GR hr1 rfl Z.gR Z.FR.kp Z.bR .nil pass0 (pa_cons (pv 5) pa_nil)) pa_nil))
              (pe_callB (call_show rfl hr.units) (by rfl) N.repr boot_repr' (pa_cons (pe_op op_cat (pe_op op_rep (pe_lst (pa_cons (pv 3) pa_nil)) pe_int) (pe_op op_rep (pe_lst (pa_cons (pv 4) pa_nil)) pe_int)) pa_nil)) (nomark _))
            (pss_one (ps_ret pe_bl)) pss_nil)))))))))))
      (pss_one (ps_ret pe_bl)), ?_⟩
    -- how often the outer loop turns
    have hj : ∀ n : Nat, n ≤ 63 → (1 : Int) ≤ (if (if (n : Int) < 4 then (n : Int) else 4) > 1 then (if (n : Int) < 4 then (n : Int) else 4) else 1) ∧ (if (if (n : Int) < 4 then (n : Int) else 4) > 1 then (if (n : Int) < 4 then (n : Int) else 4) else 1) ≤ 4 := by
      intro n hn
      split <;> split <;> omega
    have hj' := hj (ns.map V.int).length (by rw [List.length_map]; exact hlen)
    generalize hJ : (if (if ((ns.map V.int).length : Int) < 4 then ((ns.map V.int).length : Int) else 4) > 1 then (if ((ns.map V.int).length : Int) < 4 then ((ns.map V.int).length : Int) else 4) else 1) = J at hj'
    refine ⟨_, rfl, a, _, rfl, .inl hS, _, _, rfl, _, _, rfl, J, by rw [← hJ], by omega, by omega, ?_⟩
    refine for_range (lo := 0) (n := J.toNat) (fun _ σ H' => Same H H' ∧ ∃ v1 v2 v3 v4 v5 v6 v7 : Option V, σ = [some (.ref a), v1, v2, v3, v4, v5, v6, v7, none])
      ⟨Same.refl _, _, _, _, _, _, _, _, rfl⟩ ?_ (fun σ H' _ => kk H')
    rintro i σ H1 hi ⟨s1, v1, v2, v3, v4, v5, v6, v7, rfl⟩
    -- source
    refine ⟨_, rfl, _, rfl, a, ns, _, rfl, s1.seq hS, hlen, hbits, by omega, by omega, fun src H2 nsrc st2 but2 => ?_⟩
    have s2 : Same H H2 := But.base but2 s1 (s1.free nsrc)
    have nS : H src = none := s1.free nsrc
    -- thing
    refine ⟨_, rfl, by show 1 ≤ sizeLine; decide, fun q1 m1 => ?_⟩
    have f1 : upd H2 q1 (.lst [.int 5]) q1 = some (.lst [.int 5]) := upd_same
    have t1 : Same H2 (upd H2 q1 (.lst [.int 5])) := same_new m1
    have o1 : H q1 = none := s2.free m1
    generalize upd H2 q1 (.lst [.int 5]) = G1 at f1 t1
    refine ⟨by show 2 ≤ sizeLine; decide, fun q2 m2 => ?_⟩
    have f2 : upd G1 q2 (.lst [.str "a", .non]) q2 = some (.lst [.str "a", .non]) := upd_same
    have t2 : Same G1 (upd G1 q2 (.lst [.str "a", .non])) := same_new m2
    have o2 : H q2 = none := (s2.trans t1).free m2
    generalize upd G1 q2 (.lst [.str "a", .non]) = G2 at f2 t2
    refine ⟨by show 0 ≤ sizeLine; decide, fun q3 m3 => ?_⟩
    have f3 : upd G2 q3 (.lst []) q3 = some (.lst []) := upd_same
    have t3 : Same G2 (upd G2 q3 (.lst [])) := same_new m3
    generalize upd G2 q3 (.lst []) = G3 at f3 t3
    refine ⟨by show 1 ≤ sizeLine; decide, fun q4 m4 => ?_⟩
    have f4 : upd G3 q4 (.lst [.ref q3]) q4 = some (.lst [.ref q3]) := upd_same
    have t4 : Same G3 (upd G3 q4 (.lst [.ref q3])) := same_new m4
    have o4 : H q4 = none := (s2.trans (t1.trans (t2.trans t3))).free m4
    generalize upd G3 q4 (.lst [.ref q3]) = G4 at f4 t4
    intro q5 m5
    refine ⟨upd_same, [(.inr "a", .int 1)], rfl, by decide, ?_⟩
    have em : mergeK [] [((.inr "a" : Key), V.int 1)] = [(.inr "a", .int 1)] := by decide +kernel
    rw [em, upd_upd]
    have f5 : upd G4 q5 (.dK [(.inr "a", .int 1)]) q5 = some (.dK [(.inr "a", .int 1)]) := upd_same
    have t5 : Same G4 (upd G4 q5 (.dK [(.inr "a", .int 1)])) := same_new m5
    have o5 : H q5 = none := (s2.trans (t1.trans (t2.trans (t3.trans t4)))).free m5
    generalize upd G4 q5 (.dK [(.inr "a", .int 1)]) = G5 at f5 t5
    refine ⟨by show 1 ≤ sizeLine; decide, fun q6 m6 => ?_⟩
    have f6 : upd G5 q6 (.tup [.int 1]) q6 = some (.tup [.int 1]) := upd_same
    have t6 : Same G5 (upd G5 q6 (.tup [.int 1])) := same_new m6
    have o6 : H q6 = none := (s2.trans (t1.trans (t2.trans (t3.trans (t4.trans t5))))).free m6
    generalize upd G5 q6 (.tup [.int 1]) = G6 at f6 t6
    refine ⟨_, _, rfl, rfl, by show 9 ≤ sizeLine; decide, fun q7 m7 => ?_⟩
    have all6 : Same H2 G6 := t1.trans (t2.trans (t3.trans (t4.trans (t5.trans t6))))
    have st6 : Strm G6 src := Strm.same st2 all6
    have n7 : q7 ≠ src := Strm.ne st6 m7
    refine ⟨src, q7, [.ref q1, .ref q2, .ref q4, .ref q5, .non, .str "x", .ref q6, .bl true, .int (0 - 3)], rfl, Strm.same st6 (same_new m7), SqL.of upd_same, n7, (fun z => by cases z), by show 9 < 1000; decide, fun x H4 hx st4 but4 => ?_⟩
    have t7 : Same G6 (upd G6 q7 (.lst [.ref q1, .ref q2, .ref q4, .ref q5, .non, .str "x", .ref q6, .bl true, .int (0 - 3)])) := same_new m7
    have st7 : Strm (upd G6 q7 (.lst [.ref q1, .ref q2, .ref q4, .ref q5, .non, .str "x", .ref q6, .bl true, .int (0 - 3)])) src := Strm.same st6 t7
    generalize upd G6 q7 (.lst [.ref q1, .ref q2, .ref q4, .ref q5, .non, .str "x", .ref q6, .bl true, .int (0 - 3)]) = G7 at t7 st7 but4
    have s7 : Same H G7 := s2.trans (all6.trans t7)
    have s4 : Same H H4 := But.base but4 s7 nS
    obtain ⟨κ, d0, th4, fresh⟩ : ∃ κ d, Thg κ H4 x 0 d ∧ ∀ b, x = .ref b → H b = none := by
      have up : ∀ {κ : Kd} {d : PyData}, Thg κ G7 x 0 d → Thg κ H4 x 0 d := fun t => t.but st7 but4
      simp only [List.mem_cons, List.not_mem_nil, or_false] at hx
      rcases hx with rfl | rfl | rfl | rfl | rfl | rfl | rfl | rfl | rfl
      · exact ⟨_, _, up (.five (k := 0) ((t2.trans (t3.trans (t4.trans (t5.trans (t6.trans t7))))) _ _ f1)), fun b e => by cases e; exact o1⟩
      · exact ⟨_, _, up (.an (k := 0) ((t3.trans (t4.trans (t5.trans (t6.trans t7)))) _ _ f2)), fun b e => by cases e; exact o2⟩
      · exact ⟨_, _, up (.nest (k := 0) ((t5.trans (t6.trans t7)) _ _ f4) ((t4.trans (t5.trans (t6.trans t7))) _ _ f3)), fun b e => by cases e; exact o4⟩
      · exact ⟨_, _, up (.dct0 ((t6.trans t7) _ _ f5)), fun b e => by cases e; exact o5⟩
      · exact ⟨_, _, up .non, fun b e => by cases e⟩
      · exact ⟨_, _, up .str, fun b e => by cases e⟩
      · exact ⟨_, _, up (.tup (t7 _ _ f6)), fun b e => by cases e; exact o6⟩
      · exact ⟨_, _, up .bl, fun b e => by cases e⟩
      · exact ⟨_, _, up .int, fun b e => by cases e⟩
    -- many
    refine ⟨_, rfl, _, rfl, src, 60, rfl, st4, by decide, by decide, fun m H5 m0 m1' st5 but5 => ?_⟩
    have s5 : Same H H5 := But.base but5 s4 nS
    have th5 := th4.but st4 but5
    refine ⟨_, rfl, _, rfl, by show 3 ≤ sizeLine; decide, fun q8 m8 => ?_⟩
    have t8 : Same H5 (upd H5 q8 (.lst [.int m, x, x])) := same_new m8
    have st8 := Strm.same st5 t8
    refine ⟨src, q8, [.int m, x, x], rfl, st8, SqL.of upd_same, Strm.ne st5 m8, (fun z => by cases z), by show 3 < 1000; decide, fun y H7 hy st9 but7 => ?_⟩
    have th7 := (th5.same t8).but st8 but7
    have s9 : Same H H7 := But.base but7 (s5.trans t8) nS
    obtain ⟨e0, my⟩ : ∃ e, Mny x d0 y e := by
      simp only [List.mem_cons, List.not_mem_nil, or_false] at hy
      rcases hy with rfl | rfl | rfl
      · exact ⟨_, .num m m0 m1'⟩
      · exact ⟨_, .same⟩
      · exact ⟨_, .same⟩
    -- the two rows of errors
    refine ⟨_, rfl, _, rfl, x, y, rfl, fun p1 as1 H8 u8 n1 l1 e1 => ?_⟩
    refine ⟨_, rfl, _, rfl, x, y, rfl, fun p2 as2 H9 u9 n2 l2 e2 => ?_⟩
    refine ⟨by show 2 ≤ sizeLine; decide, fun L nL => ⟨L, rfl, ⟨_, SqL.of upd_same⟩, ?_⟩⟩
    have uL : Same H9 (upd H9 L (.lst [.ref p1, .ref p2])) := same_new nL
    have now0 : Now C H (upd H9 L (.lst [.ref p1, .ref p2])) κ x y 0 d0 p1 p2 L as1 as2 := by
      refine ⟨s9.trans (u8.trans (u9.trans uL)), th7.same (u8.trans (u9.trans uL)), fun b e => ?_, (u9.trans uL) _ _ l1, uL _ _ l2, upd_same, errs_same (u9.trans uL) e1, errs_same uL e2⟩
      obtain ⟨o, ho⟩ := th7.there e
      exact ⟨fresh b e, ne_of_none ho n1, ne_of_none (u8 _ _ ho) n2, ne_of_none ((u8.trans u9) _ _ ho) nL⟩
    refine for_list (K := K) (a := L) (xs := [.ref p1, .ref p2]) (fun j σ G => ∃ (d e : PyData) (v5 v6 v7 : Option V),
        σ = [some (.ref a), some (.int (0 + (i : Int))), some (.ref src), some x, some y, v5, v6, v7, none] ∧ Now C H G κ x y j d p1 p2 L as1 as2 ∧ Mny x d y e)
      ⟨d0, e0, _, _, _, rfl, now0, my⟩ (fun j σ G _ q => by obtain ⟨_, _, _, _, _, _, n, _⟩ := q; exact SqL.of n.lL) ?_ ?_
    · rintro j z σ G hz ⟨d, e, v5, v6, v7, rfl, now, my⟩
      have hj2 : j < 2 := (List.getElem?_eq_some_iff.mp hz).1
      obtain ⟨pj, asj, rfl, look⟩ : ∃ (pj : Addr) (asj : List Addr), z = .ref pj ∧ ∀ {G' : Hp} {k' : Nat} {d' : PyData}, Now C H G' κ x y k' d' p1 p2 L as1 as2 → G' pj = some (.lst (asj.map V.ref)) ∧ ErrsAt G' asj (Rows C x y) := by
        match j, hz with
        | 0, hz => exact ⟨p1, as1, (Option.some.inj hz).symm, fun n => ⟨n.l1, n.e1⟩⟩
        | 1, hz => exact ⟨p2, as2, (Option.some.inj hz).symm, fun n => ⟨n.l2, n.e2⟩⟩
      refine ⟨_, rfl, pj, _, rfl, SqL.of (look now).1, ?_⟩
      refine for_enum (K := K) (a := pj) (xs := asj.map V.ref) (fun _ σ G' => ∃ v6 v7 : Option V,
          σ = [some (.ref a), some (.int (0 + (i : Int))), some (.ref src), some x, some y, some (.ref pj), v6, v7, none] ∧ Now C H G' κ x y j d p1 p2 L as1 as2)
        ⟨v6, v7, rfl, now⟩ (fun t σ G' _ q => by obtain ⟨_, _, _, n⟩ := q; exact SqL.of (look n).1) ?_ ?_
      · rintro t v T' σ G' ht ⟨w6, w7, rfl, now'⟩ hT'
        refine ⟨T', _, rfl, SqT.of upd_same, rfl, _, _, rfl, _, _, rfl, rfl, ?_⟩
        have now2 := now'.same (same_new (o := .tup [.int (t : Int), v]) hT')
        generalize upd G' T' (.tup [.int (t : Int), v]) = G2 at now2
        obtain ⟨at', fs, rfl, t9, ea⟩ := errs_at (look now2).2 ht
        -- if not isinstance ..: return False
        refine ⟨_, rfl, at', C t, fs, .ref S, _, _, rfl, T.ei t t9, ea, .own S, B.ks t t9, true, rfl, ?_⟩
        refine iteF (A := True) ?_
        refine ⟨_, rfl, at', C t, fs, .ty "ValueError", _, _, rfl, T.ei t t9, ea, .ty "ValueError", B.kv t t9, true, rfl, ?_⟩
        refine iteF (A := True) ?_
        -- if _law_kinds(error) != ..: return False
        refine ⟨_, rfl, at', t, fs, rfl, t9, ea, fun q G3 s3 nq hq => ?_⟩
        refine ⟨9, rfl, by decide, by decide, fun D0 hD0 => ?_⟩
        refine lc_range (lo := 0) (n := 9) (fun u G4 => Same G3 G4 ∧ G4 D0 = some (.lst (((List.range u).map fun s => decide (s = t)).map V.bl)))
          ⟨same_new hD0, upd_same⟩ ?_ ?_
        · rintro u G4 hu9 ⟨s4', hD⟩
          refine ⟨rfl, iteT (B := True) ⟨_, rfl, _, rfl, rfl, _, hD, ?_, ?_, ?_⟩⟩
          · rw [List.length_map, List.length_map, List.length_range]
            exact small1000 (by omega)
          · intro b o e
            have : b ≠ D0 := fun z => by rw [z, hD0] at e; cases e
            rw [upd_ne this]
            exact s4' b o e
          · rw [upd_same, spots]
        rintro G4 ⟨s4', hD⟩
        refine ⟨.list ((kindsOf t).map PyData.bool), .list ((kindsOf t).map PyData.bool), .lst (SqL.of (s4' _ _ hq)) (dp_bools _), .lst (SqL.of hD) (dp_bools _), bools_shaped _, bools_shaped _, _, rfl, ?_⟩
        rw [SeqAt.eqv_refl _ (SeqAt.canLay_of_shaped (bools_shaped _))]
        refine iteF (A := True) ?_
        exact ⟨_, _, rfl, now2.same (s3.trans s4')⟩
      · rintro σ G' ⟨w6, w7, rfl, now'⟩
        obtain ⟨Sx, ty, kl, kd⟩ := now'.th.isl (K := K)
        refine ⟨_, rfl, x, .ty "list", .type Sx, .type "list", _, rfl, .ty _, ty, kit_ty kl, _, rfl, ?_⟩
        have fits : ∀ {d' : PyData} {G : Hp}, Thg κ G x (j + 1) d' → Fit d' := fun t => t.fit (by omega)
        cases κ with
        | lst =>
          refine iteT (B := True) ?_
          obtain ⟨p, xs, d', rfl, hp, hxs, t'⟩ := now'.th.app (by omega)
          refine ⟨_, rfl, .inl ⟨rfl, _, SqL.of hp⟩, p, xs, .int 0, rfl, rfl, hp, small1000 (by omega), ?_⟩
          have nowF := now'.upd (u := .lst (xs ++ [.int 0])) rfl hp (.inl ⟨_, rfl⟩) t'
          generalize upd G' p (.lst (xs ++ [.int 0])) = GF at nowF
          obtain ⟨Sy, ty2, kl2, kd2⟩ := nowF.th.isl (K := K)
          refine ⟨_, rfl, _, .ty "dict", .type Sy, .type "dict", _, rfl, .ty _, ty2, kit_ty kd2, _, rfl, ?_⟩
          refine iteF (A := True) ?_
          have fF := fits nowF.th
          obtain ⟨e', my'⟩ := my.at (d' := d')
          obtain ⟨g1, g2, g3⟩ := nine_fits fF (my'.fit fF)
          refine ⟨_, rfl, pj, asj, _, y, rfl, (look nowF).1, (look nowF).2, fun q GQ sQ nq hq => ?_⟩
          have nowQ := nowF.same sQ
          refine ⟨q, _, _, rfl, SqL.of hq, shw_nine nowQ.th.shw (my'.shw nowQ.th.shw), g1, g2, g3, ?_⟩
          refine ⟨_, rfl, by show 1 ≤ sizeLine; decide, fun r1 u1 => ?_⟩
          refine ⟨r1, 5, _, rfl, rfl, upd_same, by decide, by decide, by show 1 * 5 ≤ sizeLine; decide, fun r2 u2 => ?_⟩
          refine ⟨_, rfl, by show 1 ≤ sizeLine; decide, fun r3 u3 => ?_⟩
          refine ⟨r3, 4, _, rfl, rfl, upd_same, by decide, by decide, by show 1 * 4 ≤ sizeLine; decide, fun r4 u4 => ?_⟩
          refine ⟨r2, r4, _, _, rfl, rfl, (Same.trans (same_new u3) (same_new u4)) _ _ upd_same, upd_same, by show 5 + 4 ≤ sizeLine; decide, fun r5 u5 => ?_⟩
          have nowR : ∀ GR : Hp, Same GQ GR → Now C H GR _ _ y (j + 1) d' p1 p2 L as1 as2 := fun GR s => nowQ.same s
          refine ⟨r5, _, _, rfl, SqL.of upd_same, ?_, g1, g2, g3, ?_⟩
          · refine shw_nine (Thg.shw (Now.th (nowR _ ?_))) (my'.shw (Thg.shw (Now.th (nowR _ ?_))))
            · exact (same_new u1).trans ((same_new u2).trans ((same_new u3).trans ((same_new u4).trans (same_new u5))))
            · exact (same_new u1).trans ((same_new u2).trans ((same_new u3).trans ((same_new u4).trans (same_new u5))))
          · refine ⟨rfl, _, rfl, iteNS rfl ?_⟩
            exact ⟨_, e', _, _, _, rfl, nowR _ ((same_new u1).trans ((same_new u2).trans ((same_new u3).trans ((same_new u4).trans (same_new u5))))), my'⟩
        | dct =>
          refine iteF (A := True) ?_
          refine ⟨_, rfl, x, .ty "dict", .type Sx, .type "dict", _, rfl, .ty _, ty, kit_ty kd, _, rfl, ?_⟩
          refine iteT (B := True) ?_
          obtain ⟨p, kvs, d', rfl, hp, hxs, t'⟩ := now'.th.put
          refine ⟨_, rfl, p, _, rfl, DPut.k (k := .inr "more") hp (small1000 (by omega)), ?_⟩
          have nowF := now'.upd (u := .dK (putK kvs (.inr "more") (.int 0))) rfl hp (.inr ⟨_, rfl⟩) t'
          generalize upd G' p (.dK (putK kvs (.inr "more") (.int 0))) = GF at nowF
          have fF := fits nowF.th
          obtain ⟨e', my'⟩ := my.at (d' := d')
          obtain ⟨g1, g2, g3⟩ := nine_fits fF (my'.fit fF)
          refine ⟨_, rfl, pj, asj, _, y, rfl, (look nowF).1, (look nowF).2, fun q GQ sQ nq hq => ?_⟩
          have nowQ := nowF.same sQ
          refine ⟨q, _, _, rfl, SqL.of hq, shw_nine nowQ.th.shw (my'.shw nowQ.th.shw), g1, g2, g3, ?_⟩
          refine ⟨_, rfl, by show 1 ≤ sizeLine; decide, fun r1 u1 => ?_⟩
          refine ⟨r1, 5, _, rfl, rfl, upd_same, by decide, by decide, by show 1 * 5 ≤ sizeLine; decide, fun r2 u2 => ?_⟩
          refine ⟨_, rfl, by show 1 ≤ sizeLine; decide, fun r3 u3 => ?_⟩
          refine ⟨r3, 4, _, rfl, rfl, upd_same, by decide, by decide, by show 1 * 4 ≤ sizeLine; decide, fun r4 u4 => ?_⟩
          refine ⟨r2, r4, _, _, rfl, rfl, (Same.trans (same_new u3) (same_new u4)) _ _ upd_same, upd_same, by show 5 + 4 ≤ sizeLine; decide, fun r5 u5 => ?_⟩
          have nowR : ∀ GR : Hp, Same GQ GR → Now C H GR _ _ y (j + 1) d' p1 p2 L as1 as2 := fun GR s => nowQ.same s
          refine ⟨r5, _, _, rfl, SqL.of upd_same, ?_, g1, g2, g3, ?_⟩
          · refine shw_nine (Thg.shw (Now.th (nowR _ ?_))) (my'.shw (Thg.shw (Now.th (nowR _ ?_))))
            · exact (same_new u1).trans ((same_new u2).trans ((same_new u3).trans ((same_new u4).trans (same_new u5))))
            · exact (same_new u1).trans ((same_new u2).trans ((same_new u3).trans ((same_new u4).trans (same_new u5))))
          · refine ⟨rfl, _, rfl, iteNS rfl ?_⟩
            exact ⟨_, e', _, _, _, rfl, nowR _ ((same_new u1).trans ((same_new u2).trans ((same_new u3).trans ((same_new u4).trans (same_new u5))))), my'⟩
        | oth =>
          refine iteF (A := True) ?_
          refine ⟨_, rfl, x, .ty "dict", .type Sx, .type "dict", _, rfl, .ty _, ty, kit_ty kd, _, rfl, ?_⟩
          refine iteF (A := True) ?_
          have nowF : Now C H G' .oth x y (j + 1) d p1 p2 L as1 as2 := { now' with th := now'.th.more }
          have fF := fits nowF.th
          obtain ⟨e', my'⟩ := my.at (d' := d)
          obtain ⟨g1, g2, g3⟩ := nine_fits fF (my'.fit fF)
          refine ⟨_, rfl, pj, asj, _, y, rfl, (look nowF).1, (look nowF).2, fun q GQ sQ nq hq => ?_⟩
          have nowQ := nowF.same sQ
          refine ⟨q, _, _, rfl, SqL.of hq, shw_nine nowQ.th.shw (my'.shw nowQ.th.shw), g1, g2, g3, ?_⟩
          refine ⟨_, rfl, by show 1 ≤ sizeLine; decide, fun r1 u1 => ?_⟩
          refine ⟨r1, 5, _, rfl, rfl, upd_same, by decide, by decide, by show 1 * 5 ≤ sizeLine; decide, fun r2 u2 => ?_⟩
          refine ⟨_, rfl, by show 1 ≤ sizeLine; decide, fun r3 u3 => ?_⟩
          refine ⟨r3, 4, _, rfl, rfl, upd_same, by decide, by decide, by show 1 * 4 ≤ sizeLine; decide, fun r4 u4 => ?_⟩
          refine ⟨r2, r4, _, _, rfl, rfl, (Same.trans (same_new u3) (same_new u4)) _ _ upd_same, upd_same, by show 5 + 4 ≤ sizeLine; decide, fun r5 u5 => ?_⟩
          have nowR : ∀ GR : Hp, Same GQ GR → Now C H GR _ _ y (j + 1) d p1 p2 L as1 as2 := fun GR s => nowQ.same s
          refine ⟨r5, _, _, rfl, SqL.of upd_same, ?_, g1, g2, g3, ?_⟩
          · refine shw_nine (Thg.shw (Now.th (nowR _ ?_))) (my'.shw (Thg.shw (Now.th (nowR _ ?_))))
            · exact (same_new u1).trans ((same_new u2).trans ((same_new u3).trans ((same_new u4).trans (same_new u5))))
            · exact (same_new u1).trans ((same_new u2).trans ((same_new u3).trans ((same_new u4).trans (same_new u5))))
          · refine ⟨rfl, _, rfl, iteNS rfl ?_⟩
            exact ⟨_, e', _, _, _, rfl, nowR _ ((same_new u1).trans ((same_new u2).trans ((same_new u3).trans ((same_new u4).trans (same_new u5))))), my'⟩
    · rintro σ G ⟨d, e, v5, v6, v7, rfl, now, my⟩
      exact ⟨now.base, _, _, _, _, _, _, _, rfl⟩
end
end K91
set_option Elab.async false
set_option linter.all false
set_option maxRecDepth 100000
set_option maxHeartbeats 8000000
namespace K91
open PySem L2 VK
abbrev veT : List Value := [.type "ValueError", .type "Exception", .type "BaseException", .type "object"]
section
variable {K : Fg} {h : Heap} {mg : Str → Option Value} {C S fI : Addr}
theorem err_mk (X : K.In h) (G : h.Ns mainGlobals mg) {name qual f : Str} {st : Stmt}
    {nm q : Str} {N : Addr} {bs : List Value} {sn : List Str} {sub : List Value} {ab : Bool} {col : Option Bool} {dd : Option Addr} {m0 m1 m2 m3 m5 : Option Value}
    {od an : Option Addr} {sl : Array (Option Value)} {oc kV dc pm cd ct : Value}
    (aC : PySem.W.nsIn K mainGlobals name = some (some (.ref C)))
    (xL : K.lookup C = some (excClassObj nm q C N bs (.ref S :: veT) true sn sub ab col dd m0 m1 m2 m3 m5 "ValueError.__new__"))
    (sa : PySem.W.findIn K (.ref C) "__setattr__" = some (some (.builtin "object.__setattr__")))
    (eC : PySem.W.subIn K (.ref C) (.type "BaseException") = some true) (tC : PySem.W.typeIn K (.ref C) = some (.type "type")) (kC : PySem.W.keepIn K (.ref C) = true)
    (no : PySem.W.findIn K (.ref C) f = some none) (ini : PySem.W.findIn K (.ref C) "__init__" = some (some (.ref fI))) (tyI : PySem.W.typeIn K (.ref fI) = some (.type "function"))
    (l : K.lookup fI = some ⟨oc, od, .func (PySem.W.fnOf "__init__" qual (defArgs st) (defBody st) (defScope st) .none kV dc pm an cd ct), sl⟩) (c : PySem.W.codeIn K cd qual = true) (k : PySem.W.keepIn K (.ref fI) = true)
    (bd : ∀ (kV doc pm : Value) (an : Option Addr) (cdv ct : Value) (us : List Value), us.length = 2 → bindArgs (PySem.W.fnOf "__init__" qual (defArgs st) (defBody st) (defScope st) .none kV doc pm an cdv ct) ⟨us, []⟩ = pure ((["self", f] : List Str).zip us))
    (bk : ∀ (kV doc pm : Value) (an : Option Addr) (cdv ct : Value) (u v : Value), bindArgs (PySem.W.fnOf "__init__" qual (defArgs st) (defBody st) (defScope st) .none kV doc pm an cdv ct) ⟨[u], [(f, v)]⟩ = pure ([("self", u), (f, v)] : List (Str × Value))) :
    ErrC K mg name qual f st C fI (PySem.W.fnOf "__init__" qual (defArgs st) (defBody st) (defScope st) .none kV dc pm an cd ct) := by
  have F := fun_mk (st := st) l c k
  refine ⟨PySem.W.mg_of X G aC, ⟨⟨nm, q, N, bs, _, sn, sub, ab, col, dd, m0, m1, m2, m3, m5, xL, ?_⟩, sa, eC, tC, kC⟩, no, ini, tyI, F, F.binds (ps := ["self", f]) bd, fun s u v => .of_eq (bk _ _ _ _ _ _ u v)⟩
  show PySem.HandSPX.refsVE veT = true
  decide +kernel
theorem erri_mk (ga : PySem.W.findIn K (.ref C) "__getattribute__" = some (some (.builtin "BaseException.__getattribute__"))) (gg : PySem.W.findIn K (.ref C) "__getattr__" = some none)
    (eC : PySem.W.subIn K (.ref C) (.type "BaseException") = some true) (hC : PySem.W.hasDictIn K C = true) (cl : PySem.W.findIn K (.ref C) "__class__" = some (some (.builtin "object.__class__")))
    (sp : PySem.W.specialIn K (.builtin "object.__class__") "__get__" = some (some (.builtin "getset_descriptor.__get__"))) (tk : PySem.W.takesIn K (.builtin "object.__class__") = some true)
    (ob : PySem.W.mroIn K C (.type "object") = some true) : ErrI K C := by
  refine ⟨⟨ga, gg, eC, hC⟩, cl, sp, tk, ob, ?_⟩
  obtain ⟨cd, hc, _⟩ := PySem.W.any_some hC
  rw [hc]
  rfl
/-- the classes by their mro -/
theorem kit_mk {nm q : Str} {N B : Addr} {bs : List Value} {sn : List Str} {sub : List Value} {ab : Bool} {col : Option Bool} {dd : Option Addr} {m0 m1 m2 m3 m5 : Option Value}
    (xL : K.lookup C = some (excClassObj nm q C N bs (.ref S :: veT) true sn sub ab col dd m0 m1 m2 m3 m5 "ValueError.__new__")) (isB : PySem.W.isClsIn K B = true) (tB : PySem.W.typeIn K (.ref B) = some (.type "type")) :
    PySem.W.kitOne K (.ref C) (.ref B) = some (decide (B = C ∨ B = S)) := by
  have hcl : ∃ cd, PySem.W.clsIn K C = some cd ∧ cd.mro = .ref C :: .ref S :: veT := by
    unfold PySem.W.clsIn
    rw [xL]
    exact ⟨_, rfl, rfl⟩
  obtain ⟨cd, h1, h2⟩ := hcl
  have e2 : ((PySem.W.clsIn K B).isSome && PySem.W.typeIn K (.ref B) == some (.type "type")) = true := by
    have h3 : (PySem.W.clsIn K B).isSome = true := isB
    rw [h3, tB]
    rfl
  have sb : PySem.W.subIn K (.ref C) (.ref B) = some (decide (B = C ∨ B = S)) := by
    show PySem.W.mroIn K C (.ref B) = _
    unfold PySem.W.mroIn
    rw [h1, Option.bind_some, h2]
    show (if _ then _ else _) = _
    rw [if_neg (show ¬ ((Value.ref C :: Value.ref S :: veT).isEmpty = true) from Bool.false_ne_true)]
    congr 1
    by_cases hb : B = C ∨ B = S
    · rw [decide_eq_true hb]
      rcases hb with rfl | rfl <;> simp
    · rw [decide_eq_false hb]
      simp only [not_or] at hb
      simp [List.contains_cons, hb.1, hb.2]
  unfold PySem.W.kitOne
  by_cases hb : C = B
  · subst hb
    simp
  · have nb : ((Value.ref C : Value) == .ref B) = false := by
      rw [beq_eq_false_iff_ne]
      exact fun z => hb (Value.ref.inj z)
    rw [nb, if_neg Bool.false_ne_true]
    show PySem.W.kitCls K (.ref C) (.ref B) = _
    unfold PySem.W.kitCls
    show (if _ then _ else _) = _
    rw [if_pos e2]
    exact sb
theorem kit_ve {nm q : Str} {N : Addr} {bs : List Value} {sn : List Str} {sub : List Value} {ab : Bool} {col : Option Bool} {dd : Option Addr} {m0 m1 m2 m3 m5 : Option Value}
    (xL : K.lookup C = some (excClassObj nm q C N bs (.ref S :: veT) true sn sub ab col dd m0 m1 m2 m3 m5 "ValueError.__new__")) : PySem.W.kitOne K (.ref C) (.type "ValueError") = some true := by
  have hcl : ∃ cd, PySem.W.clsIn K C = some cd ∧ cd.mro = .ref C :: .ref S :: veT := by
    unfold PySem.W.clsIn
    rw [xL]
    exact ⟨_, rfl, rfl⟩
  obtain ⟨cd, h1, h2⟩ := hcl
  have sb : PySem.W.subIn K (.ref C) (.type "ValueError") = some true := by
    show PySem.W.mroIn K C (.type "ValueError") = _
    unfold PySem.W.mroIn
    rw [h1, Option.bind_some, h2]
    show (if _ then _ else _) = _
    rw [if_neg (show ¬ ((Value.ref C :: Value.ref S :: veT).isEmpty = true) from Bool.false_ne_true)]
    first
      | rfl
      | (congr 1; simp [List.contains_cons])
  unfold PySem.W.kitOne
  have nb : ((Value.ref C : Value) == .type "ValueError") = false := by
    rw [beq_eq_false_iff_ne]
    exact fun z => by cases z
  rw [nb, if_neg Bool.false_ne_true]
  show PySem.W.kitCls K (.ref C) (.type "ValueError") = _
  unfold PySem.W.kitCls
  show (if _ then _ else _) = _
  rw [if_pos (by decide +kernel)]
  exact sb
end
theorem all_mk {l : PySem.W.OpenLaw} {w : World} {K : Fg} {h : Heap} {mg : Str → Option Value} {fa : Addr} (X : K.In h) (G : h.Ns mainGlobals mg) (hfa : mg "law" = some (.ref fa))
    {S : Addr}
    {C0 N0 I0 : Addr} {nm0 q0 : Str} {bs0 sub0 : List Value} {sn0 : List Str} {ab0 : Bool} {col0 : Option Bool} {dd0 od0 an0 : Option Addr} {w00 w10 w20 w30 w50 : Option Value} {sl0 : Array (Option Value)} {oc0 kV0 dc0 pm0 cd0 ct0 : Value}
    {C1 N1 I1 : Addr} {nm1 q1 : Str} {bs1 sub1 : List Value} {sn1 : List Str} {ab1 : Bool} {col1 : Option Bool} {dd1 od1 an1 : Option Addr} {w01 w11 w21 w31 w51 : Option Value} {sl1 : Array (Option Value)} {oc1 kV1 dc1 pm1 cd1 ct1 : Value}
    {C2 N2 I2 : Addr} {nm2 q2 : Str} {bs2 sub2 : List Value} {sn2 : List Str} {ab2 : Bool} {col2 : Option Bool} {dd2 od2 an2 : Option Addr} {w02 w12 w22 w32 w52 : Option Value} {sl2 : Array (Option Value)} {oc2 kV2 dc2 pm2 cd2 ct2 : Value}
    {C3 N3 I3 : Addr} {nm3 q3 : Str} {bs3 sub3 : List Value} {sn3 : List Str} {ab3 : Bool} {col3 : Option Bool} {dd3 od3 an3 : Option Addr} {w03 w13 w23 w33 w53 : Option Value} {sl3 : Array (Option Value)} {oc3 kV3 dc3 pm3 cd3 ct3 : Value}
    {C4 N4 I4 : Addr} {nm4 q4 : Str} {bs4 sub4 : List Value} {sn4 : List Str} {ab4 : Bool} {col4 : Option Bool} {dd4 od4 an4 : Option Addr} {w04 w14 w24 w34 w54 : Option Value} {sl4 : Array (Option Value)} {oc4 kV4 dc4 pm4 cd4 ct4 : Value}
    {C5 N5 I5 : Addr} {nm5 q5 : Str} {bs5 sub5 : List Value} {sn5 : List Str} {ab5 : Bool} {col5 : Option Bool} {dd5 od5 an5 : Option Addr} {w05 w15 w25 w35 w55 : Option Value} {sl5 : Array (Option Value)} {oc5 kV5 dc5 pm5 cd5 ct5 : Value}
    {C6 N6 I6 : Addr} {nm6 q6 : Str} {bs6 sub6 : List Value} {sn6 : List Str} {ab6 : Bool} {col6 : Option Bool} {dd6 od6 an6 : Option Addr} {w06 w16 w26 w36 w56 : Option Value} {sl6 : Array (Option Value)} {oc6 kV6 dc6 pm6 cd6 ct6 : Value}
    {C7 N7 I7 : Addr} {nm7 q7 : Str} {bs7 sub7 : List Value} {sn7 : List Str} {ab7 : Bool} {col7 : Option Bool} {dd7 od7 an7 : Option Addr} {w07 w17 w27 w37 w57 : Option Value} {sl7 : Array (Option Value)} {oc7 kV7 dc7 pm7 cd7 ct7 : Value}
    {C8 N8 I8 : Addr} {nm8 q8 : Str} {bs8 sub8 : List Value} {sn8 : List Str} {ab8 : Bool} {col8 : Option Bool} {dd8 od8 an8 : Option Addr} {w08 w18 w28 w38 w58 : Option Value} {sl8 : Array (Option Value)} {oc8 kV8 dc8 pm8 cd8 ct8 : Value}
    {fS : Addr} {odS anS : Option Addr} {slS : Array (Option Value)} {ocS kVS dcS pmS cdS ctS : Value}
    {fD : Addr} {odD anD : Option Addr} {slD : Array (Option Value)} {ocD kVD dcD pmD cdD ctD : Value}
    {fP : Addr} {odP anP : Option Addr} {slP : Array (Option Value)} {ocP kVP dcP pmP cdP ctP : Value}
    {fK : Addr} {odK anK : Option Addr} {slK : Array (Option Value)} {ocK kVK dcK pmK cdK ctK : Value}
    {fB : Addr} {odB anB : Option Addr} {slB : Array (Option Value)} {ocB kVB dcB pmB cdB ctB : Value}
    {fN : Addr} {odN anN : Option Addr} {slN : Array (Option Value)} {ocN kVN dcN pmN cdN ctN : Value}
    {fR : Addr} {odR anR : Option Addr} {slR : Array (Option Value)} {ocR kVR dcR pmR cdR ctR : Value}
    {fL : Addr} {odL anL : Option Addr} {slL : Array (Option Value)} {ocL kVL dcL pmL cdL ctL : Value}
    (aSt : PySem.W.nsIn K mainGlobals "StreamError" = some (some (.ref S)))
    (aC0 : PySem.W.nsIn K mainGlobals "BadSource" = some (some (.ref C0)))
    (xL0 : K.lookup C0 = some (excClassObj nm0 q0 C0 N0 bs0 (.ref S :: veT) true sn0 sub0 ab0 col0 dd0 w00 w10 w20 w30 w50 "ValueError.__new__"))
    (sa0 : PySem.W.findIn K (.ref C0) "__setattr__" = some (some (.builtin "object.__setattr__")))
    (eC0 : PySem.W.subIn K (.ref C0) (.type "BaseException") = some true)
    (tC0 : PySem.W.typeIn K (.ref C0) = some (.type "type"))
    (kC0 : PySem.W.keepIn K (.ref C0) = true)
    (no0 : PySem.W.findIn K (.ref C0) "value" = some none)
    (in0 : PySem.W.findIn K (.ref C0) "__init__" = some (some (.ref I0)))
    (ty0 : PySem.W.typeIn K (.ref I0) = some (.type "function"))
    (li0 : K.lookup I0 = some ⟨oc0, od0, .func (PySem.W.fnOf "__init__" "BadSource.__init__" (defArgs sI0) (defBody sI0) (defScope sI0) .none kV0 dc0 pm0 an0 cd0 ct0), sl0⟩)
    (ci0 : PySem.W.codeIn K cd0 "BadSource.__init__" = true)
    (ki0 : PySem.W.keepIn K (.ref I0) = true)
    (ga0 : PySem.W.findIn K (.ref C0) "__getattribute__" = some (some (.builtin "BaseException.__getattribute__")))
    (gg0 : PySem.W.findIn K (.ref C0) "__getattr__" = some none)
    (hC0 : PySem.W.hasDictIn K C0 = true)
    (cl0 : PySem.W.findIn K (.ref C0) "__class__" = some (some (.builtin "object.__class__")))
    (ob0 : PySem.W.mroIn K C0 (.type "object") = some true)
    (ic0 : PySem.W.isClsIn K C0 = true)
    (aC1 : PySem.W.nsIn K mainGlobals "BadStages" = some (some (.ref C1)))
    (xL1 : K.lookup C1 = some (excClassObj nm1 q1 C1 N1 bs1 (.ref S :: veT) true sn1 sub1 ab1 col1 dd1 w01 w11 w21 w31 w51 "ValueError.__new__"))
    (sa1 : PySem.W.findIn K (.ref C1) "__setattr__" = some (some (.builtin "object.__setattr__")))
    (eC1 : PySem.W.subIn K (.ref C1) (.type "BaseException") = some true)
    (tC1 : PySem.W.typeIn K (.ref C1) = some (.type "type"))
    (kC1 : PySem.W.keepIn K (.ref C1) = true)
    (no1 : PySem.W.findIn K (.ref C1) "value" = some none)
    (in1 : PySem.W.findIn K (.ref C1) "__init__" = some (some (.ref I1)))
    (ty1 : PySem.W.typeIn K (.ref I1) = some (.type "function"))
    (li1 : K.lookup I1 = some ⟨oc1, od1, .func (PySem.W.fnOf "__init__" "BadStages.__init__" (defArgs sI1) (defBody sI1) (defScope sI1) .none kV1 dc1 pm1 an1 cd1 ct1), sl1⟩)
    (ci1 : PySem.W.codeIn K cd1 "BadStages.__init__" = true)
    (ki1 : PySem.W.keepIn K (.ref I1) = true)
    (ga1 : PySem.W.findIn K (.ref C1) "__getattribute__" = some (some (.builtin "BaseException.__getattribute__")))
    (gg1 : PySem.W.findIn K (.ref C1) "__getattr__" = some none)
    (hC1 : PySem.W.hasDictIn K C1 = true)
    (cl1 : PySem.W.findIn K (.ref C1) "__class__" = some (some (.builtin "object.__class__")))
    (ob1 : PySem.W.mroIn K C1 (.type "object") = some true)
    (ic1 : PySem.W.isClsIn K C1 = true)
    (aC2 : PySem.W.nsIn K mainGlobals "BadPositions" = some (some (.ref C2)))
    (xL2 : K.lookup C2 = some (excClassObj nm2 q2 C2 N2 bs2 (.ref S :: veT) true sn2 sub2 ab2 col2 dd2 w02 w12 w22 w32 w52 "ValueError.__new__"))
    (sa2 : PySem.W.findIn K (.ref C2) "__setattr__" = some (some (.builtin "object.__setattr__")))
    (eC2 : PySem.W.subIn K (.ref C2) (.type "BaseException") = some true)
    (tC2 : PySem.W.typeIn K (.ref C2) = some (.type "type"))
    (kC2 : PySem.W.keepIn K (.ref C2) = true)
    (no2 : PySem.W.findIn K (.ref C2) "value" = some none)
    (in2 : PySem.W.findIn K (.ref C2) "__init__" = some (some (.ref I2)))
    (ty2 : PySem.W.typeIn K (.ref I2) = some (.type "function"))
    (li2 : K.lookup I2 = some ⟨oc2, od2, .func (PySem.W.fnOf "__init__" "BadPositions.__init__" (defArgs sI2) (defBody sI2) (defScope sI2) .none kV2 dc2 pm2 an2 cd2 ct2), sl2⟩)
    (ci2 : PySem.W.codeIn K cd2 "BadPositions.__init__" = true)
    (ki2 : PySem.W.keepIn K (.ref I2) = true)
    (ga2 : PySem.W.findIn K (.ref C2) "__getattribute__" = some (some (.builtin "BaseException.__getattribute__")))
    (gg2 : PySem.W.findIn K (.ref C2) "__getattr__" = some none)
    (hC2 : PySem.W.hasDictIn K C2 = true)
    (cl2 : PySem.W.findIn K (.ref C2) "__class__" = some (some (.builtin "object.__class__")))
    (ob2 : PySem.W.mroIn K C2 (.type "object") = some true)
    (ic2 : PySem.W.isClsIn K C2 = true)
    (aC3 : PySem.W.nsIn K mainGlobals "BadReply" = some (some (.ref C3)))
    (xL3 : K.lookup C3 = some (excClassObj nm3 q3 C3 N3 bs3 (.ref S :: veT) true sn3 sub3 ab3 col3 dd3 w03 w13 w23 w33 w53 "ValueError.__new__"))
    (sa3 : PySem.W.findIn K (.ref C3) "__setattr__" = some (some (.builtin "object.__setattr__")))
    (eC3 : PySem.W.subIn K (.ref C3) (.type "BaseException") = some true)
    (tC3 : PySem.W.typeIn K (.ref C3) = some (.type "type"))
    (kC3 : PySem.W.keepIn K (.ref C3) = true)
    (no3 : PySem.W.findIn K (.ref C3) "value" = some none)
    (in3 : PySem.W.findIn K (.ref C3) "__init__" = some (some (.ref I3)))
    (ty3 : PySem.W.typeIn K (.ref I3) = some (.type "function"))
    (li3 : K.lookup I3 = some ⟨oc3, od3, .func (PySem.W.fnOf "__init__" "BadReply.__init__" (defArgs sI3) (defBody sI3) (defScope sI3) .none kV3 dc3 pm3 an3 cd3 ct3), sl3⟩)
    (ci3 : PySem.W.codeIn K cd3 "BadReply.__init__" = true)
    (ki3 : PySem.W.keepIn K (.ref I3) = true)
    (ga3 : PySem.W.findIn K (.ref C3) "__getattribute__" = some (some (.builtin "BaseException.__getattribute__")))
    (gg3 : PySem.W.findIn K (.ref C3) "__getattr__" = some none)
    (hC3 : PySem.W.hasDictIn K C3 = true)
    (cl3 : PySem.W.findIn K (.ref C3) "__class__" = some (some (.builtin "object.__class__")))
    (ob3 : PySem.W.mroIn K C3 (.type "object") = some true)
    (ic3 : PySem.W.isClsIn K C3 = true)
    (aC4 : PySem.W.nsIn K mainGlobals "BadLoop" = some (some (.ref C4)))
    (xL4 : K.lookup C4 = some (excClassObj nm4 q4 C4 N4 bs4 (.ref S :: veT) true sn4 sub4 ab4 col4 dd4 w04 w14 w24 w34 w54 "ValueError.__new__"))
    (sa4 : PySem.W.findIn K (.ref C4) "__setattr__" = some (some (.builtin "object.__setattr__")))
    (eC4 : PySem.W.subIn K (.ref C4) (.type "BaseException") = some true)
    (tC4 : PySem.W.typeIn K (.ref C4) = some (.type "type"))
    (kC4 : PySem.W.keepIn K (.ref C4) = true)
    (no4 : PySem.W.findIn K (.ref C4) "value" = some none)
    (in4 : PySem.W.findIn K (.ref C4) "__init__" = some (some (.ref I4)))
    (ty4 : PySem.W.typeIn K (.ref I4) = some (.type "function"))
    (li4 : K.lookup I4 = some ⟨oc4, od4, .func (PySem.W.fnOf "__init__" "BadLoop.__init__" (defArgs sI4) (defBody sI4) (defScope sI4) .none kV4 dc4 pm4 an4 cd4 ct4), sl4⟩)
    (ci4 : PySem.W.codeIn K cd4 "BadLoop.__init__" = true)
    (ki4 : PySem.W.keepIn K (.ref I4) = true)
    (ga4 : PySem.W.findIn K (.ref C4) "__getattribute__" = some (some (.builtin "BaseException.__getattribute__")))
    (gg4 : PySem.W.findIn K (.ref C4) "__getattr__" = some none)
    (hC4 : PySem.W.hasDictIn K C4 = true)
    (cl4 : PySem.W.findIn K (.ref C4) "__class__" = some (some (.builtin "object.__class__")))
    (ob4 : PySem.W.mroIn K C4 (.type "object") = some true)
    (ic4 : PySem.W.isClsIn K C4 = true)
    (aC5 : PySem.W.nsIn K mainGlobals "BadStage" = some (some (.ref C5)))
    (xL5 : K.lookup C5 = some (excClassObj nm5 q5 C5 N5 bs5 (.ref S :: veT) true sn5 sub5 ab5 col5 dd5 w05 w15 w25 w35 w55 "ValueError.__new__"))
    (sa5 : PySem.W.findIn K (.ref C5) "__setattr__" = some (some (.builtin "object.__setattr__")))
    (eC5 : PySem.W.subIn K (.ref C5) (.type "BaseException") = some true)
    (tC5 : PySem.W.typeIn K (.ref C5) = some (.type "type"))
    (kC5 : PySem.W.keepIn K (.ref C5) = true)
    (no5 : PySem.W.findIn K (.ref C5) "position" = some none)
    (in5 : PySem.W.findIn K (.ref C5) "__init__" = some (some (.ref I5)))
    (ty5 : PySem.W.typeIn K (.ref I5) = some (.type "function"))
    (li5 : K.lookup I5 = some ⟨oc5, od5, .func (PySem.W.fnOf "__init__" "BadStage.__init__" (defArgs sI5) (defBody sI5) (defScope sI5) .none kV5 dc5 pm5 an5 cd5 ct5), sl5⟩)
    (ci5 : PySem.W.codeIn K cd5 "BadStage.__init__" = true)
    (ki5 : PySem.W.keepIn K (.ref I5) = true)
    (ga5 : PySem.W.findIn K (.ref C5) "__getattribute__" = some (some (.builtin "BaseException.__getattribute__")))
    (gg5 : PySem.W.findIn K (.ref C5) "__getattr__" = some none)
    (hC5 : PySem.W.hasDictIn K C5 = true)
    (cl5 : PySem.W.findIn K (.ref C5) "__class__" = some (some (.builtin "object.__class__")))
    (ob5 : PySem.W.mroIn K C5 (.type "object") = some true)
    (ic5 : PySem.W.isClsIn K C5 = true)
    (aC6 : PySem.W.nsIn K mainGlobals "BadReplies" = some (some (.ref C6)))
    (xL6 : K.lookup C6 = some (excClassObj nm6 q6 C6 N6 bs6 (.ref S :: veT) true sn6 sub6 ab6 col6 dd6 w06 w16 w26 w36 w56 "ValueError.__new__"))
    (sa6 : PySem.W.findIn K (.ref C6) "__setattr__" = some (some (.builtin "object.__setattr__")))
    (eC6 : PySem.W.subIn K (.ref C6) (.type "BaseException") = some true)
    (tC6 : PySem.W.typeIn K (.ref C6) = some (.type "type"))
    (kC6 : PySem.W.keepIn K (.ref C6) = true)
    (no6 : PySem.W.findIn K (.ref C6) "position" = some none)
    (in6 : PySem.W.findIn K (.ref C6) "__init__" = some (some (.ref I6)))
    (ty6 : PySem.W.typeIn K (.ref I6) = some (.type "function"))
    (li6 : K.lookup I6 = some ⟨oc6, od6, .func (PySem.W.fnOf "__init__" "BadReplies.__init__" (defArgs sI6) (defBody sI6) (defScope sI6) .none kV6 dc6 pm6 an6 cd6 ct6), sl6⟩)
    (ci6 : PySem.W.codeIn K cd6 "BadReplies.__init__" = true)
    (ki6 : PySem.W.keepIn K (.ref I6) = true)
    (ga6 : PySem.W.findIn K (.ref C6) "__getattribute__" = some (some (.builtin "BaseException.__getattribute__")))
    (gg6 : PySem.W.findIn K (.ref C6) "__getattr__" = some none)
    (hC6 : PySem.W.hasDictIn K C6 = true)
    (cl6 : PySem.W.findIn K (.ref C6) "__class__" = some (some (.builtin "object.__class__")))
    (ob6 : PySem.W.mroIn K C6 (.type "object") = some true)
    (ic6 : PySem.W.isClsIn K C6 = true)
    (aC7 : PySem.W.nsIn K mainGlobals "HasZip" = some (some (.ref C7)))
    (xL7 : K.lookup C7 = some (excClassObj nm7 q7 C7 N7 bs7 (.ref S :: veT) true sn7 sub7 ab7 col7 dd7 w07 w17 w27 w37 w57 "ValueError.__new__"))
    (sa7 : PySem.W.findIn K (.ref C7) "__setattr__" = some (some (.builtin "object.__setattr__")))
    (eC7 : PySem.W.subIn K (.ref C7) (.type "BaseException") = some true)
    (tC7 : PySem.W.typeIn K (.ref C7) = some (.type "type"))
    (kC7 : PySem.W.keepIn K (.ref C7) = true)
    (no7 : PySem.W.findIn K (.ref C7) "position" = some none)
    (in7 : PySem.W.findIn K (.ref C7) "__init__" = some (some (.ref I7)))
    (ty7 : PySem.W.typeIn K (.ref I7) = some (.type "function"))
    (li7 : K.lookup I7 = some ⟨oc7, od7, .func (PySem.W.fnOf "__init__" "HasZip.__init__" (defArgs sI7) (defBody sI7) (defScope sI7) .none kV7 dc7 pm7 an7 cd7 ct7), sl7⟩)
    (ci7 : PySem.W.codeIn K cd7 "HasZip.__init__" = true)
    (ki7 : PySem.W.keepIn K (.ref I7) = true)
    (ga7 : PySem.W.findIn K (.ref C7) "__getattribute__" = some (some (.builtin "BaseException.__getattribute__")))
    (gg7 : PySem.W.findIn K (.ref C7) "__getattr__" = some none)
    (hC7 : PySem.W.hasDictIn K C7 = true)
    (cl7 : PySem.W.findIn K (.ref C7) "__class__" = some (some (.builtin "object.__class__")))
    (ob7 : PySem.W.mroIn K C7 (.type "object") = some true)
    (ic7 : PySem.W.isClsIn K C7 = true)
    (aC8 : PySem.W.nsIn K mainGlobals "BadText" = some (some (.ref C8)))
    (xL8 : K.lookup C8 = some (excClassObj nm8 q8 C8 N8 bs8 (.ref S :: veT) true sn8 sub8 ab8 col8 dd8 w08 w18 w28 w38 w58 "ValueError.__new__"))
    (sa8 : PySem.W.findIn K (.ref C8) "__setattr__" = some (some (.builtin "object.__setattr__")))
    (eC8 : PySem.W.subIn K (.ref C8) (.type "BaseException") = some true)
    (tC8 : PySem.W.typeIn K (.ref C8) = some (.type "type"))
    (kC8 : PySem.W.keepIn K (.ref C8) = true)
    (no8 : PySem.W.findIn K (.ref C8) "line" = some none)
    (in8 : PySem.W.findIn K (.ref C8) "__init__" = some (some (.ref I8)))
    (ty8 : PySem.W.typeIn K (.ref I8) = some (.type "function"))
    (li8 : K.lookup I8 = some ⟨oc8, od8, .func (PySem.W.fnOf "__init__" "BadText.__init__" (defArgs sI8) (defBody sI8) (defScope sI8) .none kV8 dc8 pm8 an8 cd8 ct8), sl8⟩)
    (ci8 : PySem.W.codeIn K cd8 "BadText.__init__" = true)
    (ki8 : PySem.W.keepIn K (.ref I8) = true)
    (ga8 : PySem.W.findIn K (.ref C8) "__getattribute__" = some (some (.builtin "BaseException.__getattribute__")))
    (gg8 : PySem.W.findIn K (.ref C8) "__getattr__" = some none)
    (hC8 : PySem.W.hasDictIn K C8 = true)
    (cl8 : PySem.W.findIn K (.ref C8) "__class__" = some (some (.builtin "object.__class__")))
    (ob8 : PySem.W.mroIn K C8 (.type "object") = some true)
    (ic8 : PySem.W.isClsIn K C8 = true)
    (icS : PySem.W.isClsIn K S = true)
    (tS : PySem.W.typeIn K (.ref S) = some (.type "type"))
    (sp : PySem.W.specialIn K (.builtin "object.__class__") "__get__" = some (some (.builtin "getset_descriptor.__get__")))
    (tk : PySem.W.takesIn K (.builtin "object.__class__") = some true)
    (aS : PySem.W.nsIn K mainGlobals "_law_source" = some (some (.ref fS)))
    (lS : K.lookup fS = some ⟨ocS, odS, .func (PySem.W.fnOf "_law_source" "_law_source" (defArgs sSource) (defBody sSource) (defScope sSource) .none kVS dcS pmS anS cdS ctS), slS⟩)
    (cS : PySem.W.codeIn K cdS "_law_source" = true)
    (kS : PySem.W.keepIn K (.ref fS) = true)
    (aD : PySem.W.nsIn K mainGlobals "_law_draw" = some (some (.ref fD)))
    (lD : K.lookup fD = some ⟨ocD, odD, .func (PySem.W.fnOf "_law_draw" "_law_draw" (defArgs sDraw) (defBody sDraw) (defScope sDraw) .none kVD dcD pmD anD cdD ctD), slD⟩)
    (cD : PySem.W.codeIn K cdD "_law_draw" = true)
    (kD : PySem.W.keepIn K (.ref fD) = true)
    (aP : PySem.W.nsIn K mainGlobals "_law_pick" = some (some (.ref fP)))
    (lP : K.lookup fP = some ⟨ocP, odP, .func (PySem.W.fnOf "_law_pick" "_law_pick" (defArgs sPick) (defBody sPick) (defScope sPick) .none kVP dcP pmP anP cdP ctP), slP⟩)
    (cP : PySem.W.codeIn K cdP "_law_pick" = true)
    (kP : PySem.W.keepIn K (.ref fP) = true)
    (aK : PySem.W.nsIn K mainGlobals "_law_kinds" = some (some (.ref fK)))
    (lK : K.lookup fK = some ⟨ocK, odK, .func (PySem.W.fnOf "_law_kinds" "_law_kinds" (defArgs sKinds) (defBody sKinds) (defScope sKinds) .none kVK dcK pmK anK cdK ctK), slK⟩)
    (cK : PySem.W.codeIn K cdK "_law_kinds" = true)
    (kK : PySem.W.keepIn K (.ref fK) = true)
    (aB : PySem.W.nsIn K mainGlobals "_law_by_place" = some (some (.ref fB)))
    (lB : K.lookup fB = some ⟨ocB, odB, .func (PySem.W.fnOf "_law_by_place" "_law_by_place" (defArgs sPlace) (defBody sPlace) (defScope sPlace) .none kVB dcB pmB anB cdB ctB), slB⟩)
    (cB : PySem.W.codeIn K cdB "_law_by_place" = true)
    (kB : PySem.W.keepIn K (.ref fB) = true)
    (aN : PySem.W.nsIn K mainGlobals "_law_by_name" = some (some (.ref fN)))
    (lN : K.lookup fN = some ⟨ocN, odN, .func (PySem.W.fnOf "_law_by_name" "_law_by_name" (defArgs sName) (defBody sName) (defScope sName) .none kVN dcN pmN anN cdN ctN), slN⟩)
    (cN : PySem.W.codeIn K cdN "_law_by_name" = true)
    (kN : PySem.W.keepIn K (.ref fN) = true)
    (aR : PySem.W.nsIn K mainGlobals "_law_stored" = some (some (.ref fR)))
    (lR : K.lookup fR = some ⟨ocR, odR, .func (PySem.W.fnOf "_law_stored" "_law_stored" (defArgs sStored) (defBody sStored) (defScope sStored) .none kVR dcR pmR anR cdR ctR), slR⟩)
    (cR : PySem.W.codeIn K cdR "_law_stored" = true)
    (kR : PySem.W.keepIn K (.ref fR) = true)
    (aL : PySem.W.nsIn K mainGlobals "law" = some (some (.ref fL)))
    (lL : K.lookup fL = some ⟨ocL, odL, .func (PySem.W.fnOf "law" "law" (defArgs sLaw) (defBody sLaw) (defScope sLaw) .none kVL dcL pmL anL cdL ctL), slL⟩)
    (cL : PySem.W.codeIn K cdL "law" = true)
    (kL : PySem.W.keepIn K (.ref fL) = true)
    (z0 : PySem.W.nsIn K mainGlobals "len" = some none)
    (z1 : PySem.W.nsIn K mainGlobals "int" = some none)
    (z2 : PySem.W.nsIn K mainGlobals "max" = some none)
    (z3 : PySem.W.nsIn K mainGlobals "min" = some none)
    (z4 : PySem.W.nsIn K mainGlobals "range" = some none)
    (z5 : PySem.W.nsIn K mainGlobals "isinstance" = some none)
    (z6 : PySem.W.nsIn K mainGlobals "repr" = some none)
    (z7 : PySem.W.nsIn K mainGlobals "list" = some none)
    (z8 : PySem.W.nsIn K mainGlobals "dict" = some none)
    (z9 : PySem.W.nsIn K mainGlobals "enumerate" = some none)
    (z10 : PySem.W.nsIn K mainGlobals "ValueError" = some none)
    (nd : [C0, C1, C2, C3, C4, C5, C6, C7, C8, S].Nodup) :
    ∃ fd : FuncData, (∀ (s : Shared) (v : Value), BindsTo s fd ⟨[v], []⟩ [("script", v)]) ∧ ∀ base : Heap, K.In base → base.Ns mainGlobals mg → RunAt l.prog w K mg base callerA fa fd ["script"] (spLaw K) := by
  have e := hfa.symm.trans (PySem.W.mg_of X G aL)
  cases e
  have T0 : ErrC K mg "BadSource" "BadSource.__init__" "value" sI0 C0 I0 _ := err_mk X G aC0 xL0 sa0 eC0 tC0 kC0 no0 in0 ty0 li0 ci0 ki0
    (fun _ _ _ _ _ _ us hl => match us, hl with | [_, _], _ => rfl) (fun _ _ _ _ _ _ u v => rfl)
  have E0 : ErrI K C0 := erri_mk ga0 gg0 eC0 hC0 cl0 sp tk ob0
  have T1 : ErrC K mg "BadStages" "BadStages.__init__" "value" sI1 C1 I1 _ := err_mk X G aC1 xL1 sa1 eC1 tC1 kC1 no1 in1 ty1 li1 ci1 ki1
    (fun _ _ _ _ _ _ us hl => match us, hl with | [_, _], _ => rfl) (fun _ _ _ _ _ _ u v => rfl)
  have E1 : ErrI K C1 := erri_mk ga1 gg1 eC1 hC1 cl1 sp tk ob1
  have T2 : ErrC K mg "BadPositions" "BadPositions.__init__" "value" sI2 C2 I2 _ := err_mk X G aC2 xL2 sa2 eC2 tC2 kC2 no2 in2 ty2 li2 ci2 ki2
    (fun _ _ _ _ _ _ us hl => match us, hl with | [_, _], _ => rfl) (fun _ _ _ _ _ _ u v => rfl)
  have E2 : ErrI K C2 := erri_mk ga2 gg2 eC2 hC2 cl2 sp tk ob2
  have T3 : ErrC K mg "BadReply" "BadReply.__init__" "value" sI3 C3 I3 _ := err_mk X G aC3 xL3 sa3 eC3 tC3 kC3 no3 in3 ty3 li3 ci3 ki3
    (fun _ _ _ _ _ _ us hl => match us, hl with | [_, _], _ => rfl) (fun _ _ _ _ _ _ u v => rfl)
  have E3 : ErrI K C3 := erri_mk ga3 gg3 eC3 hC3 cl3 sp tk ob3
  have T4 : ErrC K mg "BadLoop" "BadLoop.__init__" "value" sI4 C4 I4 _ := err_mk X G aC4 xL4 sa4 eC4 tC4 kC4 no4 in4 ty4 li4 ci4 ki4
    (fun _ _ _ _ _ _ us hl => match us, hl with | [_, _], _ => rfl) (fun _ _ _ _ _ _ u v => rfl)
  have E4 : ErrI K C4 := erri_mk ga4 gg4 eC4 hC4 cl4 sp tk ob4
  have T5 : ErrC K mg "BadStage" "BadStage.__init__" "position" sI5 C5 I5 _ := err_mk X G aC5 xL5 sa5 eC5 tC5 kC5 no5 in5 ty5 li5 ci5 ki5
    (fun _ _ _ _ _ _ us hl => match us, hl with | [_, _], _ => rfl) (fun _ _ _ _ _ _ u v => rfl)
  have E5 : ErrI K C5 := erri_mk ga5 gg5 eC5 hC5 cl5 sp tk ob5
  have T6 : ErrC K mg "BadReplies" "BadReplies.__init__" "position" sI6 C6 I6 _ := err_mk X G aC6 xL6 sa6 eC6 tC6 kC6 no6 in6 ty6 li6 ci6 ki6
    (fun _ _ _ _ _ _ us hl => match us, hl with | [_, _], _ => rfl) (fun _ _ _ _ _ _ u v => rfl)
  have E6 : ErrI K C6 := erri_mk ga6 gg6 eC6 hC6 cl6 sp tk ob6
  have T7 : ErrC K mg "HasZip" "HasZip.__init__" "position" sI7 C7 I7 _ := err_mk X G aC7 xL7 sa7 eC7 tC7 kC7 no7 in7 ty7 li7 ci7 ki7
    (fun _ _ _ _ _ _ us hl => match us, hl with | [_, _], _ => rfl) (fun _ _ _ _ _ _ u v => rfl)
  have E7 : ErrI K C7 := erri_mk ga7 gg7 eC7 hC7 cl7 sp tk ob7
  have T8 : ErrC K mg "BadText" "BadText.__init__" "line" sI8 C8 I8 _ := err_mk X G aC8 xL8 sa8 eC8 tC8 kC8 no8 in8 ty8 li8 ci8 ki8
    (fun _ _ _ _ _ _ us hl => match us, hl with | [_, _], _ => rfl) (fun _ _ _ _ _ _ u v => rfl)
  have E8 : ErrI K C8 := erri_mk ga8 gg8 eC8 hC8 cl8 sp tk ob8
  simp only [List.nodup_cons, List.mem_cons, List.not_mem_nil, or_false, not_or, not_false_eq_true, List.nodup_nil, and_true] at nd
  obtain ⟨⟨d0_1, d0_2, d0_3, d0_4, d0_5, d0_6, d0_7, d0_8, d0_9⟩, ⟨d1_2, d1_3, d1_4, d1_5, d1_6, d1_7, d1_8, d1_9⟩, ⟨d2_3, d2_4, d2_5, d2_6, d2_7, d2_8, d2_9⟩, ⟨d3_4, d3_5, d3_6, d3_7, d3_8, d3_9⟩, ⟨d4_5, d4_6, d4_7, d4_8, d4_9⟩, ⟨d5_6, d5_7, d5_8, d5_9⟩, ⟨d6_7, d6_8, d6_9⟩, ⟨d7_8, d7_9⟩, d8_9⟩ := nd
  let C : Nat → Addr := fun n => ([C0, C1, C2, C3, C4, C5, C6, C7, C8]).getD n (C0)
  let I : Nat → Addr := fun n => ([I0, I1, I2, I3, I4, I5, I6, I7, I8]).getD n (I0)
  let D : Nat → FuncData := fun n => ([PySem.W.fnOf "__init__" "BadSource.__init__" (defArgs sI0) (defBody sI0) (defScope sI0) .none kV0 dc0 pm0 an0 cd0 ct0, PySem.W.fnOf "__init__" "BadStages.__init__" (defArgs sI1) (defBody sI1) (defScope sI1) .none kV1 dc1 pm1 an1 cd1 ct1, PySem.W.fnOf "__init__" "BadPositions.__init__" (defArgs sI2) (defBody sI2) (defScope sI2) .none kV2 dc2 pm2 an2 cd2 ct2, PySem.W.fnOf "__init__" "BadReply.__init__" (defArgs sI3) (defBody sI3) (defScope sI3) .none kV3 dc3 pm3 an3 cd3 ct3, PySem.W.fnOf "__init__" "BadLoop.__init__" (defArgs sI4) (defBody sI4) (defScope sI4) .none kV4 dc4 pm4 an4 cd4 ct4, PySem.W.fnOf "__init__" "BadStage.__init__" (defArgs sI5) (defBody sI5) (defScope sI5) .none kV5 dc5 pm5 an5 cd5 ct5, PySem.W.fnOf "__init__" "BadReplies.__init__" (defArgs sI6) (defBody sI6) (defScope sI6) .none kV6 dc6 pm6 an6 cd6 ct6, PySem.W.fnOf "__init__" "HasZip.__init__" (defArgs sI7) (defBody sI7) (defScope sI7) .none kV7 dc7 pm7 an7 cd7 ct7, PySem.W.fnOf "__init__" "BadText.__init__" (defArgs sI8) (defBody sI8) (defScope sI8) .none kV8 dc8 pm8 an8 cd8 ct8]).getD n (PySem.W.fnOf "__init__" "BadSource.__init__" (defArgs sI0) (defBody sI0) (defScope sI0) .none kV0 dc0 pm0 an0 cd0 ct0)
  have N : Nm mg := ⟨PySem.W.mg_none_of X G z0, PySem.W.mg_none_of X G z1, PySem.W.mg_none_of X G z2, PySem.W.mg_none_of X G z3, PySem.W.mg_none_of X G z4, PySem.W.mg_none_of X G z5, PySem.W.mg_none_of X G z6, PySem.W.mg_none_of X G z7, PySem.W.mg_none_of X G z8, PySem.W.mg_none_of X G z9, PySem.W.mg_none_of X G z10⟩
  have T : Nine K mg C I D := by
    refine ⟨T0, T1, T2, T3, T4, T5, T6, T7, T8, fun i hi => ?_, fun i j hi hj => ?_⟩
    · match i, hi with
      | 0, _ => exact E0
      | 1, _ => exact E1
      | 2, _ => exact E2
      | 3, _ => exact E3
      | 4, _ => exact E4
      | 5, _ => exact E5
      | 6, _ => exact E6
      | 7, _ => exact E7
      | 8, _ => exact E8
    · match i, j, hi, hj with
      | 0, 0, _, _ => exact (kit_mk xL0 ic0 tC0).trans (by simp)
      | 0, 1, _, _ => exact (kit_mk xL0 ic1 tC1).trans (by rw [decide_eq_false (fun z => z.elim (Ne.symm d0_1) d1_9)]; rfl)
      | 0, 2, _, _ => exact (kit_mk xL0 ic2 tC2).trans (by rw [decide_eq_false (fun z => z.elim (Ne.symm d0_2) d2_9)]; rfl)
      | 0, 3, _, _ => exact (kit_mk xL0 ic3 tC3).trans (by rw [decide_eq_false (fun z => z.elim (Ne.symm d0_3) d3_9)]; rfl)
      | 0, 4, _, _ => exact (kit_mk xL0 ic4 tC4).trans (by rw [decide_eq_false (fun z => z.elim (Ne.symm d0_4) d4_9)]; rfl)
      | 0, 5, _, _ => exact (kit_mk xL0 ic5 tC5).trans (by rw [decide_eq_false (fun z => z.elim (Ne.symm d0_5) d5_9)]; rfl)
      | 0, 6, _, _ => exact (kit_mk xL0 ic6 tC6).trans (by rw [decide_eq_false (fun z => z.elim (Ne.symm d0_6) d6_9)]; rfl)
      | 0, 7, _, _ => exact (kit_mk xL0 ic7 tC7).trans (by rw [decide_eq_false (fun z => z.elim (Ne.symm d0_7) d7_9)]; rfl)
      | 0, 8, _, _ => exact (kit_mk xL0 ic8 tC8).trans (by rw [decide_eq_false (fun z => z.elim (Ne.symm d0_8) d8_9)]; rfl)
      | 1, 0, _, _ => exact (kit_mk xL1 ic0 tC0).trans (by rw [decide_eq_false (fun z => z.elim (d0_1) d0_9)]; rfl)
      | 1, 1, _, _ => exact (kit_mk xL1 ic1 tC1).trans (by simp)
      | 1, 2, _, _ => exact (kit_mk xL1 ic2 tC2).trans (by rw [decide_eq_false (fun z => z.elim (Ne.symm d1_2) d2_9)]; rfl)
      | 1, 3, _, _ => exact (kit_mk xL1 ic3 tC3).trans (by rw [decide_eq_false (fun z => z.elim (Ne.symm d1_3) d3_9)]; rfl)
      | 1, 4, _, _ => exact (kit_mk xL1 ic4 tC4).trans (by rw [decide_eq_false (fun z => z.elim (Ne.symm d1_4) d4_9)]; rfl)
      | 1, 5, _, _ => exact (kit_mk xL1 ic5 tC5).trans (by rw [decide_eq_false (fun z => z.elim (Ne.symm d1_5) d5_9)]; rfl)
      | 1, 6, _, _ => exact (kit_mk xL1 ic6 tC6).trans (by rw [decide_eq_false (fun z => z.elim (Ne.symm d1_6) d6_9)]; rfl)
      | 1, 7, _, _ => exact (kit_mk xL1 ic7 tC7).trans (by rw [decide_eq_false (fun z => z.elim (Ne.symm d1_7) d7_9)]; rfl)
      | 1, 8, _, _ => exact (kit_mk xL1 ic8 tC8).trans (by rw [decide_eq_false (fun z => z.elim (Ne.symm d1_8) d8_9)]; rfl)
      | 2, 0, _, _ => exact (kit_mk xL2 ic0 tC0).trans (by rw [decide_eq_false (fun z => z.elim (d0_2) d0_9)]; rfl)
      | 2, 1, _, _ => exact (kit_mk xL2 ic1 tC1).trans (by rw [decide_eq_false (fun z => z.elim (d1_2) d1_9)]; rfl)
      | 2, 2, _, _ => exact (kit_mk xL2 ic2 tC2).trans (by simp)
      | 2, 3, _, _ => exact (kit_mk xL2 ic3 tC3).trans (by rw [decide_eq_false (fun z => z.elim (Ne.symm d2_3) d3_9)]; rfl)
      | 2, 4, _, _ => exact (kit_mk xL2 ic4 tC4).trans (by rw [decide_eq_false (fun z => z.elim (Ne.symm d2_4) d4_9)]; rfl)
      | 2, 5, _, _ => exact (kit_mk xL2 ic5 tC5).trans (by rw [decide_eq_false (fun z => z.elim (Ne.symm d2_5) d5_9)]; rfl)
      | 2, 6, _, _ => exact (kit_mk xL2 ic6 tC6).trans (by rw [decide_eq_false (fun z => z.elim (Ne.symm d2_6) d6_9)]; rfl)
      | 2, 7, _, _ => exact (kit_mk xL2 ic7 tC7).trans (by rw [decide_eq_false (fun z => z.elim (Ne.symm d2_7) d7_9)]; rfl)
      | 2, 8, _, _ => exact (kit_mk xL2 ic8 tC8).trans (by rw [decide_eq_false (fun z => z.elim (Ne.symm d2_8) d8_9)]; rfl)
      | 3, 0, _, _ => exact (kit_mk xL3 ic0 tC0).trans (by rw [decide_eq_false (fun z => z.elim (d0_3) d0_9)]; rfl)
      | 3, 1, _, _ => exact (kit_mk xL3 ic1 tC1).trans (by rw [decide_eq_false (fun z => z.elim (d1_3) d1_9)]; rfl)
      | 3, 2, _, _ => exact (kit_mk xL3 ic2 tC2).trans (by rw [decide_eq_false (fun z => z.elim (d2_3) d2_9)]; rfl)
      | 3, 3, _, _ => exact (kit_mk xL3 ic3 tC3).trans (by simp)
      | 3, 4, _, _ => exact (kit_mk xL3 ic4 tC4).trans (by rw [decide_eq_false (fun z => z.elim (Ne.symm d3_4) d4_9)]; rfl)
      | 3, 5, _, _ => exact (kit_mk xL3 ic5 tC5).trans (by rw [decide_eq_false (fun z => z.elim (Ne.symm d3_5) d5_9)]; rfl)
      | 3, 6, _, _ => exact (kit_mk xL3 ic6 tC6).trans (by rw [decide_eq_false (fun z => z.elim (Ne.symm d3_6) d6_9)]; rfl)
      | 3, 7, _, _ => exact (kit_mk xL3 ic7 tC7).trans (by rw [decide_eq_false (fun z => z.elim (Ne.symm d3_7) d7_9)]; rfl)
      | 3, 8, _, _ => exact (kit_mk xL3 ic8 tC8).trans (by rw [decide_eq_false (fun z => z.elim (Ne.symm d3_8) d8_9)]; rfl)
      | 4, 0, _, _ => exact (kit_mk xL4 ic0 tC0).trans (by rw [decide_eq_false (fun z => z.elim (d0_4) d0_9)]; rfl)
      | 4, 1, _, _ => exact (kit_mk xL4 ic1 tC1).trans (by rw [decide_eq_false (fun z => z.elim (d1_4) d1_9)]; rfl)
      | 4, 2, _, _ => exact (kit_mk xL4 ic2 tC2).trans (by rw [decide_eq_false (fun z => z.elim (d2_4) d2_9)]; rfl)
      | 4, 3, _, _ => exact (kit_mk xL4 ic3 tC3).trans (by rw [decide_eq_false (fun z => z.elim (d3_4) d3_9)]; rfl)
      | 4, 4, _, _ => exact (kit_mk xL4 ic4 tC4).trans (by simp)
      | 4, 5, _, _ => exact (kit_mk xL4 ic5 tC5).trans (by rw [decide_eq_false (fun z => z.elim (Ne.symm d4_5) d5_9)]; rfl)
      | 4, 6, _, _ => exact (kit_mk xL4 ic6 tC6).trans (by rw [decide_eq_false (fun z => z.elim (Ne.symm d4_6) d6_9)]; rfl)
      | 4, 7, _, _ => exact (kit_mk xL4 ic7 tC7).trans (by rw [decide_eq_false (fun z => z.elim (Ne.symm d4_7) d7_9)]; rfl)
      | 4, 8, _, _ => exact (kit_mk xL4 ic8 tC8).trans (by rw [decide_eq_false (fun z => z.elim (Ne.symm d4_8) d8_9)]; rfl)
      | 5, 0, _, _ => exact (kit_mk xL5 ic0 tC0).trans (by rw [decide_eq_false (fun z => z.elim (d0_5) d0_9)]; rfl)
      | 5, 1, _, _ => exact (kit_mk xL5 ic1 tC1).trans (by rw [decide_eq_false (fun z => z.elim (d1_5) d1_9)]; rfl)
      | 5, 2, _, _ => exact (kit_mk xL5 ic2 tC2).trans (by rw [decide_eq_false (fun z => z.elim (d2_5) d2_9)]; rfl)
      | 5, 3, _, _ => exact (kit_mk xL5 ic3 tC3).trans (by rw [decide_eq_false (fun z => z.elim (d3_5) d3_9)]; rfl)
      | 5, 4, _, _ => exact (kit_mk xL5 ic4 tC4).trans (by rw [decide_eq_false (fun z => z.elim (d4_5) d4_9)]; rfl)
      | 5, 5, _, _ => exact (kit_mk xL5 ic5 tC5).trans (by simp)
      | 5, 6, _, _ => exact (kit_mk xL5 ic6 tC6).trans (by rw [decide_eq_false (fun z => z.elim (Ne.symm d5_6) d6_9)]; rfl)
      | 5, 7, _, _ => exact (kit_mk xL5 ic7 tC7).trans (by rw [decide_eq_false (fun z => z.elim (Ne.symm d5_7) d7_9)]; rfl)
      | 5, 8, _, _ => exact (kit_mk xL5 ic8 tC8).trans (by rw [decide_eq_false (fun z => z.elim (Ne.symm d5_8) d8_9)]; rfl)
      | 6, 0, _, _ => exact (kit_mk xL6 ic0 tC0).trans (by rw [decide_eq_false (fun z => z.elim (d0_6) d0_9)]; rfl)
      | 6, 1, _, _ => exact (kit_mk xL6 ic1 tC1).trans (by rw [decide_eq_false (fun z => z.elim (d1_6) d1_9)]; rfl)
      | 6, 2, _, _ => exact (kit_mk xL6 ic2 tC2).trans (by rw [decide_eq_false (fun z => z.elim (d2_6) d2_9)]; rfl)
      | 6, 3, _, _ => exact (kit_mk xL6 ic3 tC3).trans (by rw [decide_eq_false (fun z => z.elim (d3_6) d3_9)]; rfl)
      | 6, 4, _, _ => exact (kit_mk xL6 ic4 tC4).trans (by rw [decide_eq_false (fun z => z.elim (d4_6) d4_9)]; rfl)
      | 6, 5, _, _ => exact (kit_mk xL6 ic5 tC5).trans (by rw [decide_eq_false (fun z => z.elim (d5_6) d5_9)]; rfl)
      | 6, 6, _, _ => exact (kit_mk xL6 ic6 tC6).trans (by simp)
      | 6, 7, _, _ => exact (kit_mk xL6 ic7 tC7).trans (by rw [decide_eq_false (fun z => z.elim (Ne.symm d6_7) d7_9)]; rfl)
      | 6, 8, _, _ => exact (kit_mk xL6 ic8 tC8).trans (by rw [decide_eq_false (fun z => z.elim (Ne.symm d6_8) d8_9)]; rfl)
      | 7, 0, _, _ => exact (kit_mk xL7 ic0 tC0).trans (by rw [decide_eq_false (fun z => z.elim (d0_7) d0_9)]; rfl)
      | 7, 1, _, _ => exact (kit_mk xL7 ic1 tC1).trans (by rw [decide_eq_false (fun z => z.elim (d1_7) d1_9)]; rfl)
      | 7, 2, _, _ => exact (kit_mk xL7 ic2 tC2).trans (by rw [decide_eq_false (fun z => z.elim (d2_7) d2_9)]; rfl)
      | 7, 3, _, _ => exact (kit_mk xL7 ic3 tC3).trans (by rw [decide_eq_false (fun z => z.elim (d3_7) d3_9)]; rfl)
      | 7, 4, _, _ => exact (kit_mk xL7 ic4 tC4).trans (by rw [decide_eq_false (fun z => z.elim (d4_7) d4_9)]; rfl)
      | 7, 5, _, _ => exact (kit_mk xL7 ic5 tC5).trans (by rw [decide_eq_false (fun z => z.elim (d5_7) d5_9)]; rfl)
      | 7, 6, _, _ => exact (kit_mk xL7 ic6 tC6).trans (by rw [decide_eq_false (fun z => z.elim (d6_7) d6_9)]; rfl)
      | 7, 7, _, _ => exact (kit_mk xL7 ic7 tC7).trans (by simp)
      | 7, 8, _, _ => exact (kit_mk xL7 ic8 tC8).trans (by rw [decide_eq_false (fun z => z.elim (Ne.symm d7_8) d8_9)]; rfl)
      | 8, 0, _, _ => exact (kit_mk xL8 ic0 tC0).trans (by rw [decide_eq_false (fun z => z.elim (d0_8) d0_9)]; rfl)
      | 8, 1, _, _ => exact (kit_mk xL8 ic1 tC1).trans (by rw [decide_eq_false (fun z => z.elim (d1_8) d1_9)]; rfl)
      | 8, 2, _, _ => exact (kit_mk xL8 ic2 tC2).trans (by rw [decide_eq_false (fun z => z.elim (d2_8) d2_9)]; rfl)
      | 8, 3, _, _ => exact (kit_mk xL8 ic3 tC3).trans (by rw [decide_eq_false (fun z => z.elim (d3_8) d3_9)]; rfl)
      | 8, 4, _, _ => exact (kit_mk xL8 ic4 tC4).trans (by rw [decide_eq_false (fun z => z.elim (d4_8) d4_9)]; rfl)
      | 8, 5, _, _ => exact (kit_mk xL8 ic5 tC5).trans (by rw [decide_eq_false (fun z => z.elim (d5_8) d5_9)]; rfl)
      | 8, 6, _, _ => exact (kit_mk xL8 ic6 tC6).trans (by rw [decide_eq_false (fun z => z.elim (d6_8) d6_9)]; rfl)
      | 8, 7, _, _ => exact (kit_mk xL8 ic7 tC7).trans (by rw [decide_eq_false (fun z => z.elim (d7_8) d7_9)]; rfl)
      | 8, 8, _, _ => exact (kit_mk xL8 ic8 tC8).trans (by simp)
  have B : Base K mg C S := by
    refine ⟨PySem.W.mg_of X G aSt, fun i hi => ?_, fun i hi => ?_⟩
    · match i, hi with
      | 0, _ => exact (kit_mk xL0 icS tS).trans (by simp)
      | 1, _ => exact (kit_mk xL1 icS tS).trans (by simp)
      | 2, _ => exact (kit_mk xL2 icS tS).trans (by simp)
      | 3, _ => exact (kit_mk xL3 icS tS).trans (by simp)
      | 4, _ => exact (kit_mk xL4 icS tS).trans (by simp)
      | 5, _ => exact (kit_mk xL5 icS tS).trans (by simp)
      | 6, _ => exact (kit_mk xL6 icS tS).trans (by simp)
      | 7, _ => exact (kit_mk xL7 icS tS).trans (by simp)
      | 8, _ => exact (kit_mk xL8 icS tS).trans (by simp)
    · match i, hi with
      | 0, _ => exact kit_ve xL0
      | 1, _ => exact kit_ve xL1
      | 2, _ => exact kit_ve xL2
      | 3, _ => exact kit_ve xL3
      | 4, _ => exact kit_ve xL4
      | 5, _ => exact kit_ve xL5
      | 6, _ => exact kit_ve xL6
      | 7, _ => exact kit_ve xL7
      | 8, _ => exact kit_ve xL8
  have FS := fun_mk (st := sSource) lS cS kS
  have bS := FS.binds (ps := ["script", "start"]) fun _ _ _ _ _ _ us hl => match us, hl with | [_, _], _ => rfl
  have FD := fun_mk (st := sDraw) lD cD kD
  have bD := FD.binds (ps := ["stream", "span"]) fun _ _ _ _ _ _ us hl => match us, hl with | [_, _], _ => rfl
  have FP := fun_mk (st := sPick) lP cP kP
  have bP := FP.binds (ps := ["stream", "things"]) fun _ _ _ _ _ _ us hl => match us, hl with | [_, _], _ => rfl
  have FK := fun_mk (st := sKinds) lK cK kK
  have bK := FK.binds (ps := ["error"]) fun _ _ _ _ _ _ us hl => match us, hl with | [_], _ => rfl
  have FB := fun_mk (st := sPlace) lB cB kB
  have bB := FB.binds (ps := ["thing", "many"]) fun _ _ _ _ _ _ us hl => match us, hl with | [_, _], _ => rfl
  have FN := fun_mk (st := sName) lN cN kN
  have bN := FN.binds (ps := ["thing", "many"]) fun _ _ _ _ _ _ us hl => match us, hl with | [_, _], _ => rfl
  have FR := fun_mk (st := sStored) lR cR kR
  have bR := FR.binds (ps := ["errors"]) fun _ _ _ _ _ _ us hl => match us, hl with | [_], _ => rfl
  have FL := fun_mk (st := sLaw) lL cL kL
  have Z : Defs K mg fS fD fP fK fB fN fR _ _ _ _ _ _ _ := ⟨PySem.W.mg_of X G aS, PySem.W.mg_of X G aD, PySem.W.mg_of X G aP, PySem.W.mg_of X G aK, PySem.W.mg_of X G aB, PySem.W.mg_of X G aN, PySem.W.mg_of X G aR, FS, FD, FP, FK, FB, FN, FR, bS, bD, bP, bK, bB, bN, bR⟩
  exact ⟨_, fun s v => .of_eq rfl, fun base _ _ => run_law FL N T B Z⟩
end K91
set_option Elab.async false
set_option linter.all false
open PySem PySem.W PyProof.Rows
set_option maxRecDepth 100000 in
set_option maxHeartbeats 0 in
theorem PySem.Challenge.cw_pulledonce_k91_errors_by_hand_holds : PySem.Challenge.rw_pulledonce_k91_errors_by_hand.Holds := by
  w_on; o_law; k_head; (case hw => w_witness2)
  k_fill
  refine VK.walk_at (l := PySem.Challenge.rw_pulledonce_k91_errors_by_hand) (n := 63) (x := "script") (sp := fun w => K91.spLaw _) rfl (by decide) rfl (fun w h Y => PySem.W.kIn_of Y) ?F (fun w H a ns hl hb _ hS => ⟨a, ns, rfl, hS, hl, hb, fun _ => rfl⟩)
  case F =>
    intro w mg fa h KX G hmg
    refine' K91.all_mk KX G hmg ?aSt ?aC0 ?xL0 ?sa0 ?eC0 ?tC0 ?kC0 ?no0 ?in0 ?ty0 ?li0 ?ci0 ?ki0 ?ga0 ?gg0 ?hC0 ?cl0 ?ob0 ?ic0 ?aC1 ?xL1 ?sa1 ?eC1 ?tC1 ?kC1 ?no1 ?in1 ?ty1 ?li1 ?ci1 ?ki1 ?ga1 ?gg1 ?hC1 ?cl1 ?ob1 ?ic1 ?aC2 ?xL2 ?sa2 ?eC2 ?tC2 ?kC2 ?no2 ?in2 ?ty2 ?li2 ?ci2 ?ki2 ?ga2 ?gg2 ?hC2 ?cl2 ?ob2 ?ic2 ?aC3 ?xL3 ?sa3 ?eC3 ?tC3 ?kC3 ?no3 ?in3 ?ty3 ?li3 ?ci3 ?ki3 ?ga3 ?gg3 ?hC3 ?cl3 ?ob3 ?ic3 ?aC4 ?xL4 ?sa4 ?eC4 ?tC4 ?kC4 ?no4 ?in4 ?ty4 ?li4 ?ci4 ?ki4 ?ga4 ?gg4 ?hC4 ?cl4 ?ob4 ?ic4 ?aC5 ?xL5 ?sa5 ?eC5 ?tC5 ?kC5 ?no5 ?in5 ?ty5 ?li5 ?ci5 ?ki5 ?ga5 ?gg5 ?hC5 ?cl5 ?ob5 ?ic5 ?aC6 ?xL6 ?sa6 ?eC6 ?tC6 ?kC6 ?no6 ?in6 ?ty6 ?li6 ?ci6 ?ki6 ?ga6 ?gg6 ?hC6 ?cl6 ?ob6 ?ic6 ?aC7 ?xL7 ?sa7 ?eC7 ?tC7 ?kC7 ?no7 ?in7 ?ty7 ?li7 ?ci7 ?ki7 ?ga7 ?gg7 ?hC7 ?cl7 ?ob7 ?ic7 ?aC8 ?xL8 ?sa8 ?eC8 ?tC8 ?kC8 ?no8 ?in8 ?ty8 ?li8 ?ci8 ?ki8 ?ga8 ?gg8 ?hC8 ?cl8 ?ob8 ?ic8 ?icS ?tS ?sp ?tk ?aS ?lS ?cS ?kS ?aD ?lD ?cD ?kD ?aP ?lP ?cP ?kP ?aK ?lK ?cK ?kK ?aB ?lB ?cB ?kB ?aN ?lN ?cN ?kN ?aR ?lR ?cR ?kR ?aL ?lL ?cL ?kL ?z0 ?z1 ?z2 ?z3 ?z4 ?z5 ?z6 ?z7 ?z8 ?z9 ?z10 ?nd
    (case aSt => k_is)
    (case aC0 => k_is)
    (case xL0 => k_is)
    (case sa0 => k_is)
    (case eC0 => k_is)
    (case tC0 => k_is)
    (case kC0 => k_is)
    (case no0 => k_is)
    (case in0 => k_is)
    (case ty0 => k_is)
    (case li0 => k_is)
    (case ci0 => k_is)
    (case ki0 => k_is)
    (case ga0 => k_is)
    (case gg0 => k_is)
    (case hC0 => k_is)
    (case cl0 => k_is)
    (case ob0 => k_is)
    (case ic0 => k_is)
    (case aC1 => k_is)
    (case xL1 => k_is)
    (case sa1 => k_is)
    (case eC1 => k_is)
    (case tC1 => k_is)
    (case kC1 => k_is)
    (case no1 => k_is)
    (case in1 => k_is)
    (case ty1 => k_is)
    (case li1 => k_is)
    (case ci1 => k_is)
    (case ki1 => k_is)
    (case ga1 => k_is)
    (case gg1 => k_is)
    (case hC1 => k_is)
    (case cl1 => k_is)
    (case ob1 => k_is)
    (case ic1 => k_is)
    (case aC2 => k_is)
    (case xL2 => k_is)
    (case sa2 => k_is)
    (case eC2 => k_is)
    (case tC2 => k_is)
    (case kC2 => k_is)
    (case no2 => k_is)
    (case in2 => k_is)
    (case ty2 => k_is)
    (case li2 => k_is)
    (case ci2 => k_is)
    (case ki2 => k_is)
    (case ga2 => k_is)
    (case gg2 => k_is)
    (case hC2 => k_is)
    (case cl2 => k_is)
    (case ob2 => k_is)
    (case ic2 => k_is)
    (case aC3 => k_is)
    (case xL3 => k_is)
    (case sa3 => k_is)
    (case eC3 => k_is)
    (case tC3 => k_is)
    (case kC3 => k_is)
    (case no3 => k_is)
    (case in3 => k_is)
    (case ty3 => k_is)
    (case li3 => k_is)
    (case ci3 => k_is)
    (case ki3 => k_is)
    (case ga3 => k_is)
    (case gg3 => k_is)
    (case hC3 => k_is)
    (case cl3 => k_is)
    (case ob3 => k_is)
    (case ic3 => k_is)
    (case aC4 => k_is)
    (case xL4 => k_is)
    (case sa4 => k_is)
    (case eC4 => k_is)
    (case tC4 => k_is)
    (case kC4 => k_is)
    (case no4 => k_is)
    (case in4 => k_is)
    (case ty4 => k_is)
    (case li4 => k_is)
    (case ci4 => k_is)
    (case ki4 => k_is)
    (case ga4 => k_is)
    (case gg4 => k_is)
    (case hC4 => k_is)
    (case cl4 => k_is)
    (case ob4 => k_is)
    (case ic4 => k_is)
    (case aC5 => k_is)
    (case xL5 => k_is)
    (case sa5 => k_is)
    (case eC5 => k_is)
    (case tC5 => k_is)
    (case kC5 => k_is)
    (case no5 => k_is)
    (case in5 => k_is)
    (case ty5 => k_is)
    (case li5 => k_is)
    (case ci5 => k_is)
    (case ki5 => k_is)
    (case ga5 => k_is)
    (case gg5 => k_is)
    (case hC5 => k_is)
    (case cl5 => k_is)
    (case ob5 => k_is)
    (case ic5 => k_is)
    (case aC6 => k_is)
    (case xL6 => k_is)
    (case sa6 => k_is)
    (case eC6 => k_is)
    (case tC6 => k_is)
    (case kC6 => k_is)
    (case no6 => k_is)
    (case in6 => k_is)
    (case ty6 => k_is)
    (case li6 => k_is)
    (case ci6 => k_is)
    (case ki6 => k_is)
    (case ga6 => k_is)
    (case gg6 => k_is)
    (case hC6 => k_is)
    (case cl6 => k_is)
    (case ob6 => k_is)
    (case ic6 => k_is)
    (case aC7 => k_is)
    (case xL7 => k_is)
    (case sa7 => k_is)
    (case eC7 => k_is)
    (case tC7 => k_is)
    (case kC7 => k_is)
    (case no7 => k_is)
    (case in7 => k_is)
    (case ty7 => k_is)
    (case li7 => k_is)
    (case ci7 => k_is)
    (case ki7 => k_is)
    (case ga7 => k_is)
    (case gg7 => k_is)
    (case hC7 => k_is)
    (case cl7 => k_is)
    (case ob7 => k_is)
    (case ic7 => k_is)
    (case aC8 => k_is)
    (case xL8 => k_is)
    (case sa8 => k_is)
    (case eC8 => k_is)
    (case tC8 => k_is)
    (case kC8 => k_is)
    (case no8 => k_is)
    (case in8 => k_is)
    (case ty8 => k_is)
    (case li8 => k_is)
    (case ci8 => k_is)
    (case ki8 => k_is)
    (case ga8 => k_is)
    (case gg8 => k_is)
    (case hC8 => k_is)
    (case cl8 => k_is)
    (case ob8 => k_is)
    (case ic8 => k_is)
    (case icS => k_is)
    (case tS => k_is)
    (case sp => k_is)
    (case tk => k_is)
    (case aS => k_is)
    (case lS => k_is)
    (case cS => k_is)
    (case kS => k_is)
    (case aD => k_is)
    (case lD => k_is)
    (case cD => k_is)
    (case kD => k_is)
    (case aP => k_is)
    (case lP => k_is)
    (case cP => k_is)
    (case kP => k_is)
    (case aK => k_is)
    (case lK => k_is)
    (case cK => k_is)
    (case kK => k_is)
    (case aB => k_is)
    (case lB => k_is)
    (case cB => k_is)
    (case kB => k_is)
    (case aN => k_is)
    (case lN => k_is)
    (case cN => k_is)
    (case kN => k_is)
    (case aR => k_is)
    (case lR => k_is)
    (case cR => k_is)
    (case kR => k_is)
    (case aL => k_is)
    (case lL => k_is)
    (case cL => k_is)
    (case kL => k_is)
    (case z0 => k_is)
    (case z1 => k_is)
    (case z2 => k_is)
    (case z3 => k_is)
    (case z4 => k_is)
    (case z5 => k_is)
    (case z6 => k_is)
    (case z7 => k_is)
    (case z8 => k_is)
    (case z9 => k_is)
    (case z10 => k_is)
    (case nd => decide)

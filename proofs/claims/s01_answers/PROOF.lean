import PyProof.Rows.All
import Wide.All
import OpenK.AllK
import Wide.FinOn
import KE.KExcInit
import HandS.ForSpec
import HandS.ForMost
import HandS.ExcInit
import HandS.ExcField
import HandS.ClsMeth
import HandS.Evl
import KE.KTupSum
import KE.KSortKeySt
import HandS.SetFor
import HandS.SortKw
import KE.GoesEnumKw
import KE.GoesZip
import HandS.Walk
import HandS.Zip
import HandS.Defaults
import HandS.HeadHook2
import HandS.Head4
import KE.OsShapes
import KE.OsGo
import HandS.Dict
import HandS.DictTup
import HandS.Comp
import HandS.Conv
import HandS.TupAny
import HandS.TupLe
import HandS.Deep
import HandS.Codes
import HandS.Style
import HandS.NoneIn
import HandS.Iter
import HandS.Text
import HandS.Spec
import PySem.Challenge.RW_fullshelves_s01_answers
set_option Elab.async false
set_option linter.all false
set_option maxRecDepth 100000
set_option maxHeartbeats 4000000
/-! own exceptions over Exception: an __init__ that calls its base's, walked as a def -/
namespace FsX
open PySem PySem.W PySem.Calls PyProof.Rows PySem.HandSPX
abbrev eTail : List Value := [.type "Exception", .type "BaseException", .type "object"]
section
open Builtin Builtin.ObjectAttr
variable {prog : Program} {w : World} {A : Around} {R : Result → Shared → Prop} {hp : Heap} {g : Array GenState} {d : Drawn} {t : Nat} {os : OsState}
theorem taker_none {K : Frag} {C : Addr} {n : Str} (h : findIn K (.ref C) n = some none) : takerIn K C n = some none := by unfold takerIn; rw [h]; rfl
theorem first_store {K : Frag} {n : Str} {tk : Tok} {v : Value} {x C : Addr} {fv : Array Value} {cd : ClassData} (X : K.In hp) (hx : hp.get? x = some { cls := .ref C, data := .fields fv }) (hc : clsIn K C = some cd) (hh : cd.hasDict = true)
    (ov : excOver K C eTail = true) (hn : findIn K (.ref C) n = some none)
    (hq : ∀ h' t' dx, (∀ b o, b ≠ x → hp.get? b = some o → h'.get? b = some o) → hp.objs.size ≤ dx → dx ≠ x → h'.get? x = some { cls := .ref C, dict := some dx, data := .fields fv } → h'.Ns1 dx (fun y => if y = n then some v else none) → R (.ok (.ret .none)) ⟨h', g, d, t', os⟩) :
    codeAny (model prog w) A (.call (.builtin "object.__setattr__") ⟨[.ref x, .str n tk, v], []⟩) R ⟨hp, g, d, t, os⟩ := by
  refine osa_openX (od := none) (ox := { cls := .ref C, data := .fields fv }) F.store_Exception X ⟨hx, rfl, rfl, trivial⟩ ov (taker_none hn) fun b => ?_
  have xs : x ≠ hp.objs.size := Nat.ne_of_lt (Heap.lt_size hx)
  have lc : Looks (model prog w) hp (classData C) cd := looks_clsIn X hc
  show wpAny _ _ (storeInOwnDict (.ref x) (.ref C) (.str n tk) n v b) _ _ _
  obtain ⟨c1, c2, c3, c4, c5, hd, c6, c7, c8, c9, c10⟩ := cd
  obtain rfl : hd = true := hh
  unfold storeInOwnDict ownDictForStores
  repeat (first | with_reducible refine HandSPX.store_in_new ?_ ?_ | with_reducible refine wpAny_loadPart_at hx ?_ | with_reducible refine lc.at ?_ | wp_step)
  · exact ⟨_, #[], _, (Heap.get?_update_ne _ _ _ _ xs.symm).trans (Heap.get?_push_at rfl rfl), rfl, fun e he => absurd he (by simp), fun _ => rfl⟩
  · intro h' t' hn' hs
    have old : (hp.push { cls := .type "dict", data := .dict #[] }).get? x = some { cls := .ref C, data := .fields fv } := Heap.get?_push_of_some _ hx
    have self := Heap.get?_update_self (fun o : Obj => { o with dict := some hp.objs.size }) old rfl
    exact hq h' t' hp.objs.size (fun b o hb ho => (hs.2 b (Nat.ne_of_lt (Heap.lt_size ho))).trans ((Heap.get?_update_ne _ _ _ _ hb).trans (Heap.get?_push_of_some _ ho))) (Nat.le_refl _) xs.symm ((hs.2 x xs).trans self) hn'
theorem next_store {K : Frag} {n : Str} {tk : Tok} {v : Value} {x C dx : Addr} {fv : Array Value} {cd : ClassData} {m0 : Str → Option Value} {nl : List Str} (X : K.In hp) (hx : hp.get? x = some { cls := .ref C, dict := some dx, data := .fields fv })
    (hns : hp.Ns1 dx m0) (hw : Within m0 nl) (hz : nl.length ≤ 1000) (hc : clsIn K C = some cd) (hh : cd.hasDict = true) (ov : excOver K C eTail = true) (hn : findIn K (.ref C) n = some none)
    (hq : ∀ h' t', (∀ b o, b ≠ dx → hp.get? b = some o → h'.get? b = some o) → h'.Ns1 dx (fun y => if y = n then some v else m0 y) → R (.ok (.ret .none)) ⟨h', g, d, t', os⟩) :
    codeAny (model prog w) A (.call (.builtin "object.__setattr__") ⟨[.ref x, .str n tk, v], []⟩) R ⟨hp, g, d, t, os⟩ := by
  obtain ⟨oD, _, _, hoD, _, _⟩ := hns.count hw
  refine osa_openX (od := some oD) (ox := { cls := .ref C, dict := some dx, data := .fields fv }) F.store_Exception X ⟨hx, rfl, rfl, hoD⟩ ov (taker_none hn) fun b => ?_
  have lc : Looks (model prog w) hp (classData C) cd := looks_clsIn X hc
  show wpAny _ _ (storeInOwnDict (.ref x) (.ref C) (.str n tk) n v b) _ _ _
  obtain ⟨c1, c2, c3, c4, c5, hd, c6, c7, c8, c9, c10⟩ := cd
  obtain rfl : hd = true := hh
  unfold storeInOwnDict ownDictForStores
  repeat (first | with_reducible refine OEX.store_in_old hns hw hz ?_ | with_reducible refine wpAny_loadPart_at hx ?_ | with_reducible refine lc.at ?_ | wp_step)
  intro h' t' hn' hs
  exact hq h' t' (fun b o hb ho => (hs.2 b hb).trans ho) hn'
end
end FsX
namespace FsX
open PySem PySem.Spec PyProof.Rows L2
/-- what the written part says of such a class -/
structure ExK (K : PySem.W.Frag) (C : Addr) : Prop where
  ini : PySem.W.excInitIn K C eTail "Exception.__new__" = true
  ov : PySem.W.excOver K C eTail = true
  sa : PySem.W.findIn K (.ref C) "__setattr__" = some (some (.builtin "object.__setattr__"))
  hd : PySem.W.hasDictIn K C = true
  exC : PySem.W.subIn K (.ref C) (.type "BaseException") = some true
  tyC : PySem.W.typeIn K (.ref C) = some (.type "type")
  kC : PySem.W.keepIn K (.ref C) = true
def exB (K : PySem.W.Frag) (C : Addr) : Bool := PySem.W.excInitIn K C eTail "Exception.__new__" && (PySem.W.excOver K C eTail && (decide (PySem.W.findIn K (.ref C) "__setattr__" = some (some (.builtin "object.__setattr__"))) &&
  (PySem.W.hasDictIn K C && (decide (PySem.W.subIn K (.ref C) (.type "BaseException") = some true) && (decide (PySem.W.typeIn K (.ref C) = some (.type "type")) && PySem.W.keepIn K (.ref C))))))
theorem exB_ok {K : PySem.W.Frag} {C : Addr} (h : exB K C = true) : ExK K C := by
  unfold exB at h
  simp only [Bool.and_eq_true, decide_eq_true_eq] at h
  obtain ⟨a, b, c, d, e, f, g⟩ := h
  exact ⟨a, b, c, d, e, f, g⟩
theorem ExK.cls {K : PySem.W.Frag} {C : Addr} (T : ExK K C) : ∃ cd, PySem.W.clsIn K C = some cd ∧ cd.hasDict = true := PySem.W.any_some T.hd
section
variable {X : Cx} {pins : List (Addr × Obj)} {σ : L2.St} {H : Hp} {s : Shared} {a C dx : Addr} {f : Str} {y : V} {u : Value} {fs : List (Str × V)} {Q : Unit → Shared → Prop} {E : Value → Shared → Prop} {A : Around}
/-- self.f = y, the first one: the exception's own dict is made -/
theorem st_first (T : ExK X.K C) (I : Inv X pins σ H s) (e : H a = some (exo a C none)) (hno : PySem.W.findIn X.K (.ref C) f = some none) (ry : RelV y u)
    (h : ∀ dx s', H dx = none → dx ≠ a → Inv X pins σ (upd (upd H dx (exd dx [(f, y)])) a (exo a C (some dx))) s' → Q () s') : wpAny (model X.prog X.w) A (setAttr (.ref a) f u) Q E s := by
  obtain ⟨cd, hc, hh⟩ := T.cls
  obtain ⟨t1, ho⟩ := exo_at I.hok e
  obtain ⟨hp, g, d, t, os⟩ := s
  refine PySem.W.set_plain I.kIn (ox := { cls := .ref C, dict := none, data := .fields #[.ref t1, .none, .none, .none, .bool false, .none] }) (od := none) ⟨ho, rfl, rfl, trivial⟩ T.sa (first_store I.kIn ho hc hh T.ov hno fun h' t' dx k dn dne hx hn => ?_)
  have fresh : H dx = none := I.hok.fresh dn
  have ndx : ∀ {b : Addr} {o : Obj}, hp.get? b = some o → b ≠ dx := fun q => Nat.ne_of_lt (Nat.lt_of_lt_of_le (Heap.lt_size q) dn)
  have na : ∀ {b : Addr}, H b = none → b ≠ a := fun n z => by rw [z, e] at n; cases n
  refine h dx _ fresh dne (I.un (t' := t') (h' := h') ⟨fun b o q n _ _ => k b o (na n) q, fun b o q n _ _ => ⟨o.slots, k b o (na n) q⟩, fun b o q n _ => by rw [upd_ne (na n), upd_ne (ndx q)]; exact n, fun b o q _ => ?_,
    fun b xs q => by rw [upd_ne (at_ne e q exo_tup), upd_ne (ne_of_none q fresh)]; exact q, fun b o v q => by rw [upd_ne (at_ne e q exo_frz), upd_ne (ne_of_none q fresh)]; exact q, fun b ps q => ⟨#[], by rw [upd_ne (at_ne e q exo_tbl), upd_ne (ne_of_none q fresh), q]; simp⟩⟩ fun b o q => ?_)
  · by_cases hb : b = a
    · exact ⟨_, by rw [hb]; exact hx⟩
    · exact ⟨o, k b o hb q⟩
  by_cases hb : b = a
  · subst hb; rw [upd_same] at q; cases q
    exact exo_ok hx
  rw [upd_ne hb] at q
  by_cases hd : b = dx
  · subst hd; rw [upd_same] at q; cases q
    exact exd_ok hn (relO_put (fs := []) ry fun _ => True.intro)
  rw [upd_ne hd] at q
  refine (I.hok b o q).stay (fun c v hc z => k c v ?_ z) (fun c hc => by rw [upd_ne (at_ne e hc exo_own), upd_ne (ne_of_none hc fresh)]; exact hc) (fun c xs hc => by rw [upd_ne (at_ne e hc exo_tup), upd_ne (ne_of_none hc fresh)]; exact hc)
  rcases hc with hc | hc
  · rw [hc]; exact hb
  · exact at_ne e hc exo_own
/-- .. a further one -/
theorem st_next (T : ExK X.K C) (I : Inv X pins σ H s) (e : H a = some (exo a C (some dx))) (ed : H dx = some (exd dx fs)) (hl : fs.length ≤ 900) (hno : PySem.W.findIn X.K (.ref C) f = some none) (ry : RelV y u)
    (h : ∀ s', Inv X pins σ (upd H dx (exd dx ((f, y) :: fs))) s' → Q () s') : wpAny (model X.prog X.w) A (setAttr (.ref a) f u) Q E s := by
  obtain ⟨cd, hc, hh⟩ := T.cls
  obtain ⟨t1, ho⟩ := exo_at I.hok e
  obtain ⟨mA, hns, rel⟩ := exd_at I.hok ed
  have hw := within_of rel
  obtain ⟨hp, g, d, t, os⟩ := s
  obtain ⟨oD, _, _, hoD, _, _⟩ := hns.count hw
  refine PySem.W.set_plain I.kIn (ox := { cls := .ref C, dict := some dx, data := .fields #[.ref t1, .none, .none, .none, .bool false, .none] }) (od := some oD) ⟨ho, rfl, rfl, hoD⟩ T.sa (next_store I.kIn ho hns hw (by rw [List.length_map]; omega) hc hh T.ov hno fun h' t' k hn => ?_)
  have there : ∃ o, h'.get? dx = some o := by obtain ⟨o, _, _, q, _⟩ := hn; exact ⟨o, q⟩
  exact h _ (I.write (t' := t') (x := dx) (e := dx) (o := exd dx ((f, y) :: fs)) (by rw [ed]; trivial) (.inl rfl) k there (exd_ok hn (relO_put ry rel)))
end
/-- self.f = e, self an exception that is being made -/
def tEst (K : PySem.W.Frag) (f : Str) (to te : TE) : TS := fun D σ H => te σ H fun y H1 => to σ H1 fun x H2 => ∃ a C : Addr, x = .ref a ∧ ExK K C ∧ PySem.W.findIn K (.ref C) f = some none ∧
  ((H2 a = some (exo a C none) ∧ ∀ dx, H2 dx = none → dx ≠ a → D.nx σ (upd (upd H2 dx (exd dx [(f, y)])) a (exo a C (some dx)))) ∨
    ∃ (dx : Addr) (fs : List (Str × V)), H2 a = some (exo a C (some dx)) ∧ H2 dx = some (exd dx fs) ∧ fs.length ≤ 900 ∧ D.nx σ (upd H2 dx (exd dx ((f, y) :: fs))))
/-- C(..), C's own __init__ keeping sp -/
def tMkE (C : Addr) (sp : Sp) (ta : TA) : L2.St → Hp → XK → Prop := fun σ H Q => ta σ H fun vs H1 => vs.length ≤ 1000 ∧ ∀ a, H1 a = none → sp (.ref a :: vs) (upd H1 a (exo a C none))
  (fun v H2 => v = .non ∧ ∃ (d : Addr) (fs : List (Str × V)), H2 a = some (exo a C (some d)) ∧ H2 d = some (exd d fs) ∧ H1 d = none ∧ Q (.ref C) (some d) (upd (del H2 a) d (.xd fs))) (fun _ _ _ => False)
section
variable {X : Cx} {o e : Expr} {es : List Expr} {to te : TE} {ta : TA} {f : Str} {p p' p1 p2 pos : Pos}
theorem ps_est (ho : PE X o to) (he : PE X e te) (hs : swapsWith e (some (.Attribute o f p')) pos.line X.env = pure false := by rfl) : PS X (.Assign [.Attribute o f p'] e pos) (tEst X.K f to te) := by
  refine ⟨fun pins s σ H D I h => ?_⟩
  refine plainObj_wpAny_Assign_Attribute (thn (he.run pins s σ H _ I h) fun v s1 q => ?_) hs
  obtain ⟨y, H1, I1, r1, q1⟩ := q
  refine thn (ho.run pins s1 σ H1 _ I1 q1) fun u s2 q => ?_
  obtain ⟨x, H2, I2, r2, a, C, ex, T, hno, q⟩ := q
  subst ex
  obtain rfl : u = Value.ref a := r2
  rcases q with ⟨ea, q⟩ | ⟨dx, fs, ea, ed, hl, q⟩
  · exact st_first T I2 ea hno r1 fun dx s' n ne J => ⟨σ, _, J, q dx n ne⟩
  · exact st_next T I2 ea ed hl hno r1 fun s' J => ⟨σ, _, J, q⟩
/-- the class is called: a new exception, then its __init__ -/
theorem made_run {CX : CXT} {C fI : Addr} {k : Nat} {fd : FuncData} {ps : List Str} {sp : Sp} {pins : List (Addr × Obj)} {σ : L2.St} {H1 : Hp} {s1 : Shared} {us : List Value} {vs : List V} {Q : XK} (T : ExK X.K C) (iC : PySem.W.findIn X.K (.ref C) "__init__" = some (some (.ref fI)))
    (tI : PySem.W.typeIn X.K (.ref fI) = some (.type "function")) (F1 : FnOk X.prog X.w X.K X.mg X.base CX k fI fd ps sp) (hr : Room (k + 1) X.A) (hb : Binds X.K fd ps []) (hx : Passes CX X (fun _ _ _ => False)) (I1 : Inv X pins σ H1 s1) (r1 : Vals vs us)
    (hz : vs.length ≤ 1000) (q1 : ∀ a, H1 a = none → sp (.ref a :: vs) (upd H1 a (exo a C none)) (fun v H2 => v = .non ∧ ∃ (d : Addr) (fs : List (Str × V)), H2 a = some (exo a C (some d)) ∧ H2 d = some (exd d fs) ∧ H1 d = none ∧ Q (.ref C) (some d) (upd (del H2 a) d (.xd fs))) (fun _ _ _ => False)) :
    wpAny (model X.prog X.w) X.A (call (.ref C) us) (MkP X pins σ Q) X.xe s1 := by
  obtain ⟨nm, N, qn, bs, bm, hdct, sn, sub, ab, col, dd, k0, k1, k2, k3, k5, hC, hT⟩ := PySem.W.excInit_of I1.kIn T.ini
  obtain ⟨hp, g, dr, tk, os⟩ := s1
  have le : hp.objs.size ≤ hp.objs.size + 1 := Nat.le_succ _
  have hq := q1 _ (I1.hok.fresh le)
  have kk : ∀ b o, hp.get? b = some o → ((hp.push (PySem.W.kdv_tup us)).push (PySem.HandSPX.excO C hp.objs.size)).get? b = some o := fun b o e => Heap.get?_push_of_some _ (Heap.get?_push_of_some _ e)
  have hget : ((hp.push (PySem.W.kdv_tup us)).push (PySem.HandSPX.excO C hp.objs.size)).get? (hp.objs.size + 1) = some (PySem.HandSPX.excO C hp.objs.size) := by heap_get
  have I2 := I1.laid (t' := tk) (a := hp.objs.size + 1) (o := exo (hp.objs.size + 1) C none) (h' := (hp.push (PySem.W.kdv_tup us)).push (PySem.HandSPX.excO C hp.objs.size)) kk le (exo_ok hget)
  have r2 : Vals (V.ref (hp.objs.size + 1) :: vs) (Value.ref (hp.objs.size + 1) :: us) := .cons rfl r1
  have hl : (Value.ref (hp.objs.size + 1) :: us).length = ps.length := by rw [← r2.length]; exact F1.len _ _ _ _ hq
  have hus : us.length ≤ sizeLine := by rw [← Paired.length r1, sizeLine_eq]; omega
  have bind := hb ⟨(hp.push (PySem.W.kdv_tup us)).push (PySem.HandSPX.excO C hp.objs.size), g, dr, tk, os⟩ (Value.ref (hp.objs.size + 1) :: us) I2.kIn (by simpa using hl)
  have run := F1.run _ X.stack _ _ ⟨Value.ref (hp.objs.size + 1) :: us, []⟩ (Value.ref (hp.objs.size + 1) :: us) _ _ (fun _ _ _ => False) (hr.make C us []) (I2.env0.make C us []) (by simpa using bind) r2 hq
  refine wpAny_call (PySem.HandSPX.call_own F.excBase_Exception hT hC (PySem.W.looks_findIn I1.kIn iC) (fun self => PySem.W.bind_fn I1.kIn self tI) hus (codeAny_mono run fun r s' z => ?_))
  cases r with
  | error er => exact hx pins σ _ _ er s' I2 z
  | ok fl =>
    cases fl with
    | next => exact False.elim z
    | brk => exact False.elim z
    | cont => exact False.elim z
    | ret u =>
      obtain ⟨v, H2, os2, bare2, un2, hok2, rv, ev, d, fs, ea, ed, hd1, q2⟩ := z
      subst ev
      obtain ⟨h2, g2, d2, t2, os'⟩ := s'
      exact ⟨rv, mk_end (raises_own T.exC T.tyC) I1 le kk un2 hok2 os2 bare2 ea ed hd1 q2⟩
theorem pmk_e {CX : CXT} {x : Str} {C fI : Addr} {k : Nat} {fd : FuncData} {ps : List Str} {sp : Sp} (T : ExK X.K C) (iC : PySem.W.findIn X.K (.ref C) "__init__" = some (some (.ref fI))) (tI : PySem.W.typeIn X.K (.ref fI) = some (.type "function"))
    (F1 : FnOk X.prog X.w X.K X.mg X.base CX k fI fd ps sp) (hr : Room (k + 1) X.A) (hb : Binds X.K fd ps []) (hx : Passes CX X (fun _ _ _ => False)) (hg : Gl X x) (hm : X.mg x = some (.ref C)) (ha : PA X (e :: es) ta)
    (hdb : (x == ("__debug__" : Str)) = false := by decide) (he : starEach (e :: es) X.env = (false, eval e X.env) :: starEach es X.env := by rfl) (hpl : (backTo pos (starEach es X.env)).any (·.1) = false := by rfl) :
    PMk X (.Call (.Name x p) (e :: es) [] pos) (tMkE C sp ta) := by
  intro pins s σ H Q I h
  refine wpAny_Call_Name_kw (ld_glob I hg hm ?_ hdb)
  refine PySem.W.callWith_K (h₀ := X.base) I.ok.mod.kin T.kC (thn (ha.run pos pins s σ H _ I h) fun us s1 q => ?_) he hpl
  obtain ⟨vs, H1, I1, r1, hz, q1⟩ := q
  exact ⟨I1.kIn, made_run T iC tI F1 hr hb hx I1 r1 hz q1⟩
end
end FsX
set_option Elab.async false
set_option linter.all false
set_option maxRecDepth 100000
set_option maxHeartbeats 4000000
namespace FsX
open PySem PySem.Spec PyProof.Rows L2
open Evl (Ex Ex.refl Ex.trans Ex.new Ex.mut)
/-! C.m(..): a def read off its class and called with self written -/
def tUcall (sp : Sp) (E : XK) (t : TA) : TE := fun σ H Q => t σ H fun vs H1 => sp vs H1 Q E
section
variable {X : Cx} {CX : CXT} {k : Nat} {f C : Addr} {fd : FuncData} {ps : List Str} {sp : Sp} {E : XK} {mc : Value} {e : Expr} {es : List Expr} {m x : Str} {p pos apos : Pos} {t ta : TA} {pl : Sem Bool}
theorem pe_ucall (hg : Gl X x) (hm : X.mg x = some (.ref C)) (r : ClX.CRead X.K C mc) (c : ClX.CVal X.K C mc m (.ref f) (.ref f)) (hk : PySem.W.keepIn X.K (.ref f) = true) (F : FnOk X.prog X.w X.K X.mg X.base CX k f fd ps sp) (hr : Room k X.A) (hb : Binds X.K fd ps [])
    (hx : Passes CX X E) (ha : PA X (e :: es) t) (hdb : (x == ("__debug__" : Str)) = false := by decide) (hst : starEach (e :: es) X.env = (false, eval e X.env) :: starEach es X.env := by rfl) (hpl : (backTo pos (starEach es X.env)).any (·.1) = false := by rfl)
    (ht : eval (.Call (.Attribute (.Name x p) m apos) (e :: es) [] pos) X.env = (do
      let ov ← eval (.Name x p) X.env; standAt apos.atName
      let (f, first) ← holding [ov] (getMethod ov m pl); callWith pos f first (backTo pos (starEach (e :: es) X.env)) (backToKw pos (keywordEach [] X.env))) := by rfl) :
    PE X (.Call (.Attribute (.Name x p) m apos) (e :: es) [] pos) (tUcall sp E t) := by
  refine ⟨fun pins s σ H Q I h => ?_⟩
  refine PySem.W.methodCall_KW (pl := pl) (ld_glob I hg hm ?_ hdb) ht
  refine PySem.W.method_cls I.kIn r.ga (ClX.getcval_ok I r c fun s2 I2 => ?_)
  refine PySem.W.callWith_K (first := []) (h₀ := X.base) I2.ok.mod.kin hk (thn (ha.run pos pins s2 σ H _ I2 h) fun us s3 q => ?_) hst hpl
  obtain ⟨vs, H3, I3, rv, q3⟩ := q
  exact ⟨I3.kIn, run_fn (us := us) (vs := vs) (dvs := []) (ds := []) F hr (by simpa using hb) .nil hx I3 rv (by simpa using q3)⟩
/-- C(), an exception -/
theorem pmk_e0 {fI : Addr} (T : ExK X.K C) (iC : PySem.W.findIn X.K (.ref C) "__init__" = some (some (.ref fI))) (tI : PySem.W.typeIn X.K (.ref fI) = some (.type "function"))
    (F1 : FnOk X.prog X.w X.K X.mg X.base CX k fI fd ps sp) (hr : Room (k + 1) X.A) (hb : Binds X.K fd ps []) (hx : Passes CX X (fun _ _ _ => False)) (hg : Gl X x) (hm : X.mg x = some (.ref C)) (hdb : (x == ("__debug__" : Str)) = false := by decide) :
    PMk X (.Call (.Name x p) [] [] pos) (tMkE C sp tNil) := by
  intro pins s σ H Q I h
  refine wpAny_Call_Name_kw (ld_glob I hg hm ?_ hdb)
  exact PySem.W.callWith_K0 I.kIn T.kC (made_run (us := []) (vs := []) T iC tI F1 hr hb hx I .nil h.1 h.2)
end
/-! what an error carries -/
def nv (l : List Nat) : List V := l.map fun (n : Nat) => V.int n
theorem nv_len (l : List Nat) : (nv l).length = l.length := List.length_map _
/-- the dict of an error that says these octets -/
def ErrAt (H : Hp) (d : Addr) (e : List Nat) : Prop := ∃ (n : Nat) (l : List Nat) (b : Addr), e = n :: l ∧ H d = some (.xd [(("behind" : Str), .ref b), (("number" : Str), .int n)]) ∧ H b = some (.lst (nv l))
/-- a class of errors -/
structure RefC (K : PySem.W.Frag) (R C : Addr) : Prop where
  m : PySem.W.exmOne K (.ref C) (.ref R) = some true
  x : XfC K C
  n : PySem.W.findIn K (.ref C) "number" = some none
  b : PySem.W.findIn K (.ref C) "behind" = some none
def refB (K : PySem.W.Frag) (R C : Addr) : Bool := decide (PySem.W.exmOne K (.ref C) (.ref R) = some true) && (xfB K C && (decide (PySem.W.findIn K (.ref C) "number" = some none) && decide (PySem.W.findIn K (.ref C) "behind" = some none)))
theorem refB_ok {K : PySem.W.Frag} {R C : Addr} (h : refB K R C = true) : RefC K R C := by
  unfold refB at h
  simp only [Bool.and_eq_true, decide_eq_true_eq] at h
  exact ⟨h.1, xfB_ok h.2.1, h.2.2.1, h.2.2.2⟩
/-- the way out by an error that says e -/
def Out (K : PySem.W.Frag) (R : Addr) (H : Hp) (e : List Nat) (E : XK) : Prop := ∀ C d H', RefC K R C → Ex H H' → ErrAt H' d e → E (.ref C) (some d) H'
theorem Out.mono {K : PySem.W.Frag} {R : Addr} {H H1 : Hp} {e : List Nat} {E : XK} (h : Out K R H e E) (x : Ex H H1) : Out K R H1 e E := fun C d H' r y z => h C d H' r (x.trans y) z
theorem ErrAt.mono {H H1 : Hp} {d : Addr} {e : List Nat} (h : ErrAt H d e) (x : Ex H H1) : ErrAt H1 d e := by
  obtain ⟨n, l, b, e1, e2, e3⟩ := h
  exact ⟨n, l, b, e1, x _ _ e2, x _ _ e3⟩
/-- Refusal.__init__(self, number, behind) -/
def spRefInit (K : PySem.W.Frag) : Sp := fun vs H Q _ => ∃ (a C b : Addr) (n : Int), vs = [.ref a, .int n, .ref b] ∧ ExK K C ∧ PySem.W.findIn K (.ref C) "number" = some none ∧ PySem.W.findIn K (.ref C) "behind" = some none ∧ H a = some (exo a C none) ∧
  ∀ dx, H dx = none → dx ≠ a → Q .non (upd (upd (upd H dx (exd dx [(("number" : Str), .int n)])) a (exo a C (some dx))) dx (exd dx [(("behind" : Str), .ref b), (("number" : Str), .int n)]))
/-- X.__init__(self, ..): the fields of an error that says e are set -/
def spSubInit (K : PySem.W.Frag) (vs0 : List V) (e : List Nat) : Sp := fun vs H Q _ => ∃ (a C : Addr), vs = .ref a :: vs0 ∧ ExK K C ∧ PySem.W.findIn K (.ref C) "number" = some none ∧ PySem.W.findIn K (.ref C) "behind" = some none ∧ H a = some (exo a C none) ∧
  ∀ (dx b : Addr) (n : Nat) (l : List Nat) (H' : Hp), e = n :: l → H dx = none → H b = none → b ≠ a → dx ≠ a → dx ≠ b → (∀ c o, c ≠ a → H c = some o → H' c = some o) → H' a = some (exo a C (some dx)) → H' dx = some (exd dx [(("behind" : Str), .ref b), (("number" : Str), .int n)]) → H' b = some (.lst (nv l)) → Q .non H'
/-- raise X(..) -/
def tRz (K : PySem.W.Frag) (R : Addr) (e : List Nat) (W : WX) : TS := fun _ σ H => ∀ C d H', RefC K R C → Ex H H' → ErrAt H' d e → W (.ref C) (some d) σ H'
section
variable {X : Cx} {R C fI : Addr} {e : List Nat} {vs0 : List V}
/-- the way from the making to the error in the air -/
theorem rz_of {σ : L2.St} {H : Hp} {W : WX} {n : Nat} {l : List Nat} (he : e = n :: l) (T : ExK X.K C) (rc : RefC X.K R C) (h : tRz X.K R e W ⟨fun _ _ => True, fun _ _ => True, fun _ _ => True, fun _ _ => True⟩ σ H) :
    ∀ a, H a = none → spSubInit X.K vs0 e (.ref a :: vs0) (upd H a (exo a C none)) (fun v H2 => v = .non ∧ ∃ (d : Addr) (fs : List (Str × V)), H2 a = some (exo a C (some d)) ∧ H2 d = some (exd d fs) ∧ H d = none ∧ (fun cls d H' => W cls d σ H') (.ref C) (some d) (upd (del H2 a) d (.xd fs))) (fun _ _ _ => False) := by
  intro a ha
  refine ⟨a, C, rfl, T, rc.n, rc.b, upd_same, fun dx b n' l' H' e' hd hb bne dne db keep h1 h2 h3 => ?_⟩
  rw [upd_ne dne] at hd
  rw [upd_ne bne] at hb
  refine ⟨rfl, dx, _, h1, h2, hd, ?_⟩
  refine h C dx _ rc (fun c o hc => ?_) ⟨n', l', b, e', upd_same, ?_⟩
  · have ca : c ≠ a := ne_of_none hc ha
    rw [upd_ne (ne_of_none hc hd), del_ne ca]
    exact keep c o ca (by rw [upd_ne ca]; exact hc)
  · rw [upd_ne (Ne.symm db), del_ne bne]
    exact h3
theorem tRz_any {σ : L2.St} {H : Hp} {W : WX} {D D' : Ends} (h : tRz X.K R e W D σ H) : tRz X.K R e W D' σ H := h
/-- raise X() -/
theorem ps_rz0 {CX : CXT} {k : Nat} {fd : FuncData} {x : Str} {p pos pos2 : Pos} {W : WX} {n : Nat} {l : List Nat} (he : e = n :: l) (hc : X.calm = true) (tk : Takes X W) (T : ExK X.K C) (rc : RefC X.K R C) (iC : PySem.W.findIn X.K (.ref C) "__init__" = some (some (.ref fI))) (tI : PySem.W.typeIn X.K (.ref fI) = some (.type "function"))
    (F1 : FnOk X.prog X.w X.K X.mg X.base CX k fI fd ["self"] (spSubInit X.K [] e)) (hr : Room (k + 1) X.A) (hb : Binds X.K fd ["self"] []) (hx : Passes CX X (fun _ _ _ => False)) (hg : Gl X x) (hm : X.mg x = some (.ref C)) (hdb : (x == ("__debug__" : Str)) = false := by decide) :
    PS X (.Raise (some (.Call (.Name x p) [] [] pos)) none pos2) (tRz X.K R e W) := by
  refine ⟨fun pins s σ H D I h => ?_⟩
  refine (ps_raise hc tk (pmk_e0 (p := p) (pos := pos) T iC tI F1 hr hb hx hg hm hdb)).run pins s σ H D I ?_
  exact ⟨by decide, rz_of he T rc h⟩
/-- X(n), an error that says eI n -/
theorem pmk_rz1 {CX : CXT} {k : Nat} {fd : FuncData} {x : Str} {p pos : Pos} {a1 : Expr} {t1 : TE} {pn : Str} {eI : Int → List Nat} (hne : ∀ i, ∃ n l, eI i = n :: l) (T : ExK X.K C) (rc : RefC X.K R C) (iC : PySem.W.findIn X.K (.ref C) "__init__" = some (some (.ref fI))) (tI : PySem.W.typeIn X.K (.ref fI) = some (.type "function"))
    (F1 : FnOk X.prog X.w X.K X.mg X.base CX k fI fd ["self", pn] (fun vs H Q E => ∃ i : Int, 0 ≤ i ∧ spSubInit X.K [.int i] (eI i) vs H Q E)) (hr : Room (k + 1) X.A) (hb : Binds X.K fd ["self", pn] []) (hx : Passes CX X (fun _ _ _ => False)) (hg : Gl X x) (hm : X.mg x = some (.ref C)) (h1 : PE X a1 t1)
    (hdb : (x == ("__debug__" : Str)) = false := by decide) (hs : starEach (a1 :: []) X.env = (false, eval a1 X.env) :: starEach [] X.env := by rfl) (hpl : (backTo pos (starEach [] X.env)).any (·.1) = false := by rfl) :
    PMk X (.Call (.Name x p) [a1] [] pos) (fun σ H Q => tCons t1 tNil σ H fun vs H1 => ∃ i : Int, vs = [.int i] ∧ 0 ≤ i ∧ ∀ C d H', RefC X.K R C → Ex H1 H' → ErrAt H' d (eI i) → Q (.ref C) (some d) H') := by
  intro pins s σ H Q I h
  refine wpAny_Call_Name_kw (ld_glob I hg hm ?_ hdb)
  refine PySem.W.callWith_K (h₀ := X.base) I.ok.mod.kin T.kC (thn ((pa_cons h1 pa_nil hs).run pos pins s σ H _ I h) fun us s1 q => ?_) hs hpl
  obtain ⟨vs, H1, I1, r1, i, ev, hi, q⟩ := q
  subst ev
  refine ⟨I1.kIn, made_run T iC tI F1 hr hb hx I1 r1 (show 1 ≤ 1000 by decide) fun a ha => ⟨i, hi, ?_⟩⟩
  obtain ⟨n, l, en⟩ := hne i
  exact rz_of (W := fun c d _ H' => Q c d H') (σ := σ) en T rc q a ha
theorem ps_rz1 {t : L2.St → Hp → XK → Prop} {x : Expr} {pos2 : Pos} {W : WX} (hc : X.calm = true) (tk : Takes X W) (h : PMk X x t) : PS X (.Raise (some x) none pos2) (fun _ σ H => t σ H fun cls d H' => W cls d σ H') := ps_raise hc tk h
/-- the field n of the error that the suite holds, whatever its class -/
def tXv (K : PySem.W.Frag) (a : Addr) (cls : Value) (d : Option Addr) (i : Nat) (n : Str) : TE := fun σ H Q => ∃ (C dd : Addr) (fs : List (Str × V)) (v : V), σ[i]? = some (some (.ref a)) ∧ cls = .ref C ∧ XfC K C ∧ PySem.W.findIn K (.ref C) n = some none ∧ d = some dd ∧ H dd = some (.xd fs) ∧ fs.lookup n = some v ∧ Q v H
theorem pe_xv {a : Addr} {oe : Obj} {cls : Value} {d : Option Addr} {pn : List (Addr × Obj)} {i : Nat} {x : Str} {p pos : Pos} {n : Str} (hz : Zc cls d oe) (hf : ∃ vs, oe.data = .fields vs) (he : PE (X.suite a ((a, oe) :: pn)) (.Name x p) (tVar i)) (hb : attributeBase (.Name x p) n X.env (eval (.Name x p) X.env) = eval (.Name x p) X.env := by rfl) :
    PE (X.suite a ((a, oe) :: pn)) (.Attribute (.Name x p) n pos) (tXv X.K a cls d i n) := by
  refine ⟨fun pins s σ H Q I h => ?_⟩
  obtain ⟨C, dd, fs, v, h1, h2, T, hno, h3, h4, h5, q⟩ := h
  exact (pe_xf T hno hz hf he hb).run pins s σ H Q I ⟨.ref a, h1, rfl, h2, dd, fs, v, h3, h4, h5, q⟩
end
end FsX
set_option Elab.async false
set_option linter.all false
set_option maxRecDepth 100000
set_option maxHeartbeats 4000000
namespace FsT
open PySem PySem.Spec PySem.Calls PyProof.Rows PyProof.V
section
variable {prog : Program} {w : World} {A : Around} {E : Value → Shared → Prop} {s : Shared} {t : Addr}
theorem sum_tup {its : List Value} {ns : List Int} {Q : Value → Shared → Prop} (hh : A.handled = none) (ht : s.heap.IsTuple t its.toArray) (hi : IntsAre its ns)
    (h : ∀ h' tk t', (∀ b o, s.heap.get? b = some o → h'.get? b = some o) → Q (.int ns.sum t') { s with heap := h', toks := tk }) : wpAny (model prog w) A (call (.builtin "sum") [.ref t]) Q E s := by
  obtain ⟨xs, e⟩ := hi.allInts.items
  have hn : numsOf (intItems xs).toList = ns := by rw [← e]; exact hi.numsOf
  rw [nums_intItems] at hn
  rw [e] at ht
  refine PySem.W.ktm_sumG hh ht fun h' tk t' hk => ?_
  rw [preSum_eq, List.take_of_length_le (by simp), hn]
  exact h h' tk t' hk
theorem max_tup {its : List Value} {ns : List Int} {Q : Value → Shared → Prop} (hh : A.handled = none) (ht : s.heap.IsTuple t its.toArray) (hi : IntsAre its ns) (hne : 0 < ns.length)
    (h : ∀ h' tk m t', (∀ b o, s.heap.get? b = some o → h'.get? b = some o) → m ∈ ns → (∀ a, a ∈ ns → a ≤ m) → Q (.int m t') { s with heap := h', toks := tk }) : wpAny (model prog w) A (call (.builtin "max") [.ref t]) Q E s := by
  obtain ⟨xs, e⟩ := hi.allInts.items
  have hn : numsOf (intItems xs).toList = ns := by rw [← e]; exact hi.numsOf
  rw [nums_intItems] at hn
  subst hn
  rw [e] at ht
  have pos : 0 < xs.size := by simpa using hne
  obtain ⟨o, ho, hc, n, hd⟩ := id ht
  have tn : t ≠ s.heap.objs.size := Nat.ne_of_lt (Heap.lt_size ho)
  have hsz : (intItems xs).size = xs.size := by simp [intItems]
  have W := (Walks.tuple (prog := prog) (w := w) (A := A.in1) hh s.heap.objs.size t tn (intItems xs)).toS
  rw [hsz] at W
  refine call_max_walkS (wpAny_pyIter_tuple ht ⟨s.heap.objs.size, _, _, _, _, _, _, _, rfl, W, ⟨⟨_, Heap.get?_push_size _ rfl, rfl, rfl⟩, ht.at fun o e => Heap.get?_push_of_some _ e⟩, fun b hb => ?_, pos, CmpOf.ints_gt (numAt xs) (fun _ _ => intItems_at), fun v s' hv hm => ?_⟩)
  · rcases List.mem_cons.mp hb with rfl | hb
    · exact Heap.lt_size (Heap.get?_push_size _ rfl)
    · obtain rfl := List.mem_singleton.mp hb
      exact Heap.lt_size (Heap.get?_push_of_some _ ho)
  · obtain ⟨tv, rfl⟩ := intItems_at hv
    obtain ⟨h1, h2⟩ := argBest_gt (numAt xs) (xs.size - 1)
    obtain ⟨h', g', d', tk', os'⟩ := s'
    obtain rfl : g' = s.gens := hm.gens
    obtain rfl : d' = s.drawn := hm.drawn
    obtain rfl : os' = s.os := hm.os
    refine h h' tk' _ tv (fun b o e => hm.heap b o (fun hb => absurd (Heap.lt_size e) ((List.mem_singleton.mp hb) ▸ Nat.lt_irrefl _)) (Heap.get?_push_of_some _ e)) ?_ fun a ha => ?_
    · rw [numAt_eq]; exact PySem.getD_mem (by rw [List.length_map, Array.length_toList]; omega)
    · obtain ⟨j, hj, rfl⟩ := mem_getD ha
      rw [List.length_map, Array.length_toList] at hj
      rw [← numAt_eq]; exact h2 j (by omega)
end
end FsT
namespace FsX
open PySem PySem.Spec PyProof.Rows L2
section
variable {X : Cx}
def rSumT (K : PySem.W.Frag) : List V → Hp → VK → Prop := fun vs H Q => ∃ (a : Addr) (ns : List Int), vs = [V.ref a] ∧ SqT K H a (ns.map V.int) ∧ Q (.int ns.sum) H
theorem cr_sumT (hc : X.calm = true) : CallR X (.builtin "sum") (rSumT X.K) := by
  intro pins s σ H vs us Q I r h
  obtain ⟨a, ns, rfl, hs, q⟩ := h
  obtain ⟨its, rv, hl, _⟩ := I.tuple hs
  rw [Vals.ref1 r]
  exact FsT.sum_tup (I.ok.hd hc) hl rv.ints fun h' tk t' hk => ⟨.int _, H, I.kept hk, ⟨_, rfl⟩, q⟩
def rMaxT (K : PySem.W.Frag) : List V → Hp → VK → Prop := fun vs H Q => ∃ (a : Addr) (ns : List Int), vs = [V.ref a] ∧ SqT K H a (ns.map V.int) ∧ 0 < ns.length ∧ ∀ m, m ∈ ns → (∀ y, y ∈ ns → y ≤ m) → Q (.int m) H
theorem cr_maxT (hc : X.calm = true) : CallR X (.builtin "max") (rMaxT X.K) := by
  intro pins s σ H vs us Q I r h
  obtain ⟨a, ns, rfl, hs, hne, q⟩ := h
  obtain ⟨its, rv, hl, _⟩ := I.tuple hs
  rw [Vals.ref1 r]
  exact FsT.max_tup (I.ok.hd hc) hl rv.ints hne fun h' tk m t' hk h1 h2 => ⟨.int _, H, I.kept hk, ⟨_, rfl⟩, q m h1 h2⟩
/-- t.count(k) of a tuple of ints -/
def rCntT (K : PySem.W.Frag) : V → List V → Hp → VK → Prop := fun x xs H Q => ∃ (p : Addr) (ns : List Int) (k : Int), x = .ref p ∧ xs = [.int k] ∧ SqT K H p (ns.map V.int) ∧ Q (.int (ns.count k : Nat)) H
theorem mt_tcount : MtR X "tuple.count" (rCntT X.K) := by
  intro pins s σ H x xs v us Q I rx rxs h
  obtain ⟨p, ns, k, rfl, rfl, hs, q⟩ := h
  cases rx
  obtain ⟨u, rfl, ru⟩ := rxs.one
  obtain ⟨t, rfl⟩ := ru
  obtain ⟨its, rv, ⟨⟨cls, dd, data, sl⟩, ho, hc, n, hd⟩, _⟩ := I.tuple hs
  simp only at hc hd
  subst hc hd
  have hi := ints_of_vals rv
  refine call_meets PySem.F.slot_tuple_count ⟨_, ho, rfl⟩ PySem.F.entry_tuple_count (PySem.F.args_tuple_count_2 _ _) (SeqAt.tuple_countAt p its.toArray n dd sl (.int k t) (eqk k)) ⟨ho, fun y hy => (eqk_gives hi y (by simpa using hy)).at _ _, ?_⟩
  have ec : its.toArray.toList.countP (eqk k) = ns.count k := eqk_count hi
  refine ⟨.int (ns.count k : Nat), H, I.tok _, ⟨s.toks, ?_⟩, q⟩
  rw [ec]
end
end FsX
set_option Elab.async false
set_option linter.all false
set_option maxRecDepth 100000
set_option maxHeartbeats 4000000
namespace FsX
open PySem PySem.Spec PyProof.Rows L2
section
variable {X : Cx} {pins : List (Addr × Obj)} {σ : L2.St} {H : Hp} {s : Shared}
/-- behind a rule of the ledger: one new object is tracked, all else is kept -/
theorem new_led {D : Addr} {o : HO} {h' : Heap} {m : Str → Option Value} {t' : Nat} (I : Inv X pins σ H s) (F : Fr X.base X.env.locals s.heap m) (F' : Fr X.base X.env.locals h' m) (N' : News X.base X.env.locals h' (allNews X.base s.heap X.env.locals))
    (fr : s.heap.get? D = none) (hn : H D = none) (new : ObjOk X.prog X.w (upd H D o) h' D o) : Inv X pins σ (upd H D o) { s with heap := h', toks := t' } := by
  have keep : ∀ b ob, b ≠ X.env.locals → s.heap.get? b = some ob → h'.get? b = some ob := fun b ob hb e => by
    cases q : X.base.get? b with
    | none => exact (N' (b, ob) (mem_allNews hb q e)).1
    | some u =>
      have z := I.bk b u q
      rw [e] at z
      cases z
      exact F'.keep b _ q
  have nd : ∀ {b : Addr} {ob : Obj}, s.heap.get? b = some ob → b ≠ D := fun e z => by rw [z, fr] at e; cases e
  have nl : ∀ {b : Addr} {u : HO}, H b = some u → b ≠ X.env.locals := fun e z => by rw [z, I.free] at e; cases e
  refine I.step (g' := s.gens) (d' := s.drawn) (ch := []) (fun _ z => nomatch z) (fun b ob hL _ _ e _ => keep b ob hL e) (fun b ob hL _ _ e _ => ⟨ob.slots, keep b ob hL e⟩) (fun b ob _ e n => by rw [upd_ne (nd e)]; exact n) (fun b ob _ e => ?_)
    (fun b xs q => by rw [upd_ne (ne_of_none q hn)]; exact q) (fun b u xs q => by rw [upd_ne (ne_of_none q hn)]; exact q) (fun b ps q => ⟨#[], by rw [upd_ne (ne_of_none q hn), q]; simp⟩) (fun m' hm => ?_) (fun b u q => ?_) I.bare
  · by_cases hL : b = X.env.locals
    · obtain ⟨oL, _, _, z, _⟩ := F'.ns
      exact ⟨oL, by rw [hL]; exact z⟩
    · exact ⟨ob, keep b ob hL e⟩
  · rw [SlX.ns_only hm F.ns]
    exact F'.ns
  · by_cases hb : b = D
    · subst hb
      rw [upd_same] at q
      cases q
      exact new
    · rw [upd_ne hb] at q
      refine (I.hok b u q).stay (fun c v hc z => keep c v ?_ z) (fun c z => by rw [upd_ne (ne_of_none z hn)]; exact z) fun c xs z => by rw [upd_ne (ne_of_none z hn)]; exact z
      rcases hc with hc | hc
      · rw [hc]; exact nl q
      · exact nl hc
end
/-- sorted(e, key=sum), e a list of tuples of ints -/
def tSortSum (K : PySem.W.Frag) (te : TE) : TE := fun σ H Q => tCons te tNil σ H fun vs H1 => ∃ (a : Addr) (ts : List (Addr × List Int)), vs = [.ref a] ∧ SqL K H1 a (ts.map fun t => .ref t.1) ∧ (∀ t, t ∈ ts → H1 t.1 = some (.tup (t.2.map V.int))) ∧
  ∀ (p : Addr) (rs : List (Int × Addr)), rs.Perm (ts.map fun t => (t.2.sum, t.1)) → rs.Pairwise (fun x y => x.1 ≤ y.1) → (∀ c, rs.filter (fun x => x.1 == c) = (ts.map fun t => (t.2.sum, t.1)).filter (fun x => x.1 == c)) → H1 p = none → Q (.ref p) (upd H1 p (.lst (rs.map fun r => .ref r.2)))
theorem refs_of : ∀ {as : List Addr} {us : List Value}, Vals (as.map V.ref) us → us = as.map Value.ref
  | [], _, h => by cases h; rfl
  | a :: r, _, h => by
    cases h with
    | cons h1 h2 =>
      cases h1
      rw [refs_of h2]
      rfl
theorem refs_vals : ∀ (as : List Addr), Vals (as.map V.ref) (as.map Value.ref)
  | [] => .nil
  | _ :: r => .cons rfl (refs_vals r)
section
variable {X : Cx} {e : Expr} {te : TE} {p pos p2 kpos : Pos}
theorem sorted_sum_run {pins : List (Addr × Obj)} {σ : L2.St} {H : Hp} {s : Shared} {Q : VK} (I : Inv X pins σ H s) (hc : X.calm = true) {a : Addr} {ts : List (Addr × List Int)} (hs : SqL X.K H a (ts.map fun t => .ref t.1)) (ht : ∀ t, t ∈ ts → H t.1 = some (.tup (t.2.map V.int)))
    (q : ∀ (p : Addr) (rs : List (Int × Addr)), rs.Perm (ts.map fun t => (t.2.sum, t.1)) → rs.Pairwise (fun x y => x.1 ≤ y.1) → (∀ c, rs.filter (fun x => x.1 == c) = (ts.map fun t => (t.2.sum, t.1)).filter (fun x => x.1 == c)) → H p = none → Q (.ref p) (upd H p (.lst (rs.map fun r => .ref r.2)))) :
    wpAny (model X.prog X.w) X.A (call (.builtin "sorted") [.ref a] [(Str.ofString "key", .builtin "sum")]) (EP X pins σ Q) X.xe s := by
  obtain ⟨its, rv, hl, hz⟩ := I.list hs
  have ei : its = (ts.map Prod.fst).map Value.ref := refs_of (by rw [List.map_map]; exact rv)
  have el : its.length = ts.length := by rw [ei]; simp
  obtain ⟨m, F⟩ := I.fr
  refine ksk_sortedSt (kz := ts.map fun t => t.2.sum) (vs := its) (b := false) (news := allNews X.base s.heap X.env.locals) F news_all hl.isList (by rw [List.length_map, el]) (by rw [el]; rw [List.length_map] at hz; exact hz)
    (ksk_s1 _ _) (fun _ => ksk_l1 _ _) (fun x => ksk_t4 "sum" x) (fun i v k hv hk h tk own F1 N1 => ?_) fun D h' tk out c F' N' lt hout => ?_
  · have hi : i < ts.length := by rw [← el]; exact (List.getElem?_eq_some_iff.mp hv).1
    have e1 : v = Value.ref ts[i].1 := by
      rw [ei, List.getElem?_map, List.getElem?_map, List.getElem?_eq_getElem hi] at hv
      exact (Option.some.inj hv).symm
    have e2 : k = ts[i].2.sum := by
      rw [List.getElem?_map, List.getElem?_eq_getElem hi] at hk
      exact (Option.some.inj hk).symm
    subst e1 e2
    have tup := ht ts[i] (List.getElem_mem hi)
    obtain ⟨_, ti, tv, to, tho, thc, tn, thd⟩ := I.hok _ _ tup
    have tl : ts[i].1 ≠ X.env.locals := fun z => by rw [z, I.free] at tup; cases tup
    have th : h.get? ts[i].1 = some to := by
      cases qb : X.base.get? ts[i].1 with
      | none => exact (N1 (ts[i].1, to) (List.mem_append_left _ (mem_allNews tl qb tho))).1
      | some u =>
        have z := (I.bs _ u qb).2
        rw [tup] at z
        cases z
    refine FsT.sum_tup (s := { s with heap := h, toks := tk }) (its := ti) (ns := ts[i].2) ?_ ⟨to, th, thc, tn, thd⟩ (Vals.ints tv) fun h2 tk2 t2 k2 => KskEnd.intro (F1.keeps k2) (N1.grown k2) fun p hp => hp
    exact I.ok.hd hc
  · obtain ⟨ps, hp, ho, hs2, hf⟩ := hout
    have zipe : (ts.map fun t => t.2.sum).zip its = (ts.map fun t => (t.2.sum, t.1)).map fun r => (r.1, Value.ref r.2) := by
      rw [ei, List.map_map, List.map_map]
      clear hs ht q rv hz ei el hp ho hs2 hf lt N' F' hl
      induction ts with
      | nil => rfl
      | cons t ts ih => exact congrArg (List.cons _) ih
    rw [zipe] at hp hf
    let back : Int × Value → Int × Addr := fun r => (r.1, match r.2 with | .ref a => a | _ => 0)
    have psr : ps = (ps.map back).map fun r => (r.1, Value.ref r.2) := by
      rw [List.map_map]
      conv => lhs; rw [← List.map_id ps]
      refine List.map_congr_left fun r hr => ?_
      have := hp.mem_iff.mp hr
      rw [List.mem_map] at this
      obtain ⟨y, _, rfl⟩ := this
      rfl
    have bk : ∀ l : List (Int × Addr), (l.map fun r => ((r.1, Value.ref r.2) : Int × Value)).map back = l := fun l => by
      rw [List.map_map]
      conv => rhs; rw [← List.map_id l]
      rfl
    have fil : ∀ (l : List (Int × Value)) (c : Int), (l.map back).filter (fun x => x.1 == c) = (l.filter fun x => x.1 == c).map back := fun l c => by
      induction l with
      | nil => rfl
      | cons x l ih =>
        rw [List.map_cons, List.filter_cons, List.filter_cons, ih]
        by_cases hx : (x.1 == c) = true
        · rw [if_pos hx, if_pos (show ((back x).1 == c) = true from hx)]
          rfl
        · rw [if_neg hx, if_neg (show ¬ ((back x).1 == c) = true from hx)]
    have hD := N' (D, seqObj "list" out c) List.mem_cons_self
    have fresh : s.heap.get? D = none := by
      cases e : s.heap.get? D with
      | none => rfl
      | some u => exact absurd (lt (D, u) (mem_allNews hD.2.1 hD.2.2 e)) (Nat.lt_irrefl _)
    have hn : H D = none := by
      cases e : H D with
      | none => rfl
      | some u =>
        have := (I.hok D u e)
        exact absurd (show ∃ o, s.heap.get? D = some o from by
          cases u with
          | lst xs => obtain ⟨_, _, _, _, z⟩ := this; exact ⟨_, z⟩
          | tup xs => obtain ⟨_, _, _, o, z, _⟩ := this; exact ⟨_, z⟩
          | dK kvs => obtain ⟨_, _, _, _, o, _, _, z, _⟩ := this; exact ⟨_, z⟩
          | dT kvs => obtain ⟨_, _, _, _, o, _, _, z, _⟩ := this; exact ⟨_, z⟩
          | set S n => obtain ⟨o, _, _, _, z, _⟩ := this; exact ⟨_, z⟩
          | ins C dx fs => obtain ⟨_, _, _, z, _⟩ := this; exact ⟨_, z⟩
          | own y => exact this
          | xd fs => obtain ⟨_, ⟨o, _, _, z, _⟩, _⟩ := this; exact ⟨_, z⟩
          | rng lo hi => obtain ⟨_, _, _, z⟩ := this; exact ⟨_, z⟩
          | frz ob u => exact ⟨_, this.1⟩
          | tbl ps => exact ⟨_, this⟩
          | met f y => exact ⟨_, this⟩
          | ext φ => exact this.2.1) (by rw [fresh]; rintro ⟨_, z⟩; cases z)
    have outv : out.toList = (ps.map back).map fun r => Value.ref r.2 := by
      rw [ho]
      conv => lhs; rw [psr]
      rw [List.map_map]
      rfl
    have vals : Vals ((ps.map back).map fun r => V.ref r.2) out.toList := by
      have := refs_vals ((ps.map back).map Prod.snd)
      rw [outv]
      rw [List.map_map (g := V.ref), List.map_map (g := Value.ref)] at this
      exact this
    have len : ((ps.map back).map fun r => V.ref r.2).length ≤ sizeLine := by
      rw [List.length_map, List.length_map, hp.length_eq, List.length_map, List.length_map]
      rw [List.length_map] at hz
      exact hz
    refine ⟨.ref D, upd H D (.lst ((ps.map back).map fun r => V.ref r.2)), new_led I F F' (fun p hp => N' p (List.mem_cons_of_mem _ hp)) fresh hn ⟨len, out.toList, c, vals, by rw [Array.toArray_toList]; exact hD.1⟩, rfl, q D (ps.map back) ?_ ?_ (fun c => ?_) hn⟩
    · have := hp.map back
      rw [bk] at this
      exact this
    · rw [List.pairwise_map]
      exact hs2.imp fun h => by simpa using h
    · rw [fil, hf c, ← fil, bk]
theorem pe_sortsum (hc : X.calm = true) (hg : Gl X "sorted") (hm : X.mg "sorted" = none) (hg2 : Gl X "sum") (hm2 : X.mg "sum" = none) (he : PE X e te)
    (h1 : backTo pos (starEach (e :: []) X.env) = (false, eval e X.env) :: backTo pos (starEach [] X.env) := by rfl) (hst : starEach [e] X.env = (false, eval e X.env) :: starEach [] X.env := by rfl) (hpl : (backTo pos (starEach (e :: []) X.env)).any (·.1) = false := by rfl)
    (hall : (backToKw pos (keywordEach [⟨some "key", .Name "sum" p2, kpos⟩] X.env)).all (·.1.isSome) = true := by rfl) (hnone : (backToKw pos (keywordEach [⟨some "key", .Name "sum" p2, kpos⟩] X.env)).any (·.1.isNone) = false := by rfl)
    (hks : (backToKw pos (keywordEach [⟨some "key", .Name "sum" p2, kpos⟩] X.env)).filterMap (·.1) = [Str.ofString "key"] := by rfl) :
    PE X (.Call (.Name "sorted" p) [e] [⟨some "key", .Name "sum" p2, kpos⟩] pos) (tSortSum X.K te) := by
  refine ⟨fun pins s σ H Q I h => ?_⟩
  refine wpAny_Call_Name_kw (ld_blt I hg hm (u := .builtin "sorted") (by decide +kernel) ?_)
  refine PyProof.Rows.callWith_kw (thn ((pa_cons he pa_nil hst).run pos pins s σ H _ I h) fun us s1 w1 => ?_) h1 hpl hall hnone
  obtain ⟨vs, H1, I1, r1, a, ts, ev, hs, ht, q⟩ := w1
  subst ev
  rw [Vals.ref1 r1]
  rw [hks]
  show wpAny _ _ (evalAll ((do let v ← eval (.Name "sum" p2) X.env; standAt pos; pure v) :: [])) _ _ _
  refine wpAny_evalAll_cons (wpAny_bind (ld_blt I1 hg2 hm2 (u := .builtin "sum") (by decide +kernel) (wpAny_bind (wpAny_standAt (wpAny_pure (wpAny_evalAll_nil ?_))))))
  exact sorted_sum_run I1 hc hs ht q
end
end FsX
set_option Elab.async false
set_option linter.all false
set_option maxRecDepth 100000
set_option maxHeartbeats 4000000
namespace FsX
open PySem PySem.Spec PyProof.Rows L2
/-! enumerate(xs, start=1) -/
/-- each item in a new pair, numbers from 1 -/
def Ite1 (K : PySem.W.Frag) (a : Addr) : It where
  go := fun i H => ∃ (xs : List V) (x : V), SqL K H a xs ∧ xs[i]? = some x
  yld := fun i H v H' => ∃ T x, v = .ref T ∧ H T = none ∧ H' = upd H T (.tup [.int (1 + (i : Int)), x]) ∧ ∀ xs, SqL K H a xs → xs[i]? = some x
  stop := fun i H => ∃ xs : List V, SqL K H a xs ∧ xs.length ≤ i
theorem walk_enum1 {K : PySem.W.Frag} {a : Addr} {xs : List V} : Walk (Ite1 K a) xs.length (fun H => SqL K H a xs) (YPair (fun i => some (.int (1 + (i : Int)))) (fun i => xs[i]?)) := by
  refine ⟨fun i _ hi q => ⟨xs, xs[i], q, by simp [hi]⟩, fun _ q => ⟨xs, q, Nat.le_refl _⟩, fun i H v H' _ q y => ?_⟩
  obtain ⟨T, x, h1, h2, h3, h4⟩ := y
  exact ⟨T, _, x, h1, h2, h3, rfl, h4 xs q⟩
section
variable {P : Program} {w : World} {K : PySem.W.Frag} {elts : List Expr} {kk : Nat} {tpos : Pos}
theorem turn_enum1 (a e it : Addr) : Turn P w K (.Tuple elts kk tpos) (Ite1 K a) [e, it] e (fun i h => (∃ old, IsEnum h e it (1 + (i : Int)) old) ∧ h.IsListIter it a i ∧ e ≠ it ∧ a ≠ it ∧ a ≠ e) where
  mem := by simp
  obj := fun i h st b hb => by
    obtain ⟨⟨old, he⟩, ⟨o, ho, hc, hd⟩, _⟩ := st
    have : b = e ∨ b = it := by simpa using hb
    rcases this with rfl | rfl
    · exact ⟨_, he, fun v q => nomatch q⟩
    · exact ⟨o, ho, fun v q => by rw [hd] at q; cases q⟩
  keep := fun i h h' st k => by
    obtain ⟨⟨old, he⟩, hi, r⟩ := st
    exact ⟨⟨old, k e (by simp) _ he⟩, hi.at fun o q => k it (by simp) o q, r⟩
  item := by
    intro X hP hw hK hc i pins s σ H E I hf st hg
    subst hP hw hK
    obtain ⟨⟨old, he⟩, hit, ne, ai, ae⟩ := st
    obtain ⟨xs, x, hq, hx⟩ := hg
    obtain ⟨its, rv, p, _⟩ := I.list hq
    obtain ⟨u, hu, ru⟩ := rv.get hx
    have lte : e < s.heap.objs.size := Heap.lt_size he
    have lti : it < s.heap.objs.size := by obtain ⟨_, q, _⟩ := hit; exact Heap.lt_size q
    have lt : i < its.toArray.size := by simpa using (List.getElem?_eq_some_iff.mp hu).1
    refine wpAny_pyNext_enum_itemC (Draws.list (A := X.A.in1) (I.ok.hd hc) it a ai its.toArray) he ⟨hit, p.isList⟩ lt ne (by simp [ae.symm, ne]) fun y h' tk hy ho st' hT hsz hk => ?_
    obtain rfl : y = u := by rw [show its.toArray[i]? = its[i]? by simp, hu] at hy; exact (Option.some.inj hy).symm
    refine ⟨_, rfl, wpAny_letOwnedTupleGo_enum (s := { s with heap := h', toks := tk + 1 }) ho fun h'' he' sb => ?_⟩
    have hT2 : h''.get? s.heap.objs.size = some { cls := .type "tuple", data := .seq #[.int (1 + (i : Int)) tk, y] } := (sb.2 _ (Nat.ne_of_gt lte)).trans hT
    have I1 : Inv X pins σ (upd H s.heap.objs.size (.tup [.int (1 + (i : Int)), x])) { s with heap := h'', toks := tk + 1 } :=
      I.turnedNew (ch := [e, it]) (fun b ob hb q => (sb.2 b fun z => hb (by simp [z])).trans (hk b ob (fun z => hb (by simp [z])) (fun z => hb (by simp [z])) q)) hf (Nat.le_refl _) ⟨by show 2 ≤ sizeLine; decide, [.int (1 + (i : Int)) tk, y], .cons ⟨_, rfl⟩ (.cons ru .nil), ⟨_, hT2, rfl, _, rfl⟩⟩
    refine ⟨.ref s.heap.objs.size, _, I1, rfl, ⟨_, x, rfl, I.hok.fresh (Nat.le_refl _), rfl, fun ys hy => by rw [I.list_inj hy hq]; exact hx⟩, ⟨⟨y, ?_⟩, st'.1.at fun o q => (sb.2 it (Ne.symm ne)).trans q, ne, ai, ae⟩, fun b hb => ?_⟩
    · rw [show (1 : Int) + ((i + 1 : Nat) : Int) = 1 + (i : Int) + 1 by omega]
      exact he'
    · have hb' : b < s.heap.objs.size := by
        have : b = e ∨ b = it := by simpa using hb
        rcases this with rfl | rfl
        · exact lte
        · exact lti
      rw [upd_ne (Nat.ne_of_lt hb')]
      exact (hf b hb).1
  done := by
    intro X hP hw hK hc i pins s σ H E I hf st hg
    subst hP hw hK
    obtain ⟨⟨old, he⟩, hit, ne, ai, ae⟩ := st
    obtain ⟨xs, hq, hx⟩ := hg
    obtain ⟨its, rv, p, _⟩ := I.list hq
    obtain ⟨f0, f1, f2, f3, f4, f5⟩ := hf it (by simp)
    have hl := rv.length
    refine wpAny_bind (m := pyNext (.ref e)) (f := pure) ?_ |> fun z => by simpa using z
    unfold pyNext
    have hT : s.TypeIs (.ref e) "enumerate" := ⟨_, he, rfl⟩
    refine wpAny_bind (wpAny_attempt (wpAny_callSpecial?_slot (name := Str.ofString "__next__") hT F.slot_enumerate_next (wpAny_call_entry F.slot_enumerate_next hT F.entry_enumerate_next ?_ (F.args_enumerate_next_1 _))))
    show wpAny _ _ (field (.ref e) 2 >>= _) _ _ _
    refine wpAny_bind (wpAny_field he rfl (x := .ref it) rfl ?_)
    refine wpAny_bind (wpAny_nextOf_list_end (I.ok.hd hc) hit p.isList (by simp; omega) fun h' x he' hx' => ?_)
    obtain ⟨o, ho, hcl⟩ := hx'
    refine wpAny_bind (wpAny_isInstance (T := "StopIteration") (b := true) ⟨o, ho, hcl⟩ isSubtype_stop ?_)
    exact wpAny_pure (wpAny_pure ⟨rfl, I.turned (t' := s.toks) (fun b o hb q => he' b o hb q) f0 f1 f3 f4 f5⟩)
  self := fun A i s Q E st h => let ⟨⟨_, he⟩, _⟩ := st; wpAny_pyIter_enum he h
end
def iEnum1 (K : PySem.W.Frag) (ta : TA) : TI := fun σ H R => ta σ H fun vs H1 => ∃ a xs, vs = [.ref a] ∧ SqL K H1 a xs ∧ R (Ite1 K a) H1
section
variable {X : Cx} {e : Expr} {ta : TA} {p pos tpos cp kpos : Pos} {elts : List Expr} {kk j : Nat}
theorem callWith_typeK {M : Model} {A : Around} {E : Value → Shared → Prop} {s : Shared} {T : String} {first : List Value} {args : List (Bool × Sem Value)} {kws : List (Option Str × Sem Value)} {Q : Value → Shared → Prop} (h1 : args.any (·.1) = false) (h2 : kws.any (·.1.isNone) = false)
    (h : wpAny M A (evalArgs (.type T) true args kws) (fun a s₁ => wpAny M A (call (.type T) (first ++ a.pos) a.kw) Q E s₁) E s) : wpAny M A (callWith pos (.type T) first args kws) Q E s := by
  unfold callWith
  refine wpAny_bind (wpAny_holding (wpAny_mono h (fun a s₁ q => wpAny_bind (wpAny_standAt ?_)) fun _ _ x => x))
  simp only [h1, h2, Bool.or_false]
  exact wpAny_bind (wpAny_pure (wpAny_bind (wpAny_mono q (fun r s₂ hr => wpAny_bind (wpAny_holding (wpAny_point (wpAny_pure hr)))) fun _ _ x => x)))
theorem pi_enum1 (hg : Gl X "enumerate") (hm : X.mg "enumerate" = none) (ha : PA X [e] ta) (h1 : backTo pos (starEach (e :: []) X.env) = (false, eval e X.env) :: backTo pos (starEach [] X.env) := by rfl) (hpl : (backTo pos (starEach (e :: []) X.env)).any (·.1) = false := by rfl)
    (hall : (backToKw pos (keywordEach [⟨some "start", .Constant (.int 1) j cp, kpos⟩] X.env)).all (·.1.isSome) = true := by rfl) (hnone : (backToKw pos (keywordEach [⟨some "start", .Constant (.int 1) j cp, kpos⟩] X.env)).any (·.1.isNone) = false := by rfl)
    (hks : (backToKw pos (keywordEach [⟨some "start", .Constant (.int 1) j cp, kpos⟩] X.env)).filterMap (·.1) = [Str.ofString "start"] := by rfl) :
    PI X (.Tuple elts kk tpos) (.Call (.Name "enumerate" p) [e] [⟨some "start", .Constant (.int 1) j cp, kpos⟩] pos) (iEnum1 X.K ta) := by
  refine ⟨fun pins s σ H R I h => ?_⟩
  refine wpAny_Call_Name_kw (ld_blt I hg hm PyProof.Rows.boot_enumerate ?_)
  refine callWith_typeK hpl hnone ?_
  have run := ha.run pos pins s σ H _ I h
  rw [h1] at run ⊢
  refine evalArgs_kwB hall (thn run fun us s1 q1 => ?_)
  obtain ⟨vs, H1, I1, r1, a, xs, ex, hq, q⟩ := q1
  subst ex
  obtain rfl := Vals.ref1 r1
  rw [hks]
  show wpAny _ _ (evalAll ((do let v ← eval (.Constant (.int 1) j cp) X.env; standAt pos; pure v) :: [])) _ _ _
  refine wpAny_evalAll_cons (wpAny_bind (thn ((pe_int (X := X) (i := 1) (j := j) (pos := cp)).run pins s1 σ H1 (fun v H' => v = .int 1 ∧ H' = H1) I1 ⟨rfl, rfl⟩) fun v s2 q2 => wpAny_bind (wpAny_standAt (wpAny_pure (wpAny_evalAll_nil ?_)))))
  obtain ⟨v1, H2, I2, r2, rfl, rfl⟩ := q2
  obtain ⟨t, rfl⟩ := r2
  obtain ⟨its, rv, p', hz⟩ := I2.list hq
  have al : a < s2.heap.objs.size := by obtain ⟨o, ho, _⟩ := p'.isList; exact Heap.lt_size ho
  refine enum_begins_start (begins_list a its.toArray) p'.isList (by decide) (by decide) fun h' he ho hsz hk => wpAny_pyIter_enum he ?_
  have I3 : Inv X pins σ H2 { s2 with heap := h' } := I2.kept (t' := s2.toks) hk
  refine ⟨s2.heap.objs.size + 1, [s2.heap.objs.size + 1, s2.heap.objs.size], _, _, H2, rfl, I3, turn_enum1 a (s2.heap.objs.size + 1) s2.heap.objs.size, ⟨⟨.none, he⟩, ⟨_, ho, rfl, rfl⟩, Nat.succ_ne_self _, Nat.ne_of_lt al, Nat.ne_of_lt (Nat.lt_succ_of_lt al)⟩, fun b hb => ?_, q⟩
  have hle : s2.heap.objs.size ≤ b := by
    have : b = s2.heap.objs.size + 1 ∨ b = s2.heap.objs.size := by simpa using hb
    rcases this with z | z
    · rw [z]; exact Nat.le_add_right _ _
    · rw [z]; exact Nat.le_refl _
  exact I2.fpOk hle (I2.hok.fresh hle)
end
/-! zip(list, tuple) -/
def ItzM (K : PySem.W.Frag) (a b : Addr) : It where
  go := fun i H => ∃ (xs ys : List V) (x y : V), SqL K H a xs ∧ SqT K H b ys ∧ xs[i]? = some x ∧ ys[i]? = some y
  yld := fun i H v H' => ∃ T x y, v = .ref T ∧ H T = none ∧ H' = upd H T (.tup [x, y]) ∧ (∀ xs, SqL K H a xs → xs[i]? = some x) ∧ ∀ ys, SqT K H b ys → ys[i]? = some y
  stop := fun i H => ∃ xs ys : List V, SqL K H a xs ∧ SqT K H b ys ∧ i ≤ xs.length ∧ i ≤ ys.length ∧ (i = xs.length ∨ i = ys.length)
theorem walk_zipM {K : PySem.W.Frag} {a b : Addr} {xs ys : List V} (hn : xs.length = ys.length) : Walk (ItzM K a b) xs.length (fun H => SqL K H a xs ∧ SqT K H b ys) (YPair (fun i => xs[i]?) (fun i => ys[i]?)) := by
  refine ⟨fun i _ hi q => ?_, fun _ q => ⟨xs, ys, q.1, q.2, Nat.le_refl _, Nat.le_of_eq hn, .inl rfl⟩, fun i H v H' _ q y => ?_⟩
  · have h2 : i < ys.length := by omega
    exact ⟨xs, ys, xs[i], ys[i], q.1, q.2, by simp [hi], by simp [h2]⟩
  · obtain ⟨T, x, z, h1, h2, h3, h4, h5⟩ := y
    exact ⟨T, x, z, h1, h2, h3, h4 xs q.1, h5 ys q.2⟩
theorem walk_zipTT {K : PySem.W.Frag} {a b : Addr} {xs ys : List V} (hn : xs.length = ys.length) : Walk (RZ.ItzT K a b) xs.length (fun H => SqT K H a xs ∧ SqT K H b ys) (YPair (fun i => xs[i]?) (fun i => ys[i]?)) := by
  refine ⟨fun i _ hi q => ?_, fun _ q => ⟨xs, ys, q.1, q.2, .inl (Nat.le_refl _)⟩, fun i H v H' _ q y => ?_⟩
  · have h2 : i < ys.length := by omega
    exact ⟨xs, ys, xs[i], ys[i], q.1, q.2, by simp [hi], by simp [h2]⟩
  · obtain ⟨T, x, z, h1, h2, h3, h4, h5⟩ := y
    exact ⟨T, x, z, h1, h2, h3, h4 xs q.1, h5 ys q.2⟩
section
variable {P : Program} {w : World} {K : PySem.W.Frag} {elts : List Expr} {kk : Nat} {tpos : Pos}
theorem five {b z TI TO i1 i2 : Addr} (h : b ∈ [z, TI, TO, i1, i2]) : b = z ∨ b = TI ∨ b = TO ∨ b = i1 ∨ b = i2 := by simpa using h
theorem turn_zipM {a b z TI TO i1 i2 : Addr} (S : ZipSep2 z TI TO i1 i2 [i1, a] [i2, b]) (ai : a ≠ i1) (bi : b ≠ i2) :
    Turn P w K (.Tuple elts kk tpos) (ItzM K a b) [z, TI, TO, i1, i2] z (fun i h => IsZip h z TI TO .none ∧ IsPair h TI (.ref i1) (.ref i2) ∧ (∃ x y, IsPair h TO x y) ∧ h.IsListIter i1 a i ∧ h.IsTupleIter i2 b i) where
  mem := by simp
  obj := fun i h st c hc => by
    obtain ⟨hz, hTI, ⟨x, y, hTO⟩, ⟨o1, e1, _, d1⟩, ⟨o2, e2, _, d2⟩⟩ := st
    rcases five hc with rfl | rfl | rfl | rfl | rfl
    · exact ⟨_, hz, fun v q => nomatch q⟩
    · exact ⟨_, hTI, fun v q => nomatch q⟩
    · exact ⟨_, hTO, fun v q => nomatch q⟩
    · exact ⟨o1, e1, fun v q => by rw [d1] at q; cases q⟩
    · exact ⟨o2, e2, fun v q => by rw [d2] at q; cases q⟩
  keep := fun i h h' st k => by
    obtain ⟨hz, hTI, ⟨x, y, hTO⟩, h1, h2⟩ := st
    refine ⟨k z (by simp) _ hz, k TI (by simp) _ hTI, ⟨x, y, k TO (by simp) _ hTO⟩, ?_, ?_⟩
    · exact h1.at fun o q => k i1 (by simp) o q
    · exact h2.at fun o q => k i2 (by simp) o q
  item := by
    intro X hP hw hK hc i pins s σ H E I hf st hg
    subst hP hw hK
    obtain ⟨hz, hTI, ⟨x0, y0, hTO⟩, h1, h2⟩ := st
    obtain ⟨xs, ys, x, y, hqx, hqy, hx, hy⟩ := hg
    obtain ⟨its, rv, p, _⟩ := I.list hqx
    obtain ⟨its2, rv2, p2, _⟩ := I.tuple hqy
    obtain ⟨u, hu, ru⟩ := rv.get hx
    obtain ⟨u2, hu2, ru2⟩ := rv2.get hy
    have zl : z < s.heap.objs.size := Heap.lt_size hz
    have lt1 : i < its.toArray.size := by simpa using (List.getElem?_eq_some_iff.mp hu).1
    have lt2 : i < its2.toArray.size := by simpa using (List.getElem?_eq_some_iff.mp hu2).1
    refine wpAny_pyNext_zipD2_item S (Draws.list (A := X.A.in1) (I.ok.hd hc) i1 a ai its.toArray) (Draws.tuple (A := X.A.in1) (I.ok.hd hc) i2 b bi its2.toArray) hz hTI hTO ⟨h1, p.isList⟩ ⟨h2, p2⟩ lt1 lt2 fun v1 v2 h' tk e1 e2 z' TO' s1 s2 hT hsz hk => ?_
    obtain rfl : v1 = u := by rw [show its.toArray[i]? = its[i]? by simp, hu] at e1; exact (Option.some.inj e1).symm
    obtain rfl : v2 = u2 := by rw [show its2.toArray[i]? = its2[i]? by simp, hu2] at e2; exact (Option.some.inj e2).symm
    refine ⟨_, rfl, wpAny_letOwnedTupleGo_zip (s := { s with heap := h', toks := tk }) z' fun h'' z'' sb => ?_⟩
    have hT2 : h''.get? s.heap.objs.size = some { cls := .type "tuple", data := .seq #[v1, v2] } := (sb.2 _ (Nat.ne_of_gt zl)).trans hT
    have I1 : Inv X pins σ (upd H s.heap.objs.size (.tup [x, y])) { s with heap := h'', toks := tk } := by
      refine I.turnedNew (ch := [z, TI, TO, i1, i2]) (fun c o hb q => ?_) hf (Nat.le_refl _) ⟨by show 2 ≤ sizeLine; decide, [v1, v2], .cons ru (.cons ru2 .nil), ⟨_, hT2, rfl, _, rfl⟩⟩
      have nz : c ≠ z := fun q' => hb (by simp [q'])
      exact (sb.2 c nz).trans (hk c o nz (fun q' => hb (by simp [q'])) (fun q' => hb (by simp [q'])) (fun q' => hb (by simp [q'])) q)
    refine ⟨.ref s.heap.objs.size, _, I1, rfl, ⟨_, x, y, rfl, I.hok.fresh (Nat.le_refl _), rfl, fun l hl => by rw [I.list_inj hl hqx]; exact hx, fun l hl => by rw [I.tuple_inj hl hqy]; exact hy⟩, ⟨z'', ?_, ⟨v1, v2, ?_⟩, ?_, ?_⟩, fun c hcm => ?_⟩
    · exact (sb.2 _ S.TIz).trans (hk _ _ S.TIz S.TITO S.TIi1 S.TIi2 hTI)
    · exact (sb.2 _ S.TOz).trans TO'
    · exact s1.1.at fun o q => (sb.2 _ (Ne.symm S.zi1)).trans q
    · exact s2.1.at fun o q => (sb.2 _ (Ne.symm S.zi2)).trans q
    · have lt : c < s.heap.objs.size := by
        rcases five hcm with rfl | rfl | rfl | rfl | rfl
        · exact zl
        · exact Heap.lt_size hTI
        · exact Heap.lt_size hTO
        · obtain ⟨_, e1, _⟩ := h1; exact Heap.lt_size e1
        · obtain ⟨_, e2, _⟩ := h2; exact Heap.lt_size e2
      rw [upd_ne (Nat.ne_of_lt lt)]
      exact (hf c hcm).1
  done := by
    intro X hP hw hK hc i pins s σ H E I hf st hg
    subst hP hw hK
    obtain ⟨hz, hTI, ⟨x0, y0, hTO⟩, h1, h2⟩ := st
    obtain ⟨xs, ys, hqx, hqy, le1, le2, hend⟩ := hg
    obtain ⟨its, rv, p, _⟩ := I.list hqx
    obtain ⟨its2, rv2, p2, _⟩ := I.tuple hqy
    have l1 := rv.length
    have l2 := rv2.length
    refine wpAny_pyNext_zipD2_end S (Draws.list (A := X.A.in1) (I.ok.hd hc) i1 a ai its.toArray) (Draws.tuple (A := X.A.in1) (I.ok.hd hc) i2 b bi its2.toArray) hz hTI hTO (i := i) ⟨h1, p.isList⟩ ⟨h2, p2⟩ (by simp; omega) (by simp; omega) (by simp; omega) fun h' tk hk => ⟨rfl, ?_⟩
    refine I.turnedL (t' := tk) (ch := [z, TI, TO, i1, i2]) (fun c o hb q => ?_) hf
    exact hk c o (fun q' => hb (by simp [q'])) (fun q' => hb (by simp [q'])) (fun q' => hb (by simp [q'])) (fun q' => hb (by simp [q'])) q
  self := fun A i s Q E st h => wpAny_pyIter_zip st.1 h
end
def iZipM (K : PySem.W.Frag) (ta : TA) : TI := fun σ H R => ta σ H fun vs H1 => ∃ a b xs ys, vs = [.ref a, .ref b] ∧ SqL K H1 a xs ∧ SqT K H1 b ys ∧ R (ItzM K a b) H1
section
variable {X : Cx} {e e2 : Expr} {ta : TA} {p pos tpos : Pos} {elts : List Expr} {kk : Nat}
theorem pi_zipM (hg : Gl X "zip") (hm : X.mg "zip" = none) (ha : PA X [e, e2] ta) (hs : starEach [e, e2] X.env = (false, eval e X.env) :: starEach [e2] X.env := by rfl) (hpl : (backTo pos (starEach [e2] X.env)).any (·.1) = false := by rfl) :
    PI X (.Tuple elts kk tpos) (.Call (.Name "zip" p) [e, e2] [] pos) (iZipM X.K ta) := by
  refine ⟨fun pins s σ H R I h => ?_⟩
  refine Call_ (ld_blt I hg hm PyProof.Rows.boot_zip (PyProof.Rows.callWith_type1 (thn (ha.run pos pins s σ H _ I h) fun us s1 q1 => ?_) hs hpl))
  obtain ⟨vs, H1, I1, r1, a, b, xs, ys, ex, hqx, hqy, q⟩ := q1
  subst ex
  cases r1 with
  | cons r rr => cases rr with
    | cons r' rr =>
      cases rr; cases r; cases r'
      obtain ⟨its, rv, p1, _⟩ := I1.list hqx
      obtain ⟨its2, rv2, p2, _⟩ := I1.tuple hqy
      have la : a < s1.heap.objs.size := by obtain ⟨o, ho, _⟩ := p1.isList; exact Heap.lt_size ho
      have lb : b < s1.heap.objs.size := by obtain ⟨o, ho, _⟩ := id p2; exact Heap.lt_size ho
      refine zip_begins2 (begins_list a its.toArray) (begins_tuple b its2.toArray) p1.isList p2 fun h' hz hTI hTO g1 g2 hsz hk => wpAny_pyIter_zip hz ?_
      have I2 : Inv X pins σ H1 { s1 with heap := h' } := I1.kept (t' := s1.toks) hk
      refine ⟨s1.heap.objs.size + 4, [s1.heap.objs.size + 4, s1.heap.objs.size + 2, s1.heap.objs.size + 3, s1.heap.objs.size, s1.heap.objs.size + 1], _, _, H1, rfl, I2,
        turn_zipM (zip_sep2 (fp1 := [a]) (fp2 := [b]) (by simpa using la) (by simpa using lb)) (Nat.ne_of_lt la) (Nat.ne_of_lt (Nat.lt_succ_of_lt lb)), ⟨hz, hTI, ⟨_, _, hTO⟩, ⟨_, g1, rfl, rfl⟩, ⟨_, g2, rfl, rfl⟩⟩, fun c hcm => ?_, q⟩
      have hle : s1.heap.objs.size ≤ c := by
        rcases five hcm with z | z | z | z | z
        all_goals rw [z]
        all_goals first | exact Nat.le_add_right _ _ | exact Nat.le_refl _
      exact I1.fpOk hle (I1.hok.fresh hle)
end
end FsX
set_option Elab.async false
set_option linter.all false
set_option maxRecDepth 100000
set_option maxHeartbeats 4000000
namespace Fs
open PySem PySem.Spec PyProof.Rows L2 FsX
/-! the text by places (printed by a program) -/
def top (i : Nat) : Stmt := PySem.Challenge.pw_fullshelves_s01_answers.main.body.getD i (.Pass ⟨0, 0, 0, 0⟩)
abbrev s_Refusal_init : Stmt := inClass (top 1) 0
abbrev s_Malformed_init : Stmt := inClass (top 2) 0
abbrev s_TextTooLong_init : Stmt := inClass (top 3) 0
abbrev s_InvalidLine_init : Stmt := inClass (top 4) 0
abbrev s_NoStock_init : Stmt := inClass (top 5) 0
abbrev s_NoItems_init : Stmt := inClass (top 6) 0
abbrev s_OtherShelves_init : Stmt := inClass (top 7) 0
abbrev s_NoRound_init : Stmt := inClass (top 8) 0
abbrev s_ShopIsOpen_init : Stmt := inClass (top 9) 0
abbrev s_NoFilling_init : Stmt := inClass (top 10) 0
abbrev s_StepsSpent_init : Stmt := inClass (top 11) 0
abbrev s_ShopIsClosed_init : Stmt := inClass (top 12) 0
abbrev s_NoTaking_init : Stmt := inClass (top 13) 0
abbrev s_ShelfFoundEmpty_init : Stmt := inClass (top 14) 0
abbrev s_Shop_init : Stmt := inClass (top 20) 0
abbrev s_resized : Stmt := top 21
abbrev s_octets_of : Stmt := top 22
abbrev s_canonical_text : Stmt := top 23
abbrev s_joined : Stmt := top 24
abbrev s_choices : Stmt := top 26
abbrev s_highest_next : Stmt := top 27
abbrev s_stocks_of : Stmt := top 28
abbrev s_full_stock : Stmt := top 29
abbrev s_fillings_of : Stmt := top 30
abbrev s_takings_of : Stmt := top 31
abbrev s_is_below : Stmt := top 32
abbrev s_added : Stmt := top 33
abbrev s_taken : Stmt := top 34
abbrev s_dooms : Stmt := top 36
abbrev s_stocks_left : Stmt := top 37
abbrev s_newly_doomed : Stmt := top 38
abbrev s_is_firm : Stmt := top 39
abbrev s_has_any : Stmt := top 40
abbrev s_holds : Stmt := top 41
abbrev s_first_filling : Stmt := top 42
abbrev s_first_attack : Stmt := top 43
abbrev s_least_stocks : Stmt := top 44
abbrev s_keeps_full : Stmt := top 45
abbrev s_fewest_put : Stmt := top 46
abbrev s_fewest_onto : Stmt := top 47
abbrev s_first_parting : Stmt := top 48
abbrev s_Reader_init : Stmt := inClass (top 63) 0
abbrev s_Reader_take : Stmt := inClass (top 63) 1
abbrev s_Reader_u8 : Stmt := inClass (top 63) 2
abbrev s_Reader_u16 : Stmt := inClass (top 63) 3
abbrev s_Reader_part : Stmt := inClass (top 63) 4
abbrev s_kinds_of : Stmt := top 64
abbrev s_take_apart : Stmt := top 65
abbrev s_write_flag : Stmt := top 66
abbrev s_write_u16 : Stmt := top 67
abbrev s_write_text : Stmt := top 68
abbrev s_write_row : Stmt := top 69
abbrev s_write_rows : Stmt := top 70
abbrev s_write_maybe_row : Stmt := top 71
abbrev s_write_maybe_u8 : Stmt := top 72
abbrev s_write_maybe_u16 : Stmt := top 73
abbrev s_Draft_init : Stmt := inClass (top 82) 0
abbrev s_read_shop : Stmt := top 83
abbrev s_divided : Stmt := top 84
abbrev s_words_of : Stmt := top 85
abbrev s_digit_of : Stmt := top 86
abbrev s_is_name : Stmt := top 87
abbrev s_read_line : Stmt := top 88
abbrev s_read_shelf : Stmt := top 89
abbrev s_read_customers : Stmt := top 90
abbrev s_read_stocker : Stmt := top 91
abbrev s_Round_init : Stmt := inClass (top 95) 0
abbrev s_Round_check_items : Stmt := inClass (top 95) 1
abbrev s_Round_fill : Stmt := inClass (top 95) 2
abbrev s_Round_sell : Stmt := inClass (top 95) 3
abbrev s_Round_step : Stmt := inClass (top 95) 4
abbrev s_Round_undo : Stmt := inClass (top 95) 5
abbrev s_Round_outlook : Stmt := inClass (top 95) 6
abbrev s_answers : Stmt := top 98
abbrev s_Session_init : Stmt := inClass (top 99) 0
abbrev s_Session_answer : Stmt := inClass (top 99) 1
abbrev s_Session_call : Stmt := inClass (top 99) 2
abbrev s_answer_of_shop : Stmt := top 100
abbrev s_answer_of_stock : Stmt := top 101
abbrev s_answer_parting : Stmt := top 102
abbrev s_answer_of_round : Stmt := top 103
set_option maxRecDepth 200000
theorem sc_Refusal_init : FnScope ["self", "number", "behind"] ["self", "number", "behind"] (defScope s_Refusal_init) := ⟨rfl, rfl, rfl, by decide +kernel, rfl, by decide +kernel, by decide +kernel⟩
theorem sc_Malformed_init : FnScope ["self"] ["self"] (defScope s_Malformed_init) := ⟨rfl, rfl, rfl, by decide +kernel, rfl, by decide +kernel, by decide +kernel⟩
theorem sc_TextTooLong_init : FnScope ["self"] ["self"] (defScope s_TextTooLong_init) := ⟨rfl, rfl, rfl, by decide +kernel, rfl, by decide +kernel, by decide +kernel⟩
theorem sc_InvalidLine_init : FnScope ["self", "line"] ["self", "line"] (defScope s_InvalidLine_init) := ⟨rfl, rfl, rfl, by decide +kernel, rfl, by decide +kernel, by decide +kernel⟩
theorem sc_NoStock_init : FnScope ["self"] ["self"] (defScope s_NoStock_init) := ⟨rfl, rfl, rfl, by decide +kernel, rfl, by decide +kernel, by decide +kernel⟩
theorem sc_NoItems_init : FnScope ["self"] ["self"] (defScope s_NoItems_init) := ⟨rfl, rfl, rfl, by decide +kernel, rfl, by decide +kernel, by decide +kernel⟩
theorem sc_OtherShelves_init : FnScope ["self"] ["self"] (defScope s_OtherShelves_init) := ⟨rfl, rfl, rfl, by decide +kernel, rfl, by decide +kernel, by decide +kernel⟩
theorem sc_NoRound_init : FnScope ["self"] ["self"] (defScope s_NoRound_init) := ⟨rfl, rfl, rfl, by decide +kernel, rfl, by decide +kernel, by decide +kernel⟩
theorem sc_ShopIsOpen_init : FnScope ["self"] ["self"] (defScope s_ShopIsOpen_init) := ⟨rfl, rfl, rfl, by decide +kernel, rfl, by decide +kernel, by decide +kernel⟩
theorem sc_NoFilling_init : FnScope ["self"] ["self"] (defScope s_NoFilling_init) := ⟨rfl, rfl, rfl, by decide +kernel, rfl, by decide +kernel, by decide +kernel⟩
theorem sc_StepsSpent_init : FnScope ["self"] ["self"] (defScope s_StepsSpent_init) := ⟨rfl, rfl, rfl, by decide +kernel, rfl, by decide +kernel, by decide +kernel⟩
theorem sc_ShopIsClosed_init : FnScope ["self"] ["self"] (defScope s_ShopIsClosed_init) := ⟨rfl, rfl, rfl, by decide +kernel, rfl, by decide +kernel, by decide +kernel⟩
theorem sc_NoTaking_init : FnScope ["self"] ["self"] (defScope s_NoTaking_init) := ⟨rfl, rfl, rfl, by decide +kernel, rfl, by decide +kernel, by decide +kernel⟩
theorem sc_ShelfFoundEmpty_init : FnScope ["self"] ["self"] (defScope s_ShelfFoundEmpty_init) := ⟨rfl, rfl, rfl, by decide +kernel, rfl, by decide +kernel, by decide +kernel⟩
theorem sc_Shop_init : FnScope ["self", "names", "rooms", "wanted", "wanted_of_one", "put", "onto"] ["self", "names", "rooms", "wanted", "wanted_of_one", "put", "onto"] (defScope s_Shop_init) := ⟨rfl, rfl, rfl, by decide +kernel, rfl, by decide +kernel, by decide +kernel⟩
theorem sc_resized : FnScope ["shop", "put", "onto"] ["shop", "put", "onto"] (defScope s_resized) := ⟨rfl, rfl, rfl, by decide +kernel, rfl, by decide +kernel, by decide +kernel⟩
theorem sc_octets_of : FnScope ["word", "sign"] ["word"] (defScope s_octets_of) := ⟨rfl, rfl, rfl, by decide +kernel, rfl, by decide +kernel, by decide +kernel⟩
theorem sc_canonical_text : FnScope ["shop", "lines", "name", "room", "words"] ["shop"] (defScope s_canonical_text) := ⟨rfl, rfl, rfl, by decide +kernel, rfl, by decide +kernel, by decide +kernel⟩
theorem sc_joined : FnScope ["pieces", "divider", "octets", "place", "piece"] ["pieces", "divider"] (defScope s_joined) := ⟨rfl, rfl, rfl, by decide +kernel, rfl, by decide +kernel, by decide +kernel⟩
theorem sc_choices : FnScope ["tops", "most", "onto", "rows", "top", "longer", "row", "number"] ["tops", "most", "onto"] (defScope s_choices) := ⟨rfl, rfl, rfl, by decide +kernel, rfl, by decide +kernel, by decide +kernel⟩
theorem sc_highest_next : FnScope ["row", "top", "most", "onto"] ["row", "top", "most", "onto"] (defScope s_highest_next) := ⟨rfl, rfl, rfl, by decide +kernel, rfl, by decide +kernel, by decide +kernel⟩
theorem sc_stocks_of : FnScope ["shop"] ["shop"] (defScope s_stocks_of) := ⟨rfl, rfl, rfl, by decide +kernel, rfl, by decide +kernel, by decide +kernel⟩
theorem sc_full_stock : FnScope ["shop"] ["shop"] (defScope s_full_stock) := ⟨rfl, rfl, rfl, by decide +kernel, rfl, by decide +kernel, by decide +kernel⟩
theorem sc_fillings_of : FnScope ["shop", "stock", "room", "there"] ["shop", "stock"] (defScope s_fillings_of) := ⟨rfl, rfl, rfl, by decide +kernel, rfl, by decide +kernel, by decide +kernel⟩
theorem sc_takings_of : FnScope ["shop", "room"] ["shop"] (defScope s_takings_of) := ⟨rfl, rfl, rfl, by decide +kernel, rfl, by decide +kernel, by decide +kernel⟩
theorem sc_is_below : FnScope ["row", "other", "number", "most"] ["row", "other"] (defScope s_is_below) := ⟨rfl, rfl, rfl, by decide +kernel, rfl, by decide +kernel, by decide +kernel⟩
theorem sc_added : FnScope ["stock", "items", "there", "more"] ["stock", "items"] (defScope s_added) := ⟨rfl, rfl, rfl, by decide +kernel, rfl, by decide +kernel, by decide +kernel⟩
theorem sc_taken : FnScope ["stock", "items", "there", "gone"] ["stock", "items"] (defScope s_taken) := ⟨rfl, rfl, rfl, by decide +kernel, rfl, by decide +kernel, by decide +kernel⟩
theorem sc_dooms : FnScope ["shop", "takings", "filled", "left", "stock", "doomed", "visits", "fresh", "items"] ["shop"] (defScope s_dooms) := ⟨rfl, rfl, rfl, by decide +kernel, rfl, by decide +kernel, by decide +kernel⟩
theorem sc_stocks_left : FnScope ["stock", "takings", "left", "taking"] ["stock", "takings"] (defScope s_stocks_left) := ⟨rfl, rfl, rfl, by decide +kernel, rfl, by decide +kernel, by decide +kernel⟩
theorem sc_newly_doomed : FnScope ["filled", "left", "doomed", "firm", "stock"] ["filled", "left", "doomed"] (defScope s_newly_doomed) := ⟨rfl, rfl, rfl, by decide +kernel, rfl, by decide +kernel, by decide +kernel⟩
theorem sc_is_firm : FnScope ["left", "doomed"] ["left", "doomed"] (defScope s_is_firm) := ⟨rfl, rfl, rfl, by decide +kernel, rfl, by decide +kernel, by decide +kernel⟩
theorem sc_has_any : FnScope ["marked", "stocks", "stock"] ["marked", "stocks"] (defScope s_has_any) := ⟨rfl, rfl, rfl, by decide +kernel, rfl, by decide +kernel, by decide +kernel⟩
theorem sc_holds : FnScope ["shop", "doomed", "stock"] ["shop", "doomed", "stock"] (defScope s_holds) := ⟨rfl, rfl, rfl, by decide +kernel, rfl, by decide +kernel, by decide +kernel⟩
theorem sc_first_filling : FnScope ["shop", "doomed", "stock", "items"] ["shop", "doomed", "stock"] (defScope s_first_filling) := ⟨rfl, rfl, rfl, by decide +kernel, rfl, by decide +kernel, by decide +kernel⟩
theorem sc_first_attack : FnScope ["shop", "doomed", "stock", "takings", "taking", "best", "soonest", "doom"] ["shop", "doomed", "stock"] (defScope s_first_attack) := ⟨rfl, rfl, rfl, by decide +kernel, rfl, by decide +kernel, by decide +kernel⟩
theorem sc_least_stocks : FnScope ["shop", "doomed", "least", "stock", "lower", "other"] ["shop", "doomed"] (defScope s_least_stocks) := ⟨rfl, rfl, rfl, by decide +kernel, rfl, by decide +kernel, by decide +kernel⟩
theorem sc_keeps_full : FnScope ["shop"] ["shop"] (defScope s_keeps_full) := ⟨rfl, rfl, rfl, by decide +kernel, rfl, by decide +kernel, by decide +kernel⟩
theorem sc_fewest_put : FnScope ["shop", "put"] ["shop"] (defScope s_fewest_put) := ⟨rfl, rfl, rfl, by decide +kernel, rfl, by decide +kernel, by decide +kernel⟩
theorem sc_fewest_onto : FnScope ["shop", "onto"] ["shop"] (defScope s_fewest_onto) := ⟨rfl, rfl, rfl, by decide +kernel, rfl, by decide +kernel, by decide +kernel⟩
theorem sc_first_parting : FnScope ["shop", "other", "doomed", "doomed_there", "stock"] ["shop", "other"] (defScope s_first_parting) := ⟨rfl, rfl, rfl, by decide +kernel, rfl, by decide +kernel, by decide +kernel⟩
theorem sc_Reader_init : FnScope ["self", "octets"] ["self", "octets"] (defScope s_Reader_init) := ⟨rfl, rfl, rfl, by decide +kernel, rfl, by decide +kernel, by decide +kernel⟩
theorem sc_Reader_take : FnScope ["self", "count", "end", "piece"] ["self", "count"] (defScope s_Reader_take) := ⟨rfl, rfl, rfl, by decide +kernel, rfl, by decide +kernel, by decide +kernel⟩
theorem sc_Reader_u8 : FnScope ["self"] ["self"] (defScope s_Reader_u8) := ⟨rfl, rfl, rfl, by decide +kernel, rfl, by decide +kernel, by decide +kernel⟩
theorem sc_Reader_u16 : FnScope ["self", "pair"] ["self"] (defScope s_Reader_u16) := ⟨rfl, rfl, rfl, by decide +kernel, rfl, by decide +kernel, by decide +kernel⟩
theorem sc_Reader_part : FnScope ["self", "kind"] ["self", "kind"] (defScope s_Reader_part) := ⟨rfl, rfl, rfl, by decide +kernel, rfl, by decide +kernel, by decide +kernel⟩
theorem sc_kinds_of : FnScope ["number"] ["number"] (defScope s_kinds_of) := ⟨rfl, rfl, rfl, by decide +kernel, rfl, by decide +kernel, by decide +kernel⟩
theorem sc_take_apart : FnScope ["request", "reader", "number", "parts", "kind"] ["request"] (defScope s_take_apart) := ⟨rfl, rfl, rfl, by decide +kernel, rfl, by decide +kernel, by decide +kernel⟩
theorem sc_write_flag : FnScope ["yes"] ["yes"] (defScope s_write_flag) := ⟨rfl, rfl, rfl, by decide +kernel, rfl, by decide +kernel, by decide +kernel⟩
theorem sc_write_u16 : FnScope ["number"] ["number"] (defScope s_write_u16) := ⟨rfl, rfl, rfl, by decide +kernel, rfl, by decide +kernel, by decide +kernel⟩
theorem sc_write_text : FnScope ["octets"] ["octets"] (defScope s_write_text) := ⟨rfl, rfl, rfl, by decide +kernel, rfl, by decide +kernel, by decide +kernel⟩
theorem sc_write_row : FnScope ["row"] ["row"] (defScope s_write_row) := ⟨rfl, rfl, rfl, by decide +kernel, rfl, by decide +kernel, by decide +kernel⟩
theorem sc_write_rows : FnScope ["rows", "octets", "row"] ["rows"] (defScope s_write_rows) := ⟨rfl, rfl, rfl, by decide +kernel, rfl, by decide +kernel, by decide +kernel⟩
theorem sc_write_maybe_row : FnScope ["row"] ["row"] (defScope s_write_maybe_row) := ⟨rfl, rfl, rfl, by decide +kernel, rfl, by decide +kernel, by decide +kernel⟩
theorem sc_write_maybe_u8 : FnScope ["number"] ["number"] (defScope s_write_maybe_u8) := ⟨rfl, rfl, rfl, by decide +kernel, rfl, by decide +kernel, by decide +kernel⟩
theorem sc_write_maybe_u16 : FnScope ["number"] ["number"] (defScope s_write_maybe_u16) := ⟨rfl, rfl, rfl, by decide +kernel, rfl, by decide +kernel, by decide +kernel⟩
theorem sc_Draft_init : FnScope ["self"] ["self"] (defScope s_Draft_init) := ⟨rfl, rfl, rfl, by decide +kernel, rfl, by decide +kernel, by decide +kernel⟩
theorem sc_read_shop : FnScope ["text", "lines", "draft", "number", "line", "words", "wanted", "wanted_of_one", "put", "onto"] ["text"] (defScope s_read_shop) := ⟨rfl, rfl, rfl, by decide +kernel, rfl, by decide +kernel, by decide +kernel⟩
theorem sc_divided : FnScope ["octets", "divider", "pieces", "piece", "octet"] ["octets", "divider"] (defScope s_divided) := ⟨rfl, rfl, rfl, by decide +kernel, rfl, by decide +kernel, by decide +kernel⟩
theorem sc_words_of : FnScope ["line", "piece"] ["line"] (defScope s_words_of) := ⟨rfl, rfl, rfl, by decide +kernel, rfl, by decide +kernel, by decide +kernel⟩
theorem sc_digit_of : FnScope ["word", "most"] ["word", "most"] (defScope s_digit_of) := ⟨rfl, rfl, rfl, by decide +kernel, rfl, by decide +kernel, by decide +kernel⟩
theorem sc_is_name : FnScope ["word", "letters", "octet"] ["word"] (defScope s_is_name) := ⟨rfl, rfl, rfl, by decide +kernel, rfl, by decide +kernel, by decide +kernel⟩
theorem sc_read_line : FnScope ["draft", "words"] ["draft", "words"] (defScope s_read_line) := ⟨rfl, rfl, rfl, by decide +kernel, rfl, by decide +kernel, by decide +kernel⟩
theorem sc_read_shelf : FnScope ["draft", "words", "room"] ["draft", "words"] (defScope s_read_shelf) := ⟨rfl, rfl, rfl, by decide +kernel, rfl, by decide +kernel, by decide +kernel⟩
theorem sc_read_customers : FnScope ["draft", "words", "wanted", "wanted_of_one"] ["draft", "words"] (defScope s_read_customers) := ⟨rfl, rfl, rfl, by decide +kernel, rfl, by decide +kernel, by decide +kernel⟩
theorem sc_read_stocker : FnScope ["draft", "words", "put", "onto"] ["draft", "words"] (defScope s_read_stocker) := ⟨rfl, rfl, rfl, by decide +kernel, rfl, by decide +kernel, by decide +kernel⟩
theorem sc_Round_init : FnScope ["self", "shop"] ["self", "shop"] (defScope s_Round_init) := ⟨rfl, rfl, rfl, by decide +kernel, rfl, by decide +kernel, by decide +kernel⟩
theorem sc_Round_check_items : FnScope ["self", "items"] ["self", "items"] (defScope s_Round_check_items) := ⟨rfl, rfl, rfl, by decide +kernel, rfl, by decide +kernel, by decide +kernel⟩
theorem sc_Round_fill : FnScope ["self", "items"] ["self", "items"] (defScope s_Round_fill) := ⟨rfl, rfl, rfl, by decide +kernel, rfl, by decide +kernel, by decide +kernel⟩
theorem sc_Round_sell : FnScope ["self", "items"] ["self", "items"] (defScope s_Round_sell) := ⟨rfl, rfl, rfl, by decide +kernel, rfl, by decide +kernel, by decide +kernel⟩
theorem sc_Round_step : FnScope ["self", "stock"] ["self", "stock"] (defScope s_Round_step) := ⟨rfl, rfl, rfl, by decide +kernel, rfl, by decide +kernel, by decide +kernel⟩
theorem sc_Round_undo : FnScope ["self"] ["self"] (defScope s_Round_undo) := ⟨rfl, rfl, rfl, by decide +kernel, rfl, by decide +kernel, by decide +kernel⟩
theorem sc_Round_outlook : FnScope ["self", "doomed"] ["self"] (defScope s_Round_outlook) := ⟨rfl, rfl, rfl, by decide +kernel, rfl, by decide +kernel, by decide +kernel⟩
theorem sc_answers : FnScope ["calls", "session", "given", "place", "end", "answer"] ["calls"] (defScope s_answers) := ⟨rfl, rfl, rfl, by decide +kernel, rfl, by decide +kernel, by decide +kernel⟩
theorem sc_Session_init : FnScope ["self", "seat"] ["self"] (defScope s_Session_init) := ⟨rfl, rfl, rfl, by decide +kernel, rfl, by decide +kernel, by decide +kernel⟩
theorem sc_Session_answer : FnScope ["self", "request", "octets", "refusal"] ["self", "request"] (defScope s_Session_answer) := ⟨rfl, rfl, rfl, by decide +kernel, rfl, by decide +kernel, by decide +kernel⟩
theorem sc_Session_call : FnScope ["self", "request", "number", "parts"] ["self", "request"] (defScope s_Session_call) := ⟨rfl, rfl, rfl, by decide +kernel, rfl, by decide +kernel, by decide +kernel⟩
theorem sc_answer_of_shop : FnScope ["number", "shop"] ["number", "shop"] (defScope s_answer_of_shop) := ⟨rfl, rfl, rfl, by decide +kernel, rfl, by decide +kernel, by decide +kernel⟩
theorem sc_answer_of_stock : FnScope ["number", "shop", "stock", "doomed"] ["number", "shop", "stock"] (defScope s_answer_of_stock) := ⟨rfl, rfl, rfl, by decide +kernel, rfl, by decide +kernel, by decide +kernel⟩
theorem sc_answer_parting : FnScope ["text", "other_text", "shop", "other"] ["text", "other_text"] (defScope s_answer_parting) := ⟨rfl, rfl, rfl, by decide +kernel, rfl, by decide +kernel, by decide +kernel⟩
theorem sc_answer_of_round : FnScope ["number", "going", "parts", "well", "hint"] ["number", "going", "parts"] (defScope s_answer_of_round) := ⟨rfl, rfl, rfl, by decide +kernel, rfl, by decide +kernel, by decide +kernel⟩
def d_Refusal_init : He.DefD := ⟨("Refusal", some "__init__"), "__init__", "Refusal.__init__", defArgs s_Refusal_init, defBody s_Refusal_init, defScope s_Refusal_init, [], []⟩
def d_Malformed_init : He.DefD := ⟨("Malformed", some "__init__"), "__init__", "Malformed.__init__", defArgs s_Malformed_init, defBody s_Malformed_init, defScope s_Malformed_init, [], []⟩
def d_TextTooLong_init : He.DefD := ⟨("TextTooLong", some "__init__"), "__init__", "TextTooLong.__init__", defArgs s_TextTooLong_init, defBody s_TextTooLong_init, defScope s_TextTooLong_init, [], []⟩
def d_InvalidLine_init : He.DefD := ⟨("InvalidLine", some "__init__"), "__init__", "InvalidLine.__init__", defArgs s_InvalidLine_init, defBody s_InvalidLine_init, defScope s_InvalidLine_init, [], []⟩
def d_NoStock_init : He.DefD := ⟨("NoStock", some "__init__"), "__init__", "NoStock.__init__", defArgs s_NoStock_init, defBody s_NoStock_init, defScope s_NoStock_init, [], []⟩
def d_NoItems_init : He.DefD := ⟨("NoItems", some "__init__"), "__init__", "NoItems.__init__", defArgs s_NoItems_init, defBody s_NoItems_init, defScope s_NoItems_init, [], []⟩
def d_OtherShelves_init : He.DefD := ⟨("OtherShelves", some "__init__"), "__init__", "OtherShelves.__init__", defArgs s_OtherShelves_init, defBody s_OtherShelves_init, defScope s_OtherShelves_init, [], []⟩
def d_NoRound_init : He.DefD := ⟨("NoRound", some "__init__"), "__init__", "NoRound.__init__", defArgs s_NoRound_init, defBody s_NoRound_init, defScope s_NoRound_init, [], []⟩
def d_ShopIsOpen_init : He.DefD := ⟨("ShopIsOpen", some "__init__"), "__init__", "ShopIsOpen.__init__", defArgs s_ShopIsOpen_init, defBody s_ShopIsOpen_init, defScope s_ShopIsOpen_init, [], []⟩
def d_NoFilling_init : He.DefD := ⟨("NoFilling", some "__init__"), "__init__", "NoFilling.__init__", defArgs s_NoFilling_init, defBody s_NoFilling_init, defScope s_NoFilling_init, [], []⟩
def d_StepsSpent_init : He.DefD := ⟨("StepsSpent", some "__init__"), "__init__", "StepsSpent.__init__", defArgs s_StepsSpent_init, defBody s_StepsSpent_init, defScope s_StepsSpent_init, [], []⟩
def d_ShopIsClosed_init : He.DefD := ⟨("ShopIsClosed", some "__init__"), "__init__", "ShopIsClosed.__init__", defArgs s_ShopIsClosed_init, defBody s_ShopIsClosed_init, defScope s_ShopIsClosed_init, [], []⟩
def d_NoTaking_init : He.DefD := ⟨("NoTaking", some "__init__"), "__init__", "NoTaking.__init__", defArgs s_NoTaking_init, defBody s_NoTaking_init, defScope s_NoTaking_init, [], []⟩
def d_ShelfFoundEmpty_init : He.DefD := ⟨("ShelfFoundEmpty", some "__init__"), "__init__", "ShelfFoundEmpty.__init__", defArgs s_ShelfFoundEmpty_init, defBody s_ShelfFoundEmpty_init, defScope s_ShelfFoundEmpty_init, [], []⟩
def d_Shop_init : He.DefD := ⟨("Shop", some "__init__"), "__init__", "Shop.__init__", defArgs s_Shop_init, defBody s_Shop_init, defScope s_Shop_init, [], []⟩
def d_resized : He.DefD := ⟨("resized", none), "resized", "resized", defArgs s_resized, defBody s_resized, defScope s_resized, [], []⟩
def d_octets_of : He.DefD := ⟨("octets_of", none), "octets_of", "octets_of", defArgs s_octets_of, defBody s_octets_of, defScope s_octets_of, [], []⟩
def d_canonical_text : He.DefD := ⟨("canonical_text", none), "canonical_text", "canonical_text", defArgs s_canonical_text, defBody s_canonical_text, defScope s_canonical_text, [], []⟩
def d_joined : He.DefD := ⟨("joined", none), "joined", "joined", defArgs s_joined, defBody s_joined, defScope s_joined, [], []⟩
def d_choices : He.DefD := ⟨("choices", none), "choices", "choices", defArgs s_choices, defBody s_choices, defScope s_choices, [], []⟩
def d_highest_next : He.DefD := ⟨("highest_next", none), "highest_next", "highest_next", defArgs s_highest_next, defBody s_highest_next, defScope s_highest_next, [], []⟩
def d_stocks_of : He.DefD := ⟨("stocks_of", none), "stocks_of", "stocks_of", defArgs s_stocks_of, defBody s_stocks_of, defScope s_stocks_of, [], []⟩
def d_full_stock : He.DefD := ⟨("full_stock", none), "full_stock", "full_stock", defArgs s_full_stock, defBody s_full_stock, defScope s_full_stock, [], []⟩
def d_fillings_of : He.DefD := ⟨("fillings_of", none), "fillings_of", "fillings_of", defArgs s_fillings_of, defBody s_fillings_of, defScope s_fillings_of, [], []⟩
def d_takings_of : He.DefD := ⟨("takings_of", none), "takings_of", "takings_of", defArgs s_takings_of, defBody s_takings_of, defScope s_takings_of, [], []⟩
def d_is_below : He.DefD := ⟨("is_below", none), "is_below", "is_below", defArgs s_is_below, defBody s_is_below, defScope s_is_below, [], []⟩
def d_added : He.DefD := ⟨("added", none), "added", "added", defArgs s_added, defBody s_added, defScope s_added, [], []⟩
def d_taken : He.DefD := ⟨("taken", none), "taken", "taken", defArgs s_taken, defBody s_taken, defScope s_taken, [], []⟩
def d_dooms : He.DefD := ⟨("dooms", none), "dooms", "dooms", defArgs s_dooms, defBody s_dooms, defScope s_dooms, [], []⟩
def d_stocks_left : He.DefD := ⟨("stocks_left", none), "stocks_left", "stocks_left", defArgs s_stocks_left, defBody s_stocks_left, defScope s_stocks_left, [], []⟩
def d_newly_doomed : He.DefD := ⟨("newly_doomed", none), "newly_doomed", "newly_doomed", defArgs s_newly_doomed, defBody s_newly_doomed, defScope s_newly_doomed, [], []⟩
def d_is_firm : He.DefD := ⟨("is_firm", none), "is_firm", "is_firm", defArgs s_is_firm, defBody s_is_firm, defScope s_is_firm, [], []⟩
def d_has_any : He.DefD := ⟨("has_any", none), "has_any", "has_any", defArgs s_has_any, defBody s_has_any, defScope s_has_any, [], []⟩
def d_holds : He.DefD := ⟨("holds", none), "holds", "holds", defArgs s_holds, defBody s_holds, defScope s_holds, [], []⟩
def d_first_filling : He.DefD := ⟨("first_filling", none), "first_filling", "first_filling", defArgs s_first_filling, defBody s_first_filling, defScope s_first_filling, [], []⟩
def d_first_attack : He.DefD := ⟨("first_attack", none), "first_attack", "first_attack", defArgs s_first_attack, defBody s_first_attack, defScope s_first_attack, [], []⟩
def d_least_stocks : He.DefD := ⟨("least_stocks", none), "least_stocks", "least_stocks", defArgs s_least_stocks, defBody s_least_stocks, defScope s_least_stocks, [], []⟩
def d_keeps_full : He.DefD := ⟨("keeps_full", none), "keeps_full", "keeps_full", defArgs s_keeps_full, defBody s_keeps_full, defScope s_keeps_full, [], []⟩
def d_fewest_put : He.DefD := ⟨("fewest_put", none), "fewest_put", "fewest_put", defArgs s_fewest_put, defBody s_fewest_put, defScope s_fewest_put, [], []⟩
def d_fewest_onto : He.DefD := ⟨("fewest_onto", none), "fewest_onto", "fewest_onto", defArgs s_fewest_onto, defBody s_fewest_onto, defScope s_fewest_onto, [], []⟩
def d_first_parting : He.DefD := ⟨("first_parting", none), "first_parting", "first_parting", defArgs s_first_parting, defBody s_first_parting, defScope s_first_parting, [], []⟩
def d_Reader_init : He.DefD := ⟨("Reader", some "__init__"), "__init__", "Reader.__init__", defArgs s_Reader_init, defBody s_Reader_init, defScope s_Reader_init, [], []⟩
def d_Reader_take : He.DefD := ⟨("Reader", some "take"), "take", "Reader.take", defArgs s_Reader_take, defBody s_Reader_take, defScope s_Reader_take, [], []⟩
def d_Reader_u8 : He.DefD := ⟨("Reader", some "u8"), "u8", "Reader.u8", defArgs s_Reader_u8, defBody s_Reader_u8, defScope s_Reader_u8, [], []⟩
def d_Reader_u16 : He.DefD := ⟨("Reader", some "u16"), "u16", "Reader.u16", defArgs s_Reader_u16, defBody s_Reader_u16, defScope s_Reader_u16, [], []⟩
def d_Reader_part : He.DefD := ⟨("Reader", some "part"), "part", "Reader.part", defArgs s_Reader_part, defBody s_Reader_part, defScope s_Reader_part, [], []⟩
def d_kinds_of : He.DefD := ⟨("kinds_of", none), "kinds_of", "kinds_of", defArgs s_kinds_of, defBody s_kinds_of, defScope s_kinds_of, [], []⟩
def d_take_apart : He.DefD := ⟨("take_apart", none), "take_apart", "take_apart", defArgs s_take_apart, defBody s_take_apart, defScope s_take_apart, [], []⟩
def d_write_flag : He.DefD := ⟨("write_flag", none), "write_flag", "write_flag", defArgs s_write_flag, defBody s_write_flag, defScope s_write_flag, [], []⟩
def d_write_u16 : He.DefD := ⟨("write_u16", none), "write_u16", "write_u16", defArgs s_write_u16, defBody s_write_u16, defScope s_write_u16, [], []⟩
def d_write_text : He.DefD := ⟨("write_text", none), "write_text", "write_text", defArgs s_write_text, defBody s_write_text, defScope s_write_text, [], []⟩
def d_write_row : He.DefD := ⟨("write_row", none), "write_row", "write_row", defArgs s_write_row, defBody s_write_row, defScope s_write_row, [], []⟩
def d_write_rows : He.DefD := ⟨("write_rows", none), "write_rows", "write_rows", defArgs s_write_rows, defBody s_write_rows, defScope s_write_rows, [], []⟩
def d_write_maybe_row : He.DefD := ⟨("write_maybe_row", none), "write_maybe_row", "write_maybe_row", defArgs s_write_maybe_row, defBody s_write_maybe_row, defScope s_write_maybe_row, [], []⟩
def d_write_maybe_u8 : He.DefD := ⟨("write_maybe_u8", none), "write_maybe_u8", "write_maybe_u8", defArgs s_write_maybe_u8, defBody s_write_maybe_u8, defScope s_write_maybe_u8, [], []⟩
def d_write_maybe_u16 : He.DefD := ⟨("write_maybe_u16", none), "write_maybe_u16", "write_maybe_u16", defArgs s_write_maybe_u16, defBody s_write_maybe_u16, defScope s_write_maybe_u16, [], []⟩
def d_Draft_init : He.DefD := ⟨("Draft", some "__init__"), "__init__", "Draft.__init__", defArgs s_Draft_init, defBody s_Draft_init, defScope s_Draft_init, [], []⟩
def d_read_shop : He.DefD := ⟨("read_shop", none), "read_shop", "read_shop", defArgs s_read_shop, defBody s_read_shop, defScope s_read_shop, [], []⟩
def d_divided : He.DefD := ⟨("divided", none), "divided", "divided", defArgs s_divided, defBody s_divided, defScope s_divided, [], []⟩
def d_words_of : He.DefD := ⟨("words_of", none), "words_of", "words_of", defArgs s_words_of, defBody s_words_of, defScope s_words_of, [], []⟩
def d_digit_of : He.DefD := ⟨("digit_of", none), "digit_of", "digit_of", defArgs s_digit_of, defBody s_digit_of, defScope s_digit_of, [], []⟩
def d_is_name : He.DefD := ⟨("is_name", none), "is_name", "is_name", defArgs s_is_name, defBody s_is_name, defScope s_is_name, [], []⟩
def d_read_line : He.DefD := ⟨("read_line", none), "read_line", "read_line", defArgs s_read_line, defBody s_read_line, defScope s_read_line, [], []⟩
def d_read_shelf : He.DefD := ⟨("read_shelf", none), "read_shelf", "read_shelf", defArgs s_read_shelf, defBody s_read_shelf, defScope s_read_shelf, [], []⟩
def d_read_customers : He.DefD := ⟨("read_customers", none), "read_customers", "read_customers", defArgs s_read_customers, defBody s_read_customers, defScope s_read_customers, [], []⟩
def d_read_stocker : He.DefD := ⟨("read_stocker", none), "read_stocker", "read_stocker", defArgs s_read_stocker, defBody s_read_stocker, defScope s_read_stocker, [], []⟩
def d_Round_init : He.DefD := ⟨("Round", some "__init__"), "__init__", "Round.__init__", defArgs s_Round_init, defBody s_Round_init, defScope s_Round_init, [], []⟩
def d_Round_check_items : He.DefD := ⟨("Round", some "check_items"), "check_items", "Round.check_items", defArgs s_Round_check_items, defBody s_Round_check_items, defScope s_Round_check_items, [], []⟩
def d_Round_fill : He.DefD := ⟨("Round", some "fill"), "fill", "Round.fill", defArgs s_Round_fill, defBody s_Round_fill, defScope s_Round_fill, [], []⟩
def d_Round_sell : He.DefD := ⟨("Round", some "sell"), "sell", "Round.sell", defArgs s_Round_sell, defBody s_Round_sell, defScope s_Round_sell, [], []⟩
def d_Round_step : He.DefD := ⟨("Round", some "step"), "step", "Round.step", defArgs s_Round_step, defBody s_Round_step, defScope s_Round_step, [], []⟩
def d_Round_undo : He.DefD := ⟨("Round", some "undo"), "undo", "Round.undo", defArgs s_Round_undo, defBody s_Round_undo, defScope s_Round_undo, [], []⟩
def d_Round_outlook : He.DefD := ⟨("Round", some "outlook"), "outlook", "Round.outlook", defArgs s_Round_outlook, defBody s_Round_outlook, defScope s_Round_outlook, [], []⟩
def d_answers : He.DefD := ⟨("answers", none), "answers", "answers", defArgs s_answers, defBody s_answers, defScope s_answers, [], []⟩
def d_Session_init : He.DefD := ⟨("Session", some "__init__"), "__init__", "Session.__init__", defArgs s_Session_init, defBody s_Session_init, defScope s_Session_init, [], []⟩
def d_Session_answer : He.DefD := ⟨("Session", some "answer"), "answer", "Session.answer", defArgs s_Session_answer, defBody s_Session_answer, defScope s_Session_answer, [], []⟩
def d_Session_call : He.DefD := ⟨("Session", some "call"), "call", "Session.call", defArgs s_Session_call, defBody s_Session_call, defScope s_Session_call, [], []⟩
def d_answer_of_shop : He.DefD := ⟨("answer_of_shop", none), "answer_of_shop", "answer_of_shop", defArgs s_answer_of_shop, defBody s_answer_of_shop, defScope s_answer_of_shop, [], []⟩
def d_answer_of_stock : He.DefD := ⟨("answer_of_stock", none), "answer_of_stock", "answer_of_stock", defArgs s_answer_of_stock, defBody s_answer_of_stock, defScope s_answer_of_stock, [], []⟩
def d_answer_parting : He.DefD := ⟨("answer_parting", none), "answer_parting", "answer_parting", defArgs s_answer_parting, defBody s_answer_parting, defScope s_answer_parting, [], []⟩
def d_answer_of_round : He.DefD := ⟨("answer_of_round", none), "answer_of_round", "answer_of_round", defArgs s_answer_of_round, defBody s_answer_of_round, defScope s_answer_of_round, [], []⟩
def fn : List He.DefD := [d_Refusal_init, d_Malformed_init, d_TextTooLong_init, d_InvalidLine_init, d_NoStock_init, d_NoItems_init, d_OtherShelves_init, d_NoRound_init, d_ShopIsOpen_init, d_NoFilling_init, d_StepsSpent_init, d_ShopIsClosed_init, d_NoTaking_init, d_ShelfFoundEmpty_init, d_Shop_init, d_resized, d_octets_of, d_canonical_text, d_joined, d_choices, d_highest_next, d_stocks_of, d_full_stock, d_fillings_of, d_takings_of, d_is_below, d_added, d_taken, d_dooms, d_stocks_left, d_newly_doomed, d_is_firm, d_has_any, d_holds, d_first_filling, d_first_attack, d_least_stocks, d_keeps_full, d_fewest_put, d_fewest_onto, d_first_parting, d_Reader_init, d_Reader_take, d_Reader_u8, d_Reader_u16, d_Reader_part, d_kinds_of, d_take_apart, d_write_flag, d_write_u16, d_write_text, d_write_row, d_write_rows, d_write_maybe_row, d_write_maybe_u8, d_write_maybe_u16, d_Draft_init, d_read_shop, d_divided, d_words_of, d_digit_of, d_is_name, d_read_line, d_read_shelf, d_read_customers, d_read_stocker, d_Round_init, d_Round_check_items, d_Round_fill, d_Round_sell, d_Round_step, d_Round_undo, d_Round_outlook, d_answers, d_Session_init, d_Session_answer, d_Session_call, d_answer_of_shop, d_answer_of_stock, d_answer_parting, d_answer_of_round]
def fa : List He.Fa := [.glo "resized", .glo "octets_of", .glo "canonical_text", .glo "joined", .glo "choices", .glo "highest_next", .glo "stocks_of", .glo "full_stock", .glo "fillings_of", .glo "takings_of", .glo "is_below", .glo "added", .glo "taken", .glo "dooms", .glo "stocks_left", .glo "newly_doomed", .glo "is_firm", .glo "has_any", .glo "holds", .glo "first_filling", .glo "first_attack", .glo "least_stocks", .glo "keeps_full", .glo "fewest_put", .glo "fewest_onto", .glo "first_parting", .glo "kinds_of", .glo "take_apart", .glo "write_flag", .glo "write_u16", .glo "write_text", .glo "write_row", .glo "write_rows", .glo "write_maybe_row", .glo "write_maybe_u8", .glo "write_maybe_u16", .glo "read_shop", .glo "divided", .glo "words_of", .glo "digit_of", .glo "is_name", .glo "read_line", .glo "read_shelf", .glo "read_customers", .glo "read_stocker", .glo "answers", .glo "answer_of_shop", .glo "answer_of_stock", .glo "answer_parting", .glo "answer_of_round", .glo "Refusal", .glo "Malformed", .glo "TextTooLong", .glo "InvalidLine", .glo "NoStock", .glo "NoItems", .glo "OtherShelves", .glo "NoRound", .glo "ShopIsOpen", .glo "NoFilling", .glo "StepsSpent", .glo "ShopIsClosed", .glo "NoTaking", .glo "ShelfFoundEmpty", .glo "Shop", .glo "Reader", .glo "Draft", .glo "Round", .glo "Session", .free "len", .free "range", .free "enumerate", .free "zip", .free "min", .free "max", .free "sum", .free "sorted", .free "tuple", .free "list", .free "ord", .int "SPACE" 32, .int "NEWLINE" 10, .int "ZERO" 48, .int "MOST_PUT" 9, .int "FORMAT" 1, .int "SAFE" 2, .int "FILLING" 3, .int "DOOM" 4, .int "ATTACK" 5, .int "LEAST" 6, .int "FEWEST" 7, .int "PARTING" 8, .int "ROUND" 9, .int "FILL" 10, .int "SELL" 11, .int "UNDO" 12, .int "LOOK" 13, .int "MOST_OCTETS" 200, .int "MOST_SHELVES" 3, .int "MOST_ROOM" 4, .int "MOST_WANTED" 4, .int "MOST_LETTERS" 8, .int "FIRST_LETTER" 97, .int "LAST_LETTER" 122, .int "MOST_STEPS" 30, .int "MOST_OF_ONE" 9, .int "SEATS" 8, .cls "Shop", .mkr "Shop", .noat "Shop" "names", .noat "Shop" "rooms", .noat "Shop" "wanted", .noat "Shop" "wanted_of_one", .noat "Shop" "put", .noat "Shop" "onto", .cls "Reader", .mkr "Reader", .noat "Reader" "octets", .noat "Reader" "place", .meth "Reader" "take", .meth "Reader" "u8", .meth "Reader" "u16", .meth "Reader" "part", .cls "Draft", .mkr "Draft", .noat "Draft" "names", .noat "Draft" "rooms", .noat "Draft" "customers", .noat "Draft" "stocker", .cls "Round", .mkr "Round", .noat "Round" "shop", .noat "Round" "stock", .noat "Round" "selling", .noat "Round" "past", .meth "Round" "check_items", .meth "Round" "fill", .meth "Round" "sell", .meth "Round" "step", .meth "Round" "undo", .meth "Round" "outlook", .cls "Session", .mkr "Session", .noat "Session" "seats", .meth "Session" "answer", .meth "Session" "call"]
/-- what is asked of the errors' classes -/
def xRef (K : PySem.W.Frag) : Addr := He.ga K "Refusal"
def xOne (K : PySem.W.Frag) (x : Str) : Bool := exB K (He.ga K x) && (refB K (xRef K) (He.ga K x) && (decide (PySem.W.findIn K (.ref (He.ga K x)) "__init__" = some (some (.ref (He.ma K (He.ga K x) "__init__")))) && decide (PySem.W.typeIn K (.ref (He.ma K (He.ga K x) "__init__")) = some (.type "function"))))
def xNames : List Str := ["Malformed", "TextTooLong", "InvalidLine", "NoStock", "NoItems", "OtherShelves", "NoRound", "ShopIsOpen", "NoFilling", "StepsSpent", "ShopIsClosed", "NoTaking", "ShelfFoundEmpty"]
def xUp (K : PySem.W.Frag) : Bool := (PySem.W.readsIn K (xRef K) (.type "type") && decide (PySem.W.specialIn K (.ref (xRef K)) "__getattribute__" = some (some (.builtin "type.__getattribute__")))) &&
  ((match PySem.W.findCls K (.ref (xRef K)) (.type "type") "__init__" with | some (.val (.ref a)) => decide (a = He.ma K (xRef K) "__init__") | _ => false) && PySem.W.keepIn K (.ref (xRef K)))
def xB (K : PySem.W.Frag) : Bool := xUp K && xNames.all (xOne K)
structure Z (K : PySem.W.Frag) (mg : Str → Option Value) : Prop where
  ex : ∃ h : Heap, K.In h ∧ h.Ns mainGlobals mg
  f : He.SaysD fa fn K
  x : xB K = true
section
variable {K : PySem.W.Frag} {mg : Str → Option Value}
theorem g_resized (z : Z K mg) : mg "resized" = some (.ref (He.ga K "resized")) := let ⟨_, X, G⟩ := z.ex; He.glo_ok X G (z.f.fact 0 (f := .glo "resized") rfl)
theorem g_octets_of (z : Z K mg) : mg "octets_of" = some (.ref (He.ga K "octets_of")) := let ⟨_, X, G⟩ := z.ex; He.glo_ok X G (z.f.fact 1 (f := .glo "octets_of") rfl)
theorem g_canonical_text (z : Z K mg) : mg "canonical_text" = some (.ref (He.ga K "canonical_text")) := let ⟨_, X, G⟩ := z.ex; He.glo_ok X G (z.f.fact 2 (f := .glo "canonical_text") rfl)
theorem g_joined (z : Z K mg) : mg "joined" = some (.ref (He.ga K "joined")) := let ⟨_, X, G⟩ := z.ex; He.glo_ok X G (z.f.fact 3 (f := .glo "joined") rfl)
theorem g_choices (z : Z K mg) : mg "choices" = some (.ref (He.ga K "choices")) := let ⟨_, X, G⟩ := z.ex; He.glo_ok X G (z.f.fact 4 (f := .glo "choices") rfl)
theorem g_highest_next (z : Z K mg) : mg "highest_next" = some (.ref (He.ga K "highest_next")) := let ⟨_, X, G⟩ := z.ex; He.glo_ok X G (z.f.fact 5 (f := .glo "highest_next") rfl)
theorem g_stocks_of (z : Z K mg) : mg "stocks_of" = some (.ref (He.ga K "stocks_of")) := let ⟨_, X, G⟩ := z.ex; He.glo_ok X G (z.f.fact 6 (f := .glo "stocks_of") rfl)
theorem g_full_stock (z : Z K mg) : mg "full_stock" = some (.ref (He.ga K "full_stock")) := let ⟨_, X, G⟩ := z.ex; He.glo_ok X G (z.f.fact 7 (f := .glo "full_stock") rfl)
theorem g_fillings_of (z : Z K mg) : mg "fillings_of" = some (.ref (He.ga K "fillings_of")) := let ⟨_, X, G⟩ := z.ex; He.glo_ok X G (z.f.fact 8 (f := .glo "fillings_of") rfl)
theorem g_takings_of (z : Z K mg) : mg "takings_of" = some (.ref (He.ga K "takings_of")) := let ⟨_, X, G⟩ := z.ex; He.glo_ok X G (z.f.fact 9 (f := .glo "takings_of") rfl)
theorem g_is_below (z : Z K mg) : mg "is_below" = some (.ref (He.ga K "is_below")) := let ⟨_, X, G⟩ := z.ex; He.glo_ok X G (z.f.fact 10 (f := .glo "is_below") rfl)
theorem g_added (z : Z K mg) : mg "added" = some (.ref (He.ga K "added")) := let ⟨_, X, G⟩ := z.ex; He.glo_ok X G (z.f.fact 11 (f := .glo "added") rfl)
theorem g_taken (z : Z K mg) : mg "taken" = some (.ref (He.ga K "taken")) := let ⟨_, X, G⟩ := z.ex; He.glo_ok X G (z.f.fact 12 (f := .glo "taken") rfl)
theorem g_dooms (z : Z K mg) : mg "dooms" = some (.ref (He.ga K "dooms")) := let ⟨_, X, G⟩ := z.ex; He.glo_ok X G (z.f.fact 13 (f := .glo "dooms") rfl)
theorem g_stocks_left (z : Z K mg) : mg "stocks_left" = some (.ref (He.ga K "stocks_left")) := let ⟨_, X, G⟩ := z.ex; He.glo_ok X G (z.f.fact 14 (f := .glo "stocks_left") rfl)
theorem g_newly_doomed (z : Z K mg) : mg "newly_doomed" = some (.ref (He.ga K "newly_doomed")) := let ⟨_, X, G⟩ := z.ex; He.glo_ok X G (z.f.fact 15 (f := .glo "newly_doomed") rfl)
theorem g_is_firm (z : Z K mg) : mg "is_firm" = some (.ref (He.ga K "is_firm")) := let ⟨_, X, G⟩ := z.ex; He.glo_ok X G (z.f.fact 16 (f := .glo "is_firm") rfl)
theorem g_has_any (z : Z K mg) : mg "has_any" = some (.ref (He.ga K "has_any")) := let ⟨_, X, G⟩ := z.ex; He.glo_ok X G (z.f.fact 17 (f := .glo "has_any") rfl)
theorem g_holds (z : Z K mg) : mg "holds" = some (.ref (He.ga K "holds")) := let ⟨_, X, G⟩ := z.ex; He.glo_ok X G (z.f.fact 18 (f := .glo "holds") rfl)
theorem g_first_filling (z : Z K mg) : mg "first_filling" = some (.ref (He.ga K "first_filling")) := let ⟨_, X, G⟩ := z.ex; He.glo_ok X G (z.f.fact 19 (f := .glo "first_filling") rfl)
theorem g_first_attack (z : Z K mg) : mg "first_attack" = some (.ref (He.ga K "first_attack")) := let ⟨_, X, G⟩ := z.ex; He.glo_ok X G (z.f.fact 20 (f := .glo "first_attack") rfl)
theorem g_least_stocks (z : Z K mg) : mg "least_stocks" = some (.ref (He.ga K "least_stocks")) := let ⟨_, X, G⟩ := z.ex; He.glo_ok X G (z.f.fact 21 (f := .glo "least_stocks") rfl)
theorem g_keeps_full (z : Z K mg) : mg "keeps_full" = some (.ref (He.ga K "keeps_full")) := let ⟨_, X, G⟩ := z.ex; He.glo_ok X G (z.f.fact 22 (f := .glo "keeps_full") rfl)
theorem g_fewest_put (z : Z K mg) : mg "fewest_put" = some (.ref (He.ga K "fewest_put")) := let ⟨_, X, G⟩ := z.ex; He.glo_ok X G (z.f.fact 23 (f := .glo "fewest_put") rfl)
theorem g_fewest_onto (z : Z K mg) : mg "fewest_onto" = some (.ref (He.ga K "fewest_onto")) := let ⟨_, X, G⟩ := z.ex; He.glo_ok X G (z.f.fact 24 (f := .glo "fewest_onto") rfl)
theorem g_first_parting (z : Z K mg) : mg "first_parting" = some (.ref (He.ga K "first_parting")) := let ⟨_, X, G⟩ := z.ex; He.glo_ok X G (z.f.fact 25 (f := .glo "first_parting") rfl)
theorem g_kinds_of (z : Z K mg) : mg "kinds_of" = some (.ref (He.ga K "kinds_of")) := let ⟨_, X, G⟩ := z.ex; He.glo_ok X G (z.f.fact 26 (f := .glo "kinds_of") rfl)
theorem g_take_apart (z : Z K mg) : mg "take_apart" = some (.ref (He.ga K "take_apart")) := let ⟨_, X, G⟩ := z.ex; He.glo_ok X G (z.f.fact 27 (f := .glo "take_apart") rfl)
theorem g_write_flag (z : Z K mg) : mg "write_flag" = some (.ref (He.ga K "write_flag")) := let ⟨_, X, G⟩ := z.ex; He.glo_ok X G (z.f.fact 28 (f := .glo "write_flag") rfl)
theorem g_write_u16 (z : Z K mg) : mg "write_u16" = some (.ref (He.ga K "write_u16")) := let ⟨_, X, G⟩ := z.ex; He.glo_ok X G (z.f.fact 29 (f := .glo "write_u16") rfl)
theorem g_write_text (z : Z K mg) : mg "write_text" = some (.ref (He.ga K "write_text")) := let ⟨_, X, G⟩ := z.ex; He.glo_ok X G (z.f.fact 30 (f := .glo "write_text") rfl)
theorem g_write_row (z : Z K mg) : mg "write_row" = some (.ref (He.ga K "write_row")) := let ⟨_, X, G⟩ := z.ex; He.glo_ok X G (z.f.fact 31 (f := .glo "write_row") rfl)
theorem g_write_rows (z : Z K mg) : mg "write_rows" = some (.ref (He.ga K "write_rows")) := let ⟨_, X, G⟩ := z.ex; He.glo_ok X G (z.f.fact 32 (f := .glo "write_rows") rfl)
theorem g_write_maybe_row (z : Z K mg) : mg "write_maybe_row" = some (.ref (He.ga K "write_maybe_row")) := let ⟨_, X, G⟩ := z.ex; He.glo_ok X G (z.f.fact 33 (f := .glo "write_maybe_row") rfl)
theorem g_write_maybe_u8 (z : Z K mg) : mg "write_maybe_u8" = some (.ref (He.ga K "write_maybe_u8")) := let ⟨_, X, G⟩ := z.ex; He.glo_ok X G (z.f.fact 34 (f := .glo "write_maybe_u8") rfl)
theorem g_write_maybe_u16 (z : Z K mg) : mg "write_maybe_u16" = some (.ref (He.ga K "write_maybe_u16")) := let ⟨_, X, G⟩ := z.ex; He.glo_ok X G (z.f.fact 35 (f := .glo "write_maybe_u16") rfl)
theorem g_read_shop (z : Z K mg) : mg "read_shop" = some (.ref (He.ga K "read_shop")) := let ⟨_, X, G⟩ := z.ex; He.glo_ok X G (z.f.fact 36 (f := .glo "read_shop") rfl)
theorem g_divided (z : Z K mg) : mg "divided" = some (.ref (He.ga K "divided")) := let ⟨_, X, G⟩ := z.ex; He.glo_ok X G (z.f.fact 37 (f := .glo "divided") rfl)
theorem g_words_of (z : Z K mg) : mg "words_of" = some (.ref (He.ga K "words_of")) := let ⟨_, X, G⟩ := z.ex; He.glo_ok X G (z.f.fact 38 (f := .glo "words_of") rfl)
theorem g_digit_of (z : Z K mg) : mg "digit_of" = some (.ref (He.ga K "digit_of")) := let ⟨_, X, G⟩ := z.ex; He.glo_ok X G (z.f.fact 39 (f := .glo "digit_of") rfl)
theorem g_is_name (z : Z K mg) : mg "is_name" = some (.ref (He.ga K "is_name")) := let ⟨_, X, G⟩ := z.ex; He.glo_ok X G (z.f.fact 40 (f := .glo "is_name") rfl)
theorem g_read_line (z : Z K mg) : mg "read_line" = some (.ref (He.ga K "read_line")) := let ⟨_, X, G⟩ := z.ex; He.glo_ok X G (z.f.fact 41 (f := .glo "read_line") rfl)
theorem g_read_shelf (z : Z K mg) : mg "read_shelf" = some (.ref (He.ga K "read_shelf")) := let ⟨_, X, G⟩ := z.ex; He.glo_ok X G (z.f.fact 42 (f := .glo "read_shelf") rfl)
theorem g_read_customers (z : Z K mg) : mg "read_customers" = some (.ref (He.ga K "read_customers")) := let ⟨_, X, G⟩ := z.ex; He.glo_ok X G (z.f.fact 43 (f := .glo "read_customers") rfl)
theorem g_read_stocker (z : Z K mg) : mg "read_stocker" = some (.ref (He.ga K "read_stocker")) := let ⟨_, X, G⟩ := z.ex; He.glo_ok X G (z.f.fact 44 (f := .glo "read_stocker") rfl)
theorem g_answers (z : Z K mg) : mg "answers" = some (.ref (He.ga K "answers")) := let ⟨_, X, G⟩ := z.ex; He.glo_ok X G (z.f.fact 45 (f := .glo "answers") rfl)
theorem g_answer_of_shop (z : Z K mg) : mg "answer_of_shop" = some (.ref (He.ga K "answer_of_shop")) := let ⟨_, X, G⟩ := z.ex; He.glo_ok X G (z.f.fact 46 (f := .glo "answer_of_shop") rfl)
theorem g_answer_of_stock (z : Z K mg) : mg "answer_of_stock" = some (.ref (He.ga K "answer_of_stock")) := let ⟨_, X, G⟩ := z.ex; He.glo_ok X G (z.f.fact 47 (f := .glo "answer_of_stock") rfl)
theorem g_answer_parting (z : Z K mg) : mg "answer_parting" = some (.ref (He.ga K "answer_parting")) := let ⟨_, X, G⟩ := z.ex; He.glo_ok X G (z.f.fact 48 (f := .glo "answer_parting") rfl)
theorem g_answer_of_round (z : Z K mg) : mg "answer_of_round" = some (.ref (He.ga K "answer_of_round")) := let ⟨_, X, G⟩ := z.ex; He.glo_ok X G (z.f.fact 49 (f := .glo "answer_of_round") rfl)
theorem g_Refusal (z : Z K mg) : mg "Refusal" = some (.ref (He.ga K "Refusal")) := let ⟨_, X, G⟩ := z.ex; He.glo_ok X G (z.f.fact 50 (f := .glo "Refusal") rfl)
theorem g_Malformed (z : Z K mg) : mg "Malformed" = some (.ref (He.ga K "Malformed")) := let ⟨_, X, G⟩ := z.ex; He.glo_ok X G (z.f.fact 51 (f := .glo "Malformed") rfl)
theorem g_TextTooLong (z : Z K mg) : mg "TextTooLong" = some (.ref (He.ga K "TextTooLong")) := let ⟨_, X, G⟩ := z.ex; He.glo_ok X G (z.f.fact 52 (f := .glo "TextTooLong") rfl)
theorem g_InvalidLine (z : Z K mg) : mg "InvalidLine" = some (.ref (He.ga K "InvalidLine")) := let ⟨_, X, G⟩ := z.ex; He.glo_ok X G (z.f.fact 53 (f := .glo "InvalidLine") rfl)
theorem g_NoStock (z : Z K mg) : mg "NoStock" = some (.ref (He.ga K "NoStock")) := let ⟨_, X, G⟩ := z.ex; He.glo_ok X G (z.f.fact 54 (f := .glo "NoStock") rfl)
theorem g_NoItems (z : Z K mg) : mg "NoItems" = some (.ref (He.ga K "NoItems")) := let ⟨_, X, G⟩ := z.ex; He.glo_ok X G (z.f.fact 55 (f := .glo "NoItems") rfl)
theorem g_OtherShelves (z : Z K mg) : mg "OtherShelves" = some (.ref (He.ga K "OtherShelves")) := let ⟨_, X, G⟩ := z.ex; He.glo_ok X G (z.f.fact 56 (f := .glo "OtherShelves") rfl)
theorem g_NoRound (z : Z K mg) : mg "NoRound" = some (.ref (He.ga K "NoRound")) := let ⟨_, X, G⟩ := z.ex; He.glo_ok X G (z.f.fact 57 (f := .glo "NoRound") rfl)
theorem g_ShopIsOpen (z : Z K mg) : mg "ShopIsOpen" = some (.ref (He.ga K "ShopIsOpen")) := let ⟨_, X, G⟩ := z.ex; He.glo_ok X G (z.f.fact 58 (f := .glo "ShopIsOpen") rfl)
theorem g_NoFilling (z : Z K mg) : mg "NoFilling" = some (.ref (He.ga K "NoFilling")) := let ⟨_, X, G⟩ := z.ex; He.glo_ok X G (z.f.fact 59 (f := .glo "NoFilling") rfl)
theorem g_StepsSpent (z : Z K mg) : mg "StepsSpent" = some (.ref (He.ga K "StepsSpent")) := let ⟨_, X, G⟩ := z.ex; He.glo_ok X G (z.f.fact 60 (f := .glo "StepsSpent") rfl)
theorem g_ShopIsClosed (z : Z K mg) : mg "ShopIsClosed" = some (.ref (He.ga K "ShopIsClosed")) := let ⟨_, X, G⟩ := z.ex; He.glo_ok X G (z.f.fact 61 (f := .glo "ShopIsClosed") rfl)
theorem g_NoTaking (z : Z K mg) : mg "NoTaking" = some (.ref (He.ga K "NoTaking")) := let ⟨_, X, G⟩ := z.ex; He.glo_ok X G (z.f.fact 62 (f := .glo "NoTaking") rfl)
theorem g_ShelfFoundEmpty (z : Z K mg) : mg "ShelfFoundEmpty" = some (.ref (He.ga K "ShelfFoundEmpty")) := let ⟨_, X, G⟩ := z.ex; He.glo_ok X G (z.f.fact 63 (f := .glo "ShelfFoundEmpty") rfl)
theorem g_Shop (z : Z K mg) : mg "Shop" = some (.ref (He.ga K "Shop")) := let ⟨_, X, G⟩ := z.ex; He.glo_ok X G (z.f.fact 64 (f := .glo "Shop") rfl)
theorem g_Reader (z : Z K mg) : mg "Reader" = some (.ref (He.ga K "Reader")) := let ⟨_, X, G⟩ := z.ex; He.glo_ok X G (z.f.fact 65 (f := .glo "Reader") rfl)
theorem g_Draft (z : Z K mg) : mg "Draft" = some (.ref (He.ga K "Draft")) := let ⟨_, X, G⟩ := z.ex; He.glo_ok X G (z.f.fact 66 (f := .glo "Draft") rfl)
theorem g_Round (z : Z K mg) : mg "Round" = some (.ref (He.ga K "Round")) := let ⟨_, X, G⟩ := z.ex; He.glo_ok X G (z.f.fact 67 (f := .glo "Round") rfl)
theorem g_Session (z : Z K mg) : mg "Session" = some (.ref (He.ga K "Session")) := let ⟨_, X, G⟩ := z.ex; He.glo_ok X G (z.f.fact 68 (f := .glo "Session") rfl)
theorem b_len (z : Z K mg) : mg "len" = none := let ⟨_, X, G⟩ := z.ex; He.free_ok X G (z.f.fact 69 (f := .free "len") rfl)
theorem b_range (z : Z K mg) : mg "range" = none := let ⟨_, X, G⟩ := z.ex; He.free_ok X G (z.f.fact 70 (f := .free "range") rfl)
theorem b_enumerate (z : Z K mg) : mg "enumerate" = none := let ⟨_, X, G⟩ := z.ex; He.free_ok X G (z.f.fact 71 (f := .free "enumerate") rfl)
theorem b_zip (z : Z K mg) : mg "zip" = none := let ⟨_, X, G⟩ := z.ex; He.free_ok X G (z.f.fact 72 (f := .free "zip") rfl)
theorem b_min (z : Z K mg) : mg "min" = none := let ⟨_, X, G⟩ := z.ex; He.free_ok X G (z.f.fact 73 (f := .free "min") rfl)
theorem b_max (z : Z K mg) : mg "max" = none := let ⟨_, X, G⟩ := z.ex; He.free_ok X G (z.f.fact 74 (f := .free "max") rfl)
theorem b_sum (z : Z K mg) : mg "sum" = none := let ⟨_, X, G⟩ := z.ex; He.free_ok X G (z.f.fact 75 (f := .free "sum") rfl)
theorem b_sorted (z : Z K mg) : mg "sorted" = none := let ⟨_, X, G⟩ := z.ex; He.free_ok X G (z.f.fact 76 (f := .free "sorted") rfl)
theorem b_tuple (z : Z K mg) : mg "tuple" = none := let ⟨_, X, G⟩ := z.ex; He.free_ok X G (z.f.fact 77 (f := .free "tuple") rfl)
theorem b_list (z : Z K mg) : mg "list" = none := let ⟨_, X, G⟩ := z.ex; He.free_ok X G (z.f.fact 78 (f := .free "list") rfl)
theorem b_ord (z : Z K mg) : mg "ord" = none := let ⟨_, X, G⟩ := z.ex; He.free_ok X G (z.f.fact 79 (f := .free "ord") rfl)
theorem c_SPACE (z : Z K mg) : ∃ t, mg "SPACE" = some (.int 32 t) := let ⟨_, X, G⟩ := z.ex; He.int_ok X G (z.f.fact 80 (f := .int "SPACE" 32) rfl)
theorem c_NEWLINE (z : Z K mg) : ∃ t, mg "NEWLINE" = some (.int 10 t) := let ⟨_, X, G⟩ := z.ex; He.int_ok X G (z.f.fact 81 (f := .int "NEWLINE" 10) rfl)
theorem c_ZERO (z : Z K mg) : ∃ t, mg "ZERO" = some (.int 48 t) := let ⟨_, X, G⟩ := z.ex; He.int_ok X G (z.f.fact 82 (f := .int "ZERO" 48) rfl)
theorem c_MOST_PUT (z : Z K mg) : ∃ t, mg "MOST_PUT" = some (.int 9 t) := let ⟨_, X, G⟩ := z.ex; He.int_ok X G (z.f.fact 83 (f := .int "MOST_PUT" 9) rfl)
theorem c_FORMAT (z : Z K mg) : ∃ t, mg "FORMAT" = some (.int 1 t) := let ⟨_, X, G⟩ := z.ex; He.int_ok X G (z.f.fact 84 (f := .int "FORMAT" 1) rfl)
theorem c_SAFE (z : Z K mg) : ∃ t, mg "SAFE" = some (.int 2 t) := let ⟨_, X, G⟩ := z.ex; He.int_ok X G (z.f.fact 85 (f := .int "SAFE" 2) rfl)
theorem c_FILLING (z : Z K mg) : ∃ t, mg "FILLING" = some (.int 3 t) := let ⟨_, X, G⟩ := z.ex; He.int_ok X G (z.f.fact 86 (f := .int "FILLING" 3) rfl)
theorem c_DOOM (z : Z K mg) : ∃ t, mg "DOOM" = some (.int 4 t) := let ⟨_, X, G⟩ := z.ex; He.int_ok X G (z.f.fact 87 (f := .int "DOOM" 4) rfl)
theorem c_ATTACK (z : Z K mg) : ∃ t, mg "ATTACK" = some (.int 5 t) := let ⟨_, X, G⟩ := z.ex; He.int_ok X G (z.f.fact 88 (f := .int "ATTACK" 5) rfl)
theorem c_LEAST (z : Z K mg) : ∃ t, mg "LEAST" = some (.int 6 t) := let ⟨_, X, G⟩ := z.ex; He.int_ok X G (z.f.fact 89 (f := .int "LEAST" 6) rfl)
theorem c_FEWEST (z : Z K mg) : ∃ t, mg "FEWEST" = some (.int 7 t) := let ⟨_, X, G⟩ := z.ex; He.int_ok X G (z.f.fact 90 (f := .int "FEWEST" 7) rfl)
theorem c_PARTING (z : Z K mg) : ∃ t, mg "PARTING" = some (.int 8 t) := let ⟨_, X, G⟩ := z.ex; He.int_ok X G (z.f.fact 91 (f := .int "PARTING" 8) rfl)
theorem c_ROUND (z : Z K mg) : ∃ t, mg "ROUND" = some (.int 9 t) := let ⟨_, X, G⟩ := z.ex; He.int_ok X G (z.f.fact 92 (f := .int "ROUND" 9) rfl)
theorem c_FILL (z : Z K mg) : ∃ t, mg "FILL" = some (.int 10 t) := let ⟨_, X, G⟩ := z.ex; He.int_ok X G (z.f.fact 93 (f := .int "FILL" 10) rfl)
theorem c_SELL (z : Z K mg) : ∃ t, mg "SELL" = some (.int 11 t) := let ⟨_, X, G⟩ := z.ex; He.int_ok X G (z.f.fact 94 (f := .int "SELL" 11) rfl)
theorem c_UNDO (z : Z K mg) : ∃ t, mg "UNDO" = some (.int 12 t) := let ⟨_, X, G⟩ := z.ex; He.int_ok X G (z.f.fact 95 (f := .int "UNDO" 12) rfl)
theorem c_LOOK (z : Z K mg) : ∃ t, mg "LOOK" = some (.int 13 t) := let ⟨_, X, G⟩ := z.ex; He.int_ok X G (z.f.fact 96 (f := .int "LOOK" 13) rfl)
theorem c_MOST_OCTETS (z : Z K mg) : ∃ t, mg "MOST_OCTETS" = some (.int 200 t) := let ⟨_, X, G⟩ := z.ex; He.int_ok X G (z.f.fact 97 (f := .int "MOST_OCTETS" 200) rfl)
theorem c_MOST_SHELVES (z : Z K mg) : ∃ t, mg "MOST_SHELVES" = some (.int 3 t) := let ⟨_, X, G⟩ := z.ex; He.int_ok X G (z.f.fact 98 (f := .int "MOST_SHELVES" 3) rfl)
theorem c_MOST_ROOM (z : Z K mg) : ∃ t, mg "MOST_ROOM" = some (.int 4 t) := let ⟨_, X, G⟩ := z.ex; He.int_ok X G (z.f.fact 99 (f := .int "MOST_ROOM" 4) rfl)
theorem c_MOST_WANTED (z : Z K mg) : ∃ t, mg "MOST_WANTED" = some (.int 4 t) := let ⟨_, X, G⟩ := z.ex; He.int_ok X G (z.f.fact 100 (f := .int "MOST_WANTED" 4) rfl)
theorem c_MOST_LETTERS (z : Z K mg) : ∃ t, mg "MOST_LETTERS" = some (.int 8 t) := let ⟨_, X, G⟩ := z.ex; He.int_ok X G (z.f.fact 101 (f := .int "MOST_LETTERS" 8) rfl)
theorem c_FIRST_LETTER (z : Z K mg) : ∃ t, mg "FIRST_LETTER" = some (.int 97 t) := let ⟨_, X, G⟩ := z.ex; He.int_ok X G (z.f.fact 102 (f := .int "FIRST_LETTER" 97) rfl)
theorem c_LAST_LETTER (z : Z K mg) : ∃ t, mg "LAST_LETTER" = some (.int 122 t) := let ⟨_, X, G⟩ := z.ex; He.int_ok X G (z.f.fact 103 (f := .int "LAST_LETTER" 122) rfl)
theorem c_MOST_STEPS (z : Z K mg) : ∃ t, mg "MOST_STEPS" = some (.int 30 t) := let ⟨_, X, G⟩ := z.ex; He.int_ok X G (z.f.fact 104 (f := .int "MOST_STEPS" 30) rfl)
theorem c_MOST_OF_ONE (z : Z K mg) : ∃ t, mg "MOST_OF_ONE" = some (.int 9 t) := let ⟨_, X, G⟩ := z.ex; He.int_ok X G (z.f.fact 105 (f := .int "MOST_OF_ONE" 9) rfl)
theorem c_SEATS (z : Z K mg) : ∃ t, mg "SEATS" = some (.int 8 t) := let ⟨_, X, G⟩ := z.ex; He.int_ok X G (z.f.fact 106 (f := .int "SEATS" 8) rfl)
theorem cl_Shop (z : Z K mg) : Cls K (He.ga K "Shop") := He.cls_ok (z.f.fact 107 (f := .cls "Shop") rfl)
theorem mk_Shop (z : Z K mg) : Mk K (He.ga K "Shop") (He.ma K (He.ga K "Shop") "__init__") := He.mkr_ok (z.f.fact 108 (f := .mkr "Shop") rfl)
theorem na_Shop_names (z : Z K mg) : NoAttr K (He.ga K "Shop") "names" := He.noat_ok (z.f.fact 109 (f := .noat "Shop" "names") rfl)
theorem na_Shop_rooms (z : Z K mg) : NoAttr K (He.ga K "Shop") "rooms" := He.noat_ok (z.f.fact 110 (f := .noat "Shop" "rooms") rfl)
theorem na_Shop_wanted (z : Z K mg) : NoAttr K (He.ga K "Shop") "wanted" := He.noat_ok (z.f.fact 111 (f := .noat "Shop" "wanted") rfl)
theorem na_Shop_wanted_of_one (z : Z K mg) : NoAttr K (He.ga K "Shop") "wanted_of_one" := He.noat_ok (z.f.fact 112 (f := .noat "Shop" "wanted_of_one") rfl)
theorem na_Shop_put (z : Z K mg) : NoAttr K (He.ga K "Shop") "put" := He.noat_ok (z.f.fact 113 (f := .noat "Shop" "put") rfl)
theorem na_Shop_onto (z : Z K mg) : NoAttr K (He.ga K "Shop") "onto" := He.noat_ok (z.f.fact 114 (f := .noat "Shop" "onto") rfl)
theorem cl_Reader (z : Z K mg) : Cls K (He.ga K "Reader") := He.cls_ok (z.f.fact 115 (f := .cls "Reader") rfl)
theorem mk_Reader (z : Z K mg) : Mk K (He.ga K "Reader") (He.ma K (He.ga K "Reader") "__init__") := He.mkr_ok (z.f.fact 116 (f := .mkr "Reader") rfl)
theorem na_Reader_octets (z : Z K mg) : NoAttr K (He.ga K "Reader") "octets" := He.noat_ok (z.f.fact 117 (f := .noat "Reader" "octets") rfl)
theorem na_Reader_place (z : Z K mg) : NoAttr K (He.ga K "Reader") "place" := He.noat_ok (z.f.fact 118 (f := .noat "Reader" "place") rfl)
theorem me_Reader_take (z : Z K mg) : Meth K (He.ga K "Reader") "take" (He.ma K (He.ga K "Reader") "take") := He.meth_ok (z.f.fact 119 (f := .meth "Reader" "take") rfl)
theorem me_Reader_u8 (z : Z K mg) : Meth K (He.ga K "Reader") "u8" (He.ma K (He.ga K "Reader") "u8") := He.meth_ok (z.f.fact 120 (f := .meth "Reader" "u8") rfl)
theorem me_Reader_u16 (z : Z K mg) : Meth K (He.ga K "Reader") "u16" (He.ma K (He.ga K "Reader") "u16") := He.meth_ok (z.f.fact 121 (f := .meth "Reader" "u16") rfl)
theorem me_Reader_part (z : Z K mg) : Meth K (He.ga K "Reader") "part" (He.ma K (He.ga K "Reader") "part") := He.meth_ok (z.f.fact 122 (f := .meth "Reader" "part") rfl)
theorem cl_Draft (z : Z K mg) : Cls K (He.ga K "Draft") := He.cls_ok (z.f.fact 123 (f := .cls "Draft") rfl)
theorem mk_Draft (z : Z K mg) : Mk K (He.ga K "Draft") (He.ma K (He.ga K "Draft") "__init__") := He.mkr_ok (z.f.fact 124 (f := .mkr "Draft") rfl)
theorem na_Draft_names (z : Z K mg) : NoAttr K (He.ga K "Draft") "names" := He.noat_ok (z.f.fact 125 (f := .noat "Draft" "names") rfl)
theorem na_Draft_rooms (z : Z K mg) : NoAttr K (He.ga K "Draft") "rooms" := He.noat_ok (z.f.fact 126 (f := .noat "Draft" "rooms") rfl)
theorem na_Draft_customers (z : Z K mg) : NoAttr K (He.ga K "Draft") "customers" := He.noat_ok (z.f.fact 127 (f := .noat "Draft" "customers") rfl)
theorem na_Draft_stocker (z : Z K mg) : NoAttr K (He.ga K "Draft") "stocker" := He.noat_ok (z.f.fact 128 (f := .noat "Draft" "stocker") rfl)
theorem cl_Round (z : Z K mg) : Cls K (He.ga K "Round") := He.cls_ok (z.f.fact 129 (f := .cls "Round") rfl)
theorem mk_Round (z : Z K mg) : Mk K (He.ga K "Round") (He.ma K (He.ga K "Round") "__init__") := He.mkr_ok (z.f.fact 130 (f := .mkr "Round") rfl)
theorem na_Round_shop (z : Z K mg) : NoAttr K (He.ga K "Round") "shop" := He.noat_ok (z.f.fact 131 (f := .noat "Round" "shop") rfl)
theorem na_Round_stock (z : Z K mg) : NoAttr K (He.ga K "Round") "stock" := He.noat_ok (z.f.fact 132 (f := .noat "Round" "stock") rfl)
theorem na_Round_selling (z : Z K mg) : NoAttr K (He.ga K "Round") "selling" := He.noat_ok (z.f.fact 133 (f := .noat "Round" "selling") rfl)
theorem na_Round_past (z : Z K mg) : NoAttr K (He.ga K "Round") "past" := He.noat_ok (z.f.fact 134 (f := .noat "Round" "past") rfl)
theorem me_Round_check_items (z : Z K mg) : Meth K (He.ga K "Round") "check_items" (He.ma K (He.ga K "Round") "check_items") := He.meth_ok (z.f.fact 135 (f := .meth "Round" "check_items") rfl)
theorem me_Round_fill (z : Z K mg) : Meth K (He.ga K "Round") "fill" (He.ma K (He.ga K "Round") "fill") := He.meth_ok (z.f.fact 136 (f := .meth "Round" "fill") rfl)
theorem me_Round_sell (z : Z K mg) : Meth K (He.ga K "Round") "sell" (He.ma K (He.ga K "Round") "sell") := He.meth_ok (z.f.fact 137 (f := .meth "Round" "sell") rfl)
theorem me_Round_step (z : Z K mg) : Meth K (He.ga K "Round") "step" (He.ma K (He.ga K "Round") "step") := He.meth_ok (z.f.fact 138 (f := .meth "Round" "step") rfl)
theorem me_Round_undo (z : Z K mg) : Meth K (He.ga K "Round") "undo" (He.ma K (He.ga K "Round") "undo") := He.meth_ok (z.f.fact 139 (f := .meth "Round" "undo") rfl)
theorem me_Round_outlook (z : Z K mg) : Meth K (He.ga K "Round") "outlook" (He.ma K (He.ga K "Round") "outlook") := He.meth_ok (z.f.fact 140 (f := .meth "Round" "outlook") rfl)
theorem cl_Session (z : Z K mg) : Cls K (He.ga K "Session") := He.cls_ok (z.f.fact 141 (f := .cls "Session") rfl)
theorem mk_Session (z : Z K mg) : Mk K (He.ga K "Session") (He.ma K (He.ga K "Session") "__init__") := He.mkr_ok (z.f.fact 142 (f := .mkr "Session") rfl)
theorem na_Session_seats (z : Z K mg) : NoAttr K (He.ga K "Session") "seats" := He.noat_ok (z.f.fact 143 (f := .noat "Session" "seats") rfl)
theorem me_Session_answer (z : Z K mg) : Meth K (He.ga K "Session") "answer" (He.ma K (He.ga K "Session") "answer") := He.meth_ok (z.f.fact 144 (f := .meth "Session" "answer") rfl)
theorem me_Session_call (z : Z K mg) : Meth K (He.ga K "Session") "call" (He.ma K (He.ga K "Session") "call") := He.meth_ok (z.f.fact 145 (f := .meth "Session" "call") rfl)
theorem f_Refusal_init (z : Z K mg) : ∃ fd, FunD K "__init__" "Refusal.__init__" (defArgs s_Refusal_init) (defBody s_Refusal_init) (defScope s_Refusal_init) [] [] (He.ma K (He.ga K "Refusal") "__init__") fd ∧ Binds K fd ["self", "number", "behind"] [] := by
  obtain ⟨fd, F⟩ := z.f.def_ 0 (d := d_Refusal_init) rfl
  exact ⟨fd, F, FunD.bindsN (ps := ["self", "number", "behind"]) F fun _ _ _ _ _ _ us hl => match us, hl with | [_, _, _], _ => rfl⟩
theorem f_Malformed_init (z : Z K mg) : ∃ fd, FunD K "__init__" "Malformed.__init__" (defArgs s_Malformed_init) (defBody s_Malformed_init) (defScope s_Malformed_init) [] [] (He.ma K (He.ga K "Malformed") "__init__") fd ∧ Binds K fd ["self"] [] := by
  obtain ⟨fd, F⟩ := z.f.def_ 1 (d := d_Malformed_init) rfl
  exact ⟨fd, F, FunD.bindsN (ps := ["self"]) F fun _ _ _ _ _ _ us hl => match us, hl with | [_], _ => rfl⟩
theorem f_TextTooLong_init (z : Z K mg) : ∃ fd, FunD K "__init__" "TextTooLong.__init__" (defArgs s_TextTooLong_init) (defBody s_TextTooLong_init) (defScope s_TextTooLong_init) [] [] (He.ma K (He.ga K "TextTooLong") "__init__") fd ∧ Binds K fd ["self"] [] := by
  obtain ⟨fd, F⟩ := z.f.def_ 2 (d := d_TextTooLong_init) rfl
  exact ⟨fd, F, FunD.bindsN (ps := ["self"]) F fun _ _ _ _ _ _ us hl => match us, hl with | [_], _ => rfl⟩
theorem f_InvalidLine_init (z : Z K mg) : ∃ fd, FunD K "__init__" "InvalidLine.__init__" (defArgs s_InvalidLine_init) (defBody s_InvalidLine_init) (defScope s_InvalidLine_init) [] [] (He.ma K (He.ga K "InvalidLine") "__init__") fd ∧ Binds K fd ["self", "line"] [] := by
  obtain ⟨fd, F⟩ := z.f.def_ 3 (d := d_InvalidLine_init) rfl
  exact ⟨fd, F, FunD.bindsN (ps := ["self", "line"]) F fun _ _ _ _ _ _ us hl => match us, hl with | [_, _], _ => rfl⟩
theorem f_NoStock_init (z : Z K mg) : ∃ fd, FunD K "__init__" "NoStock.__init__" (defArgs s_NoStock_init) (defBody s_NoStock_init) (defScope s_NoStock_init) [] [] (He.ma K (He.ga K "NoStock") "__init__") fd ∧ Binds K fd ["self"] [] := by
  obtain ⟨fd, F⟩ := z.f.def_ 4 (d := d_NoStock_init) rfl
  exact ⟨fd, F, FunD.bindsN (ps := ["self"]) F fun _ _ _ _ _ _ us hl => match us, hl with | [_], _ => rfl⟩
theorem f_NoItems_init (z : Z K mg) : ∃ fd, FunD K "__init__" "NoItems.__init__" (defArgs s_NoItems_init) (defBody s_NoItems_init) (defScope s_NoItems_init) [] [] (He.ma K (He.ga K "NoItems") "__init__") fd ∧ Binds K fd ["self"] [] := by
  obtain ⟨fd, F⟩ := z.f.def_ 5 (d := d_NoItems_init) rfl
  exact ⟨fd, F, FunD.bindsN (ps := ["self"]) F fun _ _ _ _ _ _ us hl => match us, hl with | [_], _ => rfl⟩
theorem f_OtherShelves_init (z : Z K mg) : ∃ fd, FunD K "__init__" "OtherShelves.__init__" (defArgs s_OtherShelves_init) (defBody s_OtherShelves_init) (defScope s_OtherShelves_init) [] [] (He.ma K (He.ga K "OtherShelves") "__init__") fd ∧ Binds K fd ["self"] [] := by
  obtain ⟨fd, F⟩ := z.f.def_ 6 (d := d_OtherShelves_init) rfl
  exact ⟨fd, F, FunD.bindsN (ps := ["self"]) F fun _ _ _ _ _ _ us hl => match us, hl with | [_], _ => rfl⟩
theorem f_NoRound_init (z : Z K mg) : ∃ fd, FunD K "__init__" "NoRound.__init__" (defArgs s_NoRound_init) (defBody s_NoRound_init) (defScope s_NoRound_init) [] [] (He.ma K (He.ga K "NoRound") "__init__") fd ∧ Binds K fd ["self"] [] := by
  obtain ⟨fd, F⟩ := z.f.def_ 7 (d := d_NoRound_init) rfl
  exact ⟨fd, F, FunD.bindsN (ps := ["self"]) F fun _ _ _ _ _ _ us hl => match us, hl with | [_], _ => rfl⟩
theorem f_ShopIsOpen_init (z : Z K mg) : ∃ fd, FunD K "__init__" "ShopIsOpen.__init__" (defArgs s_ShopIsOpen_init) (defBody s_ShopIsOpen_init) (defScope s_ShopIsOpen_init) [] [] (He.ma K (He.ga K "ShopIsOpen") "__init__") fd ∧ Binds K fd ["self"] [] := by
  obtain ⟨fd, F⟩ := z.f.def_ 8 (d := d_ShopIsOpen_init) rfl
  exact ⟨fd, F, FunD.bindsN (ps := ["self"]) F fun _ _ _ _ _ _ us hl => match us, hl with | [_], _ => rfl⟩
theorem f_NoFilling_init (z : Z K mg) : ∃ fd, FunD K "__init__" "NoFilling.__init__" (defArgs s_NoFilling_init) (defBody s_NoFilling_init) (defScope s_NoFilling_init) [] [] (He.ma K (He.ga K "NoFilling") "__init__") fd ∧ Binds K fd ["self"] [] := by
  obtain ⟨fd, F⟩ := z.f.def_ 9 (d := d_NoFilling_init) rfl
  exact ⟨fd, F, FunD.bindsN (ps := ["self"]) F fun _ _ _ _ _ _ us hl => match us, hl with | [_], _ => rfl⟩
theorem f_StepsSpent_init (z : Z K mg) : ∃ fd, FunD K "__init__" "StepsSpent.__init__" (defArgs s_StepsSpent_init) (defBody s_StepsSpent_init) (defScope s_StepsSpent_init) [] [] (He.ma K (He.ga K "StepsSpent") "__init__") fd ∧ Binds K fd ["self"] [] := by
  obtain ⟨fd, F⟩ := z.f.def_ 10 (d := d_StepsSpent_init) rfl
  exact ⟨fd, F, FunD.bindsN (ps := ["self"]) F fun _ _ _ _ _ _ us hl => match us, hl with | [_], _ => rfl⟩
theorem f_ShopIsClosed_init (z : Z K mg) : ∃ fd, FunD K "__init__" "ShopIsClosed.__init__" (defArgs s_ShopIsClosed_init) (defBody s_ShopIsClosed_init) (defScope s_ShopIsClosed_init) [] [] (He.ma K (He.ga K "ShopIsClosed") "__init__") fd ∧ Binds K fd ["self"] [] := by
  obtain ⟨fd, F⟩ := z.f.def_ 11 (d := d_ShopIsClosed_init) rfl
  exact ⟨fd, F, FunD.bindsN (ps := ["self"]) F fun _ _ _ _ _ _ us hl => match us, hl with | [_], _ => rfl⟩
theorem f_NoTaking_init (z : Z K mg) : ∃ fd, FunD K "__init__" "NoTaking.__init__" (defArgs s_NoTaking_init) (defBody s_NoTaking_init) (defScope s_NoTaking_init) [] [] (He.ma K (He.ga K "NoTaking") "__init__") fd ∧ Binds K fd ["self"] [] := by
  obtain ⟨fd, F⟩ := z.f.def_ 12 (d := d_NoTaking_init) rfl
  exact ⟨fd, F, FunD.bindsN (ps := ["self"]) F fun _ _ _ _ _ _ us hl => match us, hl with | [_], _ => rfl⟩
theorem f_ShelfFoundEmpty_init (z : Z K mg) : ∃ fd, FunD K "__init__" "ShelfFoundEmpty.__init__" (defArgs s_ShelfFoundEmpty_init) (defBody s_ShelfFoundEmpty_init) (defScope s_ShelfFoundEmpty_init) [] [] (He.ma K (He.ga K "ShelfFoundEmpty") "__init__") fd ∧ Binds K fd ["self"] [] := by
  obtain ⟨fd, F⟩ := z.f.def_ 13 (d := d_ShelfFoundEmpty_init) rfl
  exact ⟨fd, F, FunD.bindsN (ps := ["self"]) F fun _ _ _ _ _ _ us hl => match us, hl with | [_], _ => rfl⟩
theorem f_Shop_init (z : Z K mg) : ∃ fd, FunD K "__init__" "Shop.__init__" (defArgs s_Shop_init) (defBody s_Shop_init) (defScope s_Shop_init) [] [] (He.ma K (He.ga K "Shop") "__init__") fd ∧ Binds K fd ["self", "names", "rooms", "wanted", "wanted_of_one", "put", "onto"] [] := by
  obtain ⟨fd, F⟩ := z.f.def_ 14 (d := d_Shop_init) rfl
  exact ⟨fd, F, FunD.bindsN (ps := ["self", "names", "rooms", "wanted", "wanted_of_one", "put", "onto"]) F fun _ _ _ _ _ _ us hl => match us, hl with | [_, _, _, _, _, _, _], _ => rfl⟩
theorem f_resized (z : Z K mg) : ∃ fd, FunD K "resized" "resized" (defArgs s_resized) (defBody s_resized) (defScope s_resized) [] [] (He.ga K "resized") fd ∧ Binds K fd ["shop", "put", "onto"] [] := by
  obtain ⟨fd, F⟩ := z.f.def_ 15 (d := d_resized) rfl
  exact ⟨fd, F, FunD.bindsN (ps := ["shop", "put", "onto"]) F fun _ _ _ _ _ _ us hl => match us, hl with | [_, _, _], _ => rfl⟩
theorem f_octets_of (z : Z K mg) : ∃ fd, FunD K "octets_of" "octets_of" (defArgs s_octets_of) (defBody s_octets_of) (defScope s_octets_of) [] [] (He.ga K "octets_of") fd ∧ Binds K fd ["word"] [] := by
  obtain ⟨fd, F⟩ := z.f.def_ 16 (d := d_octets_of) rfl
  exact ⟨fd, F, FunD.bindsN (ps := ["word"]) F fun _ _ _ _ _ _ us hl => match us, hl with | [_], _ => rfl⟩
theorem f_canonical_text (z : Z K mg) : ∃ fd, FunD K "canonical_text" "canonical_text" (defArgs s_canonical_text) (defBody s_canonical_text) (defScope s_canonical_text) [] [] (He.ga K "canonical_text") fd ∧ Binds K fd ["shop"] [] := by
  obtain ⟨fd, F⟩ := z.f.def_ 17 (d := d_canonical_text) rfl
  exact ⟨fd, F, FunD.bindsN (ps := ["shop"]) F fun _ _ _ _ _ _ us hl => match us, hl with | [_], _ => rfl⟩
theorem f_joined (z : Z K mg) : ∃ fd, FunD K "joined" "joined" (defArgs s_joined) (defBody s_joined) (defScope s_joined) [] [] (He.ga K "joined") fd ∧ Binds K fd ["pieces", "divider"] [] := by
  obtain ⟨fd, F⟩ := z.f.def_ 18 (d := d_joined) rfl
  exact ⟨fd, F, FunD.bindsN (ps := ["pieces", "divider"]) F fun _ _ _ _ _ _ us hl => match us, hl with | [_, _], _ => rfl⟩
theorem f_choices (z : Z K mg) : ∃ fd, FunD K "choices" "choices" (defArgs s_choices) (defBody s_choices) (defScope s_choices) [] [] (He.ga K "choices") fd ∧ Binds K fd ["tops", "most", "onto"] [] := by
  obtain ⟨fd, F⟩ := z.f.def_ 19 (d := d_choices) rfl
  exact ⟨fd, F, FunD.bindsN (ps := ["tops", "most", "onto"]) F fun _ _ _ _ _ _ us hl => match us, hl with | [_, _, _], _ => rfl⟩
theorem f_highest_next (z : Z K mg) : ∃ fd, FunD K "highest_next" "highest_next" (defArgs s_highest_next) (defBody s_highest_next) (defScope s_highest_next) [] [] (He.ga K "highest_next") fd ∧ Binds K fd ["row", "top", "most", "onto"] [] := by
  obtain ⟨fd, F⟩ := z.f.def_ 20 (d := d_highest_next) rfl
  exact ⟨fd, F, FunD.bindsN (ps := ["row", "top", "most", "onto"]) F fun _ _ _ _ _ _ us hl => match us, hl with | [_, _, _, _], _ => rfl⟩
theorem f_stocks_of (z : Z K mg) : ∃ fd, FunD K "stocks_of" "stocks_of" (defArgs s_stocks_of) (defBody s_stocks_of) (defScope s_stocks_of) [] [] (He.ga K "stocks_of") fd ∧ Binds K fd ["shop"] [] := by
  obtain ⟨fd, F⟩ := z.f.def_ 21 (d := d_stocks_of) rfl
  exact ⟨fd, F, FunD.bindsN (ps := ["shop"]) F fun _ _ _ _ _ _ us hl => match us, hl with | [_], _ => rfl⟩
theorem f_full_stock (z : Z K mg) : ∃ fd, FunD K "full_stock" "full_stock" (defArgs s_full_stock) (defBody s_full_stock) (defScope s_full_stock) [] [] (He.ga K "full_stock") fd ∧ Binds K fd ["shop"] [] := by
  obtain ⟨fd, F⟩ := z.f.def_ 22 (d := d_full_stock) rfl
  exact ⟨fd, F, FunD.bindsN (ps := ["shop"]) F fun _ _ _ _ _ _ us hl => match us, hl with | [_], _ => rfl⟩
theorem f_fillings_of (z : Z K mg) : ∃ fd, FunD K "fillings_of" "fillings_of" (defArgs s_fillings_of) (defBody s_fillings_of) (defScope s_fillings_of) [] [] (He.ga K "fillings_of") fd ∧ Binds K fd ["shop", "stock"] [] := by
  obtain ⟨fd, F⟩ := z.f.def_ 23 (d := d_fillings_of) rfl
  exact ⟨fd, F, FunD.bindsN (ps := ["shop", "stock"]) F fun _ _ _ _ _ _ us hl => match us, hl with | [_, _], _ => rfl⟩
theorem f_takings_of (z : Z K mg) : ∃ fd, FunD K "takings_of" "takings_of" (defArgs s_takings_of) (defBody s_takings_of) (defScope s_takings_of) [] [] (He.ga K "takings_of") fd ∧ Binds K fd ["shop"] [] := by
  obtain ⟨fd, F⟩ := z.f.def_ 24 (d := d_takings_of) rfl
  exact ⟨fd, F, FunD.bindsN (ps := ["shop"]) F fun _ _ _ _ _ _ us hl => match us, hl with | [_], _ => rfl⟩
theorem f_is_below (z : Z K mg) : ∃ fd, FunD K "is_below" "is_below" (defArgs s_is_below) (defBody s_is_below) (defScope s_is_below) [] [] (He.ga K "is_below") fd ∧ Binds K fd ["row", "other"] [] := by
  obtain ⟨fd, F⟩ := z.f.def_ 25 (d := d_is_below) rfl
  exact ⟨fd, F, FunD.bindsN (ps := ["row", "other"]) F fun _ _ _ _ _ _ us hl => match us, hl with | [_, _], _ => rfl⟩
theorem f_added (z : Z K mg) : ∃ fd, FunD K "added" "added" (defArgs s_added) (defBody s_added) (defScope s_added) [] [] (He.ga K "added") fd ∧ Binds K fd ["stock", "items"] [] := by
  obtain ⟨fd, F⟩ := z.f.def_ 26 (d := d_added) rfl
  exact ⟨fd, F, FunD.bindsN (ps := ["stock", "items"]) F fun _ _ _ _ _ _ us hl => match us, hl with | [_, _], _ => rfl⟩
theorem f_taken (z : Z K mg) : ∃ fd, FunD K "taken" "taken" (defArgs s_taken) (defBody s_taken) (defScope s_taken) [] [] (He.ga K "taken") fd ∧ Binds K fd ["stock", "items"] [] := by
  obtain ⟨fd, F⟩ := z.f.def_ 27 (d := d_taken) rfl
  exact ⟨fd, F, FunD.bindsN (ps := ["stock", "items"]) F fun _ _ _ _ _ _ us hl => match us, hl with | [_, _], _ => rfl⟩
theorem f_dooms (z : Z K mg) : ∃ fd, FunD K "dooms" "dooms" (defArgs s_dooms) (defBody s_dooms) (defScope s_dooms) [] [] (He.ga K "dooms") fd ∧ Binds K fd ["shop"] [] := by
  obtain ⟨fd, F⟩ := z.f.def_ 28 (d := d_dooms) rfl
  exact ⟨fd, F, FunD.bindsN (ps := ["shop"]) F fun _ _ _ _ _ _ us hl => match us, hl with | [_], _ => rfl⟩
theorem f_stocks_left (z : Z K mg) : ∃ fd, FunD K "stocks_left" "stocks_left" (defArgs s_stocks_left) (defBody s_stocks_left) (defScope s_stocks_left) [] [] (He.ga K "stocks_left") fd ∧ Binds K fd ["stock", "takings"] [] := by
  obtain ⟨fd, F⟩ := z.f.def_ 29 (d := d_stocks_left) rfl
  exact ⟨fd, F, FunD.bindsN (ps := ["stock", "takings"]) F fun _ _ _ _ _ _ us hl => match us, hl with | [_, _], _ => rfl⟩
theorem f_newly_doomed (z : Z K mg) : ∃ fd, FunD K "newly_doomed" "newly_doomed" (defArgs s_newly_doomed) (defBody s_newly_doomed) (defScope s_newly_doomed) [] [] (He.ga K "newly_doomed") fd ∧ Binds K fd ["filled", "left", "doomed"] [] := by
  obtain ⟨fd, F⟩ := z.f.def_ 30 (d := d_newly_doomed) rfl
  exact ⟨fd, F, FunD.bindsN (ps := ["filled", "left", "doomed"]) F fun _ _ _ _ _ _ us hl => match us, hl with | [_, _, _], _ => rfl⟩
theorem f_is_firm (z : Z K mg) : ∃ fd, FunD K "is_firm" "is_firm" (defArgs s_is_firm) (defBody s_is_firm) (defScope s_is_firm) [] [] (He.ga K "is_firm") fd ∧ Binds K fd ["left", "doomed"] [] := by
  obtain ⟨fd, F⟩ := z.f.def_ 31 (d := d_is_firm) rfl
  exact ⟨fd, F, FunD.bindsN (ps := ["left", "doomed"]) F fun _ _ _ _ _ _ us hl => match us, hl with | [_, _], _ => rfl⟩
theorem f_has_any (z : Z K mg) : ∃ fd, FunD K "has_any" "has_any" (defArgs s_has_any) (defBody s_has_any) (defScope s_has_any) [] [] (He.ga K "has_any") fd ∧ Binds K fd ["marked", "stocks"] [] := by
  obtain ⟨fd, F⟩ := z.f.def_ 32 (d := d_has_any) rfl
  exact ⟨fd, F, FunD.bindsN (ps := ["marked", "stocks"]) F fun _ _ _ _ _ _ us hl => match us, hl with | [_, _], _ => rfl⟩
theorem f_holds (z : Z K mg) : ∃ fd, FunD K "holds" "holds" (defArgs s_holds) (defBody s_holds) (defScope s_holds) [] [] (He.ga K "holds") fd ∧ Binds K fd ["shop", "doomed", "stock"] [] := by
  obtain ⟨fd, F⟩ := z.f.def_ 33 (d := d_holds) rfl
  exact ⟨fd, F, FunD.bindsN (ps := ["shop", "doomed", "stock"]) F fun _ _ _ _ _ _ us hl => match us, hl with | [_, _, _], _ => rfl⟩
theorem f_first_filling (z : Z K mg) : ∃ fd, FunD K "first_filling" "first_filling" (defArgs s_first_filling) (defBody s_first_filling) (defScope s_first_filling) [] [] (He.ga K "first_filling") fd ∧ Binds K fd ["shop", "doomed", "stock"] [] := by
  obtain ⟨fd, F⟩ := z.f.def_ 34 (d := d_first_filling) rfl
  exact ⟨fd, F, FunD.bindsN (ps := ["shop", "doomed", "stock"]) F fun _ _ _ _ _ _ us hl => match us, hl with | [_, _, _], _ => rfl⟩
theorem f_first_attack (z : Z K mg) : ∃ fd, FunD K "first_attack" "first_attack" (defArgs s_first_attack) (defBody s_first_attack) (defScope s_first_attack) [] [] (He.ga K "first_attack") fd ∧ Binds K fd ["shop", "doomed", "stock"] [] := by
  obtain ⟨fd, F⟩ := z.f.def_ 35 (d := d_first_attack) rfl
  exact ⟨fd, F, FunD.bindsN (ps := ["shop", "doomed", "stock"]) F fun _ _ _ _ _ _ us hl => match us, hl with | [_, _, _], _ => rfl⟩
theorem f_least_stocks (z : Z K mg) : ∃ fd, FunD K "least_stocks" "least_stocks" (defArgs s_least_stocks) (defBody s_least_stocks) (defScope s_least_stocks) [] [] (He.ga K "least_stocks") fd ∧ Binds K fd ["shop", "doomed"] [] := by
  obtain ⟨fd, F⟩ := z.f.def_ 36 (d := d_least_stocks) rfl
  exact ⟨fd, F, FunD.bindsN (ps := ["shop", "doomed"]) F fun _ _ _ _ _ _ us hl => match us, hl with | [_, _], _ => rfl⟩
theorem f_keeps_full (z : Z K mg) : ∃ fd, FunD K "keeps_full" "keeps_full" (defArgs s_keeps_full) (defBody s_keeps_full) (defScope s_keeps_full) [] [] (He.ga K "keeps_full") fd ∧ Binds K fd ["shop"] [] := by
  obtain ⟨fd, F⟩ := z.f.def_ 37 (d := d_keeps_full) rfl
  exact ⟨fd, F, FunD.bindsN (ps := ["shop"]) F fun _ _ _ _ _ _ us hl => match us, hl with | [_], _ => rfl⟩
theorem f_fewest_put (z : Z K mg) : ∃ fd, FunD K "fewest_put" "fewest_put" (defArgs s_fewest_put) (defBody s_fewest_put) (defScope s_fewest_put) [] [] (He.ga K "fewest_put") fd ∧ Binds K fd ["shop"] [] := by
  obtain ⟨fd, F⟩ := z.f.def_ 38 (d := d_fewest_put) rfl
  exact ⟨fd, F, FunD.bindsN (ps := ["shop"]) F fun _ _ _ _ _ _ us hl => match us, hl with | [_], _ => rfl⟩
theorem f_fewest_onto (z : Z K mg) : ∃ fd, FunD K "fewest_onto" "fewest_onto" (defArgs s_fewest_onto) (defBody s_fewest_onto) (defScope s_fewest_onto) [] [] (He.ga K "fewest_onto") fd ∧ Binds K fd ["shop"] [] := by
  obtain ⟨fd, F⟩ := z.f.def_ 39 (d := d_fewest_onto) rfl
  exact ⟨fd, F, FunD.bindsN (ps := ["shop"]) F fun _ _ _ _ _ _ us hl => match us, hl with | [_], _ => rfl⟩
theorem f_first_parting (z : Z K mg) : ∃ fd, FunD K "first_parting" "first_parting" (defArgs s_first_parting) (defBody s_first_parting) (defScope s_first_parting) [] [] (He.ga K "first_parting") fd ∧ Binds K fd ["shop", "other"] [] := by
  obtain ⟨fd, F⟩ := z.f.def_ 40 (d := d_first_parting) rfl
  exact ⟨fd, F, FunD.bindsN (ps := ["shop", "other"]) F fun _ _ _ _ _ _ us hl => match us, hl with | [_, _], _ => rfl⟩
theorem f_Reader_init (z : Z K mg) : ∃ fd, FunD K "__init__" "Reader.__init__" (defArgs s_Reader_init) (defBody s_Reader_init) (defScope s_Reader_init) [] [] (He.ma K (He.ga K "Reader") "__init__") fd ∧ Binds K fd ["self", "octets"] [] := by
  obtain ⟨fd, F⟩ := z.f.def_ 41 (d := d_Reader_init) rfl
  exact ⟨fd, F, FunD.bindsN (ps := ["self", "octets"]) F fun _ _ _ _ _ _ us hl => match us, hl with | [_, _], _ => rfl⟩
theorem f_Reader_take (z : Z K mg) : ∃ fd, FunD K "take" "Reader.take" (defArgs s_Reader_take) (defBody s_Reader_take) (defScope s_Reader_take) [] [] (He.ma K (He.ga K "Reader") "take") fd ∧ Binds K fd ["self", "count"] [] := by
  obtain ⟨fd, F⟩ := z.f.def_ 42 (d := d_Reader_take) rfl
  exact ⟨fd, F, FunD.bindsN (ps := ["self", "count"]) F fun _ _ _ _ _ _ us hl => match us, hl with | [_, _], _ => rfl⟩
theorem f_Reader_u8 (z : Z K mg) : ∃ fd, FunD K "u8" "Reader.u8" (defArgs s_Reader_u8) (defBody s_Reader_u8) (defScope s_Reader_u8) [] [] (He.ma K (He.ga K "Reader") "u8") fd ∧ Binds K fd ["self"] [] := by
  obtain ⟨fd, F⟩ := z.f.def_ 43 (d := d_Reader_u8) rfl
  exact ⟨fd, F, FunD.bindsN (ps := ["self"]) F fun _ _ _ _ _ _ us hl => match us, hl with | [_], _ => rfl⟩
theorem f_Reader_u16 (z : Z K mg) : ∃ fd, FunD K "u16" "Reader.u16" (defArgs s_Reader_u16) (defBody s_Reader_u16) (defScope s_Reader_u16) [] [] (He.ma K (He.ga K "Reader") "u16") fd ∧ Binds K fd ["self"] [] := by
  obtain ⟨fd, F⟩ := z.f.def_ 44 (d := d_Reader_u16) rfl
  exact ⟨fd, F, FunD.bindsN (ps := ["self"]) F fun _ _ _ _ _ _ us hl => match us, hl with | [_], _ => rfl⟩
theorem f_Reader_part (z : Z K mg) : ∃ fd, FunD K "part" "Reader.part" (defArgs s_Reader_part) (defBody s_Reader_part) (defScope s_Reader_part) [] [] (He.ma K (He.ga K "Reader") "part") fd ∧ Binds K fd ["self", "kind"] [] := by
  obtain ⟨fd, F⟩ := z.f.def_ 45 (d := d_Reader_part) rfl
  exact ⟨fd, F, FunD.bindsN (ps := ["self", "kind"]) F fun _ _ _ _ _ _ us hl => match us, hl with | [_, _], _ => rfl⟩
theorem f_kinds_of (z : Z K mg) : ∃ fd, FunD K "kinds_of" "kinds_of" (defArgs s_kinds_of) (defBody s_kinds_of) (defScope s_kinds_of) [] [] (He.ga K "kinds_of") fd ∧ Binds K fd ["number"] [] := by
  obtain ⟨fd, F⟩ := z.f.def_ 46 (d := d_kinds_of) rfl
  exact ⟨fd, F, FunD.bindsN (ps := ["number"]) F fun _ _ _ _ _ _ us hl => match us, hl with | [_], _ => rfl⟩
theorem f_take_apart (z : Z K mg) : ∃ fd, FunD K "take_apart" "take_apart" (defArgs s_take_apart) (defBody s_take_apart) (defScope s_take_apart) [] [] (He.ga K "take_apart") fd ∧ Binds K fd ["request"] [] := by
  obtain ⟨fd, F⟩ := z.f.def_ 47 (d := d_take_apart) rfl
  exact ⟨fd, F, FunD.bindsN (ps := ["request"]) F fun _ _ _ _ _ _ us hl => match us, hl with | [_], _ => rfl⟩
theorem f_write_flag (z : Z K mg) : ∃ fd, FunD K "write_flag" "write_flag" (defArgs s_write_flag) (defBody s_write_flag) (defScope s_write_flag) [] [] (He.ga K "write_flag") fd ∧ Binds K fd ["yes"] [] := by
  obtain ⟨fd, F⟩ := z.f.def_ 48 (d := d_write_flag) rfl
  exact ⟨fd, F, FunD.bindsN (ps := ["yes"]) F fun _ _ _ _ _ _ us hl => match us, hl with | [_], _ => rfl⟩
theorem f_write_u16 (z : Z K mg) : ∃ fd, FunD K "write_u16" "write_u16" (defArgs s_write_u16) (defBody s_write_u16) (defScope s_write_u16) [] [] (He.ga K "write_u16") fd ∧ Binds K fd ["number"] [] := by
  obtain ⟨fd, F⟩ := z.f.def_ 49 (d := d_write_u16) rfl
  exact ⟨fd, F, FunD.bindsN (ps := ["number"]) F fun _ _ _ _ _ _ us hl => match us, hl with | [_], _ => rfl⟩
theorem f_write_text (z : Z K mg) : ∃ fd, FunD K "write_text" "write_text" (defArgs s_write_text) (defBody s_write_text) (defScope s_write_text) [] [] (He.ga K "write_text") fd ∧ Binds K fd ["octets"] [] := by
  obtain ⟨fd, F⟩ := z.f.def_ 50 (d := d_write_text) rfl
  exact ⟨fd, F, FunD.bindsN (ps := ["octets"]) F fun _ _ _ _ _ _ us hl => match us, hl with | [_], _ => rfl⟩
theorem f_write_row (z : Z K mg) : ∃ fd, FunD K "write_row" "write_row" (defArgs s_write_row) (defBody s_write_row) (defScope s_write_row) [] [] (He.ga K "write_row") fd ∧ Binds K fd ["row"] [] := by
  obtain ⟨fd, F⟩ := z.f.def_ 51 (d := d_write_row) rfl
  exact ⟨fd, F, FunD.bindsN (ps := ["row"]) F fun _ _ _ _ _ _ us hl => match us, hl with | [_], _ => rfl⟩
theorem f_write_rows (z : Z K mg) : ∃ fd, FunD K "write_rows" "write_rows" (defArgs s_write_rows) (defBody s_write_rows) (defScope s_write_rows) [] [] (He.ga K "write_rows") fd ∧ Binds K fd ["rows"] [] := by
  obtain ⟨fd, F⟩ := z.f.def_ 52 (d := d_write_rows) rfl
  exact ⟨fd, F, FunD.bindsN (ps := ["rows"]) F fun _ _ _ _ _ _ us hl => match us, hl with | [_], _ => rfl⟩
theorem f_write_maybe_row (z : Z K mg) : ∃ fd, FunD K "write_maybe_row" "write_maybe_row" (defArgs s_write_maybe_row) (defBody s_write_maybe_row) (defScope s_write_maybe_row) [] [] (He.ga K "write_maybe_row") fd ∧ Binds K fd ["row"] [] := by
  obtain ⟨fd, F⟩ := z.f.def_ 53 (d := d_write_maybe_row) rfl
  exact ⟨fd, F, FunD.bindsN (ps := ["row"]) F fun _ _ _ _ _ _ us hl => match us, hl with | [_], _ => rfl⟩
theorem f_write_maybe_u8 (z : Z K mg) : ∃ fd, FunD K "write_maybe_u8" "write_maybe_u8" (defArgs s_write_maybe_u8) (defBody s_write_maybe_u8) (defScope s_write_maybe_u8) [] [] (He.ga K "write_maybe_u8") fd ∧ Binds K fd ["number"] [] := by
  obtain ⟨fd, F⟩ := z.f.def_ 54 (d := d_write_maybe_u8) rfl
  exact ⟨fd, F, FunD.bindsN (ps := ["number"]) F fun _ _ _ _ _ _ us hl => match us, hl with | [_], _ => rfl⟩
theorem f_write_maybe_u16 (z : Z K mg) : ∃ fd, FunD K "write_maybe_u16" "write_maybe_u16" (defArgs s_write_maybe_u16) (defBody s_write_maybe_u16) (defScope s_write_maybe_u16) [] [] (He.ga K "write_maybe_u16") fd ∧ Binds K fd ["number"] [] := by
  obtain ⟨fd, F⟩ := z.f.def_ 55 (d := d_write_maybe_u16) rfl
  exact ⟨fd, F, FunD.bindsN (ps := ["number"]) F fun _ _ _ _ _ _ us hl => match us, hl with | [_], _ => rfl⟩
theorem f_Draft_init (z : Z K mg) : ∃ fd, FunD K "__init__" "Draft.__init__" (defArgs s_Draft_init) (defBody s_Draft_init) (defScope s_Draft_init) [] [] (He.ma K (He.ga K "Draft") "__init__") fd ∧ Binds K fd ["self"] [] := by
  obtain ⟨fd, F⟩ := z.f.def_ 56 (d := d_Draft_init) rfl
  exact ⟨fd, F, FunD.bindsN (ps := ["self"]) F fun _ _ _ _ _ _ us hl => match us, hl with | [_], _ => rfl⟩
theorem f_read_shop (z : Z K mg) : ∃ fd, FunD K "read_shop" "read_shop" (defArgs s_read_shop) (defBody s_read_shop) (defScope s_read_shop) [] [] (He.ga K "read_shop") fd ∧ Binds K fd ["text"] [] := by
  obtain ⟨fd, F⟩ := z.f.def_ 57 (d := d_read_shop) rfl
  exact ⟨fd, F, FunD.bindsN (ps := ["text"]) F fun _ _ _ _ _ _ us hl => match us, hl with | [_], _ => rfl⟩
theorem f_divided (z : Z K mg) : ∃ fd, FunD K "divided" "divided" (defArgs s_divided) (defBody s_divided) (defScope s_divided) [] [] (He.ga K "divided") fd ∧ Binds K fd ["octets", "divider"] [] := by
  obtain ⟨fd, F⟩ := z.f.def_ 58 (d := d_divided) rfl
  exact ⟨fd, F, FunD.bindsN (ps := ["octets", "divider"]) F fun _ _ _ _ _ _ us hl => match us, hl with | [_, _], _ => rfl⟩
theorem f_words_of (z : Z K mg) : ∃ fd, FunD K "words_of" "words_of" (defArgs s_words_of) (defBody s_words_of) (defScope s_words_of) [] [] (He.ga K "words_of") fd ∧ Binds K fd ["line"] [] := by
  obtain ⟨fd, F⟩ := z.f.def_ 59 (d := d_words_of) rfl
  exact ⟨fd, F, FunD.bindsN (ps := ["line"]) F fun _ _ _ _ _ _ us hl => match us, hl with | [_], _ => rfl⟩
theorem f_digit_of (z : Z K mg) : ∃ fd, FunD K "digit_of" "digit_of" (defArgs s_digit_of) (defBody s_digit_of) (defScope s_digit_of) [] [] (He.ga K "digit_of") fd ∧ Binds K fd ["word", "most"] [] := by
  obtain ⟨fd, F⟩ := z.f.def_ 60 (d := d_digit_of) rfl
  exact ⟨fd, F, FunD.bindsN (ps := ["word", "most"]) F fun _ _ _ _ _ _ us hl => match us, hl with | [_, _], _ => rfl⟩
theorem f_is_name (z : Z K mg) : ∃ fd, FunD K "is_name" "is_name" (defArgs s_is_name) (defBody s_is_name) (defScope s_is_name) [] [] (He.ga K "is_name") fd ∧ Binds K fd ["word"] [] := by
  obtain ⟨fd, F⟩ := z.f.def_ 61 (d := d_is_name) rfl
  exact ⟨fd, F, FunD.bindsN (ps := ["word"]) F fun _ _ _ _ _ _ us hl => match us, hl with | [_], _ => rfl⟩
theorem f_read_line (z : Z K mg) : ∃ fd, FunD K "read_line" "read_line" (defArgs s_read_line) (defBody s_read_line) (defScope s_read_line) [] [] (He.ga K "read_line") fd ∧ Binds K fd ["draft", "words"] [] := by
  obtain ⟨fd, F⟩ := z.f.def_ 62 (d := d_read_line) rfl
  exact ⟨fd, F, FunD.bindsN (ps := ["draft", "words"]) F fun _ _ _ _ _ _ us hl => match us, hl with | [_, _], _ => rfl⟩
theorem f_read_shelf (z : Z K mg) : ∃ fd, FunD K "read_shelf" "read_shelf" (defArgs s_read_shelf) (defBody s_read_shelf) (defScope s_read_shelf) [] [] (He.ga K "read_shelf") fd ∧ Binds K fd ["draft", "words"] [] := by
  obtain ⟨fd, F⟩ := z.f.def_ 63 (d := d_read_shelf) rfl
  exact ⟨fd, F, FunD.bindsN (ps := ["draft", "words"]) F fun _ _ _ _ _ _ us hl => match us, hl with | [_, _], _ => rfl⟩
theorem f_read_customers (z : Z K mg) : ∃ fd, FunD K "read_customers" "read_customers" (defArgs s_read_customers) (defBody s_read_customers) (defScope s_read_customers) [] [] (He.ga K "read_customers") fd ∧ Binds K fd ["draft", "words"] [] := by
  obtain ⟨fd, F⟩ := z.f.def_ 64 (d := d_read_customers) rfl
  exact ⟨fd, F, FunD.bindsN (ps := ["draft", "words"]) F fun _ _ _ _ _ _ us hl => match us, hl with | [_, _], _ => rfl⟩
theorem f_read_stocker (z : Z K mg) : ∃ fd, FunD K "read_stocker" "read_stocker" (defArgs s_read_stocker) (defBody s_read_stocker) (defScope s_read_stocker) [] [] (He.ga K "read_stocker") fd ∧ Binds K fd ["draft", "words"] [] := by
  obtain ⟨fd, F⟩ := z.f.def_ 65 (d := d_read_stocker) rfl
  exact ⟨fd, F, FunD.bindsN (ps := ["draft", "words"]) F fun _ _ _ _ _ _ us hl => match us, hl with | [_, _], _ => rfl⟩
theorem f_Round_init (z : Z K mg) : ∃ fd, FunD K "__init__" "Round.__init__" (defArgs s_Round_init) (defBody s_Round_init) (defScope s_Round_init) [] [] (He.ma K (He.ga K "Round") "__init__") fd ∧ Binds K fd ["self", "shop"] [] := by
  obtain ⟨fd, F⟩ := z.f.def_ 66 (d := d_Round_init) rfl
  exact ⟨fd, F, FunD.bindsN (ps := ["self", "shop"]) F fun _ _ _ _ _ _ us hl => match us, hl with | [_, _], _ => rfl⟩
theorem f_Round_check_items (z : Z K mg) : ∃ fd, FunD K "check_items" "Round.check_items" (defArgs s_Round_check_items) (defBody s_Round_check_items) (defScope s_Round_check_items) [] [] (He.ma K (He.ga K "Round") "check_items") fd ∧ Binds K fd ["self", "items"] [] := by
  obtain ⟨fd, F⟩ := z.f.def_ 67 (d := d_Round_check_items) rfl
  exact ⟨fd, F, FunD.bindsN (ps := ["self", "items"]) F fun _ _ _ _ _ _ us hl => match us, hl with | [_, _], _ => rfl⟩
theorem f_Round_fill (z : Z K mg) : ∃ fd, FunD K "fill" "Round.fill" (defArgs s_Round_fill) (defBody s_Round_fill) (defScope s_Round_fill) [] [] (He.ma K (He.ga K "Round") "fill") fd ∧ Binds K fd ["self", "items"] [] := by
  obtain ⟨fd, F⟩ := z.f.def_ 68 (d := d_Round_fill) rfl
  exact ⟨fd, F, FunD.bindsN (ps := ["self", "items"]) F fun _ _ _ _ _ _ us hl => match us, hl with | [_, _], _ => rfl⟩
theorem f_Round_sell (z : Z K mg) : ∃ fd, FunD K "sell" "Round.sell" (defArgs s_Round_sell) (defBody s_Round_sell) (defScope s_Round_sell) [] [] (He.ma K (He.ga K "Round") "sell") fd ∧ Binds K fd ["self", "items"] [] := by
  obtain ⟨fd, F⟩ := z.f.def_ 69 (d := d_Round_sell) rfl
  exact ⟨fd, F, FunD.bindsN (ps := ["self", "items"]) F fun _ _ _ _ _ _ us hl => match us, hl with | [_, _], _ => rfl⟩
theorem f_Round_step (z : Z K mg) : ∃ fd, FunD K "step" "Round.step" (defArgs s_Round_step) (defBody s_Round_step) (defScope s_Round_step) [] [] (He.ma K (He.ga K "Round") "step") fd ∧ Binds K fd ["self", "stock"] [] := by
  obtain ⟨fd, F⟩ := z.f.def_ 70 (d := d_Round_step) rfl
  exact ⟨fd, F, FunD.bindsN (ps := ["self", "stock"]) F fun _ _ _ _ _ _ us hl => match us, hl with | [_, _], _ => rfl⟩
theorem f_Round_undo (z : Z K mg) : ∃ fd, FunD K "undo" "Round.undo" (defArgs s_Round_undo) (defBody s_Round_undo) (defScope s_Round_undo) [] [] (He.ma K (He.ga K "Round") "undo") fd ∧ Binds K fd ["self"] [] := by
  obtain ⟨fd, F⟩ := z.f.def_ 71 (d := d_Round_undo) rfl
  exact ⟨fd, F, FunD.bindsN (ps := ["self"]) F fun _ _ _ _ _ _ us hl => match us, hl with | [_], _ => rfl⟩
theorem f_Round_outlook (z : Z K mg) : ∃ fd, FunD K "outlook" "Round.outlook" (defArgs s_Round_outlook) (defBody s_Round_outlook) (defScope s_Round_outlook) [] [] (He.ma K (He.ga K "Round") "outlook") fd ∧ Binds K fd ["self"] [] := by
  obtain ⟨fd, F⟩ := z.f.def_ 72 (d := d_Round_outlook) rfl
  exact ⟨fd, F, FunD.bindsN (ps := ["self"]) F fun _ _ _ _ _ _ us hl => match us, hl with | [_], _ => rfl⟩
theorem f_answers (z : Z K mg) : ∃ fd, FunD K "answers" "answers" (defArgs s_answers) (defBody s_answers) (defScope s_answers) [] [] (He.ga K "answers") fd ∧ Binds K fd ["calls"] [] := by
  obtain ⟨fd, F⟩ := z.f.def_ 73 (d := d_answers) rfl
  exact ⟨fd, F, FunD.bindsN (ps := ["calls"]) F fun _ _ _ _ _ _ us hl => match us, hl with | [_], _ => rfl⟩
theorem f_Session_init (z : Z K mg) : ∃ fd, FunD K "__init__" "Session.__init__" (defArgs s_Session_init) (defBody s_Session_init) (defScope s_Session_init) [] [] (He.ma K (He.ga K "Session") "__init__") fd ∧ Binds K fd ["self"] [] := by
  obtain ⟨fd, F⟩ := z.f.def_ 74 (d := d_Session_init) rfl
  exact ⟨fd, F, FunD.bindsN (ps := ["self"]) F fun _ _ _ _ _ _ us hl => match us, hl with | [_], _ => rfl⟩
theorem f_Session_answer (z : Z K mg) : ∃ fd, FunD K "answer" "Session.answer" (defArgs s_Session_answer) (defBody s_Session_answer) (defScope s_Session_answer) [] [] (He.ma K (He.ga K "Session") "answer") fd ∧ Binds K fd ["self", "request"] [] := by
  obtain ⟨fd, F⟩ := z.f.def_ 75 (d := d_Session_answer) rfl
  exact ⟨fd, F, FunD.bindsN (ps := ["self", "request"]) F fun _ _ _ _ _ _ us hl => match us, hl with | [_, _], _ => rfl⟩
theorem f_Session_call (z : Z K mg) : ∃ fd, FunD K "call" "Session.call" (defArgs s_Session_call) (defBody s_Session_call) (defScope s_Session_call) [] [] (He.ma K (He.ga K "Session") "call") fd ∧ Binds K fd ["self", "request"] [] := by
  obtain ⟨fd, F⟩ := z.f.def_ 76 (d := d_Session_call) rfl
  exact ⟨fd, F, FunD.bindsN (ps := ["self", "request"]) F fun _ _ _ _ _ _ us hl => match us, hl with | [_, _], _ => rfl⟩
theorem f_answer_of_shop (z : Z K mg) : ∃ fd, FunD K "answer_of_shop" "answer_of_shop" (defArgs s_answer_of_shop) (defBody s_answer_of_shop) (defScope s_answer_of_shop) [] [] (He.ga K "answer_of_shop") fd ∧ Binds K fd ["number", "shop"] [] := by
  obtain ⟨fd, F⟩ := z.f.def_ 77 (d := d_answer_of_shop) rfl
  exact ⟨fd, F, FunD.bindsN (ps := ["number", "shop"]) F fun _ _ _ _ _ _ us hl => match us, hl with | [_, _], _ => rfl⟩
theorem f_answer_of_stock (z : Z K mg) : ∃ fd, FunD K "answer_of_stock" "answer_of_stock" (defArgs s_answer_of_stock) (defBody s_answer_of_stock) (defScope s_answer_of_stock) [] [] (He.ga K "answer_of_stock") fd ∧ Binds K fd ["number", "shop", "stock"] [] := by
  obtain ⟨fd, F⟩ := z.f.def_ 78 (d := d_answer_of_stock) rfl
  exact ⟨fd, F, FunD.bindsN (ps := ["number", "shop", "stock"]) F fun _ _ _ _ _ _ us hl => match us, hl with | [_, _, _], _ => rfl⟩
theorem f_answer_parting (z : Z K mg) : ∃ fd, FunD K "answer_parting" "answer_parting" (defArgs s_answer_parting) (defBody s_answer_parting) (defScope s_answer_parting) [] [] (He.ga K "answer_parting") fd ∧ Binds K fd ["text", "other_text"] [] := by
  obtain ⟨fd, F⟩ := z.f.def_ 79 (d := d_answer_parting) rfl
  exact ⟨fd, F, FunD.bindsN (ps := ["text", "other_text"]) F fun _ _ _ _ _ _ us hl => match us, hl with | [_, _], _ => rfl⟩
theorem f_answer_of_round (z : Z K mg) : ∃ fd, FunD K "answer_of_round" "answer_of_round" (defArgs s_answer_of_round) (defBody s_answer_of_round) (defScope s_answer_of_round) [] [] (He.ga K "answer_of_round") fd ∧ Binds K fd ["number", "going", "parts"] [] := by
  obtain ⟨fd, F⟩ := z.f.def_ 80 (d := d_answer_of_round) rfl
  exact ⟨fd, F, FunD.bindsN (ps := ["number", "going", "parts"]) F fun _ _ _ _ _ _ us hl => match us, hl with | [_, _, _], _ => rfl⟩
theorem x_up (z : Z K mg) : ClX.CRead K (xRef K) (.type "type") ∧ ClX.CVal K (xRef K) (.type "type") "__init__" (.ref (He.ma K (xRef K) "__init__")) (.ref (He.ma K (xRef K) "__init__")) ∧ PySem.W.keepIn K (.ref (xRef K)) = true := by
  have h := z.x
  unfold xB xUp at h
  simp only [Bool.and_eq_true, decide_eq_true_eq] at h
  obtain ⟨⟨⟨h1, h2⟩, h3, h4⟩, _⟩ := h
  refine ⟨⟨h1, h2⟩, ⟨?_, rfl⟩, h4⟩
  split at h3
  · rename_i a e
    rw [e, of_decide_eq_true h3]
  · cases h3
theorem x_one (z : Z K mg) {x : Str} (hx : x ∈ xNames) : ExK K (He.ga K x) ∧ RefC K (xRef K) (He.ga K x) ∧ PySem.W.findIn K (.ref (He.ga K x)) "__init__" = some (some (.ref (He.ma K (He.ga K x) "__init__"))) ∧ PySem.W.typeIn K (.ref (He.ma K (He.ga K x) "__init__")) = some (.type "function") := by
  have h := z.x
  unfold xB at h
  have h := List.all_eq_true.mp (Bool.and_eq_true_iff.mp h).2 x hx
  unfold xOne at h
  simp only [Bool.and_eq_true, decide_eq_true_eq] at h
  exact ⟨exB_ok h.1, refB_ok h.2.1, h.2.2.1, h.2.2.2⟩
end
end Fs
set_option Elab.async false
set_option linter.all false
set_option maxRecDepth 100000
set_option maxHeartbeats 0
namespace Fs
open PySem PySem.W PySem.Calls PyProof.Rows
abbrev RR : OpenSpec := PySem.Challenge.rw_fullshelves_s01_answers
abbrev qv : Program := view RR.prog [98]
def lo0 : List PySem.Str := ["Refusal", "Malformed", "TextTooLong", "InvalidLine", "NoStock", "NoItems", "OtherShelves", "NoRound", "ShopIsOpen", "NoFilling", "StepsSpent", "ShopIsClosed"]
def lo1 : List PySem.Str := ["NoTaking", "ShelfFoundEmpty", "SPACE", "NEWLINE", "ZERO", "MOST_PUT", "Shop", "resized", "octets_of", "canonical_text", "joined", "choices"]
def lo2 : List PySem.Str := ["highest_next", "stocks_of", "full_stock", "fillings_of", "takings_of", "is_below", "added", "taken", "dooms", "stocks_left", "newly_doomed", "is_firm"]
def lo3 : List PySem.Str := ["has_any", "holds", "first_filling", "first_attack", "least_stocks", "keeps_full", "fewest_put", "fewest_onto", "first_parting", "FORMAT", "SAFE", "FILLING"]
def lo4 : List PySem.Str := ["DOOM", "ATTACK", "LEAST", "FEWEST", "PARTING", "ROUND", "FILL", "SELL", "UNDO", "LOOK", "Reader", "kinds_of"]
def lo5 : List PySem.Str := ["take_apart", "write_flag", "write_u16", "write_text", "write_row", "write_rows", "write_maybe_row", "write_maybe_u8", "write_maybe_u16", "MOST_OCTETS", "MOST_SHELVES", "MOST_ROOM"]
def lo6 : List PySem.Str := ["MOST_WANTED", "MOST_LETTERS", "FIRST_LETTER", "LAST_LETTER", "Draft", "read_shop", "divided", "words_of", "digit_of", "is_name", "read_line", "read_shelf"]
def lo7 : List PySem.Str := ["read_customers", "read_stocker", "MOST_STEPS", "MOST_OF_ONE", "Round", "SEATS", "Session", "answer_of_shop", "answer_of_stock", "answer_parting", "answer_of_round"]
def loN : List PySem.Str := lo0 ++ lo1 ++ lo2 ++ lo3 ++ lo4 ++ lo5 ++ lo6 ++ lo7

/-! where what the top leaves stands -/
def asN : List Addr := [3, 2, 27, 28, 30, 31, 47, 48, 50, 51, 66, 67, 69, 70, 85, 86, 88, 89, 104, 105, 107, 108, 123, 124, 126, 127, 142, 143, 145, 146, 161, 162, 164, 165, 180, 181, 183, 184, 199, 200, 202, 203, 218, 219, 221, 222, 237, 238, 240, 241, 256, 257, 259, 260, 275, 276, 278, 279, 294, 295, 297, 298, 308, 309, 313, 314, 318, 319, 325, 326, 332, 333, 339, 340, 346, 347, 353, 354, 358, 359, 363, 364, 370, 371, 375, 376, 380, 381, 385, 386, 392, 393, 397, 398, 404, 405, 411, 412, 418, 419, 425, 426, 432, 433, 437, 438, 444, 445, 451, 452, 458, 459, 465, 466, 479, 480, 486, 487, 493, 494, 500, 501, 507, 508, 510, 511, 521, 522, 528, 529, 535, 536, 542, 543, 549, 550, 556, 557, 563, 564, 570, 571, 577, 578, 584, 585, 598, 599, 601, 602, 612, 613, 619, 620, 624, 625, 631, 632, 636, 637, 643, 644, 650, 651, 657, 658, 664, 665, 678, 679, 685, 686, 692, 693, 699, 700, 706, 707, 713, 714, 720, 721, 723, 724, 734, 735, 746, 747, 753, 754, 760, 761, 763, 764, 774, 775, 781, 782, 788, 789, 795, 796]
def kN (g : Addr → Option Obj) : PySem.W.Frag := He.frG g asN
end Fs
set_option Elab.async false
set_option linter.all false
set_option maxRecDepth 100000
set_option maxHeartbeats 0
namespace Fs
open PySem PySem.W PySem.Calls PyProof.Rows
/-- what the head looks at, read off the end of the top -/
def obK (K : PySem.W.Frag) : He.AlD × Bool := (He.obsD fa fn K, xB K)
def hkX : PySem.W.Hook where
  α := He.AlD × Bool
  obs := fun s => obK (kN s.heap.get?)
  val := fun _ => (He.valD fn, true)
  says := fun _ h => ∃ K : PySem.W.Frag, K.In h ∧ He.SaysD fa fn K ∧ xB K = true
  of := fun _ s e => ⟨_, He.frG_in, congrArg (fun z : He.AlD × Bool => z.1) e, congrArg (fun z : He.AlD × Bool => z.2) e⟩
  keeps := fun _ _ _ ⟨K, hK, c⟩ k => ⟨K, PySem.W.Frag.In.keeps hK k, c⟩
def obX (s : PySem.W.SharedT) : He.AlD × Bool := obK (kN (HandSHeadRun.getT s))
theorem obX_eq (s : PySem.W.SharedT) : obX s = hkX.obs s.abs := by
  have e : HandSHeadRun.getT s = s.abs.heap.get? := funext (HandSHeadRun.getT_eq s)
  show obK (kN (HandSHeadRun.getT s)) = obK (kN s.abs.heap.get?)
  rw [e]
theorem run0 (w : World) : HandSHeadRun.RunEqS RR qv Hook.none (fun _ => ()) 8000 loN w := by
  intro os
  kernel_rfl
theorem runX (w : World) (os : OsState) : (HandSHeadRun.endF (HandSHeadRun.stepQ (HandSHeadRun.denQ HandSHeadRun.tabQ) RR.prog w) 8000 RR.prog w os).map obX = some (He.valD fn, true) := by
  kernel_rfl
theorem map_two {α β γ : Type} {x : Option α} {f : α → β} {g : α → γ} {b : β} {c : γ} (h1 : x.map f = some b) (h2 : x.map g = some c) : x.map (fun a => (f a, g a)) = some (b, c) := by
  cases x with
  | none => cases h1
  | some a => cases h1; cases h2; rfl
theorem run1 (w : World) : HandSHeadRun.RunEqS RR qv hkX obX 8000 loN w := by
  intro os
  have h1 := run0 w os
  have h2 := runX w os
  generalize HandSHeadRun.endF (HandSHeadRun.stepQ (HandSHeadRun.denQ HandSHeadRun.tabQ) RR.prog w) 8000 RR.prog w os = x at h1 h2 ⊢
  cases x with
  | none => cases h2
  | some s =>
    have e1 := Option.some.inj h1
    have e2 := Option.some.inj h2
    have e3 := congrArg (fun z => (z.1, z.2.1)) e1
    show some (_, _, obX s) = some (true, openGood qv loN, hkX.val w)
    rw [e2]
    have a1 := congrArg (fun z => z.1) e3
    have a2 := congrArg (fun z => z.2) e3
    refine congrArg some ?_
    refine Prod.ext a1 (Prod.ext a2 rfl)
end Fs
set_option Elab.async false
set_option linter.all false
set_option maxRecDepth 100000
set_option maxHeartbeats 4000000
namespace FsX
open PySem PySem.Spec PyProof.Rows L2
/-! tuples made here, whose head is known: their methods; and how they become tuples like others -/
theorem there_of {X : Cx} {pins : List (Addr × Obj)} {σ : L2.St} {H : Hp} {s : Shared} (I : Inv X pins σ H s) {D : Addr} {u : HO} (e : H D = some u) : ∃ o, s.heap.get? D = some o := by
  have := I.hok D u e
  cases u with
  | lst xs => obtain ⟨_, _, _, _, z⟩ := this; exact ⟨_, z⟩
  | tup xs => obtain ⟨_, _, _, o, z, _⟩ := this; exact ⟨_, z⟩
  | dK kvs => obtain ⟨_, _, _, _, o, _, _, z, _⟩ := this; exact ⟨_, z⟩
  | dT kvs => obtain ⟨_, _, _, _, o, _, _, z, _⟩ := this; exact ⟨_, z⟩
  | set S n => obtain ⟨o, _, _, _, z, _⟩ := this; exact ⟨_, z⟩
  | ins C dx fs => obtain ⟨_, _, _, z, _⟩ := this; exact ⟨_, z⟩
  | own y => exact this
  | xd fs => obtain ⟨_, ⟨o, _, _, z, _⟩, _⟩ := this; exact ⟨_, z⟩
  | rng lo hi => obtain ⟨_, _, _, z⟩ := this; exact ⟨_, z⟩
  | frz ob u => exact ⟨_, this.1⟩
  | tbl ps => exact ⟨_, this⟩
  | met f y => exact ⟨_, this⟩
  | ext φ => exact this.2.1
theorem none_of {X : Cx} {pins : List (Addr × Obj)} {σ : L2.St} {H : Hp} {s : Shared} (I : Inv X pins σ H s) {D : Addr} (h : s.heap.get? D = none) : H D = none := by
  cases e : H D with
  | none => rfl
  | some u => obtain ⟨o, z⟩ := there_of I e; rw [h] at z; cases z
theorem get_size (h : Heap) : h.get? h.objs.size = none := by
  unfold Heap.get?
  simp
/-- a plain tuple's object -/
def Zo (y : Obj) : Prop := ∃ (its : Array Value) (n : Nat), y = { cls := .type "tuple", data := .seq its n }
def tTupZ (t : TA) : TE := fun σ H Q => t σ H fun xs H1 => xs.length ≤ sizeLine ∧ ∀ (p : Addr) (y : Obj), Zo y → H1 p = none → Q (.ref p) (upd H1 p (.frz y (.tup xs)))
theorem pe_tupZ {X : Cx} {es : List Expr} {t : TA} {pos : Pos} {k : Nat} (h : PA X es t) : PE X (.Tuple es k pos) (tTupZ t) := by
  refine ⟨fun pins s σ H Q I hh => ?_⟩
  refine Tuple_ (thn (h.run pos pins s σ H _ I hh) fun us s1 q => ?_)
  obtain ⟨vs, H1, I1, rv, hl, q⟩ := q
  obtain ⟨m, F⟩ := I1.fr
  have fresh := get_size s1.heap
  have hn := none_of I1 fresh
  refine newTuple_N F news_all (fun h' F' N' => ?_) (by rw [← Paired.length rv]; exact hl)
  have g := (N' _ (List.mem_cons_self ..)).1
  refine ⟨.ref s1.heap.objs.size, upd H1 s1.heap.objs.size (.frz _ (.tup vs)), new_led I1 F F' (fun p hp => N' p (List.mem_cons_of_mem _ hp)) fresh hn ⟨g, hl, us, rv, ⟨_, g, rfl, 0, rfl⟩⟩, rfl, q _ _ ⟨_, _, rfl⟩ hn⟩
/-- t + u, tuples -/
def rCatZ (K : PySem.W.Frag) : R2 := fun x y H Q => ∃ a b xs ys, x = .ref a ∧ y = .ref b ∧ SqT K H a xs ∧ SqT K H b ys ∧ xs.length + ys.length ≤ sizeLine ∧ (xs = [] → Q (.ref b) H) ∧ (xs ≠ [] → ys = [] → Q (.ref a) H) ∧
  (xs ≠ [] → ys ≠ [] → ∀ (p : Addr) (y : Obj), Zo y → H p = none → Q (.ref p) (upd H p (.frz y (.tup (xs ++ ys)))))
theorem vals_nil {xs : List V} {us : List Value} (h : Vals xs us) : us = [] ↔ xs = [] := by
  cases h with
  | nil => exact ⟨fun _ => rfl, fun _ => rfl⟩
  | cons _ _ => exact ⟨fun z => (nomatch z), fun z => (nomatch z)⟩
theorem vals_app : ∀ {xs ys : List V} {us ws : List Value}, Vals xs us → Vals ys ws → Vals (xs ++ ys) (us ++ ws)
  | _, _, _, _, .nil, h => h
  | _, _, _, _, .cons a b, h => .cons a (vals_app b h)
theorem op_catZ {X : Cx} : OpR X (binaryOp .Add) (rCatZ X.K) := by
  intro pins s σ H x y v u Q I rx ry h
  obtain ⟨a, b, xs, ys, rfl, rfl, ha, hb, hl, q1, q2, q3⟩ := h
  cases rx
  cases ry
  obtain ⟨us, r1, t1, _⟩ := I.tuple ha
  obtain ⟨ws, r2, t2, _⟩ := I.tuple hb
  obtain ⟨m, F⟩ := I.fr
  have fresh := get_size s.heap
  have hn := none_of I fresh
  refine add_tuples F news_all t1 t2 (fun z => ⟨.ref b, H, I, rfl, q1 ((vals_nil r1).1 z)⟩) (fun z1 z2 => ⟨.ref a, H, I, rfl, q2 (fun e => z1 ((vals_nil r1).2 e)) ((vals_nil r2).1 z2)⟩) (fun z1 z2 h' F' N' => ?_) (by rw [← Paired.length r1, ← Paired.length r2]; exact hl)
  have g := (N' _ (List.mem_cons_self ..)).1
  exact ⟨.ref s.heap.objs.size, upd H s.heap.objs.size (.frz _ (.tup (xs ++ ys))), new_led I F F' (fun p hp => N' p (List.mem_cons_of_mem _ hp)) fresh hn ⟨g, by rw [List.length_append]; exact hl, us ++ ws, vals_app r1 r2, ⟨_, g, rfl, 0, rfl⟩⟩, rfl, q3 (fun e => z1 ((vals_nil r1).2 e)) (fun e => z2 ((vals_nil r2).2 e)) _ _ ⟨_, _, rfl⟩ hn⟩
/-- t.count(e) of such a tuple of ints -/
def tCntZ (to te : TE) : TE := fun σ H Q => to σ H fun x H1 => ∃ (p : Addr) (y : Obj) (ns : List Int), x = .ref p ∧ Zo y ∧ H1 p = some (.frz y (.tup (ns.map V.int))) ∧ te σ H1 fun z H2 => ∃ k : Int, z = .int k ∧ H2 p = some (.frz y (.tup (ns.map V.int))) ∧ Q (.int (ns.count k : Nat)) H2
theorem pe_tcntZ {X : Cx} {o e : Expr} {to te : TE} {apos cpos : Pos} (he : PE X o to) (ha : PE X e te) (hb : attributeBase o "count" X.env (eval o X.env) = eval o X.env := by rfl) (hn : ((backTo cpos (starEach [e] X.env)).all (fun x => !x.1) && (backToKw cpos (keywordEach [] X.env)).all (fun x => x.1.isSome) && decide ([e].length + ([] : List Keyword).length + (if ([] : List Keyword).isEmpty then 0 else 1) < 30)) = true := by rfl) (hl : (apos.endLine == cpos.line) = true := by rfl)
    (h1 : backTo cpos (starEach [e] X.env) = [(false, eval e X.env)] := by rfl) : PE X (.Call (.Attribute o "count" apos) [e] [] cpos) (tCntZ to te) := by
  refine ⟨fun pins s σ H Q I h => ?_⟩
  refine wpAny_Call_method hb (by simpa using hn) hl PySem.F.plainAttrs_tuple PySem.F.slot_tuple_count PySem.F.type_tuple_count (thn (he.run pins s σ H _ I h) fun u s1 q => ?_)
  obtain ⟨v, H1, I1, rv, p, y, ns, rfl, hy, hp, q⟩ := q
  cases rv
  obtain ⟨g, _, its, _, ob, g2, hc, _⟩ := I1.hok p _ hp
  rw [g] at g2
  cases g2
  refine ⟨⟨_, g, hc⟩, fun a ea => ?_, ?_⟩
  · cases ea
    obtain ⟨i2, m2, rfl⟩ := hy
    exact ⟨_, g, rfl⟩
  · rw [h1]
    refine PySem.P.count_tuple (thn (ha.run pins s1 σ H1 _ I1 q) fun u s2 q2 => ?_)
    obtain ⟨v2, H2, I2, rv2, k, rfl, hp2, q2⟩ := q2
    obtain ⟨t, rfl⟩ := rv2
    obtain ⟨g2, _, its2, rv3, ob2, g3, hc2, n2, hd2⟩ := I2.hok p _ hp2
    rw [g2] at g3
    cases g3
    have hi := ints_of_vals rv3
    refine ⟨its2.toArray, n2, eqk k, ?_, fun y hy => eqk_gives hi y (by simpa using hy), ?_⟩
    · obtain ⟨i2, m2, rfl⟩ := hy
      cases hd2
      exact g2
    · have ec : its2.toArray.toList.countP (eqk k) = ns.count k := eqk_count hi
      refine ⟨.int (ns.count k : Nat), H2, I2.tok _, ⟨s2.toks, ?_⟩, q2⟩
      rw [ec]
/-- tuples made in this def become tuples like others -/
def Fgt (H0 H H' : Hp) : Prop := ∀ a, H' a = H a ∨ (H0 a = none ∧ ∃ (y : Obj) (xs : List V), H a = some (.frz y (.tup xs)) ∧ H' a = some (.tup xs))
theorem inv_fgt {X : Cx} {pins : List (Addr × Obj)} {σ : L2.St} {H H' : Hp} {s : Shared} (I : Inv X pins σ H s) (f : Fgt X.H_0 H H') : Inv X pins σ H' s := by
  have nn : ∀ {b}, H b = none → H' b = none := fun {b} e => by
    rcases f b with h | ⟨_, y, xs, h, _⟩
    · rw [h]; exact e
    · rw [e] at h; cases h
  have ol : ∀ {b o}, X.H_0 b = some o → H' b = H b := fun {b o} e => by
    rcases f b with h | ⟨h, _⟩
    · exact h
    · rw [e] at h; cases h
  have nf : ∀ {b u}, H b = some u → (∀ y xs, u ≠ .frz y (.tup xs)) → H' b = some u := fun {b u} e k => by
    rcases f b with h | ⟨_, y, xs, h, _⟩
    · rw [h]; exact e
    · rw [e] at h; cases h; exact absurd rfl (k y xs)
  refine ⟨I.ok, I.os, I.bare, ⟨I.base.keep, I.base.slot, fun b o h1 h2 h3 => nn (I.base.free b o h1 h2 h3), I.base.there, fun b xs e => by rw [ol e]; exact I.base.tups b xs e, fun b o u e => by rw [ol e]; exact I.base.frzs b o u e, fun b ps e => by rw [ol e]; exact I.base.tbls b ps e⟩, I.loc, I.cell, nn I.free, fun x c e => nn (I.freeC x c e), fun p hp => ?_, fun a o e => ?_, I.len⟩
  · obtain ⟨h1, h2, h3⟩ := I.pin p hp
    exact ⟨h1, nn h2, h3⟩
  · rcases f a with h | ⟨_, y, xs, h, h2⟩
    · rw [h] at e
      exact (I.hok a o e).stay (fun b u _ z => z) (fun b z => nf z fun _ _ k => nomatch k) (fun b xs z => nf z fun _ _ k => nomatch k)
    · rw [h2] at e
      cases e
      obtain ⟨_, k⟩ := I.hok a _ h
      exact k
def tFgt (H0 : Hp) (te : TE) : TE := fun σ H Q => te σ H fun x H1 => ∃ H2, Fgt H0 H1 H2 ∧ Q x H2
theorem pe_fgt {X : Cx} {e : Expr} {te : TE} (h : PE X e te) : PE X e (tFgt X.H_0 te) := by
  refine ⟨fun pins s σ H Q I hh => thn (h.run pins s σ H _ I hh) fun u s1 q => ?_⟩
  obtain ⟨v, H1, I1, rv, H2, f, q⟩ := q
  exact ⟨v, H2, inv_fgt I1 f, rv, q⟩
end FsX
set_option Elab.async false
set_option linter.all false
set_option maxRecDepth 100000
set_option maxHeartbeats 4000000
namespace Fs
open PySem PySem.Spec PyProof.Rows L2 FsX
open Evl (Ex Ex.refl Ex.trans Ex.new Ex.mut fresh_back)
/-! words: what stands at an address -/
def T (H : Hp) (a : Addr) (s : List Nat) : Prop := H a = some (.tup (nv s))
def L (H : Hp) (a : Addr) (s : List Nat) : Prop := H a = some (.lst (nv s))
def LO {α : Type} (R : Hp → Addr → α → Prop) (H : Hp) (a : Addr) (xs : List α) : Prop := ∃ as : List Addr, H a = some (.lst (as.map V.ref)) ∧ Paired (R H) as xs
def Mono {α : Type} (R : Hp → Addr → α → Prop) : Prop := ∀ H H' a x, Ex H H' → R H a x → R H' a x
theorem mT : Mono T := fun _ _ _ _ e h => e _ _ h
theorem mL : Mono L := fun _ _ _ _ e h => e _ _ h
theorem mLO {α : Type} {R : Hp → Addr → α → Prop} (m : Mono R) : Mono (LO R) := fun _ _ _ _ e h => by
  obtain ⟨as, h1, h2⟩ := h
  exact ⟨as, e _ _ h1, Paired.mapP h2 fun a b r => m _ _ _ _ e r⟩
theorem T.ex {H H' : Hp} {a : Addr} {s : List Nat} (h : T H a s) (e : Ex H H') : T H' a s := e _ _ h
theorem L.ex {H H' : Hp} {a : Addr} {s : List Nat} (h : L H a s) (e : Ex H H') : L H' a s := e _ _ h
theorem T.sq {K : PySem.W.Frag} {H : Hp} {a : Addr} {s : List Nat} (h : T H a s) : SqT K H a (nv s) := SqT.of h
theorem L.sq {K : PySem.W.Frag} {H : Hp} {a : Addr} {s : List Nat} (h : L H a s) : SqL K H a (nv s) := SqL.of h
theorem nv_ints (l : List Nat) : nv l = (l.map Int.ofNat).map V.int := by unfold nv; rw [List.map_map]; rfl
theorem nv_get {l : List Nat} {i : Nat} {x : V} (h : (nv l)[i]? = some x) : ∃ n, l[i]? = some n ∧ x = .int (n : Nat) := by
  unfold nv at h
  rw [List.getElem?_map] at h
  cases e : l[i]? with
  | none => rw [e] at h; cases h
  | some n => rw [e] at h; exact ⟨n, rfl, (Option.some.inj h).symm⟩
theorem nv_app (a b : List Nat) : nv (a ++ b) = nv a ++ nv b := List.map_append
/-- a def that keeps a promise, called with all its arguments -/
def Kp (P : Program) (w : World) (K : PySem.W.Frag) (mg : Str → Option Value) (base : Heap) (CX : CXT) (k : Nat) (f : Addr) (ps : List Str) (sp : Sp) : Prop := ∃ fd, FnOk P w K mg base CX k f fd ps sp ∧ Binds K fd ps [] ∧ PySem.W.keepIn K (.ref f) = true
section
variable {P : Program} {w : World} {K : PySem.W.Frag} {mg : Str → Option Value} {base : Heap}
abbrev FunK (K : PySem.W.Frag) (x qual : Str) (st : Stmt) (f : Addr) : Prop := ∃ fd, FunD K x qual (defArgs st) (defBody st) (defScope st) [] [] f fd ∧ ∀ ps, Binds K fd ps [] → True
/-- a def that lets no error out -/
theorem kp0 {x qual : Str} {st : Stmt} {f : Addr} {N ps : List Str} {k : Nat} {sp : Sp} (F : ∃ fd, FunD K x qual (defArgs st) (defBody st) (defScope st) [] [] f fd ∧ Binds K fd ps []) (S : FnScope N ps (defScope st)) (len : ∀ vs H Q E, sp vs H Q E → vs.length = ps.length)
    (hb : ∀ (cdv : Value) (A : Around) (outer : List Env) (s : Shared) (H : Hp) (vs : List V) (Q : VK) (E : XK), Room k (A.deeper (envOfC qual (defScope st) s.heap.objs.size f cdv)) → sp vs H Q E →
      ∃ t, PSs (cxOf CX0 P w K mg base N qual (defScope st) f cdv A outer s H E).nox (defBody st) t ∧ t { nx := fun _ H' => Q .non H', rt := Q } (start N vs) H) : Kp P w K mg base CX0 (k + 1) f ps sp := by
  obtain ⟨fd, F, b⟩ := F
  refine ⟨fd, F.ok S len fun cdv A outer s H vs Q E hr h => ?_, b, F.kp⟩
  obtain ⟨t, h1, h2⟩ := hb cdv A outer s H vs Q E hr h
  exact ⟨t, h1.nox, h2⟩
/-- a def that may let an error out -/
theorem kpX {x qual : Str} {st : Stmt} {f : Addr} {N ps : List Str} {k : Nat} {sp : Sp} (F : ∃ fd, FunD K x qual (defArgs st) (defBody st) (defScope st) [] [] f fd ∧ Binds K fd ps []) (S : FnScope N ps (defScope st)) (len : ∀ vs H Q E, sp vs H Q E → vs.length = ps.length)
    (hb : ∀ (cdv : Value) (A : Around) (outer : List Env) (s : Shared) (H : Hp) (vs : List V) (Q : VK) (E : XK), Room k (A.deeper (envOfC qual (defScope st) s.heap.objs.size f cdv)) → sp vs H Q E →
      ∃ t, PSs (cxOf (L2.CX P w) P w K mg base N qual (defScope st) f cdv A outer s H E) (defBody st) t ∧ t { nx := fun _ H' => Q .non H', rt := Q } (start N vs) H) : Kp P w K mg base (L2.CX P w) (k + 1) f ps sp := by
  obtain ⟨fd, F, b⟩ := F
  exact ⟨fd, F.ok S len hb, b, F.kp⟩
end
/-- a tuple of nats that this def made, its head known -/
def TZ (H : Hp) (a : Addr) (s : List Nat) : Prop := ∃ y, Zo y ∧ H a = some (.frz y (.tup (nv s)))
theorem mTZ : Mono TZ := fun _ _ _ _ e ⟨y, h1, h2⟩ => ⟨y, h1, e _ _ h2⟩
theorem TZ.sq {K : PySem.W.Frag} {H : Hp} {a : Addr} {s : List Nat} (h : TZ H a s) : SqT K H a (nv s) := by
  obtain ⟨y, _, h⟩ := h
  exact .inl (.inr ⟨y, h⟩)
theorem nv_map (l : List Nat) : nv l = (l.map Int.ofNat).map V.int := nv_ints l
/-! lists under way -/
theorem paired_snoc {α β : Type} {F : α → β → Prop} : ∀ {l : List α} {m : List β} {a : α} {b : β}, Paired F l m → F a b → Paired F (l ++ [a]) (m ++ [b])
  | _, _, _, _, .nil, h => .cons h .nil
  | _, _, _, _, .cons g k, h => .cons g (paired_snoc k h)
theorem paired_get {α β : Type} {F : α → β → Prop} : ∀ {l : List α} {m : List β} {i : Nat} {a : α}, Paired F l m → l[i]? = some a → ∃ b, m[i]? = some b ∧ F a b
  | _, _, _, _, .nil, h => by simp at h
  | _, _, 0, _, .cons g k, h => by simp at h; exact ⟨_, rfl, h ▸ g⟩
  | _, _, i + 1, _, .cons g k, h => by simp at h; obtain ⟨b, h1, h2⟩ := paired_get k h; exact ⟨b, by simpa using h1, h2⟩
theorem paired_get2 {α β : Type} {F : α → β → Prop} : ∀ {l : List α} {m : List β} {i : Nat} {b : β}, Paired F l m → m[i]? = some b → ∃ a, l[i]? = some a ∧ F a b
  | _, _, _, _, .nil, h => by simp at h
  | _, _, 0, _, .cons g k, h => by simp at h; exact ⟨_, rfl, h ▸ g⟩
  | _, _, i + 1, _, .cons g k, h => by simp at h; obtain ⟨b, h1, h2⟩ := paired_get2 k h; exact ⟨b, by simpa using h1, h2⟩
theorem exDel {H0 H : Hp} {l : Addr} (e : Ex H0 H) (h : H0 l = none) : Ex H0 (del H l) := fun a o ha => by
  have : a ≠ l := ne_of_none ha h
  rw [del_ne this]; exact e _ _ ha
theorem exDelMono {H H' : Hp} {l : Addr} (e : Ex H H') : Ex (del H l) (del H' l) := fun a o ha => by
  by_cases q : a = l
  · subst q; simp [del] at ha
  · rw [del_ne q] at ha ⊢; exact e _ _ ha
theorem exDelSelf {H : Hp} {l : Addr} : Ex (del H l) H := fun a o ha => by
  by_cases q : a = l
  · subst q; simp [del] at ha
  · rwa [del_ne q] at ha
theorem exDelUpd {H : Hp} {l : Addr} {o : HO} : Ex (del H l) (del (upd H l o) l) := fun a o' ha => by
  by_cases q : a = l
  · subst q; simp [del] at ha
  · rw [del_ne q] at ha ⊢; rw [upd_ne q]; exact ha
/-- a list that is being made: what it holds stands without it -/
def LX {α : Type} (R : Hp → Addr → α → Prop) (H : Hp) (l : Addr) (xs : List α) : Prop := ∃ as : List Addr, H l = some (.lst (as.map V.ref)) ∧ Paired (R (del H l)) as xs
section
variable {α : Type} {R : Hp → Addr → α → Prop} {H H' : Hp} {l p : Addr} {xs : List α} {y : α}
theorem LX.lo (h : LX R H l xs) (m : Mono R) : LO R H l xs := by
  obtain ⟨as, h1, h2⟩ := h
  exact ⟨as, h1, Paired.mapP h2 fun a b r => m _ _ _ _ exDelSelf r⟩
theorem LX.ex (h : LX R H l xs) (m : Mono R) (e : Ex H H') : LX R H' l xs := by
  obtain ⟨as, h1, h2⟩ := h
  exact ⟨as, e _ _ h1, Paired.mapP h2 fun a b r => m _ _ _ _ (exDelMono e) r⟩
theorem LX.new : LX R (upd H l (.lst [])) l [] := ⟨[], upd_same, .nil⟩
theorem LX.len (h : LX R H l xs) : ∃ vs, H l = some (.lst vs) ∧ vs.length = xs.length := by
  obtain ⟨as, h1, h2⟩ := h
  exact ⟨_, h1, by rw [List.length_map, Paired.length h2]⟩
theorem LO.len (h : LO R H l xs) : ∃ vs, H l = some (.lst vs) ∧ vs.length = xs.length := by
  obtain ⟨as, h1, h2⟩ := h
  exact ⟨_, h1, by rw [List.length_map, Paired.length h2]⟩
theorem LX.push (h : LX R H l xs) (m : Mono R) (r : R (del H l) p y) : ∃ vs, H l = some (.lst vs) ∧ vs.length = xs.length ∧ LX R (upd H l (.lst (vs ++ [.ref p]))) l (xs ++ [y]) := by
  obtain ⟨as, h1, h2⟩ := h
  refine ⟨_, h1, by rw [List.length_map, Paired.length h2], as ++ [p], by rw [upd_same, List.map_append]; rfl, ?_⟩
  exact Paired.mapP (paired_snoc h2 r) fun a b r => m _ _ _ _ exDelUpd r
theorem LX.app (h : LX R H l xs) (m : Mono R) (e : Ex H H') (r : R (del H' l) p y) : ∃ vs, H' l = some (.lst vs) ∧ vs.length = xs.length ∧ LX R (upd H' l (.lst (vs ++ [.ref p]))) l (xs ++ [y]) := (h.ex m e).push m r
/-- items of a list of objects -/
theorem LO.get (h : LO R H l xs) {vs : List V} {i : Nat} {x : V} (hv : H l = some (.lst vs)) (hx : vs[i]? = some x) : ∃ a y, x = .ref a ∧ xs[i]? = some y ∧ R H a y := by
  obtain ⟨as, h1, h2⟩ := h
  have e : vs = as.map V.ref := by rw [h1] at hv; injection hv with hv; injection hv with hv; exact hv.symm
  subst e
  rw [List.getElem?_map] at hx
  cases ea : as[i]? with
  | none => rw [ea] at hx; cases hx
  | some a =>
    rw [ea] at hx
    obtain ⟨y, h3, h4⟩ := paired_get h2 ea
    exact ⟨a, y, (Option.some.inj hx).symm, h3, h4⟩
theorem LO.ex (h : LO R H l xs) (m : Mono R) (e : Ex H H') : LO R H' l xs := mLO m _ _ _ _ e h
theorem L.lst {s : List Nat} (h : L H l s) : H l = some (.lst (nv s)) := h
theorem T.tup {s : List Nat} (h : T H l s) : H l = some (.tup (nv s)) := h
end
/-- the same, its items' places known -/
def LA {α : Type} (R : Hp → Addr → α → Prop) (H : Hp) (l : Addr) (as : List Addr) (xs : List α) : Prop := H l = some (.lst (as.map V.ref)) ∧ Paired (R H) as xs
theorem LA.ex {α : Type} {R : Hp → Addr → α → Prop} {H H' : Hp} {l : Addr} {as : List Addr} {xs : List α} (h : LA R H l as xs) (m : Mono R) (e : Ex H H') : LA R H' l as xs := ⟨e _ _ h.1, Paired.mapP h.2 fun _ _ r => m _ _ _ _ e r⟩
theorem LA.lo {α : Type} {R : Hp → Addr → α → Prop} {H : Hp} {l : Addr} {as : List Addr} {xs : List α} (h : LA R H l as xs) : LO R H l xs := ⟨as, h⟩
theorem LA.sq {α : Type} {R : Hp → Addr → α → Prop} {K : PySem.W.Frag} {H : Hp} {l : Addr} {as : List Addr} {xs : List α} (h : LA R H l as xs) : SqL K H l (as.map V.ref) := SqL.of h.1
theorem LA.get {α : Type} {R : Hp → Addr → α → Prop} {H : Hp} {l : Addr} {as : List Addr} {xs : List α} (h : LA R H l as xs) {i : Nat} {x : V} (hx : (as.map V.ref)[i]? = some x) : ∃ p y, x = .ref p ∧ xs[i]? = some y ∧ as[i]? = some p ∧ R H p y := by
  rw [List.getElem?_map] at hx
  cases ea : as[i]? with
  | none => rw [ea] at hx; cases hx
  | some a =>
    rw [ea] at hx
    obtain ⟨y, h3, h4⟩ := paired_get h.2 ea
    exact ⟨a, y, (Option.some.inj hx).symm, h3, rfl, h4⟩
theorem LA.at {α : Type} {R : Hp → Addr → α → Prop} {H : Hp} {l : Addr} {as : List Addr} {xs : List α} (h : LA R H l as xs) {i : Nat} {p : Addr} {y : α} (hp : as[i]? = some p) (hy : xs[i]? = some y) : R H p y := by
  obtain ⟨y', h1, h2⟩ := paired_get h.2 hp
  rw [hy] at h1
  cases h1
  exact h2
theorem LA.len {α : Type} {R : Hp → Addr → α → Prop} {H : Hp} {l : Addr} {as : List Addr} {xs : List α} (h : LA R H l as xs) : (as.map V.ref).length = xs.length := by rw [List.length_map, Paired.length h.2]
section
variable {α : Type} {R : Hp → Addr → α → Prop} {K : PySem.W.Frag} {a : Addr} {as : List Addr} {xs : List α}
theorem for_la {g : TG} {tb : TS} {D : Ends} {σ : L2.St} {H : Hp} (Pv : Nat → L2.St → Hp → Prop) (h0 : Pv 0 σ H) (hl : ∀ i σ H, Pv i σ H → LA R H a as xs)
    (hs : ∀ i p y σ H, xs[i]? = some y → as[i]? = some p → R H p y → Pv i σ H → g (.ref p) σ H fun σ2 H2 => tb { D with nx := Pv (i + 1), ct := Pv (i + 1), bk := D.nx } σ2 H2) (hd : ∀ σ H, Pv xs.length σ H → D.nx σ H) :
    ∃ W : Nat → Nat → L2.St → Hp → Prop, (∃ m, W 0 m σ H) ∧ ∀ i m σ H, W i m σ H → ((Itl K a).stop i H ∧ D.nx σ H) ∨ ((Itl K a).go i H ∧ ∃ N : L2.St → Hp → Prop, (∀ σ' H', N σ' H' → ∃ m', m' < m ∧ W (i + 1) m' σ' H') ∧ ∀ x H', (Itl K a).yld i H x H' → g x σ H' fun σ2 H2 => tb { D with nx := N, ct := N, bk := D.nx } σ2 H2) :=
  for_list (xs := as.map V.ref) Pv h0 (fun i σ H _ h => (hl i σ H h).sq) (fun i x σ H hx h => by
    obtain ⟨p, y, rfl, hy, hp, r⟩ := (hl i σ H h).get hx
    exact hs i p y σ H hy hp r h) fun σ H h => hd σ H ((hl _ σ H h).len ▸ h)
end
section
variable {α : Type} {R : Hp → Addr → α → Prop} {K : PySem.W.Frag} {a : Addr} {as : List Addr} {xs : List α}
theorem lc_la {g : TG} {tt : TT} {te : TE} {vs : List Nat} {σ : L2.St} {H1 : Hp} {D : Addr} {Qd : Hp → Prop} (Pv : Nat → Hp → Prop) (h0 : Pv 0 (upd H1 D (.lst []))) (hl : ∀ i H, Pv i H → LA R H a as xs)
    (hs : ∀ i p y H, xs[i]? = some y → as[i]? = some p → R H p y → Pv i H → g (.ref p) (wipe σ vs) H fun σ2 H2 => wipe σ2 vs = wipe σ vs ∧ tt σ2 H2 fun b H3 => if b = true then te σ2 H3 fun y H4 => ∃ acc, H4 D = some (.lst acc) ∧ acc.length < sizeLine ∧ Pv (i + 1) (upd H4 D (.lst (acc ++ [y]))) else Pv (i + 1) H3) (hd : ∀ H, Pv xs.length H → Qd H) :
    ∃ W : Nat → Nat → Hp → Prop, (∃ m, W 0 m (upd H1 D (.lst []))) ∧ ∀ i m H, W i m H → ((Itl K a).stop i H ∧ Qd H) ∨ ((Itl K a).go i H ∧ ∃ Nx : Hp → Prop, (∀ H', Nx H' → ∃ m', m' < m ∧ W (i + 1) m' H') ∧ ∀ x H', (Itl K a).yld i H x H' → g x (wipe σ vs) H' fun σ2 H2 => wipe σ2 vs = wipe σ vs ∧ tt σ2 H2 fun b H3 => if b = true then te σ2 H3 fun y H4 => ∃ acc, H4 D = some (.lst acc) ∧ acc.length < sizeLine ∧ Nx (upd H4 D (.lst (acc ++ [y]))) else Nx H3) :=
  lc_list (xs := as.map V.ref) Pv h0 (fun i H _ h => (hl i H h).sq) (fun i x H hx h => by
    obtain ⟨p, y, rfl, hy, hp, r⟩ := (hl i H h).get hx
    exact hs i p y H hy hp r h) fun H h => hd H ((hl _ H h).len ▸ h)
end
theorem sq_of {K : PySem.W.Frag} {H : Hp} {a : Addr} {vs : List V} (h : H a = some (.lst vs)) : SqL K H a vs := SqL.of h
/-- a def's call -/
theorem Kp.call {X : Cx} {CX : CXT} {k : Nat} {f : Addr} {ps : List Str} {sp : Sp} {E : XK} {x : Str} {p pos : Pos} {e : Expr} {es : List Expr} {t : TA} (h : Kp X.prog X.w X.K X.mg X.base CX k f ps sp) (hr : Room k X.A) (hg : Gl X x) (hm : X.mg x = some (.ref f)) (hx : Passes CX X E) (ha : PA X (e :: es) t)
    (hdb : (x == ("__debug__" : Str)) = false := by decide) (hs : starEach (e :: es) X.env = (false, eval e X.env) :: starEach es X.env := by rfl) (hpl : (backTo pos (starEach es X.env)).any (·.1) = false := by rfl) : PE X (.Call (.Name x p) (e :: es) [] pos) (tCall sp [] E t) := by
  obtain ⟨fd, F, b, kp⟩ := h
  exact pe_call F hr hg hm kp b .nil hx ha hdb hs hpl
section
variable {x v : Option V} {u : V} {Q : VK} {R : L2.St → Hp → Prop} {H : Hp}
theorem tVar_0 {σ : L2.St} : tVar 0 (some u :: σ) H Q = Q u H := by simp [tVar]
theorem gName_0 {σ : L2.St} : gName 0 u (x :: σ) H R = R (some u :: σ) H := rfl
theorem tVar_1 {x0 : Option V} {σ : L2.St} : tVar 1 (x0 :: some u :: σ) H Q = Q u H := by simp [tVar]
theorem gName_1 {x0 : Option V} {σ : L2.St} : gName 1 u (x0 :: x :: σ) H R = R (x0 :: some u :: σ) H := rfl
theorem tVar_2 {x0 x1 : Option V} {σ : L2.St} : tVar 2 (x0 :: x1 :: some u :: σ) H Q = Q u H := by simp [tVar]
theorem gName_2 {x0 x1 : Option V} {σ : L2.St} : gName 2 u (x0 :: x1 :: x :: σ) H R = R (x0 :: x1 :: some u :: σ) H := rfl
theorem tVar_3 {x0 x1 x2 : Option V} {σ : L2.St} : tVar 3 (x0 :: x1 :: x2 :: some u :: σ) H Q = Q u H := by simp [tVar]
theorem gName_3 {x0 x1 x2 : Option V} {σ : L2.St} : gName 3 u (x0 :: x1 :: x2 :: x :: σ) H R = R (x0 :: x1 :: x2 :: some u :: σ) H := rfl
theorem tVar_4 {x0 x1 x2 x3 : Option V} {σ : L2.St} : tVar 4 (x0 :: x1 :: x2 :: x3 :: some u :: σ) H Q = Q u H := by simp [tVar]
theorem gName_4 {x0 x1 x2 x3 : Option V} {σ : L2.St} : gName 4 u (x0 :: x1 :: x2 :: x3 :: x :: σ) H R = R (x0 :: x1 :: x2 :: x3 :: some u :: σ) H := rfl
theorem tVar_5 {x0 x1 x2 x3 x4 : Option V} {σ : L2.St} : tVar 5 (x0 :: x1 :: x2 :: x3 :: x4 :: some u :: σ) H Q = Q u H := by simp [tVar]
theorem gName_5 {x0 x1 x2 x3 x4 : Option V} {σ : L2.St} : gName 5 u (x0 :: x1 :: x2 :: x3 :: x4 :: x :: σ) H R = R (x0 :: x1 :: x2 :: x3 :: x4 :: some u :: σ) H := rfl
theorem tVar_6 {x0 x1 x2 x3 x4 x5 : Option V} {σ : L2.St} : tVar 6 (x0 :: x1 :: x2 :: x3 :: x4 :: x5 :: some u :: σ) H Q = Q u H := by simp [tVar]
theorem gName_6 {x0 x1 x2 x3 x4 x5 : Option V} {σ : L2.St} : gName 6 u (x0 :: x1 :: x2 :: x3 :: x4 :: x5 :: x :: σ) H R = R (x0 :: x1 :: x2 :: x3 :: x4 :: x5 :: some u :: σ) H := rfl
theorem tVar_7 {x0 x1 x2 x3 x4 x5 x6 : Option V} {σ : L2.St} : tVar 7 (x0 :: x1 :: x2 :: x3 :: x4 :: x5 :: x6 :: some u :: σ) H Q = Q u H := by simp [tVar]
theorem gName_7 {x0 x1 x2 x3 x4 x5 x6 : Option V} {σ : L2.St} : gName 7 u (x0 :: x1 :: x2 :: x3 :: x4 :: x5 :: x6 :: x :: σ) H R = R (x0 :: x1 :: x2 :: x3 :: x4 :: x5 :: x6 :: some u :: σ) H := rfl
theorem tVar_8 {x0 x1 x2 x3 x4 x5 x6 x7 : Option V} {σ : L2.St} : tVar 8 (x0 :: x1 :: x2 :: x3 :: x4 :: x5 :: x6 :: x7 :: some u :: σ) H Q = Q u H := by simp [tVar]
theorem gName_8 {x0 x1 x2 x3 x4 x5 x6 x7 : Option V} {σ : L2.St} : gName 8 u (x0 :: x1 :: x2 :: x3 :: x4 :: x5 :: x6 :: x7 :: x :: σ) H R = R (x0 :: x1 :: x2 :: x3 :: x4 :: x5 :: x6 :: x7 :: some u :: σ) H := rfl
theorem tVar_9 {x0 x1 x2 x3 x4 x5 x6 x7 x8 : Option V} {σ : L2.St} : tVar 9 (x0 :: x1 :: x2 :: x3 :: x4 :: x5 :: x6 :: x7 :: x8 :: some u :: σ) H Q = Q u H := by simp [tVar]
theorem gName_9 {x0 x1 x2 x3 x4 x5 x6 x7 x8 : Option V} {σ : L2.St} : gName 9 u (x0 :: x1 :: x2 :: x3 :: x4 :: x5 :: x6 :: x7 :: x8 :: x :: σ) H R = R (x0 :: x1 :: x2 :: x3 :: x4 :: x5 :: x6 :: x7 :: x8 :: some u :: σ) H := rfl
theorem tVar_10 {x0 x1 x2 x3 x4 x5 x6 x7 x8 x9 : Option V} {σ : L2.St} : tVar 10 (x0 :: x1 :: x2 :: x3 :: x4 :: x5 :: x6 :: x7 :: x8 :: x9 :: some u :: σ) H Q = Q u H := by simp [tVar]
theorem gName_10 {x0 x1 x2 x3 x4 x5 x6 x7 x8 x9 : Option V} {σ : L2.St} : gName 10 u (x0 :: x1 :: x2 :: x3 :: x4 :: x5 :: x6 :: x7 :: x8 :: x9 :: x :: σ) H R = R (x0 :: x1 :: x2 :: x3 :: x4 :: x5 :: x6 :: x7 :: x8 :: x9 :: some u :: σ) H := rfl
theorem tVar_11 {x0 x1 x2 x3 x4 x5 x6 x7 x8 x9 x10 : Option V} {σ : L2.St} : tVar 11 (x0 :: x1 :: x2 :: x3 :: x4 :: x5 :: x6 :: x7 :: x8 :: x9 :: x10 :: some u :: σ) H Q = Q u H := by simp [tVar]
theorem gName_11 {x0 x1 x2 x3 x4 x5 x6 x7 x8 x9 x10 : Option V} {σ : L2.St} : gName 11 u (x0 :: x1 :: x2 :: x3 :: x4 :: x5 :: x6 :: x7 :: x8 :: x9 :: x10 :: x :: σ) H R = R (x0 :: x1 :: x2 :: x3 :: x4 :: x5 :: x6 :: x7 :: x8 :: x9 :: x10 :: some u :: σ) H := rfl
theorem tVar_12 {x0 x1 x2 x3 x4 x5 x6 x7 x8 x9 x10 x11 : Option V} {σ : L2.St} : tVar 12 (x0 :: x1 :: x2 :: x3 :: x4 :: x5 :: x6 :: x7 :: x8 :: x9 :: x10 :: x11 :: some u :: σ) H Q = Q u H := by simp [tVar]
theorem gName_12 {x0 x1 x2 x3 x4 x5 x6 x7 x8 x9 x10 x11 : Option V} {σ : L2.St} : gName 12 u (x0 :: x1 :: x2 :: x3 :: x4 :: x5 :: x6 :: x7 :: x8 :: x9 :: x10 :: x11 :: x :: σ) H R = R (x0 :: x1 :: x2 :: x3 :: x4 :: x5 :: x6 :: x7 :: x8 :: x9 :: x10 :: x11 :: some u :: σ) H := rfl
theorem tVar_13 {x0 x1 x2 x3 x4 x5 x6 x7 x8 x9 x10 x11 x12 : Option V} {σ : L2.St} : tVar 13 (x0 :: x1 :: x2 :: x3 :: x4 :: x5 :: x6 :: x7 :: x8 :: x9 :: x10 :: x11 :: x12 :: some u :: σ) H Q = Q u H := by simp [tVar]
theorem gName_13 {x0 x1 x2 x3 x4 x5 x6 x7 x8 x9 x10 x11 x12 : Option V} {σ : L2.St} : gName 13 u (x0 :: x1 :: x2 :: x3 :: x4 :: x5 :: x6 :: x7 :: x8 :: x9 :: x10 :: x11 :: x12 :: x :: σ) H R = R (x0 :: x1 :: x2 :: x3 :: x4 :: x5 :: x6 :: x7 :: x8 :: x9 :: x10 :: x11 :: x12 :: some u :: σ) H := rfl
theorem tVar_14 {x0 x1 x2 x3 x4 x5 x6 x7 x8 x9 x10 x11 x12 x13 : Option V} {σ : L2.St} : tVar 14 (x0 :: x1 :: x2 :: x3 :: x4 :: x5 :: x6 :: x7 :: x8 :: x9 :: x10 :: x11 :: x12 :: x13 :: some u :: σ) H Q = Q u H := by simp [tVar]
theorem gName_14 {x0 x1 x2 x3 x4 x5 x6 x7 x8 x9 x10 x11 x12 x13 : Option V} {σ : L2.St} : gName 14 u (x0 :: x1 :: x2 :: x3 :: x4 :: x5 :: x6 :: x7 :: x8 :: x9 :: x10 :: x11 :: x12 :: x13 :: x :: σ) H R = R (x0 :: x1 :: x2 :: x3 :: x4 :: x5 :: x6 :: x7 :: x8 :: x9 :: x10 :: x11 :: x12 :: x13 :: some u :: σ) H := rfl
theorem tVar_15 {x0 x1 x2 x3 x4 x5 x6 x7 x8 x9 x10 x11 x12 x13 x14 : Option V} {σ : L2.St} : tVar 15 (x0 :: x1 :: x2 :: x3 :: x4 :: x5 :: x6 :: x7 :: x8 :: x9 :: x10 :: x11 :: x12 :: x13 :: x14 :: some u :: σ) H Q = Q u H := by simp [tVar]
theorem gName_15 {x0 x1 x2 x3 x4 x5 x6 x7 x8 x9 x10 x11 x12 x13 x14 : Option V} {σ : L2.St} : gName 15 u (x0 :: x1 :: x2 :: x3 :: x4 :: x5 :: x6 :: x7 :: x8 :: x9 :: x10 :: x11 :: x12 :: x13 :: x14 :: x :: σ) H R = R (x0 :: x1 :: x2 :: x3 :: x4 :: x5 :: x6 :: x7 :: x8 :: x9 :: x10 :: x11 :: x12 :: x13 :: x14 :: some u :: σ) H := rfl
end
theorem nox_K (X : Cx) : X.nox.K = X.K := rfl
theorem cxOf_K {CX : CXT} {P : Program} {w : World} {K : PySem.W.Frag} {mg : Str → Option Value} {base : Heap} {N : List Str} {q : Str} {sc : Scope} {f : Addr} {cdv : Value} {A : Around} {outer : List Env} {s : Shared} {H : Hp} {E : XK} : (cxOf CX P w K mg base N q sc f cdv A outer s H E).K = K := rfl
theorem blk_K (X : Cx) {s : Shared} {H : Hp} {sc : Scope} {e : Env} {fp : List Addr} : (X.blk s H sc e fp).K = X.K := rfl
theorem suite_K (X : Cx) {a : Addr} {l : List (Addr × Obj)} : (X.suite a l).K = X.K := rfl
/-- an object's making -/
theorem Kp.make {X : Cx} {CX : CXT} {k : Nat} {f C : Addr} {ps : List Str} {sp : Sp} {E : XK} {x : Str} {p pos : Pos} {e : Expr} {es : List Expr} {t : TA} (h : Kp X.prog X.w X.K X.mg X.base CX k f ps sp) (M : Mk X.K C f) (hr : Room (k + 1) X.A) (hg : Gl X x) (hm : X.mg x = some (.ref C)) (hx : Passes CX X E) (ha : PA X (e :: es) t)
    (hdb : (x == ("__debug__" : Str)) = false := by decide) (hs : starEach (e :: es) X.env = (false, eval e X.env) :: starEach es X.env := by rfl) (hpl : (backTo pos (starEach es X.env)).any (·.1) = false := by rfl) : PE X (.Call (.Name x p) (e :: es) [] pos) (tMake C sp [] E t) := by
  obtain ⟨fd, F, b, kp⟩ := h
  exact pe_make M F hr hg hm b .nil hx ha hdb hs hpl
/-- a pair into two names -/
abbrev gP (K : PySem.W.Frag) (i j : Nat) : TG := gTup K 2 (gCons (gName i) (gCons (gName j) gNil))
end Fs
set_option Elab.async false
set_option linter.all false
set_option maxRecDepth 100000
set_option maxHeartbeats 4000000
namespace Fs
open PySem PySem.Spec PyProof.Rows L2 FsX
open Evl (Ex Ex.refl Ex.trans Ex.new Ex.mut fresh_back)
section
variable {P : Program} {w : World} {K : PySem.W.Frag} {mg : Str → Option Value} {base : Heap}
def spIsBelow : Sp := fun vs H Q _ => ∃ (a b : Addr) (s t : List Nat), vs = [.ref a, .ref b] ∧ T H a s ∧ T H b t ∧ s.length = t.length ∧ ∀ H', Ex H H' → Q (.bl (Rs.isBelow s t)) H'
theorem below_step {s t : List Nat} {i m n : Nat} (hs : s[i]? = some m) (ht : t[i]? = some n) : Rs.isBelow (s.drop i) (t.drop i) = (decide (m ≤ n) && Rs.isBelow (s.drop (i + 1)) (t.drop (i + 1))) := by
  obtain ⟨h1, e1⟩ := List.getElem?_eq_some_iff.1 hs
  obtain ⟨h2, e2⟩ := List.getElem?_eq_some_iff.1 ht
  rw [List.drop_eq_getElem_cons h1, List.drop_eq_getElem_cons h2, e1, e2]; rfl
theorem k_is_below (z : Z K mg) : Kp P w K mg base CX0 1 (He.ga K "is_below") ["row", "other"] spIsBelow := by
  have nd := sc_is_below.nd
  refine kp0 (f_is_below z) sc_is_below (fun vs H Q E h => ?_) fun cdv A outer s H vs Q E hr h => ⟨_, pss_cons (ps_for PassesOwn.never rfl (RZ.pi_zipA (by rfl) (b_zip z) (pa_cons (pv 0) (pa_cons (pv 1) pa_nil))) (pg_tup rfl (pgs_cons (pg_name (i := 2) nd rfl (Or.inl rfl)) (pgs_cons (pg_name (i := 3) nd rfl (Or.inl rfl)) pgs_nil)))
      (pss_one (ps_if (pt_cmpR op_gt (pv 2) (pv 3) (nomark _)) (pss_one (ps_ret pe_bl)) pss_nil)))
    (pss_one (ps_ret pe_bl)), ?_⟩
  · obtain ⟨a, b, s, t, rfl, _⟩ := h; rfl
  · obtain ⟨a, b, s, t, rfl, ha, hb, hl, q⟩ := h
    refine ⟨_, rfl, _, rfl, a, b, nv s, nv t, rfl, .inr ⟨ha.sq, hb.sq, ?_⟩⟩
    refine for_it (walk_zipTT (xs := nv s) (ys := nv t) (by rw [nv_len, nv_len, hl])) (fun i σ H1 => ∃ u v, σ = [some (.ref a), some (.ref b), u, v] ∧ Ex H H1 ∧ Rs.isBelow s t = Rs.isBelow (s.drop i) (t.drop i)) ⟨_, _, rfl, Ex.refl _, rfl⟩ ?_ ?_ ?_
    · rintro i σ H1 _ ⟨u, v, _, e, _⟩
      exact ⟨(ha.ex e).sq, (hb.ex e).sq⟩
    · rintro i x σ H1 H2 hi ⟨u, v, rfl, e, eb⟩ ⟨p, x, y, rfl, hp, rfl, hx, hy⟩
      obtain ⟨m, hm, rfl⟩ := nv_get hx
      obtain ⟨n, hn, rfl⟩ := nv_get hy
      have st := below_step hm hn
      refine ⟨p, _, rfl, SqT.of upd_same, ?_⟩
      repeat (first | refine ⟨_, rfl, ?_⟩ | refine ⟨_, _, rfl, rfl, ?_⟩ | refine ⟨_, _, rfl, ?_⟩ | refine ⟨rfl, ?_⟩)
      refine ite2 (fun g => ?_) (fun g => ?_)
      · have q := q _ (e.trans (Ex.new (o := .tup [.int m, .int n]) hp))
        rw [eb, st, show decide (m ≤ n) = false by simpa using g, Bool.false_and] at q
        exact q
      · refine ⟨_, _, rfl, e.trans (Ex.new hp), ?_⟩
        rw [eb, st, show decide (m ≤ n) = true by simpa using g, Bool.true_and]
    · rintro σ H1 ⟨u, v, rfl, e, eb⟩
      have q := q _ e
      rw [eb, nv_len, List.drop_of_length_le (Nat.le_refl _), List.drop_of_length_le (by omega)] at q
      exact q
end
end Fs
set_option Elab.async false
set_option linter.all false
set_option maxRecDepth 100000
set_option maxHeartbeats 4000000
namespace Fs
open PySem PySem.Spec PyProof.Rows L2 FsX
open Evl (Ex Ex.refl Ex.trans Ex.new Ex.mut fresh_back)
section
variable {P : Program} {w : World} {K : PySem.W.Frag} {mg : Str → Option Value} {base : Heap}
/-- the highest number behind a row -/
def hi (row : List Nat) (top most onto : Nat) : Nat := if row.length - row.count 0 = onto then 0 else min top (most - row.sum)
def spHigh : Sp := fun vs H Q _ => ∃ (a : Addr) (s : List Nat) (t m o : Nat), vs = [.ref a, .int t, .int m, .int o] ∧ TZ H a s ∧ s.sum ≤ m ∧ Q (.int (hi s t m o : Nat)) H
theorem sum_cast : ∀ l : List Nat, (l.map Int.ofNat).sum = ((l.sum : Nat) : Int)
  | [] => rfl
  | a :: l => by simp only [List.map_cons, List.sum_cons, sum_cast l]; rfl
theorem count_cast (n : Nat) : ∀ l : List Nat, (l.map Int.ofNat).count (n : Int) = l.count n
  | [] => rfl
  | a :: l => by
    simp only [List.map_cons, List.count_cons, count_cast n l]
    congr 1
    by_cases h : a = n
    · subst h; simp
    · simp [h, show ¬ ((a : Int) = (n : Int)) from fun q => h (Int.ofNat.inj q)]
theorem k_high (z : Z K mg) : Kp P w K mg base CX0 1 (He.ga K "highest_next") ["row", "top", "most", "onto"] spHigh := by
  have nd := sc_highest_next.nd
  refine kp0 (f_highest_next z) sc_highest_next (fun vs H Q E h => ?_) fun cdv A outer s H vs Q E hr h => ⟨_,
    pss_cons (ps_if (pt_cmpR op_eq (pe_op op_sub ((pe_callB call_len_seq (by rfl) ((b_len z)) PySem.boot_len (pa_cons ((pv 0)) pa_nil))) (pe_tcntZ (pv 0) pe_int)) (pv 3) (nomark _)) (pss_one (ps_ret pe_int)) pss_nil)
    (pss_one (ps_ret (pe_callB (call_min2 rfl) (by rfl) (b_min z) (by decide +kernel) (pa_cons (pv 1) (pa_cons (pe_op op_sub (pv 2) (pe_callB (cr_sumT rfl) (by rfl) (b_sum z) (by decide +kernel) (pa_cons (pv 0) pa_nil))) pa_nil))))), ?_⟩
  · obtain ⟨a, s, t, m, o, rfl, _⟩ := h; rfl
  · obtain ⟨a, s, t, m, o, rfl, ha, hs, q⟩ := h
    obtain ⟨y, hy, hp⟩ := ha
    simp only [ tNil, tCons, tC, tDrop, tOp, rI0, tCB, rEq, rNe, tNext, tRet, tRetN, tSeq, tAsg, tAug, tTest, tIfS, tIf, tNot, tAnd, tOr, tBM, tBM0, tCall, tTup, tTupZ, tLst, tFld, sFld, tMeth, tMake, tB, tYes, tCmp, t2I, tIsN, tNotN, tDGet, tDGet1, tDGet2, tDIn, tDNotIn, tAndV, tOrV, tNotV, tDNewT, sDPut, tSl, tPart, tNoPart, rSlL, tThen, tCntZ, tFgt, tChain, gCons, gNil, gTup, rCatZ, rCatA, rCat, rAppend, rExtend, rIn, rInD, rNotInD, rEqD, rNeD, rIxL, rIxT, tSub, tAdd, tBreak, tCont, tPar, rSum, rSumT, rMaxT, tyV, L2.start, List.map_cons, List.map_nil, List.length_cons, List.length_nil, List.cons_append, List.nil_append, List.append_nil, List.replicate, Nat.reduceAdd, Nat.reduceSub, wipe, List.set_cons_zero, List.set_cons_succ, nox_K, cxOf_K, blk_K, suite_K, tVar_0, tVar_1, tVar_2, tVar_3, tVar_4, tVar_5, tVar_6, tVar_7, tVar_8, tVar_9, tVar_10, tVar_11, tVar_12, tVar_13, tVar_14, tVar_15, gName_0, gName_1, gName_2, gName_3, gName_4, gName_5, gName_6, gName_7, gName_8, gName_9, gName_10, gName_11, gName_12, gName_13, gName_14, gName_15, and_assoc, exists_eq_left', exists_eq_left, exists_eq, exists_eq', exists_and_left, exists_const, and_true, true_and, V.int.injEq, V.ref.injEq, V.bl.injEq, V.str.injEq, List.cons.injEq, and_self, scal, Bool.false_eq_true, if_false, if_true, reduceCtorEq, false_and, and_false, false_or, or_false, ↓reduceIte]
    refine ⟨_, .inr (TZ.sq ⟨y, hy, hp⟩), y, hy, s.map Int.ofNat, by rw [← nv_ints]; exact hp, by rw [← nv_ints]; exact hp, ?_⟩
    have hc : s.count 0 ≤ s.length := List.count_le_length
    have e : (((nv s).length : Nat) : Int) - ((s.map Int.ofNat).count 0 : Nat) = ((s.length - s.count 0 : Nat) : Int) := by
      rw [nv_len, show (0 : Int) = ((0 : Nat) : Int) from rfl, count_cast, Int.ofNat_sub hc]
    rw [e]
    refine ite2 (fun g => ?_) (fun g => ?_)
    · have g : s.length - s.count 0 = o := Int.ofNat.inj (by simpa using g)
      rw [hi, if_pos g] at q
      exact q
    · have g : ¬ s.length - s.count 0 = o := fun g' => g (by rw [g']; simp)
      rw [hi, if_neg g] at q
      refine ⟨s.map Int.ofNat, by rw [← nv_ints]; exact TZ.sq ⟨y, hy, hp⟩, ?_⟩
      rw [sum_cast]
      have : (if (m : Int) - (s.sum : Nat) < t then (m : Int) - (s.sum : Nat) else t) = ((min t (m - s.sum) : Nat) : Int) := by
        split <;> omega
      rw [this]
      exact q
end
end Fs
set_option Elab.async false
set_option linter.all false
set_option maxRecDepth 100000
set_option maxHeartbeats 4000000
namespace Fs
open PySem PySem.Spec PyProof.Rows L2 FsX
open Evl (Ex Ex.refl Ex.trans Ex.new Ex.mut fresh_back)
section
variable {P : Program} {w : World} {K : PySem.W.Frag} {mg : Str → Option Value} {base : Heap}
def growOf (row : List Nat) (top most onto : Nat) : List (List Nat) := (List.range (hi row top most onto + 1)).map fun n => row ++ [n]
def grow (rows : List (List Nat)) (top most onto : Nat) : List (List Nat) := rows.flatMap fun row => growOf row top most onto
def choices (tops : List Nat) (most onto : Nat) : List (List Nat) := tops.foldl (fun rows top => grow rows top most onto) [[]]
theorem choices_snoc (tops : List Nat) (t most onto : Nat) : choices (tops ++ [t]) most onto = grow (choices tops most onto) t most onto := by
  unfold choices; rw [List.foldl_append]; rfl
theorem growOf_sum {row r : List Nat} {top most onto : Nat} (h : row.sum ≤ most) (m : r ∈ growOf row top most onto) : r.sum ≤ most := by
  unfold growOf at m
  obtain ⟨n, hn, rfl⟩ := List.mem_map.1 m
  rw [List.mem_range] at hn
  rw [List.sum_append]
  simp only [List.sum_cons, List.sum_nil]
  unfold hi at hn
  split at hn <;> omega
theorem growOf_len (row : List Nat) (top most onto : Nat) (h : top ≤ 4) : (growOf row top most onto).length ≤ 5 := by
  unfold growOf
  rw [List.length_map, List.length_range]
  unfold hi
  split <;> omega
theorem grow_len (rows : List (List Nat)) (top most onto : Nat) (h : top ≤ 4) : (grow rows top most onto).length ≤ 5 * rows.length := by
  unfold grow
  induction rows with
  | nil => simp
  | cons a l ih =>
    rw [List.flatMap_cons, List.length_append, List.length_cons]
    have := growOf_len a top most onto h
    omega
theorem choices_ok (most onto : Nat) : ∀ (n : Nat) (tops : List Nat), tops.length = n → (∀ t, t ∈ tops → t ≤ 4) → (choices tops most onto).length ≤ 5 ^ n ∧ ∀ r, r ∈ choices tops most onto → r.sum ≤ most ∧ r.length = n
  | 0, tops, h, _ => by
    cases List.length_eq_zero_iff.1 h
    exact ⟨Nat.le_refl _, fun r hr => by cases List.mem_singleton.1 hr; exact ⟨Nat.zero_le _, rfl⟩⟩
  | n + 1, tops, h, ht => by
    obtain ⟨l, t, rfl⟩ : ∃ l t, tops = l ++ [t] := ⟨tops.dropLast, tops.getLast (by intro e; rw [e] at h; cases h), (List.dropLast_concat_getLast _).symm⟩
    obtain ⟨h1, h2⟩ := choices_ok most onto n l (by simpa using h) (fun x hx => ht x (List.mem_append_left _ hx))
    have ht4 := ht t (by simp)
    rw [choices_snoc]
    refine ⟨?_, fun r hr => ?_⟩
    · have := grow_len (choices l most onto) t most onto ht4
      rw [Nat.pow_succ]; omega
    · obtain ⟨row, hrow, hr⟩ := List.mem_flatMap.1 hr
      refine ⟨growOf_sum (h2 _ hrow).1 hr, ?_⟩
      obtain ⟨k, _, rfl⟩ := List.mem_map.1 hr
      rw [List.length_append, (h2 _ hrow).2]; rfl
/-- tuples made in the def -/
def TF (H0 : Hp) (H : Hp) (a : Addr) (s : List Nat) : Prop := TZ H a s ∧ H0 a = none
theorem mTF {H0 : Hp} : Mono (TF H0) := fun _ _ _ _ e h => ⟨mTZ _ _ _ _ e h.1, h.2⟩
theorem fgt_all (H0 H1 : Hp) (e : Ex H0 H1) : ∃ H2, Fgt H0 H1 H2 ∧ Ex H0 H2 ∧ ∀ l xs, LO (TF H0) H1 l xs → LO T H2 l xs := by
  refine ⟨fun a => match H0 a, H1 a with | none, some (.frz y (.tup xs)) => some (.tup xs) | _, o => o, fun a => ?_, fun a o ha => ?_, fun l xs ⟨as, h1, h2⟩ => ⟨as, ?_, Paired.mapP h2 fun a b r => ?_⟩⟩
  · cases h0 : H0 a with
    | some u => exact .inl (by simp [h0])
    | none =>
      cases h1 : H1 a with
      | none => exact .inl (by simp [h0, h1])
      | some u =>
        cases u with
        | frz y v =>
          cases v with
          | tup xs => exact .inr ⟨rfl, y, xs, rfl, by simp [h0, h1]⟩
          | _ => exact .inl (by simp [h0, h1])
        | _ => exact .inl (by simp [h0, h1])
  · simp only [ha, e _ _ ha]
  · cases h0 : H0 l with
    | some u => simp [h0, h1]
    | none => simp [h0, h1]
  · obtain ⟨⟨y, _, h3⟩, h4⟩ := r
    show _ = _
    simp [h4, h3]
def spChoices : Sp := fun vs H Q _ => ∃ (a : Addr) (tops : List Nat) (m o : Nat), vs = [.ref a, .int m, .int o] ∧ L H a tops ∧ tops.length ≤ 3 ∧ (∀ t, t ∈ tops → t ≤ 4) ∧ ∀ r H', Ex H H' → LO T H' r (choices tops m o) → Q (.ref r) H'
theorem k_choices (z : Z K mg) : Kp P w K mg base CX0 2 (He.ga K "choices") ["tops", "most", "onto"] spChoices := by
  have nd := sc_choices.nd
  refine kp0 (f_choices z) sc_choices (fun vs H Q E h => ?_) fun cdv A outer s H vs Q E hr h => ⟨_,
    pss_cons ((ps_set (i := 3) nd rfl (by first | exact Or.inl rfl | exact Or.inr rfl) ((pe_lst (pa_cons (pe_tupZ pa_nil) pa_nil)))))
    (pss_cons (ps_for PassesOwn.never rfl (pi_list (pv 0)) ((pg_name (i := 4) nd rfl (by first | exact Or.inl rfl | exact Or.inr rfl))) (pss_cons ((ps_set (i := 5) nd rfl (by first | exact Or.inl rfl | exact Or.inr rfl) ((pe_lst pa_nil)))) (pss_cons (ps_for PassesOwn.never rfl (pi_list (pv 3)) ((pg_name (i := 6) nd rfl (by first | exact Or.inl rfl | exact Or.inr rfl)))
        (pss_one (ps_for PassesOwn.never rfl (pi_range1 (by rfl) (b_range z) (pa_cons (pe_op op_add ((Kp.call ((k_high z)) (Room.mono (hr) (by decide)) (by rfl) ((g_highest_next z)) pass0 ((pa_cons (pv 6) (pa_cons (pv 4) (pa_cons (pv 1) (pa_cons (pv 2) pa_nil))))))) pe_int) pa_nil)) ((pg_name (i := 7) nd rfl (by first | exact Or.inl rfl | exact Or.inr rfl)))
          (pss_one ((ps_expr (pe_bm PySem.F.plainAttrs_list PySem.F.slot_list_append PySem.F.type_list_append mt_append ((pv 5)) (pa_cons ((pe_op op_catZ (pv 6) (pe_tupZ (pa_cons (pv 7) pa_nil)))) pa_nil))))))))
      (pss_one ((ps_set (i := 3) nd rfl (by first | exact Or.inl rfl | exact Or.inr rfl) ((pv 5))))))))
    (pss_one (ps_ret (pe_fgt (pv 3))))), ?_⟩
  · obtain ⟨a, t, m, o, rfl, _⟩ := h; rfl
  · obtain ⟨a, t, m, o, rfl, ha, hl, ht, q⟩ := h
    simp only [ tNil, tCons, tC, tDrop, tOp, rI0, tCB, rEq, rNe, tNext, tRet, tRetN, tSeq, tAsg, tAug, tTest, tIfS, tIf, tNot, tAnd, tOr, tBM, tBM0, tCall, tTup, tTupZ, tLst, tFld, sFld, tMeth, tMake, tB, tYes, tCmp, t2I, tIsN, tNotN, tDGet, tDGet1, tDGet2, tDIn, tDNotIn, tAndV, tOrV, tNotV, tDNewT, sDPut, tSl, tPart, tNoPart, rSlL, tThen, tCntZ, tFgt, tChain, gCons, gNil, gTup, rCatZ, rCatA, rCat, rAppend, rExtend, rIn, rInD, rNotInD, rEqD, rNeD, rIxL, rIxT, tSub, tAdd, tBreak, tCont, tPar, rSum, rSumT, rMaxT, tyV, L2.start, List.map_cons, List.map_nil, List.length_cons, List.length_nil, List.cons_append, List.nil_append, List.append_nil, List.replicate, Nat.reduceAdd, Nat.reduceSub, wipe, List.set_cons_zero, List.set_cons_succ, nox_K, cxOf_K, blk_K, suite_K, tVar_0, tVar_1, tVar_2, tVar_3, tVar_4, tVar_5, tVar_6, tVar_7, tVar_8, tVar_9, tVar_10, tVar_11, tVar_12, tVar_13, tVar_14, tVar_15, gName_0, gName_1, gName_2, gName_3, gName_4, gName_5, gName_6, gName_7, gName_8, gName_9, gName_10, gName_11, gName_12, gName_13, gName_14, gName_15, and_assoc, exists_eq_left', exists_eq_left, exists_eq, exists_eq', exists_and_left, exists_const, and_true, true_and, V.int.injEq, V.ref.injEq, V.bl.injEq, V.str.injEq, List.cons.injEq, and_self, scal, Bool.false_eq_true, if_false, if_true, reduceCtorEq, false_and, and_false, false_or, or_false, ↓reduceIte]
    refine ⟨by decide, fun p y hy hp => ⟨by decide, fun r hrn => ?_⟩⟩
    have ep : Ex H (upd H p (.frz y (.tup []))) := Ex.new hp
    have er : Ex H (upd (upd H p (.frz y (.tup []))) r (.lst [.ref p])) := ep.trans (Ex.new hrn)
    refine ⟨_, rfl, a, rfl, ⟨_, (ha.ex er).sq⟩, for_list (xs := nv t) (fun i σ H1 => ∃ r u4 u5 u6 u7, σ = [some (.ref a), some (.int m), some (.int o), some (.ref r), u4, u5, u6, u7] ∧ Ex H H1 ∧ LO (TF H) H1 r (choices (t.take i) m o)) ⟨r, _, _, _, _, rfl, er, [p], upd_same, .cons ⟨⟨y, hy, ?_⟩, hp⟩ .nil⟩ ?_ ?_ ?_⟩
    · rw [upd_ne (ne_of_none upd_same hrn)]; exact upd_same
    · rintro i σ H1 _ ⟨r, u4, u5, u6, u7, _, e, _⟩
      exact (ha.ex e).sq
    · rintro i x σ H1 hx ⟨r, u4, u5, u6, u7, rfl, e, hrows⟩
      obtain ⟨top, htop, rfl⟩ := nv_get hx
      simp only [ tNil, tCons, tC, tDrop, tOp, rI0, tCB, rEq, rNe, tNext, tRet, tRetN, tSeq, tAsg, tAug, tTest, tIfS, tIf, tNot, tAnd, tOr, tBM, tBM0, tCall, tTup, tTupZ, tLst, tFld, sFld, tMeth, tMake, tB, tYes, tCmp, t2I, tIsN, tNotN, tDGet, tDGet1, tDGet2, tDIn, tDNotIn, tAndV, tOrV, tNotV, tDNewT, sDPut, tSl, tPart, tNoPart, rSlL, tThen, tCntZ, tFgt, tChain, gCons, gNil, gTup, rCatZ, rCatA, rCat, rAppend, rExtend, rIn, rInD, rNotInD, rEqD, rNeD, rIxL, rIxT, tSub, tAdd, tBreak, tCont, tPar, rSum, rSumT, rMaxT, tyV, L2.start, List.map_cons, List.map_nil, List.length_cons, List.length_nil, List.cons_append, List.nil_append, List.append_nil, List.replicate, Nat.reduceAdd, Nat.reduceSub, wipe, List.set_cons_zero, List.set_cons_succ, nox_K, cxOf_K, blk_K, suite_K, tVar_0, tVar_1, tVar_2, tVar_3, tVar_4, tVar_5, tVar_6, tVar_7, tVar_8, tVar_9, tVar_10, tVar_11, tVar_12, tVar_13, tVar_14, tVar_15, gName_0, gName_1, gName_2, gName_3, gName_4, gName_5, gName_6, gName_7, gName_8, gName_9, gName_10, gName_11, gName_12, gName_13, gName_14, gName_15, and_assoc, exists_eq_left', exists_eq_left, exists_eq, exists_eq', exists_and_left, exists_const, and_true, true_and, V.int.injEq, V.ref.injEq, V.bl.injEq, V.str.injEq, List.cons.injEq, and_self, scal, Bool.false_eq_true, if_false, if_true, reduceCtorEq, false_and, and_false, false_or, or_false, ↓reduceIte]
      refine ⟨by decide, fun l hln => ?_⟩
      obtain ⟨as, hrows⟩ := hrows
      have htop4 := ht top (List.mem_of_getElem? htop)
      have hco := choices_ok m o (t.take i).length (t.take i) rfl (fun x hx => ht x (List.mem_of_mem_take hx))
      have hl3 : (t.take i).length ≤ 3 := by rw [List.length_take]; omega
      have hbig : (choices (t.take i) m o).length ≤ 125 := Nat.le_trans hco.1 (Nat.pow_le_pow_right (by decide) hl3)
      have hHl : H l = none := fresh_back e hln
      refine ⟨_, rfl, r, rfl, ⟨_, (LA.ex hrows mTF (Ex.new hln)).sq⟩, for_la (R := TF H) (as := as) (xs := choices (t.take i) m o) (fun j σ H2 => ∃ u6 u7, σ = [some (.ref a), some (.int m), some (.int o), some (.ref r), some (.int top), some (.ref l), u6, u7] ∧ Ex H1 H2 ∧ LX (TF H) H2 l (grow ((choices (t.take i) m o).take j) top m o)) ⟨_, _, rfl, Ex.new hln, LX.new⟩ ?_ ?_ ?_⟩
      · rintro j σ H2 ⟨_, _, _, e2, _⟩
        exact LA.ex hrows mTF e2
      · rintro j p row σ H2 hrow has _ ⟨u6, u7, rfl, e2, hx2⟩
        have hp1 : TF H H1 p row := LA.at hrows has hrow
        have hp := mTF _ _ _ _ e2 hp1
        have hrm := hco.2 row (List.mem_of_getElem? hrow)
        have hpre : (grow ((choices (t.take i) m o).take j) top m o).length ≤ 625 := Nat.le_trans (grow_len _ _ _ _ htop4) (by rw [List.length_take]; omega)
        have hh : hi row top m o ≤ 4 := by unfold hi; split <;> omega
        refine ⟨_, rfl, _, rfl, _, rfl, _, rfl, p, row, top, m, o, rfl, hp.1, hrm.1, _, _, rfl, rfl, _, rfl, by omega, by omega, for_range (lo := 0) (n := hi row top m o + 1) (fun k σ H3 => ∃ u7, σ = [some (.ref a), some (.int m), some (.int o), some (.ref r), some (.int top), some (.ref l), some (.ref p), u7] ∧ Ex H1 H3 ∧ LX (TF H) H3 l (grow ((choices (t.take i) m o).take j) top m o ++ (List.range k).map fun n => row ++ [n])) ⟨_, rfl, e2, by rw [List.range_zero, List.map_nil, List.append_nil]; exact hx2⟩ ?_ ?_⟩
        · rintro k σ H3 hk ⟨u7, rfl, e3, hx3⟩
          rw [Int.zero_add]
          simp only [ tNil, tCons, tC, tDrop, tOp, rI0, tCB, rEq, rNe, tNext, tRet, tRetN, tSeq, tAsg, tAug, tTest, tIfS, tIf, tNot, tAnd, tOr, tBM, tBM0, tCall, tTup, tTupZ, tLst, tFld, sFld, tMeth, tMake, tB, tYes, tCmp, t2I, tIsN, tNotN, tDGet, tDGet1, tDGet2, tDIn, tDNotIn, tAndV, tOrV, tNotV, tDNewT, sDPut, tSl, tPart, tNoPart, rSlL, tThen, tCntZ, tFgt, tChain, gCons, gNil, gTup, rCatZ, rCatA, rCat, rAppend, rExtend, rIn, rInD, rNotInD, rEqD, rNeD, rIxL, rIxT, tSub, tAdd, tBreak, tCont, tPar, rSum, rSumT, rMaxT, tyV, L2.start, List.map_cons, List.map_nil, List.length_cons, List.length_nil, List.cons_append, List.nil_append, List.append_nil, List.replicate, Nat.reduceAdd, Nat.reduceSub, wipe, List.set_cons_zero, List.set_cons_succ, nox_K, cxOf_K, blk_K, suite_K, tVar_0, tVar_1, tVar_2, tVar_3, tVar_4, tVar_5, tVar_6, tVar_7, tVar_8, tVar_9, tVar_10, tVar_11, tVar_12, tVar_13, tVar_14, tVar_15, gName_0, gName_1, gName_2, gName_3, gName_4, gName_5, gName_6, gName_7, gName_8, gName_9, gName_10, gName_11, gName_12, gName_13, gName_14, gName_15, and_assoc, exists_eq_left', exists_eq_left, exists_eq, exists_eq', exists_and_left, exists_const, and_true, true_and, V.int.injEq, V.ref.injEq, V.bl.injEq, V.str.injEq, List.cons.injEq, and_self, scal, Bool.false_eq_true, if_false, if_true, reduceCtorEq, false_and, and_false, false_or, or_false, ↓reduceIte]
          have hp3 : TF H H3 p row := mTF _ _ _ _ e3 hp1
          obtain ⟨vs0, hv0, hlen0⟩ := hx3.len
          rw [List.length_append, List.length_map, List.length_range] at hlen0
          have key : ∀ (q : Addr) (y : Obj) (H' : Hp), Zo y → Ex H3 H' → H3 q = none → H' q = some (.frz y (.tup (nv (row ++ [k])))) → ∃ x, H' l = some (.lst x) ∧ x.length < sizeLine ∧ Ex H1 (upd H' l (.lst (x ++ [V.ref q]))) ∧ LX (TF H) (upd H' l (.lst (x ++ [V.ref q]))) l (grow ((choices (t.take i) m o).take j) top m o ++ (List.range (k + 1)).map fun n => row ++ [n]) := by
            intro q y H' hy e' hq hq'
            have ql : q ≠ l := fun e => by rw [e, hv0] at hq; cases hq
            obtain ⟨vs, h1, h2, h3⟩ := hx3.app mTF e' (y := row ++ [k]) (p := q) ⟨⟨y, hy, by rw [del_ne ql]; exact hq'⟩, fresh_back (e.trans e3) hq⟩
            refine ⟨vs, h1, ?_, Ex.mut (e3.trans e') hln, ?_⟩
            · rw [h2, List.length_append, List.length_map, List.length_range, sizeLine_eq]; omega
            · rw [List.range_succ, List.map_append, ← List.append_assoc]; exact h3
          refine ⟨.inl ⟨_, SqL.of hv0⟩, by decide, fun p1 y1 hy1 hp1n => ⟨nv row, (mTF _ _ _ _ (Ex.new hp1n) hp3).1.sq, [.int k], .inl (.inr ⟨y1, upd_same⟩), ?_, fun e0 => ?_, (fun _ e1 => by cases e1), fun e0 _ p2 y2 hy2 hp2 => ?_⟩⟩
          · rw [nv_len, hrm.2, sizeLine_eq]; show _ + 1 ≤ _; omega
          · have er : row = [] := List.map_eq_nil_iff.1 e0
            refine key p1 y1 _ hy1 (Ex.new hp1n) hp1n ?_
            rw [er]; exact upd_same
          · refine key p2 y2 _ hy2 ((Ex.new hp1n).trans (Ex.new hp2)) (fresh_back (Ex.new hp1n) hp2) ?_
            rw [nv_app]; exact upd_same
        · rintro σ H3 ⟨u7, rfl, e3, hx3⟩
          refine ⟨_, _, rfl, e3, ?_⟩
          rw [List.take_add_one, hrow]
          unfold grow
          rw [List.flatMap_append]
          simpa [growOf, grow] using hx3
      · rintro σ H2 ⟨u6, u7, rfl, e2, hx2⟩
        rw [List.take_length] at hx2
        refine ⟨_, rfl, l, _, _, _, _, rfl, e.trans e2, ?_⟩
        rw [List.take_add_one, htop]
        have := hx2.lo mTF
        rw [← choices_snoc] at this
        simpa using this
    · rintro σ H1 ⟨r, u4, u5, u6, u7, rfl, e, hrows⟩
      simp only [ tNil, tCons, tC, tDrop, tOp, rI0, tCB, rEq, rNe, tNext, tRet, tRetN, tSeq, tAsg, tAug, tTest, tIfS, tIf, tNot, tAnd, tOr, tBM, tBM0, tCall, tTup, tTupZ, tLst, tFld, sFld, tMeth, tMake, tB, tYes, tCmp, t2I, tIsN, tNotN, tDGet, tDGet1, tDGet2, tDIn, tDNotIn, tAndV, tOrV, tNotV, tDNewT, sDPut, tSl, tPart, tNoPart, rSlL, tThen, tCntZ, tFgt, tChain, gCons, gNil, gTup, rCatZ, rCatA, rCat, rAppend, rExtend, rIn, rInD, rNotInD, rEqD, rNeD, rIxL, rIxT, tSub, tAdd, tBreak, tCont, tPar, rSum, rSumT, rMaxT, tyV, L2.start, List.map_cons, List.map_nil, List.length_cons, List.length_nil, List.cons_append, List.nil_append, List.append_nil, List.replicate, Nat.reduceAdd, Nat.reduceSub, wipe, List.set_cons_zero, List.set_cons_succ, nox_K, cxOf_K, blk_K, suite_K, tVar_0, tVar_1, tVar_2, tVar_3, tVar_4, tVar_5, tVar_6, tVar_7, tVar_8, tVar_9, tVar_10, tVar_11, tVar_12, tVar_13, tVar_14, tVar_15, gName_0, gName_1, gName_2, gName_3, gName_4, gName_5, gName_6, gName_7, gName_8, gName_9, gName_10, gName_11, gName_12, gName_13, gName_14, gName_15, and_assoc, exists_eq_left', exists_eq_left, exists_eq, exists_eq', exists_and_left, exists_const, and_true, true_and, V.int.injEq, V.ref.injEq, V.bl.injEq, V.str.injEq, List.cons.injEq, and_self, scal, Bool.false_eq_true, if_false, if_true, reduceCtorEq, false_and, and_false, false_or, or_false, ↓reduceIte]
      obtain ⟨H2, f, e2, k⟩ := fgt_all H H1 e
      rw [nv_len, List.take_length] at hrows
      exact ⟨H2, f, q _ _ e2 (k _ _ hrows)⟩
end
end Fs
set_option Elab.async false
set_option linter.all false
set_option maxRecDepth 100000
set_option maxHeartbeats 4000000
namespace Fs
open Rs
theorem total_sum (l : List Nat) : totalOf l = l.sum := rfl
theorem total_app (a b : List Nat) : totalOf (a ++ b) = totalOf a + totalOf b := by rw [total_sum, total_sum, total_sum, List.sum_append]
theorem ones_app (a b : List Nat) : onesOf (a ++ b) = onesOf a + onesOf b := by simp [onesOf]
theorem ones_count : ∀ l : List Nat, l.length - l.count 0 = onesOf l ∧ l.count 0 + onesOf l = l.length
  | [] => ⟨rfl, rfl⟩
  | a :: l => by
    have := (ones_count l).2
    have h : (a :: l).count 0 + onesOf (a :: l) = (a :: l).length := by
      rw [List.count_cons, List.length_cons]
      unfold onesOf at this ⊢
      cases a with
      | zero => simp; omega
      | succ n => simp; omega
    exact ⟨by omega, h⟩
theorem vectors_snoc : ∀ (tops : List Nat) (t : Nat), vectors (tops ++ [t]) = (vectors tops).flatMap fun v => (List.range (t + 1)).map fun n => v ++ [n]
  | [], t => by
    show (List.range (t + 1)).flatMap (fun x => [[]].map fun v => x :: v) = _
    have : ∀ l : List Nat, l.flatMap (fun x => [[]].map fun v => x :: v) = l.map fun n => [n] := fun l => by
      induction l with
      | nil => rfl
      | cons a l ih => rw [List.flatMap_cons, ih]; rfl
    rw [this]; simp [vectors]
  | c :: l, t => by
    show (List.range (c + 1)).flatMap (fun x => (vectors (l ++ [t])).map fun v => x :: v) = _
    rw [vectors_snoc l t]
    show _ = ((List.range (c + 1)).flatMap fun x => (vectors l).map fun v => x :: v).flatMap _
    rw [List.flatMap_assoc]
    congr 1
    funext x
    rw [List.flatMap_map, List.map_flatMap]
    congr 1
    funext v
    rw [List.map_map]; rfl
theorem range_filter (h : Nat) : ∀ t : Nat, h ≤ t → (List.range (t + 1)).filter (fun n => decide (n ≤ h)) = List.range (h + 1) := by
  intro t ht
  induction t with
  | zero => cases Nat.le_zero.1 ht; rfl
  | succ t ih =>
    rw [List.range_succ, List.filter_append]
    by_cases e : h = t + 1
    · subst e
      rw [List.filter_eq_self.2 (by intro a ha; rw [List.mem_range] at ha; simpa using (by omega : a ≤ t + 1))]
      simp [List.range_succ]
    · rw [ih (by omega)]
      simp; omega
/-- what a choice may be -/
def fits (most onto : Nat) (v : List Nat) : Bool := decide (totalOf v ≤ most) && decide (onesOf v ≤ onto)
theorem filter_grow (v : List Nat) (t most onto : Nat) : ((List.range (t + 1)).map fun n => v ++ [n]).filter (fits most onto) = if fits most onto v then growOf v t most onto else [] := by
  rw [List.filter_map]
  have e : (fits most onto ∘ fun n => v ++ [n]) = fun n => decide (totalOf v + n ≤ most) && decide (onesOf v + (if 0 < n then 1 else 0) ≤ onto) := by
    funext n
    show (decide (totalOf (v ++ [n]) ≤ most) && decide (onesOf (v ++ [n]) ≤ onto)) = _
    rw [total_app, ones_app]
    have : onesOf [n] = if 0 < n then 1 else 0 := by by_cases h : 0 < n <;> simp [onesOf, h]
    rw [this]; rfl
  rw [e]
  cases hf : fits most onto v with
  | false =>
    rw [List.filter_eq_nil_iff.2]
    · rfl
    · intro n _ h
      simp only [fits, Bool.and_eq_false_iff, decide_eq_false_iff_not] at hf
      simp only [Bool.and_eq_true, decide_eq_true_eq] at h
      rcases hf with hf | hf
      · omega
      · have := h.2; split at this <;> omega
  | true =>
    simp only [fits, Bool.and_eq_true, decide_eq_true_eq] at hf
    rw [if_pos rfl]
    unfold growOf
    congr 1
    have hi_eq : hi v t most onto = if onesOf v = onto then 0 else min t (most - totalOf v) := by
      unfold hi; rw [(ones_count v).1]; rfl
    rw [hi_eq, ← range_filter (if onesOf v = onto then 0 else min t (most - totalOf v)) t (by split <;> omega)]
    refine List.filter_congr fun n hn => ?_
    rw [List.mem_range] at hn
    rw [Bool.eq_iff_iff]
    simp only [Bool.and_eq_true, decide_eq_true_eq]
    split <;> split <;> omega
theorem choices_vectors (most onto : Nat) : ∀ (n : Nat) (tops : List Nat), tops.length = n → choices tops most onto = (vectors tops).filter (fits most onto)
  | 0, tops, h => by
    cases List.length_eq_zero_iff.1 h
    simp [choices, vectors, fits, totalOf, onesOf]
  | n + 1, tops, h => by
    obtain ⟨l, t, rfl⟩ : ∃ l t, tops = l ++ [t] := ⟨tops.dropLast, tops.getLast (by intro e; rw [e] at h; cases h), (List.dropLast_concat_getLast _).symm⟩
    rw [choices_snoc, choices_vectors most onto n l (by simpa using h), vectors_snoc, List.filter_flatMap]
    unfold grow
    generalize vectors l = vs
    induction vs with
    | nil => rfl
    | cons v vs ih =>
      rw [List.flatMap_cons, ← ih, filter_grow]
      by_cases hf : fits most onto v = true
      · rw [List.filter_cons_of_pos hf, List.flatMap_cons, if_pos hf]
      · rw [List.filter_cons_of_neg hf, if_neg hf]; rfl
theorem mem_vectors : ∀ {tops v : List Nat}, v ∈ vectors tops → v.length = tops.length ∧ totalOf v ≤ totalOf tops ∧ onesOf v ≤ tops.length
  | [], v, h => by cases List.mem_singleton.1 h; exact ⟨rfl, Nat.le_refl _, Nat.le_refl _⟩
  | c :: l, v, h => by
    obtain ⟨x, hx, h⟩ := List.mem_flatMap.1 h
    obtain ⟨u, hu, rfl⟩ := List.mem_map.1 h
    obtain ⟨h1, h2, h3⟩ := mem_vectors hu
    rw [List.mem_range] at hx
    refine ⟨by simp [h1], ?_, ?_⟩
    · show x + totalOf u ≤ c + totalOf l; omega
    · have := ones_app [x] u
      have : onesOf [x] ≤ 1 := by unfold onesOf; exact List.length_filter_le ..
      rw [show x :: u = [x] ++ u from rfl, ones_app, List.length_cons]; omega
theorem stocks_eq (p : Shop) : choices (roomsOf p) (roomsOf p).sum (roomsOf p).length = stocksOf p := by
  rw [choices_vectors _ _ _ _ rfl, List.filter_eq_self.2]
  · rfl
  · intro v hv
    obtain ⟨_, h2, h3⟩ := mem_vectors hv
    simp only [fits, Bool.and_eq_true, decide_eq_true_eq]
    exact ⟨h2, h3⟩
theorem fillings_eq (p : Shop) (s : Stock) : choices (minus (roomsOf p) s) p.items p.onto = fillings p s := choices_vectors _ _ _ _ rfl
theorem takings_eq (p : Shop) : choices (p.shelves.map fun _ => p.ofOne) p.taken (roomsOf p).length = takings p := by
  rw [choices_vectors _ _ _ _ rfl]
  unfold takings
  refine List.filter_congr fun v hv => ?_
  obtain ⟨_, _, h3⟩ := mem_vectors hv
  rw [List.length_map] at h3
  unfold fits
  rw [show (roomsOf p).length = p.shelves.length from List.length_map _, decide_eq_true (p := onesOf v ≤ p.shelves.length) h3, Bool.and_true]
end Fs
set_option Elab.async false
set_option linter.all false
set_option maxRecDepth 100000
set_option maxHeartbeats 4000000
namespace Fs
open PySem PySem.Spec PyProof.Rows L2 FsX
open Evl (Ex Ex.refl Ex.trans Ex.new Ex.mut fresh_back)
/-- a shop that a text can tell -/
structure Ok (p : Rs.Shop) : Prop where
  n1 : 1 ≤ p.shelves.length
  n3 : p.shelves.length ≤ 3
  room : ∀ s, s ∈ p.shelves → 1 ≤ s.room ∧ s.room ≤ 4
  t4 : p.taken ≤ 4
  o4 : p.ofOne ≤ 4
  i9 : p.items ≤ 9
  m3 : p.onto ≤ 3
  nm : ∀ s, s ∈ p.shelves → s.name.length ≤ 8 ∧ ∀ c, c ∈ s.name → c.toNat < 256
def namesOf (p : Rs.Shop) : List (List Nat) := p.shelves.map fun s => s.name.map fun c => c.toNat
/-- a shop stands here -/
def ShopAt (C : Addr) (H : Hp) (a : Addr) (p : Rs.Shop) : Prop := Ok p ∧ ∃ (dx : Addr) (fs : List (Str × V)) (n r : Addr), H a = some (.ins C dx fs) ∧ fs.lookup ("names" : Str) = some (.ref n) ∧ fs.lookup ("rooms" : Str) = some (.ref r) ∧ fs.lookup ("wanted" : Str) = some (.int p.taken) ∧ fs.lookup ("wanted_of_one" : Str) = some (.int p.ofOne) ∧
  fs.lookup ("put" : Str) = some (.int p.items) ∧ fs.lookup ("onto" : Str) = some (.int p.onto) ∧ LO L H n (namesOf p) ∧ L H r (Rs.roomsOf p)
theorem mShop {C : Addr} : Mono (ShopAt C) := fun H H' a p e h => by
  obtain ⟨k, dx, fs, n, r, h0, h1, h2, h3, h4, h5, h6, h7, h8⟩ := h
  exact ⟨k, dx, fs, n, r, e _ _ h0, h1, h2, h3, h4, h5, h6, mLO mL _ _ _ _ e h7, mL _ _ _ _ e h8⟩
theorem Ok.rooms {p : Rs.Shop} (h : Ok p) : (Rs.roomsOf p).length = p.shelves.length ∧ ∀ t, t ∈ Rs.roomsOf p → 1 ≤ t ∧ t ≤ 4 := ⟨List.length_map _, fun t ht => by
  obtain ⟨s, hs, rfl⟩ := List.mem_map.1 ht
  exact h.room s hs⟩
section
variable {P : Program} {w : World} {K : PySem.W.Frag} {mg : Str → Option Value} {base : Heap}
abbrev SH (K : PySem.W.Frag) : Addr := He.ga K "Shop"
def spStocks (K : PySem.W.Frag) : Sp := fun vs H Q _ => ∃ (a : Addr) (p : Rs.Shop), vs = [.ref a] ∧ ShopAt (SH K) H a p ∧ ∀ r H', Ex H H' → LO T H' r (Rs.stocksOf p) → Q (.ref r) H'
theorem k_stocks (z : Z K mg) : Kp P w K mg base CX0 3 (He.ga K "stocks_of") ["shop"] (spStocks K) := by
  have nd := sc_stocks_of.nd
  refine kp0 (f_stocks_of z) sc_stocks_of (fun vs H Q E h => ?_) fun cdv A outer s H vs Q E hr h => ⟨_,
    pss_one (ps_ret ((Kp.call ((k_choices z)) (Room.mono (hr) (by decide)) (by rfl) ((g_choices z)) pass0 ((pa_cons (pe_fld (pv 0) rfl) (pa_cons (pe_callB (cr_sum rfl) (by rfl) (b_sum z) (by decide +kernel) (pa_cons (pe_fld (pv 0) rfl) pa_nil)) (pa_cons ((pe_callB call_len_seq (by rfl) ((b_len z)) PySem.boot_len (pa_cons ((pe_fld (pv 0) rfl)) pa_nil))) pa_nil))))))), ?_⟩
  · obtain ⟨a, p, rfl, _⟩ := h; rfl
  · obtain ⟨a, p, rfl, ⟨ok, dx, fs, n, r, h0, h1, h2, h3, h4, h5, h6, h7, h8⟩, q⟩ := h
    simp only [h0, h2, cl_Shop z, na_Shop_rooms z, Option.some.injEq, HO.ins.injEq, tNil, tCons, tC, tDrop, tOp, rI0, tCB, rEq, rNe, tNext, tRet, tRetN, tSeq, tAsg, tAug, tTest, tIfS, tIf, tNot, tAnd, tOr, tBM, tBM0, tCall, tTup, tTupZ, tLst, tFld, sFld, tMeth, tMake, tB, tYes, tCmp, t2I, tIsN, tNotN, tDGet, tDGet1, tDGet2, tDIn, tDNotIn, tAndV, tOrV, tNotV, tDNewT, sDPut, tSl, tPart, tNoPart, rSlL, tThen, tCntZ, tFgt, tChain, gCons, gNil, gTup, rCatZ, rCatA, rCat, rAppend, rExtend, rIn, rInD, rNotInD, rEqD, rNeD, rIxL, rIxT, tSub, tAdd, tBreak, tCont, tPar, rSum, rSumT, rMaxT, tyV, L2.start, List.map_cons, List.map_nil, List.length_cons, List.length_nil, List.cons_append, List.nil_append, List.append_nil, List.replicate, Nat.reduceAdd, Nat.reduceSub, wipe, List.set_cons_zero, List.set_cons_succ, nox_K, cxOf_K, blk_K, suite_K, tVar_0, tVar_1, tVar_2, tVar_3, tVar_4, tVar_5, tVar_6, tVar_7, tVar_8, tVar_9, tVar_10, tVar_11, tVar_12, tVar_13, tVar_14, tVar_15, gName_0, gName_1, gName_2, gName_3, gName_4, gName_5, gName_6, gName_7, gName_8, gName_9, gName_10, gName_11, gName_12, gName_13, gName_14, gName_15, and_assoc, exists_eq_left', exists_eq_left, exists_eq, exists_eq', exists_and_left, exists_const, and_true, true_and, V.int.injEq, V.ref.injEq, V.bl.injEq, V.str.injEq, List.cons.injEq, and_self, scal, Bool.false_eq_true, if_false, if_true, reduceCtorEq, false_and, and_false, false_or, or_false, ↓reduceIte]
    refine ⟨(Rs.roomsOf p).map Int.ofNat, by rw [← nv_ints]; exact h8.sq, ?_⟩
    refine ⟨_, .inl h8.sq, r, Rs.roomsOf p, (Rs.roomsOf p).sum, (Rs.roomsOf p).length, by rw [sum_cast, nv_len], h8, by rw [ok.rooms.1]; exact ok.n3, fun t ht => (ok.rooms.2 t ht).2, ?_⟩
    rw [stocks_eq]
    exact q
def spFull (K : PySem.W.Frag) : Sp := fun vs H Q _ => ∃ (a : Addr) (p : Rs.Shop), vs = [.ref a] ∧ ShopAt (SH K) H a p ∧ ∀ r H', Ex H H' → T H' r (Rs.roomsOf p) → Q (.ref r) H'
theorem k_full (z : Z K mg) : Kp P w K mg base CX0 1 (He.ga K "full_stock") ["shop"] (spFull K) := by
  have nd := sc_full_stock.nd
  refine kp0 (f_full_stock z) sc_full_stock (fun vs H Q E h => ?_) fun cdv A outer s H vs Q E hr h => ⟨_,
    pss_one (ps_ret (pe_callTy call_tuple_of (by rfl) (b_tuple z) (by decide +kernel) (pa_cons (pe_fld (pv 0) rfl) pa_nil))), ?_⟩
  · obtain ⟨a, p, rfl, _⟩ := h; rfl
  · obtain ⟨a, p, rfl, ⟨ok, dx, fs, n, r, h0, h1, h2, h3, h4, h5, h6, h7, h8⟩, q⟩ := h
    simp only [h0, h2, cl_Shop z, na_Shop_rooms z, Option.some.injEq, HO.ins.injEq, tNil, tCons, tC, tDrop, tOp, rI0, tCB, rEq, rNe, tNext, tRet, tRetN, tSeq, tAsg, tAug, tTest, tIfS, tIf, tNot, tAnd, tOr, tBM, tBM0, tCall, tTup, tTupZ, tLst, tFld, sFld, tMeth, tMake, tB, tYes, tCmp, t2I, tIsN, tNotN, tDGet, tDGet1, tDGet2, tDIn, tDNotIn, tAndV, tOrV, tNotV, tDNewT, sDPut, tSl, tPart, tNoPart, rSlL, tThen, tCntZ, tFgt, tChain, gCons, gNil, gTup, rCatZ, rCatA, rCat, rAppend, rExtend, rIn, rInD, rNotInD, rEqD, rNeD, rIxL, rIxT, tSub, tAdd, tBreak, tCont, tPar, rSum, rSumT, rMaxT, tyV, L2.start, List.map_cons, List.map_nil, List.length_cons, List.length_nil, List.cons_append, List.nil_append, List.append_nil, List.replicate, Nat.reduceAdd, Nat.reduceSub, wipe, List.set_cons_zero, List.set_cons_succ, nox_K, cxOf_K, blk_K, suite_K, tVar_0, tVar_1, tVar_2, tVar_3, tVar_4, tVar_5, tVar_6, tVar_7, tVar_8, tVar_9, tVar_10, tVar_11, tVar_12, tVar_13, tVar_14, tVar_15, gName_0, gName_1, gName_2, gName_3, gName_4, gName_5, gName_6, gName_7, gName_8, gName_9, gName_10, gName_11, gName_12, gName_13, gName_14, gName_15, and_assoc, exists_eq_left', exists_eq_left, exists_eq, exists_eq', exists_and_left, exists_const, and_true, true_and, V.int.injEq, V.ref.injEq, V.bl.injEq, V.str.injEq, List.cons.injEq, and_self, scal, Bool.false_eq_true, if_false, if_true, reduceCtorEq, false_and, and_false, false_or, or_false, ↓reduceIte]
    exact ⟨nv (Rs.roomsOf p), .inl ⟨h8.sq, fun l hl => q l _ (Ex.new hl) upd_same⟩⟩
theorem minus_len : ∀ {a b : List Nat}, a.length = b.length → (Rs.minus a b).length = a.length
  | [], [], _ => rfl
  | _ :: a, _ :: b, h => by show (Rs.minus a b).length + 1 = _; rw [minus_len (by simpa using h)]; rfl
theorem plus_len : ∀ {a b : List Nat}, a.length = b.length → (Rs.plus a b).length = a.length
  | [], [], _ => rfl
  | _ :: a, _ :: b, h => by show (Rs.plus a b).length + 1 = _; rw [plus_len (by simpa using h)]; rfl
theorem minus_at : ∀ {a b : List Nat} {i x y : Nat}, a[i]? = some x → b[i]? = some y → (Rs.minus a b)[i]? = some (x - y)
  | _ :: _, _ :: _, 0, x, y, h1, h2 => by cases h1; cases h2; rfl
  | _ :: a, _ :: b, i + 1, x, y, h1, h2 => minus_at (a := a) (b := b) (i := i) h1 h2
theorem plus_at : ∀ {a b : List Nat} {i x y : Nat}, a[i]? = some x → b[i]? = some y → (Rs.plus a b)[i]? = some (x + y)
  | _ :: _, _ :: _, 0, x, y, h1, h2 => by cases h1; cases h2; rfl
  | _ :: a, _ :: b, i + 1, x, y, h1, h2 => plus_at (a := a) (b := b) (i := i) h1 h2
theorem below_at : ∀ {a b : List Nat} {i x y : Nat}, Rs.isBelow a b = true → a[i]? = some x → b[i]? = some y → x ≤ y
  | _ :: _, _ :: _, 0, x, y, h, h1, h2 => by cases h1; cases h2; exact of_decide_eq_true (Bool.and_eq_true_iff.1 h).1
  | _ :: a, _ :: b, i + 1, x, y, h, h1, h2 => below_at (a := a) (b := b) (i := i) (Bool.and_eq_true_iff.1 h).2 h1 h2
theorem below_len : ∀ {a b : List Nat}, Rs.isBelow a b = true → a.length = b.length
  | [], [], _ => rfl
  | _ :: a, _ :: b, h => by rw [List.length_cons, List.length_cons, below_len (Bool.and_eq_true_iff.1 h).2]
theorem take_snoc {α : Type} {l : List α} {i : Nat} {x : α} (h : l[i]? = some x) : l.take (i + 1) = l.take i ++ [x] := by rw [List.take_add_one, h]; rfl
theorem minus_le {a b : List Nat} (h : ∀ t, t ∈ a → t ≤ 4) : ∀ t, t ∈ Rs.minus a b → t ≤ 4 := by
  induction a generalizing b with
  | nil => intro t ht; cases b <;> cases ht
  | cons x a ih =>
    cases b with
    | nil => intro t ht; cases ht
    | cons y b =>
      intro t ht
      rcases List.mem_cons.1 ht with rfl | ht
      · have := h x (List.mem_cons_self ..); omega
      · exact ih (fun t ht => h t (List.mem_cons_of_mem _ ht)) t ht
def spFill (K : PySem.W.Frag) : Sp := fun vs H Q _ => ∃ (a b : Addr) (p : Rs.Shop) (s : List Nat), vs = [.ref a, .ref b] ∧ ShopAt (SH K) H a p ∧ T H b s ∧ Rs.isBelow s (Rs.roomsOf p) = true ∧ ∀ r H', Ex H H' → LO T H' r (Rs.fillings p s) → Q (.ref r) H'
theorem k_fillings (z : Z K mg) : Kp P w K mg base CX0 3 (He.ga K "fillings_of") ["shop", "stock"] (spFill K) := by
  have nd := sc_fillings_of.nd
  refine kp0 (f_fillings_of z) sc_fillings_of (fun vs H Q E h => ?_) fun cdv A outer s H vs Q E hr h => ⟨_,
    pss_one (ps_ret ((Kp.call ((k_choices z)) (Room.mono (hr) (by decide)) (by rfl) ((g_choices z)) pass0 ((pa_cons (pe_lc (g := gP K 2 3) (own := [("room", 2), ("there", 3)]) rfl nd (pi_zipM (by rfl) (b_zip z) (pa_cons (pe_fld (pv 0) rfl) (pa_cons (pv 1) pa_nil))) (blkOk_by (N := ["shop", "stock", "room", "there"]) (sc := defScope s_fillings_of) (by decide +kernel)) (fun _ _ _ _ _ => pg_tup rfl (pgs_cons ((pg_name (i := 2) nd rfl (Or.inl rfl))) (pgs_cons ((pg_name (i := 3) nd rfl (Or.inl rfl))) pgs_nil))) (fun _ _ _ _ _ => pts_nil) (fun _ _ _ _ _ => pe_op op_sub (pv 2) (pv 3)))
      (pa_cons (pe_fld (pv 0) rfl) (pa_cons (pe_fld (pv 0) rfl) pa_nil))))))), ?_⟩
  · obtain ⟨a, b, p, s, rfl, _⟩ := h; rfl
  · obtain ⟨a, b, p, s, rfl, ⟨ok, dx, fs, n, r, h0, h1, h2, h3, h4, h5, h6, h7, h8⟩, hb, hs, q⟩ := h
    have hl := below_len hs
    refine ⟨_, rfl, a, SH K, dx, fs, .ref r, rfl, h0, cl_Shop z, na_Shop_rooms z, h2, _, rfl, r, b, nv (Rs.roomsOf p), nv s, rfl, h8.sq, hb.sq, fun D hD => lc_it (walk_zipM (xs := nv (Rs.roomsOf p)) (ys := nv s) (by rw [nv_len, nv_len, hl])) (fun i H1 => Ex H H1 ∧ L H1 D ((Rs.minus (Rs.roomsOf p) s).take i)) ⟨Ex.new hD, upd_same⟩ ?_ ?_ ?_⟩
    · rintro i H1 _ ⟨e, _⟩
      exact ⟨(h8.ex e).sq, (hb.ex e).sq⟩
    · rintro i x H1 H2 hi ⟨e, hd⟩ ⟨t, x, y, rfl, ht, rfl, hx, hy⟩
      obtain ⟨m, hm, rfl⟩ := nv_get hx
      obtain ⟨n, hn, rfl⟩ := nv_get hy
      simp only [ tNil, tCons, tC, tDrop, tOp, rI0, tCB, rEq, rNe, tNext, tRet, tRetN, tSeq, tAsg, tAug, tTest, tIfS, tIf, tNot, tAnd, tOr, tBM, tBM0, tCall, tTup, tTupZ, tLst, tFld, sFld, tMeth, tMake, tB, tYes, tCmp, t2I, tIsN, tNotN, tDGet, tDGet1, tDGet2, tDIn, tDNotIn, tAndV, tOrV, tNotV, tDNewT, sDPut, tSl, tPart, tNoPart, rSlL, tThen, tCntZ, tFgt, tChain, gCons, gNil, gTup, rCatZ, rCatA, rCat, rAppend, rExtend, rIn, rInD, rNotInD, rEqD, rNeD, rIxL, rIxT, tSub, tAdd, tBreak, tCont, tPar, rSum, rSumT, rMaxT, tyV, L2.start, List.map_cons, List.map_nil, List.length_cons, List.length_nil, List.cons_append, List.nil_append, List.append_nil, List.replicate, Nat.reduceAdd, Nat.reduceSub, wipe, List.set_cons_zero, List.set_cons_succ, nox_K, cxOf_K, blk_K, suite_K, tVar_0, tVar_1, tVar_2, tVar_3, tVar_4, tVar_5, tVar_6, tVar_7, tVar_8, tVar_9, tVar_10, tVar_11, tVar_12, tVar_13, tVar_14, tVar_15, gName_0, gName_1, gName_2, gName_3, gName_4, gName_5, gName_6, gName_7, gName_8, gName_9, gName_10, gName_11, gName_12, gName_13, gName_14, gName_15, and_assoc, exists_eq_left', exists_eq_left, exists_eq, exists_eq', exists_and_left, exists_const, and_true, true_and, V.int.injEq, V.ref.injEq, V.bl.injEq, V.str.injEq, List.cons.injEq, and_self, scal, Bool.false_eq_true, if_false, if_true, reduceCtorEq, false_and, and_false, false_or, or_false, ↓reduceIte]
      have le : n ≤ m := below_at hs hn hm
      have tD : D ≠ t := ne_of_none hd ht
      refine ⟨_, SqT.of upd_same, ?_⟩
      simp only [ tNil, tCons, tC, tDrop, tOp, rI0, tCB, rEq, rNe, tNext, tRet, tRetN, tSeq, tAsg, tAug, tTest, tIfS, tIf, tNot, tAnd, tOr, tBM, tBM0, tCall, tTup, tTupZ, tLst, tFld, sFld, tMeth, tMake, tB, tYes, tCmp, t2I, tIsN, tNotN, tDGet, tDGet1, tDGet2, tDIn, tDNotIn, tAndV, tOrV, tNotV, tDNewT, sDPut, tSl, tPart, tNoPart, rSlL, tThen, tCntZ, tFgt, tChain, gCons, gNil, gTup, rCatZ, rCatA, rCat, rAppend, rExtend, rIn, rInD, rNotInD, rEqD, rNeD, rIxL, rIxT, tSub, tAdd, tBreak, tCont, tPar, rSum, rSumT, rMaxT, tyV, L2.start, List.map_cons, List.map_nil, List.length_cons, List.length_nil, List.cons_append, List.nil_append, List.append_nil, List.replicate, Nat.reduceAdd, Nat.reduceSub, wipe, List.set_cons_zero, List.set_cons_succ, nox_K, cxOf_K, blk_K, suite_K, tVar_0, tVar_1, tVar_2, tVar_3, tVar_4, tVar_5, tVar_6, tVar_7, tVar_8, tVar_9, tVar_10, tVar_11, tVar_12, tVar_13, tVar_14, tVar_15, gName_0, gName_1, gName_2, gName_3, gName_4, gName_5, gName_6, gName_7, gName_8, gName_9, gName_10, gName_11, gName_12, gName_13, gName_14, gName_15, and_assoc, exists_eq_left', exists_eq_left, exists_eq, exists_eq', exists_and_left, exists_const, and_true, true_and, V.int.injEq, V.ref.injEq, V.bl.injEq, V.str.injEq, List.cons.injEq, and_self, scal, Bool.false_eq_true, if_false, if_true, reduceCtorEq, false_and, and_false, false_or, or_false, ↓reduceIte]
      refine ⟨_, by rw [upd_ne tD]; exact hd, ?_, Ex.mut (e.trans (Ex.new ht)) hD, ?_⟩
      · rw [nv_len, List.length_take, minus_len hl.symm, sizeLine_eq]
        have := ok.n3
        have := ok.rooms.1
        omega
      · rw [take_snoc (minus_at hm hn)]
        unfold L
        rw [upd_same, nv_app, ← Int.ofNat_sub le]; rfl
    · rintro H1 ⟨e, hd⟩
      rw [nv_len, List.take_of_length_le (by rw [minus_len hl.symm]; exact Nat.le_refl _)] at hd
      simp only [e _ _ h0, h5, h6, cl_Shop z, na_Shop_put z, na_Shop_onto z, Option.some.injEq, HO.ins.injEq, tNil, tCons, tC, tDrop, tOp, rI0, tCB, rEq, rNe, tNext, tRet, tRetN, tSeq, tAsg, tAug, tTest, tIfS, tIf, tNot, tAnd, tOr, tBM, tBM0, tCall, tTup, tTupZ, tLst, tFld, sFld, tMeth, tMake, tB, tYes, tCmp, t2I, tIsN, tNotN, tDGet, tDGet1, tDGet2, tDIn, tDNotIn, tAndV, tOrV, tNotV, tDNewT, sDPut, tSl, tPart, tNoPart, rSlL, tThen, tCntZ, tFgt, tChain, gCons, gNil, gTup, rCatZ, rCatA, rCat, rAppend, rExtend, rIn, rInD, rNotInD, rEqD, rNeD, rIxL, rIxT, tSub, tAdd, tBreak, tCont, tPar, rSum, rSumT, rMaxT, tyV, L2.start, List.map_cons, List.map_nil, List.length_cons, List.length_nil, List.cons_append, List.nil_append, List.append_nil, List.replicate, Nat.reduceAdd, Nat.reduceSub, wipe, List.set_cons_zero, List.set_cons_succ, nox_K, cxOf_K, blk_K, suite_K, tVar_0, tVar_1, tVar_2, tVar_3, tVar_4, tVar_5, tVar_6, tVar_7, tVar_8, tVar_9, tVar_10, tVar_11, tVar_12, tVar_13, tVar_14, tVar_15, gName_0, gName_1, gName_2, gName_3, gName_4, gName_5, gName_6, gName_7, gName_8, gName_9, gName_10, gName_11, gName_12, gName_13, gName_14, gName_15, and_assoc, exists_eq_left', exists_eq_left, exists_eq, exists_eq', exists_and_left, exists_const, and_true, true_and, V.int.injEq, V.ref.injEq, V.bl.injEq, V.str.injEq, List.cons.injEq, and_self, scal, Bool.false_eq_true, if_false, if_true, reduceCtorEq, false_and, and_false, false_or, or_false, ↓reduceIte]
      refine ⟨D, Rs.minus (Rs.roomsOf p) s, p.items, p.onto, rfl, hd, by rw [minus_len hl.symm, ok.rooms.1]; exact ok.n3, minus_le fun t ht => (ok.rooms.2 t ht).2, fun r H' e' lo => ?_⟩
      rw [fillings_eq] at lo
      exact q r H' (e.trans e') lo
def spTakings (K : PySem.W.Frag) : Sp := fun vs H Q _ => ∃ (a : Addr) (p : Rs.Shop), vs = [.ref a] ∧ ShopAt (SH K) H a p ∧ ∀ r H', Ex H H' → LO T H' r (Rs.takings p) → Q (.ref r) H'
theorem k_takings (z : Z K mg) : Kp P w K mg base CX0 3 (He.ga K "takings_of") ["shop"] (spTakings K) := by
  have nd := sc_takings_of.nd
  refine kp0 (f_takings_of z) sc_takings_of (fun vs H Q E h => ?_) fun cdv A outer s H vs Q E hr h => ⟨_,
    pss_one (ps_ret ((Kp.call ((k_choices z)) (Room.mono (hr) (by decide)) (by rfl) ((g_choices z)) pass0 ((pa_cons (pe_lc (g := gName 1) (te := tFld K (tVar 0) "wanted_of_one") (own := [("room", 1)]) rfl nd (pi_list (pe_fld (pv 0) rfl)) (blkOk_by (N := ["shop", "room"]) (sc := defScope s_takings_of) (by decide +kernel)) (fun _ _ _ _ _ => (pg_name (i := 1) nd rfl (Or.inl rfl))) (fun _ _ _ _ _ => pts_nil) (fun _ _ _ _ _ => pe_fld (pv 0) rfl))
      (pa_cons (pe_fld (pv 0) rfl) (pa_cons ((pe_callB call_len_seq (by rfl) ((b_len z)) PySem.boot_len (pa_cons ((pe_fld (pv 0) rfl)) pa_nil))) pa_nil))))))), ?_⟩
  · obtain ⟨a, p, rfl, _⟩ := h; rfl
  · obtain ⟨a, p, rfl, ⟨ok, dx, fs, n, r, h0, h1, h2, h3, h4, h5, h6, h7, h8⟩, q⟩ := h
    refine ⟨_, rfl, a, SH K, dx, fs, .ref r, rfl, h0, cl_Shop z, na_Shop_rooms z, h2, r, rfl, ⟨_, h8.sq⟩, fun D hD => lc_list (xs := nv (Rs.roomsOf p)) (fun i H1 => Ex H H1 ∧ L H1 D ((p.shelves.map fun _ => p.ofOne).take i)) ⟨Ex.new hD, upd_same⟩ ?_ ?_ ?_⟩
    · rintro i H1 _ ⟨e, _⟩
      exact (h8.ex e).sq
    · rintro i x H1 hx ⟨e, hd⟩
      obtain ⟨m, hm, rfl⟩ := nv_get hx
      simp only [e _ _ h0, h4, cl_Shop z, na_Shop_wanted_of_one z, Option.some.injEq, HO.ins.injEq, tNil, tCons, tC, tDrop, tOp, rI0, tCB, rEq, rNe, tNext, tRet, tRetN, tSeq, tAsg, tAug, tTest, tIfS, tIf, tNot, tAnd, tOr, tBM, tBM0, tCall, tTup, tTupZ, tLst, tFld, sFld, tMeth, tMake, tB, tYes, tCmp, t2I, tIsN, tNotN, tDGet, tDGet1, tDGet2, tDIn, tDNotIn, tAndV, tOrV, tNotV, tDNewT, sDPut, tSl, tPart, tNoPart, rSlL, tThen, tCntZ, tFgt, tChain, gCons, gNil, gTup, rCatZ, rCatA, rCat, rAppend, rExtend, rIn, rInD, rNotInD, rEqD, rNeD, rIxL, rIxT, tSub, tAdd, tBreak, tCont, tPar, rSum, rSumT, rMaxT, tyV, L2.start, List.map_cons, List.map_nil, List.length_cons, List.length_nil, List.cons_append, List.nil_append, List.append_nil, List.replicate, Nat.reduceAdd, Nat.reduceSub, wipe, List.set_cons_zero, List.set_cons_succ, nox_K, cxOf_K, blk_K, suite_K, tVar_0, tVar_1, tVar_2, tVar_3, tVar_4, tVar_5, tVar_6, tVar_7, tVar_8, tVar_9, tVar_10, tVar_11, tVar_12, tVar_13, tVar_14, tVar_15, gName_0, gName_1, gName_2, gName_3, gName_4, gName_5, gName_6, gName_7, gName_8, gName_9, gName_10, gName_11, gName_12, gName_13, gName_14, gName_15, and_assoc, exists_eq_left', exists_eq_left, exists_eq, exists_eq', exists_and_left, exists_const, and_true, true_and, V.int.injEq, V.ref.injEq, V.bl.injEq, V.str.injEq, List.cons.injEq, and_self, scal, Bool.false_eq_true, if_false, if_true, reduceCtorEq, false_and, and_false, false_or, or_false, ↓reduceIte]
      have hi : (p.shelves.map fun _ => p.ofOne)[i]? = some p.ofOne := by
        unfold Rs.roomsOf at hm
        rw [List.getElem?_map] at hm ⊢
        cases e : p.shelves[i]? with
        | none => rw [e] at hm; cases hm
        | some s => rfl
      refine ⟨_, hd, ?_, Ex.mut e hD, ?_⟩
      · rw [nv_len, List.length_take, List.length_map, sizeLine_eq]
        have := ok.n3
        omega
      · rw [take_snoc hi]
        unfold L
        rw [upd_same, nv_app]; rfl
    · rintro H1 ⟨e, hd⟩
      rw [nv_len, List.take_of_length_le (by rw [List.length_map, ok.rooms.1]; exact Nat.le_refl _)] at hd
      simp only [e _ _ h0, h2, h3, cl_Shop z, na_Shop_wanted z, na_Shop_rooms z, Option.some.injEq, HO.ins.injEq, tNil, tCons, tC, tDrop, tOp, rI0, tCB, rEq, rNe, tNext, tRet, tRetN, tSeq, tAsg, tAug, tTest, tIfS, tIf, tNot, tAnd, tOr, tBM, tBM0, tCall, tTup, tTupZ, tLst, tFld, sFld, tMeth, tMake, tB, tYes, tCmp, t2I, tIsN, tNotN, tDGet, tDGet1, tDGet2, tDIn, tDNotIn, tAndV, tOrV, tNotV, tDNewT, sDPut, tSl, tPart, tNoPart, rSlL, tThen, tCntZ, tFgt, tChain, gCons, gNil, gTup, rCatZ, rCatA, rCat, rAppend, rExtend, rIn, rInD, rNotInD, rEqD, rNeD, rIxL, rIxT, tSub, tAdd, tBreak, tCont, tPar, rSum, rSumT, rMaxT, tyV, L2.start, List.map_cons, List.map_nil, List.length_cons, List.length_nil, List.cons_append, List.nil_append, List.append_nil, List.replicate, Nat.reduceAdd, Nat.reduceSub, wipe, List.set_cons_zero, List.set_cons_succ, nox_K, cxOf_K, blk_K, suite_K, tVar_0, tVar_1, tVar_2, tVar_3, tVar_4, tVar_5, tVar_6, tVar_7, tVar_8, tVar_9, tVar_10, tVar_11, tVar_12, tVar_13, tVar_14, tVar_15, gName_0, gName_1, gName_2, gName_3, gName_4, gName_5, gName_6, gName_7, gName_8, gName_9, gName_10, gName_11, gName_12, gName_13, gName_14, gName_15, and_assoc, exists_eq_left', exists_eq_left, exists_eq, exists_eq', exists_and_left, exists_const, and_true, true_and, V.int.injEq, V.ref.injEq, V.bl.injEq, V.str.injEq, List.cons.injEq, and_self, scal, Bool.false_eq_true, if_false, if_true, reduceCtorEq, false_and, and_false, false_or, or_false, ↓reduceIte]
      refine ⟨_, .inl (h8.ex e).sq, D, (p.shelves.map fun _ => p.ofOne), p.taken, (Rs.roomsOf p).length, by rw [nv_len], hd, by rw [List.length_map]; exact ok.n3, fun t ht => by obtain ⟨_, _, rfl⟩ := List.mem_map.1 ht; exact ok.o4, fun r H' e' lo => ?_⟩
      rw [takings_eq] at lo
      exact q r H' (e.trans e') lo
def spAdded : Sp := fun vs H Q _ => ∃ (a b : Addr) (s t : List Nat), vs = [.ref a, .ref b] ∧ T H a s ∧ T H b t ∧ s.length = t.length ∧ s.length ≤ 3 ∧ ∀ r H', Ex H H' → T H' r (Rs.plus s t) → Q (.ref r) H'
def spTaken : Sp := fun vs H Q _ => ∃ (a b : Addr) (s t : List Nat), vs = [.ref a, .ref b] ∧ T H a s ∧ T H b t ∧ Rs.isBelow t s = true ∧ s.length ≤ 3 ∧ ∀ r H', Ex H H' → T H' r (Rs.minus s t) → Q (.ref r) H'
theorem k_added (z : Z K mg) : Kp P w K mg base CX0 1 (He.ga K "added") ["stock", "items"] spAdded := by
  have nd := sc_added.nd
  refine kp0 (f_added z) sc_added (fun vs H Q E h => ?_) fun cdv A outer s H vs Q E hr h => ⟨_,
    pss_one (ps_ret (pe_callTy call_tuple_of (by rfl) (b_tuple z) (by decide +kernel) (pa_cons (pe_lc (g := gP K 2 3) (own := [("there", 2), ("more", 3)]) rfl nd (RZ.pi_zipA (by rfl) (b_zip z) (pa_cons (pv 0) (pa_cons (pv 1) pa_nil))) (blkOk_by (N := ["stock", "items", "there", "more"]) (sc := defScope s_added) (by decide +kernel)) (fun _ _ _ _ _ => pg_tup rfl (pgs_cons ((pg_name (i := 2) nd rfl (Or.inl rfl))) (pgs_cons ((pg_name (i := 3) nd rfl (Or.inl rfl))) pgs_nil))) (fun _ _ _ _ _ => pts_nil) (fun _ _ _ _ _ => pe_op op_add (pv 2) (pv 3))) pa_nil))), ?_⟩
  · obtain ⟨a, b, p, s, rfl, _⟩ := h; rfl
  · obtain ⟨a, b, s, t, rfl, ha, hb, hl, h3, q⟩ := h
    refine ⟨_, rfl, _, rfl, a, b, nv s, nv t, rfl, .inr ⟨ha.sq, hb.sq, fun D hD => lc_it (walk_zipTT (xs := nv s) (ys := nv t) (by rw [nv_len, nv_len, hl])) (fun i H1 => Ex H H1 ∧ L H1 D ((Rs.plus s t).take i)) ⟨Ex.new hD, upd_same⟩ ?_ ?_ ?_⟩⟩
    · rintro i H1 _ ⟨e, _⟩
      exact ⟨(ha.ex e).sq, (hb.ex e).sq⟩
    · rintro i x H1 H2 hi ⟨e, hd⟩ ⟨u, x, y, rfl, hu, rfl, hx, hy⟩
      obtain ⟨m, hm, rfl⟩ := nv_get hx
      obtain ⟨n, hn, rfl⟩ := nv_get hy
      simp only [ tNil, tCons, tC, tDrop, tOp, rI0, tCB, rEq, rNe, tNext, tRet, tRetN, tSeq, tAsg, tAug, tTest, tIfS, tIf, tNot, tAnd, tOr, tBM, tBM0, tCall, tTup, tTupZ, tLst, tFld, sFld, tMeth, tMake, tB, tYes, tCmp, t2I, tIsN, tNotN, tDGet, tDGet1, tDGet2, tDIn, tDNotIn, tAndV, tOrV, tNotV, tDNewT, sDPut, tSl, tPart, tNoPart, rSlL, tThen, tCntZ, tFgt, tChain, gCons, gNil, gTup, rCatZ, rCatA, rCat, rAppend, rExtend, rIn, rInD, rNotInD, rEqD, rNeD, rIxL, rIxT, tSub, tAdd, tBreak, tCont, tPar, rSum, rSumT, rMaxT, tyV, L2.start, List.map_cons, List.map_nil, List.length_cons, List.length_nil, List.cons_append, List.nil_append, List.append_nil, List.replicate, Nat.reduceAdd, Nat.reduceSub, wipe, List.set_cons_zero, List.set_cons_succ, nox_K, cxOf_K, blk_K, suite_K, tVar_0, tVar_1, tVar_2, tVar_3, tVar_4, tVar_5, tVar_6, tVar_7, tVar_8, tVar_9, tVar_10, tVar_11, tVar_12, tVar_13, tVar_14, tVar_15, gName_0, gName_1, gName_2, gName_3, gName_4, gName_5, gName_6, gName_7, gName_8, gName_9, gName_10, gName_11, gName_12, gName_13, gName_14, gName_15, and_assoc, exists_eq_left', exists_eq_left, exists_eq, exists_eq', exists_and_left, exists_const, and_true, true_and, V.int.injEq, V.ref.injEq, V.bl.injEq, V.str.injEq, List.cons.injEq, and_self, scal, Bool.false_eq_true, if_false, if_true, reduceCtorEq, false_and, and_false, false_or, or_false, ↓reduceIte]
      have tD : D ≠ u := ne_of_none hd hu
      refine ⟨_, SqT.of upd_same, ?_⟩
      simp only [ tNil, tCons, tC, tDrop, tOp, rI0, tCB, rEq, rNe, tNext, tRet, tRetN, tSeq, tAsg, tAug, tTest, tIfS, tIf, tNot, tAnd, tOr, tBM, tBM0, tCall, tTup, tTupZ, tLst, tFld, sFld, tMeth, tMake, tB, tYes, tCmp, t2I, tIsN, tNotN, tDGet, tDGet1, tDGet2, tDIn, tDNotIn, tAndV, tOrV, tNotV, tDNewT, sDPut, tSl, tPart, tNoPart, rSlL, tThen, tCntZ, tFgt, tChain, gCons, gNil, gTup, rCatZ, rCatA, rCat, rAppend, rExtend, rIn, rInD, rNotInD, rEqD, rNeD, rIxL, rIxT, tSub, tAdd, tBreak, tCont, tPar, rSum, rSumT, rMaxT, tyV, L2.start, List.map_cons, List.map_nil, List.length_cons, List.length_nil, List.cons_append, List.nil_append, List.append_nil, List.replicate, Nat.reduceAdd, Nat.reduceSub, wipe, List.set_cons_zero, List.set_cons_succ, nox_K, cxOf_K, blk_K, suite_K, tVar_0, tVar_1, tVar_2, tVar_3, tVar_4, tVar_5, tVar_6, tVar_7, tVar_8, tVar_9, tVar_10, tVar_11, tVar_12, tVar_13, tVar_14, tVar_15, gName_0, gName_1, gName_2, gName_3, gName_4, gName_5, gName_6, gName_7, gName_8, gName_9, gName_10, gName_11, gName_12, gName_13, gName_14, gName_15, and_assoc, exists_eq_left', exists_eq_left, exists_eq, exists_eq', exists_and_left, exists_const, and_true, true_and, V.int.injEq, V.ref.injEq, V.bl.injEq, V.str.injEq, List.cons.injEq, and_self, scal, Bool.false_eq_true, if_false, if_true, reduceCtorEq, false_and, and_false, false_or, or_false, ↓reduceIte]
      refine ⟨_, by rw [upd_ne tD]; exact hd, ?_, Ex.mut (e.trans (Ex.new hu)) hD, ?_⟩
      · rw [nv_len, List.length_take, plus_len hl, sizeLine_eq]; omega
      · rw [take_snoc (plus_at hm hn)]
        unfold L
        rw [upd_same, nv_app]; rfl
    · rintro H1 ⟨e, hd⟩
      rw [nv_len, List.take_of_length_le (by rw [plus_len hl]; exact Nat.le_refl _)] at hd
      simp only [ tNil, tCons, tC, tDrop, tOp, rI0, tCB, rEq, rNe, tNext, tRet, tRetN, tSeq, tAsg, tAug, tTest, tIfS, tIf, tNot, tAnd, tOr, tBM, tBM0, tCall, tTup, tTupZ, tLst, tFld, sFld, tMeth, tMake, tB, tYes, tCmp, t2I, tIsN, tNotN, tDGet, tDGet1, tDGet2, tDIn, tDNotIn, tAndV, tOrV, tNotV, tDNewT, sDPut, tSl, tPart, tNoPart, rSlL, tThen, tCntZ, tFgt, tChain, gCons, gNil, gTup, rCatZ, rCatA, rCat, rAppend, rExtend, rIn, rInD, rNotInD, rEqD, rNeD, rIxL, rIxT, tSub, tAdd, tBreak, tCont, tPar, rSum, rSumT, rMaxT, tyV, L2.start, List.map_cons, List.map_nil, List.length_cons, List.length_nil, List.cons_append, List.nil_append, List.append_nil, List.replicate, Nat.reduceAdd, Nat.reduceSub, wipe, List.set_cons_zero, List.set_cons_succ, nox_K, cxOf_K, blk_K, suite_K, tVar_0, tVar_1, tVar_2, tVar_3, tVar_4, tVar_5, tVar_6, tVar_7, tVar_8, tVar_9, tVar_10, tVar_11, tVar_12, tVar_13, tVar_14, tVar_15, gName_0, gName_1, gName_2, gName_3, gName_4, gName_5, gName_6, gName_7, gName_8, gName_9, gName_10, gName_11, gName_12, gName_13, gName_14, gName_15, and_assoc, exists_eq_left', exists_eq_left, exists_eq, exists_eq', exists_and_left, exists_const, and_true, true_and, V.int.injEq, V.ref.injEq, V.bl.injEq, V.str.injEq, List.cons.injEq, and_self, scal, Bool.false_eq_true, if_false, if_true, reduceCtorEq, false_and, and_false, false_or, or_false, ↓reduceIte]
      exact ⟨nv (Rs.plus s t), .inl ⟨hd.sq, fun l hl => q l _ (e.trans (Ex.new hl)) upd_same⟩⟩
theorem k_taken (z : Z K mg) : Kp P w K mg base CX0 1 (He.ga K "taken") ["stock", "items"] spTaken := by
  have nd := sc_taken.nd
  refine kp0 (f_taken z) sc_taken (fun vs H Q E h => ?_) fun cdv A outer s H vs Q E hr h => ⟨_,
    pss_one (ps_ret (pe_callTy call_tuple_of (by rfl) (b_tuple z) (by decide +kernel) (pa_cons (pe_lc (g := gP K 2 3) (own := [("there", 2), ("gone", 3)]) rfl nd (RZ.pi_zipA (by rfl) (b_zip z) (pa_cons (pv 0) (pa_cons (pv 1) pa_nil))) (blkOk_by (N := ["stock", "items", "there", "gone"]) (sc := defScope s_taken) (by decide +kernel)) (fun _ _ _ _ _ => pg_tup rfl (pgs_cons ((pg_name (i := 2) nd rfl (Or.inl rfl))) (pgs_cons ((pg_name (i := 3) nd rfl (Or.inl rfl))) pgs_nil))) (fun _ _ _ _ _ => pts_nil) (fun _ _ _ _ _ => pe_op op_sub (pv 2) (pv 3))) pa_nil))), ?_⟩
  · obtain ⟨a, b, p, s, rfl, _⟩ := h; rfl
  · obtain ⟨a, b, s, t, rfl, ha, hb, hs, h3, q⟩ := h
    have hl := (below_len hs).symm
    refine ⟨_, rfl, _, rfl, a, b, nv s, nv t, rfl, .inr ⟨ha.sq, hb.sq, fun D hD => lc_it (walk_zipTT (xs := nv s) (ys := nv t) (by rw [nv_len, nv_len, hl])) (fun i H1 => Ex H H1 ∧ L H1 D ((Rs.minus s t).take i)) ⟨Ex.new hD, upd_same⟩ ?_ ?_ ?_⟩⟩
    · rintro i H1 _ ⟨e, _⟩
      exact ⟨(ha.ex e).sq, (hb.ex e).sq⟩
    · rintro i x H1 H2 hi ⟨e, hd⟩ ⟨u, x, y, rfl, hu, rfl, hx, hy⟩
      obtain ⟨m, hm, rfl⟩ := nv_get hx
      obtain ⟨n, hn, rfl⟩ := nv_get hy
      simp only [ tNil, tCons, tC, tDrop, tOp, rI0, tCB, rEq, rNe, tNext, tRet, tRetN, tSeq, tAsg, tAug, tTest, tIfS, tIf, tNot, tAnd, tOr, tBM, tBM0, tCall, tTup, tTupZ, tLst, tFld, sFld, tMeth, tMake, tB, tYes, tCmp, t2I, tIsN, tNotN, tDGet, tDGet1, tDGet2, tDIn, tDNotIn, tAndV, tOrV, tNotV, tDNewT, sDPut, tSl, tPart, tNoPart, rSlL, tThen, tCntZ, tFgt, tChain, gCons, gNil, gTup, rCatZ, rCatA, rCat, rAppend, rExtend, rIn, rInD, rNotInD, rEqD, rNeD, rIxL, rIxT, tSub, tAdd, tBreak, tCont, tPar, rSum, rSumT, rMaxT, tyV, L2.start, List.map_cons, List.map_nil, List.length_cons, List.length_nil, List.cons_append, List.nil_append, List.append_nil, List.replicate, Nat.reduceAdd, Nat.reduceSub, wipe, List.set_cons_zero, List.set_cons_succ, nox_K, cxOf_K, blk_K, suite_K, tVar_0, tVar_1, tVar_2, tVar_3, tVar_4, tVar_5, tVar_6, tVar_7, tVar_8, tVar_9, tVar_10, tVar_11, tVar_12, tVar_13, tVar_14, tVar_15, gName_0, gName_1, gName_2, gName_3, gName_4, gName_5, gName_6, gName_7, gName_8, gName_9, gName_10, gName_11, gName_12, gName_13, gName_14, gName_15, and_assoc, exists_eq_left', exists_eq_left, exists_eq, exists_eq', exists_and_left, exists_const, and_true, true_and, V.int.injEq, V.ref.injEq, V.bl.injEq, V.str.injEq, List.cons.injEq, and_self, scal, Bool.false_eq_true, if_false, if_true, reduceCtorEq, false_and, and_false, false_or, or_false, ↓reduceIte]
      have le : n ≤ m := below_at hs hn hm
      have tD : D ≠ u := ne_of_none hd hu
      refine ⟨_, SqT.of upd_same, ?_⟩
      simp only [ tNil, tCons, tC, tDrop, tOp, rI0, tCB, rEq, rNe, tNext, tRet, tRetN, tSeq, tAsg, tAug, tTest, tIfS, tIf, tNot, tAnd, tOr, tBM, tBM0, tCall, tTup, tTupZ, tLst, tFld, sFld, tMeth, tMake, tB, tYes, tCmp, t2I, tIsN, tNotN, tDGet, tDGet1, tDGet2, tDIn, tDNotIn, tAndV, tOrV, tNotV, tDNewT, sDPut, tSl, tPart, tNoPart, rSlL, tThen, tCntZ, tFgt, tChain, gCons, gNil, gTup, rCatZ, rCatA, rCat, rAppend, rExtend, rIn, rInD, rNotInD, rEqD, rNeD, rIxL, rIxT, tSub, tAdd, tBreak, tCont, tPar, rSum, rSumT, rMaxT, tyV, L2.start, List.map_cons, List.map_nil, List.length_cons, List.length_nil, List.cons_append, List.nil_append, List.append_nil, List.replicate, Nat.reduceAdd, Nat.reduceSub, wipe, List.set_cons_zero, List.set_cons_succ, nox_K, cxOf_K, blk_K, suite_K, tVar_0, tVar_1, tVar_2, tVar_3, tVar_4, tVar_5, tVar_6, tVar_7, tVar_8, tVar_9, tVar_10, tVar_11, tVar_12, tVar_13, tVar_14, tVar_15, gName_0, gName_1, gName_2, gName_3, gName_4, gName_5, gName_6, gName_7, gName_8, gName_9, gName_10, gName_11, gName_12, gName_13, gName_14, gName_15, and_assoc, exists_eq_left', exists_eq_left, exists_eq, exists_eq', exists_and_left, exists_const, and_true, true_and, V.int.injEq, V.ref.injEq, V.bl.injEq, V.str.injEq, List.cons.injEq, and_self, scal, Bool.false_eq_true, if_false, if_true, reduceCtorEq, false_and, and_false, false_or, or_false, ↓reduceIte]
      refine ⟨_, by rw [upd_ne tD]; exact hd, ?_, Ex.mut (e.trans (Ex.new hu)) hD, ?_⟩
      · rw [nv_len, List.length_take, minus_len hl, sizeLine_eq]; omega
      · rw [take_snoc (minus_at hm hn)]
        unfold L
        rw [upd_same, nv_app, ← Int.ofNat_sub le]; rfl
    · rintro H1 ⟨e, hd⟩
      rw [nv_len, List.take_of_length_le (by rw [minus_len hl]; exact Nat.le_refl _)] at hd
      simp only [ tNil, tCons, tC, tDrop, tOp, rI0, tCB, rEq, rNe, tNext, tRet, tRetN, tSeq, tAsg, tAug, tTest, tIfS, tIf, tNot, tAnd, tOr, tBM, tBM0, tCall, tTup, tTupZ, tLst, tFld, sFld, tMeth, tMake, tB, tYes, tCmp, t2I, tIsN, tNotN, tDGet, tDGet1, tDGet2, tDIn, tDNotIn, tAndV, tOrV, tNotV, tDNewT, sDPut, tSl, tPart, tNoPart, rSlL, tThen, tCntZ, tFgt, tChain, gCons, gNil, gTup, rCatZ, rCatA, rCat, rAppend, rExtend, rIn, rInD, rNotInD, rEqD, rNeD, rIxL, rIxT, tSub, tAdd, tBreak, tCont, tPar, rSum, rSumT, rMaxT, tyV, L2.start, List.map_cons, List.map_nil, List.length_cons, List.length_nil, List.cons_append, List.nil_append, List.append_nil, List.replicate, Nat.reduceAdd, Nat.reduceSub, wipe, List.set_cons_zero, List.set_cons_succ, nox_K, cxOf_K, blk_K, suite_K, tVar_0, tVar_1, tVar_2, tVar_3, tVar_4, tVar_5, tVar_6, tVar_7, tVar_8, tVar_9, tVar_10, tVar_11, tVar_12, tVar_13, tVar_14, tVar_15, gName_0, gName_1, gName_2, gName_3, gName_4, gName_5, gName_6, gName_7, gName_8, gName_9, gName_10, gName_11, gName_12, gName_13, gName_14, gName_15, and_assoc, exists_eq_left', exists_eq_left, exists_eq, exists_eq', exists_and_left, exists_const, and_true, true_and, V.int.injEq, V.ref.injEq, V.bl.injEq, V.str.injEq, List.cons.injEq, and_self, scal, Bool.false_eq_true, if_false, if_true, reduceCtorEq, false_and, and_false, false_or, or_false, ↓reduceIte]
      exact ⟨nv (Rs.minus s t), .inl ⟨hd.sq, fun l hl => q l _ (e.trans (Ex.new hl)) upd_same⟩⟩
end
end Fs
set_option Elab.async false
set_option linter.all false
set_option maxRecDepth 100000
set_option maxHeartbeats 4000000
namespace Fs
open PySem PySem.Spec PyProof.Rows L2 FsX
open Evl (Ex Ex.refl Ex.trans Ex.new Ex.mut fresh_back)
/-- a tuple as a dict's key -/
def kk (s : List Nat) : List Key := s.map fun (n : Nat) => Sum.inl (n : Int)
theorem kk_kV (s : List Nat) : (kk s).map kV = nv s := by unfold kk nv; rw [List.map_map]; rfl
theorem kk_inj : ∀ {s t : List Nat}, kk s = kk t → s = t
  | [], [], _ => rfl
  | a :: s, b :: t, h => by
    obtain ⟨h1, h2⟩ := List.cons.inj h
    rw [kk_inj h2, Int.ofNat.inj (Sum.inl.inj h1)]
/-- what a dict by stocks tells of one -/
abbrev got (kvs : List (List Key × V)) (s : List Nat) : Option V := valV kvs (kk s)
abbrev mk? (kvs : List (List Key × V)) (s : List Nat) : Bool := (got kvs s).isSome
theorem dget {H : Hp} {d b : Addr} {kvs : List (List Key × V)} {s : List Nat} (h : Rd H d (.dT kvs)) (hb : T H b s) : DGet H d (.ref b) (got kvs s) := .inr ⟨kvs, kk s, b, h, rfl, by rw [kk_kV]; exact hb, rfl⟩
theorem Rd.ex {H H' : Hp} {a : Addr} {u : HO} (h : Rd H a u) (e : Ex H H') : Rd H' a u := by
  rcases h with h | ⟨o, h⟩
  · exact .inl (e _ _ h)
  · exact .inr ⟨o, e _ _ h⟩
def leftOf (ts : List (List Nat)) (s : List Nat) : Option (List (List Nat)) := if ts.all (fun t => Rs.isBelow t s) then some (ts.map (Rs.minus s)) else none
/-- a list of stocks, or None -/
def RL (H : Hp) (v : V) (x : Option (List (List Nat))) : Prop := (x = none ∧ v = .non) ∨ ∃ l xs, x = some xs ∧ v = .ref l ∧ LO T H l xs
theorem RL.ex {H H' : Hp} {v : V} {x : Option (List (List Nat))} (h : RL H v x) (e : Ex H H') : RL H' v x := by
  rcases h with h | ⟨l, xs, h1, h2, h3⟩
  · exact .inl h
  · exact .inr ⟨l, xs, h1, h2, h3.ex mT e⟩
section
variable {P : Program} {w : World} {K : PySem.W.Frag} {mg : Str → Option Value} {base : Heap}
def spLeft : Sp := fun vs H Q _ => ∃ (a b : Addr) (s : List Nat) (ts : List (List Nat)), vs = [.ref a, .ref b] ∧ T H a s ∧ LO T H b ts ∧ (∀ t, t ∈ ts → t.length = s.length) ∧ s.length ≤ 3 ∧ ts.length ≤ 1000 ∧ ∀ v H', Ex H H' → RL H' v (leftOf ts s) → Q v H'
theorem all_take {α : Type} (f : α → Bool) {l : List α} {i : Nat} {x : α} (h : l[i]? = some x) : (l.take (i + 1)).all f = ((l.take i).all f && f x) := by rw [take_snoc h, List.all_append]; simp
theorem k_left (z : Z K mg) : Kp P w K mg base CX0 2 (He.ga K "stocks_left") ["stock", "takings"] spLeft := by
  have nd := sc_stocks_left.nd
  refine kp0 (f_stocks_left z) sc_stocks_left (fun vs H Q E h => ?_) fun cdv A outer s H vs Q E hr h => ⟨_,
    pss_cons ((ps_set (i := 2) nd rfl (by first | exact Or.inl rfl | exact Or.inr rfl) ((pe_lst pa_nil))))
    (pss_cons (ps_for PassesOwn.never rfl (pi_list (pv 1)) ((pg_name (i := 3) nd rfl (by first | exact Or.inl rfl | exact Or.inr rfl)))
      (pss_cons (ps_if (pt_not (pt_val ((Kp.call ((k_is_below z)) (Room.mono (hr) (by decide)) (by rfl) ((g_is_below z)) pass0 ((pa_cons (pv 3) (pa_cons (pv 0) pa_nil))))))) (pss_one (ps_ret pe_non)) pss_nil)
      (pss_one ((ps_expr (pe_bm PySem.F.plainAttrs_list PySem.F.slot_list_append PySem.F.type_list_append mt_append ((pv 2)) (pa_cons (((Kp.call ((k_taken z)) (Room.mono (hr) (by decide)) (by rfl) ((g_taken z)) pass0 ((pa_cons (pv 0) (pa_cons (pv 3) pa_nil)))))) pa_nil)))))))
    (pss_one (ps_ret (pv 2)))), ?_⟩
  · obtain ⟨a, b, s, ts, rfl, _⟩ := h; rfl
  · obtain ⟨a, b, s, ts, rfl, ha, ⟨as, hb⟩, hl, h3, hn, q⟩ := h
    simp only [ tNil, tCons, tC, tDrop, tOp, rI0, tCB, rEq, rNe, tNext, tRet, tRetN, tSeq, tAsg, tAug, tTest, tIfS, tIf, tNot, tAnd, tOr, tBM, tBM0, tCall, tTup, tTupZ, tLst, tFld, sFld, tMeth, tMake, tB, tYes, tCmp, t2I, tIsN, tNotN, tDGet, tDGet1, tDGet2, tDIn, tDNotIn, tAndV, tOrV, tNotV, tDNewT, sDPut, tSl, tPart, tNoPart, rSlL, tThen, tCntZ, tFgt, tChain, gCons, gNil, gTup, rCatZ, rCatA, rCat, rAppend, rExtend, rIn, rInD, rNotInD, rEqD, rNeD, rIxL, rIxT, tSub, tAdd, tBreak, tCont, tPar, rSum, rSumT, rMaxT, tyV, L2.start, List.map_cons, List.map_nil, List.length_cons, List.length_nil, List.cons_append, List.nil_append, List.append_nil, List.replicate, Nat.reduceAdd, Nat.reduceSub, wipe, List.set_cons_zero, List.set_cons_succ, nox_K, cxOf_K, blk_K, suite_K, tVar_0, tVar_1, tVar_2, tVar_3, tVar_4, tVar_5, tVar_6, tVar_7, tVar_8, tVar_9, tVar_10, tVar_11, tVar_12, tVar_13, tVar_14, tVar_15, gName_0, gName_1, gName_2, gName_3, gName_4, gName_5, gName_6, gName_7, gName_8, gName_9, gName_10, gName_11, gName_12, gName_13, gName_14, gName_15, and_assoc, exists_eq_left', exists_eq_left, exists_eq, exists_eq', exists_and_left, exists_const, and_true, true_and, V.int.injEq, V.ref.injEq, V.bl.injEq, V.str.injEq, List.cons.injEq, and_self, scal, Bool.false_eq_true, if_false, if_true, reduceCtorEq, false_and, and_false, false_or, or_false, ↓reduceIte]
    refine ⟨by decide, fun l hln => ?_⟩
    refine ⟨_, rfl, b, rfl, ⟨_, (LA.ex hb mT (Ex.new hln)).sq⟩, for_la (R := T) (as := as) (xs := ts) (fun i σ H1 => ∃ u, σ = [some (.ref a), some (.ref b), some (.ref l), u] ∧ Ex H H1 ∧ LX T H1 l ((ts.take i).map (Rs.minus s)) ∧ (ts.take i).all (fun t => Rs.isBelow t s) = true) ⟨_, rfl, Ex.new hln, LX.new, rfl⟩ ?_ ?_ ?_⟩
    · rintro i σ H1 ⟨u, _, e, _⟩
      exact LA.ex hb mT e
    · rintro i p t σ H1 ht hp hT ⟨u, rfl, e, hx, hall⟩
      have htl := hl t (List.mem_of_getElem? ht)
      have hi : i < ts.length := (List.getElem?_eq_some_iff.1 ht).1
      simp only [ tNil, tCons, tC, tDrop, tOp, rI0, tCB, rEq, rNe, tNext, tRet, tRetN, tSeq, tAsg, tAug, tTest, tIfS, tIf, tNot, tAnd, tOr, tBM, tBM0, tCall, tTup, tTupZ, tLst, tFld, sFld, tMeth, tMake, tB, tYes, tCmp, t2I, tIsN, tNotN, tDGet, tDGet1, tDGet2, tDIn, tDNotIn, tAndV, tOrV, tNotV, tDNewT, sDPut, tSl, tPart, tNoPart, rSlL, tThen, tCntZ, tFgt, tChain, gCons, gNil, gTup, rCatZ, rCatA, rCat, rAppend, rExtend, rIn, rInD, rNotInD, rEqD, rNeD, rIxL, rIxT, tSub, tAdd, tBreak, tCont, tPar, rSum, rSumT, rMaxT, tyV, L2.start, List.map_cons, List.map_nil, List.length_cons, List.length_nil, List.cons_append, List.nil_append, List.append_nil, List.replicate, Nat.reduceAdd, Nat.reduceSub, wipe, List.set_cons_zero, List.set_cons_succ, nox_K, cxOf_K, blk_K, suite_K, tVar_0, tVar_1, tVar_2, tVar_3, tVar_4, tVar_5, tVar_6, tVar_7, tVar_8, tVar_9, tVar_10, tVar_11, tVar_12, tVar_13, tVar_14, tVar_15, gName_0, gName_1, gName_2, gName_3, gName_4, gName_5, gName_6, gName_7, gName_8, gName_9, gName_10, gName_11, gName_12, gName_13, gName_14, gName_15, and_assoc, exists_eq_left', exists_eq_left, exists_eq, exists_eq', exists_and_left, exists_const, and_true, true_and, V.int.injEq, V.ref.injEq, V.bl.injEq, V.str.injEq, List.cons.injEq, and_self, scal, Bool.false_eq_true, if_false, if_true, reduceCtorEq, false_and, and_false, false_or, or_false, ↓reduceIte]
      refine ⟨p, a, t, s, rfl, hT, ha.ex e, htl, fun H2 e2 => ?_⟩
      refine ⟨_, rfl, ?_⟩
      cases hbe : Rs.isBelow t s with
      | false =>
        refine q _ _ (e.trans e2) (.inl ⟨?_, rfl⟩)
        unfold leftOf
        rw [if_neg]
        intro hh
        have := List.all_eq_true.1 hh t (List.mem_of_getElem? ht)
        rw [hbe] at this; cases this
      | true =>
        rw [if_neg (by decide)]
        refine ⟨.inl ⟨_, SqL.of (hx.len.choose_spec.1 |> e2 _ _)⟩, a, p, s, t, rfl, (ha.ex e).ex e2, hT.ex e2, hbe, h3, fun r H3 e3 hr => ?_⟩
        have ln : H l = none := hln
        obtain ⟨vs, h1, h2, h3'⟩ := hx.app mT (e2.trans e3) (y := Rs.minus s t) (p := r) (by
          have : r ≠ l := fun er => by rw [er] at hr; obtain ⟨vs, hv, _⟩ := (hx.ex mT (e2.trans e3)).len; rw [hr.tup] at hv; cases hv
          show del H3 l r = _
          rw [del_ne this]; exact hr)
        refine ⟨vs, h1, ?_, Ex.mut ((e.trans e2).trans e3) hln, ?_, ?_⟩
        · rw [h2, List.length_map, List.length_take, sizeLine_eq]; omega
        · rw [take_snoc ht, List.map_append]; exact h3'
        · rw [all_take _ ht, hall, hbe]; rfl
    · rintro σ H1 ⟨u, rfl, e, hx, hall⟩
      simp only [ tNil, tCons, tC, tDrop, tOp, rI0, tCB, rEq, rNe, tNext, tRet, tRetN, tSeq, tAsg, tAug, tTest, tIfS, tIf, tNot, tAnd, tOr, tBM, tBM0, tCall, tTup, tTupZ, tLst, tFld, sFld, tMeth, tMake, tB, tYes, tCmp, t2I, tIsN, tNotN, tDGet, tDGet1, tDGet2, tDIn, tDNotIn, tAndV, tOrV, tNotV, tDNewT, sDPut, tSl, tPart, tNoPart, rSlL, tThen, tCntZ, tFgt, tChain, gCons, gNil, gTup, rCatZ, rCatA, rCat, rAppend, rExtend, rIn, rInD, rNotInD, rEqD, rNeD, rIxL, rIxT, tSub, tAdd, tBreak, tCont, tPar, rSum, rSumT, rMaxT, tyV, L2.start, List.map_cons, List.map_nil, List.length_cons, List.length_nil, List.cons_append, List.nil_append, List.append_nil, List.replicate, Nat.reduceAdd, Nat.reduceSub, wipe, List.set_cons_zero, List.set_cons_succ, nox_K, cxOf_K, blk_K, suite_K, tVar_0, tVar_1, tVar_2, tVar_3, tVar_4, tVar_5, tVar_6, tVar_7, tVar_8, tVar_9, tVar_10, tVar_11, tVar_12, tVar_13, tVar_14, tVar_15, gName_0, gName_1, gName_2, gName_3, gName_4, gName_5, gName_6, gName_7, gName_8, gName_9, gName_10, gName_11, gName_12, gName_13, gName_14, gName_15, and_assoc, exists_eq_left', exists_eq_left, exists_eq, exists_eq', exists_and_left, exists_const, and_true, true_and, V.int.injEq, V.ref.injEq, V.bl.injEq, V.str.injEq, List.cons.injEq, and_self, scal, Bool.false_eq_true, if_false, if_true, reduceCtorEq, false_and, and_false, false_or, or_false, ↓reduceIte]
      rw [List.take_length] at hx hall
      refine q _ _ e (.inr ⟨l, _, by unfold leftOf; rw [if_pos hall], rfl, hx.lo mT⟩)
def spHasAny : Sp := fun vs H Q _ => ∃ (d l : Addr) (kvs : List (List Key × V)) (xs : List (List Nat)), vs = [.ref d, .ref l] ∧ Rd H d (.dT kvs) ∧ LO T H l xs ∧ ∀ H', Ex H H' → Q (.bl (xs.any (mk? kvs))) H'
theorem any_take {α : Type} (f : α → Bool) {l : List α} {i : Nat} {x : α} (h : l[i]? = some x) : (l.take (i + 1)).any f = ((l.take i).any f || f x) := by rw [take_snoc h, List.any_append]; simp
theorem k_has_any (z : Z K mg) : Kp P w K mg base CX0 1 (He.ga K "has_any") ["marked", "stocks"] spHasAny := by
  have nd := sc_has_any.nd
  refine kp0 (f_has_any z) sc_has_any (fun vs H Q E h => ?_) fun cdv A outer s H vs Q E hr h => ⟨_,
    pss_cons (ps_for PassesOwn.never rfl (pi_list (pv 1)) ((pg_name (i := 2) nd rfl (by first | exact Or.inl rfl | exact Or.inr rfl)))
      (pss_one (ps_if (pt_cmp (pc_din (hu_of hr) (pv 2) (pv 0))) (pss_one (ps_ret pe_bl)) pss_nil)))
    (pss_one (ps_ret pe_bl)), ?_⟩
  · obtain ⟨d, l, kvs, xs, rfl, _⟩ := h; rfl
  · obtain ⟨d, l, kvs, xs, rfl, hd, ⟨as, hl⟩, q⟩ := h
    refine ⟨_, rfl, l, rfl, ⟨_, LA.sq hl⟩, for_la (R := T) (as := as) (xs := xs) (fun i σ H1 => ∃ u, σ = [some (.ref d), some (.ref l), u] ∧ H1 = H ∧ (xs.take i).any (mk? kvs) = false) ⟨_, rfl, rfl, rfl⟩ ?_ ?_ ?_⟩
    · rintro i σ H1 ⟨u, _, rfl, _⟩; exact hl
    · rintro i p t σ H1 ht hp hT ⟨u, rfl, rfl, hall⟩
      refine ⟨_, rfl, _, rfl, d, _, rfl, dget hd hT, _, rfl, ?_⟩
      cases hb : (got kvs t).isSome with
      | true =>
        have : xs.any (mk? kvs) = true := List.any_eq_true.2 ⟨t, List.mem_of_getElem? ht, hb⟩
        have q := q _ (Ex.refl _)
        rw [this] at q
        exact q
      | false => exact ⟨_, rfl, rfl, by rw [any_take _ ht, hall]; exact hb⟩
    · rintro σ H1 ⟨u, rfl, rfl, hall⟩
      rw [List.take_length] at hall
      have q := q _ (Ex.refl _)
      rw [hall] at q
      exact q
/-- whether all is there, and no marked stock is left -/
def firm (kvs : List (List Key × V)) : Option (List (List Nat)) → Bool
  | none => false
  | some xs => !xs.any (mk? kvs)
def spFirm : Sp := fun vs H Q _ => ∃ (d : Addr) (v : V) (kvs : List (List Key × V)) (x : Option (List (List Nat))), vs = [v, .ref d] ∧ Rd H d (.dT kvs) ∧ RL H v x ∧ ∀ H', Ex H H' → Q (.bl (firm kvs x)) H'
theorem k_firm (z : Z K mg) : Kp P w K mg base CX0 2 (He.ga K "is_firm") ["left", "doomed"] spFirm := by
  have nd := sc_is_firm.nd
  refine kp0 (f_is_firm z) sc_is_firm (fun vs H Q E h => ?_) fun cdv A outer s H vs Q E hr h => ⟨_,
    pss_one (ps_ret (pe_and (pe_cmp (pc_notN (pv 0)) rfl) (pe_one (pe_not ((Kp.call ((k_has_any z)) (Room.mono (hr) (by decide)) (by rfl) ((g_has_any z)) pass0 ((pa_cons (pv 1) (pa_cons (pv 0) pa_nil))))))))), ?_⟩
  · obtain ⟨d, v, kvs, xs, rfl, _⟩ := h; rfl
  · obtain ⟨d, v, kvs, x, rfl, hd, hv, q⟩ := h
    rcases hv with ⟨rfl, rfl⟩ | ⟨l, xs, rfl, rfl, hl⟩
    · exact ⟨_, rfl, _, rfl, q _ (Ex.refl _)⟩
    · refine ⟨_, rfl, _, rfl, ?_⟩
      exact ⟨_, rfl, _, rfl, d, l, kvs, xs, rfl, hd, hl, fun H' e => ⟨_, rfl, q _ e⟩⟩
end
end Fs
set_option Elab.async false
set_option linter.all false
set_option maxRecDepth 100000
set_option maxHeartbeats 4000000
namespace Fs
open PySem PySem.Spec PyProof.Rows L2 FsX
open Evl (Ex Ex.refl Ex.trans Ex.new Ex.mut fresh_back)
section
variable {H H' : Hp} {d l : Addr} {o u : HO} {od : Obj}
/-- neither a list nor a tuple stands here -/
def Off (H : Hp) (d : Addr) : Prop := ∃ u, H d = some u ∧ (∀ xs, u ≠ .lst xs) ∧ ∀ xs, u ≠ .tup xs
theorem off_dT {kvs : List (List Key × V)} (h : H d = some (.dT kvs)) : Off H d := ⟨_, h, (fun _ z => by cases z), (fun _ z => by cases z)⟩
theorem off_frz (h : H d = some (.frz od u)) : Off H d := ⟨_, h, (fun _ z => by cases z), (fun _ z => by cases z)⟩
theorem T.upd {s : List Nat} (h : T H l s) (f : Off H d) : T (upd H d o) l s := by
  obtain ⟨u, h1, _, h2⟩ := f
  have : l ≠ d := fun e => by rw [e] at h; rw [h.tup] at h1; cases h1; exact h2 _ rfl
  show L2.upd H d o l = _
  rw [upd_ne this]; exact h
theorem LO.upd {xs : List (List Nat)} (h : LO T H l xs) (f : Off H d) : LO T (upd H d o) l xs := by
  obtain ⟨as, h3, h4⟩ := h
  refine ⟨as, ?_, Paired.mapP h4 fun a b r => T.upd r f⟩
  obtain ⟨u, h1, h2, _⟩ := f
  have : l ≠ d := fun e => by rw [e, h1] at h3; cases h3; exact h2 _ rfl
  rw [upd_ne this]; exact h3
theorem RL.upd {v : V} {x : Option (List (List Nat))} (h : RL H v x) (f : Off H d) : RL (upd H d o) v x := by
  rcases h with h | ⟨l, xs, h1, h2, h3⟩
  · exact .inl h
  · exact .inr ⟨l, xs, h1, h2, h3.upd f⟩
theorem lock_out (h : H d = some u) (e : Ex (upd H d (.frz od u)) H') : Ex H (upd H' d u) := fun a o ha => by
  by_cases q : a = d
  · subst q; rw [h] at ha; cases ha; exact upd_same
  · rw [upd_ne q]; exact e _ _ (by rw [upd_ne q]; exact ha)
end
/-- a dict by stocks -/
def FA {β : Type} (R : Hp → V → β → Prop) (H : Hp) (kvs : List (List Key × V)) (m : List (List Nat × β)) : Prop := Paired (fun kv e => kv.1 = kk e.1 ∧ R H kv.2 e.2) kvs m
theorem FA.get {β : Type} {R : Hp → V → β → Prop} {H : Hp} {kvs : List (List Key × V)} {m : List (List Nat × β)} (h : FA R H kvs m) {i : Nat} {k : List Key} {v : V} (e : kvs[i]? = some (k, v)) : ∃ s b, m[i]? = some (s, b) ∧ k = kk s ∧ R H v b := by
  obtain ⟨⟨s, b⟩, h1, h2, h3⟩ := paired_get h e
  exact ⟨s, b, h1, h2, h3⟩
def RF (H : Hp) (v : V) (xs : List (List Nat)) : Prop := ∃ l, v = .ref l ∧ LO T H l xs
theorem RF.upd {H : Hp} {d : Addr} {o : HO} {v : V} {xs : List (List Nat)} (h : RF H v xs) (f : Off H d) : RF (upd H d o) v xs := by
  obtain ⟨l, h1, h2⟩ := h
  exact ⟨l, h1, h2.upd f⟩
theorem RF.ex {H H' : Hp} {v : V} {xs : List (List Nat)} (h : RF H v xs) (e : Ex H H') : RF H' v xs := by
  obtain ⟨l, h1, h2⟩ := h
  exact ⟨l, h1, h2.ex mT e⟩
theorem FA.map {β : Type} {R : Hp → V → β → Prop} {H H' : Hp} {kvs : List (List Key × V)} {m : List (List Nat × β)} (h : FA R H kvs m) (f : ∀ v b, R H v b → R H' v b) : FA R H' kvs m := Paired.mapP h fun a b r => ⟨r.1, f _ _ r.2⟩
theorem FA.got {β : Type} {R : Hp → V → β → Prop} {H : Hp} : ∀ {kvs : List (List Key × V)} {m : List (List Nat × β)}, FA R H kvs m → ∀ s, match m.lookup s with | none => got kvs s = none | some b => ∃ v, got kvs s = some v ∧ R H v b
  | _, _, .nil, s => rfl
  | (k, v) :: kvs, (t, b) :: m, .cons h1 h2, s => by
    obtain ⟨h1, h3⟩ := h1
    simp only at h1 h3
    subst h1
    rw [List.lookup_cons]
    by_cases e : s = t
    · subst e
      simp only [beq_self_eq_true]
      exact ⟨v, by simp [Fs.got, valV], h3⟩
    · rw [show (s == t) = false by simpa using e]
      have := FA.got h2 s
      have n : Fs.got ((kk t, v) :: kvs) s = Fs.got kvs s := by
        unfold Fs.got valV
        rw [List.find?_cons_of_neg (by simpa using fun q => e (kk_inj q).symm)]
      rw [n]
      exact this
theorem FA.len {β : Type} {R : Hp → V → β → Prop} {H : Hp} {kvs : List (List Key × V)} {m : List (List Nat × β)} (h : FA R H kvs m) : kvs.length = m.length := Paired.length h
theorem lookup_nd {β : Type} : ∀ {m : List (List Nat × β)} {i : Nat} {s : List Nat} {b : β}, (m.map (·.1)).Nodup → m[i]? = some (s, b) → m.lookup s = some b
  | _ :: m, 0, s, b, _, h => by cases h; rw [List.lookup_cons]; simp
  | (t, c) :: m, i + 1, s, b, hn, h => by
    rw [List.map_cons, List.nodup_cons] at hn
    have h : m[i]? = some (s, b) := h
    rw [List.lookup_cons, show (s == t) = false from by
      rw [beq_eq_false_iff_ne]; intro e; subst e
      exact hn.1 (List.mem_map.2 ⟨_, List.mem_of_getElem? h, rfl⟩)]
    exact lookup_nd hn.2 h
def firmKeys (kD : List (List Key × V)) (mL : List (List Nat × Option (List (List Nat)))) : List (List Nat) := (mL.filter fun e => firm kD e.2).map (·.1)
def newKeep (kD : List (List Key × V)) (mL : List (List Nat × Option (List (List Nat)))) (e : List Nat × List (List Nat)) : Bool := !mk? kD e.1 && !e.2.any fun u => (firmKeys kD mL).contains u
def newOf (kD : List (List Key × V)) (mF : List (List Nat × List (List Nat))) (mL : List (List Nat × Option (List (List Nat)))) : List (List Nat) := (mF.filter (newKeep kD mL)).map (·.1)
section
variable {P : Program} {w : World} {K : PySem.W.Frag} {mg : Str → Option Value} {base : Heap}
def spNewly : Sp := fun vs H Q _ => ∃ (dF dL dD : Addr) (kF kL kD : List (List Key × V)) (mF : List (List Nat × List (List Nat))) (mL : List (List Nat × Option (List (List Nat)))), vs = [.ref dF, .ref dL, .ref dD] ∧ H dF = some (.dT kF) ∧ H dL = some (.dT kL) ∧ H dD = some (.dT kD) ∧ dF ≠ dL ∧ dF ≠ dD ∧ dL ≠ dD ∧
  FA RF H kF mF ∧ FA RL H kL mL ∧ (mF.map (·.1)).Nodup ∧ (mL.map (·.1)).Nodup ∧ mF.length ≤ 1000 ∧ mL.length ≤ 1000 ∧ ∀ r H', Ex H H' → LO T H' r (newOf kD mF mL) → Q (.ref r) H'
theorem k_newly (z : Z K mg) : Kp P w K mg base CX0 3 (He.ga K "newly_doomed") ["filled", "left", "doomed"] spNewly := by
  have nd := sc_newly_doomed.nd
  refine kp0 (f_newly_doomed z) sc_newly_doomed (fun vs H Q E h => ?_) fun cdv A outer s H vs Q E hr h => ⟨_,
    pss_cons ((ps_set (i := 3) nd rfl (by first | exact Or.inl rfl | exact Or.inr rfl) (pe_dnewT)))
    (pss_cons (ps_lock (ps_for PassesOwn.never rfl (pi_keys (pv 1)) ((pg_name (i := 4) nd rfl (by first | exact Or.inl rfl | exact Or.inr rfl))) (pss_one (ps_if (pt_val ((Kp.call ((k_firm z)) (Room.mono (hr) (by decide)) (by rfl) ((g_is_firm z)) pass0 ((pa_cons (pe_dget (hu_of hr) (pv 1) (pv 4) (fun _ _ => rfl)) (pa_cons (pv 2) pa_nil)))))) (pss_one (ps_dput (hu_of hr) (pv 3) (pv 4) pe_bl rfl)) pss_nil))))
    (pss_one (ps_ret (pe_lock (pe_lc (g := gName 4) (own := [("stock", 4)]) (tt := tAnd (tTest (tDNotIn (tVar 4) (tVar 2))) (tNot (tTest (tCall spHasAny [] E0 (tCons (tVar 3) (tCons (tDGet (tVar 0) (tVar 4)) tNil)))))) rfl nd (pi_keys (pv 0)) (blkOk_by (N := ["filled", "left", "doomed", "firm", "stock"]) (sc := defScope s_newly_doomed) (by decide +kernel)) (fun _ _ _ _ _ => (pg_name (i := 4) nd rfl (Or.inl rfl)))
      (fun _ _ _ _ _ => pts_one (PW.pt (pw_and (pt_cmp (pc_dnotin (hu_of hr) (pv 4) (pv 2))) (pw_and1 (pt_not (pt_val ((Kp.call ((k_has_any z)) (Room.mono (hr) (by decide)) (by rfl) ((g_has_any z)) pass0 ((pa_cons (pv 3) (pa_cons (pe_dget (hu_of hr) (pv 0) (pv 4) (fun _ _ => rfl)) pa_nil))))))))))) (fun _ _ _ _ _ => pv 4)))))), ?_⟩
  · obtain ⟨_, _, _, _, _, _, _, _, rfl, _⟩ := h; rfl
  · obtain ⟨dF, dL, dD, kF, kL, kD, mF, mL, rfl, hF, hL, hD, n1, n2, n3, fF, fL, ndF, ndL, szF, szL, q⟩ := h
    simp only [ tNil, tCons, tC, tDrop, tOp, rI0, tCB, rEq, rNe, tNext, tRet, tRetN, tSeq, tAsg, tAug, tTest, tIfS, tIf, tNot, tAnd, tOr, tBM, tBM0, tCall, tTup, tTupZ, tLst, tFld, sFld, tMeth, tMake, tB, tYes, tCmp, t2I, tIsN, tNotN, tDGet, tDGet1, tDGet2, tDIn, tDNotIn, tAndV, tOrV, tNotV, tDNewT, sDPut, tSl, tPart, tNoPart, rSlL, tThen, tCntZ, tFgt, tChain, gCons, gNil, gTup, rCatZ, rCatA, rCat, rAppend, rExtend, rIn, rInD, rNotInD, rEqD, rNeD, rIxL, rIxT, tSub, tAdd, tBreak, tCont, tPar, rSum, rSumT, rMaxT, tyV, L2.start, List.map_cons, List.map_nil, List.length_cons, List.length_nil, List.cons_append, List.nil_append, List.append_nil, List.replicate, Nat.reduceAdd, Nat.reduceSub, wipe, List.set_cons_zero, List.set_cons_succ, nox_K, cxOf_K, blk_K, suite_K, tVar_0, tVar_1, tVar_2, tVar_3, tVar_4, tVar_5, tVar_6, tVar_7, tVar_8, tVar_9, tVar_10, tVar_11, tVar_12, tVar_13, tVar_14, tVar_15, gName_0, gName_1, gName_2, gName_3, gName_4, gName_5, gName_6, gName_7, gName_8, gName_9, gName_10, gName_11, gName_12, gName_13, gName_14, gName_15, and_assoc, exists_eq_left', exists_eq_left, exists_eq, exists_eq', exists_and_left, exists_const, and_true, true_and, V.int.injEq, V.ref.injEq, V.bl.injEq, V.str.injEq, List.cons.injEq, and_self, scal, Bool.false_eq_true, if_false, if_true, reduceCtorEq, false_and, and_false, false_or, or_false, ↓reduceIte]
    intro df hdf
    have fdL : df ≠ dL := (ne_of_none hL hdf).symm
    have fdF : df ≠ dF := (ne_of_none hF hdf).symm
    have fdD : df ≠ dD := (ne_of_none hD hdf).symm
    have e0 : Ex H (upd H df (.dT [])) := Ex.new hdf
    refine ⟨dL, .dT kL, e0 _ _ hL, trivial, fun od => ?_⟩
    have fL0 : FA RL (upd H dL (.frz od (.dT kL))) kL mL := fL.map fun v b r => r.upd (off_dT hL)
    have hL0 : (upd H dL (.frz od (.dT kL))) dL = some (.frz od (.dT kL)) := upd_same
    have hD0 : (upd H dL (.frz od (.dT kL))) dD = some (.dT kD) := by rw [upd_ne n3.symm]; exact hD
    have hf0 : (upd H dL (.frz od (.dT kL))) df = none := by rw [upd_ne fdL]; exact hdf
    have eB : Ex (upd H dL (.frz od (.dT kL))) (upd (upd H df (.dT [])) dL (.frz od (.dT kL))) := fun a o ha => by
      by_cases h : a = dL
      · subst h; rw [upd_same] at ha ⊢; exact ha
      · rw [upd_ne h] at ha ⊢; exact e0 _ _ ha
    have hf1 : (upd (upd H df (.dT [])) dL (.frz od (.dT kL))) df = some (.dT []) := by rw [upd_ne fdL]; exact upd_same
    generalize hHB : upd H dL (.frz od (.dT kL)) = HB at *
    generalize hHL : (upd (upd H df (.dT [])) dL (.frz od (.dT kL))) = HL at *
    refine ⟨_, rfl, dL, od, rfl, .inr ⟨kL, eB _ _ hL0, for_it walk_keysT (fun i σ H1 => ∃ u kf, σ = [some (.ref dF), some (.ref dL), some (.ref dD), some (.ref df), u] ∧ Ex HB H1 ∧ H1 df = some (.dT kf) ∧ kf.length ≤ i ∧ ∀ s, mk? kf s = (firmKeys kD (mL.take i)).contains s) ⟨_, _, rfl, eB, hf1, Nat.zero_le _, fun s => rfl⟩ ?_ ?_ ?_⟩⟩
    · rintro i σ H1 _ ⟨u, kf, _, e, _⟩
      exact e _ _ hL0
    · rintro i x σ H1 _ hi ⟨u, kf, rfl, e, hf, hlen, hmk⟩ ⟨rfl, k, v, p, hk, rfl, hp⟩
      rename_i H1
      obtain ⟨s, b, hm, rfl, hb⟩ := fL0.get hk
      rw [kk_kV] at hp
      have hgot := fL0.got s
      rw [lookup_nd ndL hm] at hgot
      obtain ⟨v', hg, hb'⟩ := hgot
      simp only [ tNil, tCons, tC, tDrop, tOp, rI0, tCB, rEq, rNe, tNext, tRet, tRetN, tSeq, tAsg, tAug, tTest, tIfS, tIf, tNot, tAnd, tOr, tBM, tBM0, tCall, tTup, tTupZ, tLst, tFld, sFld, tMeth, tMake, tB, tYes, tCmp, t2I, tIsN, tNotN, tDGet, tDGet1, tDGet2, tDIn, tDNotIn, tAndV, tOrV, tNotV, tDNewT, sDPut, tSl, tPart, tNoPart, rSlL, tThen, tCntZ, tFgt, tChain, gCons, gNil, gTup, rCatZ, rCatA, rCat, rAppend, rExtend, rIn, rInD, rNotInD, rEqD, rNeD, rIxL, rIxT, tSub, tAdd, tBreak, tCont, tPar, rSum, rSumT, rMaxT, tyV, L2.start, List.map_cons, List.map_nil, List.length_cons, List.length_nil, List.cons_append, List.nil_append, List.append_nil, List.replicate, Nat.reduceAdd, Nat.reduceSub, wipe, List.set_cons_zero, List.set_cons_succ, nox_K, cxOf_K, blk_K, suite_K, tVar_0, tVar_1, tVar_2, tVar_3, tVar_4, tVar_5, tVar_6, tVar_7, tVar_8, tVar_9, tVar_10, tVar_11, tVar_12, tVar_13, tVar_14, tVar_15, gName_0, gName_1, gName_2, gName_3, gName_4, gName_5, gName_6, gName_7, gName_8, gName_9, gName_10, gName_11, gName_12, gName_13, gName_14, gName_15, and_assoc, exists_eq_left', exists_eq_left, exists_eq, exists_eq', exists_and_left, exists_const, and_true, true_and, V.int.injEq, V.ref.injEq, V.bl.injEq, V.str.injEq, List.cons.injEq, and_self, scal, Bool.false_eq_true, if_false, if_true, reduceCtorEq, false_and, and_false, false_or, or_false, ↓reduceIte]
      refine ⟨v', ?_, dD, v', kD, b, rfl, .inl (e _ _ hD0), hb'.ex e, fun H2 e2 => ⟨_, rfl, ?_⟩⟩
      · have := dget (s := s) (.inr ⟨od, e _ _ hL0⟩) hp
        rw [hg] at this
        exact this
      have keys : ∀ s', (firmKeys kD (mL.take (i + 1))).contains s' = ((firmKeys kD (mL.take i)).contains s' || (firm kD b && s' == s)) := by
        intro s'
        unfold firmKeys
        rw [take_snoc hm, List.filter_append, List.map_append, List.contains_eq_any_beq, List.any_append, List.contains_eq_any_beq]
        cases hfb : firm kD b <;> simp [List.filter, hfb]
      have sz : kL.length ≤ 1000 := by rw [fL0.len]; exact szL
      cases hfb : firm kD b with
      | true =>
        rw [if_pos rfl]
        have hf2 := e2 _ _ hf
        refine ⟨_, DPut.t (k := kk s) hf2 (by rw [kk_kV]; exact e2 _ _ hp) (by rw [sizeLine_eq]; omega), Ex.mut (e.trans e2) hf0, _, upd_same, Nat.le_trans (length_putK ..) (by omega), fun s' => ?_⟩
        rw [keys, hfb, Bool.true_and, ← hmk]
        show (valV _ _).isSome = _
        rw [valV_put]
        by_cases h : s' = s
        · subst h; simp
        · rw [if_neg fun q => h (kk_inj q)]; simp [h]
      | false =>
        rw [if_neg (by decide)]
        refine ⟨e.trans e2, _, e2 _ _ hf, by omega, fun s' => ?_⟩
        rw [keys, hfb, hmk]; simp
    · rintro σ H1 ⟨u, kf, rfl, e, hf, hlen, hmk⟩
      rw [fL0.len, List.take_length] at hmk
      refine ⟨e _ _ hL0, ?_⟩
      have e1 : Ex H (upd H1 dL (.dT kL)) := lock_out hL (hHB ▸ e)
      have hf2 : upd H1 dL (.dT kL) df = some (.dT kf) := by rw [upd_ne fdL]; exact hf
      refine ⟨dF, .dT kF, e1 _ _ hF, trivial, fun od2 => ?_⟩
      generalize upd H1 dL (.dT kL) = H2 at *
      have oF : Off H2 dF := off_dT (e1 _ _ hF)
      have fF2 : FA RF (upd H2 dF (.frz od2 (.dT kF))) kF mF := fF.map fun v b r => (r.ex e1).upd oF
      have hF2 : (upd H2 dF (.frz od2 (.dT kF))) dF = some (.frz od2 (.dT kF)) := upd_same
      have hD2 : (upd H2 dF (.frz od2 (.dT kF))) dD = some (.dT kD) := by rw [upd_ne n2.symm]; exact e1 _ _ hD
      have hf3 : (upd H2 dF (.frz od2 (.dT kF))) df = some (.dT kf) := by rw [upd_ne fdF]; exact hf2
      have back : ∀ H', Ex (upd H2 dF (.frz od2 (.dT kF))) H' → Ex H (upd H' dF (.dT kF)) := fun H' e' => e1.trans (lock_out (e1 _ _ hF) e')
      generalize upd H2 dF (.frz od2 (.dT kF)) = HC at *
      refine ⟨_, rfl, dF, od2, rfl, .inr ⟨kF, hF2, fun D hD3 => lc_it walk_keysT (fun i H3 => Ex HC H3 ∧ LX T H3 D (((mF.take i).filter (newKeep kD mL)).map (·.1))) ⟨Ex.new hD3, LX.new⟩ ?_ ?_ ?_⟩⟩
      · rintro i H3 _ ⟨e3, _⟩
        exact e3 _ _ hF2
      · rintro i x H3 _ hi ⟨e3, hx⟩ ⟨rfl, k, v, p, hk, rfl, hp⟩
        rename_i H3
        obtain ⟨s, b, hm, rfl, hb⟩ := fF2.get hk
        rw [kk_kV] at hp
        have hgot := fF2.got s
        rw [lookup_nd ndF hm] at hgot
        obtain ⟨v', hg, l, rfl, hb'⟩ := hgot
        simp only [ tNil, tCons, tC, tDrop, tOp, rI0, tCB, rEq, rNe, tNext, tRet, tRetN, tSeq, tAsg, tAug, tTest, tIfS, tIf, tNot, tAnd, tOr, tBM, tBM0, tCall, tTup, tTupZ, tLst, tFld, sFld, tMeth, tMake, tB, tYes, tCmp, t2I, tIsN, tNotN, tDGet, tDGet1, tDGet2, tDIn, tDNotIn, tAndV, tOrV, tNotV, tDNewT, sDPut, tSl, tPart, tNoPart, rSlL, tThen, tCntZ, tFgt, tChain, gCons, gNil, gTup, rCatZ, rCatA, rCat, rAppend, rExtend, rIn, rInD, rNotInD, rEqD, rNeD, rIxL, rIxT, tSub, tAdd, tBreak, tCont, tPar, rSum, rSumT, rMaxT, tyV, L2.start, List.map_cons, List.map_nil, List.length_cons, List.length_nil, List.cons_append, List.nil_append, List.append_nil, List.replicate, Nat.reduceAdd, Nat.reduceSub, wipe, List.set_cons_zero, List.set_cons_succ, nox_K, cxOf_K, blk_K, suite_K, tVar_0, tVar_1, tVar_2, tVar_3, tVar_4, tVar_5, tVar_6, tVar_7, tVar_8, tVar_9, tVar_10, tVar_11, tVar_12, tVar_13, tVar_14, tVar_15, gName_0, gName_1, gName_2, gName_3, gName_4, gName_5, gName_6, gName_7, gName_8, gName_9, gName_10, gName_11, gName_12, gName_13, gName_14, gName_15, and_assoc, exists_eq_left', exists_eq_left, exists_eq, exists_eq', exists_and_left, exists_const, and_true, true_and, V.int.injEq, V.ref.injEq, V.bl.injEq, V.str.injEq, List.cons.injEq, and_self, scal, Bool.false_eq_true, if_false, if_true, reduceCtorEq, false_and, and_false, false_or, or_false, ↓reduceIte]
        have sz : kF.length ≤ 1000 := by rw [fF2.len]; exact szF
        have keep : newKeep kD mL (s, b) = (!mk? kD s && !b.any (mk? kf)) := by
          unfold newKeep
          simp only
          congr 2
          congr 1
          funext u
          rw [hmk]
        have step : ((mF.take (i + 1)).filter (newKeep kD mL)).map (·.1) = ((mF.take i).filter (newKeep kD mL)).map (·.1) ++ (if newKeep kD mL (s, b) then [s] else []) := by
          rw [take_snoc hm, List.filter_append, List.map_append]
          congr 1
          cases h : newKeep kD mL (s, b) <;> simp [List.filter, h]
        refine ⟨_, dget (.inl (e3 _ _ hD2)) hp, ?_⟩
        cases hkd : (got kD s).isSome with
        | true =>
          rw [if_neg (by decide)]
          rw [show mk? kD s = true from hkd] at keep
          rw [step, keep]
          simp only [Bool.not_true, Bool.false_and, Bool.false_eq_true, if_false, List.append_nil]
          exact ⟨e3, hx⟩
        | false =>
          rw [if_pos (by decide)]
          refine ⟨.ref l, by have := dget (s := s) (.inr ⟨od2, e3 _ _ hF2⟩) hp; rw [hg] at this; exact this, ?_⟩
          refine ⟨df, l, kf, b, rfl, .inl (e3 _ _ hf3), hb'.ex mT e3, fun H4 e4 => ⟨_, rfl, ?_⟩⟩
          rw [show mk? kD s = false from hkd] at keep
          cases ha : b.any (mk? kf) with
          | true =>
            rw [if_neg (by decide)]
            rw [ha] at keep
            rw [step, keep]
            simp only [Bool.not_true, Bool.and_false, Bool.false_eq_true, if_false, List.append_nil]
            exact ⟨e3.trans e4, hx.ex mT e4⟩
          | false =>
            rw [if_pos (by decide)]
            rw [ha] at keep
            obtain ⟨vs, h1, h2, h3⟩ := hx.app mT e4 (y := s) (p := p) (by
              have pD : p ≠ D := fun e => by obtain ⟨vs, hv, _⟩ := hx.len; rw [e, hv] at hp; cases hp
              show del H4 D p = _
              rw [del_ne pD]; exact e4 _ _ hp)
            refine ⟨vs, h1, ?_, Ex.mut (e3.trans e4) hD3, ?_⟩
            · rw [h2, List.length_map, sizeLine_eq]
              have := List.length_filter_le (newKeep kD mL) (mF.take i)
              rw [List.length_take] at this
              omega
            · rw [step, keep]
              simp only [Bool.not_false, Bool.and_true, if_true]
              exact h3
      · rintro H3 ⟨e3, hx⟩
        rw [fF2.len, List.take_length] at hx
        refine ⟨e3 _ _ hF2, q _ _ (back _ e3) ?_⟩
        exact (hx.lo mT).upd (off_frz (e3 _ _ hF2))
end
end Fs
namespace FsLaw

section
open Rs

def putText (t : List Nat) : Octets := putList16 putU8 t

def IsShop (p : Shop) : Prop := (1 ≤ p.shelves.length ∧ p.shelves.length ≤ 3 ∧ (shelfNames p.shelves).Nodup ∧ ∀ (s : Shelf), s ∈ p.shelves → isName s.name = true ∧ 1 ≤ s.room ∧ s.room ≤ 4) ∧ 1 ≤ p.taken ∧ p.taken ≤ 4 ∧ 1 ≤ p.ofOne ∧ p.ofOne ≤ p.taken ∧ 1 ≤ p.items ∧ p.items ≤ 9 ∧ 1 ≤ p.onto ∧ p.onto ≤ p.shelves.length

/-- As many numbers, none of them greater. -/
def Below (a b : List Nat) : Prop := a.length = b.length ∧ ∀ (i : Nat), a.getD i 0 ≤ b.getD i 0

def IsStock (p : Shop) (s : Stock) : Prop := Below s (roomsOf p)

/-- What the stocker can put on: there is room; not too many items, not onto too many shelves. -/
def IsFilling (p : Shop) (s f : Stock) : Prop := f.length = s.length ∧ Below (plus s f) (roomsOf p) ∧ totalOf f ≤ p.items ∧ onesOf f ≤ p.onto

/-- What customers can take between two visits. -/
def IsTaking (p : Shop) (t : Stock) : Prop := t.length = p.shelves.length ∧ (∀ (x : Nat), x ∈ t → x ≤ p.ofOne) ∧ totalOf t ≤ p.taken

/-- What is left if the stocker follows a plan and customers take one thing after another; none if somebody finds an empty shelf. -/
def playedOn (plan : Stock → Stock) : Stock → List Stock → Option Stock
  | s, [] => some s
  | s, t :: r => if isBelow t (plus s (plan s)) then playedOn plan (minus (plus s (plan s)) t) r else none

/-- With some plan nobody ever finds an empty shelf, whatever customers take, however long. -/
def CanKeep (p : Shop) (s : Stock) : Prop := ∃ (plan : Stock → Stock), ∀ (l : List Stock), (∀ (t : Stock), t ∈ l → IsTaking p t) → ∃ (r : Stock), playedOn plan s l = some r ∧ IsFilling p r (plan r)

/-- Whatever the stocker does, customers can find an empty shelf within so many visits. -/
def CanForce (p : Shop) : Nat → Stock → Prop
  | 0, _ => False
  | n + 1, s => ∀ (f : Stock), IsFilling p s f → ∃ (t : Stock), IsTaking p t ∧ (isBelow t (plus s f) = false ∨ CanForce p n (minus (plus s f) t))

/-- Behind a filling: whatever is taken is there, and can be kept so. -/
def StaysWell (p : Shop) (u : Stock) : Prop := ∀ (t : Stock), IsTaking p t → isBelow t u = true ∧ CanKeep p (minus u t)

/-- A filling is told exactly if a stock can be kept; it keeps it, and none of fewer items does. -/
def filling_exact : Prop := ∀ (p : Shop) (s : Stock), IsStock p s → (fillingOf p s = none ↔ ¬ CanKeep p s) ∧ ∀ f : Stock, fillingOf p s = some f → IsFilling p s f ∧ StaysWell p (plus s f) ∧ ∀ g : Stock, IsFilling p s g → StaysWell p (plus s g) → totalOf f ≤ totalOf g

/-- What customers take is told exactly if not all is well behind a filling; by it they find an empty shelf now, or as soon as by anything else. -/
def attack_exact : Prop := ∀ (p : Shop) (u : Stock), IsStock p u → (attackOf p u = none ↔ StaysWell p u) ∧ ∀ t : Stock, attackOf p u = some t → IsTaking p t ∧ (isBelow t u = false ∨ (∀ r : Stock, IsTaking p r → isBelow r u = true) ∧ ∃ n : Nat, CanForce p n (minus u t) ∧ ∀ (r : Stock) (m : Nat), IsTaking p r → CanForce p m (minus u r) → n ≤ m)

/-- The least stocks that can be kept; what can be kept is exactly what one of them is below. -/
def least_exact : Prop := ∀ p : Shop, (∀ s : Stock, s ∈ leastOf p ↔ IsStock p s ∧ CanKeep p s ∧ ∀ t : Stock, IsStock p t → CanKeep p t → Below t s → t = s) ∧ ∀ s : Stock, IsStock p s → (CanKeep p s ↔ ∃ t : Stock, t ∈ leastOf p ∧ Below t s)

/-- The fewest items (from 1 to 9), and the fewest shelves at a visit, with which full shelves can be kept. -/
def fewest_exact : Prop := ∀ p : Shop, (∀ n : Nat, fewestItems p = some n → 1 ≤ n ∧ n ≤ 9 ∧ CanKeep (withItems p n) (roomsOf p) ∧ ∀ m : Nat, 1 ≤ m → m ≤ 9 → CanKeep (withItems p m) (roomsOf p) → n ≤ m) ∧ (fewestItems p = none → ∀ m : Nat, 1 ≤ m → m ≤ 9 → ¬ CanKeep (withItems p m) (roomsOf p)) ∧ (∀ n : Nat, fewestOnto p = some n → 1 ≤ n ∧ n ≤ p.shelves.length ∧ CanKeep (withOnto p n) (roomsOf p) ∧ ∀ m : Nat, 1 ≤ m → m ≤ p.shelves.length → CanKeep (withOnto p m) (roomsOf p) → n ≤ m) ∧ (fewestOnto p = none → ∀ m : Nat, 1 ≤ m → m ≤ p.shelves.length → ¬ CanKeep (withOnto p m) (roomsOf p))

/-- In two shops with the same shelves the same stocks can be kept if none is told; otherwise the told one can in just one of them. -/
def parting_exact : Prop := ∀ (p q : Shop), roomsOf p = roomsOf q → (partingOf p q = none ↔ ∀ s : Stock, IsStock p s → (CanKeep p s ↔ CanKeep q s)) ∧ ∀ s : Stock, partingOf p q = some s → IsStock p s ∧ ¬ (CanKeep p s ↔ CanKeep q s)

/-- In a round all is well exactly if the stocker can still see to it; at a visit the hint is what filling answers for the stock, while the shop is open there is none. -/
def round_exact : Prop := ∀ r : Round, IsStock r.shop (stockNow r) → (isOpen r = true → (isWell r = true ↔ StaysWell r.shop (stockNow r)) ∧ hintOf r = none) ∧ (isOpen r = false → (isWell r = true ↔ CanKeep r.shop (stockNow r)) ∧ hintOf r = fillingOf r.shop (stockNow r))

/-- Lines put together are the lines of the text. -/
def lines_read : Prop := ∀ l : List Units, l ≠ [] → (∀ u : Units, u ∈ l → (10 : UInt16) ∉ u) → linesOf (joinWith 10 l) = l

def words_read : Prop := ∀ (l : List Units), (∀ u : Units, u ∈ l → u ≠ [] ∧ (32 : UInt16) ∉ u) → wordsOf (joinWith 32 l) = l

def faults_exact : Prop := ∀ (α : Type) (f : α → List Units → Option α) (m : Nat) (s : α) (n : Nat) (l : List Units), readLines f m s l = .error n → m ≤ n ∧ ∃ (t : α) (u : Units), readLines f m s (l.take (n - m)) = .ok t ∧ l[n - m]? = some u ∧ wordsOf u ≠ [] ∧ f t (wordsOf u) = none

def digits_read : Prop := (∀ (n : Nat), 1 ≤ n → n ≤ 9 → digitOf (digitUnits n) = some n) ∧ ∀ (u : Units) (n : Nat), digitOf u = some n → 1 ≤ n ∧ n ≤ 9 ∧ u = digitUnits n

/-- What is read is a shop; the text of a shop is read as this shop. -/
def shops_read : Prop := (∀ (u : Units) (p : Shop), readShop u = .ok p → IsShop p) ∧ ∀ p : Shop, IsShop p → readShop (shopUnits p) = .ok p

/-- The state behind some requests. -/
def behind (s : Zz33Octets.St) (l : List (List UInt8)) : Zz33Octets.St := l.foldl (fun w r => (Zz33Octets.step w r).1) s
-- A request that is answered by 0 and these octets, whatever the state.

def Says (x : Request) (o : Octets) : Prop := ∀ (w : Zz33Octets.St) (r : List UInt8), requestOf (Zz33Octets.octetsOf r) = some x → (Zz33Octets.step w r).2 = Zz33Octets.bytesOf (0 :: o)

/-- safe answers 1 if and only if some plan of the stocker keeps this stock, whatever customers take, however long; it answers 0 if and only if customers can force it, within some number of visits, that somebody finds an empty shelf, whatever the stocker does. -/
def Safe_shows : Prop := ∀ (t : List Nat) (s : Stock) (p : Shop), shopFor t = .ok p → IsStock p s → (Says (.safe t s) [1] ∧ CanKeep p s) ∨ (Says (.safe t s) [0] ∧ ∃ n : Nat, CanForce p n s)

/-- doom answers nothing if the stock can be kept; otherwise the least number of visits within which customers can force it. -/
def Doom_shows : Prop := ∀ (t : List Nat) (s : Stock) (p : Shop), shopFor t = .ok p → IsStock p s → (Says (.doom t s) [0] ∧ CanKeep p s) ∨ ∃ n : Nat, Says (.doom t s) (1 :: putU16 n) ∧ n ≤ 125 ∧ CanForce p n s ∧ ∀ m : Nat, CanForce p m s → n ≤ m

/-- filling answers nothing if the stock cannot be kept; otherwise a filling behind which all is well, of as few items as possible. -/
def Filling_shows : Prop := ∀ (t : List Nat) (s : Stock) (p : Shop), shopFor t = .ok p → IsStock p s → (Says (.filling t s) [0] ∧ ¬ CanKeep p s) ∨ ∃ f : Stock, Says (.filling t s) (1 :: putNumbers f) ∧ IsFilling p s f ∧ StaysWell p (plus s f) ∧ ∀ g : Stock, IsFilling p s g → StaysWell p (plus s g) → totalOf f ≤ totalOf g

/-- attack answers nothing if all is well behind a filling; otherwise a taking by which somebody finds an empty shelf now, or, if there is none such, as soon as by any other. -/
def Attack_shows : Prop := ∀ (t : List Nat) (s : Stock) (p : Shop), shopFor t = .ok p → IsStock p s → (Says (.attack t s) [0] ∧ StaysWell p s) ∨ ∃ g : Stock, Says (.attack t s) (1 :: putNumbers g) ∧ ¬ StaysWell p s ∧ IsTaking p g ∧ (isBelow g s = false ∨ (∀ r : Stock, IsTaking p r → isBelow r s = true) ∧ ∃ n : Nat, CanForce p n (minus s g) ∧ ∀ (r : Stock) (m : Nat), IsTaking p r → CanForce p m (minus s r) → n ≤ m)

/-- least answers just the least stocks that can be kept; what can be kept is just what one of them is below. -/
def Least_shows : Prop := ∀ (t : List Nat) (p : Shop), shopFor t = .ok p → ∃ l : List Stock, Says (.least t) (putList16 putNumbers l) ∧ (∀ s : Stock, s ∈ l ↔ IsStock p s ∧ CanKeep p s ∧ ∀ u : Stock, IsStock p u → CanKeep p u → Below u s → u = s) ∧ ∀ s : Stock, IsStock p s → (CanKeep p s ↔ ∃ u : Stock, u ∈ l ∧ Below u s)

/-- fewest answers the least number of items, and of shelves, with which full shelves can be kept, where there is one. -/
def Fewest_shows : Prop := ∀ (t : List Nat) (p : Shop), shopFor t = .ok p → ∃ a b : Option Nat, Says (.fewest t) (putMaybe putU8 a ++ putMaybe putU8 b) ∧ (∀ n : Nat, a = some n → 1 ≤ n ∧ n ≤ 9 ∧ CanKeep (withItems p n) (roomsOf p) ∧ ∀ m : Nat, 1 ≤ m → m ≤ 9 → CanKeep (withItems p m) (roomsOf p) → n ≤ m) ∧ (a = none → ∀ m : Nat, 1 ≤ m → m ≤ 9 → ¬ CanKeep (withItems p m) (roomsOf p)) ∧ (∀ n : Nat, b = some n → 1 ≤ n ∧ n ≤ p.shelves.length ∧ CanKeep (withOnto p n) (roomsOf p) ∧ ∀ m : Nat, 1 ≤ m → m ≤ p.shelves.length → CanKeep (withOnto p m) (roomsOf p) → n ≤ m) ∧ (b = none → ∀ m : Nat, 1 ≤ m → m ≤ p.shelves.length → ¬ CanKeep (withOnto p m) (roomsOf p))

/-- parting, of two shops with the same shelves, answers nothing if the same stocks can be kept in both; otherwise a stock that can in just one of them. -/
def Parting_shows : Prop := ∀ (t u : List Nat) (p q : Shop), shopFor t = .ok p → shopFor u = .ok q → sameShelves p q = true → (Says (.parting t u) [0] ∧ ∀ s : Stock, IsStock p s → (CanKeep p s ↔ CanKeep q s)) ∨ ∃ s : Stock, Says (.parting t u) (1 :: putNumbers s) ∧ IsStock p s ∧ ¬ (CanKeep p s ↔ CanKeep q s)

/-- In any life each round in a seat is one of a shop, its stock is one of it, and at most 30 steps were made that were not taken back. -/
def Rounds_good : Prop := ∀ (l : List (List UInt8)) (k : Nat) (r : Round), Zz33Octets.fits l = true → roundAt (behind Zz33Octets.start l) k = some r → IsShop r.shop ∧ IsStock r.shop (stockNow r) ∧ r.past.length ≤ 30

/-- What look answers in any life: the stock, whether the shop is open, whether all is well (just if the stocker can still see to it that nobody ever finds an empty shelf), and the hint. -/
def Look_shows : Prop := ∀ (l : List (List UInt8)) (r : List UInt8) (k : Nat) (q : Round), Zz33Octets.fits (l ++ [r]) = true → requestOf (Zz33Octets.octetsOf r) = some (.look k) → roundAt (behind Zz33Octets.start l) k = some q → (Zz33Octets.step (behind Zz33Octets.start l) r).2 = Zz33Octets.bytesOf (0 :: (putNumbers (stockNow q) ++ (putFlag (isOpen q) ++ (putFlag (isWell q) ++ putMaybe putNumbers (hintOf q))))) ∧ (isOpen q = true → (isWell q = true ↔ StaysWell q.shop (stockNow q)) ∧ hintOf q = none) ∧ (isOpen q = false → (isWell q = true ↔ CanKeep q.shop (stockNow q)) ∧ hintOf q = fillingOf q.shop (stockNow q))
-- A request that, in a state, lays no other round in a seat, takes no step back there, and puts nothing on there but what the hint is (whatever is refused does none of it).

def Follows (k : Nat) (w : Zz33Octets.St) (r : List UInt8) : Prop := ∀ x : Request, requestOf (Zz33Octets.octetsOf r) = some x → (∀ t : List Nat, x = .round k t → (Zz33Octets.step w r).2 ≠ [0]) ∧ (x = .undo k → (Zz33Octets.step w r).2 ≠ [0, 1]) ∧ ∀ (f : Stock) (q : Round), x = .fill k f → (Zz33Octets.step w r).2 = [0] → roundAt w k = some q → hintOf q = some f

def FollowsAll (k : Nat) : Zz33Octets.St → List (List UInt8) → Prop
  | _, [] => True
  | w, r :: l => Follows k w r ∧ FollowsAll k (Zz33Octets.step w r).1 l

/-- If all is well in a round, and from then on the hint is put on at each visit, no taking is ever answered by error 13 in any life: nobody finds an empty shelf there, whatever customers take, and whatever else is requested in between, as long as no other round is laid in its seat, and nothing is taken back there. -/
def Hints_keep : Prop := ∀ (a b : List (List UInt8)) (k : Nat) (q : Round), Zz33Octets.fits (a ++ b) = true → roundAt (behind Zz33Octets.start a) k = some q → isWell q = true → FollowsAll k (behind Zz33Octets.start a) b → ∀ (c d : List (List UInt8)) (r : List UInt8) (t : Stock), b = c ++ r :: d → requestOf (Zz33Octets.octetsOf r) = some (.sell k t) → (Zz33Octets.step (behind Zz33Octets.start (a ++ c)) r).2 ≠ [1, 13]

/-- A request of round that is answered by 0 lays a round of the shop of its own text, with full shelves, in its seat. -/
def Round_lays : Prop := ∀ (l : List (List UInt8)) (r : List UInt8) (k : Nat) (t : List Nat), requestOf (Zz33Octets.octetsOf r) = some (.round k t) → (Zz33Octets.step (behind Zz33Octets.start l) r).2 = [0] → ∃ p : Shop, shopFor t = .ok p ∧ roundAt (behind Zz33Octets.start (l ++ [r])) k = some (newRound p)

/-- undo, directly behind a fill or a sell that was answered by 0, answers 1 and restores the round as it was. -/
def Undo_back : Prop := ∀ (w : Zz33Octets.St) (r u : List UInt8) (k : Nat) (f : Stock) (q : Round), (requestOf (Zz33Octets.octetsOf r) = some (.fill k f) ∨ requestOf (Zz33Octets.octetsOf r) = some (.sell k f)) → (Zz33Octets.step w r).2 = [0] → roundAt w k = some q → requestOf (Zz33Octets.octetsOf u) = some (.undo k) → (Zz33Octets.step (Zz33Octets.step w r).1 u).2 = [0, 1] ∧ roundAt (Zz33Octets.step (Zz33Octets.step w r).1 u).1 k = some q

/-- An answer begins with 0, or with 1 and the number of an error from 1 to 13; then nothing is changed. -/
def Refused_keeps : Prop := ∀ (s : Zz33Octets.St) (r : List UInt8), (∃ l : List UInt8, (Zz33Octets.step s r).2 = 0 :: l) ∨ ((∃ (n : UInt8) (l : List UInt8), (Zz33Octets.step s r).2 = 1 :: n :: l ∧ 1 ≤ n ∧ n ≤ 13) ∧ (Zz33Octets.step s r).1 = s)

/-- In any life no answer has more than 1,000 octets. -/
def Answers_fit : Prop := ∀ (l : List (List UInt8)) (r : List UInt8), (Zz33Octets.step (behind Zz33Octets.start l) r).2.length ≤ 1000

/-- The calls 1 to 8 and 13 change nothing. -/
def Calls_keep : Prop := ∀ (s : Zz33Octets.St) (n : UInt8) (r : List UInt8), (n ≤ 8 ∨ 13 ≤ n) → (Zz33Octets.step s (n :: r)).1 = s

/-- A request that names a seat leaves all other seats as they are. -/
def Seats_apart : Prop := ∀ (s : Zz33Octets.St) (n i : UInt8) (r : List UInt8) (j : Nat), j ≠ i.toNat → 9 ≤ n → roundAt (Zz33Octets.step s (n :: i :: r)).1 j = roundAt s j

/-- What the calls 1 to 9 answer hangs on the request alone. -/
def Calls_alone : Prop := ∀ (s z : Zz33Octets.St) (n : UInt8) (r : List UInt8), n ≤ 9 → (Zz33Octets.step s (n :: r)).2 = (Zz33Octets.step z (n :: r)).2

/-- A request of round that is right is answered by 0, and lays its round: a seat below 8, a text of a shop. -/
def Round_answers : Prop := ∀ (w : Zz33Octets.St) (r : List UInt8) (k : Nat) (t : List Nat) (p : Shop), w.rounds.length = 8 → requestOf (Zz33Octets.octetsOf r) = some (.round k t) → k < 8 → shopFor t = .ok p → (Zz33Octets.step w r).2 = [0] ∧ roundAt (Zz33Octets.step w r).1 k = some ⟨p, (roomsOf p, false), []⟩

/-- What is put on: a filling, at a visit, while fewer than 30 steps were made that were not taken back, and nothing else; it is answered by 0, the items are there, and the shop is open. -/
def Fill_answers : Prop := ∀ (l : List (List UInt8)) (r : List UInt8) (k : Nat) (f : Stock) (q : Round), requestOf (Zz33Octets.octetsOf r) = some (.fill k f) → roundAt (behind Zz33Octets.start l) k = some q → ((Zz33Octets.step (behind Zz33Octets.start l) r).2 = [0] ↔ q.now.2 = false ∧ IsFilling q.shop q.now.1 f ∧ q.past.length < 30) ∧ ((Zz33Octets.step (behind Zz33Octets.start l) r).2 = [0] → roundAt (Zz33Octets.step (behind Zz33Octets.start l) r).1 k = some ⟨q.shop, (plus q.now.1 f, true), q.now :: q.past⟩)

/-- What is taken: a taking, while the shop is open, all of which is there, while fewer than 30 steps were made that were not taken back, and nothing else; it is answered by 0, what is left is there, and a visit follows. A taking, while the shop is open, of which not all is there is answered by error 13. -/
def Sell_answers : Prop := ∀ (l : List (List UInt8)) (r : List UInt8) (k : Nat) (f : Stock) (q : Round), requestOf (Zz33Octets.octetsOf r) = some (.sell k f) → roundAt (behind Zz33Octets.start l) k = some q → ((Zz33Octets.step (behind Zz33Octets.start l) r).2 = [0] ↔ q.now.2 = true ∧ IsTaking q.shop f ∧ Below f q.now.1 ∧ q.past.length < 30) ∧ ((Zz33Octets.step (behind Zz33Octets.start l) r).2 = [0] → roundAt (Zz33Octets.step (behind Zz33Octets.start l) r).1 k = some ⟨q.shop, (minus q.now.1 f, false), q.now :: q.past⟩) ∧ (q.now.2 = true → IsTaking q.shop f → ¬ Below f q.now.1 → (Zz33Octets.step (behind Zz33Octets.start l) r).2 = [1, 13])
-- The octets of requests: the number of the call, and what stands behind it.

def callOf : Request → Nat
  | .format _ => 1
  | .safe _ _ => 2
  | .filling _ _ => 3
  | .doom _ _ => 4
  | .attack _ _ => 5
  | .least _ => 6
  | .fewest _ => 7
  | .parting _ _ => 8
  | .round _ _ => 9
  | .fill _ _ => 10
  | .sell _ _ => 11
  | .undo _ => 12
  | .look _ => 13

def bodyOf : Request → Octets
  | .format t => putText t
  | .safe t s => putText t ++ putNumbers s
  | .filling t s => putText t ++ putNumbers s
  | .doom t s => putText t ++ putNumbers s
  | .attack t s => putText t ++ putNumbers s
  | .least t => putText t
  | .fewest t => putText t
  | .parting t u => putText t ++ putText u
  | .round k t => putU8 k ++ putText t
  | .fill k f => putU8 k ++ putNumbers f
  | .sell k f => putU8 k ++ putNumbers f
  | .undo k => putU8 k
  | .look k => putU8 k

def IsText (t : List Nat) : Prop := t.length < 65536 ∧ ∀ c, c ∈ t → c < 256

def AreNumbers (l : List Nat) : Prop := l.length < 256 ∧ ∀ c, c ∈ l → c < 256

def IsRequest : Request → Prop
  | .format t => IsText t
  | .safe t s => IsText t ∧ AreNumbers s
  | .filling t s => IsText t ∧ AreNumbers s
  | .doom t s => IsText t ∧ AreNumbers s
  | .attack t s => IsText t ∧ AreNumbers s
  | .least t => IsText t
  | .fewest t => IsText t
  | .parting t u => IsText t ∧ IsText u
  | .round k t => k < 256 ∧ IsText t
  | .fill k f => k < 256 ∧ AreNumbers f
  | .sell k f => k < 256 ∧ AreNumbers f
  | .undo k => k < 256
  | .look k => k < 256

/-- The octets of a request are read as it, and nothing else is read as it. -/
def Requests_exact : Prop := ∀ (r : List UInt8) (x : Request), requestOf (Zz33Octets.octetsOf r) = some x ↔ IsRequest x ∧ Zz33Octets.octetsOf r = callOf x :: bodyOf x

/-- The canonical text of a shop is read as it; whatever is read is a shop, of a text of at most 200 octets; a text that is not read is answered by error 2, if it has more, otherwise by error 3 and the number of a line. -/
def Texts_read : Prop := (∀ p : Shop, IsShop p → shopFor ((shopUnits p).map fun c => c.toNat) = .ok p) ∧ (∀ (t : List Nat) (p : Shop), shopFor t = .ok p → IsShop p ∧ t.length ≤ 200) ∧ ∀ t : List Nat, (∃ p : Shop, shopFor t = .ok p) ∨ (200 < t.length ∧ shopFor t = .bad [2]) ∨ ∃ n : Nat, shopFor t = .bad (3 :: putU16 n)

/-- format answers the canonical text: its lines, with a newline between two; the words of a line, with one space between two. -/
def Format_shows : Prop := ∀ (t : List Nat) (p : Shop), shopFor t = .ok p → Says (.format t) (putText ((shopUnits p).map fun c => c.toNat))

/-- A stock that is none of the shop is answered by error 4 in the calls 2 to 5. -/
def Stocks_refused : Prop := ∀ (w : Zz33Octets.St) (r : List UInt8) (t : List Nat) (s : Stock) (p : Shop) (x : Request), shopFor t = .ok p → ¬ IsStock p s → (x = .safe t s ∨ x = .filling t s ∨ x = .doom t s ∨ x = .attack t s) → requestOf (Zz33Octets.octetsOf r) = some x → (Zz33Octets.step w r).2 = [1, 4]

/-- At the beginning all seats are empty. -/
def Start_empty : Prop := ∀ k : Nat, roundAt Zz33Octets.start k = none

/-- A seat that is above 7, or has no round, is answered by error 7 in the calls 9 to 13. -/
def Seats_refused : Prop := ∀ (w : Zz33Octets.St) (r : List UInt8) (k : Nat) (x : Request), requestOf (Zz33Octets.octetsOf r) = some x → (∃ t, x = .round k t) ∧ 8 ≤ k ∨ roundAt w k = none ∧ ((∃ f, x = .fill k f ∨ x = .sell k f) ∨ x = .undo k ∨ x = .look k) → (Zz33Octets.step w r).2 = [1, 7]

/-- Each request does and answers what its call does; octets that are no request are answered by error 1; what is refused changes nothing. -/
def Step_exact : Prop := ∀ (w : Zz33Octets.St) (r : List UInt8), (requestOf (Zz33Octets.octetsOf r) = none → Zz33Octets.step w r = (w, [1, 1])) ∧ ∀ x : Request, requestOf (Zz33Octets.octetsOf r) = some x → (∀ e, callOn w x = .bad e → Zz33Octets.step w r = (w, Zz33Octets.bytesOf (1 :: e))) ∧ ∀ z, callOn w x = .ok z → Zz33Octets.step w r = (z.1, Zz33Octets.bytesOf (0 :: z.2))

/-- Octets that are no request are answered by error 1. -/
def Malformed_refused : Prop := ∀ (w : Zz33Octets.St) (r : List UInt8), requestOf (Zz33Octets.octetsOf r) = none → (Zz33Octets.step w r).2 = [1, 1]
-- A call for which a text must be that of a shop: of two texts the first one goes first, of a round its seat.

def Needs (x : Request) (t : List Nat) : Prop := x = .format t ∨ (∃ s, x = .safe t s) ∨ (∃ s, x = .filling t s) ∨ (∃ s, x = .doom t s) ∨ (∃ s, x = .attack t s) ∨ x = .least t ∨ x = .fewest t ∨ (∃ u, x = .parting t u) ∨ (∃ (u : List Nat) (p : Shop), shopFor u = .ok p ∧ x = .parting u t) ∨ ∃ k, k < 8 ∧ x = .round k t

/-- A text that is not read is answered by its error, in each call that needs it. -/
def Texts_refused : Prop := ∀ (w : Zz33Octets.St) (r : List UInt8) (x : Request) (t : List Nat) (o : Octets), requestOf (Zz33Octets.octetsOf r) = some x → Needs x t → shopFor t = .bad o → (Zz33Octets.step w r).2 = Zz33Octets.bytesOf (1 :: o)

/-- parting of shops with other shelves is error 6. -/
def Shelves_refused : Prop := ∀ (w : Zz33Octets.St) (r : List UInt8) (t u : List Nat) (p q : Shop), requestOf (Zz33Octets.octetsOf r) = some (.parting t u) → shopFor t = .ok p → shopFor u = .ok q → p.shelves ≠ q.shelves → (Zz33Octets.step w r).2 = [1, 6]
-- The order of lists of numbers: the first difference decides.

def Ahead : List Nat → List Nat → Prop
  | x :: a, y :: b => x < y ∨ x = y ∧ Ahead a b
  | _, _ => False

/-- filling: the first filling of as few items as possible behind which all is well. -/
def Filling_told : Prop := ∀ (t : List Nat) (s : Stock) (p : Shop), shopFor t = .ok p → IsStock p s → (Says (.filling t s) [0] ∧ ¬ CanKeep p s) ∨ ∃ f : Stock, Says (.filling t s) (1 :: putNumbers f) ∧ IsFilling p s f ∧ StaysWell p (plus s f) ∧ ∀ g : Stock, IsFilling p s g → StaysWell p (plus s g) → totalOf f ≤ totalOf g ∧ (totalOf g = totalOf f → g = f ∨ Ahead f g)

/-- attack: the first taking that is not there; if all are there, the first one by which it is forced soonest. -/
def Attack_told : Prop := ∀ (t : List Nat) (s : Stock) (p : Shop), shopFor t = .ok p → IsStock p s → (Says (.attack t s) [0] ∧ StaysWell p s) ∨ ∃ g : Stock, Says (.attack t s) (1 :: putNumbers g) ∧ ¬ StaysWell p s ∧ IsTaking p g ∧ ((isBelow g s = false ∧ ∀ r : Stock, IsTaking p r → isBelow r s = false → r = g ∨ Ahead g r) ∨ (∀ r : Stock, IsTaking p r → isBelow r s = true) ∧ ∃ n : Nat, CanForce p n (minus s g) ∧ ∀ (r : Stock) (m : Nat), IsTaking p r → CanForce p m (minus s r) → n ≤ m ∧ (m = n → r = g ∨ Ahead g r))

/-- least: just the least stocks that can be kept, in order, each once. -/
def Least_told : Prop := ∀ (t : List Nat) (p : Shop), shopFor t = .ok p → ∃ l : List Stock, Says (.least t) (putList16 putNumbers l) ∧ l.Pairwise Ahead ∧ (∀ s : Stock, s ∈ l ↔ IsStock p s ∧ CanKeep p s ∧ ∀ u : Stock, IsStock p u → CanKeep p u → Below u s → u = s) ∧ ∀ s : Stock, IsStock p s → (CanKeep p s ↔ ∃ u : Stock, u ∈ l ∧ Below u s)

/-- parting, of two shops with the same shelves: nothing if the same stocks can be kept in both; otherwise the first stock that can in just one of them. -/
def Parting_told : Prop := ∀ (t u : List Nat) (p q : Shop), shopFor t = .ok p → shopFor u = .ok q → p.shelves = q.shelves → (Says (.parting t u) [0] ∧ ∀ s : Stock, IsStock p s → (CanKeep p s ↔ CanKeep q s)) ∨ ∃ s : Stock, Says (.parting t u) (1 :: putNumbers s) ∧ IsStock p s ∧ ¬ (CanKeep p s ↔ CanKeep q s) ∧ ∀ v : Stock, IsStock p v → ¬ (CanKeep p v ↔ CanKeep q v) → v = s ∨ Ahead s v

/-- What is not put on, in this order: no such items 5, the shop is open 8, no filling 9, 30 steps 10. -/
def Fill_refused : Prop := ∀ (l : List (List UInt8)) (r : List UInt8) (k : Nat) (f : Stock) (q : Round), requestOf (Zz33Octets.octetsOf r) = some (.fill k f) → roundAt (behind Zz33Octets.start l) k = some q → (¬ Below f (q.shop.shelves.map fun _ => 9) → (Zz33Octets.step (behind Zz33Octets.start l) r).2 = [1, 5]) ∧ (Below f (q.shop.shelves.map fun _ => 9) → (q.now.2 = true → (Zz33Octets.step (behind Zz33Octets.start l) r).2 = [1, 8]) ∧ (q.now.2 = false → (¬ IsFilling q.shop q.now.1 f → (Zz33Octets.step (behind Zz33Octets.start l) r).2 = [1, 9]) ∧ (IsFilling q.shop q.now.1 f → 30 ≤ q.past.length → (Zz33Octets.step (behind Zz33Octets.start l) r).2 = [1, 10])))

/-- What is not taken, in this order: no such items 5, the shop is not open 11, no taking 12, not all of it is there 13. (Behind 30 steps no shop is open.) -/
def Sell_refused : Prop := ∀ (l : List (List UInt8)) (r : List UInt8) (k : Nat) (f : Stock) (q : Round), requestOf (Zz33Octets.octetsOf r) = some (.sell k f) → roundAt (behind Zz33Octets.start l) k = some q → (¬ Below f (q.shop.shelves.map fun _ => 9) → (Zz33Octets.step (behind Zz33Octets.start l) r).2 = [1, 5]) ∧ (Below f (q.shop.shelves.map fun _ => 9) → (q.now.2 = false → (Zz33Octets.step (behind Zz33Octets.start l) r).2 = [1, 11]) ∧ (q.now.2 = true → (¬ IsTaking q.shop f → (Zz33Octets.step (behind Zz33Octets.start l) r).2 = [1, 12]) ∧ (IsTaking q.shop f → ¬ Below f q.now.1 → (Zz33Octets.step (behind Zz33Octets.start l) r).2 = [1, 13])))

/-- undo: 0 without a step, and nothing is changed; otherwise 1, and the round is as before its last step. -/
def Undo_answers : Prop := ∀ (l : List (List UInt8)) (r : List UInt8) (k : Nat) (q : Round), requestOf (Zz33Octets.octetsOf r) = some (.undo k) → roundAt (behind Zz33Octets.start l) k = some q → (q.past = [] → (Zz33Octets.step (behind Zz33Octets.start l) r).2 = [0, 0] ∧ roundAt (Zz33Octets.step (behind Zz33Octets.start l) r).1 k = some q) ∧ ∀ (m : Moment) (t : List Moment), q.past = m :: t → (Zz33Octets.step (behind Zz33Octets.start l) r).2 = [0, 1] ∧ roundAt (Zz33Octets.step (behind Zz33Octets.start l) r).1 k = some ⟨q.shop, m, t⟩

/-- look: the stock, whether the shop is open, whether all is well, and at a visit what filling answers for this shop and stock. -/
def Look_told : Prop := ∀ (l : List (List UInt8)) (r : List UInt8) (k : Nat) (q : Round), requestOf (Zz33Octets.octetsOf r) = some (.look k) → roundAt (behind Zz33Octets.start l) k = some q → ∃ (b : Bool) (h : Octets), (Zz33Octets.step (behind Zz33Octets.start l) r).2 = Zz33Octets.bytesOf (0 :: (putNumbers q.now.1 ++ (putFlag q.now.2 ++ (putFlag b ++ h)))) ∧ (q.now.2 = true → (b = true ↔ StaysWell q.shop q.now.1) ∧ h = [0]) ∧ (q.now.2 = false → (b = true ↔ CanKeep q.shop q.now.1) ∧ h = putMaybe putNumbers (fillingOf q.shop q.now.1) ∧ ∀ t : List Nat, shopFor t = .ok q.shop → Says (.filling t q.now.1) h)

/-- Seats stay eight, in any life. -/
def Seats_stay : Prop := ∀ l : List (List UInt8), (behind Zz33Octets.start l).rounds.length = 8

/-- All stocks, all fillings, and all that customers can take are looked at. -/
def moves_exact : Prop := ∀ p : Shop, (∀ s : Stock, s ∈ stocksOf p ↔ IsStock p s) ∧ (∀ (s f : Stock), IsStock p s → (f ∈ fillings p s ↔ IsFilling p s f)) ∧ ∀ t : Stock, t ∈ takings p ↔ IsTaking p t

/-- A stock is told to be safe exactly if it can be kept so that nobody ever finds an empty shelf, whatever customers take; otherwise they can find one, whatever the stocker does. -/
def safe_exact : Prop := ∀ (p : Shop) (s : Stock), IsStock p s → (isSafe p s = true ↔ CanKeep p s) ∧ (isSafe p s = false ↔ ∃ n : Nat, CanForce p n s)

/-- The least number of visits within which they can. -/
def doom_exact : Prop := ∀ (p : Shop) (s : Stock), IsStock p s → (doomOf p s = none ↔ CanKeep p s) ∧ ∀ n : Nat, doomOf p s = some n → CanForce p n s ∧ ∀ m : Nat, CanForce p m s → n ≤ m

/-- If a stock is told to be safe, then any stock that it is below. -/
def more_told : Prop := ∀ (p : Shop) (s t : Stock), IsStock p s → IsStock p t → Below s t → isSafe p s = true → isSafe p t = true

/-- The main law: requests are read as they are written, and nothing else is; canonical texts are read as themselves; what is not read is answered by its error; what is asked of a shop is answered as it is, against all customers and all plans, ties by the order of lists; in any life the hints keep every round that is well (as long as no other round is laid in its seat, and nothing is taken back there); rounds that are right are laid; just the fillings are put on and just the takings taken (up to 30 steps that were not taken back), all else is answered by its error; look tells how all stands, and undo takes back; each seat for itself; and what is refused, and the calls that only tell, change nothing; and all further laws but one of the notions alone hold. -/
def MainLaw : Prop := Requests_exact ∧ Step_exact ∧ Malformed_refused ∧ Texts_read ∧ Texts_refused ∧ Start_empty ∧ Format_shows ∧ Safe_shows ∧ Doom_shows ∧ Filling_told ∧ Attack_told ∧ Least_told ∧ Fewest_shows ∧ Parting_told ∧ Shelves_refused ∧ Stocks_refused ∧ Hints_keep ∧ Round_answers ∧ Fill_answers ∧ Fill_refused ∧ Sell_answers ∧ Sell_refused ∧ Undo_answers ∧ Undo_back ∧ Look_shows ∧ Look_told ∧ Seats_refused ∧ Seats_stay ∧ Seats_apart ∧ Refused_keeps ∧ Calls_keep ∧ Filling_shows ∧ Attack_shows ∧ Least_shows ∧ Parting_shows ∧ Rounds_good ∧ Round_lays ∧ Answers_fit ∧ Calls_alone ∧ filling_exact ∧ attack_exact ∧ least_exact ∧ fewest_exact ∧ parting_exact ∧ round_exact ∧ moves_exact ∧ safe_exact ∧ doom_exact ∧ more_told ∧ lines_read ∧ words_read ∧ faults_exact ∧ digits_read ∧ shops_read

end

end FsLaw
set_option Elab.async false
namespace RsP
open Rs FsLaw

/-! ### lists of numbers -/
theorem below_nil : Below [] [] := ⟨rfl, fun _ => Nat.le_refl _⟩
theorem below_cons {x y : Nat} {a b : List Nat} : Below (x :: a) (y :: b) ↔ x ≤ y ∧ Below a b := by
  constructor
  · rintro ⟨hl, h⟩
    refine ⟨by simpa using h 0, by simpa using hl, fun i => by simpa using h (i + 1)⟩
  · rintro ⟨hx, hl, h⟩
    refine ⟨by simp [hl], fun i => ?_⟩
    cases i with
    | zero => simpa using hx
    | succ i => simpa using h i
theorem not_below_nil_cons {y : Nat} {b : List Nat} : ¬ Below [] (y :: b) := by
  rintro ⟨hl, _⟩; simp at hl
theorem not_below_cons_nil {y : Nat} {b : List Nat} : ¬ Below (y :: b) [] := by
  rintro ⟨hl, _⟩; simp at hl
theorem isBelow_iff : ∀ {a b : List Nat}, isBelow a b = true ↔ Below a b
  | [], [] => by simp [isBelow, below_nil]
  | [], y :: b => by simp [isBelow, not_below_nil_cons]
  | x :: a, [] => by simp [isBelow, not_below_cons_nil]
  | x :: a, y :: b => by simp [isBelow, below_cons, isBelow_iff (a := a) (b := b)]
theorem isBelow_false {a b : List Nat} : isBelow a b = false ↔ ¬ Below a b := by
  rw [← isBelow_iff]; simp
theorem below_refl (a : List Nat) : Below a a := ⟨rfl, fun _ => Nat.le_refl _⟩
theorem below_trans {a b c : List Nat} (h : Below a b) (k : Below b c) : Below a c :=
  ⟨h.1.trans k.1, fun i => Nat.le_trans (h.2 i) (k.2 i)⟩
theorem below_antisymm : ∀ {a b : List Nat}, Below a b → Below b a → a = b
  | [], [], _, _ => rfl
  | [], _ :: _, h, _ => absurd h not_below_nil_cons
  | _ :: _, [], h, _ => absurd h not_below_cons_nil
  | x :: a, y :: b, h, k => by
    rw [below_cons] at h k
    rw [below_antisymm h.2 k.2, Nat.le_antisymm h.1 k.1]
theorem mem_vectors : ∀ {c v : List Nat}, v ∈ vectors c ↔ Below v c
  | [], v => by
    cases v with
    | nil => simp [vectors, below_nil]
    | cons x v => simp [vectors, not_below_cons_nil]
  | c :: l, v => by
    cases v with
    | nil => simp [vectors, not_below_nil_cons]
    | cons x v =>
      simp only [vectors, List.mem_flatMap, List.mem_range, List.mem_map, below_cons]
      constructor
      · rintro ⟨y, hy, w, hw, e⟩
        cases e
        exact ⟨by omega, mem_vectors.1 hw⟩
      · rintro ⟨hx, hv⟩
        exact ⟨x, by omega, v, mem_vectors.2 hv, rfl⟩

/-- the order -/
theorem ahead_cons {x y : Nat} {a b : List Nat} : Ahead (x :: a) (y :: b) ↔ x < y ∨ x = y ∧ Ahead a b := Iff.rfl
theorem ahead_irrefl : ∀ {a : List Nat}, ¬ Ahead a a
  | [] => fun h => h
  | x :: a => by
    rw [ahead_cons]
    rintro (h | ⟨_, h⟩)
    · omega
    · exact ahead_irrefl h
theorem vectors_sorted : ∀ (c : List Nat), (vectors c).Pairwise Ahead
  | [] => by simp [vectors]
  | c :: l => by
    unfold vectors
    rw [List.pairwise_flatMap]
    refine ⟨fun x _ => ?_, ?_⟩
    · rw [List.pairwise_map]
      exact (vectors_sorted l).imp fun h => Or.inr ⟨rfl, h⟩
    · refine List.pairwise_lt_range.imp fun {x y} h u hu v hv => ?_
      rw [List.mem_map] at hu hv
      obtain ⟨u, _, rfl⟩ := hu
      obtain ⟨v, _, rfl⟩ := hv
      exact Or.inl h
theorem length_vectors : ∀ (c : List Nat) (n : Nat), (∀ x, x ∈ c → x ≤ n) → (vectors c).length ≤ (n + 1) ^ c.length
  | [], n, _ => by simp [vectors]
  | c :: l, n, h => by
    have e : (vectors (c :: l)).length = (c + 1) * (vectors l).length := by
      show ((List.range (c + 1)).flatMap fun x => (vectors l).map fun v => x :: v).length = _
      rw [List.length_flatMap]
      simp only [List.length_map, List.map_const', List.length_range]
      generalize (vectors l).length = q
      have : ∀ n : Nat, (List.replicate n q).sum = n * q := by
        intro n
        induction n with
        | zero => simp
        | succ n ih => rw [List.replicate_succ, List.sum_cons, ih, Nat.succ_mul, Nat.add_comm]
      exact this _
    rw [e, List.length_cons, Nat.pow_succ]
    have ih := length_vectors l n fun x hx => h x (List.mem_cons_of_mem _ hx)
    have h0 := h c List.mem_cons_self
    rw [Nat.mul_comm]
    exact Nat.mul_le_mul ih (by omega)

theorem plus_length : ∀ {a b : List Nat}, a.length = b.length → (plus a b).length = a.length
  | [], [], _ => rfl
  | x :: a, y :: b, h => by simp [plus, plus_length (by simpa using h : a.length = b.length)]
theorem minus_length : ∀ {a b : List Nat}, a.length = b.length → (minus a b).length = a.length
  | [], [], _ => rfl
  | x :: a, y :: b, h => by simp [minus, minus_length (by simpa using h : a.length = b.length)]
theorem minus_below : ∀ {a b : List Nat}, a.length = b.length → Below (minus a b) a
  | [], [], _ => below_nil
  | x :: a, y :: b, h => by
    simp only [minus, below_cons]
    exact ⟨by omega, minus_below (by simpa using h)⟩
/-- what there is room for -/
theorem room_iff : ∀ {r s f : List Nat}, Below s r → (Below f (minus r s) ↔ f.length = s.length ∧ Below (plus s f) r)
  | [], [], f, _ => by
    cases f with
    | nil => simp [minus, plus, below_nil]
    | cons x f => simp [minus, not_below_cons_nil]
  | [], _ :: _, f, h => absurd h not_below_cons_nil
  | _ :: _, [], f, h => absurd h not_below_nil_cons
  | y :: r, x :: s, f, h => by
    rw [below_cons] at h
    cases f with
    | nil => simp [minus, not_below_nil_cons]
    | cons z f =>
      have ih := room_iff (f := f) h.2
      simp only [minus, plus, below_cons, List.length_cons, ih]
      constructor
      · rintro ⟨a, b, c⟩
        exact ⟨by omega, by omega, c⟩
      · rintro ⟨a, b, c⟩
        exact ⟨by omega, by omega, c⟩
theorem const_below : ∀ {α : Type} {l : List α} {n : Nat} {t : List Nat}, Below t (l.map fun _ => n) ↔ t.length = l.length ∧ ∀ x, x ∈ t → x ≤ n
  | _, [], n, [] => by simp [below_nil]
  | _, [], n, x :: t => by simp [not_below_cons_nil]
  | _, _ :: _, n, [] => by simp [not_below_nil_cons]
  | _, a :: l, n, x :: t => by
    simp only [List.map_cons, below_cons, const_below, List.length_cons, List.mem_cons, forall_eq_or_imp]
    constructor
    · rintro ⟨h, k, m⟩
      exact ⟨by omega, h, m⟩
    · rintro ⟨h, k, m⟩
      exact ⟨k, by omega, m⟩
theorem mem_stocks {p : Shop} {s : Stock} : s ∈ stocksOf p ↔ IsStock p s := mem_vectors
theorem mem_fillings {p : Shop} {s f : Stock} (h : IsStock p s) : f ∈ fillings p s ↔ IsFilling p s f := by
  unfold fillings IsFilling
  rw [List.mem_filter, mem_vectors, room_iff h]
  simp [and_assoc]
theorem mem_takings {p : Shop} {t : Stock} : t ∈ takings p ↔ IsTaking p t := by
  unfold takings IsTaking
  rw [List.mem_filter, mem_vectors, const_below]
  simp [and_assoc]
theorem p_moves_exact : moves_exact := fun _ => ⟨fun _ => mem_stocks, fun _ _ h => mem_fillings h, fun _ => mem_takings⟩

theorem rooms_length (p : Shop) : (roomsOf p).length = p.shelves.length := by simp [roomsOf]
theorem stock_length {p : Shop} {s : Stock} (h : IsStock p s) : s.length = p.shelves.length := h.1.trans (rooms_length p)
theorem filled_stock {p : Shop} {s f : Stock} (h : IsFilling p s f) : IsStock p (plus s f) := h.2.1
theorem left_stock {p : Shop} {u t : Stock} (h : IsStock p u) (k : IsTaking p t) : IsStock p (minus u t) :=
  below_trans (minus_below ((stock_length h).trans k.1.symm)) h
theorem taking_zero (p : Shop) : IsTaking p (p.shelves.map fun _ => 0) := by
  refine ⟨by simp, fun x hx => ?_, ?_⟩
  · simp at hx; omega
  · have : ∀ l : List Shelf, totalOf (l.map fun _ => 0) = 0 := by
      intro l
      induction l with
      | nil => rfl
      | cons a l ih => simpa [totalOf] using ih
    rw [this]; omega

/-! ### what is kept -/
theorem staysIn_iff {p : Shop} {l : List Stock} {u : Stock} : staysIn p l u = true ↔ ∀ t, IsTaking p t → isBelow t u = true ∧ minus u t ∈ l := by
  unfold staysIn
  rw [List.all_eq_true]
  simp only [Bool.and_eq_true, List.contains_iff_mem]
  exact ⟨fun h t ht => h t (mem_takings.2 ht), fun h t ht => h t (mem_takings.1 ht)⟩
theorem isGood_iff {p : Shop} {l : List Stock} {s : Stock} (h : IsStock p s) : isGood p l s = true ↔ ∃ f, IsFilling p s f ∧ ∀ t, IsTaking p t → isBelow t (plus s f) = true ∧ minus (plus s f) t ∈ l := by
  unfold isGood
  rw [List.any_eq_true]
  constructor
  · rintro ⟨f, hf, k⟩
    exact ⟨f, (mem_fillings h).1 hf, staysIn_iff.1 k⟩
  · rintro ⟨f, hf, k⟩
    exact ⟨f, (mem_fillings h).2 hf, staysIn_iff.2 k⟩
theorem force_succ {p : Shop} : ∀ {n : Nat} {s : Stock}, CanForce p n s → CanForce p (n + 1) s
  | 0, _, h => absurd h id
  | n + 1, s, h => fun f hf => by
    obtain ⟨t, ht, k⟩ := h f hf
    exact ⟨t, ht, k.imp id force_succ⟩
theorem force_le {p : Shop} {n m : Nat} {s : Stock} (h : CanForce p n s) (k : n ≤ m) : CanForce p m s := by
  induction k with
  | refl => exact h
  | step _ ih => exact force_succ ih
theorem mem_kept {p : Shop} : ∀ {n : Nat} {s : Stock}, s ∈ kept p n ↔ IsStock p s ∧ ¬ CanForce p n s
  | 0, s => by
    show s ∈ stocksOf p ↔ _
    rw [mem_stocks]
    exact ⟨fun h => ⟨h, fun k => k⟩, fun h => h.1⟩
  | n + 1, s => by
    show s ∈ (kept p n).filter (isGood p (kept p n)) ↔ _
    rw [List.mem_filter, mem_kept (n := n)]
    constructor
    · rintro ⟨⟨h, _⟩, g⟩
      refine ⟨h, fun k => ?_⟩
      obtain ⟨f, hf, q⟩ := (isGood_iff h).1 g
      obtain ⟨t, ht, z⟩ := k f hf
      obtain ⟨q1, q2⟩ := q t ht
      rcases z with z | z
      · rw [z] at q1; cases q1
      · exact (mem_kept.1 q2).2 z
    · rintro ⟨h, k⟩
      refine ⟨⟨h, fun z => k (force_succ z)⟩, (isGood_iff h).2 ?_⟩
      apply Classical.byContradiction
      intro no
      refine k fun f hf => ?_
      apply Classical.byContradiction
      intro no2
      refine no ⟨f, hf, fun t ht => ?_⟩
      constructor
      · cases e : isBelow t (plus s f) with
        | true => rfl
        | false => exact absurd ⟨t, ht, Or.inl e⟩ no2
      · exact mem_kept.2 ⟨left_stock (filled_stock hf) ht, fun z => no2 ⟨t, ht, Or.inr z⟩⟩
theorem kept_sub {p : Shop} {n : Nat} {s : Stock} (h : s ∈ kept p n) : IsStock p s := (mem_kept.1 h).1
theorem shrink_fix {p : Shop} {l : List Stock} (h : (shrink p l).length = l.length) : shrink p l = l := by
  unfold shrink at *
  exact List.filter_eq_self.2 fun a ha => by
    have := List.length_filter_eq_length_iff.1 h
    exact this a ha
theorem shrink_lt {p : Shop} {l : List Stock} (h : ¬ (shrink p l).length = l.length) : (shrink p l).length < l.length := by
  have : (shrink p l).length ≤ l.length := List.length_filter_le _ _
  omega
theorem settle_kept {p : Shop} : ∀ (k n : Nat), (kept p n).length ≤ k → ∃ m, settle p k (kept p n) = kept p m ∧ m ≤ n + k ∧ shrink p (kept p m) = kept p m
  | 0, n, h => by
    refine ⟨n, rfl, Nat.le_refl _, ?_⟩
    have : kept p n = [] := List.length_eq_zero_iff.1 (by omega)
    rw [this]; rfl
  | k + 1, n, h => by
    unfold settle
    by_cases c : (shrink p (kept p n)).length = (kept p n).length
    · rw [if_pos c]
      exact ⟨n, rfl, by omega, shrink_fix c⟩
    · rw [if_neg c]
      have lt := shrink_lt c
      obtain ⟨m, e, hm, f⟩ := settle_kept (p := p) k (n + 1) (by show (shrink p (kept p n)).length ≤ k; omega)
      exact ⟨m, e, by omega, f⟩
theorem safe_kept (p : Shop) : ∃ m, safeStocks p = kept p m ∧ m ≤ bound p ∧ shrink p (kept p m) = kept p m := by
  obtain ⟨m, e, hm, f⟩ := settle_kept (p := p) (bound p) 0 (Nat.le_refl _)
  exact ⟨m, e, by omega, f⟩
theorem kept_stay {p : Shop} {m : Nat} (h : shrink p (kept p m) = kept p m) : ∀ k, kept p (m + k) = kept p m
  | 0 => rfl
  | k + 1 => by
    show shrink p (kept p (m + k)) = kept p m
    rw [kept_stay h k, h]
theorem mem_safe {p : Shop} {s : Stock} : s ∈ safeStocks p ↔ IsStock p s ∧ ∀ n, ¬ CanForce p n s := by
  obtain ⟨m, e, _, f⟩ := safe_kept p
  rw [e]
  constructor
  · intro h
    refine ⟨kept_sub h, fun n k => ?_⟩
    have q : s ∈ kept p (m + n) := by rw [kept_stay f]; exact h
    exact (mem_kept.1 q).2 (force_le k (by omega))
  · rintro ⟨h, k⟩
    exact mem_kept.2 ⟨h, k m⟩
theorem safe_good {p : Shop} {s : Stock} (h : s ∈ safeStocks p) : ∃ f, IsFilling p s f ∧ ∀ t, IsTaking p t → isBelow t (plus s f) = true ∧ minus (plus s f) t ∈ safeStocks p := by
  obtain ⟨m, e, _, f⟩ := safe_kept p
  rw [e] at h ⊢
  have q : s ∈ shrink p (kept p m) := by rw [f]; exact h
  exact (isGood_iff (kept_sub h)).1 (List.mem_filter.1 q).2
theorem keep_force {p : Shop} : ∀ (n : Nat) (s : Stock), CanKeep p s → ¬ CanForce p n s
  | 0, _, _ => fun h => h
  | n + 1, s, ⟨plan, k⟩ => fun h => by
    obtain ⟨r, e, hf⟩ := k [] (by simp)
    cases e
    obtain ⟨t, ht, z⟩ := h _ hf
    have one : isBelow t (plus s (plan s)) = true := by
      obtain ⟨r, e, _⟩ := k [t] (by simpa using ht)
      unfold playedOn at e
      by_cases c : isBelow t (plus s (plan s)) = true
      · exact c
      · rw [if_neg c] at e; cases e
    rcases z with z | z
    · rw [z] at one; cases one
    · refine keep_force n _ ⟨plan, fun l hl => ?_⟩ z
      obtain ⟨r, e, hr⟩ := k (t :: l) (by simpa using ⟨ht, hl⟩)
      unfold playedOn at e
      rw [if_pos one] at e
      exact ⟨r, e, hr⟩
theorem keep_stock {p : Shop} {s : Stock} (h : CanKeep p s) : IsStock p s := by
  obtain ⟨plan, k⟩ := h
  obtain ⟨r, e, hf⟩ := k [] (by simp)
  cases e
  have h1 := hf.2.1
  have h2 := hf.1
  have h3 : Below s (plus s (plan s)) := by
    clear h1 hf k
    generalize plan s = f at h2
    induction s generalizing f with
    | nil => cases f with
      | nil => exact below_nil
      | cons _ _ => simp at h2
    | cons x s ih => cases f with
      | nil => simp at h2
      | cons y f =>
        simp only [plus, below_cons]
        exact ⟨by omega, ih f (by simpa using h2)⟩
  exact below_trans h3 h1
theorem keep_iff {p : Shop} {s : Stock} : CanKeep p s ↔ s ∈ safeStocks p := by
  constructor
  · intro h
    exact mem_safe.2 ⟨keep_stock h, fun n => keep_force n s h⟩
  · intro h
    let plan : Stock → Stock := fun s => ((fillings p s).find? fun f => staysIn p (safeStocks p) (plus s f)).getD []
    have good : ∀ s, s ∈ safeStocks p → IsFilling p s (plan s) ∧ staysIn p (safeStocks p) (plus s (plan s)) = true := by
      intro s hs
      obtain ⟨f, hf, k⟩ := safe_good hs
      have st := (mem_safe.1 hs).1
      have some : ∃ g, (fillings p s).find? (fun f => staysIn p (safeStocks p) (plus s f)) = some g := by
        cases e : (fillings p s).find? (fun f => staysIn p (safeStocks p) (plus s f)) with
        | some g => exact ⟨g, rfl⟩
        | none =>
          rw [List.find?_eq_none] at e
          exact absurd (staysIn_iff.2 k) (e f ((mem_fillings st).2 hf))
      obtain ⟨g, e⟩ := some
      have pe : plan s = g := by show ((fillings p s).find? _).getD [] = g; rw [e]; rfl
      rw [pe]
      exact ⟨(mem_fillings st).1 (List.mem_of_find?_eq_some e), by simpa using List.find?_some e⟩
    refine ⟨plan, fun l hl => ?_⟩
    induction l generalizing s with
    | nil => exact ⟨s, rfl, (good s h).1⟩
    | cons t l ih =>
      obtain ⟨a, b⟩ := staysIn_iff.1 (good s h).2 t (hl t List.mem_cons_self)
      unfold playedOn
      rw [if_pos a]
      exact ih b fun x hx => hl x (List.mem_cons_of_mem _ hx)
theorem isSafe_iff {p : Shop} {s : Stock} : isSafe p s = true ↔ CanKeep p s := by
  unfold isSafe
  rw [List.contains_iff_mem, keep_iff]
theorem isSafe_false {p : Shop} {s : Stock} : isSafe p s = false ↔ ¬ CanKeep p s := by
  rw [← isSafe_iff]; simp
theorem not_keep_iff {p : Shop} {s : Stock} (h : IsStock p s) : ¬ CanKeep p s ↔ ∃ n, CanForce p n s := by
  rw [keep_iff, mem_safe]
  constructor
  · intro k
    apply Classical.byContradiction
    intro no
    exact k ⟨h, fun n z => no ⟨n, z⟩⟩
  · rintro ⟨n, z⟩ ⟨_, k⟩
    exact k n z
theorem p_safe_exact : safe_exact := fun _ _ h => ⟨isSafe_iff, isSafe_false.trans (not_keep_iff h)⟩
theorem staysWell_iff {p : Shop} {u : Stock} : staysIn p (safeStocks p) u = true ↔ StaysWell p u := by
  rw [staysIn_iff]
  exact ⟨fun h t ht => ⟨(h t ht).1, keep_iff.2 (h t ht).2⟩, fun h t ht => ⟨(h t ht).1, keep_iff.1 (h t ht).2⟩⟩
theorem doom_none {p : Shop} {s : Stock} (_ : IsStock p s) : doomOf p s = none ↔ CanKeep p s := by
  unfold doomOf
  constructor
  · intro e
    by_cases c : isSafe p s = true
    · exact isSafe_iff.1 c
    · rw [if_neg c, List.find?_eq_none] at e
      obtain ⟨m, em, hm, f⟩ := safe_kept p
      have := e m (by simp; omega)
      refine keep_iff.2 ?_
      rw [em]
      simpa using this
  · intro k
    rw [if_pos (isSafe_iff.2 k)]
theorem doom_some {p : Shop} {s : Stock} {n : Nat} (h : IsStock p s) (e : doomOf p s = some n) : n ≤ bound p ∧ CanForce p n s ∧ ∀ m, CanForce p m s → n ≤ m := by
  unfold doomOf at e
  by_cases c : isSafe p s = true
  · rw [if_pos c] at e; cases e
  · rw [if_neg c, List.find?_range_eq_some] at e
    obtain ⟨a, b, d⟩ := e
    have fr : ∀ m, CanForce p m s ↔ (!(kept p m).contains s) = true := by
      intro m
      rw [Bool.not_eq_true', ← Bool.not_eq_true, List.contains_iff_mem, mem_kept]
      exact ⟨fun z q => q.2 z, fun q => Classical.byContradiction fun z => q ⟨h, z⟩⟩
    refine ⟨by simp at b; omega, (fr n).2 a, fun m hm => ?_⟩
    have := (fr m).1 hm
    apply Classical.byContradiction
    intro lt
    have := d m (by omega)
    simp_all
theorem p_doom_exact : doom_exact := fun _ _ h => ⟨doom_none h, fun _ e => (doom_some h e).2⟩
end RsP
set_option Elab.async false
namespace RsP
open Rs FsLaw

/-! ### more never hurts -/
/-- what lifts t to what s with f is -/
def lift : List Nat → List Nat → List Nat → List Nat
  | x :: t, y :: s, z :: f => (y + z - x) :: lift t s f
  | _, _, _ => []
theorem lift_facts : ∀ {t s f r : List Nat}, Below s t → Below t r → f.length = s.length → Below (plus s f) r →
    (lift t s f).length = t.length ∧ Below (plus t (lift t s f)) r ∧ totalOf (lift t s f) ≤ totalOf f ∧ onesOf (lift t s f) ≤ onesOf f ∧ Below (plus s f) (plus t (lift t s f))
  | [], [], [], r, _, h2, _, h4 => ⟨rfl, h2, Nat.le_refl _, Nat.le_refl _, below_nil⟩
  | [], [], _ :: _, r, _, _, h, _ => by simp at h
  | [], _ :: _, _, r, h, _, _, _ => absurd h not_below_cons_nil
  | _ :: _, [], _, r, h, _, _, _ => absurd h not_below_nil_cons
  | x :: t, y :: s, [], r, _, _, h, _ => by simp at h
  | x :: t, y :: s, z :: f, [], _, h, _, _ => absurd h not_below_cons_nil
  | x :: t, y :: s, z :: f, w :: r, h1, h2, h3, h4 => by
    simp only [plus, below_cons] at h1 h2 h4
    obtain ⟨a, b, c, d, e⟩ := lift_facts (f := f) h1.2 h2.2 (by simpa using h3) h4.2
    simp only [lift, plus, below_cons, List.length_cons, a, true_and]
    refine ⟨⟨by omega, b⟩, ?_, ?_, by omega, e⟩
    · simp only [totalOf, List.foldr_cons] at c ⊢
      omega
    · simp only [onesOf, List.filter_cons] at d ⊢
      by_cases q : 0 < z
      · rw [if_pos (by simpa using q : decide (0 < z) = true)]
        split <;> simp only [List.length_cons] <;> omega
      · have q0 : y + z - x = 0 := by omega
        rw [q0, if_neg (by simp), if_neg (by simpa using q)]
        exact d
theorem minus_mono : ∀ {a b t : List Nat}, Below a b → t.length = a.length → Below (minus a t) (minus b t)
  | [], [], [], _, _ => below_nil
  | [], [], _ :: _, _, h => by simp at h
  | [], _ :: _, _, h, _ => absurd h not_below_nil_cons
  | _ :: _, [], _, h, _ => absurd h not_below_cons_nil
  | x :: a, y :: b, [], _, h => by simp at h
  | x :: a, y :: b, z :: t, h, k => by
    simp only [minus, below_cons] at h ⊢
    exact ⟨by omega, minus_mono h.2 (by simpa using k)⟩
theorem force_mono {p : Shop} : ∀ {n : Nat} {s t : Stock}, IsStock p t → Below s t → CanForce p n t → CanForce p n s
  | 0, _, _, _, _, h => h
  | n + 1, s, t, ht, hb, h => fun f hf => by
    obtain ⟨a, b, c, d, e⟩ := lift_facts hb ht hf.1 hf.2.1
    obtain ⟨k, hk, z⟩ := h (lift t s f) ⟨a, b, Nat.le_trans c hf.2.2.1, Nat.le_trans d hf.2.2.2⟩
    refine ⟨k, hk, ?_⟩
    rcases z with z | z
    · refine Or.inl ?_
      rw [isBelow_false] at z ⊢
      exact fun q => z (below_trans q e)
    · by_cases q : isBelow k (plus s f) = true
      · refine Or.inr (force_mono (left_stock (p := p) b hk) (minus_mono e ?_) z)
        exact (isBelow_iff.1 q).1
      · exact Or.inl (by simpa using q)
theorem keep_mono {p : Shop} {s t : Stock} (ht : IsStock p t) (hb : Below s t) (h : CanKeep p s) : CanKeep p t := by
  rw [keep_iff, mem_safe] at h ⊢
  exact ⟨ht, fun n k => h.2 n (force_mono ht hb k)⟩
theorem p_more_told : more_told := fun _ _ _ _ ht hb h => isSafe_iff.2 (keep_mono ht hb (isSafe_iff.1 h))

/-! ### the first filling -/
theorem findSome_range {β : Type} {f : Nat → Option β} : ∀ {n : Nat} {b : β}, (List.range n).findSome? f = some b → ∃ k, k < n ∧ f k = some b ∧ ∀ j, j < k → f j = none
  | 0, b, h => by simp at h
  | n + 1, b, h => by
    rw [List.range_succ, List.findSome?_append] at h
    cases e : (List.range n).findSome? f with
    | some c =>
      rw [e] at h
      obtain ⟨k, hk, a, d⟩ := findSome_range e
      cases h
      exact ⟨k, by omega, a, d⟩
    | none =>
      rw [e] at h
      rw [List.findSome?_eq_none_iff] at e
      refine ⟨n, by omega, ?_, fun j hj => e j (by simpa using hj)⟩
      simpa using h
theorem find_first {α : Type} {R : α → α → Prop} {q : α → Bool} : ∀ {l : List α} {a : α}, l.Pairwise R → l.find? q = some a → ∀ b, b ∈ l → q b = true → b = a ∨ R a b
  | [], a, _, h => by simp at h
  | x :: l, a, hp, h => fun b hb hq => by
    rw [List.pairwise_cons] at hp
    by_cases c : q x = true
    · rw [List.find?_cons_of_pos c] at h
      cases h
      rcases List.mem_cons.1 hb with rfl | hb
      · exact Or.inl rfl
      · exact Or.inr (hp.1 b hb)
    · rw [List.find?_cons_of_neg c] at h
      rcases List.mem_cons.1 hb with rfl | hb
      · exact absurd hq c
      · exact find_first hp.2 h b hb hq
theorem good_keep {p : Shop} {s f : Stock} (h : IsStock p s) (hf : IsFilling p s f) (w : StaysWell p (plus s f)) : CanKeep p s := by
  apply Classical.byContradiction
  intro no
  obtain ⟨n, z⟩ := (not_keep_iff h).1 no
  cases n with
  | zero => exact z
  | succ n =>
    obtain ⟨t, ht, q⟩ := z f hf
    obtain ⟨a, b⟩ := w t ht
    rcases q with q | q
    · rw [a] at q; cases q
    · exact keep_force n _ b q
theorem fillings_sorted (p : Shop) (s : Stock) : (fillings p s).Pairwise Ahead := (vectors_sorted _).filter _
theorem takings_sorted (p : Shop) : (takings p).Pairwise Ahead := (vectors_sorted _).filter _
theorem stocks_sorted (p : Shop) : (stocksOf p).Pairwise Ahead := vectors_sorted _
theorem kept_sorted (p : Shop) : ∀ n, (kept p n).Pairwise Ahead
  | 0 => stocks_sorted p
  | n + 1 => (kept_sorted p n).filter _
theorem safe_sorted (p : Shop) : (safeStocks p).Pairwise Ahead := by
  obtain ⟨m, e, _⟩ := safe_kept p
  rw [e]
  exact kept_sorted p m
theorem filling_none {p : Shop} {s : Stock} (h : IsStock p s) : fillingOf p s = none ↔ ¬ CanKeep p s := by
  unfold fillingOf
  constructor
  · intro e k
    rw [List.findSome?_eq_none_iff] at e
    obtain ⟨f, hf, w⟩ := safe_good (keep_iff.1 k)
    have := e (totalOf f) (by simp; have := hf.2.2.1; omega)
    rw [List.find?_eq_none] at this
    have := this f ((mem_fillings h).2 hf)
    rw [staysIn_iff.2 w] at this
    simp at this
  · intro k
    rw [List.findSome?_eq_none_iff]
    intro x _
    rw [List.find?_eq_none]
    intro f hf q
    simp only [Bool.and_eq_true] at q
    exact k (good_keep h ((mem_fillings h).1 hf) (staysWell_iff.1 q.2))
theorem filling_some {p : Shop} {s f : Stock} (h : IsStock p s) (e : fillingOf p s = some f) : IsFilling p s f ∧ StaysWell p (plus s f) ∧ ∀ g, IsFilling p s g → StaysWell p (plus s g) → totalOf f ≤ totalOf g ∧ (totalOf g = totalOf f → g = f ∨ Ahead f g) := by
  unfold fillingOf at e
  obtain ⟨k, hk, a, b⟩ := findSome_range e
  have q := List.find?_some a
  have m := List.mem_of_find?_eq_some a
  simp only [Bool.and_eq_true, beq_iff_eq] at q
  refine ⟨(mem_fillings h).1 m, staysWell_iff.1 q.2, fun g hg wg => ⟨?_, fun eq => ?_⟩⟩
  · apply Classical.byContradiction
    intro lt
    have := b (totalOf g) (by omega)
    rw [List.find?_eq_none] at this
    have := this g ((mem_fillings h).2 hg)
    rw [staysWell_iff.2 wg] at this
    simp at this
  · refine find_first (fillings_sorted p s) a g ((mem_fillings h).2 hg) ?_
    rw [staysWell_iff.2 wg, eq, q.1]
    simp
theorem p_filling_exact : filling_exact := fun _ _ h => ⟨filling_none h, fun _ e => ⟨(filling_some h e).1, (filling_some h e).2.1, fun g a b => ((filling_some h e).2.2 g a b).1⟩⟩

/-! ### attacks -/
theorem sooner_fold {g : Stock → Option Nat} : ∀ (T : List Stock) (acc : Option (Nat × Stock)), T.Pairwise Ahead → (∀ e, acc = some e → ∀ t, t ∈ T → Ahead e.2 t) →
    ((T.map fun t => (g t).map fun n => (n, t)).foldl sooner acc = none → acc = none ∧ ∀ t, t ∈ T → g t = none) ∧
    ∀ e, (T.map fun t => (g t).map fun n => (n, t)).foldl sooner acc = some e → (acc = some e ∨ (e.2 ∈ T ∧ g e.2 = some e.1)) ∧ (∀ a, acc = some a → e.1 ≤ a.1 ∧ (a.1 = e.1 → a = e ∨ Ahead e.2 a.2)) ∧ ∀ t, t ∈ T → ∀ n, g t = some n → e.1 ≤ n ∧ (n = e.1 → t = e.2 ∨ Ahead e.2 t)
  | [], acc, _, _ => by
    refine ⟨fun h => ⟨h, by simp⟩, fun e h => ⟨Or.inl h, fun a ha => ?_, by simp⟩⟩
    have h' : acc = some e := h
    rw [h'] at ha
    cases ha
    exact ⟨Nat.le_refl _, fun _ => Or.inl rfl⟩
  | t :: T, acc, hp, ha => by
    rw [List.pairwise_cons] at hp
    simp only [List.map_cons, List.foldl_cons]
    have tr : ∀ (a b c : Stock), Ahead a b → Ahead b c → Ahead a c := by
      intro a
      induction a with
      | nil => intro b c h; exact absurd h id
      | cons x a ih =>
        intro b c h k
        cases b with
        | nil => exact absurd h id
        | cons y b => cases c with
          | nil => exact absurd k id
          | cons z c =>
            rw [ahead_cons] at h k ⊢
            rcases h with h | ⟨h, h'⟩ <;> rcases k with k | ⟨k, k'⟩
            · exact Or.inl (by omega)
            · exact Or.inl (by omega)
            · exact Or.inl (by omega)
            · exact Or.inr ⟨by omega, ih b c h' k'⟩
    cases gt : g t with
    | none =>
      have e1 : sooner acc (Option.map (fun n => (n, t)) none) = acc := by cases acc <;> rfl
      rw [e1]
      obtain ⟨i1, i2⟩ := sooner_fold (g := g) T acc hp.2 fun e he x hx => ha e he x (List.mem_cons_of_mem _ hx)
      refine ⟨fun h => ?_, fun e h => ?_⟩
      · obtain ⟨a, b⟩ := i1 h
        exact ⟨a, by simpa [gt] using b⟩
      · obtain ⟨a, b, c⟩ := i2 e h
        refine ⟨a.imp id fun q => ⟨List.mem_cons_of_mem _ q.1, q.2⟩, b, fun x hx n hn => ?_⟩
        rcases List.mem_cons.1 hx with rfl | hx
        · rw [gt] at hn; cases hn
        · exact c x hx n hn
    | some m =>
      cases acc with
      | none =>
        have e1 : sooner none (Option.map (fun n => (n, t)) (some m)) = some (m, t) := rfl
        rw [e1]
        obtain ⟨i1, i2⟩ := sooner_fold (g := g) T (some (m, t)) hp.2 fun e he x hx => by cases he; exact hp.1 x hx
        refine ⟨fun h => (nomatch (i1 h).1), fun e h => ?_⟩
        obtain ⟨a, b, c⟩ := i2 e h
        refine ⟨Or.inr ?_, (fun a h => nomatch h), fun x hx n hn => ?_⟩
        · rcases a with a | ⟨a, a'⟩
          · cases a; exact ⟨List.mem_cons_self, gt⟩
          · exact ⟨List.mem_cons_of_mem _ a, a'⟩
        · rcases List.mem_cons.1 hx with rfl | hx
          · rw [gt] at hn
            cases hn
            obtain ⟨b1, b2⟩ := b _ rfl
            exact ⟨b1, fun q => (b2 q).imp (fun w => by rw [← w]) id⟩
          · exact c x hx n hn
      | some w =>
        have hw := ha w rfl
        by_cases lt : m < w.1
        · have e1 : sooner (some w) (Option.map (fun n => (n, t)) (some m)) = some (m, t) := by
            show (if m < w.1 then some (m, t) else some w) = _
            rw [if_pos lt]
          rw [e1]
          obtain ⟨i1, i2⟩ := sooner_fold (g := g) T (some (m, t)) hp.2 fun e he x hx => by cases he; exact hp.1 x hx
          refine ⟨fun h => (nomatch (i1 h).1), fun e h => ?_⟩
          obtain ⟨a, b, c⟩ := i2 e h
          obtain ⟨b1, b2⟩ := b _ rfl
          dsimp only at b1 b2
          refine ⟨Or.inr ?_, fun a h => ?_, fun x hx n hn => ?_⟩
          · rcases a with a | ⟨a, a'⟩
            · cases a; exact ⟨List.mem_cons_self, gt⟩
            · exact ⟨List.mem_cons_of_mem _ a, a'⟩
          · cases h
            exact ⟨by omega, fun q => by omega⟩
          · rcases List.mem_cons.1 hx with rfl | hx
            · rw [gt] at hn
              cases hn
              exact ⟨b1, fun q => (b2 q).imp (fun w => by rw [← w]) id⟩
            · exact c x hx n hn
        · have e1 : sooner (some w) (Option.map (fun n => (n, t)) (some m)) = some w := by
            show (if m < w.1 then some (m, t) else some w) = _
            rw [if_neg lt]
          rw [e1]
          obtain ⟨i1, i2⟩ := sooner_fold (g := g) T (some w) hp.2 fun e he x hx => by cases he; exact hw x (List.mem_cons_of_mem _ hx)
          refine ⟨fun h => (nomatch (i1 h).1), fun e h => ?_⟩
          obtain ⟨a, b, c⟩ := i2 e h
          obtain ⟨b1, b2⟩ := b _ rfl
          refine ⟨a.imp id fun q => ⟨List.mem_cons_of_mem _ q.1, q.2⟩, b, fun x hx n hn => ?_⟩
          rcases List.mem_cons.1 hx with rfl | hx
          · rw [gt] at hn
            cases hn
            refine ⟨by omega, fun q => Or.inr ?_⟩
            rcases b2 (by omega) with r | r
            · rw [← r]; exact hw _ List.mem_cons_self
            · exact tr _ _ _ r (hw _ List.mem_cons_self)
          · exact c x hx n hn
theorem danger_none {p : Shop} {u t : Stock} (hu : IsStock p u) (ht : IsTaking p t) : dangerOf p u t = none ↔ isBelow t u = true ∧ CanKeep p (minus u t) := by
  unfold dangerOf
  by_cases c : isBelow t u = true
  · rw [if_pos c, doom_none (left_stock hu ht)]
    exact ⟨fun h => ⟨c, h⟩, fun h => h.2⟩
  · rw [if_neg c]
    exact ⟨fun h => (nomatch h), fun h => absurd h.1 c⟩
theorem attack_none {p : Shop} {u : Stock} (hu : IsStock p u) : attackOf p u = none ↔ StaysWell p u := by
  unfold attackOf
  rw [Option.map_eq_none_iff]
  obtain ⟨i1, i2⟩ := sooner_fold (g := dangerOf p u) (takings p) none (takings_sorted p) fun e h => by cases h
  constructor
  · intro h t ht
    exact (danger_none hu ht).1 ((i1 h).2 t (mem_takings.2 ht))
  · intro w
    generalize hr : List.foldl sooner none _ = r at *
    cases r with
    | none => rfl
    | some e =>
      obtain ⟨a, _, _⟩ := i2 e rfl
      rcases a with a | ⟨a, b⟩
      · cases a
      · have ht := mem_takings.1 a
        rw [(danger_none hu ht).2 (w _ ht)] at b
        cases b
theorem attack_some {p : Shop} {u g : Stock} (hu : IsStock p u) (e : attackOf p u = some g) : IsTaking p g ∧ ((isBelow g u = false ∧ ∀ r, IsTaking p r → isBelow r u = false → r = g ∨ Ahead g r) ∨
    (∀ r, IsTaking p r → isBelow r u = true) ∧ ∃ n, CanForce p n (minus u g) ∧ ∀ r m, IsTaking p r → CanForce p m (minus u r) → n ≤ m ∧ (m = n → r = g ∨ Ahead g r)) := by
  unfold attackOf at e
  rw [Option.map_eq_some_iff] at e
  obtain ⟨w, e, rfl⟩ := e
  obtain ⟨i1, i2⟩ := sooner_fold (g := dangerOf p u) (takings p) none (takings_sorted p) fun e h => by cases h
  obtain ⟨a, _, c⟩ := i2 w e
  rcases a with a | ⟨a, b⟩
  · cases a
  · have hg := mem_takings.1 a
    refine ⟨hg, ?_⟩
    by_cases q : isBelow w.2 u = true
    · refine Or.inr ?_
      unfold dangerOf at b
      rw [if_pos q] at b
      obtain ⟨_, d1, d2⟩ := doom_some (left_stock hu hg) b
      have pos : w.1 ≠ 0 := fun z => by rw [z] at d1; exact d1
      refine ⟨fun r hr => ?_, w.1, d1, fun r m hr hm => ?_⟩
      · apply Classical.byContradiction
        intro no
        have := (c r (mem_takings.2 hr) 0 (by unfold dangerOf; rw [if_neg no])).1
        omega
      · by_cases z : isBelow r u = true
        · have nk : ¬ CanKeep p (minus u r) := fun k => keep_force m _ k hm
          cases dr : doomOf p (minus u r) with
          | none => exact absurd ((doom_none (left_stock hu hr)).1 dr) nk
          | some n' =>
            obtain ⟨_, e1, e2⟩ := doom_some (left_stock hu hr) dr
            have := e2 m hm
            obtain ⟨f1, f2⟩ := c r (mem_takings.2 hr) n' (by unfold dangerOf; rw [if_pos z, dr])
            exact ⟨by omega, fun y => f2 (by omega)⟩
        · have := (c r (mem_takings.2 hr) 0 (by unfold dangerOf; rw [if_neg z])).1
          omega
    · have b0 : w.1 = 0 := by
        unfold dangerOf at b
        rw [if_neg q] at b
        exact (Option.some.inj b).symm
      refine Or.inl ⟨by simpa using q, fun r hr z => ?_⟩
      exact (c r (mem_takings.2 hr) 0 (by unfold dangerOf; rw [if_neg (by simp [z])])).2 b0.symm
theorem p_attack_exact : attack_exact := fun p u h => ⟨attack_none h, fun t e => by
  obtain ⟨a, b⟩ := attack_some h e
  refine ⟨a, b.imp (fun q => q.1) fun q => ⟨q.1, ?_⟩⟩
  obtain ⟨_, n, c, d⟩ := q
  exact ⟨n, c, fun r m hr hm => (d r m hr hm).1⟩⟩

/-! ### least stocks -/
theorem total_lt : ∀ {a b : List Nat}, Below a b → a ≠ b → totalOf a < totalOf b
  | [], [], _, h => absurd rfl h
  | [], _ :: _, h, _ => absurd h not_below_nil_cons
  | _ :: _, [], h, _ => absurd h not_below_cons_nil
  | x :: a, y :: b, h, k => by
    rw [below_cons] at h
    simp only [totalOf, List.foldr_cons]
    by_cases c : a = b
    · subst c
      have : x ≠ y := fun z => k (by rw [z])
      omega
    · have := total_lt h.2 c
      simp only [totalOf] at this
      omega
theorem mem_least {p : Shop} {s : Stock} : s ∈ leastOf p ↔ IsStock p s ∧ CanKeep p s ∧ ∀ t, IsStock p t → CanKeep p t → Below t s → t = s := by
  unfold leastOf
  rw [List.mem_filter, List.all_eq_true]
  constructor
  · rintro ⟨a, b⟩
    refine ⟨(mem_safe.1 a).1, keep_iff.2 a, fun t _ kt hb => ?_⟩
    have := b t (keep_iff.1 kt)
    rw [isBelow_iff.2 hb] at this
    simpa using this
  · rintro ⟨a, b, c⟩
    refine ⟨keep_iff.1 b, fun t ht => ?_⟩
    by_cases q : isBelow t s = true
    · have := c t (mem_safe.1 ht).1 (keep_iff.2 ht) (isBelow_iff.1 q)
      simp [this]
    · simp [q]
theorem keep_least {p : Shop} : ∀ (n : Nat) {s : Stock}, totalOf s ≤ n → CanKeep p s → ∃ t, t ∈ leastOf p ∧ Below t s
  | n, s, hn, k => by
    by_cases c : ∀ t, IsStock p t → CanKeep p t → Below t s → t = s
    · exact ⟨s, mem_least.2 ⟨keep_stock k, k, c⟩, below_refl s⟩
    · simp only [Classical.not_forall] at c
      obtain ⟨t, _, kt, hb, ne⟩ := c
      have lt := total_lt hb ne
      cases n with
      | zero => omega
      | succ n =>
        obtain ⟨u, hu, b⟩ := keep_least n (by omega) kt
        exact ⟨u, hu, below_trans b hb⟩
theorem keep_iff_least {p : Shop} {s : Stock} (h : IsStock p s) : CanKeep p s ↔ ∃ t, t ∈ leastOf p ∧ Below t s :=
  ⟨fun k => keep_least _ (Nat.le_refl _) k, fun ⟨_, a, b⟩ => keep_mono h b (mem_least.1 a).2.1⟩
theorem p_least_exact : least_exact := fun _ => ⟨fun _ => mem_least, fun _ h => keep_iff_least h⟩
theorem least_sorted (p : Shop) : (leastOf p).Pairwise Ahead := (safe_sorted p).filter _

/-! ### other sizes, partings, rounds -/
theorem find_up {q : Nat → Bool} {m : Nat} : (∀ n, ((List.range m).map fun i => i + 1).find? q = some n → 1 ≤ n ∧ n ≤ m ∧ q n = true ∧ ∀ k, 1 ≤ k → k ≤ m → q k = true → n ≤ k) ∧ (((List.range m).map fun i => i + 1).find? q = none → ∀ k, 1 ≤ k → k ≤ m → q k = false) := by
  rw [List.find?_map]
  refine ⟨fun n h => ?_, fun h k h1 h2 => ?_⟩
  · rw [Option.map_eq_some_iff] at h
    obtain ⟨a, e, rfl⟩ := h
    rw [List.find?_range_eq_some] at e
    obtain ⟨x, y, z⟩ := e
    rw [List.mem_range] at y
    refine ⟨by omega, by omega, x, fun k k1 k2 hk => ?_⟩
    apply Classical.byContradiction
    intro lt
    have := z (k - 1) (by omega)
    simp only [Function.comp] at this
    rw [show k - 1 + 1 = k by omega, hk] at this
    cases this
  · rw [Option.map_eq_none_iff, List.find?_eq_none] at h
    have := h (k - 1) (by simp; omega)
    simp only [Function.comp] at this
    rw [show k - 1 + 1 = k by omega] at this
    simpa using this
theorem p_fewest_exact : fewest_exact := fun p => by
  obtain ⟨a, b⟩ := find_up (q := fun n => fullSafe (withItems p n)) (m := mostItems)
  obtain ⟨c, d⟩ := find_up (q := fun n => fullSafe (withOnto p n)) (m := p.shelves.length)
  have w1 : ∀ n, fullSafe (withItems p n) = true ↔ CanKeep (withItems p n) (roomsOf p) := fun n => isSafe_iff
  have w2 : ∀ n, fullSafe (withOnto p n) = true ↔ CanKeep (withOnto p n) (roomsOf p) := fun n => isSafe_iff
  refine ⟨fun n h => ?_, fun h m h1 h2 k => ?_, fun n h => ?_, fun h m h1 h2 k => ?_⟩
  · obtain ⟨x, y, z, t⟩ := a n h
    exact ⟨x, y, (w1 n).1 z, fun m m1 m2 k => t m m1 m2 ((w1 m).2 k)⟩
  · have := b h m h1 h2
    rw [(w1 m).2 k] at this
    cases this
  · obtain ⟨x, y, z, t⟩ := c n h
    exact ⟨x, y, (w2 n).1 z, fun m m1 m2 k => t m m1 m2 ((w2 m).2 k)⟩
  · have := d h m h1 h2
    rw [(w2 m).2 k] at this
    cases this
theorem differ_iff {p q : Shop} {s : Stock} : (isSafe p s != isSafe q s) = true ↔ ¬ (CanKeep p s ↔ CanKeep q s) := by
  rw [← isSafe_iff, ← isSafe_iff]
  cases isSafe p s <;> cases isSafe q s <;> simp
theorem parting_none {p q : Shop} : partingOf p q = none ↔ ∀ s, IsStock p s → (CanKeep p s ↔ CanKeep q s) := by
  unfold partingOf
  rw [List.find?_eq_none]
  constructor
  · intro h s hs
    have := h s (mem_stocks.2 hs)
    rw [differ_iff] at this
    exact Classical.not_not.1 this
  · intro h s hs
    rw [differ_iff]
    exact fun z => z (h s (mem_stocks.1 hs))
theorem parting_some {p q : Shop} {s : Stock} (e : partingOf p q = some s) : IsStock p s ∧ ¬ (CanKeep p s ↔ CanKeep q s) ∧ ∀ v, IsStock p v → ¬ (CanKeep p v ↔ CanKeep q v) → v = s ∨ Ahead s v := by
  unfold partingOf at e
  exact ⟨mem_stocks.1 (List.mem_of_find?_eq_some e), differ_iff.1 (by simpa using List.find?_some e), fun v hv k => find_first (stocks_sorted p) e v (mem_stocks.2 hv) (differ_iff.2 k)⟩
theorem p_parting_exact : parting_exact := fun _ _ _ => ⟨parting_none, fun _ e => ⟨(parting_some e).1, (parting_some e).2.1⟩⟩
theorem p_round_exact : round_exact := fun r _ => by
  refine ⟨fun o => ?_, fun o => ?_⟩
  · unfold isWell hintOf
    rw [if_pos o, if_pos o]
    exact ⟨staysWell_iff, rfl⟩
  · unfold isWell hintOf
    rw [if_neg (by simp [o]), if_neg (by simp [o])]
    exact ⟨isSafe_iff, rfl⟩
end RsP
set_option Elab.async false
set_option linter.all false
set_option maxRecDepth 100000
set_option maxHeartbeats 4000000
namespace Fs
open L2
/-- how soon it is forced, of so many visits -/
def dmAt (p : Rs.Shop) (n : Nat) (s : List Nat) : Option Nat := (List.range (n + 1)).find? fun j => !(Rs.kept p j).contains s
theorem kept_step {p : Rs.Shop} {n : Nat} {s : List Nat} : s ∈ Rs.kept p (n + 1) ↔ s ∈ Rs.kept p n ∧ Rs.isGood p (Rs.kept p n) s = true := List.mem_filter
theorem kept_le {p : Rs.Shop} {s : List Nat} {n : Nat} : ∀ {k : Nat}, s ∈ Rs.kept p (n + k) → s ∈ Rs.kept p n
  | 0, h => h
  | k + 1, h => kept_le (k := k) (kept_step.1 h).1
theorem dm_some {p : Rs.Shop} {n : Nat} {s : List Nat} : (dmAt p n s).isSome = !(Rs.kept p n).contains s := by
  unfold dmAt
  rw [Bool.eq_iff_iff, List.find?_isSome]
  constructor
  · rintro ⟨j, hj, h⟩
    rw [List.mem_range] at hj
    obtain ⟨k, rfl⟩ : ∃ k, n = j + k := ⟨n - j, by omega⟩
    simp only [Bool.not_eq_true', List.contains_eq_mem, decide_eq_false_iff_not] at h ⊢
    exact fun q => h (kept_le q)
  · intro h
    exact ⟨n, List.mem_range.2 (Nat.lt_succ_self n), h⟩
theorem dm_succ {p : Rs.Shop} {n : Nat} {s : List Nat} : dmAt p (n + 1) s = (dmAt p n s).or (if (Rs.kept p (n + 1)).contains s then none else some (n + 1)) := by
  unfold dmAt
  rw [List.range_succ (n := n + 1), List.find?_append]
  congr 1
  rw [List.find?_singleton]
  cases (Rs.kept p (n + 1)).contains s <;> rfl
theorem kept_filter (p : Rs.Shop) : ∀ n, Rs.kept p n = (Rs.stocksOf p).filter fun s => (Rs.kept p n).contains s
  | 0 => by
    show Rs.stocksOf p = _
    rw [List.filter_eq_self.2]
    intro s hs
    simpa [Rs.kept] using hs
  | n + 1 => by
    refine (congrArg (List.filter (Rs.isGood p (Rs.kept p n))) (kept_filter p n)).trans ?_
    rw [List.filter_filter]
    refine List.filter_congr fun s hs => ?_
    rw [Bool.eq_iff_iff]
    simp only [Bool.and_eq_true, List.contains_eq_mem, decide_eq_true_eq]
    rw [kept_step]
    exact And.comm
theorem find_range {q : Nat → Bool} {j a b : Nat} (h : q j = true) (ha : j < a) (hb : j < b) : (List.range a).find? q = (List.range b).find? q := by
  have key : ∀ a c, j < a → (List.range (a + c)).find? q = (List.range a).find? q := by
    intro a c ha
    rw [List.range_add, List.find?_append]
    have : ((List.range a).find? q).isSome = true := List.find?_isSome.2 ⟨j, List.mem_range.2 ha, h⟩
    obtain ⟨x, hx⟩ := Option.isSome_iff_exists.1 this
    rw [hx]; rfl
  rcases Nat.le_total a b with k | k
  · obtain ⟨c, rfl⟩ : ∃ c, b = a + c := ⟨b - a, by omega⟩
    exact (key a c ha).symm
  · obtain ⟨c, rfl⟩ : ∃ c, a = b + c := ⟨a - b, by omega⟩
    exact key b c hb
theorem fixed_same {p : Rs.Shop} {n m : Nat} (h1 : Rs.shrink p (Rs.kept p n) = Rs.kept p n) (h2 : Rs.shrink p (Rs.kept p m) = Rs.kept p m) : Rs.kept p n = Rs.kept p m := by
  have e1 := RsP.kept_stay h1 m
  have e2 := RsP.kept_stay h2 n
  rw [← e1, ← e2, Nat.add_comm]
theorem doom_dm {p : Rs.Shop} {n : Nat} {s : List Nat} (h : Rs.shrink p (Rs.kept p n) = Rs.kept p n) : Rs.doomOf p s = dmAt p n s := by
  obtain ⟨m, e, hm, hf⟩ := RsP.safe_kept p
  have e : Rs.safeStocks p = Rs.kept p n := e.trans (fixed_same hf h)
  unfold Rs.doomOf Rs.isSafe
  rw [e]
  cases hc : (Rs.kept p n).contains s with
  | true =>
    have := dm_some (p := p) (n := n) (s := s)
    rw [hc] at this
    symm; simpa using this
  | false =>
    simp only [Bool.false_eq_true, if_false]
    unfold dmAt
    have hc' : (Rs.kept p m).contains s = false := by rw [fixed_same hf h, hc]
    rcases Nat.le_total n m with k | k
    · exact find_range (j := n) (by rw [hc]; rfl) (by omega) (by omega)
    · exact find_range (j := m) (by rw [hc']; rfl) (by omega) (by omega)
def mapF (p : Rs.Shop) : List (List Nat × List (List Nat)) := (Rs.stocksOf p).map fun s => (s, (Rs.fillings p s).map (Rs.plus s))
def mapL (p : Rs.Shop) : List (List Nat × Option (List (List Nat))) := (Rs.stocksOf p).map fun s => (s, leftOf (Rs.takings p) s)
/-- what the dict tells behind so many visits -/
def MD (kD : List (List Key × V)) (p : Rs.Shop) (n : Nat) : Prop := ∀ s, FsLaw.IsStock p s → got kD s = (dmAt p n s).map fun (j : Nat) => V.int j
theorem MD.mk {kD : List (List Key × V)} {p : Rs.Shop} {n : Nat} (h : MD kD p n) {s : List Nat} (hs : FsLaw.IsStock p s) : mk? kD s = !(Rs.kept p n).contains s := by
  show (got kD s).isSome = _
  rw [h s hs, Option.isSome_map, dm_some]
theorem firm_stays {kD : List (List Key × V)} {p : Rs.Shop} {l : List (List Nat)} (h : ∀ s, FsLaw.IsStock p s → mk? kD s = !l.contains s) {u : List Nat} (hu : FsLaw.IsStock p u) : firm kD (leftOf (Rs.takings p) u) = Rs.staysIn p l u := by
  unfold leftOf Rs.staysIn
  by_cases hb : (Rs.takings p).all (fun t => Rs.isBelow t u) = true
  · rw [if_pos hb]
    show (!((Rs.takings p).map (Rs.minus u)).any (mk? kD)) = _
    rw [List.any_map, Bool.eq_iff_iff]
    simp only [Bool.not_eq_true', List.any_eq_false, List.all_eq_true, Function.comp]
    rw [List.all_eq_true] at hb
    refine forall_congr' fun t => forall_congr' fun ht => ?_
    have hm : mk? kD (Rs.minus u t) = !l.contains (Rs.minus u t) := h _ (RsP.left_stock hu (RsP.mem_takings.1 ht))
    rw [hm, hb t ht]
    cases l.contains (Rs.minus u t) <;> simp
  · rw [if_neg hb]
    show false = _
    symm
    rw [List.all_eq_false]
    rw [List.all_eq_true] at hb
    simp only [Classical.not_forall] at hb
    obtain ⟨t, ht, hn⟩ := hb
    exact ⟨t, ht, by simp [hn]⟩
theorem new_eq {kD : List (List Key × V)} {p : Rs.Shop} {n : Nat} (h : MD kD p n) : newOf kD (mapF p) (mapL p) = (Rs.kept p n).filter fun s => !Rs.isGood p (Rs.kept p n) s := by
  have hk : ∀ u, FsLaw.IsStock p u → (firmKeys kD (mapL p)).contains u = Rs.staysIn p (Rs.kept p n) u := by
    intro u hu
    have e : firmKeys kD (mapL p) = (Rs.stocksOf p).filter fun s => Rs.staysIn p (Rs.kept p n) s := by
      unfold firmKeys mapL
      rw [List.filter_map, List.map_map]
      refine (List.map_congr_left (g := id) fun _ _ => rfl).trans ?_
      rw [List.map_id]
      refine List.filter_congr fun s hs => ?_
      exact firm_stays (fun s hs => h.mk hs) (RsP.mem_stocks.1 hs)
    rw [e, List.contains_eq_mem, Bool.eq_iff_iff, decide_eq_true_eq, List.mem_filter]
    exact ⟨fun q => q.2, fun q => ⟨RsP.mem_stocks.2 hu, q⟩⟩
  unfold newOf mapF
  rw [List.filter_map, List.map_map]
  refine (List.map_congr_left (g := id) fun _ _ => rfl).trans ?_
  rw [List.map_id]
  conv => rhs; arg 2; rw [kept_filter p n]
  rw [List.filter_filter]
  refine List.filter_congr fun s hs => ?_
  have hs' := RsP.mem_stocks.1 hs
  show newKeep kD (mapL p) (s, (Rs.fillings p s).map (Rs.plus s)) = _
  unfold newKeep
  simp only
  rw [h.mk hs', Bool.not_not, List.any_map, Bool.and_comm]
  congr 2
  unfold Rs.isGood
  rw [Bool.eq_iff_iff, List.any_eq_true, List.any_eq_true]
  refine exists_congr fun f => and_congr_right fun hf => ?_
  show (firmKeys kD (mapL p)).contains (Rs.plus s f) = true ↔ _
  rw [hk _ (RsP.filled_stock ((RsP.mem_fillings hs').1 hf))]
end Fs
set_option Elab.async false
set_option linter.all false
set_option maxRecDepth 100000
set_option maxHeartbeats 4000000
namespace Fs
open PySem PySem.Spec PyProof.Rows L2 FsX
open Evl (Ex Ex.refl Ex.trans Ex.new Ex.mut fresh_back)
section
variable {H H' : Hp} {d l : Addr} {o u : HO}
theorem T.del {s : List Nat} (h : T H l s) (f : Off H d) : T (del H d) l s := by
  obtain ⟨u, h1, _, h2⟩ := f
  have : l ≠ d := fun e => by rw [e] at h; rw [h.tup] at h1; cases h1; exact h2 _ rfl
  show L2.del H d l = _
  rw [del_ne this]; exact h
theorem LA.del {as : List Addr} {xs : List (List Nat)} (h : LA T H l as xs) (f : Off H d) : LA T (del H d) l as xs := by
  obtain ⟨h3, h4⟩ := h
  refine ⟨?_, Paired.mapP h4 fun a b r => T.del r f⟩
  obtain ⟨u, h1, h2, _⟩ := f
  have : l ≠ d := fun e => by rw [e, h1] at h3; cases h3; exact h2 _ rfl
  rw [del_ne this]; exact h3
theorem LO.del {xs : List (List Nat)} (h : LO T H l xs) (f : Off H d) : LO T (del H d) l xs := by
  obtain ⟨as, h⟩ := h
  exact ⟨as, LA.del h f⟩
theorem RL.del {v : V} {x : Option (List (List Nat))} (h : RL H v x) (f : Off H d) : RL (del H d) v x := by
  rcases h with h | ⟨l, xs, h1, h2, h3⟩
  · exact .inl h
  · exact .inr ⟨l, xs, h1, h2, h3.del f⟩
theorem off_del {e : Addr} (f : Off H d) (n : d ≠ e) : Off (del H e) d := by
  obtain ⟨u, h1, h2⟩ := f
  exact ⟨u, by rw [del_ne n]; exact h1, h2⟩
end
theorem FA.put {β : Type} {R : Hp → V → β → Prop} {H : Hp} {kvs : List (List Key × V)} {m : List (List Nat × β)} {s : List Nat} {v : V} {b : β} (h : FA R H kvs m) (hn : m.lookup s = none) (r : R H v b) : FA R H (putK kvs (kk s) v) (m ++ [(s, b)]) := by
  have := h.got s
  rw [hn] at this
  rw [putK_new v this]
  exact paired_snoc h ⟨rfl, r⟩
theorem stocks_nodup (p : Rs.Shop) : (Rs.stocksOf p).Nodup := List.Pairwise.imp (R := FsLaw.Ahead) (fun {a b} h (e : a = b) => RsP.ahead_irrefl (a := b) (by subst e; exact h)) (RsP.stocks_sorted p)
theorem lookup_take {β : Type} {m : List (List Nat × β)} {i : Nat} {s : List Nat} {b : β} (hn : (m.map (·.1)).Nodup) (h : m[i]? = some (s, b)) : (m.take i).lookup s = none := by
  induction m generalizing i with
  | nil => cases h
  | cons e m ih =>
    cases i with
    | zero => rfl
    | succ i =>
      have h : m[i]? = some (s, b) := h
      rw [List.map_cons, List.nodup_cons] at hn
      obtain ⟨t, c⟩ := e
      rw [List.take_succ_cons, List.lookup_cons, show (s == t) = false from by
        rw [beq_eq_false_iff_ne]; intro e; subst e
        exact hn.1 (List.mem_map.2 ⟨_, List.mem_of_getElem? h, rfl⟩)]
      exact ih hn.2 h
theorem mapF_keys (p : Rs.Shop) : (mapF p).map (·.1) = Rs.stocksOf p := by unfold mapF; rw [List.map_map]; exact (List.map_congr_left (g := id) fun _ _ => rfl).trans (List.map_id _)
theorem mapL_keys (p : Rs.Shop) : (mapL p).map (·.1) = Rs.stocksOf p := by unfold mapL; rw [List.map_map]; exact (List.map_congr_left (g := id) fun _ _ => rfl).trans (List.map_id _)
theorem bound_le {p : Rs.Shop} (h : Ok p) : (Rs.stocksOf p).length ≤ 125 := by
  have := RsP.length_vectors (Rs.roomsOf p) 4 fun x hx => (h.rooms.2 x hx).2
  refine Nat.le_trans this ?_
  rw [h.rooms.1]
  exact Nat.le_trans (Nat.pow_le_pow_right (by decide) h.n3) (by decide)
theorem takings_le {p : Rs.Shop} (h : Ok p) : (Rs.takings p).length ≤ 125 := by
  refine Nat.le_trans (List.length_filter_le ..) ?_
  refine Nat.le_trans (RsP.length_vectors _ 4 fun x hx => ?_) ?_
  · obtain ⟨_, _, rfl⟩ := List.mem_map.1 hx; exact h.o4
  · rw [List.length_map]
    exact Nat.le_trans (Nat.pow_le_pow_right (by decide) h.n3) (by decide)
theorem fillings_le {p : Rs.Shop} (h : Ok p) {s : List Nat} (hs : FsLaw.IsStock p s) : (Rs.fillings p s).length ≤ 125 := by
  refine Nat.le_trans (List.length_filter_le ..) ?_
  refine Nat.le_trans (RsP.length_vectors _ 4 (minus_le fun t ht => (h.rooms.2 t ht).2)) ?_
  rw [minus_len hs.1.symm, h.rooms.1]
  exact Nat.le_trans (Nat.pow_le_pow_right (by decide) h.n3) (by decide)
def muV (σ : L2.St) (i : Nat) : Nat := match σ[i]? with
  | some (some (.int v)) => (200 - v).toNat
  | _ => 0
/-- what is forced at one more visit -/
def freshOf (p : Rs.Shop) (n : Nat) : List (List Nat) := (Rs.kept p n).filter fun s => !Rs.isGood p (Rs.kept p n) s
theorem mem_fresh {p : Rs.Shop} {n : Nat} {s : List Nat} : s ∈ freshOf p n ↔ s ∈ Rs.kept p n ∧ s ∉ Rs.kept p (n + 1) := by
  unfold freshOf
  rw [List.mem_filter, kept_step]
  refine and_congr_right fun h => ?_
  cases Rs.isGood p (Rs.kept p n) s <;> simp [h]
theorem filter_both {α : Type} (f : α → Bool) : ∀ l : List α, (l.filter f).length + (l.filter fun x => !f x).length = l.length
  | [] => rfl
  | a :: l => by
    have := filter_both f l
    cases h : f a <;> simp [List.filter_cons, h] <;> omega
theorem fresh_len (p : Rs.Shop) (n : Nat) : (Rs.kept p (n + 1)).length + (freshOf p n).length = (Rs.kept p n).length := filter_both _ _
theorem MD.start (p : Rs.Shop) : MD [] p 0 := fun s hs => by
  have := dm_some (p := p) (n := 0) (s := s)
  rw [show (Rs.kept p 0).contains s = true from by rw [List.contains_eq_mem]; exact decide_eq_true (RsP.mem_stocks.2 hs)] at this
  have e : dmAt p 0 s = none := by simpa using this
  rw [e]; rfl
theorem MD.succ {kD kj : List (List Key × V)} {p : Rs.Shop} {n : Nat} (h : MD kD p n) (hj : ∀ s, FsLaw.IsStock p s → got kj s = if (freshOf p n).contains s then some (.int ((n + 1 : Nat) : Int)) else got kD s) : MD kj p (n + 1) := fun s hs => by
  rw [hj s hs, h s hs, dm_succ]
  have hd := dm_some (p := p) (n := n) (s := s)
  by_cases h1 : s ∈ Rs.kept p n
  · rw [show (Rs.kept p n).contains s = true from by rw [List.contains_eq_mem]; exact decide_eq_true h1] at hd
    have e : dmAt p n s = none := by simpa using hd
    rw [e]
    by_cases h2 : s ∈ Rs.kept p (n + 1)
    · have c1 : (Rs.kept p (n + 1)).contains s = true := by rw [List.contains_eq_mem]; exact decide_eq_true h2
      have c2 : (freshOf p n).contains s = false := by rw [List.contains_eq_mem]; exact decide_eq_false fun q => (mem_fresh.1 q).2 h2
      rw [c1, c2]; rfl
    · have c1 : (Rs.kept p (n + 1)).contains s = false := by rw [List.contains_eq_mem]; exact decide_eq_false h2
      have c2 : (freshOf p n).contains s = true := by rw [List.contains_eq_mem]; exact decide_eq_true (mem_fresh.2 ⟨h1, h2⟩)
      rw [c1, c2]; rfl
  · rw [show (Rs.kept p n).contains s = false from by rw [List.contains_eq_mem]; exact decide_eq_false h1] at hd
    have c2 : (freshOf p n).contains s = false := by rw [List.contains_eq_mem]; exact decide_eq_false fun q => h1 (mem_fresh.1 q).1
    rw [c2]
    obtain ⟨j, e⟩ := Option.isSome_iff_exists.1 (show (dmAt p n s).isSome = true by rw [hd]; rfl)
    rw [e]; rfl
section
variable {P : Program} {w : World} {K : PySem.W.Frag} {mg : Str → Option Value} {base : Heap}
/-- the dict of what can't be kept -/
def DA (H : Hp) (d : Addr) (p : Rs.Shop) : Prop := ∃ kD, H d = some (.dT kD) ∧ ∀ s, FsLaw.IsStock p s → got kD s = (Rs.doomOf p s).map fun (j : Nat) => V.int j
theorem mDA : Mono DA := fun _ _ _ _ e ⟨k, h1, h2⟩ => ⟨k, e _ _ h1, h2⟩
def spDooms (K : PySem.W.Frag) : Sp := fun vs H Q _ => ∃ (a : Addr) (p : Rs.Shop), vs = [.ref a] ∧ ShopAt (SH K) H a p ∧ ∀ d H', Ex H H' → DA H' d p → Q (.ref d) H'
theorem k_dooms (z : Z K mg) : Kp P w K mg base CX0 4 (He.ga K "dooms") ["shop"] (spDooms K) := by
  have nd := sc_dooms.nd
  refine kp0 (f_dooms z) sc_dooms (fun vs H Q E h => ?_) fun cdv A outer s H vs Q E hr h => ⟨_,
    (pss_cons ((ps_set (i := 1) nd rfl (by first | exact Or.inl rfl | exact Or.inr rfl) (((Kp.call ((k_takings z)) (Room.mono (hr) (by decide)) (by rfl) ((g_takings_of z)) pass0 ((pa_cons (pv 0) pa_nil))))))) (pss_cons ((ps_set (i := 2) nd rfl (by first | exact Or.inl rfl | exact Or.inr rfl) (pe_dnewT))) (pss_cons ((ps_set (i := 3) nd rfl (by first | exact Or.inl rfl | exact Or.inr rfl) (pe_dnewT))) (pss_cons ((ps_for PassesOwn.never rfl ((pi_list ((Kp.call ((k_stocks z)) (Room.mono (hr) (by decide)) (by rfl) ((g_stocks_of z)) pass0 ((pa_cons (pv 0) pa_nil)))))) (((pg_name (i := 4) nd rfl (by first | exact Or.inl rfl | exact Or.inr rfl)))) ((pss_cons (ps_dput (hu_of hr) (pv 2) (pv 4) (pe_lc (g := gName 8) (own := [("items", 8)]) rfl nd (pi_list ((Kp.call ((k_fillings z)) (Room.mono (hr) (by decide)) (by rfl) ((g_fillings_of z)) pass0 ((pa_cons (pv 0) (pa_cons (pv 4) pa_nil)))))) (blkOk_by (N := ["shop", "takings", "filled", "left", "stock", "doomed", "visits", "fresh", "items"]) (sc := defScope s_dooms) (by decide +kernel)) (fun _ _ _ _ _ => (pg_name (i := 8) nd rfl (Or.inl rfl))) (fun _ _ _ _ _ => pts_nil) (fun _ _ _ _ _ => (Kp.call ((k_added z)) (Room.mono (hr) (by decide)) (by rfl) ((g_added z)) pass0 ((pa_cons (pv 4) (pa_cons (pv 8) pa_nil)))))) rfl) (pss_one (ps_dput (hu_of hr) (pv 3) (pv 4) ((Kp.call ((k_left z)) (Room.mono (hr) (by decide)) (by rfl) ((g_stocks_left z)) pass0 ((pa_cons (pv 4) (pa_cons (pv 1) pa_nil))))) rfl)))))) (pss_cons ((ps_set (i := 5) nd rfl (by first | exact Or.inl rfl | exact Or.inr rfl) (pe_dnewT))) (pss_cons ((ps_set (i := 6) nd rfl (by first | exact Or.inl rfl | exact Or.inr rfl) (pe_int))) (pss_cons ((ps_set (i := 7) nd rfl (by first | exact Or.inl rfl | exact Or.inr rfl) (((Kp.call ((k_newly z)) (Room.mono (hr) (by decide)) (by rfl) ((g_newly_doomed z)) pass0 ((pa_cons (pv 2) (pa_cons (pv 3) (pa_cons (pv 5) pa_nil))))))))) (pss_cons (ps_while PassesOwn.never (pt_cmpR op_gt ((pe_callB call_len_seq (by rfl) ((b_len z)) PySem.boot_len (pa_cons ((pv 7)) pa_nil))) pe_int (nomark _))
        (pss_cons ((ps_for PassesOwn.never rfl ((pi_list (pv 7))) (((pg_name (i := 4) nd rfl (by first | exact Or.inl rfl | exact Or.inr rfl)))) ((pss_one (ps_dput (hu_of hr) (pv 5) (pv 4) (pv 6) rfl))))) (pss_cons ((ps_set (i := 6) nd rfl (by first | exact Or.inl rfl | exact Or.inr rfl) ((pe_op op_add (pv 6) pe_int)))) (pss_one ((ps_set (i := 7) nd rfl (by first | exact Or.inl rfl | exact Or.inr rfl) (((Kp.call ((k_newly z)) (Room.mono (hr) (by decide)) (by rfl) ((g_newly_doomed z)) pass0 ((pa_cons (pv 2) (pa_cons (pv 3) (pa_cons (pv 5) pa_nil))))))))))))) (pss_one (ps_ret (pv 5))))))))))), ?_⟩
  · obtain ⟨a, p, rfl, _⟩ := h; rfl
  · obtain ⟨a, p, rfl, hp, q⟩ := h
    have ok := hp.1
    simp only [ tNil, tCons, tC, tDrop, tOp, rI0, tCB, rEq, rNe, tNext, tRet, tRetN, tSeq, tAsg, tAug, tTest, tIfS, tIf, tNot, tAnd, tOr, tBM, tBM0, tCall, tTup, tTupZ, tLst, tFld, sFld, tMeth, tMake, tB, tYes, tCmp, t2I, tIsN, tNotN, tDGet, tDGet1, tDGet2, tDIn, tDNotIn, tAndV, tOrV, tNotV, tDNewT, sDPut, tSl, tPart, tNoPart, rSlL, tThen, tCntZ, tFgt, tChain, gCons, gNil, gTup, rCatZ, rCatA, rCat, rAppend, rExtend, rIn, rInD, rNotInD, rEqD, rNeD, rIxL, rIxT, tSub, tAdd, tBreak, tCont, tPar, rSum, rSumT, rMaxT, tyV, L2.start, List.map_cons, List.map_nil, List.length_cons, List.length_nil, List.cons_append, List.nil_append, List.append_nil, List.replicate, Nat.reduceAdd, Nat.reduceSub, wipe, List.set_cons_zero, List.set_cons_succ, nox_K, cxOf_K, blk_K, suite_K, tVar_0, tVar_1, tVar_2, tVar_3, tVar_4, tVar_5, tVar_6, tVar_7, tVar_8, tVar_9, tVar_10, tVar_11, tVar_12, tVar_13, tVar_14, tVar_15, gName_0, gName_1, gName_2, gName_3, gName_4, gName_5, gName_6, gName_7, gName_8, gName_9, gName_10, gName_11, gName_12, gName_13, gName_14, gName_15, and_assoc, exists_eq_left', exists_eq_left, exists_eq, exists_eq', exists_and_left, exists_const, and_true, true_and, V.int.injEq, V.ref.injEq, V.bl.injEq, V.str.injEq, List.cons.injEq, and_self, scal, Bool.false_eq_true, if_false, if_true, reduceCtorEq, false_and, and_false, false_or, or_false, ↓reduceIte]
    refine ⟨a, p, rfl, hp, fun tk H0 e0 htk dF hF0 dL hL0 => ?_⟩
    have dLF : dL ≠ dF := fun e => by rw [e, upd_same] at hL0; cases hL0
    have hL0' : H0 dL = none := by rw [upd_ne dLF] at hL0; exact hL0
    have e1 : Ex H0 (upd (upd H0 dF (.dT [])) dL (.dT [])) := (Ex.new hF0).trans (Ex.new hL0)
    have hFa : (upd (upd H0 dF (.dT [])) dL (.dT [])) dF = some (.dT []) := by rw [upd_ne dLF.symm]; exact upd_same
    have hLa : (upd (upd H0 dF (.dT [])) dL (.dT [])) dL = some (.dT []) := upd_same
    generalize upd (upd H0 dF (.dT [])) dL (.dT []) = Ha at *
    refine ⟨_, rfl, a, p, rfl, mShop _ _ _ _ (e0.trans e1) hp, fun r H2 e2 hst => ?_⟩
    obtain ⟨as, hst⟩ := hst
    have hF2 := e2 _ _ hFa
    have hL2 := e2 _ _ hLa
    have hstB : LA T (del (del H2 dF) dL) r as (Rs.stocksOf p) := (LA.del hst (off_dT hF2)).del (off_del (off_dT hL2) dLF)
    have eB : Ex H0 (del (del H2 dF) dL) := exDel (exDel (e1.trans e2) hF0) hL0'
    have eB2 : Ex (del (del H2 dF) dL) H2 := exDelSelf.trans exDelSelf
    have nF : (del (del H2 dF) dL) dF = none := by rw [del_ne dLF.symm]; simp [L2.del]
    have nL : (del (del H2 dF) dL) dL = none := by simp [L2.del]
    generalize hB : del (del H2 dF) dL = B at *
    have hpB : ShopAt (SH K) B a p := mShop _ _ _ _ (e0.trans eB) hp
    have htkB : LO T B tk (Rs.takings p) := htk.ex mT eB
    refine ⟨r, rfl, ⟨_, LA.sq hst⟩, for_la (R := T) (as := as) (xs := Rs.stocksOf p) (fun i σ H1 => ∃ u4 u5 u6 u7 u8 kF kL, σ = [some (.ref a), some (.ref tk), some (.ref dF), some (.ref dL), u4, u5, u6, u7, u8] ∧ Ex B H1 ∧ H1 dF = some (.dT kF) ∧ H1 dL = some (.dT kL) ∧ FA RF (del (del H1 dF) dL) kF ((mapF p).take i) ∧ FA RL (del (del H1 dF) dL) kL ((mapL p).take i)) ⟨_, _, _, _, _, [], [], rfl, eB2, hF2, hL2, .nil, .nil⟩ ?_ ?_ ?_⟩
    · rintro i σ H1 ⟨_, _, _, _, _, kF, kL, _, e, _⟩
      exact LA.ex hstB mT e
    · rintro i x s σ H1 hs hx _ ⟨u4, u5, u6, u7, u8, kF, kL, rfl, e, hF, hL, fF, fL⟩
      have hsT : T B x s := LA.at hstB hx hs
      have hS : FsLaw.IsStock p s := RsP.mem_stocks.1 (List.mem_of_getElem? hs)
      have hi : i < (Rs.stocksOf p).length := (List.getElem?_eq_some_iff.1 hs).1
      have hmF : (mapF p)[i]? = some (s, (Rs.fillings p s).map (Rs.plus s)) := by unfold mapF; rw [List.getElem?_map, hs]; rfl
      have hmL : (mapL p)[i]? = some (s, leftOf (Rs.takings p) s) := by unfold mapL; rw [List.getElem?_map, hs]; rfl
      refine ⟨_, rfl, _, rfl, a, x, p, s, rfl, mShop _ _ _ _ e hpB, hsT.ex e, RsP.isBelow_iff.2 hS, fun fl H3 e3 hfl => ?_⟩
      obtain ⟨afs, hfl⟩ := hfl
      have s3 : s.length ≤ 3 := by rw [hS.1, ok.rooms.1]; exact ok.n3
      have hiF : (Rs.fillings p s).length ≤ 125 := fillings_le ok hS
      refine ⟨fl, rfl, ⟨_, LA.sq hfl⟩, fun D hD => lc_la (R := T) (as := afs) (xs := Rs.fillings p s) (fun j H4 => Ex H3 H4 ∧ LX T H4 D (((Rs.fillings p s).take j).map (Rs.plus s))) ⟨Ex.new hD, LX.new⟩ ?_ ?_ ?_⟩
      · rintro j H4 ⟨e4, _⟩
        exact LA.ex hfl mT e4
      · rintro j y f H4 hf hy hfT ⟨e4, hx4⟩
        have fl_len : f.length = s.length := ((RsP.mem_fillings hS).1 (List.mem_of_getElem? hf)).1
        have hj : j < (Rs.fillings p s).length := (List.getElem?_eq_some_iff.1 hf).1
        simp only [ tNil, tCons, tC, tDrop, tOp, rI0, tCB, rEq, rNe, tNext, tRet, tRetN, tSeq, tAsg, tAug, tTest, tIfS, tIf, tNot, tAnd, tOr, tBM, tBM0, tCall, tTup, tTupZ, tLst, tFld, sFld, tMeth, tMake, tB, tYes, tCmp, t2I, tIsN, tNotN, tDGet, tDGet1, tDGet2, tDIn, tDNotIn, tAndV, tOrV, tNotV, tDNewT, sDPut, tSl, tPart, tNoPart, rSlL, tThen, tCntZ, tFgt, tChain, gCons, gNil, gTup, rCatZ, rCatA, rCat, rAppend, rExtend, rIn, rInD, rNotInD, rEqD, rNeD, rIxL, rIxT, tSub, tAdd, tBreak, tCont, tPar, rSum, rSumT, rMaxT, tyV, L2.start, List.map_cons, List.map_nil, List.length_cons, List.length_nil, List.cons_append, List.nil_append, List.append_nil, List.replicate, Nat.reduceAdd, Nat.reduceSub, wipe, List.set_cons_zero, List.set_cons_succ, nox_K, cxOf_K, blk_K, suite_K, tVar_0, tVar_1, tVar_2, tVar_3, tVar_4, tVar_5, tVar_6, tVar_7, tVar_8, tVar_9, tVar_10, tVar_11, tVar_12, tVar_13, tVar_14, tVar_15, gName_0, gName_1, gName_2, gName_3, gName_4, gName_5, gName_6, gName_7, gName_8, gName_9, gName_10, gName_11, gName_12, gName_13, gName_14, gName_15, and_assoc, exists_eq_left', exists_eq_left, exists_eq, exists_eq', exists_and_left, exists_const, and_true, true_and, V.int.injEq, V.ref.injEq, V.bl.injEq, V.str.injEq, List.cons.injEq, and_self, scal, Bool.false_eq_true, if_false, if_true, reduceCtorEq, false_and, and_false, false_or, or_false, ↓reduceIte]
        refine ⟨x, y, s, f, rfl, hsT.ex (e.trans (e3.trans e4)), hfT, fl_len.symm, s3, fun q' H5 e5 hq' => ?_⟩
        obtain ⟨vs, h1, h2, h3⟩ := hx4.app mT e5 (y := Rs.plus s f) (p := q') (by
          have : q' ≠ D := fun er => by rw [er] at hq'; obtain ⟨vs, hv, _⟩ := (hx4.ex mT e5).len; rw [hq'.tup] at hv; cases hv
          show L2.del H5 D q' = _
          rw [del_ne this]; exact hq')
        refine ⟨vs, h1, ?_, Ex.mut (e4.trans e5) hD, ?_⟩
        · rw [h2, List.length_map, List.length_take, sizeLine_eq]; omega
        · rw [take_snoc hf, List.map_append]; exact h3
      · rintro H4 ⟨e4, hx4⟩
        rw [List.take_length] at hx4
        have e34 := e3.trans e4
        have hF4 := e34 _ _ hF
        have hL4 := e34 _ _ hL
        have hx4T := hsT.ex (e.trans e34)
        have szF : kF.length ≤ 125 := by rw [fF.len, List.length_take]; have := bound_le ok; omega
        have szL : kL.length ≤ 125 := by rw [fL.len, List.length_take]; have := bound_le ok; omega
        refine ⟨_, rfl, _, rfl, dF, _, rfl, DPut.t (k := kk s) hF4 (by rw [kk_kV]; exact hx4T) (by rw [sizeLine_eq]; omega), ?_⟩
        have e5 : Ex B (upd H4 dF (.dT (putK kF (kk s) (.ref D)))) := Ex.mut (e.trans e34) nF
        have hL5 : upd H4 dF (.dT (putK kF (kk s) (.ref D))) dL = some (.dT kL) := by rw [upd_ne dLF]; exact hL4
        have hF5 : upd H4 dF (.dT (putK kF (kk s) (.ref D))) dF = some (.dT (putK kF (kk s) (.ref D))) := upd_same
        have r5 : Ex (L2.del (L2.del H1 dF) dL) (L2.del (L2.del (upd H4 dF (.dT (putK kF (kk s) (.ref D)))) dF) dL) := exDelMono ((exDelMono e34).trans exDelUpd)
        have hD5 : LO T (L2.del (L2.del (upd H4 dF (.dT (putK kF (kk s) (.ref D)))) dF) dL) D ((Rs.fillings p s).map (Rs.plus s)) := by
          have := ((hx4.lo mT).del (off_dT hF4)).del (off_del (off_dT hL4) dLF)
          exact this.ex mT (exDelMono exDelUpd)
        generalize upd H4 dF (.dT (putK kF (kk s) (.ref D))) = H5 at *
        have fF5 := FA.put (fF.map fun v b r => RF.ex r r5) (lookup_take (by rw [mapF_keys]; exact stocks_nodup p) hmF) (v := .ref D) ⟨D, rfl, hD5⟩
        have fL5 := fL.map fun v b r => RL.ex r r5
        refine ⟨_, rfl, _, rfl, x, tk, s, Rs.takings p, rfl, hsT.ex e5, htkB.ex mT e5, fun t ht => ?_, s3, Nat.le_trans (takings_le ok) (by decide), fun v H6 e6 hv => ?_⟩
        · rw [(RsP.mem_takings.1 ht).1, hS.1, ok.rooms.1]
        · have hL6 := e6 _ _ hL5
          have hF6 := e6 _ _ hF5
          refine ⟨_, rfl, _, rfl, dL, _, rfl, DPut.t (k := kk s) hL6 (by rw [kk_kV]; exact (hsT.ex e5).ex e6) (by rw [sizeLine_eq]; omega), ?_⟩
          have r6 : Ex (L2.del (L2.del H5 dF) dL) (L2.del (L2.del (upd H6 dL (.dT (putK kL (kk s) v))) dF) dL) := by
            refine Ex.trans (exDelMono (exDelMono e6)) fun a o ha => ?_
            by_cases h1 : a = dL
            · subst h1; simp [L2.del] at ha
            · by_cases h2 : a = dF
              · subst h2; simp [L2.del, h1] at ha
              · rw [del_ne h1, del_ne h2] at ha ⊢; rw [upd_ne h1]; exact ha
          have hv6 : RL (L2.del (L2.del (upd H6 dL (.dT (putK kL (kk s) v))) dF) dL) v (leftOf (Rs.takings p) s) := by
            refine RL.ex ((hv.del (off_dT hF6)).del (off_del (off_dT hL6) dLF)) fun a o ha => ?_
            by_cases h1 : a = dL
            · subst h1; simp [L2.del] at ha
            · by_cases h2 : a = dF
              · subst h2; simp [L2.del, h1] at ha
              · rw [del_ne h1, del_ne h2] at ha ⊢; rw [upd_ne h1]; exact ha
          refine ⟨_, _, _, _, _, _, _, rfl, Ex.mut (e5.trans e6) nL, by rw [upd_ne dLF.symm]; exact hF6, upd_same, ?_, ?_⟩
          · rw [take_snoc hmF]
            exact fF5.map fun v b r => RF.ex r r6
          · rw [take_snoc hmL]
            exact FA.put (fL5.map fun v b r => RL.ex r r6) (lookup_take (by rw [mapL_keys]; exact stocks_nodup p) hmL) hv6
    · rintro σ H1 ⟨u4, u5, u6, u7, u8, kF, kL, rfl, e, hF, hL, fF, fL⟩
      have tF : (mapF p).take (Rs.stocksOf p).length = mapF p := List.take_of_length_le (by unfold mapF; rw [List.length_map]; exact Nat.le_refl _)
      have tL : (mapL p).take (Rs.stocksOf p).length = mapL p := List.take_of_length_le (by unfold mapL; rw [List.length_map]; exact Nat.le_refl _)
      rw [tF] at fF
      rw [tL] at fL
      have fF := fF.map fun v b r => RF.ex r (exDelSelf.trans exDelSelf)
      have fL := fL.map fun v b r => RL.ex r (exDelSelf.trans exDelSelf)
      have eH : Ex H H1 := e0.trans (eB.trans e)
      simp only [ tNil, tCons, tC, tDrop, tOp, rI0, tCB, rEq, rNe, tNext, tRet, tRetN, tSeq, tAsg, tAug, tTest, tIfS, tIf, tNot, tAnd, tOr, tBM, tBM0, tCall, tTup, tTupZ, tLst, tFld, sFld, tMeth, tMake, tB, tYes, tCmp, t2I, tIsN, tNotN, tDGet, tDGet1, tDGet2, tDIn, tDNotIn, tAndV, tOrV, tNotV, tDNewT, sDPut, tSl, tPart, tNoPart, rSlL, tThen, tCntZ, tFgt, tChain, gCons, gNil, gTup, rCatZ, rCatA, rCat, rAppend, rExtend, rIn, rInD, rNotInD, rEqD, rNeD, rIxL, rIxT, tSub, tAdd, tBreak, tCont, tPar, rSum, rSumT, rMaxT, tyV, L2.start, List.map_cons, List.map_nil, List.length_cons, List.length_nil, List.cons_append, List.nil_append, List.append_nil, List.replicate, Nat.reduceAdd, Nat.reduceSub, wipe, List.set_cons_zero, List.set_cons_succ, nox_K, cxOf_K, blk_K, suite_K, tVar_0, tVar_1, tVar_2, tVar_3, tVar_4, tVar_5, tVar_6, tVar_7, tVar_8, tVar_9, tVar_10, tVar_11, tVar_12, tVar_13, tVar_14, tVar_15, gName_0, gName_1, gName_2, gName_3, gName_4, gName_5, gName_6, gName_7, gName_8, gName_9, gName_10, gName_11, gName_12, gName_13, gName_14, gName_15, and_assoc, exists_eq_left', exists_eq_left, exists_eq, exists_eq', exists_and_left, exists_const, and_true, true_and, V.int.injEq, V.ref.injEq, V.bl.injEq, V.str.injEq, List.cons.injEq, and_self, scal, Bool.false_eq_true, if_false, if_true, reduceCtorEq, false_and, and_false, false_or, or_false, ↓reduceIte]
      intro dD hD1
      have nFD : dF ≠ dD := ne_of_none hF hD1
      have nLD : dL ≠ dD := ne_of_none hL hD1
      have ndF : ((mapF p).map (·.1)).Nodup := by rw [mapF_keys]; exact stocks_nodup p
      have ndL : ((mapL p).map (·.1)).Nodup := by rw [mapL_keys]; exact stocks_nodup p
      have szF : (mapF p).length ≤ 1000 := by unfold mapF; rw [List.length_map]; exact Nat.le_trans (bound_le ok) (by decide)
      have szL : (mapL p).length ≤ 1000 := by unfold mapL; rw [List.length_map]; exact Nat.le_trans (bound_le ok) (by decide)
      have eD : Ex H1 (upd H1 dD (.dT [])) := Ex.new hD1
      refine ⟨dF, dL, dD, kF, kL, [], mapF p, mapL p, rfl, eD _ _ hF, eD _ _ hL, upd_same, dLF.symm, nFD, nLD, fF.map fun v b r => RF.ex r eD, fL.map fun v b r => RL.ex r eD, ndF, ndL, szF, szL, fun r0 H2 e2 hr0 => ?_⟩
      rw [new_eq (MD.start p)] at hr0
      refine while_by (fun σ H' => ∃ (n : Nat) (u4 u8 : Option V) (r : Addr) (kD : List (List Key × V)), σ = [some (.ref a), some (.ref tk), some (.ref dF), some (.ref dL), u4, some (.ref dD), some (.int ((n + 1 : Nat) : Int)), some (.ref r), u8] ∧ Ex H1 H' ∧ H' dD = some (.dT kD) ∧ MD kD p n ∧ kD.length + (Rs.kept p n).length ≤ 125 ∧ (Rs.kept p n).length + n ≤ 125 ∧ LO T H' r (freshOf p n))
        (fun σ _ => muV σ 6) ⟨0, _, _, _, _, rfl, eD.trans e2, e2 _ _ upd_same, MD.start p, by have := bound_le ok; simp only [List.length_nil, Nat.zero_add]; exact this, bound_le ok, hr0⟩ ?_ ?_
      · rintro σ H' ⟨n, u4, u8, r, kD, rfl, e', hD', hmd, sz1, sz2, as, hr'⟩
        have flen := fresh_len p n
        simp only [ tNil, tCons, tC, tDrop, tOp, rI0, tCB, rEq, rNe, tNext, tRet, tRetN, tSeq, tAsg, tAug, tTest, tIfS, tIf, tNot, tAnd, tOr, tBM, tBM0, tCall, tTup, tTupZ, tLst, tFld, sFld, tMeth, tMake, tB, tYes, tCmp, t2I, tIsN, tNotN, tDGet, tDGet1, tDGet2, tDIn, tDNotIn, tAndV, tOrV, tNotV, tDNewT, sDPut, tSl, tPart, tNoPart, rSlL, tThen, tCntZ, tFgt, tChain, gCons, gNil, gTup, rCatZ, rCatA, rCat, rAppend, rExtend, rIn, rInD, rNotInD, rEqD, rNeD, rIxL, rIxT, tSub, tAdd, tBreak, tCont, tPar, rSum, rSumT, rMaxT, tyV, L2.start, List.map_cons, List.map_nil, List.length_cons, List.length_nil, List.cons_append, List.nil_append, List.append_nil, List.replicate, Nat.reduceAdd, Nat.reduceSub, wipe, List.set_cons_zero, List.set_cons_succ, nox_K, cxOf_K, blk_K, suite_K, tVar_0, tVar_1, tVar_2, tVar_3, tVar_4, tVar_5, tVar_6, tVar_7, tVar_8, tVar_9, tVar_10, tVar_11, tVar_12, tVar_13, tVar_14, tVar_15, gName_0, gName_1, gName_2, gName_3, gName_4, gName_5, gName_6, gName_7, gName_8, gName_9, gName_10, gName_11, gName_12, gName_13, gName_14, gName_15, and_assoc, exists_eq_left', exists_eq_left, exists_eq, exists_eq', exists_and_left, exists_const, and_true, true_and, V.int.injEq, V.ref.injEq, V.bl.injEq, V.str.injEq, List.cons.injEq, and_self, scal, Bool.false_eq_true, if_false, if_true, reduceCtorEq, false_and, and_false, false_or, or_false, ↓reduceIte]
        refine ⟨_, .inl (LA.sq hr'), ?_⟩
        rw [LA.len hr']
        refine ite2 (fun g => ?_) (fun g => ?_)
        · have g : 0 < (freshOf p n).length := by simpa using g
          have hrB : LA T (L2.del H' dD) r as (freshOf p n) := LA.del hr' (off_dT hD')
          have eB3 : Ex H1 (L2.del H' dD) := exDel e' hD1
          have nB3 : (L2.del H' dD) dD = none := by simp [L2.del]
          have eB4 : Ex (L2.del H' dD) H' := exDelSelf
          generalize L2.del H' dD = B3 at *
          refine ⟨_, rfl, r, rfl, ⟨_, LA.sq hr'⟩, for_la (R := T) (as := as) (xs := freshOf p n) (fun j σ H4 => ∃ u4 kj, σ = [some (.ref a), some (.ref tk), some (.ref dF), some (.ref dL), u4, some (.ref dD), some (.int ((n + 1 : Nat) : Int)), some (.ref r), u8] ∧ Ex B3 H4 ∧ H4 dD = some (.dT kj) ∧ kj.length ≤ kD.length + j ∧ ∀ s, FsLaw.IsStock p s → got kj s = if ((freshOf p n).take j).contains s then some (.int ((n + 1 : Nat) : Int)) else got kD s) ⟨_, kD, rfl, eB4, hD', Nat.le_refl _, fun s _ => rfl⟩ ?_ ?_ ?_⟩
          · rintro j σ H4 ⟨_, _, _, e4, _⟩
            exact LA.ex hrB mT e4
          · rintro j x s σ H4 hs _ hsT ⟨u4, kj, rfl, e4, hD4, hlen, hgot⟩
            have hj : j < (freshOf p n).length := (List.getElem?_eq_some_iff.1 hs).1
            simp only [ tNil, tCons, tC, tDrop, tOp, rI0, tCB, rEq, rNe, tNext, tRet, tRetN, tSeq, tAsg, tAug, tTest, tIfS, tIf, tNot, tAnd, tOr, tBM, tBM0, tCall, tTup, tTupZ, tLst, tFld, sFld, tMeth, tMake, tB, tYes, tCmp, t2I, tIsN, tNotN, tDGet, tDGet1, tDGet2, tDIn, tDNotIn, tAndV, tOrV, tNotV, tDNewT, sDPut, tSl, tPart, tNoPart, rSlL, tThen, tCntZ, tFgt, tChain, gCons, gNil, gTup, rCatZ, rCatA, rCat, rAppend, rExtend, rIn, rInD, rNotInD, rEqD, rNeD, rIxL, rIxT, tSub, tAdd, tBreak, tCont, tPar, rSum, rSumT, rMaxT, tyV, L2.start, List.map_cons, List.map_nil, List.length_cons, List.length_nil, List.cons_append, List.nil_append, List.append_nil, List.replicate, Nat.reduceAdd, Nat.reduceSub, wipe, List.set_cons_zero, List.set_cons_succ, nox_K, cxOf_K, blk_K, suite_K, tVar_0, tVar_1, tVar_2, tVar_3, tVar_4, tVar_5, tVar_6, tVar_7, tVar_8, tVar_9, tVar_10, tVar_11, tVar_12, tVar_13, tVar_14, tVar_15, gName_0, gName_1, gName_2, gName_3, gName_4, gName_5, gName_6, gName_7, gName_8, gName_9, gName_10, gName_11, gName_12, gName_13, gName_14, gName_15, and_assoc, exists_eq_left', exists_eq_left, exists_eq, exists_eq', exists_and_left, exists_const, and_true, true_and, V.int.injEq, V.ref.injEq, V.bl.injEq, V.str.injEq, List.cons.injEq, and_self, scal, Bool.false_eq_true, if_false, if_true, reduceCtorEq, false_and, and_false, false_or, or_false, ↓reduceIte]
            refine ⟨_, DPut.t (k := kk s) hD4 (by rw [kk_kV]; exact hsT) (by rw [sizeLine_eq]; omega), Ex.mut e4 nB3, _, upd_same, Nat.le_trans (length_putK ..) (by omega), fun s' hs' => ?_⟩
            show valV _ _ = _
            rw [valV_put, take_snoc hs]
            by_cases h : s' = s
            · subst h; simp
            · rw [if_neg fun q => h (kk_inj q)]
              have := hgot s' hs'
              simp only [List.contains_eq_mem, List.mem_append, List.mem_singleton, h, or_false] at this ⊢
              exact this
          · rintro σ H4 ⟨u4, kj, rfl, e4, hD4, hlen, hgot⟩
            rw [List.take_length] at hgot
            simp only [ tNil, tCons, tC, tDrop, tOp, rI0, tCB, rEq, rNe, tNext, tRet, tRetN, tSeq, tAsg, tAug, tTest, tIfS, tIf, tNot, tAnd, tOr, tBM, tBM0, tCall, tTup, tTupZ, tLst, tFld, sFld, tMeth, tMake, tB, tYes, tCmp, t2I, tIsN, tNotN, tDGet, tDGet1, tDGet2, tDIn, tDNotIn, tAndV, tOrV, tNotV, tDNewT, sDPut, tSl, tPart, tNoPart, rSlL, tThen, tCntZ, tFgt, tChain, gCons, gNil, gTup, rCatZ, rCatA, rCat, rAppend, rExtend, rIn, rInD, rNotInD, rEqD, rNeD, rIxL, rIxT, tSub, tAdd, tBreak, tCont, tPar, rSum, rSumT, rMaxT, tyV, L2.start, List.map_cons, List.map_nil, List.length_cons, List.length_nil, List.cons_append, List.nil_append, List.append_nil, List.replicate, Nat.reduceAdd, Nat.reduceSub, wipe, List.set_cons_zero, List.set_cons_succ, nox_K, cxOf_K, blk_K, suite_K, tVar_0, tVar_1, tVar_2, tVar_3, tVar_4, tVar_5, tVar_6, tVar_7, tVar_8, tVar_9, tVar_10, tVar_11, tVar_12, tVar_13, tVar_14, tVar_15, gName_0, gName_1, gName_2, gName_3, gName_4, gName_5, gName_6, gName_7, gName_8, gName_9, gName_10, gName_11, gName_12, gName_13, gName_14, gName_15, and_assoc, exists_eq_left', exists_eq_left, exists_eq, exists_eq', exists_and_left, exists_const, and_true, true_and, V.int.injEq, V.ref.injEq, V.bl.injEq, V.str.injEq, List.cons.injEq, and_self, scal, Bool.false_eq_true, if_false, if_true, reduceCtorEq, false_and, and_false, false_or, or_false, ↓reduceIte]
            have e5 := eB3.trans e4
            have hmd2 : MD kj p (n + 1) := hmd.succ hgot
            refine ⟨dF, dL, dD, kF, kL, kj, mapF p, mapL p, rfl, e5 _ _ hF, e5 _ _ hL, hD4, dLF.symm, nFD, nLD, fF.map fun v b r => RF.ex r e5, fL.map fun v b r => RL.ex r e5, ndF, ndL, szF, szL, fun r5 H5 e6 hr5 => ?_⟩
            rw [new_eq hmd2] at hr5
            have flen2 := fresh_len p (n + 1)
            refine ⟨⟨n + 1, rfl, _, r5, rfl, rfl, e5.trans e6, kj, e6 _ _ hD4, hmd2, by omega, by omega, hr5⟩, ?_⟩
            show (200 - (((n + 1 : Nat) : Int) + 1)).toNat < (200 - ((n + 1 : Nat) : Int)).toNat
            have : 0 < (Rs.kept p n).length := by omega
            omega
        · have g : (freshOf p n).length = 0 := by simpa using g
          have fix : Rs.shrink p (Rs.kept p n) = Rs.kept p n := RsP.shrink_fix (by show (Rs.kept p (n + 1)).length = _; omega)
          exact q _ _ (eH.trans e') ⟨kD, hD', fun s hs => by rw [doom_dm fix]; exact hmd s hs⟩
      · intro σ H Q Q' hQ h
        obtain ⟨v, h1, p, e1, x, h2, i, j, e3, e4, k, e5, h6⟩ := h
        exact ⟨v, h1, p, e1, x, h2, i, j, e3, e4, k, e5, hQ _ _ h6⟩
end
end Fs
set_option Elab.async false
set_option linter.all false
set_option maxRecDepth 100000
set_option maxHeartbeats 4000000
namespace Fs
open PySem PySem.Spec PyProof.Rows L2 FsX
open Evl (Ex Ex.refl Ex.trans Ex.new Ex.mut fresh_back)
theorem da_mk {kD : List (List Key × V)} {p : Rs.Shop} (h : ∀ s, FsLaw.IsStock p s → got kD s = (Rs.doomOf p s).map fun (j : Nat) => V.int j) {s : List Nat} (hs : FsLaw.IsStock p s) : mk? kD s = !(Rs.safeStocks p).contains s := by
  show (got kD s).isSome = _
  rw [h s hs, Option.isSome_map]
  obtain ⟨m, e, hm, hf⟩ := RsP.safe_kept p
  rw [doom_dm hf, dm_some, e]
/-- a stock, or None -/
def RO (H : Hp) (v : V) (x : Option (List Nat)) : Prop := (x = none ∧ v = .non) ∨ ∃ l s, x = some s ∧ v = .ref l ∧ T H l s
section
variable {P : Program} {w : World} {K : PySem.W.Frag} {mg : Str → Option Value} {base : Heap}
def spHolds (K : PySem.W.Frag) : Sp := fun vs H Q _ => ∃ (a d b : Addr) (p : Rs.Shop) (s : List Nat), vs = [.ref a, .ref d, .ref b] ∧ ShopAt (SH K) H a p ∧ DA H d p ∧ T H b s ∧ FsLaw.IsStock p s ∧ ∀ H', Ex H H' → Q (.bl (Rs.staysIn p (Rs.safeStocks p) s)) H'
theorem stock3 {p : Rs.Shop} (ok : Ok p) {s : List Nat} (hS : FsLaw.IsStock p s) : s.length ≤ 3 := by rw [hS.1, ok.rooms.1]; exact ok.n3
theorem take_len {p : Rs.Shop} (ok : Ok p) {s t : List Nat} (hS : FsLaw.IsStock p s) (ht : t ∈ Rs.takings p) : t.length = s.length := by rw [(RsP.mem_takings.1 ht).1, hS.1, ok.rooms.1]
theorem k_holds (z : Z K mg) : Kp P w K mg base CX0 4 (He.ga K "holds") ["shop", "doomed", "stock"] (spHolds K) := by
  have nd := sc_holds.nd
  refine kp0 (f_holds z) sc_holds (fun vs H Q E h => ?_) fun cdv A outer s H vs Q E hr h => ⟨_,
    (pss_one (ps_ret ((Kp.call ((k_firm z)) (Room.mono (hr) (by decide)) (by rfl) ((g_is_firm z)) pass0 ((pa_cons ((Kp.call ((k_left z)) (Room.mono (hr) (by decide)) (by rfl) ((g_stocks_left z)) pass0 ((pa_cons (pv 2) (pa_cons ((Kp.call ((k_takings z)) (Room.mono (hr) (by decide)) (by rfl) ((g_takings_of z)) pass0 ((pa_cons (pv 0) pa_nil)))) pa_nil))))) (pa_cons (pv 1) pa_nil))))))), ?_⟩
  · obtain ⟨_, _, _, _, _, rfl, _⟩ := h; rfl
  · obtain ⟨a, d, b, p, s, rfl, hp, ⟨kD, hd, hgot⟩, hb, hS, q⟩ := h
    have ok := hp.1
    refine ⟨_, rfl, _, rfl, a, p, rfl, hp, fun tk H1 e1 htk => ?_⟩
    refine ⟨b, tk, s, Rs.takings p, rfl, hb.ex e1, htk, fun t ht => take_len ok hS ht, stock3 ok hS, Nat.le_trans (takings_le ok) (by decide), fun v H2 e2 hv => ?_⟩
    refine ⟨_, rfl, d, v, kD, _, rfl, .inl (e2 _ _ (e1 _ _ hd)), hv, fun H3 e3 => ?_⟩
    rw [firm_stays (fun s hs => da_mk hgot hs) hS]
    exact q _ ((e1.trans e2).trans e3)
/-! sorted by sums -/
def decT (H : Hp) (a : Addr) : List Nat := match H a with
  | some (.tup vs) => vs.map fun v => match v with | .int i => i.toNat | _ => 0
  | _ => []
theorem dec_of {H : Hp} {a : Addr} {s : List Nat} (h : T H a s) : decT H a = s := by
  unfold decT
  rw [h.tup]
  show (nv s).map _ = s
  unfold nv
  rw [List.map_map]
  exact (List.map_congr_left (g := id) fun _ _ => rfl).trans (List.map_id _)
theorem paired_map {α β : Type} {F : α → β → Prop} (f : α → β) : ∀ {l : List α}, (∀ a, a ∈ l → F a (f a)) → Paired F l (l.map f)
  | [], _ => .nil
  | a :: l, h => .cons (h a (List.mem_cons_self ..)) (paired_map f fun b hb => h b (List.mem_cons_of_mem _ hb))
theorem paired_dec {H : Hp} : ∀ {as : List Addr} {xs : List (List Nat)}, Paired (T H) as xs → as.map (decT H) = xs
  | _, _, .nil => rfl
  | _, _, .cons h k => by rw [List.map_cons, dec_of h, paired_dec k]
theorem sort_la {H : Hp} {a q : Addr} {as : List Addr} {xs : List (List Nat)} (h : LA T H a as xs) {rs : List (Int × Addr)} (hp : rs.Perm ((as.zip (xs.map fun s => s.map Int.ofNat)).map fun t => (t.2.sum, t.1))) (hs : rs.Pairwise fun x y => x.1 ≤ y.1) (hf : ∀ c, rs.filter (fun x => x.1 == c) = ((as.zip (xs.map fun s => s.map Int.ofNat)).map fun t => (t.2.sum, t.1)).filter (fun x => x.1 == c)) (hq : H q = none) :
    ∃ ys : List (List Nat), LA T (upd H q (.lst (rs.map fun r => .ref r.2))) q (rs.map (·.2)) ys ∧ (ys.Pairwise fun x y => Rs.totalOf x ≤ Rs.totalOf y) ∧ (∀ s, s ∈ ys ↔ s ∈ xs) ∧ ∀ c, ys.filter (fun s => Rs.totalOf s == c) = xs.filter (fun s => Rs.totalOf s == c) := by
  have hz : ∀ {as : List Addr} {xs : List (List Nat)}, Paired (T H) as xs → (as.zip (xs.map fun s => s.map Int.ofNat)).map (fun t => (t.2.sum, t.1)) = as.map fun a => (((Rs.totalOf (decT H a) : Nat) : Int), a) := by
    intro as xs h
    induction h with
    | nil => rfl
    | cons h k ih =>
      simp only [List.map_cons, List.zip_cons_cons, ih]
      rw [dec_of h, sum_cast]; rfl
  rw [hz h.2] at hp
  have hm : ∀ r, r ∈ rs → r.1 = ((Rs.totalOf (decT H r.2) : Nat) : Int) ∧ T H r.2 (decT H r.2) ∧ decT H r.2 ∈ xs := by
    intro r hr
    obtain ⟨a, ha, rfl⟩ := List.mem_map.1 (hp.mem_iff.1 hr)
    obtain ⟨i, hi⟩ := List.mem_iff_getElem?.1 ha
    obtain ⟨s, h1, h2⟩ := paired_get h.2 hi
    show _ = _ ∧ T H a (decT H a) ∧ decT H a ∈ xs
    rw [dec_of h2]
    exact ⟨rfl, h2, List.mem_of_getElem? h1⟩
  have hback : rs = (rs.map (·.2)).map fun a => (((Rs.totalOf (decT H a) : Nat) : Int), a) := by
    rw [List.map_map]
    refine ((List.map_congr_left (g := id) fun r hr => ?_).trans (List.map_id _)).symm
    show ((Rs.totalOf (decT H r.2) : Int), r.2) = r
    rw [← (hm r hr).1]
  refine ⟨rs.map fun r => decT H r.2, ⟨?_, ?_⟩, ?_, fun s => ?_, fun c => ?_⟩
  · rw [upd_same, List.map_map]; rfl
  · rw [show (rs.map fun r => decT H r.2) = (rs.map (·.2)).map (decT H) from by rw [List.map_map]; rfl]
    refine paired_map (decT H) fun b hb => ?_
    obtain ⟨r, hr, rfl⟩ := List.mem_map.1 hb
    exact (hm r hr).2.1.ex (Ex.new hq)
  · rw [List.pairwise_map]
    refine hs.imp_of_mem fun {x y} hx hy hxy => ?_
    rw [(hm x hx).1, (hm y hy).1] at hxy
    exact Int.ofNat_le.1 hxy
  · constructor
    · intro hs
      obtain ⟨r, hr, rfl⟩ := List.mem_map.1 hs
      exact (hm r hr).2.2
    · intro hs
      obtain ⟨i, hi⟩ := List.mem_iff_getElem?.1 hs
      obtain ⟨b, h1, h2⟩ := paired_get2 h.2 hi
      exact List.mem_map.2 ⟨_, hp.mem_iff.2 (List.mem_map.2 ⟨b, List.mem_of_getElem? h1, rfl⟩), dec_of h2⟩
  · have := hf (c : Nat)
    rw [hz h.2] at this
    have e := congrArg (List.map fun r : Int × Addr => decT H r.2) this
    have e1 : (rs.map fun r => decT H r.2).filter (fun s => Rs.totalOf s == c) = (rs.filter fun x => x.1 == ((c : Nat) : Int)).map fun r => decT H r.2 := by
      rw [List.filter_map]
      congr 1
      refine List.filter_congr fun r hr => ?_
      rw [(hm r hr).1, Bool.eq_iff_iff]
      simp only [Function.comp, beq_iff_eq]
      exact Int.ofNat_inj.symm
    rw [e1, e, List.filter_map, List.map_map]
    conv => rhs; rw [← paired_dec h.2, List.filter_map]
    congr 1
    refine List.filter_congr fun r hr => ?_
    rw [Bool.eq_iff_iff]
    simp only [Function.comp, beq_iff_eq]
    exact Int.ofNat_inj
/-- a list by rising sums is its parts, sum by sum -/
theorem sorted_two {f : List Nat → Nat} (n : Nat) : ∀ l : List (List Nat), (l.Pairwise fun x y => f x ≤ f y) → (∀ s, s ∈ l → f s < n + 1) → l = l.filter (fun s => decide (f s < n)) ++ l.filter fun s => f s == n
  | [], _, _ => rfl
  | a :: l, h, hb => by
    obtain ⟨h1, h2⟩ := List.pairwise_cons.1 h
    have ih := sorted_two n l h2 fun s hs => hb s (List.mem_cons_of_mem _ hs)
    have ha := hb a (List.mem_cons_self ..)
    by_cases e : f a < n
    · rw [List.filter_cons_of_pos (by simpa using e), List.filter_cons_of_neg (by simp; omega), List.cons_append, ← ih]
    · have e1 : f a = n := by omega
      have e2 : l.filter (fun s => decide (f s < n)) = [] := List.filter_eq_nil_iff.2 fun s hs => by have := h1 s hs; simp; omega
      rw [List.filter_cons_of_neg (by simpa using Nat.not_lt.1 e), List.filter_cons_of_pos (by simpa using e1), e2, List.nil_append]
      rw [e2, List.nil_append] at ih
      rw [← ih]
theorem sorted_parts {f : List Nat → Nat} : ∀ (n : Nat) (l : List (List Nat)), (l.Pairwise fun x y => f x ≤ f y) → (∀ s, s ∈ l → f s < n) → l = (List.range n).flatMap fun k => l.filter fun s => f s == k
  | 0, l, _, hb => by
    cases l with
    | nil => rfl
    | cons a l => exact absurd (hb a (List.mem_cons_self ..)) (Nat.not_lt_zero _)
  | n + 1, l, h, hb => by
    rw [List.range_succ, List.flatMap_append, List.flatMap_singleton]
    conv => lhs; rw [sorted_two n l h hb]
    congr 1
    rw [sorted_parts n (l.filter fun s => decide (f s < n)) (h.filter _) fun s hs => by simpa using (List.mem_filter.1 hs).2]
    have : ∀ k, k ∈ List.range n → (l.filter fun s => decide (f s < n)).filter (fun s => f s == k) = l.filter fun s => f s == k := by
      intro k hk
      rw [List.mem_range] at hk
      rw [List.filter_filter]
      refine List.filter_congr fun s hs => ?_
      rw [Bool.eq_iff_iff]
      simp only [Bool.and_eq_true, beq_iff_eq, decide_eq_true_eq]
      omega
    have fc : ∀ ks : List Nat, (∀ k, k ∈ ks → (l.filter fun s => decide (f s < n)).filter (fun s => f s == k) = l.filter fun s => f s == k) → ks.flatMap (fun k => (l.filter fun s => decide (f s < n)).filter (fun s => f s == k)) = ks.flatMap fun k => l.filter fun s => f s == k := by
      intro ks
      induction ks with
      | nil => intro _; rfl
      | cons k ks ih => intro h; rw [List.flatMap_cons, List.flatMap_cons, h k (List.mem_cons_self ..), ih fun k hk => h k (List.mem_cons_of_mem _ hk)]
    exact fc _ this
theorem find_sorted {p : Rs.Shop} {s : List Nat} {ys : List (List Nat)} (h1 : ys.Pairwise fun x y => Rs.totalOf x ≤ Rs.totalOf y) (h2 : ∀ s', s' ∈ ys ↔ s' ∈ Rs.fillings p s) (h3 : ∀ c, ys.filter (fun s => Rs.totalOf s == c) = (Rs.fillings p s).filter (fun s => Rs.totalOf s == c)) : ys.find? (fun f => Rs.staysIn p (Rs.safeStocks p) (Rs.plus s f)) = Rs.fillingOf p s := by
  have hb : ∀ f, f ∈ ys → Rs.totalOf f < p.items + 1 := by
    intro f hf
    have := (List.mem_filter.1 ((h2 f).1 hf)).2
    simp only [Bool.and_eq_true, decide_eq_true_eq] at this
    omega
  rw [sorted_parts (p.items + 1) ys h1 hb, List.find?_flatMap]
  unfold Rs.fillingOf
  congr 1
  funext k
  rw [h3, List.find?_filter]
  congr 1
  funext f
  rw [Bool.eq_iff_iff]
  simp
end
end Fs
set_option Elab.async false
set_option linter.all false
set_option maxRecDepth 100000
set_option maxHeartbeats 4000000
namespace Fs
open PySem PySem.Spec PyProof.Rows L2 FsX
open Evl (Ex Ex.refl Ex.trans Ex.new Ex.mut fresh_back)
theorem find_take {α : Type} {q : α → Bool} {l : List α} {i : Nat} {x : α} (h : (l.take i).find? q = none) (hx : l[i]? = some x) : (l.take (i + 1)).find? q = if q x then some x else none := by
  rw [take_snoc hx, List.find?_append, h, List.find?_singleton]; rfl
theorem find_from {α : Type} {q : α → Bool} {l : List α} {i : Nat} {x : α} (h : (l.take i).find? q = none) (hx : l[i]? = some x) (hq : q x = true) : l.find? q = some x := by
  conv => lhs; rw [← List.take_append_drop (i + 1) l]
  rw [List.find?_append, find_take h hx, if_pos hq]; rfl
theorem zip_fst {H : Hp} : ∀ {as : List Addr} {xs : List (List Nat)}, Paired (T H) as xs → (as.zip (xs.map fun s => s.map Int.ofNat)).map (·.1) = as
  | _, _, .nil => rfl
  | _, _, .cons _ k => by rw [List.map_cons, List.zip_cons_cons, List.map_cons, zip_fst k]
theorem zip_tup {H : Hp} : ∀ {as : List Addr} {xs : List (List Nat)}, Paired (T H) as xs → ∀ t, t ∈ as.zip (xs.map fun s => s.map Int.ofNat) → H t.1 = some (.tup (t.2.map V.int))
  | _, _, .nil, t, h => by cases h
  | _, _, .cons r k, t, h => by
    rw [List.map_cons, List.zip_cons_cons] at h
    rcases List.mem_cons.1 h with rfl | h
    · rw [← nv_ints]; exact r
    · exact zip_tup k t h
def accA (p : Rs.Shop) (u : List Nat) (ts : List (List Nat)) : Option (Nat × List Nat) := (ts.map fun t => (Rs.dangerOf p u t).map fun n => (n, t)).foldl Rs.sooner none
theorem accA_snoc (p : Rs.Shop) (u : List Nat) (ts : List (List Nat)) (t : List Nat) : accA p u (ts ++ [t]) = Rs.sooner (accA p u ts) ((Rs.dangerOf p u t).map fun n => (n, t)) := by
  unfold accA; rw [List.map_append, List.foldl_append]; rfl
theorem doom_pos {p : Rs.Shop} {s : List Nat} {n : Nat} (h : FsLaw.IsStock p s) (e : Rs.doomOf p s = some n) : 1 ≤ n := by
  have := (RsP.doom_some h e).2.1
  cases n with
  | zero => exact absurd this (by simp [FsLaw.CanForce])
  | succ n => omega
theorem acc_pos {p : Rs.Shop} {u : List Nat} (hu : FsLaw.IsStock p u) : ∀ (n : Nat) (ts : List (List Nat)), ts.length = n → (∀ t, t ∈ ts → t ∈ Rs.takings p ∧ Rs.isBelow t u = true) → ∀ e, accA p u ts = some e → 1 ≤ e.1
  | 0, ts, h, _, e, he => by cases List.length_eq_zero_iff.1 h; cases he
  | n + 1, ts, h, hb, e, he => by
    obtain ⟨l, t, rfl⟩ : ∃ l t, ts = l ++ [t] := ⟨ts.dropLast, ts.getLast (by intro e; rw [e] at h; cases h), (List.dropLast_concat_getLast _).symm⟩
    rw [accA_snoc] at he
    have ih := acc_pos hu n l (by simpa using h) fun t ht => hb t (List.mem_append_left _ ht)
    obtain ⟨ht, hbt⟩ := hb t (by simp)
    unfold Rs.dangerOf at he
    rw [if_pos hbt] at he
    cases ha : accA p u l with
    | none =>
      rw [ha] at he
      cases hd : Rs.doomOf p (Rs.minus u t) with
      | none => rw [hd] at he; cases he
      | some m => rw [hd] at he; cases he; exact doom_pos (RsP.left_stock hu (RsP.mem_takings.1 ht)) hd
    | some a =>
      rw [ha] at he
      cases hd : Rs.doomOf p (Rs.minus u t) with
      | none => rw [hd] at he; cases he; exact ih _ ha
      | some m =>
        rw [hd] at he
        have : (if m < a.1 then some (m, t) else some a) = some e := he
        split at this
        · cases this; exact doom_pos (RsP.left_stock hu (RsP.mem_takings.1 ht)) hd
        · cases this; exact ih _ ha
theorem att_first {p : Rs.Shop} {u : List Nat} (hu : FsLaw.IsStock p u) {i : Nat} {t : List Nat} (h : ((Rs.takings p).take i).all (fun t => Rs.isBelow t u) = true) (ht : (Rs.takings p)[i]? = some t) (hb : Rs.isBelow t u = false) : Rs.attackOf p u = some t := by
  have e : Rs.attackOf p u = (accA p u (Rs.takings p)).map (·.2) := rfl
  have split : Rs.takings p = (Rs.takings p).take (i + 1) ++ (Rs.takings p).drop (i + 1) := (List.take_append_drop ..).symm
  have hd : Rs.dangerOf p u t = some 0 := by unfold Rs.dangerOf; rw [hb]; rfl
  have h1 : accA p u ((Rs.takings p).take (i + 1)) = some (0, t) := by
    rw [take_snoc ht, accA_snoc, hd]
    cases ha : accA p u ((Rs.takings p).take i) with
    | none => rfl
    | some a =>
      have := acc_pos hu _ _ rfl (fun t ht => ⟨List.mem_of_mem_take ht, List.all_eq_true.1 h t ht⟩) a ha
      show (if 0 < a.1 then some (0, t) else some a) = _
      rw [if_pos (by omega)]
  have h2 : ∀ l : List (Option (Nat × List Nat)), l.foldl Rs.sooner (some (0, t)) = some (0, t) := by
    intro l
    induction l with
    | nil => rfl
    | cons x l ih =>
      rw [List.foldl_cons]
      have : Rs.sooner (some (0, t)) x = some (0, t) := by
        cases x with
        | none => rfl
        | some b => show (if b.1 < 0 then some b else some (0, t)) = _; rw [if_neg (Nat.not_lt_zero _)]
      rw [this, ih]
  rw [e, split]
  unfold accA at h1 ⊢
  rw [List.map_append, List.foldl_append, h1, h2]; rfl
section
variable {P : Program} {w : World} {K : PySem.W.Frag} {mg : Str → Option Value} {base : Heap}
def spFirstF (K : PySem.W.Frag) : Sp := fun vs H Q _ => ∃ (a d b : Addr) (p : Rs.Shop) (s : List Nat), vs = [.ref a, .ref d, .ref b] ∧ ShopAt (SH K) H a p ∧ DA H d p ∧ T H b s ∧ FsLaw.IsStock p s ∧ ∀ v H', Ex H H' → RO H' v (Rs.fillingOf p s) → Q v H'
theorem k_first_filling (z : Z K mg) : Kp P w K mg base CX0 5 (He.ga K "first_filling") ["shop", "doomed", "stock"] (spFirstF K) := by
  have nd := sc_first_filling.nd
  refine kp0 (f_first_filling z) sc_first_filling (fun vs H Q E h => ?_) fun cdv A outer s H vs Q E hr h => ⟨_,
    (pss_cons ((ps_for PassesOwn.never rfl ((pi_list (pe_sortsum rfl (by rfl) (b_sorted z) (by rfl) (b_sum z) ((Kp.call ((k_fillings z)) (Room.mono (hr) (by decide)) (by rfl) ((g_fillings_of z)) pass0 ((pa_cons (pv 0) (pa_cons (pv 2) pa_nil)))))))) (((pg_name (i := 3) nd rfl (by first | exact Or.inl rfl | exact Or.inr rfl)))) ((pss_one (ps_if (pt_val ((Kp.call ((k_holds z)) (Room.mono (hr) (by decide)) (by rfl) ((g_holds z)) pass0 ((pa_cons (pv 0) (pa_cons (pv 1) (pa_cons ((Kp.call ((k_added z)) (Room.mono (hr) (by decide)) (by rfl) ((g_added z)) pass0 ((pa_cons (pv 2) (pa_cons (pv 3) pa_nil))))) pa_nil))))))) (pss_one (ps_ret (pv 3))) pss_nil))))) (pss_one (ps_ret pe_non))), ?_⟩
  · obtain ⟨_, _, _, _, _, rfl, _⟩ := h; rfl
  · obtain ⟨a, d, b, p, s, rfl, hp, hd, hb, hS, q⟩ := h
    have ok := hp.1
    refine ⟨_, rfl, _, rfl, a, b, p, s, rfl, hp, hb, RsP.isBelow_iff.2 hS, fun r H1 e1 hr1 => ?_⟩
    obtain ⟨as, hr1⟩ := hr1
    refine ⟨r, as.zip ((Rs.fillings p s).map fun s => s.map Int.ofNat), rfl, ?_, fun t ht => ?_, fun q' rs hp1 hs1 hf1 hq' => ?_⟩
    · rw [show ((as.zip ((Rs.fillings p s).map fun s => s.map Int.ofNat)).map fun t => V.ref t.1) = as.map V.ref from by rw [← zip_fst hr1.2, List.map_map]; rw [zip_fst hr1.2]; rfl]
      exact LA.sq hr1
    · exact zip_tup hr1.2 t ht
    · obtain ⟨ys, h1, h2, h3, h4⟩ := sort_la hr1 hp1 hs1 hf1 hq'
      have fs := find_sorted h2 h3 h4
      have e2 : Ex H (upd H1 q' (.lst (rs.map fun r => .ref r.2))) := e1.trans (Ex.new hq')
      generalize upd H1 q' (.lst (rs.map fun r => .ref r.2)) = H2 at *
      refine ⟨q', rfl, ⟨_, LA.sq h1⟩, for_la (R := T) (as := rs.map (·.2)) (xs := ys) (fun i σ H3 => ∃ u, σ = [some (.ref a), some (.ref d), some (.ref b), u] ∧ Ex H2 H3 ∧ (ys.take i).find? (fun f => Rs.staysIn p (Rs.safeStocks p) (Rs.plus s f)) = none) ⟨_, rfl, Ex.refl _, rfl⟩ ?_ ?_ ?_⟩
      · rintro i σ H3 ⟨u, _, e3, _⟩
        exact LA.ex h1 mT e3
      · rintro i x f σ H3 hf hx hfT ⟨u, rfl, e3, hn⟩
        have hff := (RsP.mem_fillings hS).1 ((h3 f).1 (List.mem_of_getElem? hf))
        simp only [ tNil, tCons, tC, tDrop, tOp, rI0, tCB, rEq, rNe, tNext, tRet, tRetN, tSeq, tAsg, tAug, tTest, tIfS, tIf, tNot, tAnd, tOr, tBM, tBM0, tCall, tTup, tTupZ, tLst, tFld, sFld, tMeth, tMake, tB, tYes, tCmp, t2I, tIsN, tNotN, tDGet, tDGet1, tDGet2, tDIn, tDNotIn, tAndV, tOrV, tNotV, tDNewT, sDPut, tSl, tPart, tNoPart, rSlL, tThen, tCntZ, tFgt, tChain, gCons, gNil, gTup, rCatZ, rCatA, rCat, rAppend, rExtend, rIn, rInD, rNotInD, rEqD, rNeD, rIxL, rIxT, tSub, tAdd, tBreak, tCont, tPar, rSum, rSumT, rMaxT, tyV, L2.start, List.map_cons, List.map_nil, List.length_cons, List.length_nil, List.cons_append, List.nil_append, List.append_nil, List.replicate, Nat.reduceAdd, Nat.reduceSub, wipe, List.set_cons_zero, List.set_cons_succ, nox_K, cxOf_K, blk_K, suite_K, tVar_0, tVar_1, tVar_2, tVar_3, tVar_4, tVar_5, tVar_6, tVar_7, tVar_8, tVar_9, tVar_10, tVar_11, tVar_12, tVar_13, tVar_14, tVar_15, gName_0, gName_1, gName_2, gName_3, gName_4, gName_5, gName_6, gName_7, gName_8, gName_9, gName_10, gName_11, gName_12, gName_13, gName_14, gName_15, and_assoc, exists_eq_left', exists_eq_left, exists_eq, exists_eq', exists_and_left, exists_const, and_true, true_and, V.int.injEq, V.ref.injEq, V.bl.injEq, V.str.injEq, List.cons.injEq, and_self, scal, Bool.false_eq_true, if_false, if_true, reduceCtorEq, false_and, and_false, false_or, or_false, ↓reduceIte]
        have e := e2.trans e3
        refine ⟨b, x, s, f, rfl, hb.ex e, hfT, hff.1.symm, stock3 ok hS, fun r4 H4 e4 hr4 => ?_⟩
        refine ⟨a, d, r4, p, Rs.plus s f, rfl, mShop _ _ _ _ (e.trans e4) hp, mDA _ _ _ _ (e.trans e4) hd, hr4, RsP.filled_stock hff, fun H5 e5 => ⟨_, rfl, ?_⟩⟩
        refine ite2 (fun g => ?_) (fun g => ?_)
        · refine q _ _ (e.trans (e4.trans e5)) (.inr ⟨x, f, ?_, rfl, hfT.ex (e4.trans e5)⟩)
          rw [← fs]
          exact find_from hn hf g
        · exact ⟨e3.trans (e4.trans e5), by rw [find_take hn hf, if_neg g]⟩
      · rintro σ H3 ⟨u, rfl, e3, hn⟩
        rw [List.take_length, fs] at hn
        exact q _ _ (e2.trans e3) (.inl ⟨hn, rfl⟩)
def spAttack (K : PySem.W.Frag) : Sp := fun vs H Q _ => ∃ (a d b : Addr) (p : Rs.Shop) (s : List Nat), vs = [.ref a, .ref d, .ref b] ∧ ShopAt (SH K) H a p ∧ DA H d p ∧ T H b s ∧ FsLaw.IsStock p s ∧ ∀ v H', Ex H H' → RO H' v (Rs.attackOf p s) → Q v H'
/-- what was found so far -/
def RA (H : Hp) (v w : V) (x : Option (Nat × List Nat)) : Prop := (x = none ∧ v = .non ∧ w = .int 0) ∨ ∃ l n t, x = some (n, t) ∧ v = .ref l ∧ w = .int (n : Nat) ∧ T H l t
theorem RA.ex {H H' : Hp} {v w : V} {x : Option (Nat × List Nat)} (h : RA H v w x) (e : Ex H H') : RA H' v w x := by
  rcases h with h | ⟨l, n, t, h1, h2, h3, h4⟩
  · exact .inl h
  · exact .inr ⟨l, n, t, h1, h2, h3, h4.ex e⟩
theorem k_attack (z : Z K mg) : Kp P w K mg base CX0 4 (He.ga K "first_attack") ["shop", "doomed", "stock"] (spAttack K) := by
  have nd := sc_first_attack.nd
  refine kp0 (f_first_attack z) sc_first_attack (fun vs H Q E h => ?_) fun cdv A outer s H vs Q E hr h => ⟨_,
    (pss_cons ((ps_set (i := 3) nd rfl (by first | exact Or.inl rfl | exact Or.inr rfl) (((Kp.call ((k_takings z)) (Room.mono (hr) (by decide)) (by rfl) ((g_takings_of z)) pass0 ((pa_cons (pv 0) pa_nil))))))) (pss_cons ((ps_for PassesOwn.never rfl ((pi_list (pv 3))) (((pg_name (i := 4) nd rfl (by first | exact Or.inl rfl | exact Or.inr rfl)))) ((pss_one (ps_if (pt_not (pt_val ((Kp.call ((k_is_below z)) (Room.mono (hr) (by decide)) (by rfl) ((g_is_below z)) pass0 ((pa_cons (pv 4) (pa_cons (pv 2) pa_nil))))))) (pss_one (ps_ret (pv 4))) pss_nil))))) (pss_cons ((ps_set (i := 5) nd rfl (by first | exact Or.inl rfl | exact Or.inr rfl) (pe_non))) (pss_cons ((ps_set (i := 6) nd rfl (by first | exact Or.inl rfl | exact Or.inr rfl) (pe_int))) (pss_cons ((ps_for PassesOwn.never rfl ((pi_list (pv 3))) (((pg_name (i := 4) nd rfl (by first | exact Or.inl rfl | exact Or.inr rfl)))) ((pss_cons ((ps_set (i := 7) nd rfl (by first | exact Or.inl rfl | exact Or.inr rfl) ((pe_dget2 (hu_of hr) (pv 1) ((Kp.call ((k_taken z)) (Room.mono (hr) (by decide)) (by rfl) ((g_taken z)) pass0 ((pa_cons (pv 2) (pa_cons (pv 4) pa_nil))))) pe_int ⟨rfl, rfl, rfl, rfl⟩)))) (pss_one (ps_if (PW.pt (pw_and (pt_cmpR op_gt (pv 7) pe_int (nomark _)) (pw_and1 (PW.pt (pw_or (pt_cmp (pc_isN (pv 5))) (pw_or1 (pt_cmpR op_lt (pv 7) (pv 6) (nomark _)))))))) (pss_cons ((ps_set (i := 5) nd rfl (by first | exact Or.inl rfl | exact Or.inr rfl) ((pv 4)))) (pss_one ((ps_set (i := 6) nd rfl (by first | exact Or.inl rfl | exact Or.inr rfl) ((pv 7)))))) pss_nil)))))) (pss_one (ps_ret (pv 5)))))))), ?_⟩
  · obtain ⟨_, _, _, _, _, rfl, _⟩ := h; rfl
  · obtain ⟨a, d, b, p, s, rfl, hp, ⟨kD, hd, hgot⟩, hb, hS, q⟩ := h
    have ok := hp.1
    simp only [ tNil, tCons, tC, tDrop, tOp, rI0, tCB, rEq, rNe, tNext, tRet, tRetN, tSeq, tAsg, tAug, tTest, tIfS, tIf, tNot, tAnd, tOr, tBM, tBM0, tCall, tTup, tTupZ, tLst, tFld, sFld, tMeth, tMake, tB, tYes, tCmp, t2I, tIsN, tNotN, tDGet, tDGet1, tDGet2, tDIn, tDNotIn, tAndV, tOrV, tNotV, tDNewT, sDPut, tSl, tPart, tNoPart, rSlL, tThen, tCntZ, tFgt, tChain, gCons, gNil, gTup, rCatZ, rCatA, rCat, rAppend, rExtend, rIn, rInD, rNotInD, rEqD, rNeD, rIxL, rIxT, tSub, tAdd, tBreak, tCont, tPar, rSum, rSumT, rMaxT, tyV, L2.start, List.map_cons, List.map_nil, List.length_cons, List.length_nil, List.cons_append, List.nil_append, List.append_nil, List.replicate, Nat.reduceAdd, Nat.reduceSub, wipe, List.set_cons_zero, List.set_cons_succ, nox_K, cxOf_K, blk_K, suite_K, tVar_0, tVar_1, tVar_2, tVar_3, tVar_4, tVar_5, tVar_6, tVar_7, tVar_8, tVar_9, tVar_10, tVar_11, tVar_12, tVar_13, tVar_14, tVar_15, gName_0, gName_1, gName_2, gName_3, gName_4, gName_5, gName_6, gName_7, gName_8, gName_9, gName_10, gName_11, gName_12, gName_13, gName_14, gName_15, and_assoc, exists_eq_left', exists_eq_left, exists_eq, exists_eq', exists_and_left, exists_const, and_true, true_and, V.int.injEq, V.ref.injEq, V.bl.injEq, V.str.injEq, List.cons.injEq, and_self, scal, Bool.false_eq_true, if_false, if_true, reduceCtorEq, false_and, and_false, false_or, or_false, ↓reduceIte]
    refine ⟨a, p, rfl, hp, fun tk H1 e1 htk => ?_⟩
    obtain ⟨as, htk⟩ := htk
    refine ⟨_, rfl, tk, rfl, ⟨_, LA.sq htk⟩, for_la (R := T) (as := as) (xs := Rs.takings p) (fun i σ H2 => ∃ u, σ = [some (.ref a), some (.ref d), some (.ref b), some (.ref tk), u, none, none, none] ∧ Ex H1 H2 ∧ ((Rs.takings p).take i).all (fun t => Rs.isBelow t s) = true) ⟨_, rfl, Ex.refl _, rfl⟩ ?_ ?_ ?_⟩
    · rintro i σ H2 ⟨u, _, e2, _⟩
      exact LA.ex htk mT e2
    · rintro i x t σ H2 ht hx hT ⟨u, rfl, e2, hall⟩
      have hl := take_len ok hS (List.mem_of_getElem? ht)
      simp only [ tNil, tCons, tC, tDrop, tOp, rI0, tCB, rEq, rNe, tNext, tRet, tRetN, tSeq, tAsg, tAug, tTest, tIfS, tIf, tNot, tAnd, tOr, tBM, tBM0, tCall, tTup, tTupZ, tLst, tFld, sFld, tMeth, tMake, tB, tYes, tCmp, t2I, tIsN, tNotN, tDGet, tDGet1, tDGet2, tDIn, tDNotIn, tAndV, tOrV, tNotV, tDNewT, sDPut, tSl, tPart, tNoPart, rSlL, tThen, tCntZ, tFgt, tChain, gCons, gNil, gTup, rCatZ, rCatA, rCat, rAppend, rExtend, rIn, rInD, rNotInD, rEqD, rNeD, rIxL, rIxT, tSub, tAdd, tBreak, tCont, tPar, rSum, rSumT, rMaxT, tyV, L2.start, List.map_cons, List.map_nil, List.length_cons, List.length_nil, List.cons_append, List.nil_append, List.append_nil, List.replicate, Nat.reduceAdd, Nat.reduceSub, wipe, List.set_cons_zero, List.set_cons_succ, nox_K, cxOf_K, blk_K, suite_K, tVar_0, tVar_1, tVar_2, tVar_3, tVar_4, tVar_5, tVar_6, tVar_7, tVar_8, tVar_9, tVar_10, tVar_11, tVar_12, tVar_13, tVar_14, tVar_15, gName_0, gName_1, gName_2, gName_3, gName_4, gName_5, gName_6, gName_7, gName_8, gName_9, gName_10, gName_11, gName_12, gName_13, gName_14, gName_15, and_assoc, exists_eq_left', exists_eq_left, exists_eq, exists_eq', exists_and_left, exists_const, and_true, true_and, V.int.injEq, V.ref.injEq, V.bl.injEq, V.str.injEq, List.cons.injEq, and_self, scal, Bool.false_eq_true, if_false, if_true, reduceCtorEq, false_and, and_false, false_or, or_false, ↓reduceIte]
      refine ⟨x, b, t, s, rfl, hT, (hb.ex e1).ex e2, hl, fun H3 e3 => ⟨_, rfl, ?_⟩⟩
      cases hbe : Rs.isBelow t s with
      | false =>
        rw [if_pos (by decide)]
        exact q _ _ (e1.trans (e2.trans e3)) (.inr ⟨x, t, att_first hS hall ht hbe, rfl, hT.ex e3⟩)
      | true =>
        rw [if_neg (by decide)]
        exact ⟨e2.trans e3, by rw [all_take _ ht, hall, hbe]; rfl⟩
    · rintro σ H2 ⟨u, rfl, e2, hall⟩
      rw [List.take_length, List.all_eq_true] at hall
      refine ⟨_, rfl, tk, rfl, ⟨_, LA.sq (LA.ex htk mT e2)⟩, for_la (R := T) (as := as) (xs := Rs.takings p) (fun i σ H3 => ∃ u4 v5 v6 u7, σ = [some (.ref a), some (.ref d), some (.ref b), some (.ref tk), u4, some v5, some v6, u7] ∧ Ex H1 H3 ∧ RA H3 v5 v6 (accA p s ((Rs.takings p).take i))) ⟨_, .non, .int 0, _, rfl, e2, .inl ⟨rfl, rfl, rfl⟩⟩ ?_ ?_ ?_⟩
      · rintro i σ H3 ⟨_, _, _, _, _, e3, _⟩
        exact LA.ex htk mT e3
      · rintro i x t σ H3 ht hx hT ⟨u4, v5, v6, u7, rfl, e3, hra⟩
        have hmem := List.mem_of_getElem? ht
        have hbe := hall t hmem
        have e := e1.trans e3
        simp only [ tNil, tCons, tC, tDrop, tOp, rI0, tCB, rEq, rNe, tNext, tRet, tRetN, tSeq, tAsg, tAug, tTest, tIfS, tIf, tNot, tAnd, tOr, tBM, tBM0, tCall, tTup, tTupZ, tLst, tFld, sFld, tMeth, tMake, tB, tYes, tCmp, t2I, tIsN, tNotN, tDGet, tDGet1, tDGet2, tDIn, tDNotIn, tAndV, tOrV, tNotV, tDNewT, sDPut, tSl, tPart, tNoPart, rSlL, tThen, tCntZ, tFgt, tChain, gCons, gNil, gTup, rCatZ, rCatA, rCat, rAppend, rExtend, rIn, rInD, rNotInD, rEqD, rNeD, rIxL, rIxT, tSub, tAdd, tBreak, tCont, tPar, rSum, rSumT, rMaxT, tyV, L2.start, List.map_cons, List.map_nil, List.length_cons, List.length_nil, List.cons_append, List.nil_append, List.append_nil, List.replicate, Nat.reduceAdd, Nat.reduceSub, wipe, List.set_cons_zero, List.set_cons_succ, nox_K, cxOf_K, blk_K, suite_K, tVar_0, tVar_1, tVar_2, tVar_3, tVar_4, tVar_5, tVar_6, tVar_7, tVar_8, tVar_9, tVar_10, tVar_11, tVar_12, tVar_13, tVar_14, tVar_15, gName_0, gName_1, gName_2, gName_3, gName_4, gName_5, gName_6, gName_7, gName_8, gName_9, gName_10, gName_11, gName_12, gName_13, gName_14, gName_15, and_assoc, exists_eq_left', exists_eq_left, exists_eq, exists_eq', exists_and_left, exists_const, and_true, true_and, V.int.injEq, V.ref.injEq, V.bl.injEq, V.str.injEq, List.cons.injEq, and_self, scal, Bool.false_eq_true, if_false, if_true, reduceCtorEq, false_and, and_false, false_or, or_false, ↓reduceIte]
        refine ⟨.inr ⟨kD, .inl (e _ _ hd)⟩, b, x, s, t, rfl, hb.ex e, hT, hbe, stock3 ok hS, fun r H4 e4 hr4 => ?_⟩
        refine ⟨_, dget (.inl (e4 _ _ (e _ _ hd))) hr4, ?_⟩
        have hdm := hgot (Rs.minus s t) (RsP.left_stock hS (RsP.mem_takings.1 hmem))
        rw [hdm]
        have snoc : accA p s ((Rs.takings p).take (i + 1)) = Rs.sooner (accA p s ((Rs.takings p).take i)) ((Rs.doomOf p (Rs.minus s t)).map fun n => (n, t)) := by
          rw [take_snoc ht, accA_snoc]; unfold Rs.dangerOf; rw [if_pos hbe]
        cases hm : Rs.doomOf p (Rs.minus s t) with
        | none =>
          rw [hm] at snoc
          have keep : accA p s ((Rs.takings p).take (i + 1)) = accA p s ((Rs.takings p).take i) := by
            rw [snoc]; cases accA p s ((Rs.takings p).take i) <;> rfl
          refine ⟨0, rfl, ?_⟩
          rw [if_neg (by decide), keep]
          exact ⟨_, rfl, _, rfl, e3.trans e4, hra.ex e4⟩
        | some m =>
          rw [hm] at snoc
          have hpos := doom_pos (RsP.left_stock hS (RsP.mem_takings.1 hmem)) hm
          refine ⟨m, rfl, ?_⟩
          rw [if_pos (decide_eq_true (by omega))]
          rcases hra with ⟨h1, rfl, rfl⟩ | ⟨l, n, t', h1, rfl, rfl, h4⟩
          · rw [if_pos (by decide)]
            rw [h1] at snoc
            exact ⟨_, rfl, _, rfl, e3.trans e4, .inr ⟨x, m, t, snoc, rfl, rfl, hT.ex e4⟩⟩
          · rw [if_neg (by simp)]
            rw [h1] at snoc
            have snoc : accA p s ((Rs.takings p).take (i + 1)) = if m < n then some (m, t) else some (n, t') := snoc
            refine ⟨m, rfl, n, rfl, ite2 (fun g => ?_) (fun g => ?_)⟩
            · rw [if_pos (Int.ofNat_lt.1 (of_decide_eq_true g))] at snoc
              exact ⟨_, rfl, _, rfl, e3.trans e4, .inr ⟨x, m, t, snoc, rfl, rfl, hT.ex e4⟩⟩
            · rw [if_neg fun q => g (decide_eq_true (Int.ofNat_lt.2 q))] at snoc
              exact ⟨_, rfl, _, rfl, e3.trans e4, .inr ⟨l, n, t', snoc, rfl, rfl, h4.ex e4⟩⟩
      · rintro σ H3 ⟨u4, v5, v6, u7, rfl, e3, hra⟩
        rw [List.take_length] at hra
        refine ⟨_, rfl, q _ _ (e1.trans e3) ?_⟩
        have e : Rs.attackOf p s = (accA p s (Rs.takings p)).map (·.2) := rfl
        rw [e]
        rcases hra with ⟨h1, h2, h3⟩ | ⟨l, n, t, h1, h2, h3, h4⟩
        · rw [h1]; exact .inl ⟨rfl, h2⟩
        · rw [h1]; exact .inr ⟨l, t, rfl, h2, h4⟩
theorem ahead_asymm : ∀ {a b : List Nat}, FsLaw.Ahead a b → ¬ FsLaw.Ahead b a
  | x :: a, y :: b, h, k => by
    rcases h with h | ⟨h, h'⟩
    · rcases k with k | ⟨k, _⟩ <;> omega
    · rcases k with k | ⟨_, k'⟩
      · omega
      · exact ahead_asymm h' k'
theorem below_ahead : ∀ {a b : List Nat}, Rs.isBelow a b = true → a ≠ b → FsLaw.Ahead a b
  | [], [], _, h => absurd rfl h
  | x :: a, y :: b, h, n => by
    obtain ⟨h1, h2⟩ := Bool.and_eq_true_iff.1 h
    have h1 := of_decide_eq_true h1
    rcases Nat.lt_or_ge x y with k | k
    · exact .inl k
    · have e : x = y := by omega
      subst e
      exact .inr ⟨rfl, below_ahead h2 fun q => n (by rw [q])⟩
/-- a least stock -/
def isLeast (p : Rs.Shop) (s : List Nat) : Bool := (Rs.safeStocks p).contains s && (Rs.safeStocks p).all fun t => !Rs.isBelow t s || t == s
theorem least_filter (p : Rs.Shop) : Rs.leastOf p = (Rs.stocksOf p).filter (isLeast p) := by
  obtain ⟨m, e, _, _⟩ := RsP.safe_kept p
  unfold Rs.leastOf
  conv => lhs; arg 2; rw [e, kept_filter, ← e]
  rw [List.filter_filter]
  refine List.filter_congr fun s hs => ?_
  unfold isLeast
  rw [Bool.and_comm]
theorem least_step {p : Rs.Shop} {i : Nat} {s : List Nat} (hs : (Rs.stocksOf p)[i]? = some s) : isLeast p s = ((Rs.safeStocks p).contains s && decide ((((Rs.stocksOf p).take i).filter (isLeast p)).filter (fun t => Rs.isBelow t s) = [])) := by
  have sorted := RsP.stocks_sorted p
  have hS := RsP.mem_stocks.1 (List.mem_of_getElem? hs)
  rw [Bool.eq_iff_iff]
  simp only [Bool.and_eq_true, decide_eq_true_eq, List.filter_eq_nil_iff]
  unfold isLeast
  simp only [Bool.and_eq_true, List.contains_eq_mem, decide_eq_true_eq, List.all_eq_true]
  refine and_congr_right fun hsafe => ⟨fun h t ht hb => ?_, fun h t ht => ?_⟩
  · obtain ⟨ht1, ht2⟩ := List.mem_filter.1 ht
    simp only [Bool.and_eq_true, List.contains_eq_mem, decide_eq_true_eq] at ht2
    have := h t ht2.1
    rw [hb] at this
    have e : t = s := by simpa using this
    subst e
    obtain ⟨j, hj⟩ := List.mem_iff_getElem?.1 ht1
    rw [List.getElem?_take] at hj
    split at hj
    · rename_i hji
      obtain ⟨l1, e1⟩ := List.getElem?_eq_some_iff.1 hj
      obtain ⟨l2, e2⟩ := List.getElem?_eq_some_iff.1 hs
      have := List.pairwise_iff_getElem.1 sorted j i l1 l2 hji
      rw [e1, e2] at this
      exact RsP.ahead_irrefl this
    · cases hj
  · cases hb : Rs.isBelow t s with
    | false => rfl
    | true =>
      by_cases e : t = s
      · simp [e]
      · exfalso
        obtain ⟨t', ht', hbt⟩ := RsP.keep_least (Rs.totalOf t) (Nat.le_refl _) (RsP.keep_iff.2 ht)
        have hbs : FsLaw.Below t' s := RsP.below_trans hbt (RsP.isBelow_iff.1 hb)
        have ne : t' ≠ s := fun q => by
          subst q
          exact e (RsP.below_antisymm (RsP.isBelow_iff.1 hb) hbt)
        rw [least_filter] at ht'
        obtain ⟨ht1, ht2⟩ := List.mem_filter.1 ht'
        obtain ⟨j, hj⟩ := List.mem_iff_getElem?.1 ht1
        have hah := below_ahead (RsP.isBelow_iff.2 hbs) ne
        obtain ⟨l1, e1⟩ := List.getElem?_eq_some_iff.1 hj
        obtain ⟨l2, e2⟩ := List.getElem?_eq_some_iff.1 hs
        have hji : j < i := by
          rcases Nat.lt_trichotomy j i with k | k | k
          · exact k
          · subst k; rw [e1] at e2; exact absurd e2 ne
          · have := List.pairwise_iff_getElem.1 sorted i j l2 l1 k
            rw [e1, e2] at this
            exact absurd this (ahead_asymm hah)
        refine h t' (List.mem_filter.2 ⟨?_, ?_⟩) (RsP.isBelow_iff.2 hbs)
        · exact List.mem_of_getElem? (i := j) (by rw [List.getElem?_take, if_pos hji]; exact hj)
        · unfold isLeast at ht2
          rw [List.contains_eq_mem] at ht2
          exact ht2
def spLeast (K : PySem.W.Frag) : Sp := fun vs H Q _ => ∃ (a d : Addr) (p : Rs.Shop), vs = [.ref a, .ref d] ∧ ShopAt (SH K) H a p ∧ DA H d p ∧ ∀ r H', Ex H H' → LO T H' r (Rs.leastOf p) → Q (.ref r) H'
theorem k_least (z : Z K mg) : Kp P w K mg base CX0 4 (He.ga K "least_stocks") ["shop", "doomed"] (spLeast K) := by
  have nd := sc_least_stocks.nd
  refine kp0 (f_least_stocks z) sc_least_stocks (fun vs H Q E h => ?_) fun cdv A outer s H vs Q E hr h => ⟨_,
    (pss_cons ((ps_set (i := 2) nd rfl (by first | exact Or.inl rfl | exact Or.inr rfl) ((pe_lst pa_nil)))) (pss_cons ((ps_for PassesOwn.never rfl ((pi_list ((Kp.call ((k_stocks z)) (Room.mono (hr) (by decide)) (by rfl) ((g_stocks_of z)) pass0 ((pa_cons (pv 0) pa_nil)))))) (((pg_name (i := 3) nd rfl (by first | exact Or.inl rfl | exact Or.inr rfl)))) ((pss_cons (ps_setLc (i := 4) (own := [("other", 5)]) (g := gName 5) rfl nd rfl rfl (sw_true rfl rfl rfl (by decide +kernel)) (pi_list (pv 2)) (blkOk_by (N := ["shop", "doomed", "least", "stock", "lower", "other"]) (sc := defScope s_least_stocks) (by decide +kernel)) (fun _ _ _ _ _ => (pg_name (i := 5) nd rfl (Or.inl rfl))) (fun _ _ _ _ _ => pts_one (pt_val ((Kp.call ((k_is_below z)) (Room.mono (hr) (by decide)) (by rfl) ((g_is_below z)) pass0 ((pa_cons (pv 5) (pa_cons (pv 3) pa_nil))))))) (fun _ _ _ _ _ => pv 5)) (pss_one (ps_if (PW.pt (pw_and (pt_cmp (pc_dnotin (hu_of hr) (pv 3) (pv 1))) (pw_and1 (pt_cmpR op_eq ((pe_callB call_len_seq (by rfl) ((b_len z)) PySem.boot_len (pa_cons ((pv 4)) pa_nil))) pe_int (nomark _))))) (pss_one ((ps_expr (pe_bm PySem.F.plainAttrs_list PySem.F.slot_list_append PySem.F.type_list_append mt_append ((pv 2)) (pa_cons ((pv 3)) pa_nil))))) pss_nil)))))) (pss_one (ps_ret (pv 2))))), ?_⟩
  · obtain ⟨_, _, _, rfl, _⟩ := h; rfl
  · obtain ⟨a, d, p, rfl, hp, ⟨kD, hd, hgot⟩, q⟩ := h
    have ok := hp.1
    simp only [ tNil, tCons, tC, tDrop, tOp, rI0, tCB, rEq, rNe, tNext, tRet, tRetN, tSeq, tAsg, tAug, tTest, tIfS, tIf, tNot, tAnd, tOr, tBM, tBM0, tCall, tTup, tTupZ, tLst, tFld, sFld, tMeth, tMake, tB, tYes, tCmp, t2I, tIsN, tNotN, tDGet, tDGet1, tDGet2, tDIn, tDNotIn, tAndV, tOrV, tNotV, tDNewT, sDPut, tSl, tPart, tNoPart, rSlL, tThen, tCntZ, tFgt, tChain, gCons, gNil, gTup, rCatZ, rCatA, rCat, rAppend, rExtend, rIn, rInD, rNotInD, rEqD, rNeD, rIxL, rIxT, tSub, tAdd, tBreak, tCont, tPar, rSum, rSumT, rMaxT, tyV, L2.start, List.map_cons, List.map_nil, List.length_cons, List.length_nil, List.cons_append, List.nil_append, List.append_nil, List.replicate, Nat.reduceAdd, Nat.reduceSub, wipe, List.set_cons_zero, List.set_cons_succ, nox_K, cxOf_K, blk_K, suite_K, tVar_0, tVar_1, tVar_2, tVar_3, tVar_4, tVar_5, tVar_6, tVar_7, tVar_8, tVar_9, tVar_10, tVar_11, tVar_12, tVar_13, tVar_14, tVar_15, gName_0, gName_1, gName_2, gName_3, gName_4, gName_5, gName_6, gName_7, gName_8, gName_9, gName_10, gName_11, gName_12, gName_13, gName_14, gName_15, and_assoc, exists_eq_left', exists_eq_left, exists_eq, exists_eq', exists_and_left, exists_const, and_true, true_and, V.int.injEq, V.ref.injEq, V.bl.injEq, V.str.injEq, List.cons.injEq, and_self, scal, Bool.false_eq_true, if_false, if_true, reduceCtorEq, false_and, and_false, false_or, or_false, ↓reduceIte]
    refine ⟨by decide, fun l hl => ?_⟩
    refine ⟨_, rfl, a, p, rfl, mShop _ _ _ _ (Ex.new hl) hp, fun r H2 e2 hr2 => ?_⟩
    obtain ⟨as, hr2⟩ := hr2
    have hl2 := e2 _ _ (upd_same (H := H) (a := l) (o := HO.lst []))
    have ne : r ≠ l := fun e => by
      have h1 := hr2.1
      rw [e, hl2] at h1
      have : as = [] := by simpa using h1.symm
      subst this
      have := Paired.length hr2.2
      have : Rs.stocksOf p ≠ [] := List.ne_nil_of_mem (RsP.mem_stocks.2 (RsP.below_refl (Rs.roomsOf p)))
      exact this (List.length_eq_zero_iff.1 (by rw [← Paired.length hr2.2]; rfl))
    have hB : LA T (L2.del H2 l) r as (Rs.stocksOf p) := ⟨by rw [del_ne ne]; exact hr2.1, Paired.mapP hr2.2 fun b t h => by
      have : b ≠ l := fun e => by rw [e] at h; rw [h.tup] at hl2; cases hl2
      show L2.del H2 l b = _
      rw [del_ne this]; exact h⟩
    have eH : Ex H (L2.del H2 l) := exDel ((Ex.new hl).trans e2) hl
    have nB : (L2.del H2 l) l = none := by simp [L2.del]
    have eB : Ex (L2.del H2 l) H2 := exDelSelf
    have hlx : LX T H2 l [] := ⟨[], hl2, .nil⟩
    generalize L2.del H2 l = B at *
    refine ⟨r, rfl, ⟨_, LA.sq hr2⟩, for_la (R := T) (as := as) (xs := Rs.stocksOf p) (fun i σ H1 => ∃ u3 u4 u5, σ = [some (.ref a), some (.ref d), some (.ref l), u3, u4, u5] ∧ Ex B H1 ∧ LX T H1 l (((Rs.stocksOf p).take i).filter (isLeast p))) ⟨_, _, _, rfl, eB, hlx⟩ ?_ ?_ ?_⟩
    · rintro i σ H1 ⟨_, _, _, _, e, _⟩
      exact LA.ex hB mT e
    · rintro i x s σ H1 hs hx hT ⟨u3, u4, u5, rfl, e, hx1⟩
      have hS := RsP.mem_stocks.1 (List.mem_of_getElem? hs)
      have step := least_step hs
      have snoc : ((Rs.stocksOf p).take (i + 1)).filter (isLeast p) = ((Rs.stocksOf p).take i).filter (isLeast p) ++ if isLeast p s then [s] else [] := by
        rw [take_snoc hs, List.filter_append]; congr 1
        cases h : isLeast p s <;> simp [List.filter, h]
      have szl : (((Rs.stocksOf p).take i).filter (isLeast p)).length ≤ 125 := by
        refine Nat.le_trans (List.length_filter_le ..) ?_
        rw [List.length_take]; have := bound_le ok; omega
      obtain ⟨asl, hA⟩ := hx1.lo mT
      have hmemL : ∀ t, t ∈ ((Rs.stocksOf p).take i).filter (isLeast p) → t.length = s.length := fun t ht => by
        have := RsP.mem_stocks.1 (List.mem_of_mem_take (List.mem_filter.1 ht).1)
        rw [this.1, hS.1]
      generalize hls : ((Rs.stocksOf p).take i).filter (isLeast p) = ls at *
      refine ⟨_, rfl, l, rfl, ⟨_, LA.sq hA⟩, fun D hD => lc_la (R := T) (as := asl) (xs := ls) (fun j H3 => Ex H1 H3 ∧ LX T H3 D ((ls.take j).filter fun t => Rs.isBelow t s)) ⟨Ex.new hD, LX.new⟩ ?_ ?_ ?_⟩
      · rintro j H3 ⟨e3, _⟩
        exact LA.ex hA mT e3
      · rintro j y t H3 ht hy hyT ⟨e3, hx3⟩
        simp only [ tNil, tCons, tC, tDrop, tOp, rI0, tCB, rEq, rNe, tNext, tRet, tRetN, tSeq, tAsg, tAug, tTest, tIfS, tIf, tNot, tAnd, tOr, tBM, tBM0, tCall, tTup, tTupZ, tLst, tFld, sFld, tMeth, tMake, tB, tYes, tCmp, t2I, tIsN, tNotN, tDGet, tDGet1, tDGet2, tDIn, tDNotIn, tAndV, tOrV, tNotV, tDNewT, sDPut, tSl, tPart, tNoPart, rSlL, tThen, tCntZ, tFgt, tChain, gCons, gNil, gTup, rCatZ, rCatA, rCat, rAppend, rExtend, rIn, rInD, rNotInD, rEqD, rNeD, rIxL, rIxT, tSub, tAdd, tBreak, tCont, tPar, rSum, rSumT, rMaxT, tyV, L2.start, List.map_cons, List.map_nil, List.length_cons, List.length_nil, List.cons_append, List.nil_append, List.append_nil, List.replicate, Nat.reduceAdd, Nat.reduceSub, wipe, List.set_cons_zero, List.set_cons_succ, nox_K, cxOf_K, blk_K, suite_K, tVar_0, tVar_1, tVar_2, tVar_3, tVar_4, tVar_5, tVar_6, tVar_7, tVar_8, tVar_9, tVar_10, tVar_11, tVar_12, tVar_13, tVar_14, tVar_15, gName_0, gName_1, gName_2, gName_3, gName_4, gName_5, gName_6, gName_7, gName_8, gName_9, gName_10, gName_11, gName_12, gName_13, gName_14, gName_15, and_assoc, exists_eq_left', exists_eq_left, exists_eq, exists_eq', exists_and_left, exists_const, and_true, true_and, V.int.injEq, V.ref.injEq, V.bl.injEq, V.str.injEq, List.cons.injEq, and_self, scal, Bool.false_eq_true, if_false, if_true, reduceCtorEq, false_and, and_false, false_or, or_false, ↓reduceIte]
        refine ⟨y, x, t, s, rfl, hyT, hT.ex e3, hmemL t (List.mem_of_getElem? ht), fun H4 e4 => ⟨_, rfl, ?_⟩⟩
        have snoc2 : (ls.take (j + 1)).filter (fun t => Rs.isBelow t s) = (ls.take j).filter (fun t => Rs.isBelow t s) ++ if Rs.isBelow t s then [t] else [] := by
          rw [take_snoc ht, List.filter_append]; congr 1
          cases h : Rs.isBelow t s <;> simp [List.filter, h]
        rw [snoc2]
        cases hb : Rs.isBelow t s with
        | false =>
          rw [if_neg (by decide)]
          simp only [Bool.false_eq_true, if_false, List.append_nil]
          exact ⟨e3.trans e4, hx3.ex mT e4⟩
        | true =>
          rw [if_pos rfl]
          obtain ⟨vs, h1, h2, h3⟩ := hx3.app mT e4 (y := t) (p := y) (by
            have : y ≠ D := fun er => by rw [er] at hyT; obtain ⟨vs, hv, _⟩ := hx3.len; rw [hyT.tup] at hv; cases hv
            show L2.del H4 D y = _
            rw [del_ne this]; exact hyT.ex e4)
          refine ⟨vs, h1, ?_, Ex.mut (e3.trans e4) hD, by simpa using h3⟩
          rw [h2, sizeLine_eq]
          have := List.length_filter_le (fun t => Rs.isBelow t s) (ls.take j)
          rw [List.length_take] at this
          omega
      · rintro H3 ⟨e3, hx3⟩
        rw [List.take_length] at hx3
        have e13 := e.trans e3
        simp only [ tNil, tCons, tC, tDrop, tOp, rI0, tCB, rEq, rNe, tNext, tRet, tRetN, tSeq, tAsg, tAug, tTest, tIfS, tIf, tNot, tAnd, tOr, tBM, tBM0, tCall, tTup, tTupZ, tLst, tFld, sFld, tMeth, tMake, tB, tYes, tCmp, t2I, tIsN, tNotN, tDGet, tDGet1, tDGet2, tDIn, tDNotIn, tAndV, tOrV, tNotV, tDNewT, sDPut, tSl, tPart, tNoPart, rSlL, tThen, tCntZ, tFgt, tChain, gCons, gNil, gTup, rCatZ, rCatA, rCat, rAppend, rExtend, rIn, rInD, rNotInD, rEqD, rNeD, rIxL, rIxT, tSub, tAdd, tBreak, tCont, tPar, rSum, rSumT, rMaxT, tyV, L2.start, List.map_cons, List.map_nil, List.length_cons, List.length_nil, List.cons_append, List.nil_append, List.append_nil, List.replicate, Nat.reduceAdd, Nat.reduceSub, wipe, List.set_cons_zero, List.set_cons_succ, nox_K, cxOf_K, blk_K, suite_K, tVar_0, tVar_1, tVar_2, tVar_3, tVar_4, tVar_5, tVar_6, tVar_7, tVar_8, tVar_9, tVar_10, tVar_11, tVar_12, tVar_13, tVar_14, tVar_15, gName_0, gName_1, gName_2, gName_3, gName_4, gName_5, gName_6, gName_7, gName_8, gName_9, gName_10, gName_11, gName_12, gName_13, gName_14, gName_15, and_assoc, exists_eq_left', exists_eq_left, exists_eq, exists_eq', exists_and_left, exists_const, and_true, true_and, V.int.injEq, V.ref.injEq, V.bl.injEq, V.str.injEq, List.cons.injEq, and_self, scal, Bool.false_eq_true, if_false, if_true, reduceCtorEq, false_and, and_false, false_or, or_false, ↓reduceIte]
        refine ⟨_, dget (.inl (e13 _ _ (eH _ _ hd))) (hT.ex e3), ?_⟩
        have hmk : (got kD s).isSome = !(Rs.safeStocks p).contains s := da_mk hgot hS
        rw [hmk, Bool.not_not]
        cases hc : (Rs.safeStocks p).contains s with
        | false =>
          rw [hc, Bool.false_and] at step
          rw [if_neg (by decide)]
          rw [snoc, step]
          simp only [Bool.false_eq_true, if_false, List.append_nil]
          exact ⟨e13, hx1.ex mT e3⟩
        | true =>
          rw [hc, Bool.true_and] at step
          rw [if_pos rfl]
          obtain ⟨vs, hv, hvl⟩ := hx3.len
          refine ⟨_, .inl (SqL.of hv), ?_⟩
          rw [hvl, snoc, step]
          refine ite2 (fun g => ?_) (fun g => ?_)
          · have g' : ls.filter (fun t => Rs.isBelow t s) = [] := List.length_eq_zero_iff.1 (by simpa using g)
            rw [if_pos (decide_eq_true g')]
            obtain ⟨vs1, h1, h2, h3⟩ := hx1.app mT e3 (y := s) (p := x) (by
              have : x ≠ l := fun er => by rw [er] at hT; obtain ⟨vs, hv, _⟩ := hx1.len; rw [hT.tup] at hv; cases hv
              show L2.del H3 l x = _
              rw [del_ne this]; exact hT.ex e3)
            refine ⟨.inl ⟨_, SqL.of h1⟩, vs1, h1, ?_, Ex.mut e13 nB, h3⟩
            rw [h2, sizeLine_eq]; omega
          · have g' : ¬ ls.filter (fun t => Rs.isBelow t s) = [] := fun q => g (by rw [q]; rfl)
            rw [if_neg (by simpa using g'), List.append_nil]
            exact ⟨e13, hx1.ex mT e3⟩
    · rintro σ H1 ⟨u3, u4, u5, rfl, e, hx1⟩
      rw [List.take_length, ← least_filter] at hx1
      exact ⟨_, rfl, q _ _ (eH.trans e) (hx1.lo mT)⟩
end
end Fs
set_option Elab.async false
set_option linter.all false
set_option maxRecDepth 100000
set_option maxHeartbeats 4000000
namespace Fs
open PySem PySem.Spec PyProof.Rows L2 FsX
open Evl (Ex Ex.refl Ex.trans Ex.new Ex.mut fresh_back)
section
variable {P : Program} {w : World} {K : PySem.W.Frag} {mg : Str → Option Value} {base : Heap}
def shopFs (n r : V) (a b c d : V) : List (Str × V) := putF ("onto" : Str) d (putF ("put" : Str) c (putF ("wanted_of_one" : Str) b (putF ("wanted" : Str) a (putF ("rooms" : Str) r (putF ("names" : Str) n [])))))
def spShopI (K : PySem.W.Frag) : Sp := fun vs H Q _ => ∃ (x dx : Addr) (n r a b c d : V), vs = [.ref x, n, r, a, b, c, d] ∧ H x = some (.ins (SH K) dx []) ∧ Q .non (upd H x (.ins (SH K) dx (shopFs n r a b c d)))
theorem k_Shop_init (z : Z K mg) : Kp P w K mg base CX0 1 (He.ma K (He.ga K "Shop") "__init__") ["self", "names", "rooms", "wanted", "wanted_of_one", "put", "onto"] (spShopI K) := by
  have nd := sc_Shop_init.nd
  refine kp0 (f_Shop_init z) sc_Shop_init (fun vs H Q E h => ?_) fun cdv A outer s H vs Q E hr h => ⟨_,
    (pss_cons (ps_fld (pv 0) (pv 1) rfl) (pss_cons (ps_fld (pv 0) (pv 2) rfl) (pss_cons (ps_fld (pv 0) (pv 3) rfl) (pss_cons (ps_fld (pv 0) (pv 4) rfl) (pss_cons (ps_fld (pv 0) (pv 5) rfl) (pss_one (ps_fld (pv 0) (pv 6) rfl))))))), ?_⟩
  · obtain ⟨_, _, _, _, _, _, _, _, rfl, _⟩ := h; rfl
  · obtain ⟨x, dx, n, r, a, b, c, d, rfl, hx, q⟩ := h
    simp only [hx, upd_same, upd_upd, cl_Shop z, na_Shop_names z, na_Shop_rooms z, na_Shop_wanted z, na_Shop_wanted_of_one z, na_Shop_put z, na_Shop_onto z, Option.some.injEq, HO.ins.injEq, tNil, tCons, tC, tDrop, tOp, rI0, tCB, rEq, rNe, tNext, tRet, tRetN, tSeq, tAsg, tAug, tTest, tIfS, tIf, tNot, tAnd, tOr, tBM, tBM0, tCall, tTup, tTupZ, tLst, tFld, sFld, tMeth, tMake, tB, tYes, tCmp, t2I, tIsN, tNotN, tDGet, tDGet1, tDGet2, tDIn, tDNotIn, tAndV, tOrV, tNotV, tDNewT, sDPut, tSl, tPart, tNoPart, rSlL, tThen, tCntZ, tFgt, tChain, gCons, gNil, gTup, rCatZ, rCatA, rCat, rAppend, rExtend, rIn, rInD, rNotInD, rEqD, rNeD, rIxL, rIxT, tSub, tAdd, tBreak, tCont, tPar, rSum, rSumT, rMaxT, tyV, L2.start, List.map_cons, List.map_nil, List.length_cons, List.length_nil, List.cons_append, List.nil_append, List.append_nil, List.replicate, Nat.reduceAdd, Nat.reduceSub, wipe, List.set_cons_zero, List.set_cons_succ, nox_K, cxOf_K, blk_K, suite_K, tVar_0, tVar_1, tVar_2, tVar_3, tVar_4, tVar_5, tVar_6, tVar_7, tVar_8, tVar_9, tVar_10, tVar_11, tVar_12, tVar_13, tVar_14, tVar_15, gName_0, gName_1, gName_2, gName_3, gName_4, gName_5, gName_6, gName_7, gName_8, gName_9, gName_10, gName_11, gName_12, gName_13, gName_14, gName_15, and_assoc, exists_eq_left', exists_eq_left, exists_eq, exists_eq', exists_and_left, exists_const, and_true, true_and, V.int.injEq, V.ref.injEq, V.bl.injEq, V.str.injEq, List.cons.injEq, and_self, scal, Bool.false_eq_true, if_false, if_true, reduceCtorEq, false_and, and_false, false_or, or_false, ↓reduceIte]
    exact ⟨by decide, by show 1 < 1000; decide, by show 2 < 1000; decide, by show 3 < 1000; decide, by show 4 < 1000; decide, by show 5 < 1000; decide, q⟩
def spResized (K : PySem.W.Frag) : Sp := fun vs H Q _ => ∃ (a : Addr) (p : Rs.Shop) (i j : Nat), vs = [.ref a, .int i, .int j] ∧ ShopAt (SH K) H a p ∧ i ≤ 9 ∧ j ≤ 3 ∧ ∀ r H', Ex H H' → ShopAt (SH K) H' r { p with items := i, onto := j } → Q (.ref r) H'
theorem k_resized (z : Z K mg) : Kp P w K mg base CX0 3 (He.ga K "resized") ["shop", "put", "onto"] (spResized K) := by
  have nd := sc_resized.nd
  refine kp0 (f_resized z) sc_resized (fun vs H Q E h => ?_) fun cdv A outer s H vs Q E hr h => ⟨_,
    (pss_one (ps_ret ((Kp.make ((k_Shop_init z)) ((mk_Shop z)) (Room.mono (hr) (by decide)) (by rfl) ((g_Shop z)) pass0 ((pa_cons (pe_fld (pv 0) rfl) (pa_cons (pe_fld (pv 0) rfl) (pa_cons (pe_fld (pv 0) rfl) (pa_cons (pe_fld (pv 0) rfl) (pa_cons (pv 1) (pa_cons (pv 2) pa_nil))))))))))), ?_⟩
  · obtain ⟨_, _, _, _, rfl, _⟩ := h; rfl
  · obtain ⟨a, p, i, j, rfl, ⟨ok, dx, fs, n, r, h0, h1, h2, h3, h4, h5, h6, h7, h8⟩, hi, hj, q⟩ := h
    simp only [h0, h1, h2, h3, h4, cl_Shop z, na_Shop_names z, na_Shop_rooms z, na_Shop_wanted z, na_Shop_wanted_of_one z, Option.some.injEq, HO.ins.injEq, tNil, tCons, tC, tDrop, tOp, rI0, tCB, rEq, rNe, tNext, tRet, tRetN, tSeq, tAsg, tAug, tTest, tIfS, tIf, tNot, tAnd, tOr, tBM, tBM0, tCall, tTup, tTupZ, tLst, tFld, sFld, tMeth, tMake, tB, tYes, tCmp, t2I, tIsN, tNotN, tDGet, tDGet1, tDGet2, tDIn, tDNotIn, tAndV, tOrV, tNotV, tDNewT, sDPut, tSl, tPart, tNoPart, rSlL, tThen, tCntZ, tFgt, tChain, gCons, gNil, gTup, rCatZ, rCatA, rCat, rAppend, rExtend, rIn, rInD, rNotInD, rEqD, rNeD, rIxL, rIxT, tSub, tAdd, tBreak, tCont, tPar, rSum, rSumT, rMaxT, tyV, L2.start, List.map_cons, List.map_nil, List.length_cons, List.length_nil, List.cons_append, List.nil_append, List.append_nil, List.replicate, Nat.reduceAdd, Nat.reduceSub, wipe, List.set_cons_zero, List.set_cons_succ, nox_K, cxOf_K, blk_K, suite_K, tVar_0, tVar_1, tVar_2, tVar_3, tVar_4, tVar_5, tVar_6, tVar_7, tVar_8, tVar_9, tVar_10, tVar_11, tVar_12, tVar_13, tVar_14, tVar_15, gName_0, gName_1, gName_2, gName_3, gName_4, gName_5, gName_6, gName_7, gName_8, gName_9, gName_10, gName_11, gName_12, gName_13, gName_14, gName_15, and_assoc, exists_eq_left', exists_eq_left, exists_eq, exists_eq', exists_and_left, exists_const, and_true, true_and, V.int.injEq, V.ref.injEq, V.bl.injEq, V.str.injEq, List.cons.injEq, and_self, scal, Bool.false_eq_true, if_false, if_true, reduceCtorEq, false_and, and_false, false_or, or_false, ↓reduceIte]
    intro x d2 hx hd ne
    refine ⟨x, d2, _, _, _, _, _, _, rfl, upd_same, rfl, ?_⟩
    rw [upd_upd]
    have hx' : upd H d2 (.own x) x = none := by rw [upd_ne ne.symm]; exact hx
    have e : Ex H (upd (upd H d2 (.own x)) x (.ins (SH K) d2 (shopFs (.ref n) (.ref r) (.int p.taken) (.int p.ofOne) (.int i) (.int j)))) := (Ex.new hd).trans (Ex.new hx')
    exact q x _ e ⟨⟨ok.n1, ok.n3, ok.room, ok.t4, ok.o4, hi, hj, ok.nm⟩, d2, _, n, r, upd_same, rfl, rfl, rfl, rfl, rfl, rfl, h7.ex mL e, h8.ex e⟩
def spKeeps (K : PySem.W.Frag) : Sp := fun vs H Q _ => ∃ (a : Addr) (p : Rs.Shop), vs = [.ref a] ∧ ShopAt (SH K) H a p ∧ ∀ H', Ex H H' → Q (.bl (Rs.fullSafe p)) H'
theorem k_keeps (z : Z K mg) : Kp P w K mg base CX0 5 (He.ga K "keeps_full") ["shop"] (spKeeps K) := by
  have nd := sc_keeps_full.nd
  refine kp0 (f_keeps_full z) sc_keeps_full (fun vs H Q E h => ?_) fun cdv A outer s H vs Q E hr h => ⟨_,
    (pss_one (ps_ret (pe_cmp (pc_dnotin (hu_of hr) ((Kp.call ((k_full z)) (Room.mono (hr) (by decide)) (by rfl) ((g_full_stock z)) pass0 ((pa_cons (pv 0) pa_nil)))) ((Kp.call ((k_dooms z)) (Room.mono (hr) (by decide)) (by rfl) ((g_dooms z)) pass0 ((pa_cons (pv 0) pa_nil))))) rfl))), ?_⟩
  · obtain ⟨_, _, rfl, _⟩ := h; rfl
  · obtain ⟨a, p, rfl, hp, q⟩ := h
    simp only [ tNil, tCons, tC, tDrop, tOp, rI0, tCB, rEq, rNe, tNext, tRet, tRetN, tSeq, tAsg, tAug, tTest, tIfS, tIf, tNot, tAnd, tOr, tBM, tBM0, tCall, tTup, tTupZ, tLst, tFld, sFld, tMeth, tMake, tB, tYes, tCmp, t2I, tIsN, tNotN, tDGet, tDGet1, tDGet2, tDIn, tDNotIn, tAndV, tOrV, tNotV, tDNewT, sDPut, tSl, tPart, tNoPart, rSlL, tThen, tCntZ, tFgt, tChain, gCons, gNil, gTup, rCatZ, rCatA, rCat, rAppend, rExtend, rIn, rInD, rNotInD, rEqD, rNeD, rIxL, rIxT, tSub, tAdd, tBreak, tCont, tPar, rSum, rSumT, rMaxT, tyV, L2.start, List.map_cons, List.map_nil, List.length_cons, List.length_nil, List.cons_append, List.nil_append, List.append_nil, List.replicate, Nat.reduceAdd, Nat.reduceSub, wipe, List.set_cons_zero, List.set_cons_succ, nox_K, cxOf_K, blk_K, suite_K, tVar_0, tVar_1, tVar_2, tVar_3, tVar_4, tVar_5, tVar_6, tVar_7, tVar_8, tVar_9, tVar_10, tVar_11, tVar_12, tVar_13, tVar_14, tVar_15, gName_0, gName_1, gName_2, gName_3, gName_4, gName_5, gName_6, gName_7, gName_8, gName_9, gName_10, gName_11, gName_12, gName_13, gName_14, gName_15, and_assoc, exists_eq_left', exists_eq_left, exists_eq, exists_eq', exists_and_left, exists_const, and_true, true_and, V.int.injEq, V.ref.injEq, V.bl.injEq, V.str.injEq, List.cons.injEq, and_self, scal, Bool.false_eq_true, if_false, if_true, reduceCtorEq, false_and, and_false, false_or, or_false, ↓reduceIte]
    refine ⟨a, p, rfl, hp, fun r H1 e1 hr1 => ⟨a, p, rfl, mShop _ _ _ _ e1 hp, fun d H2 e2 ⟨kD, hd, hgot⟩ => ?_⟩⟩
    refine ⟨d, rfl, _, dget (.inl hd) (hr1.ex e2), ?_⟩
    have hmk : (got kD (Rs.roomsOf p)).isSome = !(Rs.safeStocks p).contains (Rs.roomsOf p) := da_mk hgot (RsP.below_refl _)
    rw [hmk, Bool.not_not]
    exact q _ (e1.trans e2)
/-- a number, or None -/
def vN : Option Nat → V
  | none => .non
  | some n => .int (n : Nat)
def spFewest (K : PySem.W.Frag) (f : Rs.Shop → Option Nat) : Sp := fun vs H Q _ => ∃ (a : Addr) (p : Rs.Shop), vs = [.ref a] ∧ ShopAt (SH K) H a p ∧ ∀ H', Ex H H' → Q (vN (f p)) H'
theorem up_at {n i : Nat} (h : i < n) : ((List.range n).map fun i => i + 1)[i]? = some (i + 1) := by rw [List.getElem?_map, List.getElem?_range h]; rfl
theorem k_fewest_put (z : Z K mg) : Kp P w K mg base CX0 6 (He.ga K "fewest_put") ["shop"] (spFewest K Rs.fewestItems) := by
  have nd := sc_fewest_put.nd
  obtain ⟨t9, h9⟩ := c_MOST_PUT z
  refine kp0 (f_fewest_put z) sc_fewest_put (fun vs H Q E h => ?_) fun cdv A outer s H vs Q E hr h => ⟨_,
    (pss_cons ((ps_for PassesOwn.never rfl ((pi_range2 (by rfl) (b_range z) (pa_cons (pe_int) (pa_cons (pe_op op_add (pe_glob (v := .int 9) (by rfl) h9 ⟨_, rfl⟩) pe_int) pa_nil)))) (((pg_name (i := 1) nd rfl (by first | exact Or.inl rfl | exact Or.inr rfl)))) ((pss_one (ps_if (pt_val ((Kp.call ((k_keeps z)) (Room.mono (hr) (by decide)) (by rfl) ((g_keeps_full z)) pass0 ((pa_cons ((Kp.call ((k_resized z)) (Room.mono (hr) (by decide)) (by rfl) ((g_resized z)) pass0 ((pa_cons (pv 0) (pa_cons (pv 1) (pa_cons (pe_fld (pv 0) rfl) pa_nil)))))) pa_nil))))) (pss_one (ps_ret (pv 1))) pss_nil))))) (pss_one (ps_ret pe_non))), ?_⟩
  · obtain ⟨_, _, rfl, _⟩ := h; rfl
  · obtain ⟨a, p, rfl, hp, q⟩ := h
    have ok := hp.1
    refine ⟨_, _, rfl, rfl, _, _, rfl, ⟨by decide, by decide, by decide, by decide⟩, for_range (lo := 1) (n := 9) (fun i σ H1 => ∃ u, σ = [some (.ref a), u] ∧ Ex H H1 ∧ (((List.range 9).map fun i => i + 1).take i).find? (fun n => Rs.fullSafe (Rs.withItems p n)) = none) ⟨_, rfl, Ex.refl _, rfl⟩ ?_ ?_⟩
    · rintro i σ H1 hi ⟨u, rfl, e, hn⟩
      obtain ⟨_, dx, fs, n, r, h0, h1, h2, h3, h4, h5, h6, h7, h8⟩ := mShop _ _ _ _ e hp
      have hi1 : (1 : Int) + (i : Nat) = ((i + 1 : Nat) : Int) := by omega
      rw [hi1]
      simp only [h0, h6, cl_Shop z, na_Shop_onto z, Option.some.injEq, HO.ins.injEq, tNil, tCons, tC, tDrop, tOp, rI0, tCB, rEq, rNe, tNext, tRet, tRetN, tSeq, tAsg, tAug, tTest, tIfS, tIf, tNot, tAnd, tOr, tBM, tBM0, tCall, tTup, tTupZ, tLst, tFld, sFld, tMeth, tMake, tB, tYes, tCmp, t2I, tIsN, tNotN, tDGet, tDGet1, tDGet2, tDIn, tDNotIn, tAndV, tOrV, tNotV, tDNewT, sDPut, tSl, tPart, tNoPart, rSlL, tThen, tCntZ, tFgt, tChain, gCons, gNil, gTup, rCatZ, rCatA, rCat, rAppend, rExtend, rIn, rInD, rNotInD, rEqD, rNeD, rIxL, rIxT, tSub, tAdd, tBreak, tCont, tPar, rSum, rSumT, rMaxT, tyV, L2.start, List.map_cons, List.map_nil, List.length_cons, List.length_nil, List.cons_append, List.nil_append, List.append_nil, List.replicate, Nat.reduceAdd, Nat.reduceSub, wipe, List.set_cons_zero, List.set_cons_succ, nox_K, cxOf_K, blk_K, suite_K, tVar_0, tVar_1, tVar_2, tVar_3, tVar_4, tVar_5, tVar_6, tVar_7, tVar_8, tVar_9, tVar_10, tVar_11, tVar_12, tVar_13, tVar_14, tVar_15, gName_0, gName_1, gName_2, gName_3, gName_4, gName_5, gName_6, gName_7, gName_8, gName_9, gName_10, gName_11, gName_12, gName_13, gName_14, gName_15, and_assoc, exists_eq_left', exists_eq_left, exists_eq, exists_eq', exists_and_left, exists_const, and_true, true_and, V.int.injEq, V.ref.injEq, V.bl.injEq, V.str.injEq, List.cons.injEq, and_self, scal, Bool.false_eq_true, if_false, if_true, reduceCtorEq, false_and, and_false, false_or, or_false, ↓reduceIte]
      refine ⟨a, p, i + 1, p.onto, rfl, mShop _ _ _ _ e hp, by omega, ok.m3, fun r2 H2 e2 hr2 => ⟨r2, _, rfl, hr2, fun H3 e3 => ⟨_, rfl, ?_⟩⟩⟩
      refine ite2 (fun g => ?_) (fun g => ?_)
      · have := find_from hn (up_at hi) g
        have q := q _ (e.trans (e2.trans e3))
        unfold Rs.fewestItems at q
        rw [show Rs.mostItems = 9 from rfl, this] at q
        exact q
      · exact ⟨e.trans (e2.trans e3), by rw [find_take hn (up_at hi)]; exact if_neg g⟩
    · rintro σ H1 ⟨u, rfl, e, hn⟩
      have q := q _ e
      unfold Rs.fewestItems at q
      rw [List.take_of_length_le (by simp)] at hn
      rw [show Rs.mostItems = 9 from rfl, hn] at q
      exact q
theorem k_fewest_onto (z : Z K mg) : Kp P w K mg base CX0 6 (He.ga K "fewest_onto") ["shop"] (spFewest K Rs.fewestOnto) := by
  have nd := sc_fewest_onto.nd
  refine kp0 (f_fewest_onto z) sc_fewest_onto (fun vs H Q E h => ?_) fun cdv A outer s H vs Q E hr h => ⟨_,
    (pss_cons ((ps_for PassesOwn.never rfl ((pi_range2 (by rfl) (b_range z) (pa_cons (pe_int) (pa_cons (pe_op op_add ((pe_callB call_len_seq (by rfl) ((b_len z)) PySem.boot_len (pa_cons ((pe_fld (pv 0) rfl)) pa_nil))) pe_int) pa_nil)))) (((pg_name (i := 1) nd rfl (by first | exact Or.inl rfl | exact Or.inr rfl)))) ((pss_one (ps_if (pt_val ((Kp.call ((k_keeps z)) (Room.mono (hr) (by decide)) (by rfl) ((g_keeps_full z)) pass0 ((pa_cons ((Kp.call ((k_resized z)) (Room.mono (hr) (by decide)) (by rfl) ((g_resized z)) pass0 ((pa_cons (pv 0) (pa_cons (pe_fld (pv 0) rfl) (pa_cons (pv 1) pa_nil)))))) pa_nil))))) (pss_one (ps_ret (pv 1))) pss_nil))))) (pss_one (ps_ret pe_non))), ?_⟩
  · obtain ⟨_, _, rfl, _⟩ := h; rfl
  · obtain ⟨a, p, rfl, hp, q⟩ := h
    have ok := hp.1
    obtain ⟨_, dx, fs, n, r, h0, h1, h2, h3, h4, h5, h6, h7, h8⟩ := hp
    have hlen := ok.rooms.1
    have n3 := ok.n3
    refine ⟨_, rfl, a, SH K, dx, fs, _, rfl, h0, cl_Shop z, na_Shop_rooms z, h2, r, _, rfl, .inl h8.sq, _, _, rfl, rfl, _, _, rfl, ⟨by decide, by decide, by rw [nv_len]; omega, by rw [nv_len]; omega⟩, ?_⟩
    have en : (((nv (Rs.roomsOf p)).length : Nat) + 1 - 1 : Int).toNat = p.shelves.length := by rw [nv_len]; omega
    rw [en]
    refine for_range (lo := 1) (n := p.shelves.length) (fun i σ H1 => ∃ u, σ = [some (.ref a), u] ∧ Ex H H1 ∧ (((List.range p.shelves.length).map fun i => i + 1).take i).find? (fun n => Rs.fullSafe (Rs.withOnto p n)) = none) ⟨_, rfl, Ex.refl _, rfl⟩ ?_ ?_
    · rintro i σ H1 hi ⟨u, rfl, e, hn⟩
      have hi1 : (1 : Int) + (i : Nat) = ((i + 1 : Nat) : Int) := by omega
      rw [hi1]
      simp only [e _ _ h0, h5, cl_Shop z, na_Shop_put z, Option.some.injEq, HO.ins.injEq, tNil, tCons, tC, tDrop, tOp, rI0, tCB, rEq, rNe, tNext, tRet, tRetN, tSeq, tAsg, tAug, tTest, tIfS, tIf, tNot, tAnd, tOr, tBM, tBM0, tCall, tTup, tTupZ, tLst, tFld, sFld, tMeth, tMake, tB, tYes, tCmp, t2I, tIsN, tNotN, tDGet, tDGet1, tDGet2, tDIn, tDNotIn, tAndV, tOrV, tNotV, tDNewT, sDPut, tSl, tPart, tNoPart, rSlL, tThen, tCntZ, tFgt, tChain, gCons, gNil, gTup, rCatZ, rCatA, rCat, rAppend, rExtend, rIn, rInD, rNotInD, rEqD, rNeD, rIxL, rIxT, tSub, tAdd, tBreak, tCont, tPar, rSum, rSumT, rMaxT, tyV, L2.start, List.map_cons, List.map_nil, List.length_cons, List.length_nil, List.cons_append, List.nil_append, List.append_nil, List.replicate, Nat.reduceAdd, Nat.reduceSub, wipe, List.set_cons_zero, List.set_cons_succ, nox_K, cxOf_K, blk_K, suite_K, tVar_0, tVar_1, tVar_2, tVar_3, tVar_4, tVar_5, tVar_6, tVar_7, tVar_8, tVar_9, tVar_10, tVar_11, tVar_12, tVar_13, tVar_14, tVar_15, gName_0, gName_1, gName_2, gName_3, gName_4, gName_5, gName_6, gName_7, gName_8, gName_9, gName_10, gName_11, gName_12, gName_13, gName_14, gName_15, and_assoc, exists_eq_left', exists_eq_left, exists_eq, exists_eq', exists_and_left, exists_const, and_true, true_and, V.int.injEq, V.ref.injEq, V.bl.injEq, V.str.injEq, List.cons.injEq, and_self, scal, Bool.false_eq_true, if_false, if_true, reduceCtorEq, false_and, and_false, false_or, or_false, ↓reduceIte]
      refine ⟨a, p, p.items, i + 1, rfl, ⟨ok, dx, fs, n, r, e _ _ h0, h1, h2, h3, h4, h5, h6, h7.ex mL e, h8.ex e⟩, ok.i9, by omega, fun r2 H2 e2 hr2 => ⟨r2, _, rfl, hr2, fun H3 e3 => ⟨_, rfl, ?_⟩⟩⟩
      refine ite2 (fun g => ?_) (fun g => ?_)
      · have := find_from hn (up_at hi) g
        have q := q _ (e.trans (e2.trans e3))
        unfold Rs.fewestOnto at q
        rw [this] at q
        exact q
      · exact ⟨e.trans (e2.trans e3), by rw [find_take hn (up_at hi)]; exact if_neg g⟩
    · rintro σ H1 ⟨u, rfl, e, hn⟩
      have q := q _ e
      unfold Rs.fewestOnto at q
      rw [List.take_of_length_le (by simp)] at hn
      rw [hn] at q
      exact q
def spParting (K : PySem.W.Frag) : Sp := fun vs H Q _ => ∃ (a b : Addr) (p o : Rs.Shop), vs = [.ref a, .ref b] ∧ ShopAt (SH K) H a p ∧ ShopAt (SH K) H b o ∧ Rs.roomsOf p = Rs.roomsOf o ∧ ∀ v H', Ex H H' → RO H' v (Rs.partingOf p o) → Q v H'
theorem k_parting (z : Z K mg) : Kp P w K mg base CX0 5 (He.ga K "first_parting") ["shop", "other"] (spParting K) := by
  have nd := sc_first_parting.nd
  refine kp0 (f_first_parting z) sc_first_parting (fun vs H Q E h => ?_) fun cdv A outer s H vs Q E hr h => ⟨_,
    (pss_cons ((ps_set (i := 2) nd rfl (by first | exact Or.inl rfl | exact Or.inr rfl) (((Kp.call ((k_dooms z)) (Room.mono (hr) (by decide)) (by rfl) ((g_dooms z)) pass0 ((pa_cons (pv 0) pa_nil))))))) (pss_cons ((ps_set (i := 3) nd rfl (by first | exact Or.inl rfl | exact Or.inr rfl) (((Kp.call ((k_dooms z)) (Room.mono (hr) (by decide)) (by rfl) ((g_dooms z)) pass0 ((pa_cons (pv 1) pa_nil))))))) (pss_cons ((ps_for PassesOwn.never rfl ((pi_list ((Kp.call ((k_stocks z)) (Room.mono (hr) (by decide)) (by rfl) ((g_stocks_of z)) pass0 ((pa_cons (pv 0) pa_nil)))))) (((pg_name (i := 4) nd rfl (by first | exact Or.inl rfl | exact Or.inr rfl)))) ((pss_one (ps_if (pt_cmpR op_ne (pe_cmp (pc_din (hu_of hr) (pv 4) (pv 2)) rfl) (pe_cmp (pc_din (hu_of hr) (pv 4) (pv 3)) rfl) (nomark _)) (pss_one (ps_ret (pv 4))) pss_nil))))) (pss_one (ps_ret pe_non))))), ?_⟩
  · obtain ⟨_, _, _, _, rfl, _⟩ := h; rfl
  · obtain ⟨a, b, p, o, rfl, hp, ho, hro, q⟩ := h
    simp only [ tNil, tCons, tC, tDrop, tOp, rI0, tCB, rEq, rNe, tNext, tRet, tRetN, tSeq, tAsg, tAug, tTest, tIfS, tIf, tNot, tAnd, tOr, tBM, tBM0, tCall, tTup, tTupZ, tLst, tFld, sFld, tMeth, tMake, tB, tYes, tCmp, t2I, tIsN, tNotN, tDGet, tDGet1, tDGet2, tDIn, tDNotIn, tAndV, tOrV, tNotV, tDNewT, sDPut, tSl, tPart, tNoPart, rSlL, tThen, tCntZ, tFgt, tChain, gCons, gNil, gTup, rCatZ, rCatA, rCat, rAppend, rExtend, rIn, rInD, rNotInD, rEqD, rNeD, rIxL, rIxT, tSub, tAdd, tBreak, tCont, tPar, rSum, rSumT, rMaxT, tyV, L2.start, List.map_cons, List.map_nil, List.length_cons, List.length_nil, List.cons_append, List.nil_append, List.append_nil, List.replicate, Nat.reduceAdd, Nat.reduceSub, wipe, List.set_cons_zero, List.set_cons_succ, nox_K, cxOf_K, blk_K, suite_K, tVar_0, tVar_1, tVar_2, tVar_3, tVar_4, tVar_5, tVar_6, tVar_7, tVar_8, tVar_9, tVar_10, tVar_11, tVar_12, tVar_13, tVar_14, tVar_15, gName_0, gName_1, gName_2, gName_3, gName_4, gName_5, gName_6, gName_7, gName_8, gName_9, gName_10, gName_11, gName_12, gName_13, gName_14, gName_15, and_assoc, exists_eq_left', exists_eq_left, exists_eq, exists_eq', exists_and_left, exists_const, and_true, true_and, V.int.injEq, V.ref.injEq, V.bl.injEq, V.str.injEq, List.cons.injEq, and_self, scal, Bool.false_eq_true, if_false, if_true, reduceCtorEq, false_and, and_false, false_or, or_false, ↓reduceIte]
    refine ⟨a, p, rfl, hp, fun d H1 e1 ⟨kD, hd, hgot⟩ => ⟨b, o, rfl, mShop _ _ _ _ e1 ho, fun d2 H2 e2 ⟨kD2, hd2, hgot2⟩ => ?_⟩⟩
    refine ⟨_, rfl, a, p, rfl, mShop _ _ _ _ (e1.trans e2) hp, fun r H3 e3 hr3 => ?_⟩
    obtain ⟨as, hr3⟩ := hr3
    refine ⟨r, rfl, ⟨_, LA.sq hr3⟩, for_la (R := T) (as := as) (xs := Rs.stocksOf p) (fun i σ H4 => ∃ u, σ = [some (.ref a), some (.ref b), some (.ref d), some (.ref d2), u] ∧ Ex H3 H4 ∧ ((Rs.stocksOf p).take i).find? (fun s => Rs.isSafe p s != Rs.isSafe o s) = none) ⟨_, rfl, Ex.refl _, rfl⟩ ?_ ?_ ?_⟩
    · rintro i σ H4 ⟨_, _, e4, _⟩
      exact LA.ex hr3 mT e4
    · rintro i x s σ H4 hs hx hT ⟨u, rfl, e4, hn⟩
      have hS := RsP.mem_stocks.1 (List.mem_of_getElem? hs)
      have hSo : FsLaw.IsStock o s := by unfold FsLaw.IsStock at hS ⊢; rw [← hro]; exact hS
      have m1 : (got kD s).isSome = !(Rs.safeStocks p).contains s := da_mk hgot hS
      have m2 : (got kD2 s).isSome = !(Rs.safeStocks o).contains s := da_mk hgot2 hSo
      refine ⟨_, rfl, _, rfl, d, _, rfl, dget (.inl (e4 _ _ (e3 _ _ (e2 _ _ hd)))) hT, _, rfl, _, rfl, d2, _, rfl, dget (.inl (e4 _ _ (e3 _ _ hd2))) hT, rfl, _, rfl, ?_⟩
      rw [m1, m2]
      have eq : (!decide (V.bl (!(Rs.safeStocks p).contains s) = V.bl (!(Rs.safeStocks o).contains s))) = (Rs.isSafe p s != Rs.isSafe o s) := by
        unfold Rs.isSafe
        cases (Rs.safeStocks p).contains s <;> cases (Rs.safeStocks o).contains s <;> rfl
      rw [eq]
      refine ite2 (fun g => ?_) (fun g => ?_)
      · exact ⟨_, rfl, q _ _ (e1.trans (e2.trans (e3.trans e4))) (.inr ⟨x, s, find_from hn hs g, rfl, hT⟩)⟩
      · exact ⟨_, rfl, e4, by rw [find_take hn hs, if_neg g]⟩
    · rintro σ H4 ⟨u, rfl, e4, hn⟩
      rw [List.take_length] at hn
      exact q _ _ (e1.trans (e2.trans (e3.trans e4))) (.inl ⟨hn, rfl⟩)
end
end Fs
set_option Elab.async false
set_option linter.all false
set_option maxRecDepth 100000
set_option maxHeartbeats 4000000
namespace Fs
open PySem PySem.Spec PyProof.Rows L2 FsX
open Evl (Ex Ex.refl Ex.trans Ex.new Ex.mut fresh_back)
section
variable {P : Program} {w : World} {K : PySem.W.Frag} {mg : Str → Option Value} {base : Heap}
theorem k_Refusal (z : Z K mg) : Kp P w K mg base CX0 1 (He.ma K (xRef K) "__init__") ["self", "number", "behind"] (spRefInit K) := by
  have nd := sc_Refusal_init.nd
  refine kp0 (f_Refusal_init z) sc_Refusal_init (fun vs H Q E h => ?_) fun cdv A outer s H vs Q E hr h => ⟨_, (pss_cons (ps_est (pv 0) (pv 1)) (pss_one (ps_est (pv 0) (pv 2)))), ?_⟩
  · obtain ⟨_, _, _, _, rfl, _⟩ := h; rfl
  · obtain ⟨a, C, b, n, rfl, T, hn, hb, ha, q⟩ := h
    refine ⟨_, rfl, _, rfl, a, C, rfl, T, hn, .inl ⟨ha, fun dx hdx ne => ?_⟩⟩
    exact ⟨_, rfl, _, rfl, a, C, rfl, T, hb, .inr ⟨dx, _, upd_same, by rw [upd_ne ne]; exact upd_same, by show 1 ≤ 900; decide, q dx hdx ne⟩⟩
theorem Kp.ucall {X : Cx} {CX : CXT} {k : Nat} {f C : Addr} {ps : List Str} {sp : Sp} {E : XK} {mc : Value} {e : Expr} {es : List Expr} {m x : Str} {p pos apos : Pos} {t : TA} {pl : Sem Bool} (h : Kp X.prog X.w X.K X.mg X.base CX k f ps sp) (r : ClX.CRead X.K C mc) (c : ClX.CVal X.K C mc m (.ref f) (.ref f)) (hg : Gl X x) (hm : X.mg x = some (.ref C)) (hr : Room k X.A) (hx : Passes CX X E) (ha : PA X (e :: es) t)
    (hdb : (x == ("__debug__" : Str)) = false := by decide) (hst : starEach (e :: es) X.env = (false, eval e X.env) :: starEach es X.env := by rfl) (hpl : (backTo pos (starEach es X.env)).any (·.1) = false := by rfl)
    (ht : eval (.Call (.Attribute (.Name x p) m apos) (e :: es) [] pos) X.env = (do
      let ov ← eval (.Name x p) X.env; standAt apos.atName
      let (f, first) ← holding [ov] (getMethod ov m pl); callWith pos f first (backTo pos (starEach (e :: es) X.env)) (backToKw pos (keywordEach [] X.env))) := by rfl) : PE X (.Call (.Attribute (.Name x p) m apos) (e :: es) [] pos) (tUcall sp E t) := by
  obtain ⟨fd, F, b, kp⟩ := h
  exact pe_ucall hg hm r c kp F hr b hx ha hdb hst hpl ht
theorem sub_of {a C : Addr} {n : Nat} {l : List Nat} {vs0 : List V} {H : Hp} {b : Addr} {Q : VK} (hs : ∀ (dx b : Addr) (n' : Nat) (l' : List Nat) (H' : Hp), n :: l = n' :: l' → H dx = none → H b = none → b ≠ a → dx ≠ a → dx ≠ b → (∀ c o, c ≠ a → H c = some o → H' c = some o) → H' a = some (exo a C (some dx)) → H' dx = some (exd dx [(("behind" : Str), .ref b), (("number" : Str), .int n')]) → H' b = some (.lst (nv l')) → Q .non H')
    (ha : H a = some (exo a C none)) (hb : H b = none) {dx : Addr} (hdx : upd H b (.lst (nv l)) dx = none) (ne : dx ≠ a) : Q .non (upd (upd (upd (upd H b (.lst (nv l))) dx (exd dx [(("number" : Str), .int n)])) a (exo a C (some dx))) dx (exd dx [(("behind" : Str), .ref b), (("number" : Str), .int n)])) := by
  have db : dx ≠ b := fun e => by rw [e, upd_same] at hdx; cases hdx
  have hd' : H dx = none := by rw [upd_ne db] at hdx; exact hdx
  have ba : b ≠ a := fun e => by rw [e, ha] at hb; cases hb
  refine hs dx b n l _ rfl hd' hb ba ne db (fun c o hc ho => ?_) ?_ upd_same ?_
  · rw [upd_ne (ne_of_none ho hd'), upd_ne hc, upd_ne (ne_of_none ho hd'), upd_ne (ne_of_none ho hb)]; exact ho
  · rw [upd_ne (Ne.symm ne)]; exact upd_same
  · rw [upd_ne (Ne.symm db), upd_ne ba, upd_ne (Ne.symm db)]; exact upd_same
theorem k_eMalformed (z : Z K mg) : Kp P w K mg base CX0 2 (He.ma K (He.ga K "Malformed") "__init__") ["self"] (spSubInit K [] [1]) := by
  have nd := (sc_Malformed_init).nd
  have xu := x_up z
  refine kp0 (f_Malformed_init z) sc_Malformed_init (fun vs H Q E h => ?_) fun cdv A outer s H vs Q E hr h => ⟨_, (pss_one (ps_expr (Kp.ucall (k_Refusal z) xu.1 xu.2.1 (by rfl) (g_Refusal z) hr pass0 (pa_cons (pv 0) (pa_cons (pe_int) (pa_cons (pe_lst pa_nil) pa_nil)))))), ?_⟩
  · obtain ⟨_, _, rfl, _⟩ := h; rfl
  · obtain ⟨a, C, rfl, T, hn, hb, ha, q⟩ := h
    refine ⟨_, rfl, by decide, fun b hbn => ?_⟩
    refine ⟨a, C, b, ((1 : Nat) : Int), rfl, T, hn, hb, by rw [upd_ne (ne_of_none ha hbn)]; exact ha, fun dx hdx ne => ?_⟩
    exact sub_of (vs0 := []) (l := []) q ha hbn hdx ne
theorem k_eTextTooLong (z : Z K mg) : Kp P w K mg base CX0 2 (He.ma K (He.ga K "TextTooLong") "__init__") ["self"] (spSubInit K [] [2]) := by
  have nd := (sc_TextTooLong_init).nd
  have xu := x_up z
  refine kp0 (f_TextTooLong_init z) sc_TextTooLong_init (fun vs H Q E h => ?_) fun cdv A outer s H vs Q E hr h => ⟨_, (pss_one (ps_expr (Kp.ucall (k_Refusal z) xu.1 xu.2.1 (by rfl) (g_Refusal z) hr pass0 (pa_cons (pv 0) (pa_cons (pe_int) (pa_cons (pe_lst pa_nil) pa_nil)))))), ?_⟩
  · obtain ⟨_, _, rfl, _⟩ := h; rfl
  · obtain ⟨a, C, rfl, T, hn, hb, ha, q⟩ := h
    refine ⟨_, rfl, by decide, fun b hbn => ?_⟩
    refine ⟨a, C, b, ((2 : Nat) : Int), rfl, T, hn, hb, by rw [upd_ne (ne_of_none ha hbn)]; exact ha, fun dx hdx ne => ?_⟩
    exact sub_of (vs0 := []) (l := []) q ha hbn hdx ne
theorem k_eNoStock (z : Z K mg) : Kp P w K mg base CX0 2 (He.ma K (He.ga K "NoStock") "__init__") ["self"] (spSubInit K [] [4]) := by
  have nd := (sc_NoStock_init).nd
  have xu := x_up z
  refine kp0 (f_NoStock_init z) sc_NoStock_init (fun vs H Q E h => ?_) fun cdv A outer s H vs Q E hr h => ⟨_, (pss_one (ps_expr (Kp.ucall (k_Refusal z) xu.1 xu.2.1 (by rfl) (g_Refusal z) hr pass0 (pa_cons (pv 0) (pa_cons (pe_int) (pa_cons (pe_lst pa_nil) pa_nil)))))), ?_⟩
  · obtain ⟨_, _, rfl, _⟩ := h; rfl
  · obtain ⟨a, C, rfl, T, hn, hb, ha, q⟩ := h
    refine ⟨_, rfl, by decide, fun b hbn => ?_⟩
    refine ⟨a, C, b, ((4 : Nat) : Int), rfl, T, hn, hb, by rw [upd_ne (ne_of_none ha hbn)]; exact ha, fun dx hdx ne => ?_⟩
    exact sub_of (vs0 := []) (l := []) q ha hbn hdx ne
theorem k_eNoItems (z : Z K mg) : Kp P w K mg base CX0 2 (He.ma K (He.ga K "NoItems") "__init__") ["self"] (spSubInit K [] [5]) := by
  have nd := (sc_NoItems_init).nd
  have xu := x_up z
  refine kp0 (f_NoItems_init z) sc_NoItems_init (fun vs H Q E h => ?_) fun cdv A outer s H vs Q E hr h => ⟨_, (pss_one (ps_expr (Kp.ucall (k_Refusal z) xu.1 xu.2.1 (by rfl) (g_Refusal z) hr pass0 (pa_cons (pv 0) (pa_cons (pe_int) (pa_cons (pe_lst pa_nil) pa_nil)))))), ?_⟩
  · obtain ⟨_, _, rfl, _⟩ := h; rfl
  · obtain ⟨a, C, rfl, T, hn, hb, ha, q⟩ := h
    refine ⟨_, rfl, by decide, fun b hbn => ?_⟩
    refine ⟨a, C, b, ((5 : Nat) : Int), rfl, T, hn, hb, by rw [upd_ne (ne_of_none ha hbn)]; exact ha, fun dx hdx ne => ?_⟩
    exact sub_of (vs0 := []) (l := []) q ha hbn hdx ne
theorem k_eOtherShelves (z : Z K mg) : Kp P w K mg base CX0 2 (He.ma K (He.ga K "OtherShelves") "__init__") ["self"] (spSubInit K [] [6]) := by
  have nd := (sc_OtherShelves_init).nd
  have xu := x_up z
  refine kp0 (f_OtherShelves_init z) sc_OtherShelves_init (fun vs H Q E h => ?_) fun cdv A outer s H vs Q E hr h => ⟨_, (pss_one (ps_expr (Kp.ucall (k_Refusal z) xu.1 xu.2.1 (by rfl) (g_Refusal z) hr pass0 (pa_cons (pv 0) (pa_cons (pe_int) (pa_cons (pe_lst pa_nil) pa_nil)))))), ?_⟩
  · obtain ⟨_, _, rfl, _⟩ := h; rfl
  · obtain ⟨a, C, rfl, T, hn, hb, ha, q⟩ := h
    refine ⟨_, rfl, by decide, fun b hbn => ?_⟩
    refine ⟨a, C, b, ((6 : Nat) : Int), rfl, T, hn, hb, by rw [upd_ne (ne_of_none ha hbn)]; exact ha, fun dx hdx ne => ?_⟩
    exact sub_of (vs0 := []) (l := []) q ha hbn hdx ne
theorem k_eNoRound (z : Z K mg) : Kp P w K mg base CX0 2 (He.ma K (He.ga K "NoRound") "__init__") ["self"] (spSubInit K [] [7]) := by
  have nd := (sc_NoRound_init).nd
  have xu := x_up z
  refine kp0 (f_NoRound_init z) sc_NoRound_init (fun vs H Q E h => ?_) fun cdv A outer s H vs Q E hr h => ⟨_, (pss_one (ps_expr (Kp.ucall (k_Refusal z) xu.1 xu.2.1 (by rfl) (g_Refusal z) hr pass0 (pa_cons (pv 0) (pa_cons (pe_int) (pa_cons (pe_lst pa_nil) pa_nil)))))), ?_⟩
  · obtain ⟨_, _, rfl, _⟩ := h; rfl
  · obtain ⟨a, C, rfl, T, hn, hb, ha, q⟩ := h
    refine ⟨_, rfl, by decide, fun b hbn => ?_⟩
    refine ⟨a, C, b, ((7 : Nat) : Int), rfl, T, hn, hb, by rw [upd_ne (ne_of_none ha hbn)]; exact ha, fun dx hdx ne => ?_⟩
    exact sub_of (vs0 := []) (l := []) q ha hbn hdx ne
theorem k_eShopIsOpen (z : Z K mg) : Kp P w K mg base CX0 2 (He.ma K (He.ga K "ShopIsOpen") "__init__") ["self"] (spSubInit K [] [8]) := by
  have nd := (sc_ShopIsOpen_init).nd
  have xu := x_up z
  refine kp0 (f_ShopIsOpen_init z) sc_ShopIsOpen_init (fun vs H Q E h => ?_) fun cdv A outer s H vs Q E hr h => ⟨_, (pss_one (ps_expr (Kp.ucall (k_Refusal z) xu.1 xu.2.1 (by rfl) (g_Refusal z) hr pass0 (pa_cons (pv 0) (pa_cons (pe_int) (pa_cons (pe_lst pa_nil) pa_nil)))))), ?_⟩
  · obtain ⟨_, _, rfl, _⟩ := h; rfl
  · obtain ⟨a, C, rfl, T, hn, hb, ha, q⟩ := h
    refine ⟨_, rfl, by decide, fun b hbn => ?_⟩
    refine ⟨a, C, b, ((8 : Nat) : Int), rfl, T, hn, hb, by rw [upd_ne (ne_of_none ha hbn)]; exact ha, fun dx hdx ne => ?_⟩
    exact sub_of (vs0 := []) (l := []) q ha hbn hdx ne
theorem k_eNoFilling (z : Z K mg) : Kp P w K mg base CX0 2 (He.ma K (He.ga K "NoFilling") "__init__") ["self"] (spSubInit K [] [9]) := by
  have nd := (sc_NoFilling_init).nd
  have xu := x_up z
  refine kp0 (f_NoFilling_init z) sc_NoFilling_init (fun vs H Q E h => ?_) fun cdv A outer s H vs Q E hr h => ⟨_, (pss_one (ps_expr (Kp.ucall (k_Refusal z) xu.1 xu.2.1 (by rfl) (g_Refusal z) hr pass0 (pa_cons (pv 0) (pa_cons (pe_int) (pa_cons (pe_lst pa_nil) pa_nil)))))), ?_⟩
  · obtain ⟨_, _, rfl, _⟩ := h; rfl
  · obtain ⟨a, C, rfl, T, hn, hb, ha, q⟩ := h
    refine ⟨_, rfl, by decide, fun b hbn => ?_⟩
    refine ⟨a, C, b, ((9 : Nat) : Int), rfl, T, hn, hb, by rw [upd_ne (ne_of_none ha hbn)]; exact ha, fun dx hdx ne => ?_⟩
    exact sub_of (vs0 := []) (l := []) q ha hbn hdx ne
theorem k_eStepsSpent (z : Z K mg) : Kp P w K mg base CX0 2 (He.ma K (He.ga K "StepsSpent") "__init__") ["self"] (spSubInit K [] [10]) := by
  have nd := (sc_StepsSpent_init).nd
  have xu := x_up z
  refine kp0 (f_StepsSpent_init z) sc_StepsSpent_init (fun vs H Q E h => ?_) fun cdv A outer s H vs Q E hr h => ⟨_, (pss_one (ps_expr (Kp.ucall (k_Refusal z) xu.1 xu.2.1 (by rfl) (g_Refusal z) hr pass0 (pa_cons (pv 0) (pa_cons (pe_int) (pa_cons (pe_lst pa_nil) pa_nil)))))), ?_⟩
  · obtain ⟨_, _, rfl, _⟩ := h; rfl
  · obtain ⟨a, C, rfl, T, hn, hb, ha, q⟩ := h
    refine ⟨_, rfl, by decide, fun b hbn => ?_⟩
    refine ⟨a, C, b, ((10 : Nat) : Int), rfl, T, hn, hb, by rw [upd_ne (ne_of_none ha hbn)]; exact ha, fun dx hdx ne => ?_⟩
    exact sub_of (vs0 := []) (l := []) q ha hbn hdx ne
theorem k_eShopIsClosed (z : Z K mg) : Kp P w K mg base CX0 2 (He.ma K (He.ga K "ShopIsClosed") "__init__") ["self"] (spSubInit K [] [11]) := by
  have nd := (sc_ShopIsClosed_init).nd
  have xu := x_up z
  refine kp0 (f_ShopIsClosed_init z) sc_ShopIsClosed_init (fun vs H Q E h => ?_) fun cdv A outer s H vs Q E hr h => ⟨_, (pss_one (ps_expr (Kp.ucall (k_Refusal z) xu.1 xu.2.1 (by rfl) (g_Refusal z) hr pass0 (pa_cons (pv 0) (pa_cons (pe_int) (pa_cons (pe_lst pa_nil) pa_nil)))))), ?_⟩
  · obtain ⟨_, _, rfl, _⟩ := h; rfl
  · obtain ⟨a, C, rfl, T, hn, hb, ha, q⟩ := h
    refine ⟨_, rfl, by decide, fun b hbn => ?_⟩
    refine ⟨a, C, b, ((11 : Nat) : Int), rfl, T, hn, hb, by rw [upd_ne (ne_of_none ha hbn)]; exact ha, fun dx hdx ne => ?_⟩
    exact sub_of (vs0 := []) (l := []) q ha hbn hdx ne
theorem k_eNoTaking (z : Z K mg) : Kp P w K mg base CX0 2 (He.ma K (He.ga K "NoTaking") "__init__") ["self"] (spSubInit K [] [12]) := by
  have nd := (sc_NoTaking_init).nd
  have xu := x_up z
  refine kp0 (f_NoTaking_init z) sc_NoTaking_init (fun vs H Q E h => ?_) fun cdv A outer s H vs Q E hr h => ⟨_, (pss_one (ps_expr (Kp.ucall (k_Refusal z) xu.1 xu.2.1 (by rfl) (g_Refusal z) hr pass0 (pa_cons (pv 0) (pa_cons (pe_int) (pa_cons (pe_lst pa_nil) pa_nil)))))), ?_⟩
  · obtain ⟨_, _, rfl, _⟩ := h; rfl
  · obtain ⟨a, C, rfl, T, hn, hb, ha, q⟩ := h
    refine ⟨_, rfl, by decide, fun b hbn => ?_⟩
    refine ⟨a, C, b, ((12 : Nat) : Int), rfl, T, hn, hb, by rw [upd_ne (ne_of_none ha hbn)]; exact ha, fun dx hdx ne => ?_⟩
    exact sub_of (vs0 := []) (l := []) q ha hbn hdx ne
theorem k_eShelfFoundEmpty (z : Z K mg) : Kp P w K mg base CX0 2 (He.ma K (He.ga K "ShelfFoundEmpty") "__init__") ["self"] (spSubInit K [] [13]) := by
  have nd := (sc_ShelfFoundEmpty_init).nd
  have xu := x_up z
  refine kp0 (f_ShelfFoundEmpty_init z) sc_ShelfFoundEmpty_init (fun vs H Q E h => ?_) fun cdv A outer s H vs Q E hr h => ⟨_, (pss_one (ps_expr (Kp.ucall (k_Refusal z) xu.1 xu.2.1 (by rfl) (g_Refusal z) hr pass0 (pa_cons (pv 0) (pa_cons (pe_int) (pa_cons (pe_lst pa_nil) pa_nil)))))), ?_⟩
  · obtain ⟨_, _, rfl, _⟩ := h; rfl
  · obtain ⟨a, C, rfl, T, hn, hb, ha, q⟩ := h
    refine ⟨_, rfl, by decide, fun b hbn => ?_⟩
    refine ⟨a, C, b, ((13 : Nat) : Int), rfl, T, hn, hb, by rw [upd_ne (ne_of_none ha hbn)]; exact ha, fun dx hdx ne => ?_⟩
    exact sub_of (vs0 := []) (l := []) q ha hbn hdx ne
/-- a line at fault -/
def eOf (i : Int) : List Nat := [3, i.toNat % 256, i.toNat / 256]
theorem k_eInvalidLine (z : Z K mg) : Kp P w K mg base CX0 2 (He.ma K (He.ga K "InvalidLine") "__init__") ["self", "line"] (fun vs H Q E => ∃ i : Int, 0 ≤ i ∧ spSubInit K [.int i] (eOf i) vs H Q E) := by
  have nd := sc_InvalidLine_init.nd
  have xu := x_up z
  refine kp0 (f_InvalidLine_init z) sc_InvalidLine_init (fun vs H Q E h => ?_) fun cdv A outer s H vs Q E hr h => ⟨_, (pss_one (ps_expr (Kp.ucall (k_Refusal z) xu.1 xu.2.1 (by rfl) (g_Refusal z) hr pass0 (pa_cons (pv 0) (pa_cons (pe_int) (pa_cons (pe_lst (pa_cons (pe_op op_mod (pv 1) pe_int) (pa_cons (pe_op op_fdiv (pv 1) pe_int) pa_nil))) pa_nil)))))), ?_⟩
  · obtain ⟨_, _, _, _, rfl, _⟩ := h; rfl
  · obtain ⟨i, hi, a, C, rfl, T, hn, hb, ha, q⟩ := h
    obtain ⟨n, rfl⟩ := Int.eq_ofNat_of_zero_le hi
    refine ⟨_, rfl, _, rfl, _, _, rfl, rfl, by show (0 : Int) < 256; decide, _, rfl, _, _, rfl, rfl, ⟨by decide, by decide⟩, by show 2 ≤ sizeLine; decide, fun b hbn => ?_⟩
    refine ⟨a, C, b, ((3 : Nat) : Int), rfl, T, hn, hb, by rw [upd_ne (ne_of_none ha hbn)]; exact ha, fun dx hdx ne => ?_⟩
    have e : [V.int ((n : Int) % 256), V.int ((n : Int) / 256)] = nv [n % 256, n / 256] := rfl
    rw [e] at hdx ⊢
    exact sub_of (vs0 := []) (l := [n % 256, n / 256]) q ha hbn hdx ne
/-- raise X() in a def that may raise -/
theorem raise0 {X : Cx} {x : Str} {W : WX} {n : Nat} {l : List Nat} {k : Nat} {p pos pos2 : Pos} (z : Z X.K X.mg) (hx : x ∈ xNames) (h : Kp X.prog X.w X.K X.mg X.base CX0 k (He.ma X.K (He.ga X.K x) "__init__") ["self"] (spSubInit X.K [] (n :: l))) (hc : X.calm = true) (tk : Takes X W) (hr : Room (k + 1) X.A) (hg : Gl X x) (hm : X.mg x = some (.ref (He.ga X.K x))) (hdb : (x == ("__debug__" : Str)) = false := by decide) :
    PS X (.Raise (some (.Call (.Name x p) [] [] pos)) none pos2) (tRz X.K (xRef X.K) (n :: l) W) := by
  obtain ⟨fd, F, b, kp⟩ := h
  obtain ⟨T, rc, iC, tI⟩ := x_one z hx
  exact ps_rz0 rfl hc tk T rc iC tI F hr b pass0 hg hm hdb
/-- a method's call -/
theorem Kp.meth {X : Cx} {CX : CXT} {k : Nat} {f C : Addr} {ps : List Str} {sp : Sp} {E : XK} {m : Str} {pos apos : Pos} {e o : Expr} {es : List Expr} {ta : TE} {t : TA} {pl : Sem Bool} (h : Kp X.prog X.w X.K X.mg X.base CX k f ps sp) (c : Cls X.K C) (hm : Meth X.K C m f) (hr : Room k X.A) (hx : Passes CX X E) (he : PE X o ta) (ha : PA X (e :: es) t)
    (hs : starEach (e :: es) X.env = (false, eval e X.env) :: starEach es X.env := by rfl) (hpl : (backTo pos (starEach es X.env)).any (·.1) = false := by rfl)
    (ht : eval (.Call (.Attribute o m apos) (e :: es) [] pos) X.env = (do
      let ov ← eval o X.env; standAt apos.atName
      let (f, first) ← holding [ov] (getMethod ov m pl); callWith pos f first (backTo pos (starEach (e :: es) X.env)) (backToKw pos (keywordEach [] X.env))) := by rfl) : PE X (.Call (.Attribute o m apos) (e :: es) [] pos) (tMeth C m sp [] E ta t) := by
  obtain ⟨fd, F, b, kp⟩ := h
  exact pe_meth he c hm F hr b .nil hx ha hs hpl ht
theorem Kp.meth0 {X : Cx} {CX : CXT} {k : Nat} {f C : Addr} {ps : List Str} {sp : Sp} {E : XK} {m : Str} {pos apos : Pos} {o : Expr} {ta : TE} {pl : Sem Bool} (h : Kp X.prog X.w X.K X.mg X.base CX k f ps sp) (c : Cls X.K C) (hm : Meth X.K C m f) (hr : Room k X.A) (hx : Passes CX X E) (he : PE X o ta)
    (ht : eval (.Call (.Attribute o m apos) [] [] pos) X.env = (do
      let ov ← eval o X.env; standAt apos.atName
      let (f, first) ← holding [ov] (getMethod ov m pl); callWith pos f first (backTo pos (starEach [] X.env)) (backToKw pos (keywordEach [] X.env))) := by rfl) : PE X (.Call (.Attribute o m apos) [] [] pos) (tMeth C m sp [] E ta tNil) := by
  obtain ⟨fd, F, b, kp⟩ := h
  exact pe_meth0 he c hm F hr b .nil hx ht
/-- errors go on as they come -/
theorem passX {X : Cx} {E : XK} (tk : Takes X fun cls d _ H => E cls d H) : Passes (L2.CX X.prog X.w) X E := passes_call tk fun _ _ _ _ h => h
end
end Fs
set_option Elab.async false
set_option linter.all false
set_option maxRecDepth 100000
set_option maxHeartbeats 4000000
namespace Fs
open PySem PySem.Spec PyProof.Rows L2 FsX
open Evl (Ex Ex.refl Ex.trans Ex.new Ex.mut fresh_back)
theorem ifT {c A B : Prop} [Decidable c] (h : c) (a : A) : if c then A else B := by rw [if_pos h]; exact a
theorem ifF {c A B : Prop} [Decidable c] (h : ¬ c) (b : B) : if c then A else B := by rw [if_neg h]; exact b
def rFs (a : Addr) (pl : Nat) : List (Str × V) := putF ("place" : Str) (.int (pl : Nat)) (putF ("octets" : Str) (.ref a) [])
abbrev RD (K : PySem.W.Frag) : Addr := He.ga K "Reader"
theorem cut_nv (l : List Nat) (i j : Nat) (h1 : i ≤ j) (h2 : j ≤ l.length) : cutV (nv l) (some (i : Int)) (some (j : Int)) = nv ((l.drop i).take (j - i)) := by
  unfold cutV
  have e : ∀ n : Nat, n ≤ l.length → ∀ d, HT.sIx (nv l).length d (some (n : Int)) = n := fun n hn d => by
    unfold HT.sIx
    simp only
    rw [if_neg (by omega), nv_len]
    show min n l.length = n
    omega
  rw [e i (by omega), e j h2]
  unfold nv
  rw [List.map_take, List.map_drop]
section
variable {P : Program} {w : World} {K : PySem.W.Frag} {mg : Str → Option Value} {base : Heap}
def spReaderI (K : PySem.W.Frag) : Sp := fun vs H Q _ => ∃ (x dx a : Addr), vs = [.ref x, .ref a] ∧ H x = some (.ins (RD K) dx []) ∧ Q .non (upd H x (.ins (RD K) dx (rFs a 0)))
theorem k_Reader_init (z : Z K mg) : Kp P w K mg base CX0 1 (He.ma K (He.ga K "Reader") "__init__") ["self", "octets"] (spReaderI K) := by
  have nd := sc_Reader_init.nd
  refine kp0 (f_Reader_init z) sc_Reader_init (fun vs H Q E h => ?_) fun cdv A outer s H vs Q E hr h => ⟨_, (pss_cons (ps_fld (pv 0) (pv 1) rfl) (pss_one (ps_fld (pv 0) pe_int rfl))), ?_⟩
  · obtain ⟨_, _, _, rfl, _⟩ := h; rfl
  · obtain ⟨x, dx, a, rfl, hx, q⟩ := h
    simp only [hx, upd_same, upd_upd, cl_Reader z, na_Reader_octets z, na_Reader_place z, Option.some.injEq, HO.ins.injEq, tNil, tCons, tC, tDrop, tOp, rI0, tCB, rEq, rNe, tNext, tRet, tRetN, tSeq, tAsg, tAug, tTest, tIfS, tIf, tNot, tAnd, tOr, tBM, tBM0, tCall, tTup, tTupZ, tLst, tFld, sFld, tMeth, tMake, tB, tYes, tCmp, t2I, tIsN, tNotN, tDGet, tDGet1, tDGet2, tDIn, tDNotIn, tAndV, tOrV, tNotV, tDNewT, sDPut, tSl, tPart, tNoPart, rSlL, tThen, tCntZ, tFgt, tChain, gCons, gNil, gTup, rCatZ, rCatA, rCat, rAppend, rExtend, rIn, rInD, rNotInD, rEqD, rNeD, rIxL, rIxT, tSub, tAdd, tBreak, tCont, tPar, rSum, rSumT, rMaxT, tyV, L2.start, List.map_cons, List.map_nil, List.length_cons, List.length_nil, List.cons_append, List.nil_append, List.append_nil, List.replicate, Nat.reduceAdd, Nat.reduceSub, wipe, List.set_cons_zero, List.set_cons_succ, nox_K, cxOf_K, blk_K, suite_K, tVar_0, tVar_1, tVar_2, tVar_3, tVar_4, tVar_5, tVar_6, tVar_7, tVar_8, tVar_9, tVar_10, tVar_11, tVar_12, tVar_13, tVar_14, tVar_15, gName_0, gName_1, gName_2, gName_3, gName_4, gName_5, gName_6, gName_7, gName_8, gName_9, gName_10, gName_11, gName_12, gName_13, gName_14, gName_15, and_assoc, exists_eq_left', exists_eq_left, exists_eq, exists_eq', exists_and_left, exists_const, and_true, true_and, V.int.injEq, V.ref.injEq, V.bl.injEq, V.str.injEq, List.cons.injEq, and_self, scal, Bool.false_eq_true, if_false, if_true, reduceCtorEq, false_and, and_false, false_or, or_false, ↓reduceIte]
    exact ⟨by decide, by show 1 < 1000; decide, q⟩
/-- the reader read on -/
def On (K : PySem.W.Frag) (x dx a : Addr) (pl : Nat) (H H' : Hp) : Prop := Ex (L2.del H x) H' ∧ H' x = some (.ins (RD K) dx (rFs a pl))
def spTake (K : PySem.W.Frag) : Sp := fun vs H Q E => ∃ (x dx a : Addr) (l : List Nat) (pl c : Nat), vs = [.ref x, .int c] ∧ H x = some (.ins (RD K) dx (rFs a pl)) ∧ L H a l ∧ pl ≤ l.length ∧
  (pl + c ≤ l.length → ∀ r H', H r = none → On K x dx a (pl + c) H H' → L H' r ((l.drop pl).take c) → Q (.ref r) H') ∧ (l.length < pl + c → Out K (xRef K) (L2.del H x) [1] E)
theorem k_take (z : Z K mg) : Kp P w K mg base (L2.CX P w) 4 (He.ma K (He.ga K "Reader") "take") ["self", "count"] (spTake K) := by
  have nd := sc_Reader_take.nd
  refine kpX (f_Reader_take z) sc_Reader_take (fun vs H Q E h => ?_) fun cdv A outer s H vs Q E hr h => ⟨_,
    (pss_cons ((ps_set (i := 2) nd rfl (by first | exact Or.inl rfl | exact Or.inr rfl) ((pe_op op_add (pe_fld (pv 0) rfl) (pv 1))))) (pss_cons (ps_if (pt_cmpR op_gt (pv 2) ((pe_callB call_len_seq (by rfl) ((b_len z)) PySem.boot_len (pa_cons ((pe_fld (pv 0) rfl)) pa_nil))) (nomark _)) (pss_one ((raise0 (x := "Malformed") z (by decide) ((k_eMalformed z)) rfl (takes_of rfl rfl rfl rfl) (Room.mono hr (by decide)) (by rfl) ((g_Malformed z))))) pss_nil) (pss_cons ((ps_set (i := 3) nd rfl (by first | exact Or.inl rfl | exact Or.inr rfl) ((pe_slice sl_list (pe_fld (pv 0) rfl) (po_some (pe_fld (pv 0) rfl)) (po_some (pv 2)))))) (pss_cons (ps_fld (pv 0) (pv 2) rfl) (pss_one (ps_ret (pv 3))))))), ?_⟩
  · obtain ⟨_, _, _, _, _, _, rfl, _⟩ := h; rfl
  · obtain ⟨x, dx, a, l, pl, c, rfl, hx, ha, hpl, q, qe⟩ := h
    have lo : (rFs a pl).lookup ("octets" : Str) = some (.ref a) := rfl
    have lp : (rFs a pl).lookup ("place" : Str) = some (.int pl) := rfl
    simp only [hx, lo, lp, cl_Reader z, na_Reader_octets z, na_Reader_place z, Option.some.injEq, HO.ins.injEq, tNil, tCons, tC, tDrop, tOp, rI0, tCB, rEq, rNe, tNext, tRet, tRetN, tSeq, tAsg, tAug, tTest, tIfS, tIf, tNot, tAnd, tOr, tBM, tBM0, tCall, tTup, tTupZ, tLst, tFld, sFld, tMeth, tMake, tB, tYes, tCmp, t2I, tIsN, tNotN, tDGet, tDGet1, tDGet2, tDIn, tDNotIn, tAndV, tOrV, tNotV, tDNewT, sDPut, tSl, tPart, tNoPart, rSlL, tThen, tCntZ, tFgt, tChain, gCons, gNil, gTup, rCatZ, rCatA, rCat, rAppend, rExtend, rIn, rInD, rNotInD, rEqD, rNeD, rIxL, rIxT, tSub, tAdd, tBreak, tCont, tPar, rSum, rSumT, rMaxT, tyV, L2.start, List.map_cons, List.map_nil, List.length_cons, List.length_nil, List.cons_append, List.nil_append, List.append_nil, List.replicate, Nat.reduceAdd, Nat.reduceSub, wipe, List.set_cons_zero, List.set_cons_succ, nox_K, cxOf_K, blk_K, suite_K, tVar_0, tVar_1, tVar_2, tVar_3, tVar_4, tVar_5, tVar_6, tVar_7, tVar_8, tVar_9, tVar_10, tVar_11, tVar_12, tVar_13, tVar_14, tVar_15, gName_0, gName_1, gName_2, gName_3, gName_4, gName_5, gName_6, gName_7, gName_8, gName_9, gName_10, gName_11, gName_12, gName_13, gName_14, gName_15, and_assoc, exists_eq_left', exists_eq_left, exists_eq, exists_eq', exists_and_left, exists_const, and_true, true_and, V.int.injEq, V.ref.injEq, V.bl.injEq, V.str.injEq, List.cons.injEq, and_self, scal, Bool.false_eq_true, if_false, if_true, reduceCtorEq, false_and, and_false, false_or, or_false, ↓reduceIte]
    refine ⟨_, .inl ha.sq, ite2 (fun g => ?_) (fun g => ?_)⟩
    · rw [nv_len] at g
      exact (qe (by have := of_decide_eq_true g; omega)).mono exDelSelf
    · rw [nv_len] at g
      have hle : pl + c ≤ l.length := by
        rcases Nat.lt_or_ge l.length (pl + c) with k | k
        · exact absurd (decide_eq_true (by omega)) g
        · exact k
      refine ⟨nv l, ha.sq, fun r hr' => ?_⟩
      have ne : r ≠ x := fun e => by rw [e, hx] at hr'; cases hr'
      refine ⟨RD K, dx, rFs a pl, by rw [upd_ne ne.symm]; exact hx, cl_Reader z, na_Reader_place z, by show 2 < 1000; decide, ?_⟩
      have ec : ((pl : Int) + (c : Int)) = ((pl + c : Nat) : Int) := by omega
      rw [ec, cut_nv l pl (pl + c) (by omega) hle, show pl + c - pl = c from by omega]
      refine q hle r _ hr' ⟨fun b o hb => ?_, upd_same⟩ ?_
      · by_cases h : b = x
        · subst h; simp [L2.del] at hb
        · rw [del_ne h] at hb
          rw [upd_ne h, upd_ne (ne_of_none hb hr')]; exact hb
      · show upd _ _ _ r = _
        rw [upd_ne ne, upd_same]
def spU8 (K : PySem.W.Frag) : Sp := fun vs H Q E => ∃ (x dx a : Addr) (l : List Nat) (pl : Nat), vs = [.ref x] ∧ H x = some (.ins (RD K) dx (rFs a pl)) ∧ L H a l ∧ pl ≤ l.length ∧
  (∀ n, l[pl]? = some n → ∀ H', On K x dx a (pl + 1) H H' → Q (.int (n : Nat)) H') ∧ (l.length = pl → Out K (xRef K) (L2.del H x) [1] E)
theorem k_u8 (z : Z K mg) : Kp P w K mg base (L2.CX P w) 5 (He.ma K (He.ga K "Reader") "u8") ["self"] (spU8 K) := by
  have nd := sc_Reader_u8.nd
  refine kpX (f_Reader_u8 z) sc_Reader_u8 (fun vs H Q E h => ?_) fun cdv A outer s H vs Q E hr h => ⟨_,
    (pss_one (ps_ret (pe_ix ix_list ((Kp.meth ((k_take z)) ((cl_Reader z)) ((me_Reader_take z)) (Room.mono hr (by decide)) (passX (takes_of rfl rfl rfl rfl)) ((pv 0)) ((pa_cons (pe_int) pa_nil)))) pe_int (fun _ _ => rfl)))), ?_⟩
  · obtain ⟨_, _, _, _, _, rfl, _⟩ := h; rfl
  · obtain ⟨x, dx, a, l, pl, rfl, hx, ha, hpl, q, qe⟩ := h
    refine ⟨_, rfl, x, dx, _, rfl, hx, rfl, x, dx, a, l, pl, 1, rfl, hx, ha, hpl, fun hle r H1 _ on hr1 => ?_, fun hlt => qe (by omega)⟩
    have hl : pl < l.length := by omega
    obtain ⟨n, hn⟩ : ∃ n, l[pl]? = some n := ⟨_, List.getElem?_eq_getElem hl⟩
    have e : (l.drop pl).take 1 = [n] := by
      rw [List.drop_eq_getElem_cons hl, List.take_succ_cons, List.take_zero]
      rw [List.getElem?_eq_getElem hl] at hn
      cases hn; rfl
    rw [e] at hr1
    exact ⟨r, _, _, _, rfl, rfl, SqL.of hr1, rfl, q n hn H1 on⟩
def spU16 (K : PySem.W.Frag) : Sp := fun vs H Q E => ∃ (x dx a : Addr) (l : List Nat) (pl : Nat), vs = [.ref x] ∧ H x = some (.ins (RD K) dx (rFs a pl)) ∧ L H a l ∧ pl ≤ l.length ∧
  (∀ n m, l[pl]? = some n → l[pl + 1]? = some m → ∀ H', On K x dx a (pl + 2) H H' → Q (.int ((n + 256 * m : Nat) : Int)) H') ∧ (l.length < pl + 2 → Out K (xRef K) (L2.del H x) [1] E)
theorem k_u16 (z : Z K mg) : Kp P w K mg base (L2.CX P w) 5 (He.ma K (He.ga K "Reader") "u16") ["self"] (spU16 K) := by
  have nd := sc_Reader_u16.nd
  refine kpX (f_Reader_u16 z) sc_Reader_u16 (fun vs H Q E h => ?_) fun cdv A outer s H vs Q E hr h => ⟨_,
    (pss_cons ((ps_set (i := 1) nd rfl (by first | exact Or.inl rfl | exact Or.inr rfl) (((Kp.meth ((k_take z)) ((cl_Reader z)) ((me_Reader_take z)) (Room.mono hr (by decide)) (passX (takes_of rfl rfl rfl rfl)) ((pv 0)) ((pa_cons (pe_int) pa_nil))))))) (pss_one (ps_ret (pe_op op_add (pe_ix ix_list (pv 1) pe_int (fun _ _ => rfl)) (pe_op op_mul pe_int (pe_ix ix_list (pv 1) pe_int (fun _ _ => rfl))))))), ?_⟩
  · obtain ⟨_, _, _, _, _, rfl, _⟩ := h; rfl
  · obtain ⟨x, dx, a, l, pl, rfl, hx, ha, hpl, q, qe⟩ := h
    refine ⟨_, rfl, x, dx, _, rfl, hx, rfl, x, dx, a, l, pl, 2, rfl, hx, ha, hpl, fun hle r H1 _ on hr1 => ?_, fun hlt => qe (by omega)⟩
    have hl : pl < l.length := by omega
    have hl2 : pl + 1 < l.length := by omega
    obtain ⟨n, hn⟩ : ∃ n, l[pl]? = some n := ⟨_, List.getElem?_eq_getElem hl⟩
    obtain ⟨m, hm⟩ : ∃ n, l[pl + 1]? = some n := ⟨_, List.getElem?_eq_getElem hl2⟩
    have e : (l.drop pl).take 2 = [n, m] := by
      rw [List.drop_eq_getElem_cons hl, List.take_succ_cons, List.drop_eq_getElem_cons hl2, List.take_succ_cons, List.take_zero]
      rw [List.getElem?_eq_getElem hl] at hn
      rw [List.getElem?_eq_getElem hl2] at hm
      cases hn; cases hm; rfl
    rw [e] at hr1
    refine ⟨_, rfl, r, _, _, _, rfl, rfl, SqL.of hr1, rfl, ?_⟩
    refine ⟨_, rfl, r, _, _, _, rfl, rfl, SqL.of hr1, rfl, ?_⟩
    refine ⟨_, _, rfl, rfl, .inl ⟨by decide, by decide⟩, _, _, rfl, rfl, ?_⟩
    have e2 : ((n : Int) + 256 * (m : Int)) = ((n + 256 * m : Nat) : Int) := by omega
    show Q (V.int ((n : Int) + 256 * (m : Int))) H1
    rw [e2]
    exact q n m hn hm H1 on
theorem On.trans {x dx a : Addr} {p1 p2 : Nat} {H H1 H2 : Hp} (h : On K x dx a p1 H H1) (k : On K x dx a p2 H1 H2) : On K x dx a p2 H H2 := ⟨fun b o hb => by
  by_cases e : b = x
  · subst e; simp [L2.del] at hb
  · exact k.1 _ _ (by rw [del_ne e]; exact h.1 _ _ hb), k.2⟩
theorem On.fresh {x dx a r : Addr} {pl : Nat} {H H1 : Hp} (h : On K x dx a pl H H1) (hr : H1 r = none) : H r = none := by
  cases e : H r with
  | none => rfl
  | some o =>
    have : r ≠ x := fun q => by rw [q, h.2] at hr; cases hr
    have := h.1 r o (by rw [del_ne this]; exact e)
    rw [hr] at this; cases this
theorem On.bs {x dx a : Addr} {pl : Nat} {H H1 : Hp} (h : On K x dx a pl H H1) : Ex (L2.del H x) (L2.del H1 x) := fun b o hb => by
  by_cases e : b = x
  · subst e; simp [L2.del] at hb
  · rw [del_ne e (H := H1)]; exact h.1 _ _ hb
theorem On.L {x dx a b : Addr} {pl pl0 : Nat} {H H1 : Hp} {l : List Nat} (h : On K x dx a pl H H1) (hx : H x = some (.ins (RD K) dx (rFs a pl0))) (hb : L H b l) : L H1 b l := h.1 _ _ (by
  have : b ≠ x := fun e => by rw [e] at hb; rw [hb.lst] at hx; cases hx
  rw [del_ne this]; exact hb)
/-- kinds of parts -/
inductive Kd | seat | text | row
  deriving DecidableEq
def Kd.str : Kd → Str
  | .seat => "seat"
  | .text => "text"
  | .row => "row"
inductive PV | seat (n : Nat) | text (l : List Nat) | row (l : List Nat)
def partTake : Kd → Rs.Take PV
  | .seat => Rs.mapTake .seat Rs.takeU8
  | .text => Rs.mapTake .text Rs.takeText
  | .row => Rs.mapTake .row Rs.takeNumbers
def PvAt (H : Hp) (v : V) : PV → Prop
  | .seat n => v = .int (n : Nat)
  | .text l => ∃ a, v = .ref a ∧ L H a l
  | .row l => ∃ a, v = .ref a ∧ T H a l
theorem takeMany_u8 : ∀ (n : Nat) (l : List Nat), Rs.takeMany Rs.takeU8 n l = if n ≤ l.length then some (l.take n, l.drop n) else none
  | 0, l => rfl
  | n + 1, [] => rfl
  | n + 1, a :: l => by
    simp only [Rs.takeMany, Rs.next, Rs.takeU8, takeMany_u8 n l]
    by_cases h : n ≤ l.length
    · rw [if_pos h, if_pos (by simpa using h)]; rfl
    · rw [if_neg h, if_neg (by simpa using h)]
theorem drop_u8 (l : List Nat) (pl : Nat) : Rs.takeU8 (l.drop pl) = match l[pl]? with | some n => some (n, l.drop (pl + 1)) | none => none := by
  by_cases h : pl < l.length
  · rw [List.drop_eq_getElem_cons h, List.getElem?_eq_getElem h]; rfl
  · rw [List.drop_eq_nil_of_le (by omega), List.getElem?_eq_none (by omega)]; rfl
theorem drop_u16 (l : List Nat) (pl : Nat) : Rs.takeU16 (l.drop pl) = match l[pl]?, l[pl + 1]? with | some n, some m => some (n + 256 * m, l.drop (pl + 2)) | _, _ => none := by
  unfold Rs.takeU16 Rs.next
  rw [drop_u8]
  cases l[pl]? with
  | none => rfl
  | some n =>
    simp only
    rw [drop_u8]
    cases l[pl + 1]? with
    | none => rfl
    | some m => rfl
def spPart (K : PySem.W.Frag) : Sp := fun vs H Q E => ∃ (x dx a : Addr) (l : List Nat) (pl : Nat) (k : Kd), vs = [.ref x, .str k.str] ∧ H x = some (.ins (RD K) dx (rFs a pl)) ∧ L H a l ∧ pl ≤ l.length ∧
  (∀ v r, partTake k (l.drop pl) = some (v, r) → ∀ u H' pl', pl' ≤ l.length → r = l.drop pl' → On K x dx a pl' H H' → (∀ b, u = .ref b → H b = none) → PvAt H' u v → Q u H') ∧ (partTake k (l.drop pl) = none → Out K (xRef K) (L2.del H x) [1] E)
theorem k_part (z : Z K mg) : Kp P w K mg base (L2.CX P w) 6 (He.ma K (He.ga K "Reader") "part") ["self", "kind"] (spPart K) := by
  have nd := sc_Reader_part.nd
  refine kpX (f_Reader_part z) sc_Reader_part (fun vs H Q E h => ?_) fun cdv A outer s H vs Q E hr h => ⟨_,
    (pss_cons (ps_if (pt_cmpR op_eq (pv 1) pe_str (nomark _)) (pss_one (ps_ret ((Kp.meth0 ((k_u8 z)) ((cl_Reader z)) ((me_Reader_u8 z)) (Room.mono hr (by decide)) (passX (takes_of rfl rfl rfl rfl)) ((pv 0)))))) pss_nil) (pss_cons (ps_if (pt_cmpR op_eq (pv 1) pe_str (nomark _)) (pss_one (ps_ret ((Kp.meth ((k_take z)) ((cl_Reader z)) ((me_Reader_take z)) (Room.mono hr (by decide)) (passX (takes_of rfl rfl rfl rfl)) ((pv 0)) ((pa_cons ((Kp.meth0 ((k_u16 z)) ((cl_Reader z)) ((me_Reader_u16 z)) (Room.mono hr (by decide)) (passX (takes_of rfl rfl rfl rfl)) ((pv 0)))) pa_nil)))))) pss_nil) (pss_one (ps_ret (pe_callTy call_tuple_of (by rfl) (b_tuple z) (by decide +kernel) (pa_cons ((Kp.meth ((k_take z)) ((cl_Reader z)) ((me_Reader_take z)) (Room.mono hr (by decide)) (passX (takes_of rfl rfl rfl rfl)) ((pv 0)) ((pa_cons ((Kp.meth0 ((k_u8 z)) ((cl_Reader z)) ((me_Reader_u8 z)) (Room.mono hr (by decide)) (passX (takes_of rfl rfl rfl rfl)) ((pv 0)))) pa_nil)))) pa_nil)))))), ?_⟩
  · obtain ⟨_, _, _, _, _, _, rfl, _⟩ := h; rfl
  · obtain ⟨x, dx, a, l, pl, k, rfl, hx, ha, hpl, q, qe⟩ := h
    cases k with
    | seat =>
      refine ⟨_, rfl, rfl, _, rfl, ?_⟩
      refine ifT (by decide) ?_
      refine ⟨_, rfl, x, dx, _, rfl, hx, rfl, x, dx, a, l, pl, rfl, hx, ha, hpl, fun n hn H1 on => ?_, fun hle => qe ?_⟩
      · have hl : pl < l.length := (List.getElem?_eq_some_iff.1 hn).1
        refine q (.seat n) _ (by show Rs.mapTake PV.seat Rs.takeU8 _ = _; unfold Rs.mapTake Rs.next; rw [drop_u8, hn]; rfl) _ H1 (pl + 1) (by omega) rfl on (fun _ e => by cases e) rfl
      · show Rs.mapTake PV.seat Rs.takeU8 _ = _
        unfold Rs.mapTake Rs.next
        rw [drop_u8, List.getElem?_eq_none (by omega)]
    | text =>
      refine ⟨_, rfl, rfl, _, rfl, ?_⟩
      refine ifF (by decide) ?_
      refine ⟨_, rfl, rfl, _, rfl, ?_⟩
      refine ifT (by decide) ?_
      have ht : partTake .text (l.drop pl) = match l[pl]?, l[pl + 1]? with | some n, some m => (if n + 256 * m ≤ (l.drop (pl + 2)).length then some (.text ((l.drop (pl + 2)).take (n + 256 * m)), (l.drop (pl + 2)).drop (n + 256 * m)) else none) | _, _ => none := by
        show Rs.mapTake PV.text Rs.takeText _ = _
        unfold Rs.mapTake Rs.takeText Rs.takeList16 Rs.next
        rw [drop_u16]
        cases l[pl]? with
        | none => rfl
        | some n =>
          cases l[pl + 1]? with
          | none => rfl
          | some m =>
            simp only
            rw [takeMany_u8]
            by_cases h : n + 256 * m ≤ (l.drop (pl + 2)).length
            · rw [if_pos h, if_pos h]; rfl
            · rw [if_neg h, if_neg h]
      refine ⟨_, rfl, x, dx, _, rfl, hx, rfl, ?_⟩
      refine ⟨_, rfl, x, dx, _, rfl, hx, rfl, x, dx, a, l, pl, rfl, hx, ha, hpl, fun n m hn hm H1 on => ?_, fun hle => qe ?_⟩
      · rw [hn, hm] at ht
        simp only at ht
        have hl : pl + 1 < l.length := (List.getElem?_eq_some_iff.1 hm).1
        refine ⟨x, dx, a, l, pl + 2, n + 256 * m, rfl, on.2, on.L hx ha, by omega, fun hle r H2 fr on2 hr => ?_, fun hlt => ?_⟩
        · rw [if_pos (by rw [List.length_drop]; omega)] at ht
          exact q _ _ ht _ H2 (pl + 2 + (n + 256 * m)) hle (by rw [List.drop_drop]) (on.trans on2) (fun b e => by cases e; exact on.fresh fr) ⟨r, rfl, hr⟩
        · rw [if_neg (by rw [List.length_drop]; omega)] at ht
          exact (qe ht).mono on.bs
      · rw [ht]
        cases h1 : l[pl]? with
        | none => rfl
        | some n =>
          rw [List.getElem?_eq_none (l := l) (i := pl + 1) (by omega)]
    | row =>
      refine ⟨_, rfl, rfl, _, rfl, ?_⟩
      refine ifF (by decide) ?_
      refine ⟨_, rfl, rfl, _, rfl, ?_⟩
      refine ifF (by decide) ?_
      have ht : partTake .row (l.drop pl) = match l[pl]? with | some n => (if n ≤ (l.drop (pl + 1)).length then some (.row ((l.drop (pl + 1)).take n), (l.drop (pl + 1)).drop n) else none) | none => none := by
        show Rs.mapTake PV.row Rs.takeNumbers _ = _
        unfold Rs.mapTake Rs.takeNumbers Rs.takeList8 Rs.next
        rw [drop_u8]
        cases l[pl]? with
        | none => rfl
        | some n =>
          simp only
          rw [takeMany_u8]
          by_cases h : n ≤ (l.drop (pl + 1)).length
          · rw [if_pos h, if_pos h]; rfl
          · rw [if_neg h, if_neg h]
      refine ⟨_, rfl, x, dx, _, rfl, hx, rfl, ?_⟩
      refine ⟨_, rfl, x, dx, _, rfl, hx, rfl, x, dx, a, l, pl, rfl, hx, ha, hpl, fun n hn H1 on => ?_, fun hle => qe ?_⟩
      · rw [hn] at ht
        simp only at ht
        have hl : pl < l.length := (List.getElem?_eq_some_iff.1 hn).1
        refine ⟨x, dx, a, l, pl + 1, n, rfl, on.2, on.L hx ha, by omega, fun hle r H2 fr on2 hr => ?_, fun hlt => ?_⟩
        · rw [if_pos (by rw [List.length_drop]; omega)] at ht
          refine ⟨r, _, rfl, .inl ⟨hr.sq, fun b hb => ?_⟩⟩
          have bx : b ≠ x := fun e => by rw [e, on2.2] at hb; cases hb
          have on3 : On K x dx a (pl + 1 + n) H2 (upd H2 b (.tup (nv ((l.drop (pl + 1)).take n)))) := ⟨Ex.trans exDelSelf (Ex.new hb), by rw [upd_ne bx.symm]; exact on2.2⟩
          exact q _ _ ht _ _ (pl + 1 + n) hle (by rw [List.drop_drop]) ((on.trans on2).trans on3) (fun b' e => by cases e; exact (on.trans on2).fresh hb) ⟨b, rfl, upd_same⟩
        · rw [if_neg (by rw [List.length_drop]; omega)] at ht
          exact (qe ht).mono on.bs
      · rw [ht, List.getElem?_eq_none (by omega)]
end
end Fs
set_option Elab.async false
set_option linter.all false
set_option maxRecDepth 100000
set_option maxHeartbeats 4000000
namespace Fs
open PySem PySem.Spec PyProof.Rows L2 FsX
open Evl (Ex Ex.refl Ex.trans Ex.new Ex.mut fresh_back)
def kindsOf (n : Nat) : Option (List Kd) :=
  if [1, 6, 7].contains n then some [.text] else if [2, 3, 4, 5].contains n then some [.text, .row] else if n = 8 then some [.text, .text] else if n = 9 then some [.seat, .text] else if [10, 11].contains n then some [.seat, .row] else if [12, 13].contains n then some [.seat] else none
theorem in_nums (n : Nat) : ∀ ms : List Nat, inV (.int n) (ms.map fun m => V.int (m : Nat)) = ms.contains n
  | [] => rfl
  | m :: ms => by
    have ih := in_nums n ms
    unfold inV at ih ⊢
    rw [List.map_cons, List.any_cons, ih, List.contains_cons]
    congr 1
    show ((m : Int) == (n : Int)) = (n == m)
    rw [Bool.eq_iff_iff, beq_iff_eq, beq_iff_eq]
    omega
theorem in_if {n : Nat} (ms : List Nat) {A B : Prop} (hA : ms.contains n = true → A) (hB : ¬ ms.contains n = true → B) : if (if false = true then !inV (V.int n) (ms.map fun m => V.int (m : Nat)) else inV (V.int n) (ms.map fun m => V.int (m : Nat))) = true then A else B := by
  show if inV (V.int n) (ms.map fun m => V.int (m : Nat)) = true then A else B
  rw [in_nums]
  exact ite2 hA hB
theorem eq_if {n m : Nat} {A B : Prop} (hA : n = m → A) (hB : ¬ n = m → B) : if decide (V.int (n : Nat) = V.int (m : Nat)) = true then A else B := by
  refine ite2 (fun g => hA ?_) (fun g => hB fun e => g ?_)
  · have := of_decide_eq_true g
    injection this with h
    exact Int.ofNat.inj h
  · subst e; simp
section
variable {P : Program} {w : World} {K : PySem.W.Frag} {mg : Str → Option Value} {base : Heap}
def spKinds (K : PySem.W.Frag) : Sp := fun vs H Q E => ∃ n : Nat, vs = [.int n] ∧ (∀ ks, kindsOf n = some ks → ∀ r H', Ex H H' → H' r = some (.lst (ks.map fun k => .str k.str)) → Q (.ref r) H') ∧ (kindsOf n = none → Out K (xRef K) H [1] E)
theorem k_kinds (z : Z K mg) : Kp P w K mg base (L2.CX P w) 4 (He.ga K "kinds_of") ["number"] (spKinds K) := by
  have nd := sc_kinds_of.nd
  obtain ⟨t1, h1⟩ := c_FORMAT z
  obtain ⟨t2, h2⟩ := c_SAFE z
  obtain ⟨t3, h3⟩ := c_FILLING z
  obtain ⟨t4, h4⟩ := c_DOOM z
  obtain ⟨t5, h5⟩ := c_ATTACK z
  obtain ⟨t6, h6⟩ := c_LEAST z
  obtain ⟨t7, h7⟩ := c_FEWEST z
  obtain ⟨t8, h8⟩ := c_PARTING z
  obtain ⟨t9, h9⟩ := c_ROUND z
  obtain ⟨t10, h10⟩ := c_FILL z
  obtain ⟨t11, h11⟩ := c_SELL z
  obtain ⟨t12, h12⟩ := c_UNDO z
  obtain ⟨t13, h13⟩ := c_LOOK z
  refine kpX (f_kinds_of z) sc_kinds_of (fun vs H Q E h => ?_) fun cdv A outer s H vs Q E hr h => ⟨_,
    (pss_cons (ps_if (pt_cmpR op_in_seq (pv 0) (pe_tup (pa_cons (pe_glob (v := .int 1) (by rfl) h1 ⟨_, rfl⟩) (pa_cons (pe_glob (v := .int 6) (by rfl) h6 ⟨_, rfl⟩) (pa_cons (pe_glob (v := .int 7) (by rfl) h7 ⟨_, rfl⟩) pa_nil)))) (by rfl)) (pss_one (ps_ret (pe_lst (pa_cons (pe_str) pa_nil)))) pss_nil) (pss_cons (ps_if (pt_cmpR op_in_seq (pv 0) (pe_tup (pa_cons (pe_glob (v := .int 2) (by rfl) h2 ⟨_, rfl⟩) (pa_cons (pe_glob (v := .int 3) (by rfl) h3 ⟨_, rfl⟩) (pa_cons (pe_glob (v := .int 4) (by rfl) h4 ⟨_, rfl⟩) (pa_cons (pe_glob (v := .int 5) (by rfl) h5 ⟨_, rfl⟩) pa_nil))))) (by rfl)) (pss_one (ps_ret (pe_lst (pa_cons (pe_str) (pa_cons (pe_str) pa_nil))))) pss_nil) (pss_cons (ps_if (pt_cmpR op_eq (pv 0) (pe_glob (v := .int 8) (by rfl) h8 ⟨_, rfl⟩) (nomark _)) (pss_one (ps_ret (pe_lst (pa_cons (pe_str) (pa_cons (pe_str) pa_nil))))) pss_nil) (pss_cons (ps_if (pt_cmpR op_eq (pv 0) (pe_glob (v := .int 9) (by rfl) h9 ⟨_, rfl⟩) (nomark _)) (pss_one (ps_ret (pe_lst (pa_cons (pe_str) (pa_cons (pe_str) pa_nil))))) pss_nil) (pss_cons (ps_if (pt_cmpR op_in_seq (pv 0) (pe_tup (pa_cons (pe_glob (v := .int 10) (by rfl) h10 ⟨_, rfl⟩) (pa_cons (pe_glob (v := .int 11) (by rfl) h11 ⟨_, rfl⟩) pa_nil))) (by rfl)) (pss_one (ps_ret (pe_lst (pa_cons (pe_str) (pa_cons (pe_str) pa_nil))))) pss_nil) (pss_cons (ps_if (pt_cmpR op_in_seq (pv 0) (pe_tup (pa_cons (pe_glob (v := .int 12) (by rfl) h12 ⟨_, rfl⟩) (pa_cons (pe_glob (v := .int 13) (by rfl) h13 ⟨_, rfl⟩) pa_nil))) (by rfl)) (pss_one (ps_ret (pe_lst (pa_cons (pe_str) pa_nil)))) pss_nil) (pss_one ((raise0 (x := "Malformed") z (by decide) ((k_eMalformed z)) rfl (takes_of rfl rfl rfl rfl) (Room.mono hr (by decide)) (by rfl) ((g_Malformed z))))))))))), ?_⟩
  · obtain ⟨_, rfl, _⟩ := h; rfl
  · obtain ⟨n, rfl, q, qe⟩ := h
    unfold kindsOf at q qe
    refine ⟨_, rfl, by show 3 ≤ sizeLine; decide, fun p1 hp1 => ⟨p1, _, rfl, .inr (SqT.of upd_same), rfl, rfl, _, rfl, in_if [1, 6, 7] (fun g => ?_) (fun g => ?_)⟩⟩
    · rw [if_pos g] at q
      exact ⟨by show 1 ≤ sizeLine; decide, fun r hr' => q _ rfl r _ ((Ex.new hp1).trans (Ex.new hr')) upd_same⟩
    rw [if_neg g] at q qe
    refine ⟨_, rfl, by show 4 ≤ sizeLine; decide, fun p2 hp2 => ⟨p2, _, rfl, .inr (SqT.of upd_same), rfl, rfl, _, rfl, in_if [2, 3, 4, 5] (fun g => ?_) (fun g => ?_)⟩⟩
    · rw [if_pos g] at q
      exact ⟨by show 2 ≤ sizeLine; decide, fun r hr' => q _ rfl r _ ((Ex.new hp1).trans ((Ex.new hp2).trans (Ex.new hr'))) upd_same⟩
    rw [if_neg g] at q qe
    have e2 := (Ex.new hp1 (o := HO.tup [V.int 1, V.int 6, V.int 7])).trans (Ex.new hp2 (o := HO.tup [V.int 2, V.int 3, V.int 4, V.int 5]))
    refine ⟨_, rfl, rfl, _, rfl, eq_if (m := 8) (fun g => ?_) (fun g => ?_)⟩
    · rw [if_pos g] at q
      exact ⟨by show 2 ≤ sizeLine; decide, fun r hr' => q _ rfl r _ (e2.trans (Ex.new hr')) upd_same⟩
    rw [if_neg g] at q qe
    refine ⟨_, rfl, rfl, _, rfl, eq_if (m := 9) (fun g => ?_) (fun g => ?_)⟩
    · rw [if_pos g] at q
      exact ⟨by show 2 ≤ sizeLine; decide, fun r hr' => q _ rfl r _ (e2.trans (Ex.new hr')) upd_same⟩
    rw [if_neg g] at q qe
    refine ⟨_, rfl, by show 2 ≤ sizeLine; decide, fun p3 hp3 => ⟨p3, _, rfl, .inr (SqT.of upd_same), rfl, rfl, _, rfl, in_if [10, 11] (fun g => ?_) (fun g => ?_)⟩⟩
    · rw [if_pos g] at q
      exact ⟨by show 2 ≤ sizeLine; decide, fun r hr' => q _ rfl r _ (e2.trans ((Ex.new hp3).trans (Ex.new hr'))) upd_same⟩
    rw [if_neg g] at q qe
    refine ⟨_, rfl, by show 2 ≤ sizeLine; decide, fun p4 hp4 => ⟨p4, _, rfl, .inr (SqT.of upd_same), rfl, rfl, _, rfl, in_if [12, 13] (fun g => ?_) (fun g => ?_)⟩⟩
    · rw [if_pos g] at q
      exact ⟨by show 1 ≤ sizeLine; decide, fun r hr' => q _ rfl r _ (e2.trans ((Ex.new hp3).trans ((Ex.new hp4).trans (Ex.new hr')))) upd_same⟩
    rw [if_neg g] at qe
    exact (qe rfl).mono (e2.trans ((Ex.new hp3).trans (Ex.new hp4)))
def partsOf : List Kd → Rs.Take (List PV)
  | [], l => some ([], l)
  | k :: ks, l => match partTake k l with
    | none => none
    | some (v, r) => match partsOf ks r with
      | none => none
      | some (vs, r') => some (v :: vs, r')
theorem partsOf_snoc (k : Kd) : ∀ (ks : List Kd) (l : List Nat), partsOf (ks ++ [k]) l = match partsOf ks l with
    | none => none
    | some (vs, r) => match partTake k r with
      | none => none
      | some (v, r') => some (vs ++ [v], r')
  | [], l => by
    show (match partTake k l with | none => none | some (v, r) => some ([v], r)) = _
    rfl
  | j :: ks, l => by
    show (match partTake j l with | none => none | some (v, r) => match partsOf (ks ++ [k]) r with | none => none | some (vs, r') => some (v :: vs, r')) = _
    show _ = match (match partTake j l with | none => none | some (v, r) => match partsOf ks r with | none => none | some (vs, r') => some (v :: vs, r')) with
      | none => none
      | some (vs, r) => match partTake k r with
        | none => none
        | some (v, r') => some (vs ++ [v], r')
    cases partTake j l with
    | none => rfl
    | some e =>
      simp only
      rw [partsOf_snoc k ks e.2]
      cases partsOf ks e.2 with
      | none => rfl
      | some f =>
        simp only
        cases partTake k f.2 with
        | none => rfl
        | some g => rfl
theorem partsOf_none {ks : List Kd} {l : List Nat} {i : Nat} (h : partsOf (ks.take i) l = none) : partsOf ks l = none := by
  have key : ∀ j, partsOf (ks.take (i + j)) l = none := by
    intro j
    induction j with
    | zero => exact h
    | succ j ih =>
      by_cases hj : i + j < ks.length
      · rw [← Nat.add_assoc, take_snoc (List.getElem?_eq_getElem hj), partsOf_snoc, ih]
      · rw [List.take_of_length_le (by omega)] at ih
        rw [List.take_of_length_le (by omega)]; exact ih
  have := key ks.length
  rw [List.take_of_length_le (by omega)] at this
  exact this
/-- a request taken apart -/
def apart (l : List Nat) : Option (Nat × List PV) := match Rs.takeU8 l with
  | none => none
  | some (n, r) => match kindsOf n with
    | none => none
    | some ks => match partsOf ks r with
      | none => none
      | some (vs, r') => if r' = [] then some (n, vs) else none
theorem PvAt.ex {H H' : Hp} {v : V} {x : PV} (h : PvAt H v x) (e : Ex H H') : PvAt H' v x := by
  cases x with
  | seat n => exact h
  | text l => obtain ⟨a, h1, h2⟩ := h; exact ⟨a, h1, h2.ex e⟩
  | row l => obtain ⟨a, h1, h2⟩ := h; exact ⟨a, h1, h2.ex e⟩
theorem kinds_ne {n : Nat} {ks : List Kd} (h : kindsOf n = some ks) : ks ≠ [] := by
  unfold kindsOf at h
  intro e
  subst e
  repeat' split at h
  all_goals cases h
def spApart (K : PySem.W.Frag) : Sp := fun vs H Q E => ∃ (a : Addr) (l : List Nat), vs = [.ref a] ∧ L H a l ∧
  (∀ n ps, apart l = some (n, ps) → ∀ r q us H', Ex H H' → H' r = some (.tup [.int (n : Nat), .ref q]) → H' q = some (.lst us) → Paired (PvAt H') us ps → Q (.ref r) H') ∧ (apart l = none → Out K (xRef K) H [1] E)
theorem k_apart (z : Z K mg) : Kp P w K mg base (L2.CX P w) 7 (He.ga K "take_apart") ["request"] (spApart K) := by
  have nd := sc_take_apart.nd
  refine kpX (f_take_apart z) sc_take_apart (fun vs H Q E h => ?_) fun cdv A outer s H vs Q E hr h => ⟨_,
    (pss_cons ((ps_set (i := 1) nd rfl (by first | exact Or.inl rfl | exact Or.inr rfl) (((Kp.make ((k_Reader_init z)) ((mk_Reader z)) (Room.mono (hr) (by decide)) (by rfl) ((g_Reader z)) pass0 ((pa_cons (pv 0) pa_nil))))))) (pss_cons ((ps_set (i := 2) nd rfl (by first | exact Or.inl rfl | exact Or.inr rfl) (((Kp.meth0 ((k_u8 z)) ((cl_Reader z)) ((me_Reader_u8 z)) (Room.mono hr (by decide)) (passX (takes_of rfl rfl rfl rfl)) ((pv 1))))))) (pss_cons ((ps_set (i := 3) nd rfl (by first | exact Or.inl rfl | exact Or.inr rfl) ((pe_lst pa_nil)))) (pss_cons (ps_for (passes_of rfl) rfl (pi_list ((Kp.call ((k_kinds z)) (Room.mono hr (by decide)) (by rfl) ((g_kinds_of z)) (passX (takes_of rfl rfl rfl rfl)) ((pa_cons (pv 2) pa_nil))))) ((pg_name (i := 4) nd rfl (by first | exact Or.inl rfl | exact Or.inr rfl))) (pss_one ((ps_expr (pe_bm PySem.F.plainAttrs_list PySem.F.slot_list_append PySem.F.type_list_append mt_append ((pv 3)) (pa_cons (((Kp.meth ((k_part z)) ((cl_Reader z)) ((me_Reader_part z)) (Room.mono hr (by decide)) (passX (takes_of rfl rfl rfl rfl)) ((pv 1)) ((pa_cons (pv 4) pa_nil))))) pa_nil)))))) (pss_cons (ps_if (pt_cmpR op_lt (pe_fld (pv 1) rfl) ((pe_callB call_len_seq (by rfl) ((b_len z)) PySem.boot_len (pa_cons ((pv 0)) pa_nil))) (nomark _)) (pss_one ((raise0 (x := "Malformed") z (by decide) ((k_eMalformed z)) rfl (takes_of rfl rfl rfl rfl) (Room.mono hr (by decide)) (by rfl) ((g_Malformed z))))) pss_nil) (pss_one (ps_ret (pe_tup (pa_cons (pv 2) (pa_cons (pv 3) pa_nil)))))))))), ?_⟩
  · obtain ⟨_, _, rfl, _⟩ := h; rfl
  · obtain ⟨a, l, rfl, ha, q, qe⟩ := h
    simp only [ tNil, tCons, tC, tDrop, tOp, rI0, tCB, rEq, rNe, tNext, tRet, tRetN, tSeq, tAsg, tAug, tTest, tIfS, tIf, tNot, tAnd, tOr, tBM, tBM0, tCall, tTup, tTupZ, tLst, tFld, sFld, tMeth, tMake, tB, tYes, tCmp, t2I, tIsN, tNotN, tDGet, tDGet1, tDGet2, tDIn, tDNotIn, tAndV, tOrV, tNotV, tDNewT, sDPut, tSl, tPart, tNoPart, rSlL, tThen, tCntZ, tFgt, tChain, gCons, gNil, gTup, rCatZ, rCatA, rCat, rAppend, rExtend, rIn, rInD, rNotInD, rEqD, rNeD, rIxL, rIxT, tSub, tAdd, tBreak, tCont, tPar, rSum, rSumT, rMaxT, tyV, L2.start, List.map_cons, List.map_nil, List.length_cons, List.length_nil, List.cons_append, List.nil_append, List.append_nil, List.replicate, Nat.reduceAdd, Nat.reduceSub, wipe, List.set_cons_zero, List.set_cons_succ, nox_K, cxOf_K, blk_K, suite_K, tVar_0, tVar_1, tVar_2, tVar_3, tVar_4, tVar_5, tVar_6, tVar_7, tVar_8, tVar_9, tVar_10, tVar_11, tVar_12, tVar_13, tVar_14, tVar_15, gName_0, gName_1, gName_2, gName_3, gName_4, gName_5, gName_6, gName_7, gName_8, gName_9, gName_10, gName_11, gName_12, gName_13, gName_14, gName_15, and_assoc, exists_eq_left', exists_eq_left, exists_eq, exists_eq', exists_and_left, exists_const, and_true, true_and, V.int.injEq, V.ref.injEq, V.bl.injEq, V.str.injEq, List.cons.injEq, and_self, scal, Bool.false_eq_true, if_false, if_true, reduceCtorEq, false_and, and_false, false_or, or_false, ↓reduceIte]
    intro x dx hx hdx ne
    refine ⟨x, dx, a, rfl, upd_same, rfl, ?_⟩
    rw [upd_upd]
    have hx' : upd H dx (.own x) x = none := by rw [upd_ne ne.symm]; exact hx
    have e0 : Ex H (upd (upd H dx (.own x)) x (.ins (RD K) dx (rFs a 0))) := (Ex.new hdx).trans (Ex.new hx')
    have hr0 : (upd (upd H dx (.own x)) x (.ins (RD K) dx (rFs a 0))) x = some (.ins (RD K) dx (rFs a 0)) := upd_same
    generalize upd (upd H dx (.own x)) x (.ins (RD K) dx (rFs a 0)) = H0 at *
    have eB0 : Ex H (L2.del H0 x) := exDel e0 hx
    refine ⟨dx, _, hr0, rfl, x, dx, a, l, 0, rfl, hr0, ha.ex e0, Nat.zero_le _, fun n hn H1 on => ?_, fun hl => (qe ?_).mono eB0⟩
    rotate_left
    · unfold apart
      rw [List.length_eq_zero_iff.1 hl]; rfl
    have ha1 : L H1 a l := on.L hr0 (ha.ex e0)
    have hap : apart l = match kindsOf n with | none => none | some ks => match partsOf ks (l.drop 1) with | none => none | some (vs, r') => if r' = [] then some (n, vs) else none := by
      unfold apart
      have := drop_u8 l 0
      rw [hn] at this
      rw [show l = l.drop 0 from rfl, this]; rfl
    have eB1 : Ex H (L2.del H1 x) := eB0.trans on.bs
    have hlen : 1 ≤ l.length := by have := (List.getElem?_eq_some_iff.1 hn).1; omega
    refine ⟨by decide, fun q' hq' => ?_⟩
    have qx : q' ≠ x := fun e => by rw [e, on.2] at hq'; cases hq'
    have eq : Ex H1 (upd H1 q' (.lst [])) := Ex.new hq'
    refine ⟨_, rfl, n, rfl, fun ks hks r H2 e2 hr2 => ?_, fun hk => ?_⟩
    rotate_left
    · refine (qe (by rw [hap, hk])).mono (eB1.trans ?_)
      exact exDelSelf.trans eq
    rw [hks] at hap
    simp only at hap
    have e12 := eq.trans e2
    have hx2 := e12 _ _ on.2
    have hq2 := e2 _ _ (upd_same (H := H1) (a := q') (o := HO.lst []))
    -- all that stays
    have rx : r ≠ x := fun e => by rw [e, hx2] at hr2; cases hr2
    have rq : r ≠ q' := fun e => by
      rw [e, hq2] at hr2
      have : ks = [] := by simpa using hr2.symm
      exact kinds_ne hks this
    have nHq : H q' = none := fresh_back (eB1.trans exDelSelf) hq'
    have eH2 : Ex H (L2.del (L2.del H2 x) q') := exDel (exDel ((eB1.trans exDelSelf).trans e12) hx) nHq
    have haB : L (L2.del (L2.del H2 x) q') a l := ha.ex eH2
    have hrB : (L2.del (L2.del H2 x) q') r = some (.lst (ks.map fun k => .str k.str)) := by rw [del_ne rq, del_ne rx]; exact hr2
    have nBq : (L2.del (L2.del H2 x) q') q' = none := by simp [L2.del]
    have nBx : (L2.del (L2.del H2 x) q') x = none := by rw [del_ne qx.symm]; simp [L2.del]
    have eB2 : Ex (L2.del (L2.del H2 x) q') H2 := exDelSelf.trans exDelSelf
    generalize L2.del (L2.del H2 x) q' = B at *
    refine ⟨r, rfl, ⟨_, sq_of hr2⟩, for_list (xs := ks.map fun k => V.str k.str) (fun i σ H3 => ∃ u4 pl us vs, σ = [some (.ref a), some (.ref x), some (.int n), some (.ref q'), u4] ∧ Ex B H3 ∧ H3 x = some (.ins (RD K) dx (rFs a pl)) ∧ pl ≤ l.length ∧ partsOf (ks.take i) (l.drop 1) = some (vs, l.drop pl) ∧ H3 q' = some (.lst us) ∧ Paired (PvAt (L2.del (L2.del H3 x) q')) us vs) ⟨_, 1, [], [], rfl, eB2, hx2, hlen, rfl, hq2, .nil⟩ ?_ ?_ ?_⟩
    · rintro i σ H3 _ ⟨_, _, _, _, _, e3, _⟩
      exact sq_of (e3 _ _ hrB)
    · rintro i y σ H3 hy ⟨u4, pl, us, vs, rfl, e3, hx3, hpl, hparts, hq3, hus⟩
      rw [List.getElem?_map] at hy
      cases hk : ks[i]? with
      | none => rw [hk] at hy; cases hy
      | some k =>
        rw [hk] at hy
        cases hy
        have eBx : Ex B (L2.del H3 x) := exDel e3 nBx
        have hi : i < ks.length := (List.getElem?_eq_some_iff.1 hk).1
        have snoc := partsOf_snoc k (ks.take i) (l.drop 1)
        rw [hparts, ← take_snoc hk] at snoc
        simp only at snoc
        simp only [ tNil, tCons, tC, tDrop, tOp, rI0, tCB, rEq, rNe, tNext, tRet, tRetN, tSeq, tAsg, tAug, tTest, tIfS, tIf, tNot, tAnd, tOr, tBM, tBM0, tCall, tTup, tTupZ, tLst, tFld, sFld, tMeth, tMake, tB, tYes, tCmp, t2I, tIsN, tNotN, tDGet, tDGet1, tDGet2, tDIn, tDNotIn, tAndV, tOrV, tNotV, tDNewT, sDPut, tSl, tPart, tNoPart, rSlL, tThen, tCntZ, tFgt, tChain, gCons, gNil, gTup, rCatZ, rCatA, rCat, rAppend, rExtend, rIn, rInD, rNotInD, rEqD, rNeD, rIxL, rIxT, tSub, tAdd, tBreak, tCont, tPar, rSum, rSumT, rMaxT, tyV, L2.start, List.map_cons, List.map_nil, List.length_cons, List.length_nil, List.cons_append, List.nil_append, List.append_nil, List.replicate, Nat.reduceAdd, Nat.reduceSub, wipe, List.set_cons_zero, List.set_cons_succ, nox_K, cxOf_K, blk_K, suite_K, tVar_0, tVar_1, tVar_2, tVar_3, tVar_4, tVar_5, tVar_6, tVar_7, tVar_8, tVar_9, tVar_10, tVar_11, tVar_12, tVar_13, tVar_14, tVar_15, gName_0, gName_1, gName_2, gName_3, gName_4, gName_5, gName_6, gName_7, gName_8, gName_9, gName_10, gName_11, gName_12, gName_13, gName_14, gName_15, and_assoc, exists_eq_left', exists_eq_left, exists_eq, exists_eq', exists_and_left, exists_const, and_true, true_and, V.int.injEq, V.ref.injEq, V.bl.injEq, V.str.injEq, List.cons.injEq, and_self, scal, Bool.false_eq_true, if_false, if_true, reduceCtorEq, false_and, and_false, false_or, or_false, ↓reduceIte]
        refine ⟨.inl ⟨us, sq_of hq3⟩, dx, _, hx3, rfl, x, dx, a, l, pl, k, rfl, hx3, haB.ex e3, hpl, fun v r' hv u H4 pl' hpl' er on' fr pv => ?_, fun hnone => ?_⟩
        · rw [hv] at snoc
          simp only at snoc
          have hq4 : H4 q' = some (.lst us) := on'.1 _ _ (by rw [del_ne qx]; exact hq3)
          have eB4 : Ex B H4 := eBx.trans on'.1
          have el : us.length = vs.length := Paired.length hus
          have hvl : ∀ (ks : List Kd) (l : List Nat) vs r, partsOf ks l = some (vs, r) → vs.length = ks.length := by
            intro ks
            induction ks with
            | nil => intro l vs r h; cases h; rfl
            | cons k ks ih =>
              intro l vs r h
              have h : (match partTake k l with | none => none | some (v, r) => match partsOf ks r with | none => none | some (vs, r') => some (v :: vs, r')) = some (vs, r) := h
              cases h1 : partTake k l with
              | none => rw [h1] at h; cases h
              | some e1 =>
                rw [h1] at h
                simp only at h
                cases h2 : partsOf ks e1.2 with
                | none => rw [h2] at h; cases h
                | some e2 => rw [h2] at h; cases h; rw [List.length_cons, List.length_cons, ih _ _ _ h2]
          have lks : ks.length ≤ 2 := by
            have h := hks
            unfold kindsOf at h
            repeat' split at h
            all_goals (first | (cases h; decide) | cases h)
          refine ⟨us, hq4, ?_, Ex.mut eB4 nBq, pl', by rw [upd_ne qx.symm]; exact on'.2, hpl', us ++ [u], vs ++ [v], by rw [snoc, er], upd_same, ?_⟩
          · rw [el, hvl _ _ _ _ hparts, List.length_take, sizeLine_eq]; omega
          · refine paired_snoc (Paired.mapP hus fun b w h => h.ex fun c o hc => ?_) ?_
            · by_cases h1 : c = q'
              · subst h1; simp [L2.del] at hc
              · by_cases h2 : c = x
                · subst h2; rw [del_ne h1] at hc; simp [L2.del] at hc
                · rw [del_ne h1, del_ne h2] at hc ⊢
                  rw [upd_ne h1]; exact on'.1 _ _ (by rw [del_ne h2]; exact hc)
            · have put : ∀ (b : Addr) (o : HO), u = .ref b → H4 b = some o → (∀ C dx fs, o ≠ .ins C dx fs) → L2.del (L2.del (upd H4 q' (.lst (us ++ [u]))) x) q' b = some o := by
                intro b o hu hb hk
                have b1 : b ≠ q' := fun e => by have := fr b hu; rw [e, hq3] at this; cases this
                have b2 : b ≠ x := fun e => by rw [e, on'.2] at hb; cases hb; exact hk _ _ _ rfl
                rw [del_ne b1, del_ne b2, upd_ne b1]; exact hb
              cases v with
              | seat m => exact pv
              | text t => obtain ⟨b, hu, hb⟩ := pv; exact ⟨b, hu, put b _ hu hb (fun _ _ _ e => by cases e)⟩
              | row t => obtain ⟨b, hu, hb⟩ := pv; exact ⟨b, hu, put b _ hu hb (fun _ _ _ e => by cases e)⟩
        · rw [hnone] at snoc
          simp only at snoc
          refine (qe ?_).mono (eH2.trans eBx)
          rw [hap, partsOf_none snoc]
    · rintro σ H3 ⟨u4, pl, us, vs, rfl, e3, hx3, hpl, hparts, hq3, hus⟩
      rw [List.length_map, List.take_length] at hparts
      rw [hparts] at hap
      simp only at hap
      have lp : (rFs a pl).lookup ("place" : Str) = some (.int pl) := rfl
      simp only [hx3, lp, cl_Reader z, na_Reader_place z, Option.some.injEq, HO.ins.injEq, tNil, tCons, tC, tDrop, tOp, rI0, tCB, rEq, rNe, tNext, tRet, tRetN, tSeq, tAsg, tAug, tTest, tIfS, tIf, tNot, tAnd, tOr, tBM, tBM0, tCall, tTup, tTupZ, tLst, tFld, sFld, tMeth, tMake, tB, tYes, tCmp, t2I, tIsN, tNotN, tDGet, tDGet1, tDGet2, tDIn, tDNotIn, tAndV, tOrV, tNotV, tDNewT, sDPut, tSl, tPart, tNoPart, rSlL, tThen, tCntZ, tFgt, tChain, gCons, gNil, gTup, rCatZ, rCatA, rCat, rAppend, rExtend, rIn, rInD, rNotInD, rEqD, rNeD, rIxL, rIxT, tSub, tAdd, tBreak, tCont, tPar, rSum, rSumT, rMaxT, tyV, L2.start, List.map_cons, List.map_nil, List.length_cons, List.length_nil, List.cons_append, List.nil_append, List.append_nil, List.replicate, Nat.reduceAdd, Nat.reduceSub, wipe, List.set_cons_zero, List.set_cons_succ, nox_K, cxOf_K, blk_K, suite_K, tVar_0, tVar_1, tVar_2, tVar_3, tVar_4, tVar_5, tVar_6, tVar_7, tVar_8, tVar_9, tVar_10, tVar_11, tVar_12, tVar_13, tVar_14, tVar_15, gName_0, gName_1, gName_2, gName_3, gName_4, gName_5, gName_6, gName_7, gName_8, gName_9, gName_10, gName_11, gName_12, gName_13, gName_14, gName_15, and_assoc, exists_eq_left', exists_eq_left, exists_eq, exists_eq', exists_and_left, exists_const, and_true, true_and, V.int.injEq, V.ref.injEq, V.bl.injEq, V.str.injEq, List.cons.injEq, and_self, scal, Bool.false_eq_true, if_false, if_true, reduceCtorEq, false_and, and_false, false_or, or_false, ↓reduceIte]
      refine ⟨_, .inl (haB.ex e3).sq, ite2 (fun g => ?_) (fun g => ?_)⟩
      · rw [nv_len] at g
        have g := of_decide_eq_true g
        refine (qe ?_).mono (eH2.trans e3)
        rw [hap, if_neg]
        intro e
        have := congrArg List.length e
        rw [List.length_drop, List.length_nil] at this
        omega
      · rw [nv_len] at g
        have g : ¬ pl < l.length := fun k => g (decide_eq_true (by omega))
        refine ⟨by show 2 ≤ sizeLine; decide, fun t ht => ?_⟩
        rw [if_pos (List.drop_eq_nil_of_le (by omega))] at hap
        refine q n vs hap t q' us _ ((eH2.trans e3).trans (Ex.new ht)) upd_same ?_ ?_
        · rw [upd_ne (ne_of_none hq3 ht)]; exact hq3
        · exact Paired.mapP hus fun b w h => (h.ex (exDelSelf.trans exDelSelf)).ex (Ex.new ht)
end
end Fs
set_option Elab.async false
set_option linter.all false
set_option maxRecDepth 100000
set_option maxHeartbeats 4000000
namespace Fs
open PySem PySem.Spec PyProof.Rows L2 FsX
open Evl (Ex Ex.refl Ex.trans Ex.new Ex.mut fresh_back)
section
variable {P : Program} {w : World} {K : PySem.W.Frag} {mg : Str → Option Value} {base : Heap}
/-- a new list of octets is answered -/
def Ans (H : Hp) (Q : VK) (o : List Nat) : Prop := ∀ r H', Ex H H' → H r = none → L H' r o → Q (.ref r) H'
def spFlag : Sp := fun vs H Q _ => ∃ b : Bool, vs = [.bl b] ∧ Ans H Q (if b then [1] else [0])
theorem k_flag (z : Z K mg) : Kp P w K mg base CX0 1 (He.ga K "write_flag") ["yes"] spFlag := by
  have nd := sc_write_flag.nd
  refine kp0 (f_write_flag z) sc_write_flag (fun vs H Q E h => ?_) fun cdv A outer s H vs Q E hr h => ⟨_, (pss_cons (ps_if (pt_val (pv 0)) (pss_one (ps_ret (pe_lst (pa_cons (pe_int) pa_nil)))) pss_nil) (pss_one (ps_ret (pe_lst (pa_cons (pe_int) pa_nil))))), ?_⟩
  · obtain ⟨_, rfl, _⟩ := h; rfl
  · obtain ⟨b, rfl, q⟩ := h
    refine ⟨_, rfl, b, rfl, ?_⟩
    cases b with
    | true => exact ⟨by show 1 ≤ sizeLine; decide, fun r hr' => q r _ (Ex.new hr') hr' upd_same⟩
    | false => exact ⟨by show 1 ≤ sizeLine; decide, fun r hr' => q r _ (Ex.new hr') hr' upd_same⟩
def spU16w : Sp := fun vs H Q _ => ∃ n : Nat, vs = [.int n] ∧ Ans H Q [n % 256, n / 256]
theorem k_wu16 (z : Z K mg) : Kp P w K mg base CX0 1 (He.ga K "write_u16") ["number"] spU16w := by
  have nd := sc_write_u16.nd
  refine kp0 (f_write_u16 z) sc_write_u16 (fun vs H Q E h => ?_) fun cdv A outer s H vs Q E hr h => ⟨_, (pss_one (ps_ret (pe_lst (pa_cons (pe_op op_mod (pv 0) pe_int) (pa_cons (pe_op op_fdiv (pv 0) pe_int) pa_nil))))), ?_⟩
  · obtain ⟨_, rfl, _⟩ := h; rfl
  · obtain ⟨n, rfl, q⟩ := h
    refine ⟨_, rfl, _, _, rfl, rfl, by show (0 : Int) < 256; decide, _, rfl, _, _, rfl, rfl, ⟨by decide, by decide⟩, by show 2 ≤ sizeLine; decide, fun r hr' => q r _ (Ex.new hr') hr' ?_⟩
    exact upd_same
def spRow : Sp := fun vs H Q _ => ∃ (a : Addr) (s : List Nat), vs = [.ref a] ∧ T H a s ∧ s.length ≤ 1000 ∧ Ans H Q (s.length :: s)
theorem k_row (z : Z K mg) : Kp P w K mg base CX0 1 (He.ga K "write_row") ["row"] spRow := by
  have nd := sc_write_row.nd
  refine kp0 (f_write_row z) sc_write_row (fun vs H Q E h => ?_) fun cdv A outer s H vs Q E hr h => ⟨_, (pss_one (ps_ret (pe_op op_cat (pe_lst (pa_cons ((pe_callB call_len_seq (by rfl) ((b_len z)) PySem.boot_len (pa_cons ((pv 0)) pa_nil))) pa_nil)) (pe_callTy call_list_of (by rfl) (b_list z) (by decide +kernel) (pa_cons (pv 0) pa_nil))))), ?_⟩
  · obtain ⟨_, _, rfl, _⟩ := h; rfl
  · obtain ⟨a, s, rfl, ha, hl, q⟩ := h
    simp only [ tNil, tCons, tC, tDrop, tOp, rI0, tCB, rEq, rNe, tNext, tRet, tRetN, tSeq, tAsg, tAug, tTest, tIfS, tIf, tNot, tAnd, tOr, tBM, tBM0, tCall, tTup, tTupZ, tLst, tFld, sFld, tMeth, tMake, tB, tYes, tCmp, t2I, tIsN, tNotN, tDGet, tDGet1, tDGet2, tDIn, tDNotIn, tAndV, tOrV, tNotV, tDNewT, sDPut, tSl, tPart, tNoPart, rSlL, tThen, tCntZ, tFgt, tChain, gCons, gNil, gTup, rCatZ, rCatA, rCat, rAppend, rExtend, rIn, rInD, rNotInD, rEqD, rNeD, rIxL, rIxT, tSub, tAdd, tBreak, tCont, tPar, rSum, rSumT, rMaxT, tyV, L2.start, List.map_cons, List.map_nil, List.length_cons, List.length_nil, List.cons_append, List.nil_append, List.append_nil, List.replicate, Nat.reduceAdd, Nat.reduceSub, wipe, List.set_cons_zero, List.set_cons_succ, nox_K, cxOf_K, blk_K, suite_K, tVar_0, tVar_1, tVar_2, tVar_3, tVar_4, tVar_5, tVar_6, tVar_7, tVar_8, tVar_9, tVar_10, tVar_11, tVar_12, tVar_13, tVar_14, tVar_15, gName_0, gName_1, gName_2, gName_3, gName_4, gName_5, gName_6, gName_7, gName_8, gName_9, gName_10, gName_11, gName_12, gName_13, gName_14, gName_15, and_assoc, exists_eq_left', exists_eq_left, exists_eq, exists_eq', exists_and_left, exists_const, and_true, true_and, V.int.injEq, V.ref.injEq, V.bl.injEq, V.str.injEq, List.cons.injEq, and_self, scal, Bool.false_eq_true, if_false, if_true, reduceCtorEq, false_and, and_false, false_or, or_false, ↓reduceIte]
    refine ⟨nv s, .inr ha.sq, by show 1 ≤ sizeLine; decide, fun p hp => ?_⟩
    have e1 := (Ex.new hp (o := HO.lst [V.int ((nv s).length : Nat)]))
    refine ⟨nv s, .inr (ha.ex e1).sq, fun l hl' => ⟨_, by rw [upd_ne (ne_of_none upd_same hl')]; exact upd_same, nv s, upd_same, by rw [nv_len, sizeLine_eq]; show 1 + _ ≤ _; omega, fun r hr' => ?_⟩⟩
    refine q r _ ((e1.trans (Ex.new hl')).trans (Ex.new hr')) (fresh_back (e1.trans (Ex.new hl')) hr') ?_
    show upd _ _ _ r = _
    rw [upd_same, nv_len]; rfl
/-- rows, one behind another -/
def rowsOf (rows : List (List Nat)) : List Nat := rows.flatMap fun s => s.length :: s
theorem rowsOf_len {rows : List (List Nat)} (h : ∀ s, s ∈ rows → s.length ≤ 3) : (rowsOf rows).length ≤ 4 * rows.length := by
  unfold rowsOf
  induction rows with
  | nil => exact Nat.le_refl _
  | cons a l ih =>
    have := ih fun s hs => h s (List.mem_cons_of_mem _ hs)
    have := h a (List.mem_cons_self ..)
    rw [List.flatMap_cons, List.length_append, List.length_cons, List.length_cons]; omega
def spRows : Sp := fun vs H Q _ => ∃ (a : Addr) (rows : List (List Nat)), vs = [.ref a] ∧ LO T H a rows ∧ rows.length ≤ 1000 ∧ (∀ s, s ∈ rows → s.length ≤ 3) ∧ Ans H Q (rows.length % 256 :: rows.length / 256 :: rowsOf rows)
theorem k_rows (z : Z K mg) : Kp P w K mg base CX0 2 (He.ga K "write_rows") ["rows"] spRows := by
  have nd := sc_write_rows.nd
  refine kp0 (f_write_rows z) sc_write_rows (fun vs H Q E h => ?_) fun cdv A outer s H vs Q E hr h => ⟨_, (pss_cons ((ps_set (i := 1) nd rfl (by first | exact Or.inl rfl | exact Or.inr rfl) (((Kp.call ((k_wu16 z)) (Room.mono (hr) (by decide)) (by rfl) ((g_write_u16 z)) pass0 ((pa_cons ((pe_callB call_len_seq (by rfl) ((b_len z)) PySem.boot_len (pa_cons ((pv 0)) pa_nil))) pa_nil))))))) (pss_cons ((ps_for PassesOwn.never rfl ((pi_list (pv 0))) (((pg_name (i := 2) nd rfl (by first | exact Or.inl rfl | exact Or.inr rfl)))) ((pss_one (ps_expr (pe_bm PySem.F.plainAttrs_list PySem.F.slot_list_extend PySem.F.type_list_extend mt_extend (pv 1) (pa_cons ((Kp.call ((k_row z)) (Room.mono (hr) (by decide)) (by rfl) ((g_write_row z)) pass0 ((pa_cons (pv 2) pa_nil)))) pa_nil))))))) (pss_one (ps_ret (pv 1))))), ?_⟩
  · obtain ⟨_, _, rfl, _⟩ := h; rfl
  · obtain ⟨a, rows, rfl, ⟨as, ha⟩, hn, h3, q⟩ := h
    simp only [ tNil, tCons, tC, tDrop, tOp, rI0, tCB, rEq, rNe, tNext, tRet, tRetN, tSeq, tAsg, tAug, tTest, tIfS, tIf, tNot, tAnd, tOr, tBM, tBM0, tCall, tTup, tTupZ, tLst, tFld, sFld, tMeth, tMake, tB, tYes, tCmp, t2I, tIsN, tNotN, tDGet, tDGet1, tDGet2, tDIn, tDNotIn, tAndV, tOrV, tNotV, tDNewT, sDPut, tSl, tPart, tNoPart, rSlL, tThen, tCntZ, tFgt, tChain, gCons, gNil, gTup, rCatZ, rCatA, rCat, rAppend, rExtend, rIn, rInD, rNotInD, rEqD, rNeD, rIxL, rIxT, tSub, tAdd, tBreak, tCont, tPar, rSum, rSumT, rMaxT, tyV, L2.start, List.map_cons, List.map_nil, List.length_cons, List.length_nil, List.cons_append, List.nil_append, List.append_nil, List.replicate, Nat.reduceAdd, Nat.reduceSub, wipe, List.set_cons_zero, List.set_cons_succ, nox_K, cxOf_K, blk_K, suite_K, tVar_0, tVar_1, tVar_2, tVar_3, tVar_4, tVar_5, tVar_6, tVar_7, tVar_8, tVar_9, tVar_10, tVar_11, tVar_12, tVar_13, tVar_14, tVar_15, gName_0, gName_1, gName_2, gName_3, gName_4, gName_5, gName_6, gName_7, gName_8, gName_9, gName_10, gName_11, gName_12, gName_13, gName_14, gName_15, and_assoc, exists_eq_left', exists_eq_left, exists_eq, exists_eq', exists_and_left, exists_const, and_true, true_and, V.int.injEq, V.ref.injEq, V.bl.injEq, V.str.injEq, List.cons.injEq, and_self, scal, Bool.false_eq_true, if_false, if_true, reduceCtorEq, false_and, and_false, false_or, or_false, ↓reduceIte]
    refine ⟨_, .inl (LA.sq ha), rows.length, by rw [LA.len ha], fun r H1 e1 fr hr1 => ?_⟩
    refine ⟨_, rfl, a, rfl, ⟨_, LA.sq (LA.ex ha mT e1)⟩, for_la (R := T) (as := as) (xs := rows) (fun i σ H2 => ∃ u, σ = [some (.ref a), some (.ref r), u] ∧ Ex H H2 ∧ L H2 r (rows.length % 256 :: rows.length / 256 :: rowsOf (rows.take i))) ⟨_, rfl, e1, hr1⟩ ?_ ?_ ?_⟩
    · rintro i σ H2 ⟨_, _, e2, _⟩
      exact LA.ex ha mT e2
    · rintro i x s σ H2 hs hx hT ⟨u, rfl, e2, hr2⟩
      have hs3 := h3 s (List.mem_of_getElem? hs)
      simp only [ tNil, tCons, tC, tDrop, tOp, rI0, tCB, rEq, rNe, tNext, tRet, tRetN, tSeq, tAsg, tAug, tTest, tIfS, tIf, tNot, tAnd, tOr, tBM, tBM0, tCall, tTup, tTupZ, tLst, tFld, sFld, tMeth, tMake, tB, tYes, tCmp, t2I, tIsN, tNotN, tDGet, tDGet1, tDGet2, tDIn, tDNotIn, tAndV, tOrV, tNotV, tDNewT, sDPut, tSl, tPart, tNoPart, rSlL, tThen, tCntZ, tFgt, tChain, gCons, gNil, gTup, rCatZ, rCatA, rCat, rAppend, rExtend, rIn, rInD, rNotInD, rEqD, rNeD, rIxL, rIxT, tSub, tAdd, tBreak, tCont, tPar, rSum, rSumT, rMaxT, tyV, L2.start, List.map_cons, List.map_nil, List.length_cons, List.length_nil, List.cons_append, List.nil_append, List.append_nil, List.replicate, Nat.reduceAdd, Nat.reduceSub, wipe, List.set_cons_zero, List.set_cons_succ, nox_K, cxOf_K, blk_K, suite_K, tVar_0, tVar_1, tVar_2, tVar_3, tVar_4, tVar_5, tVar_6, tVar_7, tVar_8, tVar_9, tVar_10, tVar_11, tVar_12, tVar_13, tVar_14, tVar_15, gName_0, gName_1, gName_2, gName_3, gName_4, gName_5, gName_6, gName_7, gName_8, gName_9, gName_10, gName_11, gName_12, gName_13, gName_14, gName_15, and_assoc, exists_eq_left', exists_eq_left, exists_eq, exists_eq', exists_and_left, exists_const, and_true, true_and, V.int.injEq, V.ref.injEq, V.bl.injEq, V.str.injEq, List.cons.injEq, and_self, scal, Bool.false_eq_true, if_false, if_true, reduceCtorEq, false_and, and_false, false_or, or_false, ↓reduceIte]
      refine ⟨.inl ⟨_, hr2.sq⟩, x, s, rfl, hT, by omega, fun r' H3 e3 fr' hr3 => ?_⟩
      have ln := rowsOf_len (rows := rows.take i) fun s hs => h3 s (List.mem_of_mem_take hs)
      rw [List.length_take] at ln
      simp only [ tNil, tCons, tC, tDrop, tOp, rI0, tCB, rEq, rNe, tNext, tRet, tRetN, tSeq, tAsg, tAug, tTest, tIfS, tIf, tNot, tAnd, tOr, tBM, tBM0, tCall, tTup, tTupZ, tLst, tFld, sFld, tMeth, tMake, tB, tYes, tCmp, t2I, tIsN, tNotN, tDGet, tDGet1, tDGet2, tDIn, tDNotIn, tAndV, tOrV, tNotV, tDNewT, sDPut, tSl, tPart, tNoPart, rSlL, tThen, tCntZ, tFgt, tChain, gCons, gNil, gTup, rCatZ, rCatA, rCat, rAppend, rExtend, rIn, rInD, rNotInD, rEqD, rNeD, rIxL, rIxT, tSub, tAdd, tBreak, tCont, tPar, rSum, rSumT, rMaxT, tyV, L2.start, List.map_cons, List.map_nil, List.length_cons, List.length_nil, List.cons_append, List.nil_append, List.append_nil, List.replicate, Nat.reduceAdd, Nat.reduceSub, wipe, List.set_cons_zero, List.set_cons_succ, nox_K, cxOf_K, blk_K, suite_K, tVar_0, tVar_1, tVar_2, tVar_3, tVar_4, tVar_5, tVar_6, tVar_7, tVar_8, tVar_9, tVar_10, tVar_11, tVar_12, tVar_13, tVar_14, tVar_15, gName_0, gName_1, gName_2, gName_3, gName_4, gName_5, gName_6, gName_7, gName_8, gName_9, gName_10, gName_11, gName_12, gName_13, gName_14, gName_15, and_assoc, exists_eq_left', exists_eq_left, exists_eq, exists_eq', exists_and_left, exists_const, and_true, true_and, V.int.injEq, V.ref.injEq, V.bl.injEq, V.str.injEq, List.cons.injEq, and_self, scal, Bool.false_eq_true, if_false, if_true, reduceCtorEq, false_and, and_false, false_or, or_false, ↓reduceIte]
      refine ⟨_, (hr2.ex e3).lst, _, hr3.lst, ?_, Ex.mut (e2.trans e3) fr, ?_⟩
      · rw [nv_len, nv_len, sizeLine_eq, List.length_cons, List.length_cons, List.length_cons]; omega
      · rw [take_snoc hs]
        unfold rowsOf L
        rw [upd_same, List.flatMap_append, ← nv_app]
        simp
    · rintro σ H2 ⟨u, rfl, e2, hr2⟩
      rw [List.take_length] at hr2
      exact ⟨_, rfl, q r H2 e2 fr hr2⟩
def maybeRow : Option (List Nat) → List Nat
  | none => [0]
  | some s => 1 :: s.length :: s
def spMrow : Sp := fun vs H Q _ => ∃ (v : V) (x : Option (List Nat)), vs = [v] ∧ RO H v x ∧ (∀ s, x = some s → s.length ≤ 1000) ∧ Ans H Q (maybeRow x)
theorem k_mrow (z : Z K mg) : Kp P w K mg base CX0 2 (He.ga K "write_maybe_row") ["row"] spMrow := by
  have nd := sc_write_maybe_row.nd
  refine kp0 (f_write_maybe_row z) sc_write_maybe_row (fun vs H Q E h => ?_) fun cdv A outer s H vs Q E hr h => ⟨_, (pss_cons (ps_if (pt_cmp (pc_isN (pv 0))) (pss_one (ps_ret (pe_lst (pa_cons (pe_int) pa_nil)))) pss_nil) (pss_one (ps_ret (pe_op op_cat (pe_lst (pa_cons (pe_int) pa_nil)) ((Kp.call ((k_row z)) (Room.mono (hr) (by decide)) (by rfl) ((g_write_row z)) pass0 ((pa_cons (pv 0) pa_nil)))))))), ?_⟩
  · obtain ⟨_, _, rfl, _⟩ := h; rfl
  · obtain ⟨v, x, rfl, hv, hl, q⟩ := h
    rcases hv with ⟨rfl, rfl⟩ | ⟨l, t, rfl, rfl, ht⟩
    · refine ⟨_, rfl, _, rfl, ifT (by decide) ?_⟩
      exact ⟨by show 1 ≤ sizeLine; decide, fun r hr' => q r _ (Ex.new hr') hr' upd_same⟩
    · refine ⟨_, rfl, _, rfl, ifF (by simp) ?_⟩
      have hl := hl t rfl
      simp only [ tNil, tCons, tC, tDrop, tOp, rI0, tCB, rEq, rNe, tNext, tRet, tRetN, tSeq, tAsg, tAug, tTest, tIfS, tIf, tNot, tAnd, tOr, tBM, tBM0, tCall, tTup, tTupZ, tLst, tFld, sFld, tMeth, tMake, tB, tYes, tCmp, t2I, tIsN, tNotN, tDGet, tDGet1, tDGet2, tDIn, tDNotIn, tAndV, tOrV, tNotV, tDNewT, sDPut, tSl, tPart, tNoPart, rSlL, tThen, tCntZ, tFgt, tChain, gCons, gNil, gTup, rCatZ, rCatA, rCat, rAppend, rExtend, rIn, rInD, rNotInD, rEqD, rNeD, rIxL, rIxT, tSub, tAdd, tBreak, tCont, tPar, rSum, rSumT, rMaxT, tyV, L2.start, List.map_cons, List.map_nil, List.length_cons, List.length_nil, List.cons_append, List.nil_append, List.append_nil, List.replicate, Nat.reduceAdd, Nat.reduceSub, wipe, List.set_cons_zero, List.set_cons_succ, nox_K, cxOf_K, blk_K, suite_K, tVar_0, tVar_1, tVar_2, tVar_3, tVar_4, tVar_5, tVar_6, tVar_7, tVar_8, tVar_9, tVar_10, tVar_11, tVar_12, tVar_13, tVar_14, tVar_15, gName_0, gName_1, gName_2, gName_3, gName_4, gName_5, gName_6, gName_7, gName_8, gName_9, gName_10, gName_11, gName_12, gName_13, gName_14, gName_15, and_assoc, exists_eq_left', exists_eq_left, exists_eq, exists_eq', exists_and_left, exists_const, and_true, true_and, V.int.injEq, V.ref.injEq, V.bl.injEq, V.str.injEq, List.cons.injEq, and_self, scal, Bool.false_eq_true, if_false, if_true, reduceCtorEq, false_and, and_false, false_or, or_false, ↓reduceIte]
      refine ⟨by show 1 ≤ sizeLine; decide, fun p hp => ⟨l, t, rfl, ht.ex (Ex.new hp), hl, fun r' H3 e3 fr' hr3 => ?_⟩⟩
      simp only [ tNil, tCons, tC, tDrop, tOp, rI0, tCB, rEq, rNe, tNext, tRet, tRetN, tSeq, tAsg, tAug, tTest, tIfS, tIf, tNot, tAnd, tOr, tBM, tBM0, tCall, tTup, tTupZ, tLst, tFld, sFld, tMeth, tMake, tB, tYes, tCmp, t2I, tIsN, tNotN, tDGet, tDGet1, tDGet2, tDIn, tDNotIn, tAndV, tOrV, tNotV, tDNewT, sDPut, tSl, tPart, tNoPart, rSlL, tThen, tCntZ, tFgt, tChain, gCons, gNil, gTup, rCatZ, rCatA, rCat, rAppend, rExtend, rIn, rInD, rNotInD, rEqD, rNeD, rIxL, rIxT, tSub, tAdd, tBreak, tCont, tPar, rSum, rSumT, rMaxT, tyV, L2.start, List.map_cons, List.map_nil, List.length_cons, List.length_nil, List.cons_append, List.nil_append, List.append_nil, List.replicate, Nat.reduceAdd, Nat.reduceSub, wipe, List.set_cons_zero, List.set_cons_succ, nox_K, cxOf_K, blk_K, suite_K, tVar_0, tVar_1, tVar_2, tVar_3, tVar_4, tVar_5, tVar_6, tVar_7, tVar_8, tVar_9, tVar_10, tVar_11, tVar_12, tVar_13, tVar_14, tVar_15, gName_0, gName_1, gName_2, gName_3, gName_4, gName_5, gName_6, gName_7, gName_8, gName_9, gName_10, gName_11, gName_12, gName_13, gName_14, gName_15, and_assoc, exists_eq_left', exists_eq_left, exists_eq, exists_eq', exists_and_left, exists_const, and_true, true_and, V.int.injEq, V.ref.injEq, V.bl.injEq, V.str.injEq, List.cons.injEq, and_self, scal, Bool.false_eq_true, if_false, if_true, reduceCtorEq, false_and, and_false, false_or, or_false, ↓reduceIte]
      refine ⟨_, e3 _ _ upd_same, _, hr3.lst, by rw [nv_len, sizeLine_eq]; simp only [List.length_cons, List.length_nil]; omega, fun r hr' => ?_⟩
      refine q r _ (((Ex.new hp).trans e3).trans (Ex.new hr')) (fresh_back ((Ex.new hp).trans e3) hr') ?_
      show upd _ _ _ r = _
      rw [upd_same]; rfl
def maybeU8 : Option Nat → List Nat
  | none => [0]
  | some n => [1, n]
def maybeU16 : Option Nat → List Nat
  | none => [0]
  | some n => [1, n % 256, n / 256]
def spMu8 : Sp := fun vs H Q _ => ∃ (x : Option Nat), vs = [vN x] ∧ Ans H Q (maybeU8 x)
theorem k_mu8 (z : Z K mg) : Kp P w K mg base CX0 1 (He.ga K "write_maybe_u8") ["number"] spMu8 := by
  have nd := sc_write_maybe_u8.nd
  refine kp0 (f_write_maybe_u8 z) sc_write_maybe_u8 (fun vs H Q E h => ?_) fun cdv A outer s H vs Q E hr h => ⟨_, (pss_cons (ps_if (pt_cmp (pc_isN (pv 0))) (pss_one (ps_ret (pe_lst (pa_cons (pe_int) pa_nil)))) pss_nil) (pss_one (ps_ret (pe_lst (pa_cons (pe_int) (pa_cons (pv 0) pa_nil)))))), ?_⟩
  · obtain ⟨_, rfl, _⟩ := h; rfl
  · obtain ⟨x, rfl, q⟩ := h
    cases x with
    | none =>
      refine ⟨_, rfl, _, rfl, ifT (by decide) ?_⟩
      exact ⟨by show 1 ≤ sizeLine; decide, fun r hr' => q r _ (Ex.new hr') hr' upd_same⟩
    | some n =>
      refine ⟨_, rfl, _, rfl, ifF (by simp [vN]) ?_⟩
      exact ⟨_, rfl, by show 2 ≤ sizeLine; decide, fun r hr' => q r _ (Ex.new hr') hr' upd_same⟩
def spMu16 : Sp := fun vs H Q _ => ∃ (x : Option Nat), vs = [vN x] ∧ Ans H Q (maybeU16 x)
theorem k_mu16 (z : Z K mg) : Kp P w K mg base CX0 2 (He.ga K "write_maybe_u16") ["number"] spMu16 := by
  have nd := sc_write_maybe_u16.nd
  refine kp0 (f_write_maybe_u16 z) sc_write_maybe_u16 (fun vs H Q E h => ?_) fun cdv A outer s H vs Q E hr h => ⟨_, (pss_cons (ps_if (pt_cmp (pc_isN (pv 0))) (pss_one (ps_ret (pe_lst (pa_cons (pe_int) pa_nil)))) pss_nil) (pss_one (ps_ret (pe_op op_cat (pe_lst (pa_cons (pe_int) pa_nil)) ((Kp.call ((k_wu16 z)) (Room.mono (hr) (by decide)) (by rfl) ((g_write_u16 z)) pass0 ((pa_cons (pv 0) pa_nil)))))))), ?_⟩
  · obtain ⟨_, rfl, _⟩ := h; rfl
  · obtain ⟨x, rfl, q⟩ := h
    cases x with
    | none =>
      refine ⟨_, rfl, _, rfl, ifT (by decide) ?_⟩
      exact ⟨by show 1 ≤ sizeLine; decide, fun r hr' => q r _ (Ex.new hr') hr' upd_same⟩
    | some n =>
      refine ⟨_, rfl, _, rfl, ifF (by simp [vN]) ?_⟩
      refine ⟨by show 1 ≤ sizeLine; decide, fun p hp => ⟨_, rfl, n, rfl, fun r' H3 e3 fr' hr3 => ?_⟩⟩
      refine ⟨p, r', _, _, rfl, rfl, e3 _ _ upd_same, hr3.lst, by rw [nv_len]; show 1 + 2 ≤ sizeLine; decide, fun r hr' => ?_⟩
      refine q r _ (((Ex.new hp).trans e3).trans (Ex.new hr')) (fresh_back ((Ex.new hp).trans e3) hr') ?_
      show upd _ _ _ r = _
      rw [upd_same]; rfl
end
end Fs
set_option Elab.async false
namespace RsP
open Rs FsLaw

/-! ### lines and words -/
theorem part_none {c : UInt16} : ∀ {u acc : Units}, c ∉ u → partAt c u acc = [acc.reverse ++ u]
  | [], acc, _ => by simp [partAt]
  | x :: r, acc, h => by
    rw [List.mem_cons] at h
    have h1 : ¬ x = c := fun e => h (Or.inl e.symm)
    rw [partAt, if_neg h1, part_none fun k => h (Or.inr k)]
    simp
theorem part_some {c : UInt16} {r : Units} : ∀ {u acc : Units}, c ∉ u → partAt c (u ++ c :: r) acc = (acc.reverse ++ u) :: partAt c r []
  | [], acc, _ => by simp [partAt]
  | x :: u, acc, h => by
    rw [List.mem_cons] at h
    have h1 : ¬ x = c := fun e => h (Or.inl e.symm)
    rw [List.cons_append, partAt, if_neg h1, part_some fun k => h (Or.inr k)]
    simp
theorem part_join {c : UInt16} : ∀ {l : List Units}, l ≠ [] → (∀ u, u ∈ l → c ∉ u) → partAt c (joinWith c l) [] = l
  | [], h, _ => absurd rfl h
  | [u], _, h => by
    rw [joinWith, part_none (h u List.mem_cons_self)]
    rfl
  | u :: v :: r, _, h => by
    rw [joinWith, part_some (h u List.mem_cons_self), part_join (by simp) fun x hx => h x (List.mem_cons_of_mem _ hx)]
    · rfl
    · simp
theorem p_lines_read : lines_read := fun _ h k => part_join h k
theorem p_words_read : words_read := fun l h => by
  unfold wordsOf
  cases l with
  | nil => rfl
  | cons u r =>
    rw [part_join (by simp) fun x hx => (h x hx).2]
    rw [List.filter_eq_self]
    intro x hx
    have := (h x hx).1
    cases x with
    | nil => exact absurd rfl this
    | cons a b => rfl
theorem p_faults_exact : faults_exact := by
  intro α f m s n l
  induction l generalizing m s with
  | nil => intro h; cases h
  | cons u r ih =>
    intro h
    unfold readLines at h
    by_cases c : wordsOf u = []
    · rw [if_pos c] at h
      obtain ⟨a, t, v, h1, h2, h3, h4⟩ := ih (m + 1) s h
      refine ⟨by omega, t, v, ?_, ?_, h3, h4⟩
      · rw [show n - m = (n - (m + 1)) + 1 by omega, List.take_succ_cons, readLines, if_pos c]
        exact h1
      · rw [show n - m = (n - (m + 1)) + 1 by omega, List.getElem?_cons_succ]
        exact h2
    · rw [if_neg c] at h
      cases e : f s (wordsOf u) with
      | none =>
        rw [e] at h
        cases h
        refine ⟨Nat.le_refl _, s, u, ?_, ?_, c, e⟩
        · rw [Nat.sub_self]; rfl
        · rw [Nat.sub_self]; rfl
      | some w =>
        rw [e] at h
        obtain ⟨a, t, v, h1, h2, h3, h4⟩ := ih (m + 1) w h
        refine ⟨by omega, t, v, ?_, ?_, h3, h4⟩
        · rw [show n - m = (n - (m + 1)) + 1 by omega, List.take_succ_cons, readLines, if_neg c, e]
          exact h1
        · rw [show n - m = (n - (m + 1)) + 1 by omega, List.getElem?_cons_succ]
          exact h2
theorem digit_of_units {n : Nat} (h1 : 1 ≤ n) (h2 : n ≤ 9) : digitOf (digitUnits n) = some n := by
  have : ∀ n : Fin 10, 1 ≤ n.val → digitOf (digitUnits n.val) = some n.val := by decide +kernel
  exact this ⟨n, by omega⟩ h1
theorem digit_some {u : Units} {n : Nat} (h : digitOf u = some n) : 1 ≤ n ∧ n ≤ 9 ∧ u = digitUnits n := by
  match u, h with
  | [c], h =>
    unfold digitOf at h
    dsimp only at h
    by_cases k : 49 ≤ c ∧ c ≤ 57
    · rw [if_pos k] at h
      cases h
      have k1 : 49 ≤ c.toNat := UInt16.le_iff_toNat_le.1 k.1
      have k2 : c.toNat ≤ 57 := UInt16.le_iff_toNat_le.1 k.2
      refine ⟨by omega, by omega, ?_⟩
      unfold digitUnits
      congr 1
      rw [show 48 + (c.toNat - 48) = c.toNat by omega]
      exact (UInt16.ofNat_toNat).symm
    · rw [if_neg k] at h; cases h
  | [], h => cases h
  | _ :: _ :: _, h => cases h
theorem p_digits_read : digits_read := ⟨fun _ => digit_of_units, fun _ _ h => digit_some h⟩

/-! ### shops are read -/
theorem read_keeps {α : Type} {f : α → List Units → Option α} {P : α → Prop} (hf : ∀ s w t, P s → f s w = some t → P t) : ∀ {l : List Units} {m : Nat} {s t : α}, P s → readLines f m s l = .ok t → P t
  | [], _, _, _, h, e => by
    unfold readLines at e
    cases e
    exact h
  | u :: r, m, s, t, h, e => by
    unfold readLines at e
    by_cases c : wordsOf u = []
    · rw [if_pos c] at e
      exact read_keeps hf h e
    · rw [if_neg c] at e
      cases k : f s (wordsOf u) with
      | none => rw [k] at e; cases e
      | some w =>
        rw [k] at e
        exact read_keeps hf (hf _ _ _ h k) e
theorem number_to {m : Nat} {u : Units} {n : Nat} (h : numberTo m u = some n) : 1 ≤ n ∧ n ≤ 9 ∧ n ≤ m ∧ u = digitUnits n := by
  unfold numberTo at h
  rw [Option.bind_eq_some_iff] at h
  obtain ⟨k, e, h⟩ := h
  by_cases c : k ≤ m
  · rw [if_pos c] at h
    cases h
    obtain ⟨a, b, d⟩ := digit_some e
    exact ⟨a, b, c, d⟩
  · rw [if_neg c] at h; cases h
theorem number_of {m n : Nat} (h1 : 1 ≤ n) (h2 : n ≤ 9) (h3 : n ≤ m) : numberTo m (digitUnits n) = some n := by
  unfold numberTo
  rw [digit_of_units h1 h2]
  show (if n ≤ m then some n else none) = some n
  rw [if_pos h3]
def Draft (d : Reading) : Prop := (d.shop.shelves.length ≤ 3 ∧ (shelfNames d.shop.shelves).Nodup ∧ ∀ s, s ∈ d.shop.shelves → isName s.name = true ∧ 1 ≤ s.room ∧ s.room ≤ 4) ∧
  (d.stage ≠ 0 → 1 ≤ d.shop.shelves.length ∧ 1 ≤ d.shop.taken ∧ d.shop.taken ≤ 4 ∧ 1 ≤ d.shop.ofOne ∧ d.shop.ofOne ≤ d.shop.taken) ∧
  (d.stage = 2 → 1 ≤ d.shop.items ∧ d.shop.items ≤ 9 ∧ 1 ≤ d.shop.onto ∧ d.shop.onto ≤ d.shop.shelves.length)
theorem shelf_from {l : List Units} {s : Shelf} (h : shelfFrom l = some s) : isName s.name = true ∧ 1 ≤ s.room ∧ s.room ≤ 4 := by
  match l, h with
  | [a, u, n], h =>
    unfold shelfFrom at h
    dsimp only at h
    split at h
    · rename_i c
      rw [Option.map_eq_some_iff] at h
      obtain ⟨k, e, rfl⟩ := h
      simp only [Bool.and_eq_true] at c
      have := number_to e
      exact ⟨c.2, this.1, this.2.2.1⟩
    · cases h
  | [], h => cases h
  | [_], h => cases h
  | [_, _], h => cases h
  | _ :: _ :: _ :: _ :: _, h => cases h
theorem customers_from {l : List Units} {e : Nat × Nat} (h : customersFrom l = some e) : 1 ≤ e.1 ∧ e.1 ≤ 4 ∧ 1 ≤ e.2 ∧ e.2 ≤ e.1 := by
  match l, h with
  | [a, n, b, k], h =>
    unfold customersFrom at h
    dsimp only at h
    split at h
    · rw [Option.bind_eq_some_iff] at h
      obtain ⟨x, ex, h⟩ := h
      rw [Option.map_eq_some_iff] at h
      obtain ⟨y, ey, rfl⟩ := h
      have h1 := number_to ex
      have h2 := number_to ey
      exact ⟨h1.1, h1.2.2.1, h2.1, h2.2.2.1⟩
    · cases h
  | [], h => cases h
  | [_], h => cases h
  | [_, _], h => cases h
  | [_, _, _], h => cases h
  | _ :: _ :: _ :: _ :: _ :: _, h => cases h
theorem stocker_from {m : Nat} {l : List Units} {e : Nat × Nat} (h : stockerFrom m l = some e) : 1 ≤ e.1 ∧ e.1 ≤ 9 ∧ 1 ≤ e.2 ∧ e.2 ≤ m := by
  match l, h with
  | [a, n, b, k], h =>
    unfold stockerFrom at h
    dsimp only at h
    split at h
    · rw [Option.bind_eq_some_iff] at h
      obtain ⟨x, ex, h⟩ := h
      rw [Option.map_eq_some_iff] at h
      obtain ⟨y, ey, rfl⟩ := h
      have h1 := number_to ex
      have h2 := number_to ey
      exact ⟨h1.1, h1.2.2.1, h2.1, h2.2.2.1⟩
    · cases h
  | [], h => cases h
  | [_], h => cases h
  | [_, _], h => cases h
  | [_, _, _], h => cases h
  | _ :: _ :: _ :: _ :: _ :: _, h => cases h
theorem draft_line (d : Reading) (w : List Units) (e : Reading) (h : Draft d) (k : readShopLine d w = some e) : Draft e := by
  obtain ⟨⟨a1, a2, a3⟩, b, c⟩ := h
  unfold readShopLine at k
  by_cases s0 : d.stage = 0
  · rw [if_pos s0] at k
    cases r : readShelf d w with
    | some x =>
      rw [r] at k
      cases k
      unfold readShelf at r
      rw [Option.bind_eq_some_iff] at r
      obtain ⟨s, es, r⟩ := r
      split at r
      · rename_i q
        cases r
        have hs := shelf_from es
        refine ⟨⟨?_, ?_, ?_⟩, fun z => absurd rfl z, fun z => nomatch z⟩
        · show (d.shop.shelves ++ [s]).length ≤ 3
          have : d.shop.shelves.length < 3 := q.1
          simp; omega
        · show (shelfNames (d.shop.shelves ++ [s])).Nodup
          unfold shelfNames at *
          rw [List.map_append, List.nodup_append]
          refine ⟨a2, by simp, fun x hx y hy e => ?_⟩
          simp at hy
          subst hy
          subst e
          have q2 := q.2
          rw [List.contains_iff_mem.2 hx] at q2
          cases q2
        · intro x hx
          have hx : x ∈ d.shop.shelves ++ [s] := hx
          rw [List.mem_append, List.mem_singleton] at hx
          rcases hx with hx | rfl
          · exact a3 x hx
          · exact hs
      · cases r
    | none =>
      rw [r] at k
      have k : readCustomers d w = some e := k
      unfold readCustomers at k
      split at k
      · cases k
      · rename_i q
        rw [Option.map_eq_some_iff] at k
        obtain ⟨x, ex, rfl⟩ := k
        have hx := customers_from ex
        refine ⟨⟨a1, a2, a3⟩, fun _ => ⟨?_, hx.1, hx.2.1, hx.2.2.1, hx.2.2.2⟩, fun z => nomatch z⟩
        show 1 ≤ d.shop.shelves.length
        cases e : d.shop.shelves with
        | nil => rw [e] at q; exact absurd rfl q
        | cons _ _ => simp
  · rw [if_neg s0] at k
    split at k
    · unfold readStocker at k
      rw [Option.map_eq_some_iff] at k
      obtain ⟨x, ex, rfl⟩ := k
      have hx := stocker_from ex
      exact ⟨⟨a1, a2, a3⟩, fun _ => b s0, fun _ => hx⟩
    · cases k
theorem read_shop {u : Units} {p : Shop} (h : readShop u = .ok p) : IsShop p := by
  unfold readShop at h
  cases e : readLines readShopLine 1 startReading (linesOf u) with
  | error n => rw [e] at h; cases h
  | ok d =>
    rw [e] at h
    have k : Draft d := read_keeps draft_line (P := Draft) ⟨⟨by simp [startReading], by simp [startReading, shelfNames], by simp [startReading]⟩, fun z => absurd rfl z, by simp [startReading]⟩ e
    have h : wholeShop d (linesOf u).length = .ok p := h
    unfold wholeShop at h
    split at h
    · rename_i q
      cases h
      obtain ⟨⟨a1, a2, a3⟩, b, c⟩ := k
      obtain ⟨b1, b2, b3, b4, b5⟩ := b (by omega)
      obtain ⟨c1, c2, c3, c4⟩ := c q
      exact ⟨⟨b1, a1, a2, a3⟩, b2, b3, b4, b5, c1, c2, c3, c4⟩
    · cases h

/-! ### the canonical text -/
theorem name_facts {u : Units} (h : isName u = true) : u ≠ [] ∧ u.length ≤ 8 ∧ ∀ c, c ∈ u → 97 ≤ c.toNat ∧ c.toNat ≤ 122 := by
  unfold isName at h
  simp only [Bool.and_eq_true, decide_eq_true_eq, List.all_eq_true] at h
  refine ⟨fun e => (by rw [e] at h; simp at h), h.2.1, fun c hc => ?_⟩
  have := h.2.2 c hc
  unfold isNameUnit at this
  simp only [Bool.and_eq_true, decide_eq_true_eq] at this
  exact ⟨UInt16.le_iff_toNat_le.1 this.1, UInt16.le_iff_toNat_le.1 this.2⟩
theorem digit_facts {n : Nat} (h1 : 1 ≤ n) (h2 : n ≤ 9) : digitUnits n ≠ [] ∧ (32 : UInt16) ∉ digitUnits n ∧ (10 : UInt16) ∉ digitUnits n ∧ (digitUnits n).length = 1 := by
  have : ∀ n : Fin 10, 1 ≤ n.val → digitUnits n.val ≠ [] ∧ (32 : UInt16) ∉ digitUnits n.val ∧ (10 : UInt16) ∉ digitUnits n.val ∧ (digitUnits n.val).length = 1 := by decide +kernel
  exact this ⟨n, by omega⟩ h1
/-- a word as it may stand in a line -/
def Word (u : Units) : Prop := u ≠ [] ∧ (32 : UInt16) ∉ u ∧ (10 : UInt16) ∉ u
theorem word_name {u : Units} (h : isName u = true) : Word u := by
  obtain ⟨a, _, c⟩ := name_facts h
  refine ⟨a, fun k => ?_, fun k => ?_⟩
  · have := (c _ k).1; exact absurd this (by decide)
  · have := (c _ k).1; exact absurd this (by decide)
theorem word_digit {n : Nat} (h1 : 1 ≤ n) (h2 : n ≤ 9) : Word (digitUnits n) := by
  obtain ⟨a, b, c, _⟩ := digit_facts h1 h2
  exact ⟨a, b, c⟩
theorem word_shelf : Word (units "shelf") := by unfold Word; decide +kernel
theorem word_customers : Word (units "customers") := by unfold Word; decide +kernel
theorem word_of : Word (units "of") := by unfold Word; decide +kernel
theorem word_stocker : Word (units "stocker") := by unfold Word; decide +kernel
theorem word_onto : Word (units "onto") := by unfold Word; decide +kernel
theorem not_mem_join {c d : UInt16} (h : d ≠ c) : ∀ {l : List Units}, (∀ u, u ∈ l → d ∉ u) → d ∉ joinWith c l
  | [], _ => by simp [joinWith]
  | [u], k => k u List.mem_cons_self
  | u :: v :: r, k => by
    rw [joinWith, List.mem_append, List.mem_cons]
    · rintro (a | a | a)
      · exact k u List.mem_cons_self a
      · exact h a
      · exact not_mem_join h (fun x hx => k x (List.mem_cons_of_mem _ hx)) a
    · simp
def Line (w : List Units) : Prop := w ≠ [] ∧ ∀ u, u ∈ w → Word u
theorem line_words {w : List Units} (h : Line w) : wordsOf (joinWith 32 w) = w := p_words_read w fun u hu => ⟨(h.2 u hu).1, (h.2 u hu).2.1⟩
theorem line_no10 {w : List Units} (h : Line w) : (10 : UInt16) ∉ joinWith 32 w := not_mem_join (by decide) fun u hu => (h.2 u hu).2.2
theorem line_shelf {s : Shelf} (h : isName s.name = true ∧ 1 ≤ s.room ∧ s.room ≤ 4) : Line (shelfWords s) := by
  refine ⟨by simp [shelfWords], fun u hu => ?_⟩
  simp only [shelfWords, List.mem_cons, List.not_mem_nil, or_false] at hu
  rcases hu with rfl | rfl | rfl
  · exact word_shelf
  · exact word_name h.1
  · exact word_digit h.2.1 (by omega)
theorem line_customers {p : Shop} (h : IsShop p) : Line (customersWords p) := by
  obtain ⟨_, h1, h2, h3, h4, _⟩ := h
  refine ⟨by simp [customersWords], fun u hu => ?_⟩
  simp only [customersWords, List.mem_cons, List.not_mem_nil, or_false] at hu
  rcases hu with rfl | rfl | rfl | rfl
  · exact word_customers
  · exact word_digit h1 (by omega)
  · exact word_of
  · exact word_digit h3 (by omega)
theorem line_stocker {p : Shop} (h : IsShop p) : Line (stockerWords p) := by
  obtain ⟨⟨_, h0, _⟩, _, _, _, _, h1, h2, h3, h4⟩ := h
  refine ⟨by simp [stockerWords], fun u hu => ?_⟩
  simp only [stockerWords, List.mem_cons, List.not_mem_nil, or_false] at hu
  rcases hu with rfl | rfl | rfl | rfl
  · exact word_stocker
  · exact word_digit h1 (by omega)
  · exact word_onto
  · exact word_digit h3 (by omega)
theorem is_word (s : String) : isWord (units s) s = true := by unfold isWord; exact beq_self_eq_true _
theorem shelf_read {s : Shelf} (h : isName s.name = true ∧ 1 ≤ s.room ∧ s.room ≤ 4) : shelfFrom (shelfWords s) = some s := by
  unfold shelfFrom shelfWords
  dsimp only
  rw [is_word, h.1, number_of h.2.1 (by omega) (show s.room ≤ mostRoom from h.2.2)]
  rfl
theorem customers_read {p : Shop} (h : IsShop p) : customersFrom (customersWords p) = some (p.taken, p.ofOne) := by
  obtain ⟨_, h1, h2, h3, h4, _⟩ := h
  unfold customersFrom customersWords
  dsimp only
  rw [is_word, is_word, number_of h1 (by omega) (show p.taken ≤ mostTaken from h2)]
  show Option.map _ (numberTo p.taken _) = _
  rw [number_of h3 (by omega) h4]
  rfl
theorem stocker_read {p : Shop} (h : IsShop p) : stockerFrom p.shelves.length (stockerWords p) = some (p.items, p.onto) := by
  obtain ⟨⟨_, h0, _⟩, _, _, _, _, h1, h2, h3, h4⟩ := h
  unfold stockerFrom stockerWords
  dsimp only
  rw [is_word, is_word, number_of h1 h2 (show p.items ≤ mostItems from h2)]
  show Option.map _ (numberTo p.shelves.length _) = _
  rw [number_of h3 (by omega) h4]
  rfl
theorem read_line {α : Type} {f : α → List Units → Option α} {m : Nat} {s t : α} {w : List Units} {r : List Units} (h : Line w) (e : f s w = some t) : readLines f m s (joinWith 32 w :: r) = readLines f (m + 1) t r := by
  rw [readLines, line_words h, if_neg h.1, e]
theorem read_shelves : ∀ (ss : List Shelf) (d : Shop) (n : Nat) (rest : List Units), (∀ s, s ∈ ss → isName s.name = true ∧ 1 ≤ s.room ∧ s.room ≤ 4) → d.shelves.length + ss.length ≤ 3 → (shelfNames (d.shelves ++ ss)).Nodup →
    readLines readShopLine n ⟨0, d⟩ ((ss.map shelfWords).map (joinWith 32) ++ rest) = readLines readShopLine (n + ss.length) ⟨0, { d with shelves := d.shelves ++ ss }⟩ rest
  | [], d, n, rest, _, _, _ => by simp
  | s :: ss, d, n, rest, h, hl, hn => by
    have hs := h s List.mem_cons_self
    have e : readShopLine ⟨0, d⟩ (shelfWords s) = some ⟨0, withShelf d s⟩ := by
      unfold readShopLine
      rw [if_pos rfl]
      have r : readShelf ⟨0, d⟩ (shelfWords s) = some ⟨0, withShelf d s⟩ := by
        unfold readShelf
        rw [shelf_read hs]
        show (if d.shelves.length < mostShelves ∧ (shelfNames d.shelves).contains s.name = false then _ else _) = _
        rw [if_pos]
        refine ⟨?_, ?_⟩
        · show d.shelves.length < 3
          simp at hl; omega
        · rw [← Bool.not_eq_true, List.contains_iff_mem]
          intro k
          unfold shelfNames at hn k
          rw [List.map_append, List.nodup_append] at hn
          exact hn.2.2 _ k _ (by simp) rfl
      rw [r]
    rw [List.map_cons, List.map_cons, List.cons_append, read_line (line_shelf hs) e]
    have := read_shelves ss (withShelf d s) (n + 1) rest (fun x hx => h x (List.mem_cons_of_mem _ hx)) (by simp [withShelf] at hl ⊢; omega) (by simpa [withShelf] using hn)
    rw [this, List.length_cons, show n + 1 + ss.length = n + (ss.length + 1) by omega]
    simp [withShelf]
theorem shop_lines {p : Shop} (h : IsShop p) : linesOf (shopUnits p) = (shopLines p).map (joinWith 32) := by
  refine p_lines_read _ (by simp [shopLines]) fun u hu => ?_
  rw [List.mem_map] at hu
  obtain ⟨w, hw, rfl⟩ := hu
  unfold shopLines at hw
  simp only [List.mem_append, List.mem_map, List.mem_cons, List.not_mem_nil, or_false] at hw
  rcases hw with ⟨s, hs, rfl⟩ | rfl | rfl
  · exact line_no10 (line_shelf (h.1.2.2.2 s hs))
  · exact line_no10 (line_customers h)
  · exact line_no10 (line_stocker h)
theorem shop_read {p : Shop} (h : IsShop p) : readShop (shopUnits p) = .ok p := by
  have e : readLines readShopLine 1 startReading (linesOf (shopUnits p)) = .ok ⟨2, p⟩ := by
    rw [shop_lines h]
    unfold shopLines
    rw [List.map_append]
    have h' := h
    obtain ⟨⟨h1, h2, h3, h4⟩, _⟩ := h'
    have r := read_shelves p.shelves ⟨[], 1, 1, 1, 1⟩ 1 ([customersWords p, stockerWords p].map (joinWith 32)) h4 (by simpa using h2) (by simpa using h3)
    unfold startReading
    rw [r]
    simp only [List.nil_append, List.map_cons, List.map_nil]
    have c : readShopLine ⟨0, ⟨p.shelves, 1, 1, 1, 1⟩⟩ (customersWords p) = some ⟨1, ⟨p.shelves, p.taken, p.ofOne, 1, 1⟩⟩ := by
      unfold readShopLine
      rw [if_pos rfl]
      have n : readShelf ⟨0, ⟨p.shelves, 1, 1, 1, 1⟩⟩ (customersWords p) = none := rfl
      rw [n]
      show readCustomers _ _ = _
      unfold readCustomers
      have ne : p.shelves.isEmpty = false := by
        cases q : p.shelves with
        | nil => rw [q] at h1; simp at h1
        | cons _ _ => rfl
      simp only [ne]
      rw [customers_read h]
      rfl
    rw [read_line (line_customers h) c]
    have s : readShopLine ⟨1, ⟨p.shelves, p.taken, p.ofOne, 1, 1⟩⟩ (stockerWords p) = some ⟨2, p⟩ := by
      unfold readShopLine
      rw [if_neg (show ¬ (1 : Nat) = 0 by decide), if_pos rfl]
      unfold readStocker
      rw [stocker_read h]
      rfl
    rw [read_line (line_stocker h) s]
    rfl
  unfold readShop
  rw [e]
  show wholeShop ⟨2, p⟩ _ = _
  unfold wholeShop
  rw [if_pos rfl]
theorem p_shops_read : shops_read := ⟨fun _ _ h => read_shop h, fun _ h => shop_read h⟩
theorem join_length {c : UInt16} : ∀ (l : List Units) (n : Nat), (∀ u, u ∈ l → u.length ≤ n) → (joinWith c l).length ≤ l.length * (n + 1)
  | [], n, _ => by simp [joinWith]
  | [u], n, h => by have := h u List.mem_cons_self; simp [joinWith]; omega
  | u :: v :: r, n, h => by
    rw [joinWith, List.length_append, List.length_cons]
    · have a := h u List.mem_cons_self
      have b := join_length (c := c) (v :: r) n fun x hx => h x (List.mem_cons_of_mem _ hx)
      rw [List.length_cons (a := u), Nat.succ_mul]
      omega
    · simp
theorem line3 (a b c : Units) : (joinWith 32 [a, b, c]).length = a.length + b.length + c.length + 2 := by
  simp [joinWith]; omega
theorem line4 (a b c d : Units) : (joinWith 32 [a, b, c, d]).length = a.length + b.length + c.length + d.length + 3 := by
  simp [joinWith]; omega
theorem shop_length {p : Shop} (h : IsShop p) : (shopUnits p).length ≤ 85 := by
  unfold shopUnits
  have h' := h
  obtain ⟨⟨_, h2, _, h4⟩, t1, t2, o1, o2, i1, i2, m1, m2⟩ := h'
  have := join_length (c := 10) ((shopLines p).map (joinWith 32)) 16 fun u hu => by
    rw [List.mem_map] at hu
    obtain ⟨w, hw, rfl⟩ := hu
    unfold shopLines at hw
    simp only [List.mem_append, List.mem_map, List.mem_cons, List.not_mem_nil, or_false] at hw
    rcases hw with ⟨s, hs, rfl⟩ | rfl | rfl
    · obtain ⟨n1, r1, r2⟩ := h4 s hs
      unfold shelfWords
      rw [line3]
      have a := (name_facts n1).2.1
      have b := (digit_facts r1 (by omega)).2.2.2
      have c : (units "shelf").length = 5 := by decide +kernel
      omega
    · unfold customersWords
      rw [line4]
      have a := (digit_facts t1 (by omega)).2.2.2
      have b := (digit_facts o1 (by omega)).2.2.2
      have c : (units "customers").length = 9 := by decide +kernel
      have d : (units "of").length = 2 := by decide +kernel
      omega
    · unfold stockerWords
      rw [line4]
      have a := (digit_facts i1 (by omega)).2.2.2
      have b := (digit_facts m1 (by omega)).2.2.2
      have c : (units "stocker").length = 7 := by decide +kernel
      have d : (units "onto").length = 4 := by decide +kernel
      omega
  simp [shopLines] at this ⊢
  omega
theorem shopFor_ok {t : List Nat} {p : Shop} : shopFor t = .ok p ↔ t.length ≤ 200 ∧ readShop (unitsFor t) = .ok p := by
  unfold shopFor need
  by_cases c : t.length ≤ mostText
  · rw [if_pos (by simpa using c)]
    show (match readShop (unitsFor t) with | .ok p => Res.ok p | .error n => .bad ([eLine] ++ putU16 n)) = _ ↔ _
    cases e : readShop (unitsFor t) with
    | ok q =>
      exact ⟨fun h => ⟨c, (by cases h; rfl)⟩, fun h => (by cases h.2; rfl)⟩
    | error n => exact ⟨fun h => (by cases h), fun h => (by cases h.2)⟩
  · rw [if_neg (by simpa using c)]
    exact ⟨fun h => (by cases h), fun h => absurd h.1 c⟩
theorem shopFor_bad {t : List Nat} : (∃ p, shopFor t = .ok p) ∨ (200 < t.length ∧ shopFor t = .bad [2]) ∨ ∃ n, shopFor t = .bad (3 :: putU16 n) := by
  unfold shopFor need
  by_cases c : t.length ≤ mostText
  · rw [if_pos (by simpa using c)]
    show (∃ p, (match readShop (unitsFor t) with | .ok p => Res.ok p | .error n => .bad ([eLine] ++ putU16 n)) = _) ∨ _ ∨ ∃ n, (match readShop (unitsFor t) with | .ok p => Res.ok p | .error n => .bad ([eLine] ++ putU16 n)) = _
    cases e : readShop (unitsFor t) with
    | ok q => exact Or.inl ⟨q, rfl⟩
    | error n => exact Or.inr (Or.inr ⟨n, rfl⟩)
  · rw [if_neg (by simpa using c)]
    have c' : ¬ t.length ≤ 200 := c
    exact Or.inr (Or.inl ⟨by omega, rfl⟩)
theorem units_back (u : Units) : unitsFor (u.map fun c => c.toNat) = u := by
  unfold unitsFor
  rw [List.map_map]
  have : (UInt16.ofNat ∘ fun c : UInt16 => c.toNat) = id := by
    funext c
    simp
  rw [this, List.map_id]
theorem shop_of_ok {t : List Nat} {p : Shop} (h : shopFor t = .ok p) : IsShop p := read_shop (shopFor_ok.1 h).2
theorem p_Texts_read : Texts_read := by
  refine ⟨fun p h => ?_, fun t p h => ⟨shop_of_ok h, (shopFor_ok.1 h).1⟩, fun t => shopFor_bad⟩
  rw [shopFor_ok, units_back]
  have := shop_length h
  exact ⟨by simp; omega, shop_read h⟩
end RsP
set_option Elab.async false
namespace RsP
open Rs FsLaw

/-! ### requests are taken apart -/
def Bytes (l : Octets) : Prop := ∀ c, c ∈ l → c < 256
theorem bytes_app {a b : Octets} : Bytes (a ++ b) ↔ Bytes a ∧ Bytes b := by
  unfold Bytes
  simp only [List.mem_append]
  exact ⟨fun h => ⟨fun c k => h c (Or.inl k), fun c k => h c (Or.inr k)⟩, fun h c k => k.elim (h.1 c) (h.2 c)⟩
theorem bytes_cons {a : Nat} {b : Octets} : Bytes (a :: b) ↔ a < 256 ∧ Bytes b := by
  unfold Bytes
  simp
/-- what is taken is what is written -/
def Reads {α : Type} (p : Take α) (put : α → Octets) (ok : α → Prop) : Prop := ∀ l, Bytes l → ∀ a r, p l = some (a, r) ↔ ok a ∧ l = put a ++ r
theorem next_some {α β : Type} {p : Take α} {f : α → Take β} {l : Octets} {x : β × Octets} : next p f l = some x ↔ ∃ a r, p l = some (a, r) ∧ f a r = some x := by
  unfold next
  cases e : p l with
  | none => simp
  | some y =>
    constructor
    · intro h
      exact ⟨y.1, y.2, rfl, h⟩
    · rintro ⟨a, r, h, k⟩
      cases h
      exact k
theorem map_some {α β : Type} {f : α → β} {p : Take α} {l : Octets} {b : β} {r : Octets} : mapTake f p l = some (b, r) ↔ ∃ a, p l = some (a, r) ∧ b = f a := by
  unfold mapTake
  rw [next_some]
  constructor
  · rintro ⟨a, r', h, k⟩
    have k : some (f a, r') = some (b, r) := k
    cases k
    exact ⟨a, h, rfl⟩
  · rintro ⟨a, h, rfl⟩
    exact ⟨a, r, h, rfl⟩
theorem reads_u8 : Reads takeU8 putU8 (· < 256) := fun l hl a r => by
  cases l with
  | nil =>
    constructor
    · intro h; cases h
    · rintro ⟨_, h⟩; cases h
  | cons x l =>
    rw [bytes_cons] at hl
    constructor
    · intro h
      have h : some (x, l) = some (a, r) := h
      cases h
      exact ⟨hl.1, by unfold putU8; rw [Nat.mod_eq_of_lt hl.1]; rfl⟩
    · rintro ⟨h, k⟩
      unfold putU8 at k
      rw [Nat.mod_eq_of_lt h] at k
      cases k
      rfl
theorem u16_some {l : Octets} {a : Nat} {r : Octets} : takeU16 l = some (a, r) ↔ ∃ x y, l = x :: y :: r ∧ a = x + 256 * y := by
  match l with
  | [] => exact ⟨fun h => (by cases h), fun ⟨_, _, h, _⟩ => (by cases h)⟩
  | [_] => exact ⟨fun h => (by cases h), fun ⟨_, _, h, _⟩ => (by cases h)⟩
  | x :: y :: l =>
    constructor
    · intro h
      have h : some (x + 256 * y, l) = some (a, r) := h
      cases h
      exact ⟨x, y, rfl, rfl⟩
    · rintro ⟨_, _, h, rfl⟩
      cases h
      rfl
theorem reads_u16 : Reads takeU16 putU16 (· < 65536) := fun l hl a r => by
  rw [u16_some]
  constructor
  · rintro ⟨x, y, rfl, rfl⟩
    simp only [bytes_cons] at hl
    refine ⟨by omega, ?_⟩
    unfold putU16
    rw [show (x + 256 * y) % 256 = x by omega, show (x + 256 * y) / 256 % 256 = y by omega]
    rfl
  · rintro ⟨h, rfl⟩
    exact ⟨a % 256, a / 256 % 256, rfl, by omega⟩
theorem reads_many {α : Type} {p : Take α} {put : α → Octets} {ok : α → Prop} (h : Reads p put ok) : ∀ (n : Nat), Reads (takeMany p n) (fun l => l.flatMap put) (fun l => l.length = n ∧ ∀ a, a ∈ l → ok a)
  | 0 => fun l hl a r => by
    constructor
    · intro e
      have e : some (([] : List α), l) = some (a, r) := e
      cases e
      exact ⟨⟨rfl, by simp⟩, rfl⟩
    · rintro ⟨⟨a0, _⟩, k⟩
      have : a = [] := List.length_eq_zero_iff.1 a0
      subst this
      have k : l = r := k
      subst k
      rfl
  | n + 1 => fun l hl a r => by
    unfold takeMany
    rw [next_some]
    constructor
    · rintro ⟨x, l1, e1, e2⟩
      obtain ⟨ox, rfl⟩ := (h l hl x l1).1 e1
      rw [bytes_app] at hl
      rw [next_some] at e2
      obtain ⟨xs, l2, e2, e3⟩ := e2
      obtain ⟨⟨o1, o2⟩, rfl⟩ := (reads_many h n l1 hl.2 xs l2).1 e2
      have e3 : some (x :: xs, l2) = some (a, r) := e3
      cases e3
      refine ⟨⟨by simp [o1], fun b hb => ?_⟩, by simp⟩
      rcases List.mem_cons.1 hb with rfl | hb
      · exact ox
      · exact o2 b hb
    · rintro ⟨⟨o1, o2⟩, rfl⟩
      cases a with
      | nil => simp at o1
      | cons x xs =>
        have hl' : Bytes (put x ++ (xs.flatMap put ++ r)) := by simpa using hl
        refine ⟨x, xs.flatMap put ++ r, (h _ hl x _).2 ⟨o2 x List.mem_cons_self, by simp⟩, ?_⟩
        rw [next_some]
        rw [bytes_app] at hl'
        exact ⟨xs, r, (reads_many h n _ hl'.2 xs r).2 ⟨⟨by simpa using o1, fun b hb => o2 b (List.mem_cons_of_mem _ hb)⟩, rfl⟩, rfl⟩
theorem reads_list8 {α : Type} {p : Take α} {put : α → Octets} {ok : α → Prop} (h : Reads p put ok) : Reads (takeList8 p) (putList8 put) (fun l => l.length < 256 ∧ ∀ a, a ∈ l → ok a) := fun l hl a r => by
  unfold takeList8
  rw [next_some]
  constructor
  · rintro ⟨n, l1, e1, e2⟩
    obtain ⟨o, rfl⟩ := (reads_u8 l hl n l1).1 e1
    rw [bytes_app] at hl
    obtain ⟨⟨rfl, o2⟩, rfl⟩ := (reads_many h n l1 hl.2 a r).1 e2
    exact ⟨⟨o, o2⟩, by simp [putList8]⟩
  · rintro ⟨⟨o1, o2⟩, rfl⟩
    unfold putList8 at hl ⊢
    rw [List.append_assoc] at hl ⊢
    exact ⟨a.length, _, (reads_u8 _ hl _ _).2 ⟨o1, rfl⟩, (reads_many h _ _ (bytes_app.1 hl).2 a r).2 ⟨⟨rfl, o2⟩, rfl⟩⟩
theorem reads_list16 {α : Type} {p : Take α} {put : α → Octets} {ok : α → Prop} (h : Reads p put ok) : Reads (takeList16 p) (putList16 put) (fun l => l.length < 65536 ∧ ∀ a, a ∈ l → ok a) := fun l hl a r => by
  unfold takeList16
  rw [next_some]
  constructor
  · rintro ⟨n, l1, e1, e2⟩
    obtain ⟨o, rfl⟩ := (reads_u16 l hl n l1).1 e1
    rw [bytes_app] at hl
    obtain ⟨⟨rfl, o2⟩, rfl⟩ := (reads_many h n l1 hl.2 a r).1 e2
    exact ⟨⟨o, o2⟩, by simp [putList16]⟩
  · rintro ⟨⟨o1, o2⟩, rfl⟩
    unfold putList16 at hl ⊢
    rw [List.append_assoc] at hl ⊢
    exact ⟨a.length, _, (reads_u16 _ hl _ _).2 ⟨o1, rfl⟩, (reads_many h _ _ (bytes_app.1 hl).2 a r).2 ⟨⟨rfl, o2⟩, rfl⟩⟩
theorem reads_text : Reads takeText putText IsText := reads_list16 reads_u8
theorem reads_numbers : Reads takeNumbers putNumbers AreNumbers := reads_list8 reads_u8
theorem reads_two {α β γ : Type} {p : Take α} {put : α → Octets} {ok : α → Prop} {q : Take β} {put' : β → Octets} {ok' : β → Prop} {f : α → β → γ} (h : Reads p put ok) (h' : Reads q put' ok') {l : Octets} (hl : Bytes l) {c : γ} {r : Octets} :
    next p (fun a => next q fun b => given (f a b)) l = some (c, r) ↔ ∃ a b, c = f a b ∧ (ok a ∧ ok' b) ∧ l = (put a ++ put' b) ++ r := by
  rw [next_some]
  constructor
  · rintro ⟨a, l1, e1, e2⟩
    obtain ⟨o, rfl⟩ := (h l hl a l1).1 e1
    rw [bytes_app] at hl
    rw [next_some] at e2
    obtain ⟨b, l2, e2, e3⟩ := e2
    obtain ⟨o', rfl⟩ := (h' l1 hl.2 b l2).1 e2
    have e3 : some (f a b, l2) = some (c, r) := e3
    cases e3
    exact ⟨a, b, rfl, ⟨o, o'⟩, by simp⟩
  · rintro ⟨a, b, rfl, ⟨o, o'⟩, rfl⟩
    rw [List.append_assoc] at hl ⊢
    refine ⟨a, _, (h _ hl a _).2 ⟨o, rfl⟩, ?_⟩
    rw [next_some]
    exact ⟨b, r, (h' _ (bytes_app.1 hl).2 b r).2 ⟨o', rfl⟩, rfl⟩
theorem reads_map {α γ : Type} {p : Take α} {put : α → Octets} {ok : α → Prop} {f : α → γ} (h : Reads p put ok) {l : Octets} (hl : Bytes l) {c : γ} {r : Octets} :
    mapTake f p l = some (c, r) ↔ ∃ a, c = f a ∧ ok a ∧ l = put a ++ r := by
  rw [map_some]
  constructor
  · rintro ⟨a, e, k⟩
    exact ⟨a, k, (h l hl a r).1 e⟩
  · rintro ⟨a, k, e⟩
    exact ⟨a, (h l hl a r).2 e, k⟩
theorem taken_some {α : Type} {p : Take α} {l : Octets} {a : α} : taken p l = some a ↔ p l = some (a, []) := by
  unfold taken
  cases p l with
  | none => simp
  | some e =>
    obtain ⟨b, r⟩ := e
    cases r with
    | nil => simp
    | cons _ _ => simp
theorem take_request {n : Nat} {l : Octets} {x : Request} {r : Octets} : takeRequest (n :: l) = some (x, r) ↔ (if n == 0 then wrongly else (takers[n - 1]?).getD wrongly) l = some (x, r) := Iff.rfl
theorem request_iff {l : Octets} (hl : Bytes l) {x : Request} : requestOf l = some x ↔ IsRequest x ∧ l = callOf x :: bodyOf x := by
  unfold requestOf
  rw [taken_some]
  cases l with
  | nil =>
    constructor
    · intro h; cases h
    · rintro ⟨_, h⟩; cases h
  | cons n l =>
    rw [take_request]
    rw [bytes_cons] at hl
    obtain ⟨_, hl⟩ := hl
    have big : ∀ m, takers[m + 13]? = none := fun m => by
      rw [List.getElem?_eq_none]
      show 13 ≤ m + 13
      omega
    match n with
    | 0 =>
      constructor
      · intro h; cases h
      · rintro ⟨_, h⟩; cases x <;> cases h
    | 1 =>
      show mapTake Request.format takeText l = _ ↔ _
      rw [reads_map reads_text hl]
      constructor
      · rintro ⟨a, rfl, k, e⟩
        exact ⟨k, by rw [e, List.append_nil]; rfl⟩
      · rintro ⟨k, e⟩
        cases x <;> cases e
        exact ⟨_, rfl, k, (List.append_nil _).symm⟩
    | 2 =>
      show takeOf Request.safe l = _ ↔ _
      unfold takeOf
      rw [reads_two reads_text reads_numbers hl]
      constructor
      · rintro ⟨a, b, rfl, k, e⟩
        exact ⟨k, by rw [e, List.append_nil]; rfl⟩
      · rintro ⟨k, e⟩
        cases x <;> cases e
        exact ⟨_, _, rfl, k, (List.append_nil _).symm⟩
    | 3 =>
      show takeOf Request.filling l = _ ↔ _
      unfold takeOf
      rw [reads_two reads_text reads_numbers hl]
      constructor
      · rintro ⟨a, b, rfl, k, e⟩
        exact ⟨k, by rw [e, List.append_nil]; rfl⟩
      · rintro ⟨k, e⟩
        cases x <;> cases e
        exact ⟨_, _, rfl, k, (List.append_nil _).symm⟩
    | 4 =>
      show takeOf Request.doom l = _ ↔ _
      unfold takeOf
      rw [reads_two reads_text reads_numbers hl]
      constructor
      · rintro ⟨a, b, rfl, k, e⟩
        exact ⟨k, by rw [e, List.append_nil]; rfl⟩
      · rintro ⟨k, e⟩
        cases x <;> cases e
        exact ⟨_, _, rfl, k, (List.append_nil _).symm⟩
    | 5 =>
      show takeOf Request.attack l = _ ↔ _
      unfold takeOf
      rw [reads_two reads_text reads_numbers hl]
      constructor
      · rintro ⟨a, b, rfl, k, e⟩
        exact ⟨k, by rw [e, List.append_nil]; rfl⟩
      · rintro ⟨k, e⟩
        cases x <;> cases e
        exact ⟨_, _, rfl, k, (List.append_nil _).symm⟩
    | 6 =>
      show mapTake Request.least takeText l = _ ↔ _
      rw [reads_map reads_text hl]
      constructor
      · rintro ⟨a, rfl, k, e⟩
        exact ⟨k, by rw [e, List.append_nil]; rfl⟩
      · rintro ⟨k, e⟩
        cases x <;> cases e
        exact ⟨_, rfl, k, (List.append_nil _).symm⟩
    | 7 =>
      show mapTake Request.fewest takeText l = _ ↔ _
      rw [reads_map reads_text hl]
      constructor
      · rintro ⟨a, rfl, k, e⟩
        exact ⟨k, by rw [e, List.append_nil]; rfl⟩
      · rintro ⟨k, e⟩
        cases x <;> cases e
        exact ⟨_, rfl, k, (List.append_nil _).symm⟩
    | 8 =>
      show takeParting l = _ ↔ _
      unfold takeParting
      rw [reads_two reads_text reads_text hl]
      constructor
      · rintro ⟨a, b, rfl, k, e⟩
        exact ⟨k, by rw [e, List.append_nil]; rfl⟩
      · rintro ⟨k, e⟩
        cases x <;> cases e
        exact ⟨_, _, rfl, k, (List.append_nil _).symm⟩
    | 9 =>
      show takeRound l = _ ↔ _
      unfold takeRound
      rw [reads_two reads_u8 reads_text hl]
      constructor
      · rintro ⟨a, b, rfl, k, e⟩
        exact ⟨k, by rw [e, List.append_nil]; rfl⟩
      · rintro ⟨k, e⟩
        cases x <;> cases e
        exact ⟨_, _, rfl, k, (List.append_nil _).symm⟩
    | 10 =>
      show takeIn Request.fill l = _ ↔ _
      unfold takeIn
      rw [reads_two reads_u8 reads_numbers hl]
      constructor
      · rintro ⟨a, b, rfl, k, e⟩
        exact ⟨k, by rw [e, List.append_nil]; rfl⟩
      · rintro ⟨k, e⟩
        cases x <;> cases e
        exact ⟨_, _, rfl, k, (List.append_nil _).symm⟩
    | 11 =>
      show takeIn Request.sell l = _ ↔ _
      unfold takeIn
      rw [reads_two reads_u8 reads_numbers hl]
      constructor
      · rintro ⟨a, b, rfl, k, e⟩
        exact ⟨k, by rw [e, List.append_nil]; rfl⟩
      · rintro ⟨k, e⟩
        cases x <;> cases e
        exact ⟨_, _, rfl, k, (List.append_nil _).symm⟩
    | 12 =>
      show mapTake Request.undo takeU8 l = _ ↔ _
      rw [reads_map reads_u8 hl]
      constructor
      · rintro ⟨a, rfl, k, e⟩
        exact ⟨k, by rw [e, List.append_nil]; rfl⟩
      · rintro ⟨k, e⟩
        cases x <;> cases e
        exact ⟨_, rfl, k, (List.append_nil _).symm⟩
    | 13 =>
      show mapTake Request.look takeU8 l = _ ↔ _
      rw [reads_map reads_u8 hl]
      constructor
      · rintro ⟨a, rfl, k, e⟩
        exact ⟨k, by rw [e, List.append_nil]; rfl⟩
      · rintro ⟨k, e⟩
        cases x <;> cases e
        exact ⟨_, rfl, k, (List.append_nil _).symm⟩
    | m + 14 =>
      show ((takers[m + 13]?).getD wrongly) l = _ ↔ _
      rw [big]
      constructor
      · intro h; cases h
      · rintro ⟨_, h⟩; cases x <;> cases h
theorem octets_bytes (r : List UInt8) : Bytes (Zz33Octets.octetsOf r) := fun c hc => by
  unfold Zz33Octets.octetsOf at hc
  rw [List.mem_map] at hc
  obtain ⟨b, _, rfl⟩ := hc
  exact b.toNat_lt
theorem p_Requests_exact : Requests_exact := fun r _ => request_iff (octets_bytes r)
end RsP
set_option Elab.async false
namespace RsP
open Rs FsLaw
open Zz33Octets (octetsOf bytesOf start fits)

/-! ### one request -/
theorem step_none {w : World} {r : List UInt8} (h : requestOf (octetsOf r) = none) : Zz33Octets.step w r = (w, [1, 1]) := by
  unfold Zz33Octets.step stepOn
  rw [h]
  rfl
theorem step_bad {w : World} {r : List UInt8} {x : Request} {e : Octets} (h : requestOf (octetsOf r) = some x) (k : callOn w x = .bad e) : Zz33Octets.step w r = (w, bytesOf (1 :: e)) := by
  unfold Zz33Octets.step stepOn
  rw [h]
  dsimp only
  unfold answerOn
  rw [k]
  rfl
theorem step_ok {w : World} {r : List UInt8} {x : Request} {z : World × Octets} (h : requestOf (octetsOf r) = some x) (k : callOn w x = .ok z) : Zz33Octets.step w r = (z.1, bytesOf (0 :: z.2)) := by
  unfold Zz33Octets.step stepOn
  rw [h]
  dsimp only
  unfold answerOn
  rw [k]
theorem p_Step_exact : Step_exact := fun _ _ => ⟨step_none, fun _ h => ⟨fun _ k => step_bad h k, fun _ k => step_ok h k⟩⟩
theorem p_Malformed_refused : Malformed_refused := fun _ _ h => by rw [step_none h]
theorem p_Start_empty : Start_empty := fun k => by
  show (List.replicate 8 none).getD k none = none
  rw [List.getD_eq_getElem?_getD, List.getElem?_replicate]
  split <;> rfl
theorem bytes_eq_nil {l : Octets} : bytesOf l = [] ↔ l = [] := by unfold bytesOf; exact List.map_eq_nil_iff
theorem said0 {o : Octets} : bytesOf (0 :: o) = [0] ↔ o = [] := by
  have : bytesOf (0 :: o) = 0 :: bytesOf o := rfl
  rw [this, List.cons.injEq]
  exact ⟨fun h => bytes_eq_nil.1 h.2, fun h => ⟨rfl, bytes_eq_nil.2 h⟩⟩
theorem said1 {e : Octets} : bytesOf (1 :: e) ≠ [0] := by
  intro h
  have : bytesOf (1 :: e) = 1 :: bytesOf e := rfl
  rw [this] at h
  cases h
theorem said1' {e : Octets} {l : List UInt8} : bytesOf (1 :: e) ≠ 0 :: l := by
  intro h
  have : bytesOf (1 :: e) = 1 :: bytesOf e := rfl
  rw [this] at h
  cases h
theorem said0' {e : Octets} {l : List UInt8} : bytesOf (0 :: e) ≠ 1 :: l := by
  intro h
  have : bytesOf (0 :: e) = 0 :: bytesOf e := rfl
  rw [this] at h
  cases h

/-! ### results -/
theorem then_ok {α β : Type} {x : Res α} {f : α → Res β} {b : β} : andThen x f = .ok b ↔ ∃ a, x = .ok a ∧ f a = .ok b := by
  cases x with
  | bad l => exact ⟨fun h => (by cases h), fun ⟨_, h, _⟩ => (by cases h)⟩
  | ok a => exact ⟨fun h => ⟨a, rfl, h⟩, fun ⟨_, h, k⟩ => (by cases h; exact k)⟩
theorem then_bad {α β : Type} {x : Res α} {f : α → Res β} {l : Octets} : andThen x f = .bad l ↔ x = .bad l ∨ ∃ a, x = .ok a ∧ f a = .bad l := by
  cases x with
  | bad l' => exact ⟨fun h => Or.inl (by cases h; rfl), fun h => h.elim (fun h => by cases h; rfl) fun ⟨_, h, _⟩ => by cases h⟩
  | ok a => exact ⟨fun h => Or.inr ⟨a, rfl, h⟩, fun h => h.elim (fun h => by cases h) fun ⟨_, h, k⟩ => by cases h; exact k⟩
theorem map_ok {α β : Type} {x : Res α} {f : α → β} {b : β} : mapRes f x = .ok b ↔ ∃ a, x = .ok a ∧ f a = b := by
  unfold mapRes
  rw [then_ok]
  exact ⟨fun ⟨a, h, k⟩ => ⟨a, h, by cases k; rfl⟩, fun ⟨a, h, k⟩ => ⟨a, h, by rw [k]⟩⟩
theorem map_bad {α β : Type} {x : Res α} {f : α → β} {l : Octets} : mapRes f x = .bad l ↔ x = .bad l := by
  unfold mapRes
  rw [then_bad]
  exact ⟨fun h => h.elim id fun ⟨_, _, k⟩ => (by cases k), Or.inl⟩
theorem need_ok {b : Bool} {n : Nat} {u : Unit} : need b n = .ok u ↔ b = true := by
  unfold need
  cases b
  · exact ⟨fun h => (by cases h), fun h => (by cases h)⟩
  · exact ⟨fun _ => rfl, fun _ => rfl⟩
theorem need_bad {b : Bool} {n : Nat} {l : Octets} : need b n = .bad l ↔ b = false ∧ l = [n] := by
  unfold need
  cases b
  · exact ⟨fun h => ⟨rfl, (by cases h; rfl)⟩, fun h => (by rw [h.2]; rfl)⟩
  · exact ⟨fun h => (by cases h), fun h => (by cases h.1)⟩
theorem stock_ok {p : Shop} {s z : Stock} : stockFor p s = .ok z ↔ IsStock p s ∧ z = s := by
  unfold stockFor
  rw [then_ok]
  constructor
  · rintro ⟨_, h, k⟩
    cases k
    exact ⟨isBelow_iff.1 (need_ok.1 h), rfl⟩
  · rintro ⟨h, rfl⟩
    exact ⟨(), need_ok.2 (isBelow_iff.2 h), rfl⟩
theorem stock_bad {p : Shop} {s : Stock} {l : Octets} : stockFor p s = .bad l ↔ ¬ IsStock p s ∧ l = [4] := by
  unfold stockFor
  rw [then_bad, need_bad, isBelow_false]
  exact ⟨fun h => h.elim id fun ⟨_, _, k⟩ => (by cases k), fun h => Or.inl h⟩
theorem items_ok {p : Shop} {s z : Stock} : itemsFor p s = .ok z ↔ Below s (p.shelves.map fun _ => 9) ∧ z = s := by
  unfold itemsFor
  rw [then_ok]
  constructor
  · rintro ⟨_, h, k⟩
    cases k
    exact ⟨isBelow_iff.1 (need_ok.1 h), rfl⟩
  · rintro ⟨h, rfl⟩
    exact ⟨(), need_ok.2 (isBelow_iff.2 h), rfl⟩
theorem items_bad {p : Shop} {s : Stock} {l : Octets} : itemsFor p s = .bad l ↔ ¬ Below s (p.shelves.map fun _ => 9) ∧ l = [5] := by
  unfold itemsFor
  rw [then_bad, need_bad, isBelow_false]
  exact ⟨fun h => h.elim id fun ⟨_, _, k⟩ => (by cases k), fun h => Or.inl h⟩
theorem going_ok {r : Round} {m : Moment} {z : Round × Octets} : going r m = .ok z ↔ r.past.length < 30 ∧ z = (moved r m, []) := by
  unfold going
  rw [then_ok]
  constructor
  · rintro ⟨_, h, k⟩
    cases k
    exact ⟨by have := need_ok.1 h; exact of_decide_eq_true this, rfl⟩
  · rintro ⟨h, rfl⟩
    exact ⟨(), need_ok.2 (decide_eq_true h), rfl⟩
theorem going_bad {r : Round} {m : Moment} {l : Octets} : going r m = .bad l ↔ 30 ≤ r.past.length ∧ l = [10] := by
  unfold going
  rw [then_bad, need_bad]
  constructor
  · rintro (h | ⟨_, _, k⟩)
    · have : ¬ r.past.length < mostSteps := of_decide_eq_false h.1
      have t : mostSteps = 30 := rfl
      exact ⟨by omega, h.2⟩
    · cases k
  · rintro ⟨h, rfl⟩
    refine Or.inl ⟨decide_eq_false ?_, rfl⟩
    have t : mostSteps = 30 := rfl
    omega

/-! ### the calls on texts -/
theorem says_of {x : Request} {o : Octets} (h : ∀ w, callOn w x = .ok (w, o)) : Says x o := fun w r hr => by
  rw [step_ok hr (h w)]
theorem told_ok {w : World} {x : Res Octets} {o : Octets} (h : x = .ok o) : Rs.told w x = .ok (w, o) := by rw [h]; rfl
theorem atStock_ok {t : List Nat} {s : Stock} {p : Shop} {f : Shop → Stock → Octets} (h : shopFor t = .ok p) (hs : IsStock p s) : atStock t s f = .ok (f p s) := by
  unfold atStock
  rw [h]
  show mapRes (f p) (stockFor p s) = _
  rw [map_ok]
  exact ⟨s, stock_ok.2 ⟨hs, rfl⟩, rfl⟩
theorem atStock_bad {t : List Nat} {s : Stock} {p : Shop} {f : Shop → Stock → Octets} (h : shopFor t = .ok p) (hs : ¬ IsStock p s) : atStock t s f = .bad [4] := by
  unfold atStock
  rw [h]
  show mapRes (f p) (stockFor p s) = _
  rw [map_bad]
  exact stock_bad.2 ⟨hs, rfl⟩
theorem says_safe {t : List Nat} {s : Stock} {p : Shop} (h : shopFor t = .ok p) (hs : IsStock p s) : Says (.safe t s) (putFlag (isSafe p s)) := says_of fun _ => told_ok (atStock_ok h hs)
theorem says_filling {t : List Nat} {s : Stock} {p : Shop} (h : shopFor t = .ok p) (hs : IsStock p s) : Says (.filling t s) (putMaybe putNumbers (fillingOf p s)) := says_of fun _ => told_ok (atStock_ok h hs)
theorem says_doom {t : List Nat} {s : Stock} {p : Shop} (h : shopFor t = .ok p) (hs : IsStock p s) : Says (.doom t s) (putMaybe putU16 (doomOf p s)) := says_of fun _ => told_ok (atStock_ok h hs)
theorem says_attack {t : List Nat} {s : Stock} {p : Shop} (h : shopFor t = .ok p) (hs : IsStock p s) : Says (.attack t s) (putMaybe putNumbers (attackOf p s)) := says_of fun _ => told_ok (atStock_ok h hs)
theorem text_call {t : List Nat} {p : Shop} {f : Shop → Octets} (h : shopFor t = .ok p) : mapRes f (shopFor t) = .ok (f p) := by rw [h]; rfl
theorem says_least {t : List Nat} {p : Shop} (h : shopFor t = .ok p) : Says (.least t) (putList16 putNumbers (leastOf p)) := says_of fun _ => told_ok (text_call h)
theorem says_fewest {t : List Nat} {p : Shop} (h : shopFor t = .ok p) : Says (.fewest t) (putMaybe putU8 (fewestItems p) ++ putMaybe putU8 (fewestOnto p)) := says_of fun _ => told_ok (text_call (f := fun p => putMaybe putU8 (fewestItems p) ++ putMaybe putU8 (fewestOnto p)) h)
theorem units_text (u : Units) : putUnits u = putText (u.map fun c => c.toNat) := by
  unfold putUnits putText putList16
  rw [List.length_map, List.flatMap_map]
theorem p_Format_shows : Format_shows := fun t p h => by
  rw [← units_text]
  exact says_of fun _ => told_ok (text_call (f := fun p => putUnits (shopUnits p)) h)
theorem bound_le {p : Shop} (h : IsShop p) : bound p ≤ 125 := by
  unfold bound stocksOf
  have a := length_vectors (roomsOf p) 4 fun x hx => by
    unfold roomsOf at hx
    rw [List.mem_map] at hx
    obtain ⟨s, hs, rfl⟩ := hx
    exact (h.1.2.2.2 s hs).2.2
  rw [rooms_length] at a
  have : 5 ^ p.shelves.length ≤ 5 ^ 3 := Nat.pow_le_pow_right (by decide) h.1.2.1
  have b : 5 ^ 3 = 125 := rfl
  have c : (4 + 1) = 5 := rfl
  rw [c] at a
  omega
theorem p_Safe_shows : Safe_shows := fun t s p h hs => by
  by_cases k : CanKeep p s
  · refine Or.inl ⟨?_, k⟩
    have := says_safe h hs
    rw [isSafe_iff.2 k] at this
    exact this
  · refine Or.inr ⟨?_, (not_keep_iff hs).1 k⟩
    have := says_safe h hs
    rw [isSafe_false.2 k] at this
    exact this
theorem p_Doom_shows : Doom_shows := fun t s p h hs => by
  have := says_doom h hs
  cases e : doomOf p s with
  | none =>
    rw [e] at this
    exact Or.inl ⟨this, (doom_none hs).1 e⟩
  | some n =>
    rw [e] at this
    obtain ⟨a, b, c⟩ := doom_some hs e
    exact Or.inr ⟨n, this, Nat.le_trans a (bound_le (shop_of_ok h)), b, c⟩
theorem p_Filling_told : Filling_told := fun t s p h hs => by
  have := says_filling h hs
  cases e : fillingOf p s with
  | none =>
    rw [e] at this
    exact Or.inl ⟨this, (filling_none hs).1 e⟩
  | some f =>
    rw [e] at this
    obtain ⟨a, b, c⟩ := filling_some hs e
    exact Or.inr ⟨f, this, a, b, c⟩
theorem p_Filling_shows : Filling_shows := fun t s p h hs => (p_Filling_told t s p h hs).imp id fun ⟨f, a, b, c, d⟩ => ⟨f, a, b, c, fun g x y => (d g x y).1⟩
theorem p_Attack_told : Attack_told := fun t s p h hs => by
  have := says_attack h hs
  cases e : attackOf p s with
  | none =>
    rw [e] at this
    exact Or.inl ⟨this, (attack_none hs).1 e⟩
  | some g =>
    rw [e] at this
    obtain ⟨a, b⟩ := attack_some hs e
    refine Or.inr ⟨g, this, fun z => ?_, a, b⟩
    rw [(attack_none hs).2 z] at e
    cases e
theorem p_Attack_shows : Attack_shows := fun t s p h hs => (p_Attack_told t s p h hs).imp id fun ⟨g, a, b, c, d⟩ => ⟨g, a, b, c, d.imp (fun q => q.1) fun ⟨q, n, x, y⟩ => ⟨q, n, x, fun r m hr hm => (y r m hr hm).1⟩⟩
theorem p_Least_told : Least_told := fun _ p h => ⟨leastOf p, says_least h, least_sorted p, fun _ => mem_least, fun _ hs => keep_iff_least hs⟩
theorem p_Least_shows : Least_shows := fun _ p h => ⟨leastOf p, says_least h, fun _ => mem_least, fun _ hs => keep_iff_least hs⟩
theorem p_Fewest_shows : Fewest_shows := fun _ p h => ⟨fewestItems p, fewestOnto p, says_fewest h, p_fewest_exact p⟩
theorem shop_text {t : List Nat} {p : Shop} (h : shopFor t = .ok p) : IsShop p := shop_of_ok h
theorem same_shelves {p q : Shop} (hp : IsShop p) (hq : IsShop q) : sameShelves p q = true ↔ p.shelves = q.shelves := by
  unfold sameShelves
  rw [beq_iff_eq]
  constructor
  · intro h
    have h1 := hp.1.2.2.2
    have h2 := hq.1.2.2.2
    generalize p.shelves = a at h h1
    generalize q.shelves = b at h h2
    induction a generalizing b with
    | nil => cases b with
      | nil => rfl
      | cons _ _ => simp at h
    | cons x a ih => cases b with
      | nil => simp at h
      | cons y b =>
        simp only [List.map_cons, List.cons.injEq] at h
        obtain ⟨h, k⟩ := h
        have e := ih (fun s hs => h1 s (List.mem_cons_of_mem _ hs)) b k fun s hs => h2 s (List.mem_cons_of_mem _ hs)
        unfold shelfWords at h
        simp only [List.cons.injEq, true_and, and_true] at h
        have a1 := h1 x List.mem_cons_self
        have a2 := h2 y List.mem_cons_self
        have d1 := digit_of_units a1.2.1 (by omega)
        have d2 := digit_of_units a2.2.1 (by omega)
        rw [h.2] at d1
        rw [d1] at d2
        cases x; cases y
        simp_all
  · intro h
    rw [h]
theorem parting_ok {t u : List Nat} {p q : Shop} (h : shopFor t = .ok p) (k : shopFor u = .ok q) (s : sameShelves p q = true) : Says (.parting t u) (putMaybe putNumbers (partingOf p q)) := says_of fun w => told_ok (by
  unfold partingCall
  rw [h, k]
  show andThen (need (sameShelves p q) eShelves) _ = _
  rw [s]
  rfl)
theorem p_Parting_told : Parting_told := fun t u p q h k s => by
  have := parting_ok h k ((same_shelves (shop_of_ok h) (shop_of_ok k)).2 s)
  cases e : partingOf p q with
  | none =>
    rw [e] at this
    exact Or.inl ⟨this, parting_none.1 e⟩
  | some v =>
    rw [e] at this
    exact Or.inr ⟨v, this, parting_some e⟩
theorem p_Parting_shows : Parting_shows := fun t u p q h k s => (p_Parting_told t u p q h k ((same_shelves (shop_of_ok h) (shop_of_ok k)).1 s)).imp id fun ⟨v, a, b, c, _⟩ => ⟨v, a, b, c⟩
theorem p_Shelves_refused : Shelves_refused := fun w r t u p q hr h k s => by
  have : callOn w (.parting t u) = .bad [6] := by
    show Rs.told w (partingCall t u) = _
    unfold Rs.told
    rw [map_bad]
    unfold partingCall
    rw [h, k]
    show andThen (need (sameShelves p q) eShelves) _ = _
    have : sameShelves p q = false := by
      rw [← Bool.not_eq_true, same_shelves (shop_of_ok h) (shop_of_ok k)]
      exact s
    rw [this]
    rfl
  rw [step_bad hr this]
  rfl
theorem p_Stocks_refused : Stocks_refused := fun w r t s p x h hs hx hr => by
  have : callOn w x = .bad [4] := by
    rcases hx with rfl | rfl | rfl | rfl
    all_goals
      show Rs.told w (atStock t s _) = _
      unfold Rs.told
      rw [map_bad]
      exact atStock_bad h hs
  rw [step_bad hr this]
  rfl
theorem p_Texts_refused : Texts_refused := fun w r x t o hr hx h => by
  have : callOn w x = .bad o := by
    have at_bad : ∀ (s : Stock) (f : Shop → Stock → Octets), atStock t s f = .bad o := fun s f => by
      unfold atStock
      rw [h]; rfl
    rcases hx with rfl | ⟨s, rfl⟩ | ⟨s, rfl⟩ | ⟨s, rfl⟩ | ⟨s, rfl⟩ | rfl | rfl | ⟨u, rfl⟩ | ⟨u, p, hu, rfl⟩ | ⟨k, hk, rfl⟩
    · show Rs.told w (mapRes _ (shopFor t)) = _
      rw [h]; rfl
    · show Rs.told w (atStock t s _) = _
      rw [at_bad]; rfl
    · show Rs.told w (atStock t s _) = _
      rw [at_bad]; rfl
    · show Rs.told w (atStock t s _) = _
      rw [at_bad]; rfl
    · show Rs.told w (atStock t s _) = _
      rw [at_bad]; rfl
    · show Rs.told w (mapRes _ (shopFor t)) = _
      rw [h]; rfl
    · show Rs.told w (mapRes _ (shopFor t)) = _
      rw [h]; rfl
    · show Rs.told w (partingCall t u) = _
      unfold partingCall
      rw [h]; rfl
    · show Rs.told w (partingCall u t) = _
      unfold partingCall
      rw [hu, h]; rfl
    · show roundCall w k t = _
      unfold roundCall
      rw [(need_ok (u := ())).2 (decide_eq_true hk : decide (k < seatCount) = true), h]
      rfl
  rw [step_bad hr this]
end RsP
set_option Elab.async false
set_option linter.all false
set_option maxRecDepth 100000
set_option maxHeartbeats 4000000
namespace Fs
open PySem PySem.Spec PyProof.Rows L2 FsX
open Evl (Ex Ex.refl Ex.trans Ex.new Ex.mut fresh_back)
def stepN (d : Nat) (st : List (List Nat) × List Nat) (c : Nat) : List (List Nat) × List Nat := if c = d then (st.1 ++ [st.2], []) else (st.1, st.2 ++ [c])
def stN (d : Nat) (l : List Nat) : List (List Nat) × List Nat := l.foldl (stepN d) ([], [])
def splitN (d : Nat) (l : List Nat) : List (List Nat) := (stN d l).1 ++ [(stN d l).2]
theorem stN_snoc (d : Nat) (l : List Nat) (c : Nat) : stN d (l ++ [c]) = stepN d (stN d l) c := by unfold stN; rw [List.foldl_append]; rfl
theorem stN_len (d : Nat) : ∀ (n : Nat) (l : List Nat), l.length = n → (stN d l).1.length ≤ n ∧ (stN d l).2.length ≤ n
  | 0, l, h => by cases List.length_eq_zero_iff.1 h; exact ⟨Nat.le_refl _, Nat.le_refl _⟩
  | n + 1, l, h => by
    obtain ⟨l', c, rfl⟩ : ∃ l' c, l = l' ++ [c] := ⟨l.dropLast, l.getLast (by intro e; rw [e] at h; cases h), (List.dropLast_concat_getLast _).symm⟩
    obtain ⟨h1, h2⟩ := stN_len d n l' (by simpa using h)
    rw [stN_snoc]
    unfold stepN
    split
    · simp only [List.length_append, List.length_cons, List.length_nil]; omega
    · simp only [List.length_append, List.length_cons, List.length_nil]; omega
section
variable {P : Program} {w : World} {K : PySem.W.Frag} {mg : Str → Option Value} {base : Heap}
/-- a list that is new since then -/
def LF (H0 H : Hp) (a : Addr) (s : List Nat) : Prop := L H a s ∧ H0 a = none
theorem mLF {H0 : Hp} : Mono (LF H0) := fun _ _ _ _ e h => ⟨mL _ _ _ _ e h.1, h.2⟩
def spDivided : Sp := fun vs H Q _ => ∃ (a : Addr) (l : List Nat) (d : Nat), vs = [.ref a, .int d] ∧ L H a l ∧ l.length ≤ 100000 ∧ ∀ r H', Ex H H' → H r = none → LO (LF H) H' r (splitN d l) → Q (.ref r) H'
theorem k_divided (z : Z K mg) : Kp P w K mg base CX0 1 (He.ga K "divided") ["octets", "divider"] spDivided := by
  have nd := sc_divided.nd
  refine kp0 (f_divided z) sc_divided (fun vs H Q E h => ?_) fun cdv A outer s H vs Q E hr h => ⟨_,
    (pss_cons ((ps_set (i := 2) nd rfl (by first | exact Or.inl rfl | exact Or.inr rfl) ((pe_lst pa_nil)))) (pss_cons ((ps_set (i := 3) nd rfl (by first | exact Or.inl rfl | exact Or.inr rfl) ((pe_lst pa_nil)))) (pss_cons ((ps_for PassesOwn.never rfl ((pi_list (pv 0))) (((pg_name (i := 4) nd rfl (by first | exact Or.inl rfl | exact Or.inr rfl)))) ((pss_one (ps_if (pt_cmpR op_eq (pv 4) (pv 1) (nomark _)) (pss_cons ((ps_expr (pe_bm PySem.F.plainAttrs_list PySem.F.slot_list_append PySem.F.type_list_append mt_append ((pv 2)) (pa_cons ((pv 3)) pa_nil)))) (pss_one ((ps_set (i := 3) nd rfl (by first | exact Or.inl rfl | exact Or.inr rfl) ((pe_lst pa_nil)))))) (pss_one ((ps_expr (pe_bm PySem.F.plainAttrs_list PySem.F.slot_list_append PySem.F.type_list_append mt_append ((pv 3)) (pa_cons ((pv 4)) pa_nil)))))))))) (pss_cons ((ps_expr (pe_bm PySem.F.plainAttrs_list PySem.F.slot_list_append PySem.F.type_list_append mt_append ((pv 2)) (pa_cons ((pv 3)) pa_nil)))) (pss_one (ps_ret (pv 2))))))), ?_⟩
  · obtain ⟨_, _, _, rfl, _⟩ := h; rfl
  · obtain ⟨a, l, d, rfl, ha, hl, q⟩ := h
    simp only [ tNil, tCons, tC, tDrop, tOp, rI0, tCB, rEq, rNe, tNext, tRet, tRetN, tSeq, tAsg, tAug, tTest, tIfS, tIf, tNot, tAnd, tOr, tBM, tBM0, tCall, tTup, tTupZ, tLst, tFld, sFld, tMeth, tMake, tB, tYes, tCmp, t2I, tIsN, tNotN, tDGet, tDGet1, tDGet2, tDIn, tDNotIn, tAndV, tOrV, tNotV, tDNewT, sDPut, tSl, tPart, tNoPart, rSlL, tThen, tCntZ, tFgt, tChain, gCons, gNil, gTup, rCatZ, rCatA, rCat, rAppend, rExtend, rIn, rInD, rNotInD, rEqD, rNeD, rIxL, rIxT, tSub, tAdd, tBreak, tCont, tPar, rSum, rSumT, rMaxT, tyV, L2.start, List.map_cons, List.map_nil, List.length_cons, List.length_nil, List.cons_append, List.nil_append, List.append_nil, List.replicate, Nat.reduceAdd, Nat.reduceSub, wipe, List.set_cons_zero, List.set_cons_succ, nox_K, cxOf_K, blk_K, suite_K, tVar_0, tVar_1, tVar_2, tVar_3, tVar_4, tVar_5, tVar_6, tVar_7, tVar_8, tVar_9, tVar_10, tVar_11, tVar_12, tVar_13, tVar_14, tVar_15, gName_0, gName_1, gName_2, gName_3, gName_4, gName_5, gName_6, gName_7, gName_8, gName_9, gName_10, gName_11, gName_12, gName_13, gName_14, gName_15, and_assoc, exists_eq_left', exists_eq_left, exists_eq, exists_eq', exists_and_left, exists_const, and_true, true_and, V.int.injEq, V.ref.injEq, V.bl.injEq, V.str.injEq, List.cons.injEq, and_self, scal, Bool.false_eq_true, if_false, if_true, reduceCtorEq, false_and, and_false, false_or, or_false, ↓reduceIte]
    refine ⟨by decide, fun ps hps => ⟨by decide, fun p hp => ?_⟩⟩
    have pps : p ≠ ps := fun e => by rw [e, upd_same] at hp; cases hp
    have hp' : H p = none := by rw [upd_ne pps] at hp; exact hp
    have e0 : Ex H (upd (upd H ps (.lst [])) p (.lst [])) := (Ex.new hps).trans (Ex.new hp)
    refine ⟨_, rfl, a, rfl, ⟨_, (ha.ex e0).sq⟩, for_list (xs := nv l) (fun i σ H1 => ∃ p u as, σ = [some (.ref a), some (.int d), some (.ref ps), some (.ref p), u] ∧ Ex H H1 ∧ H1 ps = some (.lst (as.map V.ref)) ∧ L H1 p (stN d (l.take i)).2 ∧ p ≠ ps ∧ H p = none ∧ Paired (LF H (L2.del (L2.del H1 ps) p)) as (stN d (l.take i)).1) ⟨p, _, [], rfl, e0, by rw [upd_ne pps.symm]; exact upd_same, upd_same, pps, hp', .nil⟩ ?_ ?_ ?_⟩
    · rintro i σ H1 _ ⟨_, _, _, _, e1, _⟩
      exact (ha.ex e1).sq
    · rintro i x σ H1 hx ⟨p, u, as, rfl, e1, hps1, hp1, pps, hp', hel⟩
      obtain ⟨c, hc, rfl⟩ := nv_get hx
      have hi : i < l.length := (List.getElem?_eq_some_iff.1 hc).1
      obtain ⟨b1, b2⟩ := stN_len d _ (l.take i) rfl
      rw [List.length_take] at b1 b2
      have snoc : stN d (l.take (i + 1)) = stepN d (stN d (l.take i)) c := by rw [take_snoc hc, stN_snoc]
      have el := Paired.length hel
      refine ⟨_, rfl, _, rfl, rfl, _, rfl, eq_if (fun g => ?_) (fun g => ?_)⟩
      · simp only [ tNil, tCons, tC, tDrop, tOp, rI0, tCB, rEq, rNe, tNext, tRet, tRetN, tSeq, tAsg, tAug, tTest, tIfS, tIf, tNot, tAnd, tOr, tBM, tBM0, tCall, tTup, tTupZ, tLst, tFld, sFld, tMeth, tMake, tB, tYes, tCmp, t2I, tIsN, tNotN, tDGet, tDGet1, tDGet2, tDIn, tDNotIn, tAndV, tOrV, tNotV, tDNewT, sDPut, tSl, tPart, tNoPart, rSlL, tThen, tCntZ, tFgt, tChain, gCons, gNil, gTup, rCatZ, rCatA, rCat, rAppend, rExtend, rIn, rInD, rNotInD, rEqD, rNeD, rIxL, rIxT, tSub, tAdd, tBreak, tCont, tPar, rSum, rSumT, rMaxT, tyV, L2.start, List.map_cons, List.map_nil, List.length_cons, List.length_nil, List.cons_append, List.nil_append, List.append_nil, List.replicate, Nat.reduceAdd, Nat.reduceSub, wipe, List.set_cons_zero, List.set_cons_succ, nox_K, cxOf_K, blk_K, suite_K, tVar_0, tVar_1, tVar_2, tVar_3, tVar_4, tVar_5, tVar_6, tVar_7, tVar_8, tVar_9, tVar_10, tVar_11, tVar_12, tVar_13, tVar_14, tVar_15, gName_0, gName_1, gName_2, gName_3, gName_4, gName_5, gName_6, gName_7, gName_8, gName_9, gName_10, gName_11, gName_12, gName_13, gName_14, gName_15, and_assoc, exists_eq_left', exists_eq_left, exists_eq, exists_eq', exists_and_left, exists_const, and_true, true_and, V.int.injEq, V.ref.injEq, V.bl.injEq, V.str.injEq, List.cons.injEq, and_self, scal, Bool.false_eq_true, if_false, if_true, reduceCtorEq, false_and, and_false, false_or, or_false, ↓reduceIte]
        have snoc : stN d (l.take (i + 1)) = ((stN d (l.take i)).1 ++ [(stN d (l.take i)).2], []) := by rw [snoc]; unfold stepN; rw [if_pos g]
        refine ⟨.inl ⟨_, sq_of hps1⟩, _, hps1, by rw [List.length_map, sizeLine_eq]; omega, by decide, fun p2 hp2 => ?_⟩
        have p2s : p2 ≠ ps := fun e => by rw [e, upd_same] at hp2; cases hp2
        have hp2' : H1 p2 = none := by rw [upd_ne p2s] at hp2; exact hp2
        have p2p : p ≠ p2 := ne_of_none hp1 hp2'
        have hH2 : H p2 = none := fresh_back e1 hp2'
        refine ⟨p2, rfl, (Ex.mut e1 hps).trans (Ex.new hp2), as ++ [p], by rw [upd_ne p2s.symm, upd_same, List.map_append]; rfl, by rw [snoc]; exact upd_same, p2s, hH2, ?_⟩
        rw [snoc]
        refine paired_snoc (Paired.mapP hel fun b t h => mLF _ _ _ _ (fun c o hc => ?_) h) ?_
        · by_cases h1 : c = p
          · subst h1; simp [L2.del] at hc
          · by_cases h2 : c = ps
            · subst h2; rw [del_ne h1] at hc; simp [L2.del] at hc
            · rw [del_ne h1, del_ne h2] at hc
              have h3 : c ≠ p2 := ne_of_none hc hp2'
              rw [del_ne h3, del_ne h2, upd_ne h3, upd_ne h2]; exact hc
        · refine ⟨?_, hp'⟩
          show L2.del _ _ p = _
          rw [del_ne p2p, del_ne pps, upd_ne p2p, upd_ne pps]; exact hp1
      · simp only [ tNil, tCons, tC, tDrop, tOp, rI0, tCB, rEq, rNe, tNext, tRet, tRetN, tSeq, tAsg, tAug, tTest, tIfS, tIf, tNot, tAnd, tOr, tBM, tBM0, tCall, tTup, tTupZ, tLst, tFld, sFld, tMeth, tMake, tB, tYes, tCmp, t2I, tIsN, tNotN, tDGet, tDGet1, tDGet2, tDIn, tDNotIn, tAndV, tOrV, tNotV, tDNewT, sDPut, tSl, tPart, tNoPart, rSlL, tThen, tCntZ, tFgt, tChain, gCons, gNil, gTup, rCatZ, rCatA, rCat, rAppend, rExtend, rIn, rInD, rNotInD, rEqD, rNeD, rIxL, rIxT, tSub, tAdd, tBreak, tCont, tPar, rSum, rSumT, rMaxT, tyV, L2.start, List.map_cons, List.map_nil, List.length_cons, List.length_nil, List.cons_append, List.nil_append, List.append_nil, List.replicate, Nat.reduceAdd, Nat.reduceSub, wipe, List.set_cons_zero, List.set_cons_succ, nox_K, cxOf_K, blk_K, suite_K, tVar_0, tVar_1, tVar_2, tVar_3, tVar_4, tVar_5, tVar_6, tVar_7, tVar_8, tVar_9, tVar_10, tVar_11, tVar_12, tVar_13, tVar_14, tVar_15, gName_0, gName_1, gName_2, gName_3, gName_4, gName_5, gName_6, gName_7, gName_8, gName_9, gName_10, gName_11, gName_12, gName_13, gName_14, gName_15, and_assoc, exists_eq_left', exists_eq_left, exists_eq, exists_eq', exists_and_left, exists_const, and_true, true_and, V.int.injEq, V.ref.injEq, V.bl.injEq, V.str.injEq, List.cons.injEq, and_self, scal, Bool.false_eq_true, if_false, if_true, reduceCtorEq, false_and, and_false, false_or, or_false, ↓reduceIte]
        have snoc : stN d (l.take (i + 1)) = ((stN d (l.take i)).1, (stN d (l.take i)).2 ++ [c]) := by rw [snoc]; unfold stepN; rw [if_neg g]
        refine ⟨.inl ⟨_, hp1.sq⟩, _, hp1.lst, by rw [nv_len, sizeLine_eq]; omega, _, rfl, Ex.mut e1 hp', _, by rw [upd_ne pps.symm]; exact hps1, by rw [snoc]; unfold L; rw [upd_same, nv_app]; rfl, pps, hp', ?_⟩
        rw [snoc]
        refine Paired.mapP hel fun b t h => mLF _ _ _ _ (fun c o hc => ?_) h
        by_cases h1 : c = p
        · subst h1; simp [L2.del] at hc
        · rw [del_ne h1] at hc ⊢
          by_cases h2 : c = ps
          · subst h2; simp [L2.del] at hc
          · rw [del_ne h2] at hc ⊢; rw [upd_ne h1]; exact hc
    · rintro σ H1 ⟨p, u, as, rfl, e1, hps1, hp1, pps, hp', hel⟩
      rw [nv_len, List.take_length] at hp1 hel
      obtain ⟨b1, b2⟩ := stN_len d _ l rfl
      have el := Paired.length hel
      simp only [ tNil, tCons, tC, tDrop, tOp, rI0, tCB, rEq, rNe, tNext, tRet, tRetN, tSeq, tAsg, tAug, tTest, tIfS, tIf, tNot, tAnd, tOr, tBM, tBM0, tCall, tTup, tTupZ, tLst, tFld, sFld, tMeth, tMake, tB, tYes, tCmp, t2I, tIsN, tNotN, tDGet, tDGet1, tDGet2, tDIn, tDNotIn, tAndV, tOrV, tNotV, tDNewT, sDPut, tSl, tPart, tNoPart, rSlL, tThen, tCntZ, tFgt, tChain, gCons, gNil, gTup, rCatZ, rCatA, rCat, rAppend, rExtend, rIn, rInD, rNotInD, rEqD, rNeD, rIxL, rIxT, tSub, tAdd, tBreak, tCont, tPar, rSum, rSumT, rMaxT, tyV, L2.start, List.map_cons, List.map_nil, List.length_cons, List.length_nil, List.cons_append, List.nil_append, List.append_nil, List.replicate, Nat.reduceAdd, Nat.reduceSub, wipe, List.set_cons_zero, List.set_cons_succ, nox_K, cxOf_K, blk_K, suite_K, tVar_0, tVar_1, tVar_2, tVar_3, tVar_4, tVar_5, tVar_6, tVar_7, tVar_8, tVar_9, tVar_10, tVar_11, tVar_12, tVar_13, tVar_14, tVar_15, gName_0, gName_1, gName_2, gName_3, gName_4, gName_5, gName_6, gName_7, gName_8, gName_9, gName_10, gName_11, gName_12, gName_13, gName_14, gName_15, and_assoc, exists_eq_left', exists_eq_left, exists_eq, exists_eq', exists_and_left, exists_const, and_true, true_and, V.int.injEq, V.ref.injEq, V.bl.injEq, V.str.injEq, List.cons.injEq, and_self, scal, Bool.false_eq_true, if_false, if_true, reduceCtorEq, false_and, and_false, false_or, or_false, ↓reduceIte]
      refine ⟨.inl ⟨_, sq_of hps1⟩, _, hps1, by rw [List.length_map, sizeLine_eq]; omega, ?_⟩
      refine q ps _ (Ex.mut e1 hps) hps ⟨as ++ [p], by rw [upd_same, List.map_append]; rfl, ?_⟩
      refine paired_snoc (Paired.mapP hel fun b t h => mLF _ _ _ _ (fun c o hc => ?_) h) ?_
      · by_cases h1 : c = p
        · subst h1; simp [L2.del] at hc
        · rw [del_ne h1] at hc
          by_cases h2 : c = ps
          · subst h2; simp [L2.del] at hc
          · rw [del_ne h2] at hc; rw [upd_ne h2]; exact hc
      · refine ⟨?_, hp'⟩
        show upd _ _ _ p = _
        rw [upd_ne pps]; exact hp1
end
end Fs
set_option Elab.async false
set_option linter.all false
set_option maxRecDepth 100000
set_option maxHeartbeats 4000000
namespace Fs
open PySem PySem.Spec PyProof.Rows L2 FsX
open Evl (Ex Ex.refl Ex.trans Ex.new Ex.mut fresh_back)
def wordsN (l : List Nat) : List (List Nat) := (splitN 32 l).filter fun w => decide (0 < w.length)
theorem splitN_len (d : Nat) (l : List Nat) : (splitN d l).length ≤ l.length + 1 := by
  unfold splitN
  have := (stN_len d _ l rfl).1
  rw [List.length_append]; simp only [List.length_cons, List.length_nil]; omega
def digN : List Nat → Nat → Nat
  | [c], m => if 48 < c ∧ c ≤ 48 + m then c - 48 else 0
  | _, _ => 0
def isLet (c : Nat) : Bool := decide (97 ≤ c) && decide (c ≤ 122)
def nameN (w : List Nat) : Bool := decide ((w.filter isLet).length = w.length) && (decide (1 ≤ w.length) && decide (w.length ≤ 8))
section
variable {P : Program} {w : World} {K : PySem.W.Frag} {mg : Str → Option Value} {base : Heap}
def spWords : Sp := fun vs H Q _ => ∃ (a : Addr) (l : List Nat), vs = [.ref a] ∧ L H a l ∧ l.length ≤ 100000 ∧ ∀ r H', Ex H H' → H r = none → LO (LF H) H' r (wordsN l) → Q (.ref r) H'
theorem k_words (z : Z K mg) : Kp P w K mg base CX0 2 (He.ga K "words_of") ["line"] spWords := by
  have nd := sc_words_of.nd
  obtain ⟨ts, hs⟩ := c_SPACE z
  refine kp0 (f_words_of z) sc_words_of (fun vs H Q E h => ?_) fun cdv A outer s H vs Q E hr h => ⟨_,
    (pss_one (ps_ret (pe_lc (g := gName 1) (tt := tTest (tOp (rI0 fun i j => V.bl (decide (j < i))) (tCB (fun xs H Q => ∃ p ys, xs = [V.ref p] ∧ (SqL K H p ys ∨ SqT K H p ys) ∧ Q (V.int (ys.length : Nat)) H) (tCons (tVar 1) tNil)) (tC (.int 0)))) (own := [("piece", 1)]) rfl nd (pi_list ((Kp.call ((k_divided z)) (Room.mono (hr) (by decide)) (by rfl) ((g_divided z)) pass0 ((pa_cons (pv 0) (pa_cons (pe_glob (v := .int 32) (by rfl) hs ⟨_, rfl⟩) pa_nil)))))) (blkOk_by (N := ["line", "piece"]) (sc := defScope s_words_of) (by decide +kernel)) (fun _ _ _ _ _ => (pg_name (i := 1) nd rfl (Or.inl rfl))) (fun _ _ _ _ _ => pts_one (pt_cmpR op_gt ((pe_callB call_len_seq (by rfl) ((b_len z)) PySem.boot_len (pa_cons ((pv 1)) pa_nil))) pe_int (nomark _))) (fun _ _ _ _ _ => pv 1)))), ?_⟩
  · obtain ⟨_, _, rfl, _⟩ := h; rfl
  · obtain ⟨a, l, rfl, ha, hl, q⟩ := h
    refine ⟨_, rfl, a, l, 32, rfl, ha, hl, fun r H1 e1 _ hr1 => ?_⟩
    obtain ⟨as, hr1⟩ := hr1
    have sz := splitN_len 32 l
    refine ⟨r, rfl, ⟨_, LA.sq hr1⟩, fun D hD => lc_la (R := LF H) (as := as) (xs := splitN 32 l) (fun j H2 => Ex H1 H2 ∧ LX (LF H) H2 D (((splitN 32 l).take j).filter fun w => decide (0 < w.length))) ⟨Ex.new hD, LX.new⟩ ?_ ?_ ?_⟩
    · rintro j H2 ⟨e2, _⟩
      exact LA.ex hr1 mLF e2
    · rintro j y t H2 ht hy hyT ⟨e2, hx2⟩
      simp only [ tNil, tCons, tC, tDrop, tOp, rI0, tCB, rEq, rNe, tNext, tRet, tRetN, tSeq, tAsg, tAug, tTest, tIfS, tIf, tNot, tAnd, tOr, tBM, tBM0, tCall, tTup, tTupZ, tLst, tFld, sFld, tMeth, tMake, tB, tYes, tCmp, t2I, tIsN, tNotN, tDGet, tDGet1, tDGet2, tDIn, tDNotIn, tAndV, tOrV, tNotV, tDNewT, sDPut, tSl, tPart, tNoPart, rSlL, tThen, tCntZ, tFgt, tChain, gCons, gNil, gTup, rCatZ, rCatA, rCat, rAppend, rExtend, rIn, rInD, rNotInD, rEqD, rNeD, rIxL, rIxT, tSub, tAdd, tBreak, tCont, tPar, rSum, rSumT, rMaxT, tyV, L2.start, List.map_cons, List.map_nil, List.length_cons, List.length_nil, List.cons_append, List.nil_append, List.append_nil, List.replicate, Nat.reduceAdd, Nat.reduceSub, wipe, List.set_cons_zero, List.set_cons_succ, nox_K, cxOf_K, blk_K, suite_K, tVar_0, tVar_1, tVar_2, tVar_3, tVar_4, tVar_5, tVar_6, tVar_7, tVar_8, tVar_9, tVar_10, tVar_11, tVar_12, tVar_13, tVar_14, tVar_15, gName_0, gName_1, gName_2, gName_3, gName_4, gName_5, gName_6, gName_7, gName_8, gName_9, gName_10, gName_11, gName_12, gName_13, gName_14, gName_15, and_assoc, exists_eq_left', exists_eq_left, exists_eq, exists_eq', exists_and_left, exists_const, and_true, true_and, V.int.injEq, V.ref.injEq, V.bl.injEq, V.str.injEq, List.cons.injEq, and_self, scal, Bool.false_eq_true, if_false, if_true, reduceCtorEq, false_and, and_false, false_or, or_false, ↓reduceIte]
      refine ⟨_, .inl hyT.1.sq, ?_⟩
      have hT1 : LF H H1 y t := LA.at hr1 hy ht
      have snoc : ((splitN 32 l).take (j + 1)).filter (fun w => decide (0 < w.length)) = ((splitN 32 l).take j).filter (fun w => decide (0 < w.length)) ++ if decide (0 < t.length) = true then [t] else [] := by
        rw [take_snoc ht, List.filter_append]; congr 1
        cases h : decide (0 < t.length) <;> simp only [List.filter, h] <;> rfl
      rw [nv_len, snoc]
      refine ite2 (fun g => ?_) (fun g => ?_)
      · have g : decide (0 < t.length) = true := decide_eq_true (Int.ofNat_lt.1 (of_decide_eq_true g))
        rw [if_pos g]
        obtain ⟨vs, h1, h2, h3⟩ := hx2.app mLF (Ex.refl _) (y := t) (p := y) (by
          have : y ≠ D := ne_of_none hT1.1 hD
          refine ⟨?_, hyT.2⟩
          show L2.del H2 D y = _
          rw [del_ne this]; exact hyT.1)
        refine ⟨vs, h1, ?_, Ex.mut e2 hD, h3⟩
        have := List.length_filter_le (fun w : List Nat => decide (0 < w.length)) ((splitN 32 l).take j)
        rw [List.length_take] at this
        rw [h2, sizeLine_eq]; omega
      · rw [if_neg (by intro q'; exact g (decide_eq_true (Int.ofNat_lt.2 (of_decide_eq_true q')))), List.append_nil]
        exact ⟨e2, hx2⟩
    · rintro H2 ⟨e2, hx2⟩
      rw [List.take_length] at hx2
      exact q D H2 (e1.trans e2) (fresh_back e1 hD) (hx2.lo mLF)
def spDigit : Sp := fun vs H Q _ => ∃ (a : Addr) (t : List Nat) (m : Nat), vs = [.ref a, .int m] ∧ L H a t ∧ Q (.int (digN t m : Nat)) H
theorem k_digit (z : Z K mg) : Kp P w K mg base CX0 1 (He.ga K "digit_of") ["word", "most"] spDigit := by
  have nd := sc_digit_of.nd
  obtain ⟨tz, hz⟩ := c_ZERO z
  refine kp0 (f_digit_of z) sc_digit_of (fun vs H Q E h => ?_) fun cdv A outer s H vs Q E hr h => ⟨_,
    (pss_cons (ps_if (PW.pt (pw_and (pt_cmpR op_eq ((pe_callB call_len_seq (by rfl) ((b_len z)) PySem.boot_len (pa_cons ((pv 0)) pa_nil))) pe_int (nomark _)) (pw_and1 (pt_chain op_lt op_le (pe_glob (v := .int 48) (by rfl) hz ⟨_, rfl⟩) (pe_ix ix_list (pv 0) pe_int (fun _ _ => rfl)) (pe_op op_add (pe_glob (v := .int 48) (by rfl) hz ⟨_, rfl⟩) (pv 1))))))
        (pss_one (ps_ret (pe_op op_sub (pe_ix ix_list (pv 0) pe_int (fun _ _ => rfl)) (pe_glob (v := .int 48) (by rfl) hz ⟨_, rfl⟩)))) pss_nil) (pss_one (ps_ret pe_int))), ?_⟩
  · obtain ⟨_, _, _, rfl, _⟩ := h; rfl
  · obtain ⟨a, t, m, rfl, ha, q⟩ := h
    simp only [ tNil, tCons, tC, tDrop, tOp, rI0, tCB, rEq, rNe, tNext, tRet, tRetN, tSeq, tAsg, tAug, tTest, tIfS, tIf, tNot, tAnd, tOr, tBM, tBM0, tCall, tTup, tTupZ, tLst, tFld, sFld, tMeth, tMake, tB, tYes, tCmp, t2I, tIsN, tNotN, tDGet, tDGet1, tDGet2, tDIn, tDNotIn, tAndV, tOrV, tNotV, tDNewT, sDPut, tSl, tPart, tNoPart, rSlL, tThen, tCntZ, tFgt, tChain, gCons, gNil, gTup, rCatZ, rCatA, rCat, rAppend, rExtend, rIn, rInD, rNotInD, rEqD, rNeD, rIxL, rIxT, tSub, tAdd, tBreak, tCont, tPar, rSum, rSumT, rMaxT, tyV, L2.start, List.map_cons, List.map_nil, List.length_cons, List.length_nil, List.cons_append, List.nil_append, List.append_nil, List.replicate, Nat.reduceAdd, Nat.reduceSub, wipe, List.set_cons_zero, List.set_cons_succ, nox_K, cxOf_K, blk_K, suite_K, tVar_0, tVar_1, tVar_2, tVar_3, tVar_4, tVar_5, tVar_6, tVar_7, tVar_8, tVar_9, tVar_10, tVar_11, tVar_12, tVar_13, tVar_14, tVar_15, gName_0, gName_1, gName_2, gName_3, gName_4, gName_5, gName_6, gName_7, gName_8, gName_9, gName_10, gName_11, gName_12, gName_13, gName_14, gName_15, and_assoc, exists_eq_left', exists_eq_left, exists_eq, exists_eq', exists_and_left, exists_const, and_true, true_and, V.int.injEq, V.ref.injEq, V.bl.injEq, V.str.injEq, List.cons.injEq, and_self, scal, Bool.false_eq_true, if_false, if_true, reduceCtorEq, false_and, and_false, false_or, or_false, ↓reduceIte]
    refine ⟨_, .inl ha.sq, ?_⟩
    rw [nv_len]
    have one : ∀ t : List Nat, t.length = 1 → ∃ c, t = [c] := fun t h => match t, h with | [c], _ => ⟨c, rfl⟩
    refine ite2 (fun g => ?_) (fun g => ?_)
    · have g : t.length = 1 := by have := of_decide_eq_true g; injection this
      obtain ⟨c, rfl⟩ := one t g
      have q : Q (V.int ((if 48 < c ∧ c ≤ 48 + m then c - 48 else 0 : Nat) : Int)) H := q
      refine ⟨nv [c], ha.sq, .int c, rfl, c, rfl, ite2 (fun g2 => ?_) (fun g2 => ?_)⟩
      · have g2 : 48 < c := by have := of_decide_eq_true g2; omega
        refine ⟨c, rfl, ite2 (fun g3 => ?_) (fun g3 => ?_)⟩
        · have g3 : c ≤ 48 + m := by have := of_decide_eq_true g3; omega
          rw [if_pos ⟨g2, g3⟩, Int.ofNat_sub (by omega)] at q
          exact ⟨nv [c], ha.sq, .int c, rfl, c, rfl, q⟩
        · rw [if_neg fun k => g3 (decide_eq_true (by omega))] at q
          exact q
      · rw [if_neg fun k => g2 (decide_eq_true (by omega))] at q
        exact q
    · have g : ¬ t.length = 1 := fun h => g (by rw [h]; rfl)
      have : digN t m = 0 := by
        unfold digN
        split
        · exact absurd rfl g
        · rfl
      rw [this] at q
      exact q
def spOct : Sp := fun vs H Q _ => ∃ z : Str, vs = [.str z] ∧ z.cps.size ≤ 1000 ∧ Ans H Q z.cps.toList
theorem k_oct (z : Z K mg) : Kp P w K mg base CX0 1 (He.ga K "octets_of") ["word"] spOct := by
  have nd := sc_octets_of.nd
  refine kp0 (f_octets_of z) sc_octets_of (fun vs H Q E h => ?_) fun cdv A outer s H vs Q E hr h => ⟨_,
    (pss_one (ps_ret (pe_lc (g := gName 1) (own := [("sign", 1)]) rfl nd (pi_str (pv 0)) (blkOk_by (N := ["word", "sign"]) (sc := defScope s_octets_of) (by decide +kernel)) (fun _ _ _ _ _ => (pg_name (i := 1) nd rfl (Or.inl rfl))) (fun _ _ _ _ _ => pts_nil) (fun _ _ _ _ _ => pe_callB call_ord (by rfl) (b_ord z) (by decide +kernel) (pa_cons (pv 1) pa_nil))))), ?_⟩
  · obtain ⟨_, rfl, _⟩ := h; rfl
  · obtain ⟨x, rfl, hx, q⟩ := h
    refine ⟨_, rfl, x, rfl, fun D hD => lc_it walk_str (fun i H1 => Ex H H1 ∧ L H1 D (x.cps.toList.take i)) ⟨Ex.new hD, upd_same⟩ (fun _ _ _ _ => trivial) ?_ ?_⟩
    · rintro i v H1 H2 hi ⟨e, hd⟩ ⟨rfl, c, hc, rfl⟩
      simp only [ tNil, tCons, tC, tDrop, tOp, rI0, tCB, rEq, rNe, tNext, tRet, tRetN, tSeq, tAsg, tAug, tTest, tIfS, tIf, tNot, tAnd, tOr, tBM, tBM0, tCall, tTup, tTupZ, tLst, tFld, sFld, tMeth, tMake, tB, tYes, tCmp, t2I, tIsN, tNotN, tDGet, tDGet1, tDGet2, tDIn, tDNotIn, tAndV, tOrV, tNotV, tDNewT, sDPut, tSl, tPart, tNoPart, rSlL, tThen, tCntZ, tFgt, tChain, gCons, gNil, gTup, rCatZ, rCatA, rCat, rAppend, rExtend, rIn, rInD, rNotInD, rEqD, rNeD, rIxL, rIxT, tSub, tAdd, tBreak, tCont, tPar, rSum, rSumT, rMaxT, tyV, L2.start, List.map_cons, List.map_nil, List.length_cons, List.length_nil, List.cons_append, List.nil_append, List.append_nil, List.replicate, Nat.reduceAdd, Nat.reduceSub, wipe, List.set_cons_zero, List.set_cons_succ, nox_K, cxOf_K, blk_K, suite_K, tVar_0, tVar_1, tVar_2, tVar_3, tVar_4, tVar_5, tVar_6, tVar_7, tVar_8, tVar_9, tVar_10, tVar_11, tVar_12, tVar_13, tVar_14, tVar_15, gName_0, gName_1, gName_2, gName_3, gName_4, gName_5, gName_6, gName_7, gName_8, gName_9, gName_10, gName_11, gName_12, gName_13, gName_14, gName_15, and_assoc, exists_eq_left', exists_eq_left, exists_eq, exists_eq', exists_and_left, exists_const, and_true, true_and, V.int.injEq, V.ref.injEq, V.bl.injEq, V.str.injEq, List.cons.injEq, and_self, scal, Bool.false_eq_true, if_false, if_true, reduceCtorEq, false_and, and_false, false_or, or_false, ↓reduceIte]
      have hc' : x.cps.toList[i]? = some c := by rw [Array.getElem?_toList]; exact hc
      refine ⟨rfl, _, hd, ?_, Ex.mut e hD, ?_⟩
      · rw [nv_len, List.length_take, sizeLine_eq, Array.length_toList]; omega
      · rw [take_snoc hc']
        unfold L
        rw [upd_same, nv_app]; rfl
    · rintro H1 ⟨e, hd⟩
      rw [List.take_of_length_le (by rw [Array.length_toList]; exact Nat.le_refl _)] at hd
      exact q D H1 e hD hd
def spName : Sp := fun vs H Q _ => ∃ (a : Addr) (t : List Nat), vs = [.ref a] ∧ L H a t ∧ t.length ≤ 100000 ∧ ∀ H', Ex H H' → Q (.bl (nameN t)) H'
theorem k_is_name (z : Z K mg) : Kp P w K mg base CX0 1 (He.ga K "is_name") ["word"] spName := by
  have nd := sc_is_name.nd
  obtain ⟨t1, h97⟩ := c_FIRST_LETTER z
  obtain ⟨t2, h122⟩ := c_LAST_LETTER z
  obtain ⟨t3, h8⟩ := c_MOST_LETTERS z
  refine kp0 (f_is_name z) sc_is_name (fun vs H Q E h => ?_) fun cdv A outer s H vs Q E hr h => ⟨_,
    (pss_cons (ps_setLc (i := 1) (own := [("octet", 2)]) (g := gName 2) (tt := tTest (tChain (rI0 fun i j => V.bl (decide (i ≤ j))) (rI0 fun i j => V.bl (decide (i ≤ j))) (tC (.int 97)) (tVar 2) (tC (.int 122)))) rfl nd rfl rfl (sw_true rfl rfl rfl (by decide +kernel)) (pi_list (pv 0)) (blkOk_by (N := ["word", "letters", "octet"]) (sc := defScope s_is_name) (by decide +kernel)) (fun _ _ _ _ _ => (pg_name (i := 2) nd rfl (Or.inl rfl))) (fun _ _ _ _ _ => pts_one (pt_chain op_le op_le (pe_glob (v := .int 97) (by rfl) h97 ⟨_, rfl⟩) (pv 2) (pe_glob (v := .int 122) (by rfl) h122 ⟨_, rfl⟩))) (fun _ _ _ _ _ => pv 2)) (pss_one (ps_ret (pe_and (pe_cmpR op_eq ((pe_callB call_len_seq (by rfl) ((b_len z)) PySem.boot_len (pa_cons ((pv 1)) pa_nil))) ((pe_callB call_len_seq (by rfl) ((b_len z)) PySem.boot_len (pa_cons ((pv 0)) pa_nil))) (nomark _)) (pe_one (pe_chain op_le op_le pe_int ((pe_callB call_len_seq (by rfl) ((b_len z)) PySem.boot_len (pa_cons ((pv 0)) pa_nil))) (pe_glob (v := .int 8) (by rfl) h8 ⟨_, rfl⟩))))))), ?_⟩
  · obtain ⟨_, _, rfl, _⟩ := h; rfl
  · obtain ⟨a, t, rfl, ha, hl, q⟩ := h
    refine ⟨_, rfl, a, rfl, ⟨_, ha.sq⟩, fun D hD => lc_list (xs := nv t) (fun i H1 => Ex H H1 ∧ L H1 D ((t.take i).filter isLet)) ⟨Ex.new hD, upd_same⟩ ?_ ?_ ?_⟩
    · rintro i H1 _ ⟨e, _⟩
      exact (ha.ex e).sq
    · rintro i x H1 hx ⟨e, hd⟩
      obtain ⟨c, hc, rfl⟩ := nv_get hx
      simp only [ tNil, tCons, tC, tDrop, tOp, rI0, tCB, rEq, rNe, tNext, tRet, tRetN, tSeq, tAsg, tAug, tTest, tIfS, tIf, tNot, tAnd, tOr, tBM, tBM0, tCall, tTup, tTupZ, tLst, tFld, sFld, tMeth, tMake, tB, tYes, tCmp, t2I, tIsN, tNotN, tDGet, tDGet1, tDGet2, tDIn, tDNotIn, tAndV, tOrV, tNotV, tDNewT, sDPut, tSl, tPart, tNoPart, rSlL, tThen, tCntZ, tFgt, tChain, gCons, gNil, gTup, rCatZ, rCatA, rCat, rAppend, rExtend, rIn, rInD, rNotInD, rEqD, rNeD, rIxL, rIxT, tSub, tAdd, tBreak, tCont, tPar, rSum, rSumT, rMaxT, tyV, L2.start, List.map_cons, List.map_nil, List.length_cons, List.length_nil, List.cons_append, List.nil_append, List.append_nil, List.replicate, Nat.reduceAdd, Nat.reduceSub, wipe, List.set_cons_zero, List.set_cons_succ, nox_K, cxOf_K, blk_K, suite_K, tVar_0, tVar_1, tVar_2, tVar_3, tVar_4, tVar_5, tVar_6, tVar_7, tVar_8, tVar_9, tVar_10, tVar_11, tVar_12, tVar_13, tVar_14, tVar_15, gName_0, gName_1, gName_2, gName_3, gName_4, gName_5, gName_6, gName_7, gName_8, gName_9, gName_10, gName_11, gName_12, gName_13, gName_14, gName_15, and_assoc, exists_eq_left', exists_eq_left, exists_eq, exists_eq', exists_and_left, exists_const, and_true, true_and, V.int.injEq, V.ref.injEq, V.bl.injEq, V.str.injEq, List.cons.injEq, and_self, scal, Bool.false_eq_true, if_false, if_true, reduceCtorEq, false_and, and_false, false_or, or_false, ↓reduceIte]
      have snoc : (t.take (i + 1)).filter isLet = (t.take i).filter isLet ++ if isLet c = true then [c] else [] := by
        rw [take_snoc hc, List.filter_append]; congr 1
        cases h : isLet c <;> simp only [List.filter, h] <;> rfl
      have lt := List.length_filter_le isLet (t.take i)
      rw [List.length_take] at lt
      rw [snoc]
      have no : isLet c = false → Ex H H1 ∧ L H1 D ((t.take i).filter isLet ++ if isLet c = true then [c] else []) := fun h => by
        rw [h, if_neg (by decide), List.append_nil]; exact ⟨e, hd⟩
      refine ite2 (fun g => ?_) (fun g => ?_)
      · have g := of_decide_eq_true g
        refine ite2 (fun g2 => ?_) (fun g2 => ?_)
        · have g2 := of_decide_eq_true g2
          have h : isLet c = true := by unfold isLet; rw [decide_eq_true (by omega), decide_eq_true (by omega)]; rfl
          rw [h, if_pos rfl]
          refine ⟨_, hd, by rw [nv_len, sizeLine_eq]; omega, Ex.mut e hD, ?_⟩
          unfold L
          rw [upd_same, nv_app]; rfl
        · refine no ?_
          unfold isLet
          rw [decide_eq_false (p := c ≤ 122) fun k => g2 (decide_eq_true (by omega)), Bool.and_false]
      · refine no ?_
        unfold isLet
        rw [decide_eq_false (p := 97 ≤ c) fun k => g (decide_eq_true (by omega)), Bool.false_and]
    · rintro H1 ⟨e, hd⟩
      rw [nv_len, List.take_length] at hd
      simp only [ tNil, tCons, tC, tDrop, tOp, rI0, tCB, rEq, rNe, tNext, tRet, tRetN, tSeq, tAsg, tAug, tTest, tIfS, tIf, tNot, tAnd, tOr, tBM, tBM0, tCall, tTup, tTupZ, tLst, tFld, sFld, tMeth, tMake, tB, tYes, tCmp, t2I, tIsN, tNotN, tDGet, tDGet1, tDGet2, tDIn, tDNotIn, tAndV, tOrV, tNotV, tDNewT, sDPut, tSl, tPart, tNoPart, rSlL, tThen, tCntZ, tFgt, tChain, gCons, gNil, gTup, rCatZ, rCatA, rCat, rAppend, rExtend, rIn, rInD, rNotInD, rEqD, rNeD, rIxL, rIxT, tSub, tAdd, tBreak, tCont, tPar, rSum, rSumT, rMaxT, tyV, L2.start, List.map_cons, List.map_nil, List.length_cons, List.length_nil, List.cons_append, List.nil_append, List.append_nil, List.replicate, Nat.reduceAdd, Nat.reduceSub, wipe, List.set_cons_zero, List.set_cons_succ, nox_K, cxOf_K, blk_K, suite_K, tVar_0, tVar_1, tVar_2, tVar_3, tVar_4, tVar_5, tVar_6, tVar_7, tVar_8, tVar_9, tVar_10, tVar_11, tVar_12, tVar_13, tVar_14, tVar_15, gName_0, gName_1, gName_2, gName_3, gName_4, gName_5, gName_6, gName_7, gName_8, gName_9, gName_10, gName_11, gName_12, gName_13, gName_14, gName_15, and_assoc, exists_eq_left', exists_eq_left, exists_eq, exists_eq', exists_and_left, exists_const, and_true, true_and, V.int.injEq, V.ref.injEq, V.bl.injEq, V.str.injEq, List.cons.injEq, and_self, scal, Bool.false_eq_true, if_false, if_true, reduceCtorEq, false_and, and_false, false_or, or_false, ↓reduceIte]
      refine ⟨_, .inl hd.sq, _, .inl (ha.ex e).sq, ?_⟩
      rw [nv_len, nv_len]
      have q := q _ e
      unfold nameN at q
      refine ite2 (fun g => ?_) (fun g => ?_)
      · rw [decide_eq_true (p := (t.filter isLet).length = t.length) (Int.ofNat.inj (of_decide_eq_true g)), Bool.true_and] at q
        refine ⟨_, .inl (ha.ex e).sq, ?_⟩
        rw [nv_len]
        refine ite2 (fun g2 => ?_) (fun g2 => ?_)
        · have g2 := of_decide_eq_true g2
          rw [decide_eq_true (p := 1 ≤ t.length) (by omega), Bool.true_and] at q
          rw [show decide ((t.length : Int) ≤ 8) = decide (t.length ≤ 8) from by rw [Bool.eq_iff_iff, decide_eq_true_eq, decide_eq_true_eq]; omega]
          exact q
        · rw [decide_eq_false (p := 1 ≤ t.length) fun k => g2 (decide_eq_true (by omega)), Bool.false_and] at q
          exact q
      · rw [decide_eq_false (p := (t.filter isLet).length = t.length) fun k => g (by rw [k]; exact decide_eq_true rfl), Bool.false_and] at q
        exact q
end
end Fs
set_option Elab.async false
set_option linter.all false
set_option maxRecDepth 100000
set_option maxHeartbeats 4000000
namespace Fs
open PySem PySem.Spec PyProof.Rows L2 FsX
open Evl (Ex Ex.refl Ex.trans Ex.new Ex.mut fresh_back)
/-! numbers in lists, compared -/
def dv (l : List Nat) : PyData := .list (l.map fun n => .int (n : Nat))
def dt (l : List Nat) : PyData := .tuple (l.map fun n => .int (n : Nat))
theorem eqvAll_nats : ∀ a b : List Nat, PyData.eqvAll (a.map fun n => PyData.int (n : Nat)) (b.map fun n => PyData.int (n : Nat)) = decide (a = b)
  | [], [] => rfl
  | [], _ :: _ => rfl
  | _ :: _, [] => rfl
  | x :: a, y :: b => by
    simp only [List.map_cons, PyData.eqvAll, PyData.eqv, eqvAll_nats a b]
    rw [Bool.eq_iff_iff]
    simp only [Bool.and_eq_true, beq_iff_eq, decide_eq_true_eq, List.cons.injEq]
    constructor <;> rintro ⟨h1, h2⟩ <;> exact ⟨by omega, h2⟩
theorem eqv_dv (a b : List Nat) : PyData.eqv (dv a) (dv b) = decide (a = b) := by
  unfold dv
  simp only [PyData.eqv]
  exact eqvAll_nats a b
theorem eqv_dt (a b : List Nat) : PyData.eqv (dt a) (dt b) = decide (a = b) := by
  unfold dt
  simp only [PyData.eqv]
  exact eqvAll_nats a b
theorem canLay_nats : ∀ a : List Nat, PyData.canLayAll0 (a.map fun n => PyData.int (n : Nat)) = true
  | [] => rfl
  | x :: a => by simp only [List.map_cons, PyData.canLayAll0, PyData.canLay0, canLay_nats a]; rfl
theorem depth_nats : ∀ a : List Nat, PyData.depthAll (a.map fun n => PyData.int (n : Nat)) ≤ 1
  | [] => Nat.zero_le _
  | x :: a => by
    have := depth_nats a
    simp only [List.map_cons, PyData.depthAll, PyData.depth]
    omega
theorem shaped_dv (a : List Nat) : SeqAt.shaped (dv a) = true := by
  unfold dv SeqAt.shaped
  have h1 := canLay_nats a
  have h2 := depth_nats a
  simp only [PyData.canLay0, PyData.depth, h1, Bool.true_and]
  exact decide_eq_true (by omega)
theorem shaped_dt (a : List Nat) : SeqAt.shaped (dt a) = true := by
  unfold dt SeqAt.shaped
  have h1 := canLay_nats a
  have h2 := depth_nats a
  simp only [PyData.canLay0, PyData.depth, h1, Bool.true_and]
  exact decide_eq_true (by omega)
theorem canLays {f : List Nat → PyData} (hf : ∀ a, (f a).canLay0 = true) : ∀ xs : List (List Nat), PyData.canLayAll0 (xs.map f) = true
  | [] => rfl
  | x :: a => by simp only [List.map_cons, PyData.canLayAll0, hf, canLays hf a]; rfl
theorem depths {f : List Nat → PyData} (hf : ∀ a, (f a).depth ≤ 2) : ∀ xs : List (List Nat), PyData.depthAll (xs.map f) ≤ 2
  | [] => Nat.zero_le _
  | x :: a => by
    have := depths hf a
    have := hf x
    simp only [List.map_cons, PyData.depthAll]
    omega
theorem shaped_list {f : List Nat → PyData} (h1 : ∀ a, (f a).canLay0 = true) (h2 : ∀ a, (f a).depth ≤ 2) (xs : List (List Nat)) : SeqAt.shaped (.list (xs.map f)) = true := by
  unfold SeqAt.shaped
  have h1 := canLays h1 xs
  have h2 := depths h2 xs
  simp only [PyData.canLay0, PyData.depth, h1, Bool.true_and]
  exact decide_eq_true (by omega)
theorem dv_can (a : List Nat) : (dv a).canLay0 = true := by unfold dv; simp only [PyData.canLay0]; exact canLay_nats a
theorem dt_can (a : List Nat) : (dt a).canLay0 = true := by unfold dt; simp only [PyData.canLay0]; exact canLay_nats a
theorem dv_dep (a : List Nat) : (dv a).depth ≤ 2 := by unfold dv; have := depth_nats a; simp only [PyData.depth]; omega
theorem dt_dep (a : List Nat) : (dt a).depth ≤ 2 := by unfold dt; have := depth_nats a; simp only [PyData.depth]; omega
theorem dp_nats {K : PySem.W.Frag} {H : Hp} : ∀ l : List Nat, DpAll K H (nv l) (l.map fun n => PyData.int (n : Nat))
  | [] => .nil
  | x :: l => .cons (.int _) (dp_nats l)
theorem L.dp {K : PySem.W.Frag} {H : Hp} {a : Addr} {l : List Nat} (h : L H a l) : Dp K H (.ref a) (dv l) := .lst h.sq (dp_nats l)
theorem T.dp {K : PySem.W.Frag} {H : Hp} {a : Addr} {l : List Nat} (h : T H a l) : Dp K H (.ref a) (dt l) := .tup h.sq (dp_nats l)
theorem dp_lists {K : PySem.W.Frag} {H : Hp} {R : Hp → Addr → List Nat → Prop} {f : List Nat → PyData} (hR : ∀ a l, R H a l → Dp K H (.ref a) (f l)) : ∀ {as : List Addr} {xs : List (List Nat)}, Paired (R H) as xs → DpAll K H (as.map V.ref) (xs.map f)
  | _, _, .nil => .nil
  | _, _, .cons r k => .cons (hR _ _ r) (dp_lists hR k)
theorem any_eqv {f : List Nat → PyData} (hf : ∀ a b, PyData.eqv (f a) (f b) = decide (a = b)) (x : List Nat) : ∀ xs : List (List Nat), (xs.map f).any (fun z => PyData.eqv z (f x)) = xs.contains x
  | [] => rfl
  | y :: xs => by
    rw [List.map_cons, List.any_cons, any_eqv hf x xs, hf, List.contains_cons]
    congr 1
    rw [Bool.eq_iff_iff, decide_eq_true_eq, beq_iff_eq]
    exact eq_comm
/-! what was read so far -/
structure DN where
  ns : List (List Nat)
  rs : List Nat
  c : Option (Nat × Nat)
  s : Option (Nat × Nat)
def shelfN (d : DN) : List (List Nat) → Option DN
  | [_, nm, k] => if d.c.isSome = true ∨ d.ns.length = 3 then none else if nameN nm = false ∨ d.ns.contains nm = true then none else if digN k 4 = 0 then none else some ⟨d.ns ++ [nm], d.rs ++ [digN k 4], d.c, d.s⟩
  | _ => none
def custN (d : DN) : List (List Nat) → Option DN
  | [_, n, o, k] => if d.c.isSome = true ∨ d.ns.length = 0 then none else if o ≠ [111, 102] then none else if digN k (digN n 4) = 0 then none else some ⟨d.ns, d.rs, some (digN n 4, digN k (digN n 4)), d.s⟩
  | _ => none
def stockN (d : DN) : List (List Nat) → Option DN
  | [_, n, o, k] => if d.c = none ∨ d.s.isSome = true then none else if o ≠ [111, 110, 116, 111] then none else if digN n 9 = 0 ∨ digN k d.ns.length = 0 then none else some ⟨d.ns, d.rs, d.c, some (digN n 9, digN k d.ns.length)⟩
  | _ => none
def wShelf : List Nat := [115, 104, 101, 108, 102]
def wCust : List Nat := [99, 117, 115, 116, 111, 109, 101, 114, 115]
def wStock : List Nat := [115, 116, 111, 99, 107, 101, 114]
def lineN (d : DN) (ws : List (List Nat)) : Option DN := if ws.head? = some wShelf then shelfN d ws else if ws.head? = some wCust then custN d ws else if ws.head? = some wStock then stockN d ws else none
abbrev DR (K : PySem.W.Frag) : Addr := He.ga K "Draft"
def dFs (n r : Addr) (c s : V) : List (Str × V) := putF ("stocker" : Str) s (putF ("customers" : Str) c (putF ("rooms" : Str) (.ref r) (putF ("names" : Str) (.ref n) [])))
def rem3 (H : Hp) (x n r : Addr) : Hp := L2.del (L2.del (L2.del H x) n) r
def Pr2 (H : Hp) (v : V) (c : Option (Nat × Nat)) : Prop := (c = none ∧ v = .non) ∨ ∃ t a b, c = some (a, b) ∧ v = .ref t ∧ H t = some (.tup [.int (a : Nat), .int (b : Nat)])
structure Dr (K : PySem.W.Frag) (H0 : Hp) (x dx n r : Addr) (H : Hp) (d : DN) (vc vs : V) (as : List Addr) : Prop where
  hx : H x = some (.ins (DR K) dx (dFs n r vc vs))
  hn : H n = some (.lst (as.map V.ref))
  el : Paired (L (rem3 H x n r)) as d.ns
  hr : H r = some (.lst (nv d.rs))
  pc : Pr2 (rem3 H x n r) vc d.c
  ps : Pr2 (rem3 H x n r) vs d.s
  ne : n ≠ r
  ln : d.ns.length = d.rs.length
  l3 : d.ns.length ≤ 3
  nw : ∀ b, b ∈ as → H0 b = none
end Fs
set_option Elab.async false
set_option linter.all false
set_option maxRecDepth 100000
set_option maxHeartbeats 4000000
namespace Fs
open PySem PySem.Spec PyProof.Rows L2 FsX
open Evl (Ex Ex.refl Ex.trans Ex.new Ex.mut fresh_back)
theorem shelfN_c {d : DN} (h : d.c.isSome = true ∨ d.ns.length = 3) (ws : List (List Nat)) : shelfN d ws = none := by
  unfold shelfN
  split
  · rw [if_pos h]
  · rfl
theorem shelfN_len {d : DN} {ws : List (List Nat)} (h : ws.length ≠ 3) : shelfN d ws = none := by
  unfold shelfN
  split
  · exact absurd rfl h
  · rfl
theorem custN_c {d : DN} (h : d.c.isSome = true ∨ d.ns.length = 0) (ws : List (List Nat)) : custN d ws = none := by
  unfold custN
  split
  · rw [if_pos h]
  · rfl
theorem custN_len {d : DN} {ws : List (List Nat)} (h : ws.length ≠ 4) : custN d ws = none := by
  unfold custN
  split
  · exact absurd rfl h
  · rfl
theorem stockN_c {d : DN} (h : d.c = none ∨ d.s.isSome = true) (ws : List (List Nat)) : stockN d ws = none := by
  unfold stockN
  split
  · rw [if_pos h]
  · rfl
theorem stockN_len {d : DN} {ws : List (List Nat)} (h : ws.length ≠ 4) : stockN d ws = none := by
  unfold stockN
  split
  · exact absurd rfl h
  · rfl
theorem exRem3 {H H' : Hp} {x n r : Addr} (e : Ex H H') : Ex (rem3 H x n r) (rem3 H' x n r) := exDelMono (exDelMono (exDelMono e))
theorem exRem3S {H : Hp} {x n r : Addr} : Ex (rem3 H x n r) H := exDelSelf.trans (exDelSelf.trans exDelSelf)
theorem rem3_at {H : Hp} {x n r c : Addr} (h1 : c ≠ x) (h2 : c ≠ n) (h3 : c ≠ r) : rem3 H x n r c = H c := by
  unfold rem3; rw [del_ne h3, del_ne h2, del_ne h1]
theorem rem3_off {H : Hp} {x n r c : Addr} {o : HO} (h : rem3 H x n r c = some o) : c ≠ x ∧ c ≠ n ∧ c ≠ r := by
  refine ⟨fun e => ?_, fun e => ?_, fun e => ?_⟩ <;> subst e <;> simp [rem3, L2.del] at h
/-- a change of these three alone -/
theorem exRem3U {H H' : Hp} {x n r : Addr} (h : ∀ c o, c ≠ x → c ≠ n → c ≠ r → H c = some o → H' c = some o) : Ex (rem3 H x n r) (rem3 H' x n r) := fun c o hc => by
  obtain ⟨h1, h2, h3⟩ := rem3_off hc
  rw [rem3_at h1 h2 h3] at hc ⊢
  exact h c o h1 h2 h3 hc
theorem Pr2.ex {H H' : Hp} {v : V} {c : Option (Nat × Nat)} (h : Pr2 H v c) (e : Ex H H') : Pr2 H' v c := by
  rcases h with h | ⟨t, a, b, h1, h2, h3⟩
  · exact .inl h
  · exact .inr ⟨t, a, b, h1, h2, e _ _ h3⟩
theorem hu65 {k : Nat} {A : Around} (hr : Room k A) : A.units + 65 < cLine := by have := hr.un; omega
section
variable {P : Program} {w : World} {K : PySem.W.Frag} {mg : Str → Option Value} {base : Heap}
theorem Dr.mv {x dx n r : Addr} {H0 H H' : Hp} {d : DN} {vc vs : V} {as : List Addr} (h : Dr K H0 x dx n r H d vc vs as) (e : Ex H H') : Dr K H0 x dx n r H' d vc vs as :=
  ⟨e _ _ h.hx, e _ _ h.hn, Paired.mapP h.el fun _ _ k => mL _ _ _ _ (exRem3 e) k, e _ _ h.hr, h.pc.ex (exRem3 e), h.ps.ex (exRem3 e), h.ne, h.ln, h.l3, h.nw⟩
/-- a line with these words is read -/
def spRead (K : PySem.W.Frag) (f : DN → List (List Nat) → Option DN) : Sp := fun vs H Q _ => ∃ (H0 : Hp) (x dx n r wa : Addr) (d : DN) (vc vs' : V) (as asw : List Addr) (ws : List (List Nat)), vs = [.ref x, .ref wa] ∧ Dr K H0 x dx n r H d vc vs' as ∧ LA L (rem3 H x n r) wa asw ws ∧ ws ≠ [] ∧ (∀ t, t ∈ ws → t.length ≤ 1000) ∧ (∀ b, b ∈ asw → H0 b = none) ∧
  ∀ H' vc2 vs2 as2, Ex (rem3 H x n r) (rem3 H' x n r) → Dr K H0 x dx n r H' ((f d ws).getD d) vc2 vs2 as2 → Q (.bl (f d ws).isSome) H'
theorem k_read_shelf (z : Z K mg) : Kp P w K mg base CX0 2 (He.ga K "read_shelf") ["draft", "words"] (spRead K shelfN) := by
  have nd := sc_read_shelf.nd
  obtain ⟨t1, h3⟩ := c_MOST_SHELVES z
  obtain ⟨t2, h4⟩ := c_MOST_ROOM z
  refine kp0 (f_read_shelf z) sc_read_shelf (fun vs H Q E h => ?_) fun cdv A outer s H vs Q E hr h => ⟨_,
    (pss_cons (ps_if (PW.pt (pw_or (pt_cmp (pc_notN (pe_fld (pv 0) rfl))) (pw_or1 (pt_cmpR op_eq ((pe_callB call_len_seq (by rfl) ((b_len z)) PySem.boot_len (pa_cons ((pe_fld (pv 0) rfl)) pa_nil))) (pe_glob (v := .int 3) (by rfl) h3 ⟨_, rfl⟩) (nomark _))))) (pss_one (ps_ret pe_bl)) pss_nil) (pss_cons (ps_if (PW.pt (pw_or (pt_cmpR op_ne ((pe_callB call_len_seq (by rfl) ((b_len z)) PySem.boot_len (pa_cons ((pv 1)) pa_nil))) pe_int (nomark _)) (pw_or (pt_not (pt_val ((Kp.call ((k_is_name z)) (Room.mono (hr) (by decide)) (by rfl) ((g_is_name z)) pass0 ((pa_cons (pe_ix ix_list (pv 1) pe_int (fun _ _ => rfl)) pa_nil)))))) (pw_or1 (pt_cmpR (op_inD (hu65 hr)) (pe_ix ix_list (pv 1) pe_int (fun _ _ => rfl)) (pe_fld (pv 0) rfl) (by rfl)))))) (pss_one (ps_ret pe_bl)) pss_nil) (pss_cons ((ps_set (i := 2) nd rfl (by first | exact Or.inl rfl | exact Or.inr rfl) (((Kp.call ((k_digit z)) (Room.mono (hr) (by decide)) (by rfl) ((g_digit_of z)) pass0 ((pa_cons (pe_ix ix_list (pv 1) pe_int (fun _ _ => rfl)) (pa_cons (pe_glob (v := .int 4) (by rfl) h4 ⟨_, rfl⟩) pa_nil)))))))) (pss_cons (ps_if (pt_cmpR op_eq (pv 2) pe_int (nomark _)) (pss_one (ps_ret pe_bl)) pss_nil) (pss_cons ((ps_expr (pe_bm PySem.F.plainAttrs_list PySem.F.slot_list_append PySem.F.type_list_append mt_append ((pe_fld (pv 0) rfl)) (pa_cons ((pe_ix ix_list (pv 1) pe_int (fun _ _ => rfl))) pa_nil)))) (pss_cons ((ps_expr (pe_bm PySem.F.plainAttrs_list PySem.F.slot_list_append PySem.F.type_list_append mt_append ((pe_fld (pv 0) rfl)) (pa_cons ((pv 2)) pa_nil)))) (pss_one (ps_ret pe_bl)))))))), ?_⟩
  · obtain ⟨_, _, _, _, _, _, _, _, _, _, _, _, rfl, _⟩ := h; rfl
  · obtain ⟨H0, x, dx, n, r, wa, d, vc, vs', as, asw, ws, rfl, hD, hw, hne, hlen, hfr, q⟩ := h
    have lc : (dFs n r vc vs').lookup ("customers" : Str) = some vc := rfl
    have ln : (dFs n r vc vs').lookup ("names" : Str) = some (.ref n) := rfl
    have lr : (dFs n r vc vs').lookup ("rooms" : Str) = some (.ref r) := rfl
    have no : ∀ H', Ex H H' → shelfN d ws = none → Q (.bl false) H' := fun H' e h => by
      have q := q H' vc vs' as (exRem3 e)
      rw [h] at q
      exact q (hD.mv e)
    have hwH : LA L H wa asw ws := LA.ex hw mL exRem3S
    have lens : (as.map V.ref).length = d.ns.length := by rw [List.length_map, Paired.length hD.el]
    simp only [hD.hx, lc, ln, lr, cl_Draft z, na_Draft_customers z, na_Draft_names z, na_Draft_rooms z, Option.some.injEq, HO.ins.injEq, tNil, tCons, tC, tDrop, tOp, rI0, tCB, rEq, rNe, tNext, tRet, tRetN, tSeq, tAsg, tAug, tTest, tIfS, tIf, tNot, tAnd, tOr, tBM, tBM0, tCall, tTup, tTupZ, tLst, tFld, sFld, tMeth, tMake, tB, tYes, tCmp, t2I, tIsN, tNotN, tDGet, tDGet1, tDGet2, tDIn, tDNotIn, tAndV, tOrV, tNotV, tDNewT, sDPut, tSl, tPart, tNoPart, rSlL, tThen, tCntZ, tFgt, tChain, gCons, gNil, gTup, rCatZ, rCatA, rCat, rAppend, rExtend, rIn, rInD, rNotInD, rEqD, rNeD, rIxL, rIxT, tSub, tAdd, tBreak, tCont, tPar, rSum, rSumT, rMaxT, tyV, L2.start, List.map_cons, List.map_nil, List.length_cons, List.length_nil, List.cons_append, List.nil_append, List.append_nil, List.replicate, Nat.reduceAdd, Nat.reduceSub, wipe, List.set_cons_zero, List.set_cons_succ, nox_K, cxOf_K, blk_K, suite_K, tVar_0, tVar_1, tVar_2, tVar_3, tVar_4, tVar_5, tVar_6, tVar_7, tVar_8, tVar_9, tVar_10, tVar_11, tVar_12, tVar_13, tVar_14, tVar_15, gName_0, gName_1, gName_2, gName_3, gName_4, gName_5, gName_6, gName_7, gName_8, gName_9, gName_10, gName_11, gName_12, gName_13, gName_14, gName_15, and_assoc, exists_eq_left', exists_eq_left, exists_eq, exists_eq', exists_and_left, exists_const, and_true, true_and, V.int.injEq, V.ref.injEq, V.bl.injEq, V.str.injEq, List.cons.injEq, and_self, scal, Bool.false_eq_true, if_false, if_true, reduceCtorEq, false_and, and_false, false_or, or_false, ↓reduceIte]
    rcases hD.pc with ⟨h1, h2⟩ | ⟨t, a, b, h1, h2, _⟩
    · rw [h2]
      refine ifF (by decide) ?_
      refine ⟨_, .inl (sq_of hD.hn), ?_⟩
      rw [lens]
      refine ite2 (fun g => no H (Ex.refl _) (shelfN_c (.inr (by have := of_decide_eq_true g; injection this)) ws)) (fun g => ?_)
      have g : ¬ d.ns.length = 3 := fun e => g (by rw [e]; rfl)
      refine ⟨_, .inl (LA.sq hwH), ?_⟩
      rw [LA.len hwH]
      refine ite2 (fun g2 => no H (Ex.refl _) (shelfN_len fun e => ?_)) (fun g2 => ?_)
      · rw [e] at g2; exact absurd g2 (by decide)
      have g2 : ws.length = 3 := by
        have := of_decide_eq_true (by simpa using g2 : decide ((ws.length : Int) = 3) = true) |> fun h => h
        have h : ((ws.length : Nat) : Int) = ((3 : Nat) : Int) := by simpa using g2
        exact Int.ofNat.inj h
      obtain ⟨w0, w1, w2, rfl⟩ : ∃ w0 w1 w2, ws = [w0, w1, w2] := match ws, g2 with | [a, b, c], _ => ⟨a, b, c, rfl⟩
      obtain ⟨hw1, hw2⟩ := hwH
      obtain ⟨hq1, hq2⟩ := hw
      cases hq2 with
      | cons r0 hq2 => cases hq2 with
        | cons r1 hq2 => cases hq2 with
          | cons r2 hq2 =>
            cases hq2
            rename_i a0 a1 a2
            have lw1 := hlen w1 (by simp)
            have hw1' : L H a1 w1 := L.ex r1 exRem3S
            have hw2' : L H a2 w2 := L.ex r2 exRem3S
            refine ⟨_, sq_of hw1, .ref a1, rfl, a1, w1, rfl, hw1', by omega, fun H1 e1 => ⟨_, rfl, ?_⟩⟩
            have hs : shelfN d [w0, w1, w2] = if d.c.isSome = true ∨ d.ns.length = 3 then none else if nameN w1 = false ∨ d.ns.contains w1 = true then none else if digN w2 4 = 0 then none else some ⟨d.ns ++ [w1], d.rs ++ [digN w2 4], d.c, d.s⟩ := rfl
            rw [if_neg (by rintro (k | k); rw [h1] at k; cases k; exact g k)] at hs
            refine ite2 (fun g3 => no H1 e1 ?_) (fun g3 => ?_)
            · rw [hs, if_pos (.inl (by simpa using g3))]
            have g3 : nameN w1 = true := by simpa using g3
            refine ⟨_, sq_of (e1 _ _ hw1), .ref a1, rfl, DR K, dx, _, e1 _ _ hD.hx, cl_Draft z, na_Draft_names z, _, ln, dv w1, (hw1'.ex e1).dp, d.ns.map dv, .lst (sq_of (e1 _ _ hD.hn)) (dp_lists (R := L) (f := dv) (fun a l h => L.dp h) (Paired.mapP hD.el fun _ _ k => (L.ex k exRem3S).ex e1)), shaped_dv w1, shaped_list dv_can dv_dep _, ?_⟩
            rw [any_eqv eqv_dv]
            refine ite2 (fun g4 => no H1 e1 ?_) (fun g4 => ?_)
            · rw [hs, if_pos (.inr g4)]
            rw [if_neg (by rintro (k | k); rw [g3] at k; cases k; exact g4 k)] at hs
            refine ⟨_, sq_of (e1 _ _ hw1), .ref a2, rfl, a2, w2, 4, rfl, hw2'.ex e1, ?_⟩
            refine ⟨rfl, eq_if (m := 0) (fun g5 => ?_) (fun g5 => ?_)⟩
            · exact no H1 e1 (by rw [hs, if_pos g5])
            rw [if_neg g5] at hs
            rw [hs] at q
            have D1 := hD.mv e1
            simp only [D1.hx, ln, lr, cl_Draft z, na_Draft_names z, na_Draft_rooms z, Option.some.injEq, HO.ins.injEq, tNil, tCons, tC, tDrop, tOp, rI0, tCB, rEq, rNe, tNext, tRet, tRetN, tSeq, tAsg, tAug, tTest, tIfS, tIf, tNot, tAnd, tOr, tBM, tBM0, tCall, tTup, tTupZ, tLst, tFld, sFld, tMeth, tMake, tB, tYes, tCmp, t2I, tIsN, tNotN, tDGet, tDGet1, tDGet2, tDIn, tDNotIn, tAndV, tOrV, tNotV, tDNewT, sDPut, tSl, tPart, tNoPart, rSlL, tThen, tCntZ, tFgt, tChain, gCons, gNil, gTup, rCatZ, rCatA, rCat, rAppend, rExtend, rIn, rInD, rNotInD, rEqD, rNeD, rIxL, rIxT, tSub, tAdd, tBreak, tCont, tPar, rSum, rSumT, rMaxT, tyV, L2.start, List.map_cons, List.map_nil, List.length_cons, List.length_nil, List.cons_append, List.nil_append, List.append_nil, List.replicate, Nat.reduceAdd, Nat.reduceSub, wipe, List.set_cons_zero, List.set_cons_succ, nox_K, cxOf_K, blk_K, suite_K, tVar_0, tVar_1, tVar_2, tVar_3, tVar_4, tVar_5, tVar_6, tVar_7, tVar_8, tVar_9, tVar_10, tVar_11, tVar_12, tVar_13, tVar_14, tVar_15, gName_0, gName_1, gName_2, gName_3, gName_4, gName_5, gName_6, gName_7, gName_8, gName_9, gName_10, gName_11, gName_12, gName_13, gName_14, gName_15, and_assoc, exists_eq_left', exists_eq_left, exists_eq, exists_eq', exists_and_left, exists_const, and_true, true_and, V.int.injEq, V.ref.injEq, V.bl.injEq, V.str.injEq, List.cons.injEq, and_self, scal, Bool.false_eq_true, if_false, if_true, reduceCtorEq, false_and, and_false, false_or, or_false, ↓reduceIte]
            have nx : x ≠ n := fun e => by have := D1.hx; rw [e, D1.hn] at this; cases this
            have rx : x ≠ r := fun e => by have := D1.hx; rw [e, D1.hr] at this; cases this
            have l3 := hD.l3
            have lnr := hD.ln
            refine ⟨.inl ⟨_, sq_of D1.hn⟩, _, sq_of (e1 _ _ hw1), .ref a1, rfl, _, D1.hn, by rw [lens, sizeLine_eq]; omega, ?_⟩
            refine ⟨DR K, dx, _, by rw [upd_ne nx]; exact D1.hx, cl_Draft z, na_Draft_rooms z, _, lr, .inl ⟨_, sq_of (by rw [upd_ne D1.ne.symm]; exact D1.hr)⟩, r, rfl, _, by rw [upd_ne D1.ne.symm]; exact D1.hr, by rw [nv_len, sizeLine_eq]; omega, ?_⟩
            have eR : Ex (rem3 H x n r) (rem3 (upd (upd H1 n (.lst (as.map V.ref ++ [.ref a1]))) r (.lst (nv d.rs ++ [.int (digN w2 4 : Nat)]))) x n r) := (exRem3 e1).trans (exRem3U fun c o _ c2 c3 hc => by rw [upd_ne c3, upd_ne c2]; exact hc)
            refine q _ vc vs' (as ++ [a1]) eR ⟨?_, ?_, ?_, ?_, ?_, ?_, D1.ne, ?_, ?_, fun b hb => ?_⟩
            · rw [upd_ne rx, upd_ne nx]; exact D1.hx
            · rw [upd_ne D1.ne, upd_same, List.map_append]; rfl
            · exact paired_snoc (Paired.mapP hD.el fun _ _ k => mL _ _ _ _ eR k) (mL _ _ _ _ eR r1)
            · rw [upd_same]; exact congrArg (fun l => some (HO.lst l)) (nv_app d.rs [digN w2 4]).symm
            · exact hD.pc.ex eR
            · exact hD.ps.ex eR
            · show (d.ns ++ [w1]).length = (d.rs ++ [digN w2 4]).length
              rw [List.length_append, List.length_append, lnr]; rfl
            · show (d.ns ++ [w1]).length ≤ 3
              rw [List.length_append]; show d.ns.length + 1 ≤ 3; omega
            · rcases List.mem_append.1 hb with h | h
              · exact hD.nw b h
              · cases List.mem_singleton.1 h; exact hfr _ (by simp)
    · rw [h2]
      refine ifT (by simp) ?_
      exact no H (Ex.refl _) (shelfN_c (.inl (by rw [h1]; rfl)) ws)
end
end Fs
set_option Elab.async false
set_option linter.all false
set_option maxRecDepth 100000
set_option maxHeartbeats 4000000
namespace Fs
open PySem PySem.Spec PyProof.Rows L2 FsX
open Evl (Ex Ex.refl Ex.trans Ex.new Ex.mut fresh_back)
theorem four {α : Type} {ws : List α} (h : ws.length = 4) : ∃ a b c d, ws = [a, b, c, d] := match ws, h with | [a, b, c, d], _ => ⟨a, b, c, d, rfl⟩
theorem len_ne {α : Type} {ws : List α} {k : Nat} (g : ¬ (!decide (V.int (ws.length : Nat) = V.int (k : Nat))) = true) : ws.length = k := by
  have h : V.int (ws.length : Nat) = V.int (k : Nat) := by simpa using g
  injection h with h
  exact Int.ofNat.inj h
section
variable {P : Program} {w : World} {K : PySem.W.Frag} {mg : Str → Option Value} {base : Heap}
theorem k_read_customers (z : Z K mg) : Kp P w K mg base CX0 2 (He.ga K "read_customers") ["draft", "words"] (spRead K custN) := by
  have nd := sc_read_customers.nd
  obtain ⟨t2, h4⟩ := c_MOST_WANTED z
  refine kp0 (f_read_customers z) sc_read_customers (fun vs H Q E h => ?_) fun cdv A outer s H vs Q E hr h => ⟨_,
    (pss_cons (ps_if (PW.pt (pw_or (pt_cmp (pc_notN (pe_fld (pv 0) rfl))) (pw_or1 (pt_cmpR op_eq ((pe_callB call_len_seq (by rfl) ((b_len z)) PySem.boot_len (pa_cons ((pe_fld (pv 0) rfl)) pa_nil))) pe_int (nomark _))))) (pss_one (ps_ret pe_bl)) pss_nil) (pss_cons (ps_if (PW.pt (pw_or (pt_cmpR op_ne ((pe_callB call_len_seq (by rfl) ((b_len z)) PySem.boot_len (pa_cons ((pv 1)) pa_nil))) pe_int (nomark _)) (pw_or1 (pt_cmpR (op_neD hr.units) (pe_ix ix_list (pv 1) pe_int (fun _ _ => rfl)) ((Kp.call ((k_oct z)) (Room.mono (hr) (by decide)) (by rfl) ((g_octets_of z)) pass0 ((pa_cons (pe_str) pa_nil)))) (nomark _))))) (pss_one (ps_ret pe_bl)) pss_nil) (pss_cons ((ps_set (i := 2) nd rfl (by first | exact Or.inl rfl | exact Or.inr rfl) (((Kp.call ((k_digit z)) (Room.mono (hr) (by decide)) (by rfl) ((g_digit_of z)) pass0 ((pa_cons (pe_ix ix_list (pv 1) pe_int (fun _ _ => rfl)) (pa_cons (pe_glob (v := .int 4) (by rfl) h4 ⟨_, rfl⟩) pa_nil)))))))) (pss_cons ((ps_set (i := 3) nd rfl (by first | exact Or.inl rfl | exact Or.inr rfl) (((Kp.call ((k_digit z)) (Room.mono (hr) (by decide)) (by rfl) ((g_digit_of z)) pass0 ((pa_cons (pe_ix ix_list (pv 1) pe_int (fun _ _ => rfl)) (pa_cons (pv 2) pa_nil)))))))) (pss_cons (ps_if (pt_cmpR op_eq (pv 3) pe_int (nomark _)) (pss_one (ps_ret pe_bl)) pss_nil) (pss_cons (ps_fld (pv 0) (pe_tup (pa_cons (pv 2) (pa_cons (pv 3) pa_nil))) rfl) (pss_one (ps_ret pe_bl)))))))), ?_⟩
  · obtain ⟨_, _, _, _, _, _, _, _, _, _, _, _, rfl, _⟩ := h; rfl
  · obtain ⟨H0, x, dx, n, r, wa, d, vc, vs', as, asw, ws, rfl, hD, hw, hne, hlen, hfr, q⟩ := h
    have lc : (dFs n r vc vs').lookup ("customers" : Str) = some vc := rfl
    have ln : (dFs n r vc vs').lookup ("names" : Str) = some (.ref n) := rfl
    have no : ∀ H', Ex H H' → custN d ws = none → Q (.bl false) H' := fun H' e h => by
      have q := q H' vc vs' as (exRem3 e)
      rw [h] at q
      exact q (hD.mv e)
    have hwH : LA L H wa asw ws := LA.ex hw mL exRem3S
    have lens : (as.map V.ref).length = d.ns.length := by rw [List.length_map, Paired.length hD.el]
    simp only [hD.hx, lc, ln, cl_Draft z, na_Draft_customers z, na_Draft_names z, Option.some.injEq, HO.ins.injEq, tNil, tCons, tC, tDrop, tOp, rI0, tCB, rEq, rNe, tNext, tRet, tRetN, tSeq, tAsg, tAug, tTest, tIfS, tIf, tNot, tAnd, tOr, tBM, tBM0, tCall, tTup, tTupZ, tLst, tFld, sFld, tMeth, tMake, tB, tYes, tCmp, t2I, tIsN, tNotN, tDGet, tDGet1, tDGet2, tDIn, tDNotIn, tAndV, tOrV, tNotV, tDNewT, sDPut, tSl, tPart, tNoPart, rSlL, tThen, tCntZ, tFgt, tChain, gCons, gNil, gTup, rCatZ, rCatA, rCat, rAppend, rExtend, rIn, rInD, rNotInD, rEqD, rNeD, rIxL, rIxT, tSub, tAdd, tBreak, tCont, tPar, rSum, rSumT, rMaxT, tyV, L2.start, List.map_cons, List.map_nil, List.length_cons, List.length_nil, List.cons_append, List.nil_append, List.append_nil, List.replicate, Nat.reduceAdd, Nat.reduceSub, wipe, List.set_cons_zero, List.set_cons_succ, nox_K, cxOf_K, blk_K, suite_K, tVar_0, tVar_1, tVar_2, tVar_3, tVar_4, tVar_5, tVar_6, tVar_7, tVar_8, tVar_9, tVar_10, tVar_11, tVar_12, tVar_13, tVar_14, tVar_15, gName_0, gName_1, gName_2, gName_3, gName_4, gName_5, gName_6, gName_7, gName_8, gName_9, gName_10, gName_11, gName_12, gName_13, gName_14, gName_15, and_assoc, exists_eq_left', exists_eq_left, exists_eq, exists_eq', exists_and_left, exists_const, and_true, true_and, V.int.injEq, V.ref.injEq, V.bl.injEq, V.str.injEq, List.cons.injEq, and_self, scal, Bool.false_eq_true, if_false, if_true, reduceCtorEq, false_and, and_false, false_or, or_false, ↓reduceIte]
    rcases hD.pc with ⟨h1, h2⟩ | ⟨t, a, b, h1, h2, _⟩
    · rw [h2]
      refine ifF (by decide) ?_
      refine ⟨_, .inl (sq_of hD.hn), ?_⟩
      rw [lens]
      refine ite2 (fun g => no H (Ex.refl _) (custN_c (.inr (by have := of_decide_eq_true g; injection this)) ws)) (fun g => ?_)
      have g : ¬ d.ns.length = 0 := fun e => g (by rw [e]; rfl)
      refine ⟨_, .inl (LA.sq hwH), ?_⟩
      rw [LA.len hwH]
      refine ite2 (fun g2 => no H (Ex.refl _) (custN_len fun e => ?_)) (fun g2 => ?_)
      · rw [e] at g2; exact absurd g2 (by decide)
      have g2 : ws.length = 4 := by
        have h : ((ws.length : Nat) : Int) = ((4 : Nat) : Int) := by simpa using g2
        exact Int.ofNat.inj h
      obtain ⟨w0, w1, w2, w3, rfl⟩ := four g2
      obtain ⟨hw1, hw2⟩ := hwH
      obtain ⟨hq1, hq2⟩ := hw
      cases hq2 with
      | cons r0 hq2 => cases hq2 with
        | cons r1 hq2 => cases hq2 with
          | cons r2 hq2 => cases hq2 with
            | cons r3 hq2 =>
              cases hq2
              rename_i a0 a1 a2 a3
              have hw1' : L H a1 w1 := L.ex r1 exRem3S
              have hw2' : L H a2 w2 := L.ex r2 exRem3S
              have hw3' : L H a3 w3 := L.ex r3 exRem3S
              have hs : custN d [w0, w1, w2, w3] = if d.c.isSome = true ∨ d.ns.length = 0 then none else if w2 ≠ [111, 102] then none else if digN w3 (digN w1 4) = 0 then none else some ⟨d.ns, d.rs, some (digN w1 4, digN w3 (digN w1 4)), d.s⟩ := rfl
              rw [if_neg (by rintro (k | k); rw [h1] at k; cases k; exact g k)] at hs
              refine ⟨_, sq_of hw1, .ref a2, rfl, ("of" : Str), rfl, by decide, fun b1 H1 e1 fr hb1 => ?_⟩
              refine ⟨dv w2, (hw2'.ex e1).dp, dv [111, 102], L.dp (l := [111, 102]) hb1, shaped_dv _, shaped_dv _, ?_⟩
              rw [eqv_dv]
              refine ite2 (fun g3 => no H1 e1 ?_) (fun g3 => ?_)
              · rw [hs, if_pos (by simpa using g3)]
              have g3 : w2 = [111, 102] := by simpa using g3
              rw [if_neg (fun k => k g3)] at hs
              refine ⟨_, sq_of (e1 _ _ hw1), .ref a1, rfl, a1, w1, 4, rfl, hw1'.ex e1, ?_⟩
              refine ⟨_, sq_of (e1 _ _ hw1), .ref a3, rfl, a3, w3, digN w1 4, rfl, hw3'.ex e1, ?_⟩
              refine ⟨rfl, eq_if (m := 0) (fun g5 => ?_) (fun g5 => ?_)⟩
              · exact no H1 e1 (by rw [hs, if_pos g5])
              rw [if_neg g5] at hs
              rw [hs] at q
              have D1 := hD.mv e1
              refine ⟨by show 2 ≤ sizeLine; decide, fun t ht => ?_⟩
              have xt : x ≠ t := ne_of_none D1.hx ht
              have nt : n ≠ t := ne_of_none D1.hn ht
              have rt : r ≠ t := ne_of_none D1.hr ht
              have nx : n ≠ x := fun e => by have := D1.hx; rw [← e, D1.hn] at this; cases this
              have rx : r ≠ x := fun e => by have := D1.hx; rw [← e, D1.hr] at this; cases this
              refine ⟨DR K, dx, _, by rw [upd_ne xt]; exact D1.hx, cl_Draft z, na_Draft_customers z, by show 4 < 1000; decide, ?_⟩
              have eR : Ex (rem3 H x n r) (rem3 (upd (upd H1 t (.tup [.int (digN w1 4 : Nat), .int (digN w3 (digN w1 4) : Nat)])) x (.ins (DR K) dx (dFs n r (.ref t) vs'))) x n r) := (exRem3 e1).trans (exRem3U fun c o c1 _ _ hc => by rw [upd_ne c1, upd_ne (ne_of_none hc ht)]; exact hc)
              refine q _ (.ref t) vs' as eR ⟨upd_same, ?_, ?_, ?_, ?_, ?_, D1.ne, D1.ln, D1.l3, D1.nw⟩
              · rw [upd_ne nx, upd_ne nt]; exact D1.hn
              · exact Paired.mapP hD.el fun _ _ k => mL _ _ _ _ eR k
              · rw [upd_ne rx, upd_ne rt]; exact D1.hr
              · exact .inr ⟨t, _, _, rfl, rfl, by rw [rem3_at xt.symm nt.symm rt.symm, upd_ne xt.symm]; exact upd_same⟩
              · exact hD.ps.ex eR
    · rw [h2]
      refine ifT (by simp) ?_
      exact no H (Ex.refl _) (custN_c (.inl (by rw [h1]; rfl)) ws)
end
end Fs
set_option Elab.async false
set_option linter.all false
set_option maxRecDepth 100000
set_option maxHeartbeats 4000000
namespace Fs
open PySem PySem.Spec PyProof.Rows L2 FsX
open Evl (Ex Ex.refl Ex.trans Ex.new Ex.mut fresh_back)
section
variable {P : Program} {w : World} {K : PySem.W.Frag} {mg : Str → Option Value} {base : Heap}
theorem k_read_stocker (z : Z K mg) : Kp P w K mg base CX0 2 (He.ga K "read_stocker") ["draft", "words"] (spRead K stockN) := by
  have nd := sc_read_stocker.nd
  obtain ⟨t2, h9⟩ := c_MOST_PUT z
  refine kp0 (f_read_stocker z) sc_read_stocker (fun vs H Q E h => ?_) fun cdv A outer s H vs Q E hr h => ⟨_,
    (pss_cons (ps_if (PW.pt (pw_or (pt_cmp (pc_isN (pe_fld (pv 0) rfl))) (pw_or1 (pt_cmp (pc_notN (pe_fld (pv 0) rfl)))))) (pss_one (ps_ret pe_bl)) pss_nil) (pss_cons (ps_if (PW.pt (pw_or (pt_cmpR op_ne ((pe_callB call_len_seq (by rfl) ((b_len z)) PySem.boot_len (pa_cons ((pv 1)) pa_nil))) pe_int (nomark _)) (pw_or1 (pt_cmpR (op_neD hr.units) (pe_ix ix_list (pv 1) pe_int (fun _ _ => rfl)) ((Kp.call ((k_oct z)) (Room.mono (hr) (by decide)) (by rfl) ((g_octets_of z)) pass0 ((pa_cons (pe_str) pa_nil)))) (nomark _))))) (pss_one (ps_ret pe_bl)) pss_nil) (pss_cons ((ps_set (i := 2) nd rfl (by first | exact Or.inl rfl | exact Or.inr rfl) (((Kp.call ((k_digit z)) (Room.mono (hr) (by decide)) (by rfl) ((g_digit_of z)) pass0 ((pa_cons (pe_ix ix_list (pv 1) pe_int (fun _ _ => rfl)) (pa_cons (pe_glob (v := .int 9) (by rfl) h9 ⟨_, rfl⟩) pa_nil)))))))) (pss_cons ((ps_set (i := 3) nd rfl (by first | exact Or.inl rfl | exact Or.inr rfl) (((Kp.call ((k_digit z)) (Room.mono (hr) (by decide)) (by rfl) ((g_digit_of z)) pass0 ((pa_cons (pe_ix ix_list (pv 1) pe_int (fun _ _ => rfl)) (pa_cons ((pe_callB call_len_seq (by rfl) ((b_len z)) PySem.boot_len (pa_cons ((pe_fld (pv 0) rfl)) pa_nil))) pa_nil)))))))) (pss_cons (ps_if (PW.pt (pw_or (pt_cmpR op_eq (pv 2) pe_int (nomark _)) (pw_or1 (pt_cmpR op_eq (pv 3) pe_int (nomark _))))) (pss_one (ps_ret pe_bl)) pss_nil) (pss_cons (ps_fld (pv 0) (pe_tup (pa_cons (pv 2) (pa_cons (pv 3) pa_nil))) rfl) (pss_one (ps_ret pe_bl)))))))), ?_⟩
  · obtain ⟨_, _, _, _, _, _, _, _, _, _, _, _, rfl, _⟩ := h; rfl
  · obtain ⟨H0, x, dx, n, r, wa, d, vc, vs', as, asw, ws, rfl, hD, hw, hne, hlen, hfr, q⟩ := h
    have lc : (dFs n r vc vs').lookup ("customers" : Str) = some vc := rfl
    have ls : (dFs n r vc vs').lookup ("stocker" : Str) = some vs' := rfl
    have ln : (dFs n r vc vs').lookup ("names" : Str) = some (.ref n) := rfl
    have no : ∀ H', Ex H H' → stockN d ws = none → Q (.bl false) H' := fun H' e h => by
      have q := q H' vc vs' as (exRem3 e)
      rw [h] at q
      exact q (hD.mv e)
    have hwH : LA L H wa asw ws := LA.ex hw mL exRem3S
    have lens : (as.map V.ref).length = d.ns.length := by rw [List.length_map, Paired.length hD.el]
    simp only [hD.hx, lc, ls, cl_Draft z, na_Draft_customers z, na_Draft_stocker z, Option.some.injEq, HO.ins.injEq, tNil, tCons, tC, tDrop, tOp, rI0, tCB, rEq, rNe, tNext, tRet, tRetN, tSeq, tAsg, tAug, tTest, tIfS, tIf, tNot, tAnd, tOr, tBM, tBM0, tCall, tTup, tTupZ, tLst, tFld, sFld, tMeth, tMake, tB, tYes, tCmp, t2I, tIsN, tNotN, tDGet, tDGet1, tDGet2, tDIn, tDNotIn, tAndV, tOrV, tNotV, tDNewT, sDPut, tSl, tPart, tNoPart, rSlL, tThen, tCntZ, tFgt, tChain, gCons, gNil, gTup, rCatZ, rCatA, rCat, rAppend, rExtend, rIn, rInD, rNotInD, rEqD, rNeD, rIxL, rIxT, tSub, tAdd, tBreak, tCont, tPar, rSum, rSumT, rMaxT, tyV, L2.start, List.map_cons, List.map_nil, List.length_cons, List.length_nil, List.cons_append, List.nil_append, List.append_nil, List.replicate, Nat.reduceAdd, Nat.reduceSub, wipe, List.set_cons_zero, List.set_cons_succ, nox_K, cxOf_K, blk_K, suite_K, tVar_0, tVar_1, tVar_2, tVar_3, tVar_4, tVar_5, tVar_6, tVar_7, tVar_8, tVar_9, tVar_10, tVar_11, tVar_12, tVar_13, tVar_14, tVar_15, gName_0, gName_1, gName_2, gName_3, gName_4, gName_5, gName_6, gName_7, gName_8, gName_9, gName_10, gName_11, gName_12, gName_13, gName_14, gName_15, and_assoc, exists_eq_left', exists_eq_left, exists_eq, exists_eq', exists_and_left, exists_const, and_true, true_and, V.int.injEq, V.ref.injEq, V.bl.injEq, V.str.injEq, List.cons.injEq, and_self, scal, Bool.false_eq_true, if_false, if_true, reduceCtorEq, false_and, and_false, false_or, or_false, ↓reduceIte]
    rcases hD.pc with ⟨h1, h2⟩ | ⟨t0, a0', b0', h1, h2, _⟩
    · rw [h2]
      refine ifT (by decide) ?_
      exact no H (Ex.refl _) (stockN_c (.inl h1) ws)
    · rw [h2]
      refine ifF (by simp) ?_
      rcases hD.ps with ⟨h3, h4⟩ | ⟨t5, a5, b5, h3, h4, _⟩
      rotate_left
      · rw [h4]
        refine ifT (by simp) ?_
        exact no H (Ex.refl _) (stockN_c (.inr (by rw [h3]; rfl)) ws)
      rw [h4]
      refine ifF (by decide) ?_
      refine ⟨_, .inl (LA.sq hwH), ?_⟩
      rw [LA.len hwH]
      refine ite2 (fun g2 => no H (Ex.refl _) (stockN_len fun e => ?_)) (fun g2 => ?_)
      · rw [e] at g2; exact absurd g2 (by decide)
      have g2 : ws.length = 4 := by
        have h : ((ws.length : Nat) : Int) = ((4 : Nat) : Int) := by simpa using g2
        exact Int.ofNat.inj h
      obtain ⟨w0, w1, w2, w3, rfl⟩ := four g2
      obtain ⟨hw1, hw2⟩ := hwH
      obtain ⟨hq1, hq2⟩ := hw
      cases hq2 with
      | cons r0 hq2 => cases hq2 with
        | cons r1 hq2 => cases hq2 with
          | cons r2 hq2 => cases hq2 with
            | cons r3 hq2 =>
              cases hq2
              rename_i a0 a1 a2 a3
              have hw1' : L H a1 w1 := L.ex r1 exRem3S
              have hw2' : L H a2 w2 := L.ex r2 exRem3S
              have hw3' : L H a3 w3 := L.ex r3 exRem3S
              have hs : stockN d [w0, w1, w2, w3] = if d.c = none ∨ d.s.isSome = true then none else if w2 ≠ [111, 110, 116, 111] then none else if digN w1 9 = 0 ∨ digN w3 d.ns.length = 0 then none else some ⟨d.ns, d.rs, d.c, some (digN w1 9, digN w3 d.ns.length)⟩ := rfl
              rw [if_neg (by rintro (k | k); rw [h1] at k; cases k; rw [h3] at k; cases k)] at hs
              refine ⟨_, sq_of hw1, .ref a2, rfl, ("onto" : Str), rfl, by decide, fun b1 H1 e1 fr hb1 => ?_⟩
              refine ⟨dv w2, (hw2'.ex e1).dp, dv [111, 110, 116, 111], L.dp (l := [111, 110, 116, 111]) hb1, shaped_dv _, shaped_dv _, ?_⟩
              rw [eqv_dv]
              refine ite2 (fun g3 => no H1 e1 ?_) (fun g3 => ?_)
              · rw [hs, if_pos (by simpa using g3)]
              have g3 : w2 = [111, 110, 116, 111] := by simpa using g3
              rw [if_neg (fun k => k g3)] at hs
              have D1 := hD.mv e1
              refine ⟨_, sq_of (e1 _ _ hw1), .ref a1, rfl, a1, w1, 9, rfl, hw1'.ex e1, ?_⟩
              refine ⟨_, sq_of (e1 _ _ hw1), .ref a3, rfl, DR K, dx, _, D1.hx, cl_Draft z, na_Draft_names z, _, ln, n, rfl, _, .inl (sq_of D1.hn), a3, w3, d.ns.length, by rw [lens], hw3'.ex e1, ?_⟩
              refine ⟨rfl, eq_if (m := 0) (fun g5 => ?_) (fun g5 => ?_)⟩
              · exact no H1 e1 (by rw [hs, if_pos (.inl g5)])
              refine ⟨rfl, eq_if (m := 0) (fun g6 => ?_) (fun g6 => ?_)⟩
              · exact no H1 e1 (by rw [hs, if_pos (.inr g6)])
              rw [if_neg (by rintro (k | k); exact g5 k; exact g6 k)] at hs
              rw [hs] at q
              refine ⟨by show 2 ≤ sizeLine; decide, fun t ht => ?_⟩
              have xt : x ≠ t := ne_of_none D1.hx ht
              have nt : n ≠ t := ne_of_none D1.hn ht
              have rt : r ≠ t := ne_of_none D1.hr ht
              have nx : n ≠ x := fun e => by have := D1.hx; rw [← e, D1.hn] at this; cases this
              have rx : r ≠ x := fun e => by have := D1.hx; rw [← e, D1.hr] at this; cases this
              refine ⟨DR K, dx, _, by rw [upd_ne xt]; exact D1.hx, cl_Draft z, na_Draft_stocker z, by show 4 < 1000; decide, ?_⟩
              have eR : Ex (rem3 H x n r) (rem3 (upd (upd H1 t (.tup [.int (digN w1 9 : Nat), .int (digN w3 d.ns.length : Nat)])) x (.ins (DR K) dx (dFs n r vc (.ref t)))) x n r) := (exRem3 e1).trans (exRem3U fun c o c1 _ _ hc => by rw [upd_ne c1, upd_ne (ne_of_none hc ht)]; exact hc)
              refine q _ vc (.ref t) as eR ⟨upd_same, ?_, ?_, ?_, ?_, ?_, D1.ne, D1.ln, D1.l3, D1.nw⟩
              · rw [upd_ne nx, upd_ne nt]; exact D1.hn
              · exact Paired.mapP hD.el fun _ _ k => mL _ _ _ _ eR k
              · rw [upd_ne rx, upd_ne rt]; exact D1.hr
              · exact hD.pc.ex eR
              · exact .inr ⟨t, _, _, rfl, rfl, by rw [rem3_at xt.symm nt.symm rt.symm, upd_ne xt.symm]; exact upd_same⟩
/-- a line is read -/
theorem k_read_line (z : Z K mg) : Kp P w K mg base CX0 3 (He.ga K "read_line") ["draft", "words"] (spRead K lineN) := by
  have nd := sc_read_line.nd
  refine kp0 (f_read_line z) sc_read_line (fun vs H Q E h => ?_) fun cdv A outer s H vs Q E hr h => ⟨_,
    (pss_cons (ps_if (pt_cmpR (op_eqD hr.units) (pe_ix ix_list (pv 1) pe_int (fun _ _ => rfl)) ((Kp.call ((k_oct z)) (Room.mono (hr) (by decide)) (by rfl) ((g_octets_of z)) pass0 ((pa_cons (pe_str) pa_nil)))) (nomark _)) (pss_one (ps_ret ((Kp.call ((k_read_shelf z)) (Room.mono (hr) (by decide)) (by rfl) ((g_read_shelf z)) pass0 ((pa_cons (pv 0) (pa_cons (pv 1) pa_nil))))))) pss_nil) (pss_cons (ps_if (pt_cmpR (op_eqD hr.units) (pe_ix ix_list (pv 1) pe_int (fun _ _ => rfl)) ((Kp.call ((k_oct z)) (Room.mono (hr) (by decide)) (by rfl) ((g_octets_of z)) pass0 ((pa_cons (pe_str) pa_nil)))) (nomark _)) (pss_one (ps_ret ((Kp.call ((k_read_customers z)) (Room.mono (hr) (by decide)) (by rfl) ((g_read_customers z)) pass0 ((pa_cons (pv 0) (pa_cons (pv 1) pa_nil))))))) pss_nil) (pss_cons (ps_if (pt_cmpR (op_eqD hr.units) (pe_ix ix_list (pv 1) pe_int (fun _ _ => rfl)) ((Kp.call ((k_oct z)) (Room.mono (hr) (by decide)) (by rfl) ((g_octets_of z)) pass0 ((pa_cons (pe_str) pa_nil)))) (nomark _)) (pss_one (ps_ret ((Kp.call ((k_read_stocker z)) (Room.mono (hr) (by decide)) (by rfl) ((g_read_stocker z)) pass0 ((pa_cons (pv 0) (pa_cons (pv 1) pa_nil))))))) pss_nil) (pss_one (ps_ret pe_bl))))), ?_⟩
  · obtain ⟨_, _, _, _, _, _, _, _, _, _, _, _, rfl, _⟩ := h; rfl
  · obtain ⟨H0, x, dx, n, r, wa, d, vc, vs', as, asw, ws, rfl, hD, hw, hne, hlen, hfr, q⟩ := h
    obtain ⟨w0, wr, rfl⟩ : ∃ a l, ws = a :: l := by
      cases ws with
      | nil => exact absurd rfl hne
      | cons a l => exact ⟨a, l, rfl⟩
    have hw' := hw
    obtain ⟨hq1, hq2⟩ := hw'
    cases hq2 with
    | cons r0 hq2 =>
      rename_i a0 ar
      have hw0 : L H a0 w0 := L.ex r0 exRem3S
      have hwa : H wa = some (.lst ((a0 :: ar).map V.ref)) := exRem3S _ _ hq1
      have at0 : atI ((a0 :: ar).map V.ref) 0 = some (.ref a0) := atI_nat (j := 0) rfl
      have hs : lineN d (w0 :: wr) = if some w0 = some wShelf then shelfN d (w0 :: wr) else if some w0 = some wCust then custN d (w0 :: wr) else if some w0 = some wStock then stockN d (w0 :: wr) else none := rfl
      have go : ∀ (f : DN → List (List Nat) → Option DN) H1, Ex H H1 → lineN d (w0 :: wr) = f d (w0 :: wr) → spRead K f [.ref x, .ref wa] H1 Q E0 := fun f H1 e1 h => by
        rw [h] at q
        exact ⟨H0, x, dx, n, r, wa, d, vc, vs', as, _, _, rfl, hD.mv e1, LA.ex hw mL (exRem3 e1), hne, hlen, hfr, fun H' vc2 vs2 as2 e hD2 => q H' vc2 vs2 as2 ((exRem3 e1).trans e) hD2⟩
      simp only [ tNil, tCons, tC, tDrop, tOp, rI0, tCB, rEq, rNe, tNext, tRet, tRetN, tSeq, tAsg, tAug, tTest, tIfS, tIf, tNot, tAnd, tOr, tBM, tBM0, tCall, tTup, tTupZ, tLst, tFld, sFld, tMeth, tMake, tB, tYes, tCmp, t2I, tIsN, tNotN, tDGet, tDGet1, tDGet2, tDIn, tDNotIn, tAndV, tOrV, tNotV, tDNewT, sDPut, tSl, tPart, tNoPart, rSlL, tThen, tCntZ, tFgt, tChain, gCons, gNil, gTup, rCatZ, rCatA, rCat, rAppend, rExtend, rIn, rInD, rNotInD, rEqD, rNeD, rIxL, rIxT, tSub, tAdd, tBreak, tCont, tPar, rSum, rSumT, rMaxT, tyV, L2.start, List.map_cons, List.map_nil, List.length_cons, List.length_nil, List.cons_append, List.nil_append, List.append_nil, List.replicate, Nat.reduceAdd, Nat.reduceSub, wipe, List.set_cons_zero, List.set_cons_succ, nox_K, cxOf_K, blk_K, suite_K, tVar_0, tVar_1, tVar_2, tVar_3, tVar_4, tVar_5, tVar_6, tVar_7, tVar_8, tVar_9, tVar_10, tVar_11, tVar_12, tVar_13, tVar_14, tVar_15, gName_0, gName_1, gName_2, gName_3, gName_4, gName_5, gName_6, gName_7, gName_8, gName_9, gName_10, gName_11, gName_12, gName_13, gName_14, gName_15, and_assoc, exists_eq_left', exists_eq_left, exists_eq, exists_eq', exists_and_left, exists_const, and_true, true_and, V.int.injEq, V.ref.injEq, V.bl.injEq, V.str.injEq, List.cons.injEq, and_self, scal, Bool.false_eq_true, if_false, if_true, reduceCtorEq, false_and, and_false, false_or, or_false, ↓reduceIte]
      refine ⟨_, sq_of hwa, .ref a0, at0, ("shelf" : Str), rfl, by decide, fun b1 H1 e1 fr1 hb1 => ?_⟩
      refine ⟨dv w0, (hw0.ex e1).dp, dv wShelf, L.dp (l := wShelf) hb1, shaped_dv _, shaped_dv _, ?_⟩
      rw [eqv_dv]
      refine ite2 (fun g => ?_) (fun g => ?_)
      · have g := of_decide_eq_true g
        exact go shelfN H1 e1 (by rw [hs, if_pos (by rw [g])])
      have g : ¬ w0 = wShelf := fun e => g (decide_eq_true e)
      rw [if_neg (fun e => g (Option.some.inj e))] at hs
      refine ⟨_, sq_of (e1 _ _ hwa), .ref a0, at0, ("customers" : Str), rfl, by decide, fun b2 H2 e2 fr2 hb2 => ?_⟩
      have e12 := e1.trans e2
      refine ⟨dv w0, (hw0.ex e12).dp, dv wCust, L.dp (l := wCust) hb2, shaped_dv _, shaped_dv _, ?_⟩
      rw [eqv_dv]
      refine ite2 (fun g2 => ?_) (fun g2 => ?_)
      · have g2 := of_decide_eq_true g2
        exact go custN H2 e12 (by rw [hs, if_pos (by rw [g2])])
      have g2 : ¬ w0 = wCust := fun e => g2 (decide_eq_true e)
      rw [if_neg (fun e => g2 (Option.some.inj e))] at hs
      refine ⟨_, sq_of (e12 _ _ hwa), .ref a0, at0, ("stocker" : Str), rfl, by decide, fun b3 H3 e3 fr3 hb3 => ?_⟩
      have e13 := e12.trans e3
      refine ⟨dv w0, (hw0.ex e13).dp, dv wStock, L.dp (l := wStock) hb3, shaped_dv _, shaped_dv _, ?_⟩
      rw [eqv_dv]
      refine ite2 (fun g3 => ?_) (fun g3 => ?_)
      · have g3 := of_decide_eq_true g3
        exact go stockN H3 e13 (by rw [hs, if_pos (by rw [g3])])
      have g3 : ¬ w0 = wStock := fun e => g3 (decide_eq_true e)
      rw [if_neg (fun e => g3 (Option.some.inj e))] at hs
      rw [hs] at q
      exact q H3 vc vs' as (exRem3 e13) (hD.mv e13)
end
end Fs
set_option Elab.async false
set_option linter.all false
set_option maxRecDepth 100000
set_option maxHeartbeats 4000000
namespace Fs
open PySem PySem.Spec PyProof.Rows L2 FsX
open Evl (Ex Ex.refl Ex.trans Ex.new Ex.mut fresh_back)
section
variable {P : Program} {w : World} {K : PySem.W.Frag} {mg : Str → Option Value} {base : Heap}
def spDraftI (K : PySem.W.Frag) : Sp := fun vs H Q _ => ∃ (x dx : Addr), vs = [.ref x] ∧ H x = some (.ins (DR K) dx []) ∧
  ∀ n r H', H n = none → H r = none → n ≠ r → (∀ c o, c ≠ x → H c = some o → H' c = some o) → H' x = some (.ins (DR K) dx (dFs n r .non .non)) → H' n = some (.lst []) → H' r = some (.lst []) → Q .non H'
theorem k_Draft_init (z : Z K mg) : Kp P w K mg base CX0 1 (He.ma K (He.ga K "Draft") "__init__") ["self"] (spDraftI K) := by
  have nd := sc_Draft_init.nd
  refine kp0 (f_Draft_init z) sc_Draft_init (fun vs H Q E h => ?_) fun cdv A outer s H vs Q E hr h => ⟨_, (pss_cons (ps_fld (pv 0) (pe_lst pa_nil) rfl) (pss_cons (ps_fld (pv 0) (pe_lst pa_nil) rfl) (pss_cons (ps_fld (pv 0) pe_non rfl) (pss_one (ps_fld (pv 0) pe_non rfl))))), ?_⟩
  · obtain ⟨_, _, rfl, _⟩ := h; rfl
  · obtain ⟨x, dx, rfl, hx, q⟩ := h
    simp only [ tNil, tCons, tC, tDrop, tOp, rI0, tCB, rEq, rNe, tNext, tRet, tRetN, tSeq, tAsg, tAug, tTest, tIfS, tIf, tNot, tAnd, tOr, tBM, tBM0, tCall, tTup, tTupZ, tLst, tFld, sFld, tMeth, tMake, tB, tYes, tCmp, t2I, tIsN, tNotN, tDGet, tDGet1, tDGet2, tDIn, tDNotIn, tAndV, tOrV, tNotV, tDNewT, sDPut, tSl, tPart, tNoPart, rSlL, tThen, tCntZ, tFgt, tChain, gCons, gNil, gTup, rCatZ, rCatA, rCat, rAppend, rExtend, rIn, rInD, rNotInD, rEqD, rNeD, rIxL, rIxT, tSub, tAdd, tBreak, tCont, tPar, rSum, rSumT, rMaxT, tyV, L2.start, List.map_cons, List.map_nil, List.length_cons, List.length_nil, List.cons_append, List.nil_append, List.append_nil, List.replicate, Nat.reduceAdd, Nat.reduceSub, wipe, List.set_cons_zero, List.set_cons_succ, nox_K, cxOf_K, blk_K, suite_K, tVar_0, tVar_1, tVar_2, tVar_3, tVar_4, tVar_5, tVar_6, tVar_7, tVar_8, tVar_9, tVar_10, tVar_11, tVar_12, tVar_13, tVar_14, tVar_15, gName_0, gName_1, gName_2, gName_3, gName_4, gName_5, gName_6, gName_7, gName_8, gName_9, gName_10, gName_11, gName_12, gName_13, gName_14, gName_15, and_assoc, exists_eq_left', exists_eq_left, exists_eq, exists_eq', exists_and_left, exists_const, and_true, true_and, V.int.injEq, V.ref.injEq, V.bl.injEq, V.str.injEq, List.cons.injEq, and_self, scal, Bool.false_eq_true, if_false, if_true, reduceCtorEq, false_and, and_false, false_or, or_false, ↓reduceIte]
    refine ⟨by decide, fun n hn => ?_⟩
    have nx : n ≠ x := fun e => by rw [e, hx] at hn; cases hn
    refine ⟨DR K, dx, [], by rw [upd_ne nx.symm]; exact hx, cl_Draft z, na_Draft_names z, by decide, by decide, fun r hr' => ?_⟩
    have rx : r ≠ x := fun e => by rw [e, upd_same] at hr'; cases hr'
    rw [upd_ne rx] at hr'
    have rn : r ≠ n := fun e => by rw [e, upd_same] at hr'; cases hr'
    rw [upd_ne rn] at hr'
    refine ⟨DR K, dx, _, by rw [upd_ne rx.symm]; exact upd_same, cl_Draft z, na_Draft_rooms z, by show 1 < 1000; decide, ?_⟩
    simp only [upd_same, upd_upd, cl_Draft z, na_Draft_customers z, na_Draft_stocker z, Option.some.injEq, HO.ins.injEq, tNil, tCons, tC, tDrop, tOp, rI0, tCB, rEq, rNe, tNext, tRet, tRetN, tSeq, tAsg, tAug, tTest, tIfS, tIf, tNot, tAnd, tOr, tBM, tBM0, tCall, tTup, tTupZ, tLst, tFld, sFld, tMeth, tMake, tB, tYes, tCmp, t2I, tIsN, tNotN, tDGet, tDGet1, tDGet2, tDIn, tDNotIn, tAndV, tOrV, tNotV, tDNewT, sDPut, tSl, tPart, tNoPart, rSlL, tThen, tCntZ, tFgt, tChain, gCons, gNil, gTup, rCatZ, rCatA, rCat, rAppend, rExtend, rIn, rInD, rNotInD, rEqD, rNeD, rIxL, rIxT, tSub, tAdd, tBreak, tCont, tPar, rSum, rSumT, rMaxT, tyV, L2.start, List.map_cons, List.map_nil, List.length_cons, List.length_nil, List.cons_append, List.nil_append, List.append_nil, List.replicate, Nat.reduceAdd, Nat.reduceSub, wipe, List.set_cons_zero, List.set_cons_succ, nox_K, cxOf_K, blk_K, suite_K, tVar_0, tVar_1, tVar_2, tVar_3, tVar_4, tVar_5, tVar_6, tVar_7, tVar_8, tVar_9, tVar_10, tVar_11, tVar_12, tVar_13, tVar_14, tVar_15, gName_0, gName_1, gName_2, gName_3, gName_4, gName_5, gName_6, gName_7, gName_8, gName_9, gName_10, gName_11, gName_12, gName_13, gName_14, gName_15, and_assoc, exists_eq_left', exists_eq_left, exists_eq, exists_eq', exists_and_left, exists_const, and_true, true_and, V.int.injEq, V.ref.injEq, V.bl.injEq, V.str.injEq, List.cons.injEq, and_self, scal, Bool.false_eq_true, if_false, if_true, reduceCtorEq, false_and, and_false, false_or, or_false, ↓reduceIte]
    refine ⟨by show 2 < 1000; decide, by show 3 < 1000; decide, ?_⟩
    refine q n r _ hn hr' rn.symm (fun c o hc ho => ?_) upd_same ?_ ?_
    · rw [upd_ne hc, upd_ne (ne_of_none ho hr'), upd_ne hc, upd_ne (ne_of_none ho hn)]; exact ho
    · rw [upd_ne nx, upd_ne rn.symm, upd_ne nx]; exact upd_same
    · rw [upd_ne rx]; exact upd_same
theorem Kp.make0 {X : Cx} {CX : CXT} {k : Nat} {f C : Addr} {ps : List Str} {sp : Sp} {E : XK} {x : Str} {p pos : Pos} (h : Kp X.prog X.w X.K X.mg X.base CX k f ps sp) (M : Mk X.K C f) (hr : Room (k + 1) X.A) (hg : Gl X x) (hm : X.mg x = some (.ref C)) (hx : Passes CX X E)
    (hdb : (x == ("__debug__" : Str)) = false := by decide) : PE X (.Call (.Name x p) [] [] pos) (tMake C sp [] E tNil) := by
  obtain ⟨fd, F, b, kp⟩ := h
  exact pe_make0 M F hr hg hm b .nil hx hdb
theorem raise1 {X : Cx} {W : WX} {k : Nat} {p pos pos2 : Pos} {a1 : Expr} {t1 : TE} (z : Z X.K X.mg) (h : Kp X.prog X.w X.K X.mg X.base CX0 k (He.ma X.K (He.ga X.K "InvalidLine") "__init__") ["self", "line"] (fun vs H Q E => ∃ i : Int, 0 ≤ i ∧ spSubInit X.K [.int i] (eOf i) vs H Q E)) (hc : X.calm = true) (tk : Takes X W) (hr : Room (k + 1) X.A) (hg : Gl X "InvalidLine") (hm : X.mg "InvalidLine" = some (.ref (He.ga X.K "InvalidLine"))) (h1 : PE X a1 t1)
    (hs : starEach (a1 :: []) X.env = (false, eval a1 X.env) :: starEach [] X.env := by rfl) (hpl : (backTo pos (starEach [] X.env)).any (·.1) = false := by rfl) :
    PS X (.Raise (some (.Call (.Name "InvalidLine" p) [a1] [] pos)) none pos2) (fun _ σ H => tCons t1 tNil σ H fun vs H1 => ∃ i : Int, vs = [.int i] ∧ 0 ≤ i ∧ ∀ C d H', RefC X.K (xRef X.K) C → Ex H1 H' → ErrAt H' d (eOf i) → W (.ref C) (some d) σ H') := by
  obtain ⟨fd, F, b, kp⟩ := h
  obtain ⟨T, rc, iC, tI⟩ := x_one z (x := "InvalidLine") (by decide)
  exact ps_rz1 hc tk (pmk_rz1 (fun i => ⟨_, _, rfl⟩) T rc iC tI F hr b pass0 hg hm h1 (by decide) hs hpl)
theorem splitN_mem {d : Nat} : ∀ (n : Nat) (l : List Nat), l.length = n → (∀ p, p ∈ (stN d l).1 → p.length ≤ n) ∧ (stN d l).2.length ≤ n
  | 0, l, h => by
    cases List.length_eq_zero_iff.1 h
    exact ⟨(fun p hp => by cases hp), Nat.le_refl _⟩
  | n + 1, l, h => by
    obtain ⟨l', c, rfl⟩ : ∃ l' c, l = l' ++ [c] := ⟨l.dropLast, l.getLast (by intro e; rw [e] at h; cases h), (List.dropLast_concat_getLast _).symm⟩
    obtain ⟨h1, h2⟩ := splitN_mem (d := d) n l' (by simpa using h)
    rw [stN_snoc]
    unfold stepN
    split
    · refine ⟨fun p hp => ?_, Nat.zero_le _⟩
      rcases List.mem_append.1 hp with hp | hp
      · have := h1 p hp; omega
      · cases List.mem_singleton.1 hp; omega
    · refine ⟨fun p hp => ?_, ?_⟩
      · have := h1 p hp; omega
      · simp only [List.length_append, List.length_cons, List.length_nil]; omega
theorem piece_len {d : Nat} {l p : List Nat} (h : p ∈ splitN d l) : p.length ≤ l.length := by
  obtain ⟨h1, h2⟩ := splitN_mem (d := d) l.length l rfl
  unfold splitN at h
  rcases List.mem_append.1 h with h | h
  · exact h1 p h
  · cases List.mem_singleton.1 h; exact h2
theorem word_len {l p : List Nat} (h : p ∈ wordsN l) : p.length ≤ l.length := piece_len (List.mem_filter.1 h).1
def readN : Nat → DN → List (List Nat) → Except Nat DN
  | _, d, [] => .ok d
  | k, d, u :: r => if wordsN u = [] then readN (k + 1) d r else match lineN d (wordsN u) with
    | none => .error k
    | some d' => readN (k + 1) d' r
def shopN (t : List Nat) : Except (List Nat) (DN × (Nat × Nat) × (Nat × Nat)) := if 200 < t.length then .error [2] else match readN 1 ⟨[], [], none, none⟩ (splitN 10 t) with
  | .error k => .error (eOf k)
  | .ok d => match d.c, d.s with
    | some c, some s => .ok (d, c, s)
    | _, _ => .error (eOf ((splitN 10 t).length : Nat))
theorem lineN_cs {d d' : DN} {ws : List (List Nat)} (h : d.s.isSome = true → d.c.isSome = true) (e : lineN d ws = some d') : d'.s.isSome = true → d'.c.isSome = true := by
  unfold lineN at e
  split at e
  · unfold shelfN at e
    split at e
    · split at e
      · cases e
      · split at e
        · cases e
        · split at e
          · cases e
          · cases e; exact h
    · cases e
  · split at e
    · unfold custN at e
      split at e
      · split at e
        · cases e
        · split at e
          · cases e
          · split at e
            · cases e
            · cases e; exact fun _ => rfl
      · cases e
    · split at e
      · unfold stockN at e
        split at e
        · split at e
          · cases e
          · rename_i hc
            split at e
            · cases e
            · split at e
              · cases e
              · cases e
                intro _
                show d.c.isSome = true
                cases hdc : d.c with
                | none => exact absurd (.inl hdc) hc
                | some _ => rfl
        · cases e
      · cases e
/-- what is new since then -/
def newS (H0 H : Hp) : Hp := fun a => match H0 a with
  | none => H a
  | some _ => none
theorem newS_at {H0 H : Hp} {a : Addr} (h : H0 a = none) : newS H0 H a = H a := by unfold newS; rw [h]
theorem newS_off {H0 H : Hp} {a : Addr} {o : HO} (h : newS H0 H a = some o) : H0 a = none ∧ H a = some o := by
  unfold newS at h
  cases e : H0 a with
  | none => rw [e] at h; exact ⟨rfl, h⟩
  | some u => rw [e] at h; cases h
theorem newS_sub {H0 H : Hp} : Ex (newS H0 H) H := fun _ _ h => (newS_off h).2
theorem paired_in {α β : Type} {F G : α → β → Prop} : ∀ {l : List α} {m : List β}, Paired F l m → (∀ a b, a ∈ l → F a b → G a b) → Paired G l m
  | _, _, .nil, _ => .nil
  | _, _, .cons h k, f => .cons (f _ _ (List.mem_cons_self ..) h) (paired_in k fun a b ha r => f a b (List.mem_cons_of_mem _ ha) r)
theorem paired_mem {α β : Type} {F : α → β → Prop} {l : List α} {m : List β} {a : α} (h : Paired F l m) (ha : a ∈ l) : ∃ b, F a b := by
  obtain ⟨i, hi⟩ := List.mem_iff_getElem?.1 ha
  obtain ⟨b, _, h2⟩ := paired_get h hi
  exact ⟨b, h2⟩
def spShop (K : PySem.W.Frag) : Sp := fun vs H Q E => ∃ (a : Addr) (t : List Nat), vs = [.ref a] ∧ L H a t ∧ t.length ≤ 100000 ∧
  (∀ e, shopN t = .error e → Out K (xRef K) H e E) ∧ (∀ d c s, shopN t = .ok (d, c, s) → ∃ p : Rs.Shop, Ok p ∧ namesOf p = d.ns ∧ Rs.roomsOf p = d.rs ∧ p.taken = c.1 ∧ p.ofOne = c.2 ∧ p.items = s.1 ∧ p.onto = s.2 ∧ ∀ r H', Ex H H' → ShopAt (SH K) (newS H H') r p → Q (.ref r) H')
theorem k_read_shop (z : Z K mg) : Kp P w K mg base (L2.CX P w) 4 (He.ga K "read_shop") ["text"] (spShop K) := by
  have nd := sc_read_shop.nd
  obtain ⟨t1, h200⟩ := c_MOST_OCTETS z
  obtain ⟨t2, h10⟩ := c_NEWLINE z
  refine kpX (f_read_shop z) sc_read_shop (fun vs H Q E h => ?_) fun cdv A outer s H vs Q E hr h => ⟨_,
    (pss_cons (ps_if (pt_cmpR op_gt ((pe_callB call_len_seq (by rfl) ((b_len z)) PySem.boot_len (pa_cons ((pv 0)) pa_nil))) (pe_glob (v := .int 200) (by rfl) h200 ⟨_, rfl⟩) (nomark _)) (pss_one ((raise0 (x := "TextTooLong") z (by decide) ((k_eTextTooLong z)) rfl (takes_of rfl rfl rfl rfl) (Room.mono hr (by decide)) (by rfl) ((g_TextTooLong z))))) pss_nil) (pss_cons ((ps_set (i := 1) nd rfl (by first | exact Or.inl rfl | exact Or.inr rfl) (((Kp.call ((k_divided z)) (Room.mono (hr) (by decide)) (by rfl) ((g_divided z)) pass0 ((pa_cons (pv 0) (pa_cons (pe_glob (v := .int 10) (by rfl) h10 ⟨_, rfl⟩) pa_nil)))))))) (pss_cons ((ps_set (i := 2) nd rfl (by first | exact Or.inl rfl | exact Or.inr rfl) ((Kp.make0 (k_Draft_init z) (mk_Draft z) (Room.mono hr (by decide)) (by rfl) (g_Draft z) pass0)))) (pss_cons (ps_for (passes_of rfl) rfl (pi_enum1 (by rfl) (b_enumerate z) (pa_cons (pv 1) pa_nil)) (pg_tup rfl (pgs_cons (pg_name (i := 3) nd rfl (Or.inl rfl)) (pgs_cons (pg_name (i := 4) nd rfl (Or.inl rfl)) pgs_nil))) (pss_cons ((ps_set (i := 5) nd rfl (by first | exact Or.inl rfl | exact Or.inr rfl) (((Kp.call ((k_words z)) (Room.mono (hr) (by decide)) (by rfl) ((g_words_of z)) pass0 ((pa_cons (pv 4) pa_nil))))))) (pss_one (ps_if (PW.pt (pw_and (pt_cmpR op_gt ((pe_callB call_len_seq (by rfl) ((b_len z)) PySem.boot_len (pa_cons ((pv 5)) pa_nil))) pe_int (nomark _)) (pw_and1 (pt_not (pt_val ((Kp.call ((k_read_line z)) (Room.mono (hr) (by decide)) (by rfl) ((g_read_line z)) pass0 ((pa_cons (pv 2) (pa_cons (pv 5) pa_nil))))))))))
          (pss_one (raise1 z (k_eInvalidLine z) rfl (takes_of rfl rfl rfl rfl) (Room.mono hr (by decide)) (by rfl) (g_InvalidLine z) (pv 3))) pss_nil)))) (pss_cons (ps_if (pt_cmp (pc_isN (pe_fld (pv 2) rfl))) (pss_one (raise1 z (k_eInvalidLine z) rfl (takes_of rfl rfl rfl rfl) (Room.mono hr (by decide)) (by rfl) (g_InvalidLine z) ((pe_callB call_len_seq (by rfl) ((b_len z)) PySem.boot_len (pa_cons ((pv 1)) pa_nil))))) pss_nil) (pss_cons (ps_asg (pe_fld (pv 2) rfl) (pg_tup rfl (pgs_cons (pg_name (i := 6) nd rfl (Or.inl rfl)) (pgs_cons (pg_name (i := 7) nd rfl (Or.inl rfl)) pgs_nil)))) (pss_cons (ps_asg (pe_fld (pv 2) rfl) (pg_tup rfl (pgs_cons (pg_name (i := 8) nd rfl (Or.inl rfl)) (pgs_cons (pg_name (i := 9) nd rfl (Or.inl rfl)) pgs_nil)))) (pss_one (ps_ret ((Kp.make ((k_Shop_init z)) ((mk_Shop z)) (Room.mono (hr) (by decide)) (by rfl) ((g_Shop z)) pass0 ((pa_cons (pe_fld (pv 2) rfl) (pa_cons (pe_fld (pv 2) rfl) (pa_cons (pv 6) (pa_cons (pv 7) (pa_cons (pv 8) (pa_cons (pv 9) pa_nil)))))))))))))))))), ?_⟩
  · obtain ⟨_, _, rfl, _⟩ := h; rfl
  · obtain ⟨a, t, rfl, ha, hl, qe, q⟩ := h
    simp only [ tNil, tCons, tC, tDrop, tOp, rI0, tCB, rEq, rNe, tNext, tRet, tRetN, tSeq, tAsg, tAug, tTest, tIfS, tIf, tNot, tAnd, tOr, tBM, tBM0, tCall, tTup, tTupZ, tLst, tFld, sFld, tMeth, tMake, tB, tYes, tCmp, t2I, tIsN, tNotN, tDGet, tDGet1, tDGet2, tDIn, tDNotIn, tAndV, tOrV, tNotV, tDNewT, sDPut, tSl, tPart, tNoPart, rSlL, tThen, tCntZ, tFgt, tChain, gCons, gNil, gTup, rCatZ, rCatA, rCat, rAppend, rExtend, rIn, rInD, rNotInD, rEqD, rNeD, rIxL, rIxT, tSub, tAdd, tBreak, tCont, tPar, rSum, rSumT, rMaxT, tyV, L2.start, List.map_cons, List.map_nil, List.length_cons, List.length_nil, List.cons_append, List.nil_append, List.append_nil, List.replicate, Nat.reduceAdd, Nat.reduceSub, wipe, List.set_cons_zero, List.set_cons_succ, nox_K, cxOf_K, blk_K, suite_K, tVar_0, tVar_1, tVar_2, tVar_3, tVar_4, tVar_5, tVar_6, tVar_7, tVar_8, tVar_9, tVar_10, tVar_11, tVar_12, tVar_13, tVar_14, tVar_15, gName_0, gName_1, gName_2, gName_3, gName_4, gName_5, gName_6, gName_7, gName_8, gName_9, gName_10, gName_11, gName_12, gName_13, gName_14, gName_15, and_assoc, exists_eq_left', exists_eq_left, exists_eq, exists_eq', exists_and_left, exists_const, and_true, true_and, V.int.injEq, V.ref.injEq, V.bl.injEq, V.str.injEq, List.cons.injEq, and_self, scal, Bool.false_eq_true, if_false, if_true, reduceCtorEq, false_and, and_false, false_or, or_false, ↓reduceIte]
    refine ⟨_, .inl ha.sq, ite2 (fun g => ?_) (fun g => ?_)⟩
    · rw [nv_len] at g
      exact qe [2] (by unfold shopN; rw [if_pos (by have := of_decide_eq_true g; omega)])
    rw [nv_len] at g
    have g : ¬ 200 < t.length := fun k => g (decide_eq_true (by omega))
    have hs : shopN t = match readN 1 ⟨[], [], none, none⟩ (splitN 10 t) with
      | .error k => .error (eOf k)
      | .ok d => match d.c, d.s with
        | some c, some s => .ok (d, c, s)
        | _, _ => .error (eOf ((splitN 10 t).length : Nat)) := by unfold shopN; rw [if_neg g]
    refine ⟨a, t, 10, rfl, ha, hl, fun lr H1 e1 _ hlr => ?_⟩
    obtain ⟨asl, hlr⟩ := hlr
    have hlr : LA L H1 lr asl (splitN 10 t) := ⟨hlr.1, Paired.mapP hlr.2 fun _ _ k => k.1⟩
    intro x dx hx hdx ne
    refine ⟨x, dx, rfl, upd_same, fun n r H2 hn hr' nr keep hx2 hn2 hr2 => ⟨rfl, ?_⟩⟩
    have xd : upd H1 dx (.own x) x = none := by rw [upd_ne ne.symm]; exact hx
    have e2 : Ex H1 H2 := fun c o hc => by
      have c1 : c ≠ x := ne_of_none hc hx
      exact keep c o c1 (by rw [upd_ne c1, upd_ne (ne_of_none hc hdx)]; exact hc)
    have fr1 : ∀ c, upd (upd H1 dx (.own x)) x (.ins (DR K) dx []) c = none → H1 c = none := fun c h => fresh_back (((Ex.new hdx)).trans (Ex.new xd)) h
    have eB : Ex H1 (rem3 H2 x n r) := exDel (exDel (exDel e2 hx) (fr1 _ hn)) (fr1 _ hr')
    have hlB : LA L (rem3 H2 x n r) lr asl (splitN 10 t) := LA.ex hlr mL eB
    have D0 : Dr K H x dx n r H2 ⟨[], [], none, none⟩ .non .non [] := ⟨hx2, hn2, .nil, hr2, .inl ⟨rfl, rfl⟩, .inl ⟨rfl, rfl⟩, nr, rfl, Nat.zero_le _, (fun _ hb => by cases hb)⟩
    have hB0 : Ex (rem3 H2 x n r) (rem3 H2 x n r) := Ex.refl _
    generalize hBB : rem3 H2 x n r = B at eB hlB hB0
    have eBS : Ex B H2 := hBB ▸ exRem3S
    refine ⟨_, rfl, lr, _, rfl, LA.sq (LA.ex hlr mL e2), for_it (walk_enum1 (xs := asl.map V.ref)) (fun i σ H3 => ∃ u3 u4 u5 d vc vs as, σ = [some (.ref a), some (.ref lr), some (.ref x), u3, u4, u5, none, none, none, none] ∧ Ex B (rem3 H3 x n r) ∧ Dr K H x dx n r H3 d vc vs as ∧ (d.s.isSome = true → d.c.isSome = true) ∧ readN 1 ⟨[], [], none, none⟩ (splitN 10 t) = readN (1 + i) d ((splitN 10 t).drop i)) ⟨_, _, _, _, _, _, _, rfl, by rw [hBB]; exact hB0, D0, (fun h => by cases h), rfl⟩ ?_ ?_ ?_⟩
    · rintro i σ H3 _ ⟨_, _, _, _, _, _, _, _, e3, _⟩
      exact LA.sq (LA.ex hlB mL (e3.trans exRem3S))
    · rintro i y σ H3 H4 hi ⟨u3, u4, u5, d, vc, vs, as, rfl, e3, hD, hcs, hread⟩ ⟨T, y1, y2, rfl, hT, rfl, hy1, hy2⟩
      cases hy1
      have hl3 : LA L H3 lr asl (splitN 10 t) := LA.ex hlB mL (e3.trans exRem3S)
      obtain ⟨lnA, ln, rfl, hln, hlnA, hL⟩ := hl3.get hy2
      have hmem := List.mem_of_getElem? hln
      have lnl : ln.length ≤ 200 := by have := piece_len hmem; omega
      have eT : Ex H3 (upd H3 T (.tup [.int (1 + (i : Int)), .ref lnA])) := Ex.new hT
      refine ⟨T, _, rfl, SqT.of upd_same, rfl, ?_⟩
      simp only [ tNil, tCons, tC, tDrop, tOp, rI0, tCB, rEq, rNe, tNext, tRet, tRetN, tSeq, tAsg, tAug, tTest, tIfS, tIf, tNot, tAnd, tOr, tBM, tBM0, tCall, tTup, tTupZ, tLst, tFld, sFld, tMeth, tMake, tB, tYes, tCmp, t2I, tIsN, tNotN, tDGet, tDGet1, tDGet2, tDIn, tDNotIn, tAndV, tOrV, tNotV, tDNewT, sDPut, tSl, tPart, tNoPart, rSlL, tThen, tCntZ, tFgt, tChain, gCons, gNil, gTup, rCatZ, rCatA, rCat, rAppend, rExtend, rIn, rInD, rNotInD, rEqD, rNeD, rIxL, rIxT, tSub, tAdd, tBreak, tCont, tPar, rSum, rSumT, rMaxT, tyV, L2.start, List.map_cons, List.map_nil, List.length_cons, List.length_nil, List.cons_append, List.nil_append, List.append_nil, List.replicate, Nat.reduceAdd, Nat.reduceSub, wipe, List.set_cons_zero, List.set_cons_succ, nox_K, cxOf_K, blk_K, suite_K, tVar_0, tVar_1, tVar_2, tVar_3, tVar_4, tVar_5, tVar_6, tVar_7, tVar_8, tVar_9, tVar_10, tVar_11, tVar_12, tVar_13, tVar_14, tVar_15, gName_0, gName_1, gName_2, gName_3, gName_4, gName_5, gName_6, gName_7, gName_8, gName_9, gName_10, gName_11, gName_12, gName_13, gName_14, gName_15, and_assoc, exists_eq_left', exists_eq_left, exists_eq, exists_eq', exists_and_left, exists_const, and_true, true_and, V.int.injEq, V.ref.injEq, V.bl.injEq, V.str.injEq, List.cons.injEq, and_self, scal, Bool.false_eq_true, if_false, if_true, reduceCtorEq, false_and, and_false, false_or, or_false, ↓reduceIte]
      have DT := hD.mv eT
      have eBT : Ex B (rem3 (upd H3 T (.tup [.int (1 + (i : Int)), .ref lnA])) x n r) := e3.trans (exRem3 eT)
      have hLT := L.ex hL eT
      generalize upd H3 T (.tup [.int (1 + (i : Int)), .ref lnA]) = H4 at *
      refine ⟨lnA, ln, rfl, hLT, by omega, fun wr H5 e5 fr5 hw5 => ?_⟩
      obtain ⟨asw, hw5⟩ := hw5
      have D5 := DT.mv e5
      have eB5 : Ex B (rem3 H5 x n r) := eBT.trans (exRem3 e5)
      have off : ∀ c, H4 c = none → c ≠ x ∧ c ≠ n ∧ c ≠ r := fun c hc => ⟨(fun e => by rw [e, DT.hx] at hc; cases hc), (fun e => by rw [e, DT.hn] at hc; cases hc), (fun e => by rw [e, DT.hr] at hc; cases hc)⟩
      have hwR : LA L (rem3 H5 x n r) wr asw (wordsN ln) := by
        refine ⟨?_, Paired.mapP hw5.2 fun b s k => ?_⟩
        · obtain ⟨o1, o2, o3⟩ := off wr fr5
          rw [rem3_at o1 o2 o3]; exact hw5.1
        · obtain ⟨o1, o2, o3⟩ := off b k.2
          show rem3 H5 x n r b = _
          rw [rem3_at o1 o2 o3]; exact k.1
      have step : readN (1 + i) d ((splitN 10 t).drop i) = if wordsN ln = [] then readN (1 + i + 1) d ((splitN 10 t).drop (i + 1)) else match lineN d (wordsN ln) with | none => .error (1 + i) | some d' => readN (1 + i + 1) d' ((splitN 10 t).drop (i + 1)) := by
        obtain ⟨hl1, hl2⟩ := List.getElem?_eq_some_iff.1 hln
        rw [List.drop_eq_getElem_cons hl1, hl2]; rfl
      rw [step] at hread
      simp only [ tNil, tCons, tC, tDrop, tOp, rI0, tCB, rEq, rNe, tNext, tRet, tRetN, tSeq, tAsg, tAug, tTest, tIfS, tIf, tNot, tAnd, tOr, tBM, tBM0, tCall, tTup, tTupZ, tLst, tFld, sFld, tMeth, tMake, tB, tYes, tCmp, t2I, tIsN, tNotN, tDGet, tDGet1, tDGet2, tDIn, tDNotIn, tAndV, tOrV, tNotV, tDNewT, sDPut, tSl, tPart, tNoPart, rSlL, tThen, tCntZ, tFgt, tChain, gCons, gNil, gTup, rCatZ, rCatA, rCat, rAppend, rExtend, rIn, rInD, rNotInD, rEqD, rNeD, rIxL, rIxT, tSub, tAdd, tBreak, tCont, tPar, rSum, rSumT, rMaxT, tyV, L2.start, List.map_cons, List.map_nil, List.length_cons, List.length_nil, List.cons_append, List.nil_append, List.append_nil, List.replicate, Nat.reduceAdd, Nat.reduceSub, wipe, List.set_cons_zero, List.set_cons_succ, nox_K, cxOf_K, blk_K, suite_K, tVar_0, tVar_1, tVar_2, tVar_3, tVar_4, tVar_5, tVar_6, tVar_7, tVar_8, tVar_9, tVar_10, tVar_11, tVar_12, tVar_13, tVar_14, tVar_15, gName_0, gName_1, gName_2, gName_3, gName_4, gName_5, gName_6, gName_7, gName_8, gName_9, gName_10, gName_11, gName_12, gName_13, gName_14, gName_15, and_assoc, exists_eq_left', exists_eq_left, exists_eq, exists_eq', exists_and_left, exists_const, and_true, true_and, V.int.injEq, V.ref.injEq, V.bl.injEq, V.str.injEq, List.cons.injEq, and_self, scal, Bool.false_eq_true, if_false, if_true, reduceCtorEq, false_and, and_false, false_or, or_false, ↓reduceIte]
      refine ⟨_, .inl (sq_of hw5.1), ?_⟩
      rw [List.length_map, Paired.length hw5.2]
      refine ite2 (fun g2 => ?_) (fun g2 => ?_)
      · have g2 : wordsN ln ≠ [] := fun e => by rw [e] at g2; exact absurd g2 (by decide)
        rw [if_neg g2] at hread
        refine ⟨H, x, dx, n, r, wr, d, vc, vs, as, asw, wordsN ln, rfl, D5, hwR, g2, fun s hs => by have := word_len hs; omega, fun b hb => (let ⟨_, k⟩ := paired_mem hw5.2 hb; fresh_back (e1.trans (eB.trans (eBT.trans exRem3S))) k.2), fun H6 vc2 vs2 as2 e6 D6 => ?_⟩
        refine ⟨_, rfl, ?_⟩
        cases hln2 : lineN d (wordsN ln) with
        | none =>
          rw [hln2] at hread D6
          simp only at hread
          refine ifT (by decide) ⟨by omega, ?_⟩
          rw [hread] at hs
          have := qe _ hs
          intro C dd H' rc e7 he
          have ee : (1 + (i : Int)) = (((1 + i : Nat)) : Int) := by omega
          rw [ee] at he
          exact this C dd H' rc (e1.trans (eB.trans ((eB5.trans e6).trans (exRem3S.trans e7)))) he
        | some d' =>
          rw [hln2] at hread D6
          simp only at hread
          refine ifF (by simp) ?_
          exact ⟨eB5.trans e6, d', vc2, vs2, as2, D6, lineN_cs hcs hln2, by rw [hread, Nat.add_assoc]⟩
      · have g2 : wordsN ln = [] := by
          cases e : wordsN ln with
          | nil => rfl
          | cons a l => rw [e] at g2; exact absurd (decide_eq_true (by simp only [List.length_cons]; omega)) g2
        rw [if_pos g2] at hread
        exact ⟨eB5, d, vc, vs, as, D5, hcs, by rw [hread, Nat.add_assoc]⟩
    · rintro σ H3 ⟨u3, u4, u5, d, vc, vs, as, rfl, e3, hD, hcs, hread⟩
      rw [List.length_map, Paired.length hlr.2, List.drop_length] at hread
      rw [hread] at hs
      simp only [readN] at hs
      have lst : (dFs n r vc vs).lookup ("stocker" : Str) = some vs := rfl
      have lcu : (dFs n r vc vs).lookup ("customers" : Str) = some vc := rfl
      have lna : (dFs n r vc vs).lookup ("names" : Str) = some (.ref n) := rfl
      have lro : (dFs n r vc vs).lookup ("rooms" : Str) = some (.ref r) := rfl
      have e13 : Ex H H3 := e1.trans (eB.trans (e3.trans exRem3S))
      simp only [hD.hx, lst, lcu, lna, lro, cl_Draft z, na_Draft_stocker z, na_Draft_customers z, na_Draft_names z, na_Draft_rooms z, Option.some.injEq, HO.ins.injEq, tNil, tCons, tC, tDrop, tOp, rI0, tCB, rEq, rNe, tNext, tRet, tRetN, tSeq, tAsg, tAug, tTest, tIfS, tIf, tNot, tAnd, tOr, tBM, tBM0, tCall, tTup, tTupZ, tLst, tFld, sFld, tMeth, tMake, tB, tYes, tCmp, t2I, tIsN, tNotN, tDGet, tDGet1, tDGet2, tDIn, tDNotIn, tAndV, tOrV, tNotV, tDNewT, sDPut, tSl, tPart, tNoPart, rSlL, tThen, tCntZ, tFgt, tChain, gCons, gNil, gTup, rCatZ, rCatA, rCat, rAppend, rExtend, rIn, rInD, rNotInD, rEqD, rNeD, rIxL, rIxT, tSub, tAdd, tBreak, tCont, tPar, rSum, rSumT, rMaxT, tyV, L2.start, List.map_cons, List.map_nil, List.length_cons, List.length_nil, List.cons_append, List.nil_append, List.append_nil, List.replicate, Nat.reduceAdd, Nat.reduceSub, wipe, List.set_cons_zero, List.set_cons_succ, nox_K, cxOf_K, blk_K, suite_K, tVar_0, tVar_1, tVar_2, tVar_3, tVar_4, tVar_5, tVar_6, tVar_7, tVar_8, tVar_9, tVar_10, tVar_11, tVar_12, tVar_13, tVar_14, tVar_15, gName_0, gName_1, gName_2, gName_3, gName_4, gName_5, gName_6, gName_7, gName_8, gName_9, gName_10, gName_11, gName_12, gName_13, gName_14, gName_15, and_assoc, exists_eq_left', exists_eq_left, exists_eq, exists_eq', exists_and_left, exists_const, and_true, true_and, V.int.injEq, V.ref.injEq, V.bl.injEq, V.str.injEq, List.cons.injEq, and_self, scal, Bool.false_eq_true, if_false, if_true, reduceCtorEq, false_and, and_false, false_or, or_false, ↓reduceIte]
      have hl3 : LA L H3 lr asl (splitN 10 t) := LA.ex hlB mL (e3.trans exRem3S)
      rcases hD.ps with ⟨h1, h2⟩ | ⟨t5, i5, o5, h1, h2, h3⟩
      · rw [h2]
        refine ifT (by decide) ⟨_, .inl (LA.sq hl3), by omega, ?_⟩
        rw [LA.len hl3]
        rw [h1] at hs
        have hs : shopN t = .error (eOf ((splitN 10 t).length : Nat)) := by
          rw [hs]; cases d.c <;> rfl
        intro C dd H' rc e7 he
        exact qe _ hs C dd H' rc (e13.trans e7) he
      · rw [h2]
        refine ifF (by simp) ?_
        rcases hD.pc with ⟨k1, k2⟩ | ⟨t6, i6, o6, k1, k2, k3⟩
        · have := hcs (by rw [h1]; rfl)
          rw [k1] at this; cases this
        rw [h1, k1] at hs
        simp only at hs
        obtain ⟨p, ok, pn, pr, p1, p2, p3, p4, q⟩ := q _ _ _ hs
        refine ⟨t6, k2, _, SqT.of (exRem3S _ _ k3), rfl, _, _, rfl, _, _, rfl, rfl, t5, rfl, _, SqT.of (exRem3S _ _ h3), rfl, _, _, rfl, _, _, rfl, rfl, fun y dy hy hdy ney => ?_⟩
        refine ⟨y, dy, _, _, _, _, _, _, rfl, upd_same, rfl, ?_⟩
        rw [upd_upd]
        have hy' : upd H3 dy (.own y) y = none := by rw [upd_ne ney.symm]; exact hy
        have e : Ex H3 (upd (upd H3 dy (.own y)) y (.ins (SH K) dy (shopFs (.ref n) (.ref r) (.int i6) (.int o6) (.int i5) (.int o5)))) := (Ex.new hdy).trans (Ex.new hy')
        have yH : H y = none := fresh_back e13 hy
        have nH : H n = none := fresh_back e1 (fr1 _ hn)
        have rH : H r = none := fresh_back e1 (fr1 _ hr')
        refine q y _ (e13.trans e) ⟨ok, dy, _, n, r, by rw [newS_at yH]; exact upd_same, rfl, rfl, ?_, ?_, ?_, ?_, ?_, ?_⟩
        · rw [p1]; rfl
        · rw [p2]; rfl
        · rw [p3]; rfl
        · rw [p4]; rfl
        · rw [pn]
          exact ⟨as, by rw [newS_at nH]; exact e _ _ hD.hn, paired_in hD.el fun b s hb k => by
            show newS _ _ b = _
            rw [newS_at (hD.nw b hb)]; exact (L.ex k exRem3S).ex e⟩
        · rw [pr]
          show newS _ _ r = _
          rw [newS_at rH]; exact e _ _ hD.hr
end
end Fs
set_option Elab.async false
set_option linter.all false
set_option maxRecDepth 100000
set_option maxHeartbeats 4000000
namespace Fs
open PySem PySem.Spec PyProof.Rows L2 FsX
open Evl (Ex Ex.refl Ex.trans Ex.new Ex.mut fresh_back)
/-- the heap without these objects -/
def remL (M : List Addr) (H : Hp) : Hp := fun a => if a ∈ M then none else H a
theorem remL_at {M : List Addr} {H : Hp} {a : Addr} (h : a ∉ M) : remL M H a = H a := by unfold remL; rw [if_neg h]
theorem remL_off {M : List Addr} {H : Hp} {a : Addr} {o : HO} (h : remL M H a = some o) : a ∉ M ∧ H a = some o := by
  unfold remL at h
  split at h
  · cases h
  · rename_i k; exact ⟨k, h⟩
theorem exRemL {M : List Addr} {H H' : Hp} (e : Ex H H') : Ex (remL M H) (remL M H') := fun a o h => by
  obtain ⟨h1, h2⟩ := remL_off h
  rw [remL_at h1]; exact e _ _ h2
theorem exRemS {M : List Addr} {H : Hp} : Ex (remL M H) H := fun a o h => (remL_off h).2
theorem exRemU {M : List Addr} {H : Hp} {a : Addr} {o : HO} (h : a ∈ M) : Ex (remL M H) (remL M (upd H a o)) := fun c u hc => by
  obtain ⟨h1, h2⟩ := remL_off hc
  rw [remL_at h1, upd_ne (fun e => h1 (by rw [e]; exact h))]; exact h2
/-- the other ones of these stay -/
def Keep (M : List Addr) (H H' : Hp) (x pl : Addr) : Prop := ∀ c o, c ∈ M → c ≠ x → c ≠ pl → H c = some o → H' c = some o
abbrev RN (K : PySem.W.Frag) : Addr := He.ga K "Round"
def oFs (s k : Addr) (b : Bool) (p : Addr) : List (Str × V) := putF ("past" : Str) (.ref p) (putF ("selling" : Str) (.bl b) (putF ("stock" : Str) (.ref k) (putF ("shop" : Str) (.ref s) [])))
/-- the flags change from step to step -/
def Alt : Rs.Moment → List Rs.Moment → Prop
  | _, [] => True
  | m, m' :: l => m'.2 = !m.2 ∧ Alt m' l
/-- a round stands here -/
structure RoAt (K : PySem.W.Frag) (M : List Addr) (x pl : Addr) (H : Hp) (ρ : Rs.Round) : Prop where
  hx : ∃ dx s k, H x = some (.ins (RN K) dx (oFs s k ρ.now.2 pl)) ∧ ShopAt (SH K) (remL M H) s ρ.shop ∧ T (remL M H) k ρ.now.1
  hq : ∃ as : List Addr, H pl = some (.lst (as.map V.ref)) ∧ Paired (T (remL M H)) as (ρ.past.map (·.1)).reverse
  mx : x ∈ M
  mp : pl ∈ M
  ne : x ≠ pl
  st : ∀ m, m ∈ ρ.now :: ρ.past → FsLaw.IsStock ρ.shop m.1
  al : Alt ρ.now ρ.past
  l30 : ρ.past.length ≤ 30
  tk : ∀ c, c ∈ M → ∃ o, H c = some o ∧ ∀ xs, o ≠ .tup xs
theorem eqI_if {n m : Nat} {A B : Prop} (hA : n = m → A) (hB : ¬ n = m → B) : if decide (V.int (n : Nat) = V.int (m : Nat)) = true then A else B := eq_if hA hB
section
variable {P : Program} {w : World} {K : PySem.W.Frag} {mg : Str → Option Value} {base : Heap}
/-- changed in these two alone -/
def Chg (K : PySem.W.Frag) (M : List Addr) (x pl : Addr) (H H' : Hp) (ρ : Rs.Round) : Prop := Ex (remL M H) (remL M H') ∧ Keep M H H' x pl ∧ (∀ c o, H c = some o → ∃ o', H' c = some o') ∧ RoAt K M x pl H' ρ
theorem RoAt.mv {M : List Addr} {x pl : Addr} {H H' : Hp} {ρ : Rs.Round} (h : RoAt K M x pl H ρ) (e : Ex H H') : RoAt K M x pl H' ρ := by
  obtain ⟨⟨dx, s, k, h1, h2, h3⟩, ⟨as, h4, h5⟩, a, b, c, d, f, g, mk⟩ := h
  exact ⟨⟨dx, s, k, e _ _ h1, mShop _ _ _ _ (exRemL e) h2, h3.ex (exRemL e)⟩, ⟨as, e _ _ h4, Paired.mapP h5 fun _ _ k => k.ex (exRemL e)⟩, a, b, c, d, f, g, fun c hc => let ⟨o, h1, h2⟩ := mk c hc; ⟨o, e _ _ h1, h2⟩⟩
theorem RoAt.tup {M : List Addr} {x pl k : Addr} {H : Hp} {ρ : Rs.Round} (h : RoAt K M x pl H ρ) {s : List Nat} (hk : T H k s) : T (remL M H) k s := by
  show remL M H k = _
  rw [remL_at]
  · exact hk
  · intro hm
    obtain ⟨o, h1, h2⟩ := h.tk k hm
    rw [hk.tup] at h1; cases h1; exact h2 _ rfl
def spStep (K : PySem.W.Frag) : Sp := fun vs H Q E => ∃ (M : List Addr) (x pl k : Addr) (ρ : Rs.Round) (s : List Nat), vs = [.ref x, .ref k] ∧ RoAt K M x pl H ρ ∧ T (remL M H) k s ∧ FsLaw.IsStock ρ.shop s ∧
  (ρ.past.length < 30 → ∀ H', Chg K M x pl H H' (Rs.moved ρ (s, !ρ.now.2)) → Q .non H') ∧ (ρ.past.length = 30 → Out K (xRef K) H [10] E)
theorem k_step (z : Z K mg) : Kp P w K mg base (L2.CX P w) 4 (He.ma K (He.ga K "Round") "step") ["self", "stock"] (spStep K) := by
  have nd := sc_Round_step.nd
  obtain ⟨t30, h30⟩ := c_MOST_STEPS z
  refine kpX (f_Round_step z) sc_Round_step (fun vs H Q E h => ?_) fun cdv A outer s H vs Q E hr h => ⟨_,
    (pss_cons (ps_if (pt_cmpR op_eq ((pe_callB call_len_seq (by rfl) ((b_len z)) PySem.boot_len (pa_cons ((pe_fld (pv 0) rfl)) pa_nil))) (pe_glob (v := .int 30) (by rfl) h30 ⟨_, rfl⟩) (nomark _)) (pss_one ((raise0 (x := "StepsSpent") z (by decide) ((k_eStepsSpent z)) rfl (takes_of rfl rfl rfl rfl) (Room.mono hr (by decide)) (by rfl) ((g_StepsSpent z))))) pss_nil) (pss_cons ((ps_expr (pe_bm PySem.F.plainAttrs_list PySem.F.slot_list_append PySem.F.type_list_append mt_append ((pe_fld (pv 0) rfl)) (pa_cons ((pe_fld (pv 0) rfl)) pa_nil)))) (pss_cons (ps_fld (pv 0) (pv 1) rfl) (pss_one (ps_fld (pv 0) (pe_not (pe_fld (pv 0) rfl)) rfl))))), ?_⟩
  · obtain ⟨_, _, _, _, _, _, rfl, _⟩ := h; rfl
  · obtain ⟨M, x, pl, k, ρ, s, rfl, hR, hk, hS, q, qe⟩ := h
    obtain ⟨⟨dx, sa, ka, hx, hs, hka⟩, ⟨as, hp1, hp2⟩, mx, mp, ne, st, al, l30, hmk⟩ := hR
    have lp : (oFs sa ka ρ.now.2 pl).lookup ("past" : Str) = some (.ref pl) := rfl
    have lk : (oFs sa ka ρ.now.2 pl).lookup ("stock" : Str) = some (.ref ka) := rfl
    have ll : (as.map V.ref).length = ρ.past.length := by rw [List.length_map, Paired.length hp2, List.length_reverse, List.length_map]
    simp only [hx, lp, lk, cl_Round z, na_Round_past z, na_Round_stock z, Option.some.injEq, HO.ins.injEq, tNil, tCons, tC, tDrop, tOp, rI0, tCB, rEq, rNe, tNext, tRet, tRetN, tSeq, tAsg, tAug, tTest, tIfS, tIf, tNot, tAnd, tOr, tBM, tBM0, tCall, tTup, tTupZ, tLst, tFld, sFld, tMeth, tMake, tB, tYes, tCmp, t2I, tIsN, tNotN, tDGet, tDGet1, tDGet2, tDIn, tDNotIn, tAndV, tOrV, tNotV, tDNewT, sDPut, tSl, tPart, tNoPart, rSlL, tThen, tCntZ, tFgt, tChain, gCons, gNil, gTup, rCatZ, rCatA, rCat, rAppend, rExtend, rIn, rInD, rNotInD, rEqD, rNeD, rIxL, rIxT, tSub, tAdd, tBreak, tCont, tPar, rSum, rSumT, rMaxT, tyV, L2.start, List.map_cons, List.map_nil, List.length_cons, List.length_nil, List.cons_append, List.nil_append, List.append_nil, List.replicate, Nat.reduceAdd, Nat.reduceSub, wipe, List.set_cons_zero, List.set_cons_succ, nox_K, cxOf_K, blk_K, suite_K, tVar_0, tVar_1, tVar_2, tVar_3, tVar_4, tVar_5, tVar_6, tVar_7, tVar_8, tVar_9, tVar_10, tVar_11, tVar_12, tVar_13, tVar_14, tVar_15, gName_0, gName_1, gName_2, gName_3, gName_4, gName_5, gName_6, gName_7, gName_8, gName_9, gName_10, gName_11, gName_12, gName_13, gName_14, gName_15, and_assoc, exists_eq_left', exists_eq_left, exists_eq, exists_eq', exists_and_left, exists_const, and_true, true_and, V.int.injEq, V.ref.injEq, V.bl.injEq, V.str.injEq, List.cons.injEq, and_self, scal, Bool.false_eq_true, if_false, if_true, reduceCtorEq, false_and, and_false, false_or, or_false, ↓reduceIte]
    refine ⟨_, .inl (sq_of hp1), ?_⟩
    rw [ll]
    refine ite2 (fun g => ?_) (fun g => ?_)
    · exact qe (by have := of_decide_eq_true g; injection this)
    have lt : ρ.past.length < 30 := by
      rcases Nat.lt_or_ge ρ.past.length 30 with k | k
      · exact k
      · exact absurd (decide_eq_true (by rw [show ρ.past.length = 30 from by omega]; rfl)) g
    refine ⟨.inl ⟨_, sq_of hp1⟩, _, hp1, by rw [ll, sizeLine_eq]; omega, RN K, dx, _, by rw [upd_ne ne]; exact hx, cl_Round z, na_Round_stock z, by show 4 < 1000; decide, ?_⟩
    refine ⟨RN K, dx, _, upd_same, cl_Round z, na_Round_selling z, _, rfl, _, rfl, RN K, dx, _, upd_same, cl_Round z, na_Round_selling z, by show 4 < 1000; decide, ?_⟩
    rw [upd_upd]
    have eR : Ex (remL M H) (remL M (upd (upd H pl (.lst (as.map V.ref ++ [.ref ka]))) x (.ins (RN K) dx (oFs sa k (!ρ.now.2) pl)))) := (exRemU mp).trans (exRemU mx)
    refine q lt _ ⟨eR, fun c o _ c1 c2 hc => by rw [upd_ne c1, upd_ne c2]; exact hc, fun c o hc => ?_, ⟨dx, sa, k, upd_same, mShop _ _ _ _ eR hs, hk.ex eR⟩, ⟨as ++ [ka], ?_, ?_⟩, mx, mp, ne, ?_, ⟨(Bool.not_not _).symm, al⟩, ?_, fun c hc => ?_⟩
    · by_cases c1 : c = x
      · subst c1; exact ⟨_, upd_same⟩
      · by_cases c2 : c = pl
        · subst c2; exact ⟨_, by rw [upd_ne c1]; exact upd_same⟩
        · exact ⟨o, by rw [upd_ne c1, upd_ne c2]; exact hc⟩
    · rw [upd_ne ne.symm, upd_same, List.map_append]; rfl
    · show Paired _ _ ((ρ.now :: ρ.past).map (·.1)).reverse
      rw [List.map_cons, List.reverse_cons]
      exact paired_snoc (Paired.mapP hp2 fun _ _ h => T.ex h eR) (hka.ex eR)
    · intro m hm
      rcases List.mem_cons.1 hm with rfl | hm
      · exact hS
      · exact st m hm
    · show (ρ.now :: ρ.past).length ≤ 30
      rw [List.length_cons]; omega
    · by_cases c1 : c = x
      · subst c1; exact ⟨_, upd_same, fun _ z => by cases z⟩
      · by_cases c2 : c = pl
        · subst c2; exact ⟨_, by rw [upd_ne c1]; exact upd_same, fun _ z => by cases z⟩
        · obtain ⟨o, h1, h2⟩ := hmk c hc
          exact ⟨o, by rw [upd_ne c1, upd_ne c2]; exact h1, h2⟩
/-- a round is laid -/
def spRoundI (K : PySem.W.Frag) : Sp := fun vs H Q _ => ∃ (x dx sa : Addr) (p : Rs.Shop), vs = [.ref x, .ref sa] ∧ H x = some (.ins (RN K) dx []) ∧ ShopAt (SH K) (L2.del H x) sa p ∧
  ∀ k pl H', T H' k (Rs.roomsOf p) → H pl = none → k ≠ x → pl ≠ x → (∀ c o, c ≠ x → H c = some o → H' c = some o) → H' x = some (.ins (RN K) dx (oFs sa k false pl)) → H' pl = some (.lst []) → Q .non H'
theorem k_Round_init (z : Z K mg) : Kp P w K mg base CX0 2 (He.ma K (He.ga K "Round") "__init__") ["self", "shop"] (spRoundI K) := by
  have nd := sc_Round_init.nd
  refine kp0 (f_Round_init z) sc_Round_init (fun vs H Q E h => ?_) fun cdv A outer s H vs Q E hr h => ⟨_, (pss_cons (ps_fld (pv 0) (pv 1) rfl) (pss_cons (ps_fld (pv 0) ((Kp.call ((k_full z)) (Room.mono (hr) (by decide)) (by rfl) ((g_full_stock z)) pass0 ((pa_cons (pv 1) pa_nil)))) rfl) (pss_cons (ps_fld (pv 0) pe_bl rfl) (pss_one (ps_fld (pv 0) (pe_lst pa_nil) rfl))))), ?_⟩
  · obtain ⟨_, _, _, _, rfl, _⟩ := h; rfl
  · obtain ⟨x, dx, sa, p, rfl, hx, hs, q⟩ := h
    have hsx : ∀ o, ShopAt (SH K) (upd H x o) sa p := fun o => mShop _ _ _ _ (exDelUpd.trans exDelSelf) hs
    simp only [hx, cl_Round z, na_Round_shop z, Option.some.injEq, HO.ins.injEq, tNil, tCons, tC, tDrop, tOp, rI0, tCB, rEq, rNe, tNext, tRet, tRetN, tSeq, tAsg, tAug, tTest, tIfS, tIf, tNot, tAnd, tOr, tBM, tBM0, tCall, tTup, tTupZ, tLst, tFld, sFld, tMeth, tMake, tB, tYes, tCmp, t2I, tIsN, tNotN, tDGet, tDGet1, tDGet2, tDIn, tDNotIn, tAndV, tOrV, tNotV, tDNewT, sDPut, tSl, tPart, tNoPart, rSlL, tThen, tCntZ, tFgt, tChain, gCons, gNil, gTup, rCatZ, rCatA, rCat, rAppend, rExtend, rIn, rInD, rNotInD, rEqD, rNeD, rIxL, rIxT, tSub, tAdd, tBreak, tCont, tPar, rSum, rSumT, rMaxT, tyV, L2.start, List.map_cons, List.map_nil, List.length_cons, List.length_nil, List.cons_append, List.nil_append, List.append_nil, List.replicate, Nat.reduceAdd, Nat.reduceSub, wipe, List.set_cons_zero, List.set_cons_succ, nox_K, cxOf_K, blk_K, suite_K, tVar_0, tVar_1, tVar_2, tVar_3, tVar_4, tVar_5, tVar_6, tVar_7, tVar_8, tVar_9, tVar_10, tVar_11, tVar_12, tVar_13, tVar_14, tVar_15, gName_0, gName_1, gName_2, gName_3, gName_4, gName_5, gName_6, gName_7, gName_8, gName_9, gName_10, gName_11, gName_12, gName_13, gName_14, gName_15, and_assoc, exists_eq_left', exists_eq_left, exists_eq, exists_eq', exists_and_left, exists_const, and_true, true_and, V.int.injEq, V.ref.injEq, V.bl.injEq, V.str.injEq, List.cons.injEq, and_self, scal, Bool.false_eq_true, if_false, if_true, reduceCtorEq, false_and, and_false, false_or, or_false, ↓reduceIte]
    refine ⟨by decide, sa, p, rfl, hsx _, fun k H1 e1 hk => ?_⟩
    have hx1 := e1 _ _ upd_same
    simp only [hx1, upd_same, upd_upd, cl_Round z, na_Round_stock z, na_Round_selling z, Option.some.injEq, HO.ins.injEq, tNil, tCons, tC, tDrop, tOp, rI0, tCB, rEq, rNe, tNext, tRet, tRetN, tSeq, tAsg, tAug, tTest, tIfS, tIf, tNot, tAnd, tOr, tBM, tBM0, tCall, tTup, tTupZ, tLst, tFld, sFld, tMeth, tMake, tB, tYes, tCmp, t2I, tIsN, tNotN, tDGet, tDGet1, tDGet2, tDIn, tDNotIn, tAndV, tOrV, tNotV, tDNewT, sDPut, tSl, tPart, tNoPart, rSlL, tThen, tCntZ, tFgt, tChain, gCons, gNil, gTup, rCatZ, rCatA, rCat, rAppend, rExtend, rIn, rInD, rNotInD, rEqD, rNeD, rIxL, rIxT, tSub, tAdd, tBreak, tCont, tPar, rSum, rSumT, rMaxT, tyV, L2.start, List.map_cons, List.map_nil, List.length_cons, List.length_nil, List.cons_append, List.nil_append, List.append_nil, List.replicate, Nat.reduceAdd, Nat.reduceSub, wipe, List.set_cons_zero, List.set_cons_succ, nox_K, cxOf_K, blk_K, suite_K, tVar_0, tVar_1, tVar_2, tVar_3, tVar_4, tVar_5, tVar_6, tVar_7, tVar_8, tVar_9, tVar_10, tVar_11, tVar_12, tVar_13, tVar_14, tVar_15, gName_0, gName_1, gName_2, gName_3, gName_4, gName_5, gName_6, gName_7, gName_8, gName_9, gName_10, gName_11, gName_12, gName_13, gName_14, gName_15, and_assoc, exists_eq_left', exists_eq_left, exists_eq, exists_eq', exists_and_left, exists_const, and_true, true_and, V.int.injEq, V.ref.injEq, V.bl.injEq, V.str.injEq, List.cons.injEq, and_self, scal, Bool.false_eq_true, if_false, if_true, reduceCtorEq, false_and, and_false, false_or, or_false, ↓reduceIte]
    refine ⟨by show 1 < 1000; decide, by show 2 < 1000; decide, by decide, fun pl hpl => ?_⟩
    have px : pl ≠ x := fun e => by rw [e, upd_same] at hpl; cases hpl
    rw [upd_ne px] at hpl
    refine ⟨RN K, dx, _, by rw [upd_ne px.symm]; exact upd_same, cl_Round z, na_Round_past z, by show 3 < 1000; decide, ?_⟩
    have kx : k ≠ x := fun e => by rw [e] at hk; rw [hk.tup] at hx1; cases hx1
    have kp : k ≠ pl := ne_of_none hk hpl
    refine q k pl _ ?_ ?_ kx px (fun c o hc ho => ?_) upd_same ?_
    · show upd _ _ _ k = _
      rw [upd_ne kx, upd_ne kp, upd_ne kx]; exact hk
    · cases e : H pl with
      | none => rfl
      | some o => have := e1 pl o (by rw [upd_ne px]; exact e); rw [hpl] at this; cases this
    · have h1 := e1 c o (by rw [upd_ne hc]; exact ho)
      rw [upd_ne hc, upd_ne (ne_of_none h1 hpl), upd_ne hc]; exact h1
    · rw [upd_ne px]; exact upd_same
/-- the items are none -/
def spCheck (K : PySem.W.Frag) : Sp := fun vs H Q E => ∃ (M : List Addr) (x pl k : Addr) (ρ : Rs.Round) (s : List Nat), vs = [.ref x, .ref k] ∧ RoAt K M x pl H ρ ∧ T H k s ∧ 1 ≤ ρ.shop.shelves.length ∧
  (Rs.isBelow s (ρ.shop.shelves.map fun _ => 9) = true → Q .non H) ∧ (Rs.isBelow s (ρ.shop.shelves.map fun _ => 9) = false → Out K (xRef K) H [5] E)
theorem nine_iff {s : List Nat} {l : List Rs.Shelf} : Rs.isBelow s (l.map fun _ => 9) = true ↔ s.length = l.length ∧ ∀ x, x ∈ s → x ≤ 9 := by
  rw [RsP.isBelow_iff, RsP.const_below]
theorem k_check (z : Z K mg) : Kp P w K mg base (L2.CX P w) 4 (He.ma K (He.ga K "Round") "check_items") ["self", "items"] (spCheck K) := by
  have nd := sc_Round_check_items.nd
  obtain ⟨t9, h9⟩ := c_MOST_OF_ONE z
  refine kpX (f_Round_check_items z) sc_Round_check_items (fun vs H Q E h => ?_) fun cdv A outer s H vs Q E hr h => ⟨_,
    (pss_one (ps_if (PW.pt (pw_or (pt_cmpR op_ne ((pe_callB call_len_seq (by rfl) ((b_len z)) PySem.boot_len (pa_cons ((pv 1)) pa_nil))) ((pe_callB call_len_seq (by rfl) ((b_len z)) PySem.boot_len (pa_cons ((pe_fld (pv 0) rfl)) pa_nil))) (nomark _)) (pw_or1 (pt_cmpR op_gt (pe_callB (cr_maxT rfl) (by rfl) (b_max z) (by decide +kernel) (pa_cons (pv 1) pa_nil)) (pe_glob (v := .int 9) (by rfl) h9 ⟨_, rfl⟩) (nomark _))))) (pss_one ((raise0 (x := "NoItems") z (by decide) ((k_eNoItems z)) rfl (takes_of rfl rfl rfl rfl) (Room.mono hr (by decide)) (by rfl) ((g_NoItems z))))) pss_nil)), ?_⟩
  · obtain ⟨_, _, _, _, _, _, rfl, _⟩ := h; rfl
  · obtain ⟨M, x, pl, k, ρ, s, rfl, hR, hk, h1, q, qe⟩ := h
    obtain ⟨⟨dx, sa, ka, hx, hs, hka⟩, ⟨as, hp1, hp2⟩, mx, mp, ne, st, al, l30, hmk⟩ := hR
    have lk : (oFs sa ka ρ.now.2 pl).lookup ("stock" : Str) = some (.ref ka) := rfl
    have hkaH : T H ka ρ.now.1 := hka.ex exRemS
    have ls : ρ.now.1.length = ρ.shop.shelves.length := RsP.stock_length (st _ (List.mem_cons_self ..))
    simp only [hx, lk, cl_Round z, na_Round_stock z, Option.some.injEq, HO.ins.injEq, tNil, tCons, tC, tDrop, tOp, rI0, tCB, rEq, rNe, tNext, tRet, tRetN, tSeq, tAsg, tAug, tTest, tIfS, tIf, tNot, tAnd, tOr, tBM, tBM0, tCall, tTup, tTupZ, tLst, tFld, sFld, tMeth, tMake, tB, tYes, tCmp, t2I, tIsN, tNotN, tDGet, tDGet1, tDGet2, tDIn, tDNotIn, tAndV, tOrV, tNotV, tDNewT, sDPut, tSl, tPart, tNoPart, rSlL, tThen, tCntZ, tFgt, tChain, gCons, gNil, gTup, rCatZ, rCatA, rCat, rAppend, rExtend, rIn, rInD, rNotInD, rEqD, rNeD, rIxL, rIxT, tSub, tAdd, tBreak, tCont, tPar, rSum, rSumT, rMaxT, tyV, L2.start, List.map_cons, List.map_nil, List.length_cons, List.length_nil, List.cons_append, List.nil_append, List.append_nil, List.replicate, Nat.reduceAdd, Nat.reduceSub, wipe, List.set_cons_zero, List.set_cons_succ, nox_K, cxOf_K, blk_K, suite_K, tVar_0, tVar_1, tVar_2, tVar_3, tVar_4, tVar_5, tVar_6, tVar_7, tVar_8, tVar_9, tVar_10, tVar_11, tVar_12, tVar_13, tVar_14, tVar_15, gName_0, gName_1, gName_2, gName_3, gName_4, gName_5, gName_6, gName_7, gName_8, gName_9, gName_10, gName_11, gName_12, gName_13, gName_14, gName_15, and_assoc, exists_eq_left', exists_eq_left, exists_eq, exists_eq', exists_and_left, exists_const, and_true, true_and, V.int.injEq, V.ref.injEq, V.bl.injEq, V.str.injEq, List.cons.injEq, and_self, scal, Bool.false_eq_true, if_false, if_true, reduceCtorEq, false_and, and_false, false_or, or_false, ↓reduceIte]
    refine ⟨_, .inr hk.sq, _, .inr hkaH.sq, ?_⟩
    rw [nv_len, nv_len]
    refine ite2 (fun g => qe ?_) (fun g => ?_)
    · cases hb : Rs.isBelow s (ρ.shop.shelves.map fun _ => 9) with
      | false => rfl
      | true => have := (nine_iff.1 hb).1; rw [this, ls] at g; simp at g
    have g : s.length = ρ.shop.shelves.length := by
      rw [← ls]
      have h : ((s.length : Nat) : Int) = ((ρ.now.1.length : Nat) : Int) := by simpa using g
      exact Int.ofNat.inj h
    refine ⟨s.map Int.ofNat, by rw [← nv_ints]; exact hk.sq, by rw [List.length_map]; omega, fun m hm hle => ite2 (fun g2 => qe ?_) (fun g2 => q ?_)⟩
    · have g2 : 9 < m := of_decide_eq_true g2
      cases hb : Rs.isBelow s (ρ.shop.shelves.map fun _ => 9) with
      | false => rfl
      | true =>
        obtain ⟨y, hy, rfl⟩ := List.mem_map.1 hm
        have := (nine_iff.1 hb).2 y hy
        have g2 : (9 : Int) < (y : Int) := g2
        omega
    · refine nine_iff.2 ⟨g, fun y hy => ?_⟩
      have := hle (y : Int) (List.mem_map.2 ⟨y, hy, rfl⟩)
      have g2 : ¬ 9 < m := fun k => g2 (decide_eq_true k)
      omega
theorem Chg.pre {M : List Addr} {x pl : Addr} {H H1 H' : Hp} {ρ : Rs.Round} (h : Chg K M x pl H1 H' ρ) (e : Ex H H1) : Chg K M x pl H H' ρ :=
  ⟨(exRemL e).trans h.1, fun c o a b d k => h.2.1 c o a b d (e _ _ k), fun c o k => h.2.2.1 c o (e _ _ k), h.2.2.2⟩
/-- a change of the round, or an error -/
def spAct (K : PySem.W.Frag) (f : List Nat → Rs.Round → Rs.Res (Rs.Round × Rs.Octets)) : Sp := fun vs H Q E => ∃ (M : List Addr) (x pl k : Addr) (ρ : Rs.Round) (s : List Nat), vs = [.ref x, .ref k] ∧ RoAt K M x pl H ρ ∧ T H k s ∧
  (∀ ρ' o, f s ρ = .ok (ρ', o) → ∀ H', Chg K M x pl H H' ρ' → Q .non H') ∧ (∀ e, f s ρ = .bad e → Out K (xRef K) H e E)
theorem k_fill (z : Z K mg) : Kp P w K mg base (L2.CX P w) 5 (He.ma K (He.ga K "Round") "fill") ["self", "items"] (spAct K Rs.fillIn) := by
  have nd := sc_Round_fill.nd
  refine kpX (f_Round_fill z) sc_Round_fill (fun vs H Q E h => ?_) fun cdv A outer s H vs Q E hr h => ⟨_,
    (pss_cons (ps_expr ((Kp.meth ((k_check z)) ((cl_Round z)) ((me_Round_check_items z)) (Room.mono hr (by decide)) (passX (takes_of rfl rfl rfl rfl)) ((pv 0)) ((pa_cons (pv 1) pa_nil))))) (pss_cons (ps_if (pt_val (pe_fld (pv 0) rfl)) (pss_one ((raise0 (x := "ShopIsOpen") z (by decide) ((k_eShopIsOpen z)) rfl (takes_of rfl rfl rfl rfl) (Room.mono hr (by decide)) (by rfl) ((g_ShopIsOpen z))))) pss_nil) (pss_cons (ps_if (pt_cmpR (op_notInD (hu65 hr)) (pv 1) ((Kp.call ((k_fillings z)) (Room.mono (hr) (by decide)) (by rfl) ((g_fillings_of z)) pass0 ((pa_cons (pe_fld (pv 0) rfl) (pa_cons (pe_fld (pv 0) rfl) pa_nil))))) (by rfl)) (pss_one ((raise0 (x := "NoFilling") z (by decide) ((k_eNoFilling z)) rfl (takes_of rfl rfl rfl rfl) (Room.mono hr (by decide)) (by rfl) ((g_NoFilling z))))) pss_nil) (pss_one (ps_expr ((Kp.meth ((k_step z)) ((cl_Round z)) ((me_Round_step z)) (Room.mono hr (by decide)) (passX (takes_of rfl rfl rfl rfl)) ((pv 0)) ((pa_cons ((Kp.call ((k_added z)) (Room.mono (hr) (by decide)) (by rfl) ((g_added z)) pass0 ((pa_cons (pe_fld (pv 0) rfl) (pa_cons (pv 1) pa_nil))))) pa_nil))))))))), ?_⟩
  · obtain ⟨_, _, _, _, _, _, rfl, _⟩ := h; rfl
  · obtain ⟨M, x, pl, k, ρ, s, rfl, hR, hk, q, qe⟩ := h
    have hR0 := hR
    obtain ⟨⟨dx, sa, ka, hx, hs, hka⟩, _, mx, mp, ne, st, al, l30, hmk⟩ := hR
    have ok := hs.1
    have hS := st _ (List.mem_cons_self ..)
    have lsh : (oFs sa ka ρ.now.2 pl).lookup ("shop" : Str) = some (.ref sa) := rfl
    have lk : (oFs sa ka ρ.now.2 pl).lookup ("stock" : Str) = some (.ref ka) := rfl
    have lse : (oFs sa ka ρ.now.2 pl).lookup ("selling" : Str) = some (.bl ρ.now.2) := rfl
    have hsH : ShopAt (SH K) H sa ρ.shop := mShop _ _ _ _ exRemS hs
    have hkaH : T H ka ρ.now.1 := hka.ex exRemS
    have fi : Rs.fillIn s ρ = if Rs.isBelow s (ρ.shop.shelves.map fun _ => 9) = false then .bad [5] else if ρ.now.2 = true then .bad [8] else if (Rs.fillings ρ.shop ρ.now.1).contains s = false then .bad [9] else if ρ.past.length < 30 then .ok (Rs.moved ρ (Rs.plus ρ.now.1 s, true), []) else .bad [10] := by
      unfold Rs.fillIn Rs.itemsFor Rs.going Rs.isOpen Rs.stockNow Rs.need Rs.mostItems Rs.mostSteps Rs.eItems Rs.eOpen Rs.eFilling Rs.eSteps
      cases Rs.isBelow s (ρ.shop.shelves.map fun _ => 9) with
      | false => rfl
      | true =>
        cases ρ.now.2 with
        | true => rfl
        | false =>
          show Rs.andThen (if (Rs.fillings ρ.shop ρ.now.1).contains s = true then Rs.Res.ok () else .bad [9]) (fun _ => Rs.andThen (if decide (ρ.past.length < 30) = true then Rs.Res.ok () else .bad [10]) fun _ => Rs.Res.ok (Rs.moved ρ (Rs.plus ρ.now.1 s, true), [])) = _
          cases (Rs.fillings ρ.shop ρ.now.1).contains s with
          | false => rfl
          | true =>
            by_cases hl : ρ.past.length < 30
            · rw [decide_eq_true hl, if_pos hl]; rfl
            · rw [decide_eq_false hl, if_neg hl]; rfl
    refine ⟨_, rfl, x, dx, _, rfl, hx, rfl, _, rfl, M, x, pl, k, ρ, s, rfl, hR0, hk, ok.n1, fun hb => ?_, fun hb => qe [5] (by rw [fi, if_pos hb])⟩
    simp only [hx, lsh, lk, lse, cl_Round z, na_Round_shop z, na_Round_stock z, na_Round_selling z, Option.some.injEq, HO.ins.injEq, tNil, tCons, tC, tDrop, tOp, rI0, tCB, rEq, rNe, tNext, tRet, tRetN, tSeq, tAsg, tAug, tTest, tIfS, tIf, tNot, tAnd, tOr, tBM, tBM0, tCall, tTup, tTupZ, tLst, tFld, sFld, tMeth, tMake, tB, tYes, tCmp, t2I, tIsN, tNotN, tDGet, tDGet1, tDGet2, tDIn, tDNotIn, tAndV, tOrV, tNotV, tDNewT, sDPut, tSl, tPart, tNoPart, rSlL, tThen, tCntZ, tFgt, tChain, gCons, gNil, gTup, rCatZ, rCatA, rCat, rAppend, rExtend, rIn, rInD, rNotInD, rEqD, rNeD, rIxL, rIxT, tSub, tAdd, tBreak, tCont, tPar, rSum, rSumT, rMaxT, tyV, L2.start, List.map_cons, List.map_nil, List.length_cons, List.length_nil, List.cons_append, List.nil_append, List.append_nil, List.replicate, Nat.reduceAdd, Nat.reduceSub, wipe, List.set_cons_zero, List.set_cons_succ, nox_K, cxOf_K, blk_K, suite_K, tVar_0, tVar_1, tVar_2, tVar_3, tVar_4, tVar_5, tVar_6, tVar_7, tVar_8, tVar_9, tVar_10, tVar_11, tVar_12, tVar_13, tVar_14, tVar_15, gName_0, gName_1, gName_2, gName_3, gName_4, gName_5, gName_6, gName_7, gName_8, gName_9, gName_10, gName_11, gName_12, gName_13, gName_14, gName_15, and_assoc, exists_eq_left', exists_eq_left, exists_eq, exists_eq', exists_and_left, exists_const, and_true, true_and, V.int.injEq, V.ref.injEq, V.bl.injEq, V.str.injEq, List.cons.injEq, and_self, scal, Bool.false_eq_true, if_false, if_true, reduceCtorEq, false_and, and_false, false_or, or_false, ↓reduceIte]
    rw [if_neg (by rw [hb]; decide)] at fi
    refine ite2 (fun g => qe [8] (by rw [fi, if_pos g])) (fun g => ?_)
    rw [if_neg g] at fi
    refine ⟨sa, ka, ρ.shop, ρ.now.1, rfl, hsH, hkaH, RsP.isBelow_iff.2 hS, fun fl H1 e1 ⟨as, hfl⟩ => ?_⟩
    refine ⟨dt s, (hk.ex e1).dp, (Rs.fillings ρ.shop ρ.now.1).map dt, .lst (LA.sq hfl) (dp_lists (R := T) (f := dt) (fun a l h => T.dp h) hfl.2), shaped_dt s, shaped_list dt_can dt_dep _, ?_⟩
    rw [any_eqv eqv_dt]
    cases hc : (Rs.fillings ρ.shop ρ.now.1).contains s with
    | false =>
      refine ifT (by decide) ?_
      exact (qe [9] (by rw [fi, if_pos hc])).mono e1
    | true =>
      refine ifF (by decide) ?_
      rw [if_neg (by rw [hc]; decide)] at fi
      have hmem : s ∈ Rs.fillings ρ.shop ρ.now.1 := by rw [List.contains_eq_mem] at hc; exact of_decide_eq_true hc
      have hF := (RsP.mem_fillings hS).1 hmem
      simp only [e1 _ _ hx, lk, cl_Round z, na_Round_stock z, Option.some.injEq, HO.ins.injEq, tNil, tCons, tC, tDrop, tOp, rI0, tCB, rEq, rNe, tNext, tRet, tRetN, tSeq, tAsg, tAug, tTest, tIfS, tIf, tNot, tAnd, tOr, tBM, tBM0, tCall, tTup, tTupZ, tLst, tFld, sFld, tMeth, tMake, tB, tYes, tCmp, t2I, tIsN, tNotN, tDGet, tDGet1, tDGet2, tDIn, tDNotIn, tAndV, tOrV, tNotV, tDNewT, sDPut, tSl, tPart, tNoPart, rSlL, tThen, tCntZ, tFgt, tChain, gCons, gNil, gTup, rCatZ, rCatA, rCat, rAppend, rExtend, rIn, rInD, rNotInD, rEqD, rNeD, rIxL, rIxT, tSub, tAdd, tBreak, tCont, tPar, rSum, rSumT, rMaxT, tyV, L2.start, List.map_cons, List.map_nil, List.length_cons, List.length_nil, List.cons_append, List.nil_append, List.append_nil, List.replicate, Nat.reduceAdd, Nat.reduceSub, wipe, List.set_cons_zero, List.set_cons_succ, nox_K, cxOf_K, blk_K, suite_K, tVar_0, tVar_1, tVar_2, tVar_3, tVar_4, tVar_5, tVar_6, tVar_7, tVar_8, tVar_9, tVar_10, tVar_11, tVar_12, tVar_13, tVar_14, tVar_15, gName_0, gName_1, gName_2, gName_3, gName_4, gName_5, gName_6, gName_7, gName_8, gName_9, gName_10, gName_11, gName_12, gName_13, gName_14, gName_15, and_assoc, exists_eq_left', exists_eq_left, exists_eq, exists_eq', exists_and_left, exists_const, and_true, true_and, V.int.injEq, V.ref.injEq, V.bl.injEq, V.str.injEq, List.cons.injEq, and_self, scal, Bool.false_eq_true, if_false, if_true, reduceCtorEq, false_and, and_false, false_or, or_false, ↓reduceIte]
      refine ⟨rfl, ka, k, ρ.now.1, s, rfl, hkaH.ex e1, hk.ex e1, hF.1.symm, stock3 ok hS, fun k2 H2 e2 hk2 => ?_⟩
      have e12 := e1.trans e2
      have now1 : ρ.now.2 = false := by simpa using g
      refine ⟨M, x, pl, k2, ρ, _, rfl, hR0.mv e12, (hR0.mv e12).tup hk2, RsP.filled_stock hF, fun lt H' ch => ?_, fun e30 => (qe [10] ?_).mono e12⟩
      · rw [if_pos lt] at fi
        have ch := ch.pre e12
        rw [now1] at ch
        exact q _ _ fi H' ch
      · rw [fi, if_neg (by omega)]
theorem k_sell (z : Z K mg) : Kp P w K mg base (L2.CX P w) 5 (He.ma K (He.ga K "Round") "sell") ["self", "items"] (spAct K Rs.sellIn) := by
  have nd := sc_Round_sell.nd
  refine kpX (f_Round_sell z) sc_Round_sell (fun vs H Q E h => ?_) fun cdv A outer s H vs Q E hr h => ⟨_,
    (pss_cons (ps_expr ((Kp.meth ((k_check z)) ((cl_Round z)) ((me_Round_check_items z)) (Room.mono hr (by decide)) (passX (takes_of rfl rfl rfl rfl)) ((pv 0)) ((pa_cons (pv 1) pa_nil))))) (pss_cons (ps_if (pt_not (pt_val (pe_fld (pv 0) rfl))) (pss_one ((raise0 (x := "ShopIsClosed") z (by decide) ((k_eShopIsClosed z)) rfl (takes_of rfl rfl rfl rfl) (Room.mono hr (by decide)) (by rfl) ((g_ShopIsClosed z))))) pss_nil) (pss_cons (ps_if (pt_cmpR (op_notInD (hu65 hr)) (pv 1) ((Kp.call ((k_takings z)) (Room.mono (hr) (by decide)) (by rfl) ((g_takings_of z)) pass0 ((pa_cons (pe_fld (pv 0) rfl) pa_nil)))) (by rfl)) (pss_one ((raise0 (x := "NoTaking") z (by decide) ((k_eNoTaking z)) rfl (takes_of rfl rfl rfl rfl) (Room.mono hr (by decide)) (by rfl) ((g_NoTaking z))))) pss_nil) (pss_cons (ps_if (pt_not (pt_val ((Kp.call ((k_is_below z)) (Room.mono (hr) (by decide)) (by rfl) ((g_is_below z)) pass0 ((pa_cons (pv 1) (pa_cons (pe_fld (pv 0) rfl) pa_nil))))))) (pss_one ((raise0 (x := "ShelfFoundEmpty") z (by decide) ((k_eShelfFoundEmpty z)) rfl (takes_of rfl rfl rfl rfl) (Room.mono hr (by decide)) (by rfl) ((g_ShelfFoundEmpty z))))) pss_nil) (pss_one (ps_expr ((Kp.meth ((k_step z)) ((cl_Round z)) ((me_Round_step z)) (Room.mono hr (by decide)) (passX (takes_of rfl rfl rfl rfl)) ((pv 0)) ((pa_cons ((Kp.call ((k_taken z)) (Room.mono (hr) (by decide)) (by rfl) ((g_taken z)) pass0 ((pa_cons (pe_fld (pv 0) rfl) (pa_cons (pv 1) pa_nil))))) pa_nil)))))))))), ?_⟩
  · obtain ⟨_, _, _, _, _, _, rfl, _⟩ := h; rfl
  · obtain ⟨M, x, pl, k, ρ, s, rfl, hR, hk, q, qe⟩ := h
    have hR0 := hR
    obtain ⟨⟨dx, sa, ka, hx, hs, hka⟩, _, mx, mp, ne, st, al, l30, hmk⟩ := hR
    have ok := hs.1
    have hS := st _ (List.mem_cons_self ..)
    have lsh : (oFs sa ka ρ.now.2 pl).lookup ("shop" : Str) = some (.ref sa) := rfl
    have lk : (oFs sa ka ρ.now.2 pl).lookup ("stock" : Str) = some (.ref ka) := rfl
    have lse : (oFs sa ka ρ.now.2 pl).lookup ("selling" : Str) = some (.bl ρ.now.2) := rfl
    have hsH : ShopAt (SH K) H sa ρ.shop := mShop _ _ _ _ exRemS hs
    have hkaH : T H ka ρ.now.1 := hka.ex exRemS
    have fi : Rs.sellIn s ρ = if Rs.isBelow s (ρ.shop.shelves.map fun _ => 9) = false then .bad [5] else if ρ.now.2 = false then .bad [11] else if (Rs.takings ρ.shop).contains s = false then .bad [12] else if Rs.isBelow s ρ.now.1 = false then .bad [13] else if ρ.past.length < 30 then .ok (Rs.moved ρ (Rs.minus ρ.now.1 s, false), []) else .bad [10] := by
      unfold Rs.sellIn Rs.itemsFor Rs.going Rs.isOpen Rs.stockNow Rs.need Rs.mostItems Rs.mostSteps Rs.eItems Rs.eClosed Rs.eTaking Rs.eEmpty Rs.eSteps
      cases Rs.isBelow s (ρ.shop.shelves.map fun _ => 9) with
      | false => rfl
      | true =>
        cases ρ.now.2 with
        | false => rfl
        | true =>
          show Rs.andThen (if (Rs.takings ρ.shop).contains s = true then Rs.Res.ok () else .bad [12]) (fun _ => Rs.andThen (if Rs.isBelow s ρ.now.1 = true then Rs.Res.ok () else .bad [13]) fun _ => Rs.andThen (if decide (ρ.past.length < 30) = true then Rs.Res.ok () else .bad [10]) fun _ => Rs.Res.ok (Rs.moved ρ (Rs.minus ρ.now.1 s, false), [])) = _
          cases (Rs.takings ρ.shop).contains s with
          | false => rfl
          | true =>
            cases Rs.isBelow s ρ.now.1 with
            | false => rfl
            | true =>
              by_cases hl : ρ.past.length < 30
              · rw [decide_eq_true hl, if_pos hl]; rfl
              · rw [decide_eq_false hl, if_neg hl]; rfl
    refine ⟨_, rfl, x, dx, _, rfl, hx, rfl, _, rfl, M, x, pl, k, ρ, s, rfl, hR0, hk, ok.n1, fun hb => ?_, fun hb => qe [5] (by rw [fi, if_pos hb])⟩
    simp only [hx, lsh, lk, lse, cl_Round z, na_Round_shop z, na_Round_stock z, na_Round_selling z, Option.some.injEq, HO.ins.injEq, tNil, tCons, tC, tDrop, tOp, rI0, tCB, rEq, rNe, tNext, tRet, tRetN, tSeq, tAsg, tAug, tTest, tIfS, tIf, tNot, tAnd, tOr, tBM, tBM0, tCall, tTup, tTupZ, tLst, tFld, sFld, tMeth, tMake, tB, tYes, tCmp, t2I, tIsN, tNotN, tDGet, tDGet1, tDGet2, tDIn, tDNotIn, tAndV, tOrV, tNotV, tDNewT, sDPut, tSl, tPart, tNoPart, rSlL, tThen, tCntZ, tFgt, tChain, gCons, gNil, gTup, rCatZ, rCatA, rCat, rAppend, rExtend, rIn, rInD, rNotInD, rEqD, rNeD, rIxL, rIxT, tSub, tAdd, tBreak, tCont, tPar, rSum, rSumT, rMaxT, tyV, L2.start, List.map_cons, List.map_nil, List.length_cons, List.length_nil, List.cons_append, List.nil_append, List.append_nil, List.replicate, Nat.reduceAdd, Nat.reduceSub, wipe, List.set_cons_zero, List.set_cons_succ, nox_K, cxOf_K, blk_K, suite_K, tVar_0, tVar_1, tVar_2, tVar_3, tVar_4, tVar_5, tVar_6, tVar_7, tVar_8, tVar_9, tVar_10, tVar_11, tVar_12, tVar_13, tVar_14, tVar_15, gName_0, gName_1, gName_2, gName_3, gName_4, gName_5, gName_6, gName_7, gName_8, gName_9, gName_10, gName_11, gName_12, gName_13, gName_14, gName_15, and_assoc, exists_eq_left', exists_eq_left, exists_eq, exists_eq', exists_and_left, exists_const, and_true, true_and, V.int.injEq, V.ref.injEq, V.bl.injEq, V.str.injEq, List.cons.injEq, and_self, scal, Bool.false_eq_true, if_false, if_true, reduceCtorEq, false_and, and_false, false_or, or_false, ↓reduceIte]
    rw [if_neg (by rw [hb]; decide)] at fi
    refine ite2 (fun g => qe [11] (by rw [fi, if_pos (by simpa using g)])) (fun g => ?_)
    have now1 : ρ.now.2 = true := by simpa using g
    rw [if_neg (by rw [now1]; decide)] at fi
    refine ⟨sa, ρ.shop, rfl, hsH, fun fl H1 e1 ⟨as, hfl⟩ => ?_⟩
    refine ⟨dt s, (hk.ex e1).dp, (Rs.takings ρ.shop).map dt, .lst (LA.sq hfl) (dp_lists (R := T) (f := dt) (fun a l h => T.dp h) hfl.2), shaped_dt s, shaped_list dt_can dt_dep _, ?_⟩
    rw [any_eqv eqv_dt]
    cases hc : (Rs.takings ρ.shop).contains s with
    | false =>
      refine ifT (by decide) ?_
      exact (qe [12] (by rw [fi, if_pos hc])).mono e1
    | true =>
      refine ifF (by decide) ?_
      rw [if_neg (by rw [hc]; decide)] at fi
      have hmem : s ∈ Rs.takings ρ.shop := by rw [List.contains_eq_mem] at hc; exact of_decide_eq_true hc
      have hlen := take_len ok hS hmem
      simp only [e1 _ _ hx, lk, cl_Round z, na_Round_stock z, Option.some.injEq, HO.ins.injEq, tNil, tCons, tC, tDrop, tOp, rI0, tCB, rEq, rNe, tNext, tRet, tRetN, tSeq, tAsg, tAug, tTest, tIfS, tIf, tNot, tAnd, tOr, tBM, tBM0, tCall, tTup, tTupZ, tLst, tFld, sFld, tMeth, tMake, tB, tYes, tCmp, t2I, tIsN, tNotN, tDGet, tDGet1, tDGet2, tDIn, tDNotIn, tAndV, tOrV, tNotV, tDNewT, sDPut, tSl, tPart, tNoPart, rSlL, tThen, tCntZ, tFgt, tChain, gCons, gNil, gTup, rCatZ, rCatA, rCat, rAppend, rExtend, rIn, rInD, rNotInD, rEqD, rNeD, rIxL, rIxT, tSub, tAdd, tBreak, tCont, tPar, rSum, rSumT, rMaxT, tyV, L2.start, List.map_cons, List.map_nil, List.length_cons, List.length_nil, List.cons_append, List.nil_append, List.append_nil, List.replicate, Nat.reduceAdd, Nat.reduceSub, wipe, List.set_cons_zero, List.set_cons_succ, nox_K, cxOf_K, blk_K, suite_K, tVar_0, tVar_1, tVar_2, tVar_3, tVar_4, tVar_5, tVar_6, tVar_7, tVar_8, tVar_9, tVar_10, tVar_11, tVar_12, tVar_13, tVar_14, tVar_15, gName_0, gName_1, gName_2, gName_3, gName_4, gName_5, gName_6, gName_7, gName_8, gName_9, gName_10, gName_11, gName_12, gName_13, gName_14, gName_15, and_assoc, exists_eq_left', exists_eq_left, exists_eq, exists_eq', exists_and_left, exists_const, and_true, true_and, V.int.injEq, V.ref.injEq, V.bl.injEq, V.str.injEq, List.cons.injEq, and_self, scal, Bool.false_eq_true, if_false, if_true, reduceCtorEq, false_and, and_false, false_or, or_false, ↓reduceIte]
      refine ⟨k, ka, s, ρ.now.1, rfl, hk.ex e1, hkaH.ex e1, hlen, fun H2 e2 => ⟨_, rfl, ?_⟩⟩
      have e12 := e1.trans e2
      cases hbe : Rs.isBelow s ρ.now.1 with
      | false =>
        refine ifT (by decide) ?_
        exact (qe [13] (by rw [fi, if_pos hbe])).mono e12
      | true =>
        refine ifF (by decide) ?_
        rw [if_neg (by rw [hbe]; decide)] at fi
        simp only [e12 _ _ hx, lk, cl_Round z, na_Round_stock z, Option.some.injEq, HO.ins.injEq, tNil, tCons, tC, tDrop, tOp, rI0, tCB, rEq, rNe, tNext, tRet, tRetN, tSeq, tAsg, tAug, tTest, tIfS, tIf, tNot, tAnd, tOr, tBM, tBM0, tCall, tTup, tTupZ, tLst, tFld, sFld, tMeth, tMake, tB, tYes, tCmp, t2I, tIsN, tNotN, tDGet, tDGet1, tDGet2, tDIn, tDNotIn, tAndV, tOrV, tNotV, tDNewT, sDPut, tSl, tPart, tNoPart, rSlL, tThen, tCntZ, tFgt, tChain, gCons, gNil, gTup, rCatZ, rCatA, rCat, rAppend, rExtend, rIn, rInD, rNotInD, rEqD, rNeD, rIxL, rIxT, tSub, tAdd, tBreak, tCont, tPar, rSum, rSumT, rMaxT, tyV, L2.start, List.map_cons, List.map_nil, List.length_cons, List.length_nil, List.cons_append, List.nil_append, List.append_nil, List.replicate, Nat.reduceAdd, Nat.reduceSub, wipe, List.set_cons_zero, List.set_cons_succ, nox_K, cxOf_K, blk_K, suite_K, tVar_0, tVar_1, tVar_2, tVar_3, tVar_4, tVar_5, tVar_6, tVar_7, tVar_8, tVar_9, tVar_10, tVar_11, tVar_12, tVar_13, tVar_14, tVar_15, gName_0, gName_1, gName_2, gName_3, gName_4, gName_5, gName_6, gName_7, gName_8, gName_9, gName_10, gName_11, gName_12, gName_13, gName_14, gName_15, and_assoc, exists_eq_left', exists_eq_left, exists_eq, exists_eq', exists_and_left, exists_const, and_true, true_and, V.int.injEq, V.ref.injEq, V.bl.injEq, V.str.injEq, List.cons.injEq, and_self, scal, Bool.false_eq_true, if_false, if_true, reduceCtorEq, false_and, and_false, false_or, or_false, ↓reduceIte]
        refine ⟨rfl, ka, k, ρ.now.1, s, rfl, hkaH.ex e12, hk.ex e12, hbe, stock3 ok hS, fun k2 H3 e3 hk2 => ?_⟩
        have e13 := e12.trans e3
        refine ⟨M, x, pl, k2, ρ, _, rfl, hR0.mv e13, (hR0.mv e13).tup hk2, RsP.left_stock hS (RsP.mem_takings.1 hmem), fun lt H' ch => ?_, fun e30 => (qe [10] ?_).mono e13⟩
        · rw [if_pos lt] at fi
          have ch := ch.pre e13
          rw [now1] at ch
          exact q _ _ fi H' ch
        · rw [fi, if_neg (by omega)]
end
end Fs
set_option Elab.async false
set_option linter.all false
set_option maxRecDepth 100000
set_option maxHeartbeats 4000000
namespace Fs
open PySem PySem.Spec PyProof.Rows L2 FsX
open Evl (Ex Ex.refl Ex.trans Ex.new Ex.mut fresh_back)
theorem paired_unsnoc {α β : Type} {F : α → β → Prop} : ∀ {m : List β} {l : List α} {b : β}, Paired F l (m ++ [b]) → ∃ l' a, l = l' ++ [a] ∧ Paired F l' m ∧ F a b
  | [], _, _, .cons h .nil => ⟨[], _, rfl, .nil, h⟩
  | _ :: m, _, _, .cons h k => by
    obtain ⟨l', a, e, h1, h2⟩ := paired_unsnoc (m := m) k
    exact ⟨_ :: l', a, by rw [e]; rfl, .cons h h1, h2⟩
section
variable {P : Program} {w : World} {K : PySem.W.Frag} {mg : Str → Option Value} {base : Heap}
def spUndo (K : PySem.W.Frag) : Sp := fun vs H Q _ => ∃ (M : List Addr) (x pl : Addr) (ρ : Rs.Round), vs = [.ref x] ∧ RoAt K M x pl H ρ ∧ ∀ H', Chg K M x pl H H' (Rs.undone ρ).1 → Q (.bl (!ρ.past.isEmpty)) H'
theorem k_undo (z : Z K mg) : Kp P w K mg base CX0 1 (He.ma K (He.ga K "Round") "undo") ["self"] (spUndo K) := by
  have nd := sc_Round_undo.nd
  refine kp0 (f_Round_undo z) sc_Round_undo (fun vs H Q E h => ?_) fun cdv A outer s H vs Q E hr h => ⟨_,
    (pss_cons (ps_if (pt_cmpR op_eq ((pe_callB call_len_seq (by rfl) ((b_len z)) PySem.boot_len (pa_cons ((pe_fld (pv 0) rfl)) pa_nil))) pe_int (nomark _)) (pss_one (ps_ret pe_bl)) pss_nil) (pss_cons (ps_fld (pv 0) (pe_bm0 PySem.F.plainAttrs_list PySem.F.slot_list_pop PySem.F.type_list_pop mt_pop (pe_fld (pv 0) rfl)) rfl) (pss_cons (ps_fld (pv 0) (pe_not (pe_fld (pv 0) rfl)) rfl) (pss_one (ps_ret pe_bl))))), ?_⟩
  · obtain ⟨_, _, _, _, rfl, _⟩ := h; rfl
  · obtain ⟨M, x, pl, ρ, rfl, hR, q⟩ := h
    have hR0 := hR
    obtain ⟨⟨dx, sa, ka, hx, hs, hka⟩, ⟨as, hp1, hp2⟩, mx, mp, ne, st, al, l30, hmk⟩ := hR
    have lp : (oFs sa ka ρ.now.2 pl).lookup ("past" : Str) = some (.ref pl) := rfl
    have ll : (as.map V.ref).length = ρ.past.length := by rw [List.length_map, Paired.length hp2, List.length_reverse, List.length_map]
    simp only [hx, lp, cl_Round z, na_Round_past z, Option.some.injEq, HO.ins.injEq, tNil, tCons, tC, tDrop, tOp, rI0, tCB, rEq, rNe, tNext, tRet, tRetN, tSeq, tAsg, tAug, tTest, tIfS, tIf, tNot, tAnd, tOr, tBM, tBM0, tCall, tTup, tTupZ, tLst, tFld, sFld, tMeth, tMake, tB, tYes, tCmp, t2I, tIsN, tNotN, tDGet, tDGet1, tDGet2, tDIn, tDNotIn, tAndV, tOrV, tNotV, tDNewT, sDPut, tSl, tPart, tNoPart, rSlL, tThen, tCntZ, tFgt, tChain, gCons, gNil, gTup, rCatZ, rCatA, rCat, rAppend, rExtend, rIn, rInD, rNotInD, rEqD, rNeD, rIxL, rIxT, tSub, tAdd, tBreak, tCont, tPar, rSum, rSumT, rMaxT, tyV, L2.start, List.map_cons, List.map_nil, List.length_cons, List.length_nil, List.cons_append, List.nil_append, List.append_nil, List.replicate, Nat.reduceAdd, Nat.reduceSub, wipe, List.set_cons_zero, List.set_cons_succ, nox_K, cxOf_K, blk_K, suite_K, tVar_0, tVar_1, tVar_2, tVar_3, tVar_4, tVar_5, tVar_6, tVar_7, tVar_8, tVar_9, tVar_10, tVar_11, tVar_12, tVar_13, tVar_14, tVar_15, gName_0, gName_1, gName_2, gName_3, gName_4, gName_5, gName_6, gName_7, gName_8, gName_9, gName_10, gName_11, gName_12, gName_13, gName_14, gName_15, and_assoc, exists_eq_left', exists_eq_left, exists_eq, exists_eq', exists_and_left, exists_const, and_true, true_and, V.int.injEq, V.ref.injEq, V.bl.injEq, V.str.injEq, List.cons.injEq, and_self, scal, Bool.false_eq_true, if_false, if_true, reduceCtorEq, false_and, and_false, false_or, or_false, ↓reduceIte]
    refine ⟨_, .inl (sq_of hp1), ?_⟩
    rw [ll]
    cases hpa : ρ.past with
    | nil =>
      refine ifT (by decide) ?_
      have e : (Rs.undone ρ).1 = ρ := by unfold Rs.undone; rw [hpa]
      rw [e, hpa] at q
      exact q H ⟨Ex.refl _, fun _ _ _ _ _ h => h, fun c o h => ⟨o, h⟩, hR0⟩
    | cons m ms =>
      refine ifF (by simp only [List.length_cons]; intro h; have := of_decide_eq_true h; injection this with h; omega) ?_
      have e : (Rs.undone ρ).1 = ⟨ρ.shop, m, ms⟩ := by unfold Rs.undone; rw [hpa]
      rw [e, hpa] at q
      rw [hpa] at al st l30
      rw [hpa, List.map_cons, List.reverse_cons] at hp2
      obtain ⟨al1, al2⟩ := al
      obtain ⟨as', k0, rfl, hp3, hk0⟩ := paired_unsnoc hp2
      have rx : pl ≠ x := ne.symm
      refine ⟨.inl ⟨_, sq_of hp1⟩, pl, _, .ref k0, rfl, rfl, hp1, by rw [List.map_append, List.length_append]; simp, ?_⟩
      have dl : ((as' ++ [k0]).map V.ref).dropLast = as'.map V.ref := by rw [List.map_append]; exact List.dropLast_concat
      rw [dl]
      refine ⟨RN K, dx, _, by rw [upd_ne ne]; exact hx, cl_Round z, na_Round_stock z, by show 4 < 1000; decide, ?_⟩
      refine ⟨RN K, dx, _, upd_same, cl_Round z, na_Round_selling z, _, rfl, _, rfl, RN K, dx, _, upd_same, cl_Round z, na_Round_selling z, by show 4 < 1000; decide, ?_⟩
      rw [upd_upd]
      have eR : Ex (remL M H) (remL M (upd (upd H pl (.lst (as'.map V.ref))) x (.ins (RN K) dx (oFs sa k0 (!ρ.now.2) pl)))) := (exRemU mp).trans (exRemU mx)
      refine q _ ⟨eR, fun c o _ c1 c2 hc => by rw [upd_ne c1, upd_ne c2]; exact hc, fun c o hc => ?_, ⟨dx, sa, k0, ?_, mShop _ _ _ _ eR hs, hk0.ex eR⟩, ⟨as', ?_, ?_⟩, mx, mp, ne, fun m' hm' => st m' (List.mem_cons_of_mem _ hm'), al2, ?_, fun c hc => ?_⟩
      · by_cases c1 : c = x
        · subst c1; exact ⟨_, upd_same⟩
        · by_cases c2 : c = pl
          · subst c2; exact ⟨_, by rw [upd_ne c1]; exact upd_same⟩
          · exact ⟨o, by rw [upd_ne c1, upd_ne c2]; exact hc⟩
      · show _ = some (HO.ins (RN K) dx (oFs sa k0 m.2 pl))
        rw [al1]; exact upd_same
      · rw [upd_ne rx]; exact upd_same
      · exact Paired.mapP hp3 fun _ _ h => T.ex h eR
      · show ms.length ≤ 30
        simp only [List.length_cons] at l30; omega
      · by_cases c1 : c = x
        · subst c1; exact ⟨_, upd_same, fun _ z => by cases z⟩
        · by_cases c2 : c = pl
          · subst c2; exact ⟨_, by rw [upd_ne c1]; exact upd_same, fun _ z => by cases z⟩
          · obtain ⟨o, h1, h2⟩ := hmk c hc
            exact ⟨o, by rw [upd_ne c1, upd_ne c2]; exact h1, h2⟩
def spOutlook (K : PySem.W.Frag) : Sp := fun vs H Q _ => ∃ (M : List Addr) (x pl : Addr) (ρ : Rs.Round), vs = [.ref x] ∧ RoAt K M x pl H ρ ∧ ∀ r v H', Ex H H' → H' r = some (.tup [.bl (Rs.isWell ρ), v]) → RO H' v (Rs.hintOf ρ) → Q (.ref r) H'
theorem k_outlook (z : Z K mg) : Kp P w K mg base CX0 6 (He.ma K (He.ga K "Round") "outlook") ["self"] (spOutlook K) := by
  have nd := sc_Round_outlook.nd
  refine kp0 (f_Round_outlook z) sc_Round_outlook (fun vs H Q E h => ?_) fun cdv A outer s H vs Q E hr h => ⟨_,
    (pss_cons ((ps_set (i := 1) nd rfl (by first | exact Or.inl rfl | exact Or.inr rfl) (((Kp.call ((k_dooms z)) (Room.mono (hr) (by decide)) (by rfl) ((g_dooms z)) pass0 ((pa_cons (pe_fld (pv 0) rfl) pa_nil))))))) (pss_cons (ps_if (pt_val (pe_fld (pv 0) rfl)) (pss_one (ps_ret (pe_tup (pa_cons ((Kp.call ((k_holds z)) (Room.mono (hr) (by decide)) (by rfl) ((g_holds z)) pass0 ((pa_cons (pe_fld (pv 0) rfl) (pa_cons (pv 1) (pa_cons (pe_fld (pv 0) rfl) pa_nil)))))) (pa_cons (pe_non) pa_nil))))) pss_nil) (pss_one (ps_ret (pe_tup (pa_cons (pe_cmp (pc_dnotin (hu_of hr) (pe_fld (pv 0) rfl) (pv 1)) rfl) (pa_cons ((Kp.call ((k_first_filling z)) (Room.mono (hr) (by decide)) (by rfl) ((g_first_filling z)) pass0 ((pa_cons (pe_fld (pv 0) rfl) (pa_cons (pv 1) (pa_cons (pe_fld (pv 0) rfl) pa_nil)))))) pa_nil))))))), ?_⟩
  · obtain ⟨_, _, _, _, rfl, _⟩ := h; rfl
  · obtain ⟨M, x, pl, ρ, rfl, hR, q⟩ := h
    obtain ⟨⟨dx, sa, ka, hx, hs, hka⟩, ⟨as, hp1, hp2⟩, mx, mp, ne, st, al, l30, hmk⟩ := hR
    have hS := st _ (List.mem_cons_self ..)
    have lsh : (oFs sa ka ρ.now.2 pl).lookup ("shop" : Str) = some (.ref sa) := rfl
    have lk : (oFs sa ka ρ.now.2 pl).lookup ("stock" : Str) = some (.ref ka) := rfl
    have lse : (oFs sa ka ρ.now.2 pl).lookup ("selling" : Str) = some (.bl ρ.now.2) := rfl
    have hsH : ShopAt (SH K) H sa ρ.shop := mShop _ _ _ _ exRemS hs
    have hkaH : T H ka ρ.now.1 := hka.ex exRemS
    simp only [hx, lsh, cl_Round z, na_Round_shop z, Option.some.injEq, HO.ins.injEq, tNil, tCons, tC, tDrop, tOp, rI0, tCB, rEq, rNe, tNext, tRet, tRetN, tSeq, tAsg, tAug, tTest, tIfS, tIf, tNot, tAnd, tOr, tBM, tBM0, tCall, tTup, tTupZ, tLst, tFld, sFld, tMeth, tMake, tB, tYes, tCmp, t2I, tIsN, tNotN, tDGet, tDGet1, tDGet2, tDIn, tDNotIn, tAndV, tOrV, tNotV, tDNewT, sDPut, tSl, tPart, tNoPart, rSlL, tThen, tCntZ, tFgt, tChain, gCons, gNil, gTup, rCatZ, rCatA, rCat, rAppend, rExtend, rIn, rInD, rNotInD, rEqD, rNeD, rIxL, rIxT, tSub, tAdd, tBreak, tCont, tPar, rSum, rSumT, rMaxT, tyV, L2.start, List.map_cons, List.map_nil, List.length_cons, List.length_nil, List.cons_append, List.nil_append, List.append_nil, List.replicate, Nat.reduceAdd, Nat.reduceSub, wipe, List.set_cons_zero, List.set_cons_succ, nox_K, cxOf_K, blk_K, suite_K, tVar_0, tVar_1, tVar_2, tVar_3, tVar_4, tVar_5, tVar_6, tVar_7, tVar_8, tVar_9, tVar_10, tVar_11, tVar_12, tVar_13, tVar_14, tVar_15, gName_0, gName_1, gName_2, gName_3, gName_4, gName_5, gName_6, gName_7, gName_8, gName_9, gName_10, gName_11, gName_12, gName_13, gName_14, gName_15, and_assoc, exists_eq_left', exists_eq_left, exists_eq, exists_eq', exists_and_left, exists_const, and_true, true_and, V.int.injEq, V.ref.injEq, V.bl.injEq, V.str.injEq, List.cons.injEq, and_self, scal, Bool.false_eq_true, if_false, if_true, reduceCtorEq, false_and, and_false, false_or, or_false, ↓reduceIte]
    refine ⟨sa, ρ.shop, rfl, hsH, fun d H1 e1 hd => ?_⟩
    simp only [e1 _ _ hx, lsh, lk, lse, cl_Round z, na_Round_shop z, na_Round_stock z, na_Round_selling z, Option.some.injEq, HO.ins.injEq, tNil, tCons, tC, tDrop, tOp, rI0, tCB, rEq, rNe, tNext, tRet, tRetN, tSeq, tAsg, tAug, tTest, tIfS, tIf, tNot, tAnd, tOr, tBM, tBM0, tCall, tTup, tTupZ, tLst, tFld, sFld, tMeth, tMake, tB, tYes, tCmp, t2I, tIsN, tNotN, tDGet, tDGet1, tDGet2, tDIn, tDNotIn, tAndV, tOrV, tNotV, tDNewT, sDPut, tSl, tPart, tNoPart, rSlL, tThen, tCntZ, tFgt, tChain, gCons, gNil, gTup, rCatZ, rCatA, rCat, rAppend, rExtend, rIn, rInD, rNotInD, rEqD, rNeD, rIxL, rIxT, tSub, tAdd, tBreak, tCont, tPar, rSum, rSumT, rMaxT, tyV, L2.start, List.map_cons, List.map_nil, List.length_cons, List.length_nil, List.cons_append, List.nil_append, List.append_nil, List.replicate, Nat.reduceAdd, Nat.reduceSub, wipe, List.set_cons_zero, List.set_cons_succ, nox_K, cxOf_K, blk_K, suite_K, tVar_0, tVar_1, tVar_2, tVar_3, tVar_4, tVar_5, tVar_6, tVar_7, tVar_8, tVar_9, tVar_10, tVar_11, tVar_12, tVar_13, tVar_14, tVar_15, gName_0, gName_1, gName_2, gName_3, gName_4, gName_5, gName_6, gName_7, gName_8, gName_9, gName_10, gName_11, gName_12, gName_13, gName_14, gName_15, and_assoc, exists_eq_left', exists_eq_left, exists_eq, exists_eq', exists_and_left, exists_const, and_true, true_and, V.int.injEq, V.ref.injEq, V.bl.injEq, V.str.injEq, List.cons.injEq, and_self, scal, Bool.false_eq_true, if_false, if_true, reduceCtorEq, false_and, and_false, false_or, or_false, ↓reduceIte]
    refine ite2 (fun g => ?_) (fun g => ?_)
    · refine ⟨sa, d, ka, ρ.shop, ρ.now.1, rfl, mShop _ _ _ _ e1 hsH, hd, hkaH.ex e1, hS, fun H2 e2 => ⟨by show 2 ≤ sizeLine; decide, fun r hr' => ?_⟩⟩
      refine q r .non _ ((e1.trans e2).trans (Ex.new hr')) ?_ (.inl ⟨?_, rfl⟩)
      · rw [upd_same]
        unfold Rs.isWell Rs.isOpen Rs.stockNow
        rw [if_pos g]
      · unfold Rs.hintOf Rs.isOpen
        rw [if_pos g]
    · obtain ⟨kD, hd1, hgot⟩ := hd
      refine ⟨_, dget (.inl hd1) (hkaH.ex e1), sa, d, ka, ρ.shop, ρ.now.1, rfl, mShop _ _ _ _ e1 hsH, ⟨kD, hd1, hgot⟩, hkaH.ex e1, hS, fun v H2 e2 hv => ⟨by show 2 ≤ sizeLine; decide, fun r hr' => ?_⟩⟩
      have hm : (got kD ρ.now.1).isSome = !(Rs.safeStocks ρ.shop).contains ρ.now.1 := da_mk hgot hS
      refine q r v _ ((e1.trans e2).trans (Ex.new hr')) ?_ ?_
      · rw [upd_same, hm, Bool.not_not]
        unfold Rs.isWell Rs.isOpen Rs.stockNow Rs.isSafe
        rw [if_neg g]
      · unfold Rs.hintOf Rs.isOpen Rs.stockNow
        rw [if_neg g]
        rcases hv with h | ⟨l, s, h1, h2, h3⟩
        · exact .inl h
        · exact .inr ⟨l, s, h1, h2, h3.ex (Ex.new hr')⟩
end
end Fs
set_option Elab.async false
set_option linter.all false
set_option maxRecDepth 100000
set_option maxHeartbeats 4000000
namespace Fs
open PySem PySem.Spec PyProof.Rows L2 FsX
open Evl (Ex Ex.refl Ex.trans Ex.new Ex.mut fresh_back)
theorem eq_int {n m : Nat} {A B : Prop} (hA : n = m → A) (hB : ¬ n = m → B) : if decide ((n : Int) = (m : Int)) = true then A else B :=
  ite2 (fun g => hA (Int.ofNat.inj (of_decide_eq_true g))) (fun g => hB fun e => g (by rw [e]; exact decide_eq_true rfl))
section
variable {P : Program} {w : World} {K : PySem.W.Frag} {mg : Str → Option Value} {base : Heap}
theorem Ans.mono {H H1 : Hp} {Q : VK} {o : List Nat} (h : Ans H Q o) (e : Ex H H1) : Ans H1 Q o := fun r H' e' fr hr => h r H' (e.trans e') (fresh_back e fr) hr
def aosOf (n : Nat) (p : Rs.Shop) (s : List Nat) : List Nat := if n = 2 then (if Rs.isSafe p s then [1] else [0]) else if n = 3 then maybeRow (Rs.fillingOf p s) else if n = 4 then maybeU16 (Rs.doomOf p s) else maybeRow (Rs.attackOf p s)
def spAos (K : PySem.W.Frag) : Sp := fun vs H Q E => ∃ (n : Nat) (sa ka : Addr) (p : Rs.Shop) (s : List Nat), vs = [.int n, .ref sa, .ref ka] ∧ ShopAt (SH K) H sa p ∧ T H ka s ∧
  (FsLaw.IsStock p s → Ans H Q (aosOf n p s)) ∧ (¬ FsLaw.IsStock p s → Out K (xRef K) H [4] E)
theorem filling_len {p : Rs.Shop} (ok : Ok p) {s : List Nat} (hS : FsLaw.IsStock p s) : ∀ f, Rs.fillingOf p s = some f → f.length ≤ 1000 := fun f h => by
  have := (RsP.filling_some hS h).1.1
  have := stock3 ok hS
  omega
theorem attack_len {p : Rs.Shop} (ok : Ok p) {s : List Nat} (hS : FsLaw.IsStock p s) : ∀ f, Rs.attackOf p s = some f → f.length ≤ 1000 := fun f h => by
  have := (RsP.attack_some hS h).1.1
  have := ok.n3
  omega
theorem k_aos (z : Z K mg) : Kp P w K mg base (L2.CX P w) 6 (He.ga K "answer_of_stock") ["number", "shop", "stock"] (spAos K) := by
  have nd := sc_answer_of_stock.nd
  obtain ⟨t2, h2⟩ := c_SAFE z
  obtain ⟨t3, h3⟩ := c_FILLING z
  obtain ⟨t4, h4⟩ := c_DOOM z
  refine kpX (f_answer_of_stock z) sc_answer_of_stock (fun vs H Q E h => ?_) fun cdv A outer s H vs Q E hr h => ⟨_,
    (pss_cons (ps_if (pt_cmpR (op_notInD (hu65 hr)) (pv 2) ((Kp.call ((k_stocks z)) (Room.mono (hr) (by decide)) (by rfl) ((g_stocks_of z)) pass0 ((pa_cons (pv 1) pa_nil)))) (by rfl)) (pss_one ((raise0 (x := "NoStock") z (by decide) ((k_eNoStock z)) rfl (takes_of rfl rfl rfl rfl) (Room.mono hr (by decide)) (by rfl) ((g_NoStock z))))) pss_nil) (pss_cons ((ps_set (i := 3) nd rfl (by first | exact Or.inl rfl | exact Or.inr rfl) (((Kp.call ((k_dooms z)) (Room.mono (hr) (by decide)) (by rfl) ((g_dooms z)) pass0 ((pa_cons (pv 1) pa_nil))))))) (pss_cons (ps_if (pt_cmpR op_eq (pv 0) (pe_glob (v := .int 2) (by rfl) h2 ⟨_, rfl⟩) (nomark _)) (pss_one (ps_ret ((Kp.call ((k_flag z)) (Room.mono (hr) (by decide)) (by rfl) ((g_write_flag z)) pass0 ((pa_cons (pe_cmp (pc_dnotin (hu_of hr) (pv 2) (pv 3)) rfl) pa_nil)))))) pss_nil) (pss_cons (ps_if (pt_cmpR op_eq (pv 0) (pe_glob (v := .int 3) (by rfl) h3 ⟨_, rfl⟩) (nomark _)) (pss_one (ps_ret ((Kp.call ((k_mrow z)) (Room.mono (hr) (by decide)) (by rfl) ((g_write_maybe_row z)) pass0 ((pa_cons ((Kp.call ((k_first_filling z)) (Room.mono (hr) (by decide)) (by rfl) ((g_first_filling z)) pass0 ((pa_cons (pv 1) (pa_cons (pv 3) (pa_cons (pv 2) pa_nil)))))) pa_nil)))))) pss_nil) (pss_cons (ps_if (pt_cmpR op_eq (pv 0) (pe_glob (v := .int 4) (by rfl) h4 ⟨_, rfl⟩) (nomark _)) (pss_one (ps_ret ((Kp.call ((k_mu16 z)) (Room.mono (hr) (by decide)) (by rfl) ((g_write_maybe_u16 z)) pass0 ((pa_cons (pe_dget1 (hu_of hr) (pv 3) (pv 2) ⟨rfl, rfl, rfl, rfl⟩) pa_nil)))))) pss_nil) (pss_one (ps_ret ((Kp.call ((k_mrow z)) (Room.mono (hr) (by decide)) (by rfl) ((g_write_maybe_row z)) pass0 ((pa_cons ((Kp.call ((k_attack z)) (Room.mono (hr) (by decide)) (by rfl) ((g_first_attack z)) pass0 ((pa_cons (pv 1) (pa_cons (pv 3) (pa_cons (pv 2) pa_nil)))))) pa_nil))))))))))), ?_⟩
  · obtain ⟨_, _, _, _, _, rfl, _⟩ := h; rfl
  · obtain ⟨n, sa, ka, p, s, rfl, hp, hk, q, qe⟩ := h
    have ok := hp.1
    simp only [ tNil, tCons, tC, tDrop, tOp, rI0, tCB, rEq, rNe, tNext, tRet, tRetN, tSeq, tAsg, tAug, tTest, tIfS, tIf, tNot, tAnd, tOr, tBM, tBM0, tCall, tTup, tTupZ, tLst, tFld, sFld, tMeth, tMake, tB, tYes, tCmp, t2I, tIsN, tNotN, tDGet, tDGet1, tDGet2, tDIn, tDNotIn, tAndV, tOrV, tNotV, tDNewT, sDPut, tSl, tPart, tNoPart, rSlL, tThen, tCntZ, tFgt, tChain, gCons, gNil, gTup, rCatZ, rCatA, rCat, rAppend, rExtend, rIn, rInD, rNotInD, rEqD, rNeD, rIxL, rIxT, tSub, tAdd, tBreak, tCont, tPar, rSum, rSumT, rMaxT, tyV, L2.start, List.map_cons, List.map_nil, List.length_cons, List.length_nil, List.cons_append, List.nil_append, List.append_nil, List.replicate, Nat.reduceAdd, Nat.reduceSub, wipe, List.set_cons_zero, List.set_cons_succ, nox_K, cxOf_K, blk_K, suite_K, tVar_0, tVar_1, tVar_2, tVar_3, tVar_4, tVar_5, tVar_6, tVar_7, tVar_8, tVar_9, tVar_10, tVar_11, tVar_12, tVar_13, tVar_14, tVar_15, gName_0, gName_1, gName_2, gName_3, gName_4, gName_5, gName_6, gName_7, gName_8, gName_9, gName_10, gName_11, gName_12, gName_13, gName_14, gName_15, and_assoc, exists_eq_left', exists_eq_left, exists_eq, exists_eq', exists_and_left, exists_const, and_true, true_and, V.int.injEq, V.ref.injEq, V.bl.injEq, V.str.injEq, List.cons.injEq, and_self, scal, Bool.false_eq_true, if_false, if_true, reduceCtorEq, false_and, and_false, false_or, or_false, ↓reduceIte]
    refine ⟨sa, p, rfl, hp, fun r H1 e1 ⟨as, hr1⟩ => ?_⟩
    refine ⟨dt s, (hk.ex e1).dp, (Rs.stocksOf p).map dt, .lst (LA.sq hr1) (dp_lists (R := T) (f := dt) (fun a l h => T.dp h) hr1.2), shaped_dt s, shaped_list dt_can dt_dep _, ?_⟩
    rw [any_eqv eqv_dt]
    by_cases hS : FsLaw.IsStock p s
    rotate_left
    · refine ifT ?_ ((qe hS).mono e1)
      rw [List.contains_eq_mem, decide_eq_false fun h => hS (RsP.mem_stocks.1 h)]; rfl
    refine ifF ?_ ?_
    · rw [List.contains_eq_mem, decide_eq_true (RsP.mem_stocks.2 hS)]; decide
    have q := q hS
    refine ⟨sa, p, rfl, mShop _ _ _ _ e1 hp, fun d H2 e2 hd => ?_⟩
    have e12 := e1.trans e2
    have hd0 := hd
    obtain ⟨kD, hd1, hgot⟩ := hd
    have hm : (got kD s).isSome = !(Rs.safeStocks p).contains s := da_mk hgot hS
    unfold aosOf at q
    simp only [ tNil, tCons, tC, tDrop, tOp, rI0, tCB, rEq, rNe, tNext, tRet, tRetN, tSeq, tAsg, tAug, tTest, tIfS, tIf, tNot, tAnd, tOr, tBM, tBM0, tCall, tTup, tTupZ, tLst, tFld, sFld, tMeth, tMake, tB, tYes, tCmp, t2I, tIsN, tNotN, tDGet, tDGet1, tDGet2, tDIn, tDNotIn, tAndV, tOrV, tNotV, tDNewT, sDPut, tSl, tPart, tNoPart, rSlL, tThen, tCntZ, tFgt, tChain, gCons, gNil, gTup, rCatZ, rCatA, rCat, rAppend, rExtend, rIn, rInD, rNotInD, rEqD, rNeD, rIxL, rIxT, tSub, tAdd, tBreak, tCont, tPar, rSum, rSumT, rMaxT, tyV, L2.start, List.map_cons, List.map_nil, List.length_cons, List.length_nil, List.cons_append, List.nil_append, List.append_nil, List.replicate, Nat.reduceAdd, Nat.reduceSub, wipe, List.set_cons_zero, List.set_cons_succ, nox_K, cxOf_K, blk_K, suite_K, tVar_0, tVar_1, tVar_2, tVar_3, tVar_4, tVar_5, tVar_6, tVar_7, tVar_8, tVar_9, tVar_10, tVar_11, tVar_12, tVar_13, tVar_14, tVar_15, gName_0, gName_1, gName_2, gName_3, gName_4, gName_5, gName_6, gName_7, gName_8, gName_9, gName_10, gName_11, gName_12, gName_13, gName_14, gName_15, and_assoc, exists_eq_left', exists_eq_left, exists_eq, exists_eq', exists_and_left, exists_const, and_true, true_and, V.int.injEq, V.ref.injEq, V.bl.injEq, V.str.injEq, List.cons.injEq, and_self, scal, Bool.false_eq_true, if_false, if_true, reduceCtorEq, false_and, and_false, false_or, or_false, ↓reduceIte]
    refine eq_int (m := 2) (fun g => ?_) (fun g => ?_)
    · rw [if_pos g] at q
      refine ⟨_, dget (.inl hd1) (hk.ex e12), _, rfl, ?_⟩
      rw [hm, Bool.not_not]
      exact q.mono e12
    rw [if_neg g] at q
    refine eq_int (m := 3) (fun g => ?_) (fun g => ?_)
    · rw [if_pos g] at q
      exact ⟨sa, d, ka, p, s, rfl, mShop _ _ _ _ e12 hp, hd0, hk.ex e12, hS, fun v H3 e3 hv => ⟨v, _, rfl, hv, filling_len ok hS, q.mono (e12.trans e3)⟩⟩
    rw [if_neg g] at q
    refine eq_int (m := 4) (fun g => ?_) (fun g => ?_)
    · rw [if_pos g] at q
      refine ⟨.inr ⟨kD, .inl hd1⟩, _, dget (.inl hd1) (hk.ex e12), Rs.doomOf p s, ?_, q.mono e12⟩
      rw [hgot s hS]
      cases Rs.doomOf p s <;> rfl
    rw [if_neg g] at q
    exact ⟨sa, d, ka, p, s, rfl, mShop _ _ _ _ e12 hp, hd0, hk.ex e12, hS, fun v H3 e3 hv => ⟨v, _, rfl, hv, attack_len ok hS, q.mono (e12.trans e3)⟩⟩
theorem parting_len {p o : Rs.Shop} (ok : Ok p) : ∀ f, Rs.partingOf p o = some f → f.length ≤ 1000 := fun f h => by
  have := RsP.stock_length (RsP.mem_stocks.1 (List.mem_of_find?_eq_some h))
  have := ok.n3
  omega
/-- what parting answers -/
def partN (t u : List Nat) (p o : Rs.Shop) : List Nat := maybeRow (Rs.partingOf p o)
/-- the shop of a text is read, as it shall be -/
def ShopOf (t : List Nat) (p : Rs.Shop) : Prop := ∃ d c s, shopN t = .ok (d, c, s) ∧ Ok p ∧ namesOf p = d.ns ∧ Rs.roomsOf p = d.rs ∧ p.taken = c.1 ∧ p.ofOne = c.2 ∧ p.items = s.1 ∧ p.onto = s.2
theorem shop_same {t : List Nat} {p : Rs.Shop} (h : ShopOf t p) {d : DN} {c s : Nat × Nat} (e : shopN t = .ok (d, c, s)) : Ok p ∧ namesOf p = d.ns ∧ Rs.roomsOf p = d.rs ∧ p.taken = c.1 ∧ p.ofOne = c.2 ∧ p.items = s.1 ∧ p.onto = s.2 := by
  obtain ⟨d', c', s', h1, h2⟩ := h
  rw [h1] at e
  cases e
  exact h2
theorem no_err {t : List Nat} {p : Rs.Shop} (h : ShopOf t p) {A : List Nat → Prop} : ∀ e, shopN t = .error e → A e := by
  obtain ⟨d, c, s, h1, _⟩ := h
  intro e he
  rw [h1] at he; cases he
/-- a text has a shop, or an error -/
def TextRes (t : List Nat) (x : Except (List Nat) Rs.Shop) : Prop := match x with
  | .ok p => ShopOf t p
  | .error e => shopN t = .error e
def spAop (K : PySem.W.Frag) : Sp := fun vs H Q E => ∃ (a b : Addr) (t u : List Nat) (x y : Except (List Nat) Rs.Shop), vs = [.ref a, .ref b] ∧ L H a t ∧ L H b u ∧ t.length ≤ 100000 ∧ u.length ≤ 100000 ∧ TextRes t x ∧ TextRes u y ∧
  (∀ e, x = .error e → Out K (xRef K) H e E) ∧ (∀ p e, x = .ok p → y = .error e → Out K (xRef K) H e E) ∧ (∀ p o, x = .ok p → y = .ok o → namesOf p = namesOf o ∧ Rs.roomsOf p = Rs.roomsOf o → Ans H Q (maybeRow (Rs.partingOf p o))) ∧
  (∀ p o, x = .ok p → y = .ok o → ¬ (namesOf p = namesOf o ∧ Rs.roomsOf p = Rs.roomsOf o) → Out K (xRef K) H [6] E)
theorem lists_eqv {f : List Nat → PyData} (hf : ∀ a b, PyData.eqv (f a) (f b) = decide (a = b)) : ∀ xs ys : List (List Nat), PyData.eqvAll (xs.map f) (ys.map f) = decide (xs = ys)
  | [], [] => rfl
  | [], _ :: _ => rfl
  | _ :: _, [] => rfl
  | x :: a, y :: b => by
    simp only [List.map_cons, PyData.eqvAll, hf, lists_eqv hf a b]
    rw [Bool.eq_iff_iff]
    simp only [Bool.and_eq_true, decide_eq_true_eq, List.cons.injEq]
theorem eqv_lists (xs ys : List (List Nat)) : PyData.eqv (.list (xs.map dv)) (.list (ys.map dv)) = decide (xs = ys) := by
  simp only [PyData.eqv]
  exact lists_eqv eqv_dv xs ys
theorem LO.dp {H : Hp} {a : Addr} {xs : List (List Nat)} (h : LO L H a xs) : Dp K H (.ref a) (.list (xs.map dv)) := by
  obtain ⟨as, h1, h2⟩ := h
  exact .lst (sq_of h1) (dp_lists (R := L) (f := dv) (fun a l h => L.dp h) h2)
theorem k_aop (z : Z K mg) : Kp P w K mg base (L2.CX P w) 6 (He.ga K "answer_parting") ["text", "other_text"] (spAop K) := by
  have nd := sc_answer_parting.nd
  refine kpX (f_answer_parting z) sc_answer_parting (fun vs H Q E h => ?_) fun cdv A outer s H vs Q E hr h => ⟨_,
    (pss_cons ((ps_set (i := 2) nd rfl (by first | exact Or.inl rfl | exact Or.inr rfl) (((Kp.call ((k_read_shop z)) (Room.mono hr (by decide)) (by rfl) ((g_read_shop z)) (passX (takes_of rfl rfl rfl rfl)) ((pa_cons (pv 0) pa_nil))))))) (pss_cons ((ps_set (i := 3) nd rfl (by first | exact Or.inl rfl | exact Or.inr rfl) (((Kp.call ((k_read_shop z)) (Room.mono hr (by decide)) (by rfl) ((g_read_shop z)) (passX (takes_of rfl rfl rfl rfl)) ((pa_cons (pv 1) pa_nil))))))) (pss_cons (ps_if (PW.pt (pw_or (pt_cmpR (op_neD hr.units) (pe_fld (pv 2) rfl) (pe_fld (pv 3) rfl) (nomark _)) (pw_or1 (pt_cmpR (op_neD hr.units) (pe_fld (pv 2) rfl) (pe_fld (pv 3) rfl) (nomark _))))) (pss_one ((raise0 (x := "OtherShelves") z (by decide) ((k_eOtherShelves z)) rfl (takes_of rfl rfl rfl rfl) (Room.mono hr (by decide)) (by rfl) ((g_OtherShelves z))))) pss_nil) (pss_one (ps_ret ((Kp.call ((k_mrow z)) (Room.mono (hr) (by decide)) (by rfl) ((g_write_maybe_row z)) pass0 ((pa_cons ((Kp.call ((k_parting z)) (Room.mono (hr) (by decide)) (by rfl) ((g_first_parting z)) pass0 ((pa_cons (pv 2) (pa_cons (pv 3) pa_nil))))) pa_nil))))))))), ?_⟩
  · obtain ⟨_, _, _, _, _, _, rfl, _⟩ := h; rfl
  · obtain ⟨a, b, t, u, x, y, rfl, ha, hb, hl1, hl2, hx, hy, e1, e2, q, e3⟩ := h
    simp only [ tNil, tCons, tC, tDrop, tOp, rI0, tCB, rEq, rNe, tNext, tRet, tRetN, tSeq, tAsg, tAug, tTest, tIfS, tIf, tNot, tAnd, tOr, tBM, tBM0, tCall, tTup, tTupZ, tLst, tFld, sFld, tMeth, tMake, tB, tYes, tCmp, t2I, tIsN, tNotN, tDGet, tDGet1, tDGet2, tDIn, tDNotIn, tAndV, tOrV, tNotV, tDNewT, sDPut, tSl, tPart, tNoPart, rSlL, tThen, tCntZ, tFgt, tChain, gCons, gNil, gTup, rCatZ, rCatA, rCat, rAppend, rExtend, rIn, rInD, rNotInD, rEqD, rNeD, rIxL, rIxT, tSub, tAdd, tBreak, tCont, tPar, rSum, rSumT, rMaxT, tyV, L2.start, List.map_cons, List.map_nil, List.length_cons, List.length_nil, List.cons_append, List.nil_append, List.append_nil, List.replicate, Nat.reduceAdd, Nat.reduceSub, wipe, List.set_cons_zero, List.set_cons_succ, nox_K, cxOf_K, blk_K, suite_K, tVar_0, tVar_1, tVar_2, tVar_3, tVar_4, tVar_5, tVar_6, tVar_7, tVar_8, tVar_9, tVar_10, tVar_11, tVar_12, tVar_13, tVar_14, tVar_15, gName_0, gName_1, gName_2, gName_3, gName_4, gName_5, gName_6, gName_7, gName_8, gName_9, gName_10, gName_11, gName_12, gName_13, gName_14, gName_15, and_assoc, exists_eq_left', exists_eq_left, exists_eq, exists_eq', exists_and_left, exists_const, and_true, true_and, V.int.injEq, V.ref.injEq, V.bl.injEq, V.str.injEq, List.cons.injEq, and_self, scal, Bool.false_eq_true, if_false, if_true, reduceCtorEq, false_and, and_false, false_or, or_false, ↓reduceIte]
    cases x with
    | error e =>
      have hx : shopN t = .error e := hx
      refine ⟨a, t, rfl, ha, hl1, fun e' he => ?_, fun d c s hd => ?_⟩
      · rw [hx] at he; cases he; exact e1 e rfl
      · rw [hx] at hd; cases hd
    | ok p =>
      refine ⟨a, t, rfl, ha, hl1, no_err hx, fun d c s hd => ?_⟩
      obtain ⟨s1, s2, s3, s4, s5, s6, s7⟩ := shop_same hx hd
      refine ⟨p, s1, s2, s3, s4, s5, s6, s7, fun r1 H1 x1 h1 => ?_⟩
      have h1 := mShop _ _ _ _ newS_sub h1
      cases y with
      | error e =>
        have hy : shopN u = .error e := hy
        refine ⟨b, u, rfl, hb.ex x1, hl2, fun e' he => ?_, fun d c s hd => ?_⟩
        · rw [hy] at he; cases he; exact (e2 p e rfl rfl).mono x1
        · rw [hy] at hd; cases hd
      | ok o =>
        refine ⟨b, u, rfl, hb.ex x1, hl2, no_err hy, fun d c s hd => ?_⟩
        obtain ⟨o1, o2, o3, o4, o5, o6, o7⟩ := shop_same hy hd
        refine ⟨o, o1, o2, o3, o4, o5, o6, o7, fun r2 H2 x2 h2 => ?_⟩
        have h2 := mShop _ _ _ _ newS_sub h2
        have x12 := x1.trans x2
        have h1' := mShop _ _ _ _ x2 h1
        have h2' := h2
        obtain ⟨ok, dx, fs, n, r, k0, k1, k2, k3, k4, k5, k6, k7, k8⟩ := id h1'
        obtain ⟨ok', dx', fs', n', r', j0, j1, j2, j3, j4, j5, j6, j7, j8⟩ := h2
        simp only [k0, k1, k2, j0, j1, j2, cl_Shop z, na_Shop_names z, na_Shop_rooms z, Option.some.injEq, HO.ins.injEq, tNil, tCons, tC, tDrop, tOp, rI0, tCB, rEq, rNe, tNext, tRet, tRetN, tSeq, tAsg, tAug, tTest, tIfS, tIf, tNot, tAnd, tOr, tBM, tBM0, tCall, tTup, tTupZ, tLst, tFld, sFld, tMeth, tMake, tB, tYes, tCmp, t2I, tIsN, tNotN, tDGet, tDGet1, tDGet2, tDIn, tDNotIn, tAndV, tOrV, tNotV, tDNewT, sDPut, tSl, tPart, tNoPart, rSlL, tThen, tCntZ, tFgt, tChain, gCons, gNil, gTup, rCatZ, rCatA, rCat, rAppend, rExtend, rIn, rInD, rNotInD, rEqD, rNeD, rIxL, rIxT, tSub, tAdd, tBreak, tCont, tPar, rSum, rSumT, rMaxT, tyV, L2.start, List.map_cons, List.map_nil, List.length_cons, List.length_nil, List.cons_append, List.nil_append, List.append_nil, List.replicate, Nat.reduceAdd, Nat.reduceSub, wipe, List.set_cons_zero, List.set_cons_succ, nox_K, cxOf_K, blk_K, suite_K, tVar_0, tVar_1, tVar_2, tVar_3, tVar_4, tVar_5, tVar_6, tVar_7, tVar_8, tVar_9, tVar_10, tVar_11, tVar_12, tVar_13, tVar_14, tVar_15, gName_0, gName_1, gName_2, gName_3, gName_4, gName_5, gName_6, gName_7, gName_8, gName_9, gName_10, gName_11, gName_12, gName_13, gName_14, gName_15, and_assoc, exists_eq_left', exists_eq_left, exists_eq, exists_eq', exists_and_left, exists_const, and_true, true_and, V.int.injEq, V.ref.injEq, V.bl.injEq, V.str.injEq, List.cons.injEq, and_self, scal, Bool.false_eq_true, if_false, if_true, reduceCtorEq, false_and, and_false, false_or, or_false, ↓reduceIte]
        refine ⟨_, k7.dp, _, j7.dp, shaped_list dv_can dv_dep _, shaped_list dv_can dv_dep _, ?_⟩
        rw [eqv_lists]
        refine ite2 (fun g => ?_) (fun g => ?_)
        · exact (e3 p o rfl rfl (fun k => by rw [k.1] at g; simp at g)).mono x12
        have g : namesOf p = namesOf o := by simpa using g
        refine ⟨_, k8.dp, _, j8.dp, shaped_dv _, shaped_dv _, ?_⟩
        rw [eqv_dv]
        refine ite2 (fun g2 => ?_) (fun g2 => ?_)
        · exact (e3 p o rfl rfl (fun k => by rw [k.2] at g2; simp at g2)).mono x12
        have g2 : Rs.roomsOf p = Rs.roomsOf o := by simpa using g2
        exact ⟨r1, r2, p, o, rfl, h1', h2', g2, fun v H3 e3' hv => ⟨v, _, rfl, hv, parting_len ok, (q p o rfl rfl ⟨g, g2⟩).mono (x12.trans e3')⟩⟩
end
end Fs
set_option Elab.async false
namespace RsP
open Rs FsLaw
open Zz33Octets (octetsOf bytesOf start fits)

/-! ### seats -/
theorem round_lt {w : World} {k : Nat} {q : Round} (h : roundAt w k = some q) : k < w.rounds.length := by
  unfold roundAt at h
  rw [List.getD_eq_getElem?_getD] at h
  apply Classical.byContradiction
  intro no
  rw [List.getElem?_eq_none (by omega)] at h
  cases h
theorem round_put {w : World} {k : Nat} {q : Round} (h : k < w.rounds.length) : roundAt (putRound w k q) k = some q := by
  unfold roundAt putRound
  rw [List.getD_eq_getElem?_getD]
  show ((w.rounds.set k (some q))[k]?).getD none = _
  rw [List.getElem?_set_self h]
  rfl
theorem round_put_ne {w : World} {k j : Nat} {q : Round} (h : k ≠ j) : roundAt (putRound w k q) j = roundAt w j := by
  unfold roundAt putRound
  rw [List.getD_eq_getElem?_getD, List.getD_eq_getElem?_getD]
  show ((w.rounds.set k (some q))[j]?).getD none = _
  rw [List.getElem?_set_ne h]
theorem put_length (w : World) (k : Nat) (q : Round) : (putRound w k q).rounds.length = w.rounds.length := by
  unfold putRound
  simp
theorem withRound_ok {w : World} {k : Nat} {f : Round → Res (Round × Octets)} {z : World × Octets} : withRound w k f = .ok z ↔ ∃ q e, roundAt w k = some q ∧ f q = .ok e ∧ z = (putRound w k e.1, e.2) := by
  unfold withRound
  rw [then_ok]
  constructor
  · rintro ⟨q, h, k'⟩
    rw [map_ok] at k'
    obtain ⟨e, he, rfl⟩ := k'
    refine ⟨q, e, ?_, he, rfl⟩
    unfold orError at h
    cases c : roundAt w k with
    | none => rw [c] at h; cases h
    | some q' => rw [c] at h; cases h; rfl
  · rintro ⟨q, e, h, he, rfl⟩
    refine ⟨q, by rw [h]; rfl, ?_⟩
    rw [map_ok]
    exact ⟨e, he, rfl⟩
theorem withRound_bad {w : World} {k : Nat} {f : Round → Res (Round × Octets)} {l : Octets} : withRound w k f = .bad l ↔ (roundAt w k = none ∧ l = [7]) ∨ ∃ q, roundAt w k = some q ∧ f q = .bad l := by
  unfold withRound
  rw [then_bad]
  cases c : roundAt w k with
  | none =>
    constructor
    · rintro (h | ⟨_, h, _⟩)
      · cases h; exact Or.inl ⟨rfl, rfl⟩
      · cases h
    · rintro (⟨_, rfl⟩ | ⟨_, h, _⟩)
      · exact Or.inl rfl
      · cases h
  | some q =>
    constructor
    · rintro (h | ⟨_, h, k'⟩)
      · cases h
      · cases h
        rw [map_bad] at k'
        exact Or.inr ⟨q, rfl, k'⟩
    · rintro (⟨h, _⟩ | ⟨_, h, k'⟩)
      · cases h
      · cases h
        exact Or.inr ⟨q, rfl, by rw [map_bad]; exact k'⟩
theorem fill_ok {f : Stock} {q : Round} {e : Round × Octets} : fillIn f q = .ok e ↔ Below f (q.shop.shelves.map fun _ => 9) ∧ isOpen q = false ∧ f ∈ fillings q.shop (stockNow q) ∧ q.past.length < 30 ∧ e = (moved q (plus (stockNow q) f, true), []) := by
  unfold fillIn
  simp only [then_ok, items_ok, need_ok, going_ok, List.contains_iff_mem, Bool.not_eq_true']
  constructor
  · rintro ⟨_, ⟨a, rfl⟩, _, b, _, c, d, rfl⟩
    exact ⟨a, b, c, d, rfl⟩
  · rintro ⟨a, b, c, d, rfl⟩
    exact ⟨f, ⟨a, rfl⟩, (), b, (), c, d, rfl⟩
theorem sell_ok {f : Stock} {q : Round} {e : Round × Octets} : sellIn f q = .ok e ↔ Below f (q.shop.shelves.map fun _ => 9) ∧ isOpen q = true ∧ f ∈ takings q.shop ∧ isBelow f (stockNow q) = true ∧ q.past.length < 30 ∧ e = (moved q (minus (stockNow q) f, false), []) := by
  unfold sellIn
  simp only [then_ok, items_ok, need_ok, going_ok, List.contains_iff_mem]
  constructor
  · rintro ⟨_, ⟨a, rfl⟩, _, b, _, c, _, d, g, rfl⟩
    exact ⟨a, b, c, d, g, rfl⟩
  · rintro ⟨a, b, c, d, g, rfl⟩
    exact ⟨f, ⟨a, rfl⟩, (), b, (), c, (), d, g, rfl⟩
theorem fill_bad {f : Stock} {q : Round} {l : Octets} : fillIn f q = .bad l ↔ (¬ Below f (q.shop.shelves.map fun _ => 9) ∧ l = [5]) ∨ (Below f (q.shop.shelves.map fun _ => 9) ∧ ((isOpen q = true ∧ l = [8]) ∨ (isOpen q = false ∧ ((f ∉ fillings q.shop (stockNow q) ∧ l = [9]) ∨ (f ∈ fillings q.shop (stockNow q) ∧ 30 ≤ q.past.length ∧ l = [10]))))) := by
  unfold fillIn
  simp only [then_bad, items_bad, items_ok, need_bad, need_ok, going_bad, Bool.not_eq_true', Bool.not_eq_false', List.contains_iff_mem, ← Bool.not_eq_true (List.contains _ _)]
  constructor
  · rintro (a | ⟨_, ⟨a, rfl⟩, (⟨b, rfl⟩ | ⟨_, b, (⟨c, rfl⟩ | ⟨_, c, d, rfl⟩)⟩)⟩)
    · exact Or.inl a
    · exact Or.inr ⟨a, Or.inl ⟨b, rfl⟩⟩
    · exact Or.inr ⟨a, Or.inr ⟨b, Or.inl ⟨c, rfl⟩⟩⟩
    · exact Or.inr ⟨a, Or.inr ⟨b, Or.inr ⟨c, d, rfl⟩⟩⟩
  · rintro (a | ⟨a, (⟨b, rfl⟩ | ⟨b, (⟨c, rfl⟩ | ⟨c, d, rfl⟩)⟩)⟩)
    · exact Or.inl a
    · exact Or.inr ⟨f, ⟨a, rfl⟩, Or.inl ⟨b, rfl⟩⟩
    · exact Or.inr ⟨f, ⟨a, rfl⟩, Or.inr ⟨(), b, Or.inl ⟨c, rfl⟩⟩⟩
    · exact Or.inr ⟨f, ⟨a, rfl⟩, Or.inr ⟨(), b, Or.inr ⟨(), c, d, rfl⟩⟩⟩
theorem sell_bad {f : Stock} {q : Round} {l : Octets} : sellIn f q = .bad l ↔ (¬ Below f (q.shop.shelves.map fun _ => 9) ∧ l = [5]) ∨ (Below f (q.shop.shelves.map fun _ => 9) ∧ ((isOpen q = false ∧ l = [11]) ∨ (isOpen q = true ∧ ((f ∉ takings q.shop ∧ l = [12]) ∨ (f ∈ takings q.shop ∧ ((isBelow f (stockNow q) = false ∧ l = [13]) ∨ (isBelow f (stockNow q) = true ∧ 30 ≤ q.past.length ∧ l = [10]))))))) := by
  unfold sellIn
  simp only [then_bad, items_bad, items_ok, need_bad, need_ok, going_bad, List.contains_iff_mem, ← Bool.not_eq_true (List.contains _ _)]
  constructor
  · rintro (a | ⟨_, ⟨a, rfl⟩, (⟨b, rfl⟩ | ⟨_, b, (⟨c, rfl⟩ | ⟨_, c, (⟨d, rfl⟩ | ⟨_, d, e, rfl⟩)⟩)⟩)⟩)
    · exact Or.inl a
    · exact Or.inr ⟨a, Or.inl ⟨b, rfl⟩⟩
    · exact Or.inr ⟨a, Or.inr ⟨b, Or.inl ⟨c, rfl⟩⟩⟩
    · exact Or.inr ⟨a, Or.inr ⟨b, Or.inr ⟨c, Or.inl ⟨d, rfl⟩⟩⟩⟩
    · exact Or.inr ⟨a, Or.inr ⟨b, Or.inr ⟨c, Or.inr ⟨d, e, rfl⟩⟩⟩⟩
  · rintro (a | ⟨a, (⟨b, rfl⟩ | ⟨b, (⟨c, rfl⟩ | ⟨c, (⟨d, rfl⟩ | ⟨d, e, rfl⟩)⟩)⟩)⟩)
    · exact Or.inl a
    · exact Or.inr ⟨f, ⟨a, rfl⟩, Or.inl ⟨b, rfl⟩⟩
    · exact Or.inr ⟨f, ⟨a, rfl⟩, Or.inr ⟨(), b, Or.inl ⟨c, rfl⟩⟩⟩
    · exact Or.inr ⟨f, ⟨a, rfl⟩, Or.inr ⟨(), b, Or.inr ⟨(), c, Or.inl ⟨d, rfl⟩⟩⟩⟩
    · exact Or.inr ⟨f, ⟨a, rfl⟩, Or.inr ⟨(), b, Or.inr ⟨(), c, Or.inr ⟨(), d, e, rfl⟩⟩⟩⟩
theorem round_ok {w : World} {k : Nat} {t : List Nat} {z : World × Octets} : roundCall w k t = .ok z ↔ k < 8 ∧ ∃ p, shopFor t = .ok p ∧ z = (putRound w k (newRound p), []) := by
  unfold roundCall
  rw [then_ok]
  constructor
  · rintro ⟨_, h, m⟩
    rw [map_ok] at m
    obtain ⟨p, hp, rfl⟩ := m
    exact ⟨of_decide_eq_true (need_ok.1 h), p, hp, rfl⟩
  · rintro ⟨h, p, hp, rfl⟩
    refine ⟨(), need_ok.2 (decide_eq_true h), ?_⟩
    rw [map_ok]
    exact ⟨p, hp, rfl⟩
theorem round_bad {w : World} {k : Nat} {t : List Nat} {l : Octets} : roundCall w k t = .bad l ↔ (8 ≤ k ∧ l = [7]) ∨ (k < 8 ∧ shopFor t = .bad l) := by
  unfold roundCall
  rw [then_bad, need_bad]
  constructor
  · rintro (⟨h, rfl⟩ | ⟨_, h, m⟩)
    · have : ¬ k < 8 := of_decide_eq_false h
      exact Or.inl ⟨by omega, rfl⟩
    · rw [map_bad] at m
      exact Or.inr ⟨of_decide_eq_true (need_ok.1 h), m⟩
  · rintro (⟨h, rfl⟩ | ⟨h, m⟩)
    · exact Or.inl ⟨decide_eq_false (by show ¬ k < 8; omega), rfl⟩
    · exact Or.inr ⟨(), need_ok.2 (decide_eq_true h), by rw [map_bad]; exact m⟩
theorem told_ok_iff {w : World} {x : Res Octets} {z : World × Octets} : Rs.told w x = .ok z ↔ ∃ o, x = .ok o ∧ z = (w, o) := by
  unfold Rs.told
  rw [map_ok]
  exact ⟨fun ⟨o, h, k⟩ => ⟨o, h, k.symm⟩, fun ⟨o, h, k⟩ => ⟨o, h, k.symm⟩⟩
theorem told_bad_iff {w : World} {x : Res Octets} {l : Octets} : Rs.told w x = .bad l ↔ x = .bad l := map_bad

/-! ### what a request changes -/
theorem call_rounds {w : World} {x : Request} {z : World × Octets} (h : callOn w x = .ok z) : z.1 = w ∨ ∃ k q, z.1 = putRound w k q := by
  cases x with
  | format t => obtain ⟨o, _, rfl⟩ := told_ok_iff.1 h; exact Or.inl rfl
  | safe t s => obtain ⟨o, _, rfl⟩ := told_ok_iff.1 h; exact Or.inl rfl
  | filling t s => obtain ⟨o, _, rfl⟩ := told_ok_iff.1 h; exact Or.inl rfl
  | doom t s => obtain ⟨o, _, rfl⟩ := told_ok_iff.1 h; exact Or.inl rfl
  | attack t s => obtain ⟨o, _, rfl⟩ := told_ok_iff.1 h; exact Or.inl rfl
  | least t => obtain ⟨o, _, rfl⟩ := told_ok_iff.1 h; exact Or.inl rfl
  | fewest t => obtain ⟨o, _, rfl⟩ := told_ok_iff.1 h; exact Or.inl rfl
  | parting t u => obtain ⟨o, _, rfl⟩ := told_ok_iff.1 h; exact Or.inl rfl
  | round k t =>
    obtain ⟨_, p, _, rfl⟩ := round_ok.1 h
    exact Or.inr ⟨_, _, rfl⟩
  | fill k f =>
    obtain ⟨q, e, _, _, rfl⟩ := withRound_ok.1 h
    exact Or.inr ⟨_, _, rfl⟩
  | sell k f =>
    obtain ⟨q, e, _, _, rfl⟩ := withRound_ok.1 h
    exact Or.inr ⟨_, _, rfl⟩
  | undo k =>
    obtain ⟨q, e, _, _, rfl⟩ := withRound_ok.1 h
    exact Or.inr ⟨_, _, rfl⟩
  | look k => obtain ⟨o, _, rfl⟩ := told_ok_iff.1 h; exact Or.inl rfl
/-- what a step is: refused and unchanged, or a call that is done -/
theorem step_cases (w : World) (r : List UInt8) : ((requestOf (octetsOf r) = none ∧ Zz33Octets.step w r = (w, [1, 1])) ∨
    ∃ x, requestOf (octetsOf r) = some x ∧ ((∃ e, callOn w x = .bad e ∧ Zz33Octets.step w r = (w, bytesOf (1 :: e))) ∨ ∃ z, callOn w x = .ok z ∧ Zz33Octets.step w r = (z.1, bytesOf (0 :: z.2)))) := by
  cases h : requestOf (octetsOf r) with
  | none => exact Or.inl ⟨rfl, step_none h⟩
  | some x =>
    refine Or.inr ⟨x, rfl, ?_⟩
    cases k : callOn w x with
    | bad e => exact Or.inl ⟨e, rfl, step_bad h k⟩
    | ok z => exact Or.inr ⟨z, rfl, step_ok h k⟩
theorem step_length (w : World) (r : List UInt8) : (Zz33Octets.step w r).1.rounds.length = w.rounds.length := by
  rcases step_cases w r with ⟨_, e⟩ | ⟨x, _, (⟨e, _, q⟩ | ⟨z, k, q⟩)⟩
  · rw [e]
  · rw [q]
  · rw [q]
    rcases call_rounds k with e | ⟨i, y, e⟩
    · show z.1.rounds.length = _
      rw [e]
    · show z.1.rounds.length = _
      rw [e, put_length]
theorem behind_nil (s : World) : behind s [] = s := rfl
theorem behind_cons (s : World) (r : List UInt8) (l : List (List UInt8)) : behind s (r :: l) = behind (Zz33Octets.step s r).1 l := rfl
theorem behind_app (s : World) (a b : List (List UInt8)) : behind s (a ++ b) = behind (behind s a) b := by
  unfold behind
  rw [List.foldl_append]
theorem behind_keeps {P : World → Prop} (h : ∀ w r, P w → P (Zz33Octets.step w r).1) : ∀ (l : List (List UInt8)) (s : World), P s → P (behind s l)
  | [], _, k => k
  | r :: l, s, k => behind_keeps h l _ (h s r k)
theorem p_Seats_stay : Seats_stay := fun l => behind_keeps (P := fun w => w.rounds.length = 8) (fun w r h => by rw [step_length]; exact h) l start rfl

/-! ### rounds in any life -/
def RoundGood (q : Round) : Prop := IsShop q.shop ∧ (∀ m, m ∈ q.now :: q.past → IsStock q.shop m.1) ∧ q.past.length ≤ 30
def Good (w : World) : Prop := w.rounds.length = 8 ∧ ∀ k q, roundAt w k = some q → RoundGood q
theorem good_put {w : World} {k : Nat} {q : Round} (h : Good w) (hq : RoundGood q) : Good (putRound w k q) := by
  refine ⟨by rw [put_length]; exact h.1, fun j y hy => ?_⟩
  by_cases c : k = j
  · subst c
    by_cases l : k < w.rounds.length
    · rw [round_put l] at hy
      cases hy
      exact hq
    · have := round_lt hy
      rw [put_length] at this
      exact absurd this l
  · rw [round_put_ne c] at hy
    exact h.2 j y hy
theorem full_stock (p : Shop) : IsStock p (roomsOf p) := below_refl _
theorem good_step (w : World) (r : List UInt8) (h : Good w) : Good (Zz33Octets.step w r).1 := by
  rcases step_cases w r with ⟨_, e⟩ | ⟨x, _, (⟨e, _, q⟩ | ⟨z, k, q⟩)⟩
  · rw [e]; exact h
  · rw [q]; exact h
  · rw [q]
    show Good z.1
    cases x with
    | format t => obtain ⟨o, _, rfl⟩ := told_ok_iff.1 k; exact h
    | safe t s => obtain ⟨o, _, rfl⟩ := told_ok_iff.1 k; exact h
    | filling t s => obtain ⟨o, _, rfl⟩ := told_ok_iff.1 k; exact h
    | doom t s => obtain ⟨o, _, rfl⟩ := told_ok_iff.1 k; exact h
    | attack t s => obtain ⟨o, _, rfl⟩ := told_ok_iff.1 k; exact h
    | least t => obtain ⟨o, _, rfl⟩ := told_ok_iff.1 k; exact h
    | fewest t => obtain ⟨o, _, rfl⟩ := told_ok_iff.1 k; exact h
    | parting t u => obtain ⟨o, _, rfl⟩ := told_ok_iff.1 k; exact h
    | look i => obtain ⟨o, _, rfl⟩ := told_ok_iff.1 k; exact h
    | round i t =>
      obtain ⟨_, p, hp, rfl⟩ := round_ok.1 k
      refine good_put h ⟨shop_of_ok hp, fun m hm => ?_, by simp [newRound]⟩
      have hm : m ∈ [(roomsOf p, false)] := hm
      rw [List.mem_singleton] at hm
      subst hm
      exact full_stock p
    | fill i f =>
      obtain ⟨y, e, hy, he, rfl⟩ := withRound_ok.1 k
      obtain ⟨_, _, hf, hl, rfl⟩ := fill_ok.1 he
      obtain ⟨g1, g2, g3⟩ := h.2 i y hy
      have st : IsStock y.shop (stockNow y) := g2 y.now List.mem_cons_self
      refine good_put h ⟨g1, fun m hm => ?_, ?_⟩
      · have hm : m ∈ (plus (stockNow y) f, true) :: y.now :: y.past := hm
        rcases List.mem_cons.1 hm with rfl | hm
        · exact filled_stock ((mem_fillings st).1 hf)
        · exact g2 m hm
      · show (y.now :: y.past).length ≤ 30
        simp; omega
    | sell i f =>
      obtain ⟨y, e, hy, he, rfl⟩ := withRound_ok.1 k
      obtain ⟨_, _, hf, hb, hl, rfl⟩ := sell_ok.1 he
      obtain ⟨g1, g2, g3⟩ := h.2 i y hy
      have st : IsStock y.shop (stockNow y) := g2 y.now List.mem_cons_self
      refine good_put h ⟨g1, fun m hm => ?_, ?_⟩
      · have hm : m ∈ (minus (stockNow y) f, false) :: y.now :: y.past := hm
        rcases List.mem_cons.1 hm with rfl | hm
        · exact left_stock st (mem_takings.1 hf)
        · exact g2 m hm
      · show (y.now :: y.past).length ≤ 30
        simp; omega
    | undo i =>
      obtain ⟨y, e, hy, he, rfl⟩ := withRound_ok.1 k
      obtain ⟨g1, g2, g3⟩ := h.2 i y hy
      have he : Res.ok (undone y) = .ok e := he
      cases he
      refine good_put h ?_
      unfold undone
      cases c : y.past with
      | nil => exact ⟨g1, g2, g3⟩
      | cons m l =>
        refine ⟨g1, fun x hx => g2 x ?_, ?_⟩
        · rw [c]
          exact List.mem_cons_of_mem _ hx
        · rw [c] at g3
          simp at g3
          show l.length ≤ 30
          omega
theorem good_start : Good start := ⟨rfl, fun k q h => by rw [p_Start_empty k] at h; cases h⟩
theorem good_life (l : List (List UInt8)) : Good (behind start l) := behind_keeps good_step l start good_start
theorem p_Rounds_good : Rounds_good := fun l k r _ h => by
  obtain ⟨a, b, c⟩ := (good_life l).2 k r h
  exact ⟨a, b _ List.mem_cons_self, c⟩
theorem p_Round_lays : Round_lays := fun l r k t hr ha => by
  rw [behind_app]
  show ∃ p, _ ∧ roundAt (Zz33Octets.step (behind start l) r).1 k = _
  cases c : callOn (behind start l) (.round k t) with
  | bad e => rw [step_bad hr c] at ha; exact absurd ha said1
  | ok z =>
    obtain ⟨hk, p, hp, rfl⟩ := round_ok.1 c
    rw [step_ok hr c]
    exact ⟨p, hp, round_put (by rw [(good_life l).1]; exact hk)⟩
theorem p_Round_answers : Round_answers := fun w r k t p hw hr hk hp => by
  have c : callOn w (.round k t) = .ok (putRound w k (newRound p), []) := round_ok.2 ⟨hk, p, hp, rfl⟩
  rw [step_ok hr c]
  exact ⟨rfl, round_put (by rw [hw]; exact hk)⟩
theorem nine_of {p : Shop} {f : Stock} {n : Nat} (hl : f.length = p.shelves.length) (h : ∀ x, x ∈ f → x ≤ n) (hn : n ≤ 9) : Below f (p.shelves.map fun _ => 9) :=
  const_below.2 ⟨hl, fun x hx => Nat.le_trans (h x hx) hn⟩
theorem mem_total : ∀ {l : List Nat} {x : Nat}, x ∈ l → x ≤ totalOf l
  | [], _, h => by simp at h
  | y :: l, x, h => by
    simp only [totalOf, List.foldr_cons]
    rcases List.mem_cons.1 h with rfl | h
    · omega
    · have := mem_total h
      simp only [totalOf] at this
      omega
theorem nine_filling {p : Shop} {s f : Stock} (hp : IsShop p) (hs : IsStock p s) (h : IsFilling p s f) : Below f (p.shelves.map fun _ => 9) :=
  nine_of (h.1.trans (stock_length hs)) (fun _ hx => Nat.le_trans (mem_total hx) h.2.2.1) hp.2.2.2.2.2.2.1
theorem nine_taking {p : Shop} {t : Stock} (hp : IsShop p) (h : IsTaking p t) : Below t (p.shelves.map fun _ => 9) := by
  obtain ⟨_, a, b, c, d, _⟩ := hp
  exact nine_of h.1 h.2.1 (by omega)
theorem p_Fill_answers : Fill_answers := fun l r k f q hr hq => by
  obtain ⟨g1, g2, g3⟩ := (good_life l).2 k q hq
  have st : IsStock q.shop q.now.1 := g2 _ List.mem_cons_self
  have lt := round_lt hq
  generalize behind start l = w at hq lt
  constructor
  · constructor
    · intro ha
      cases c : callOn w (.fill k f) with
      | bad e => rw [step_bad hr c] at ha; exact absurd ha said1
      | ok z =>
        obtain ⟨y, e, hy, he, rfl⟩ := withRound_ok.1 c
        rw [hq] at hy
        cases hy
        obtain ⟨_, o, hf, hl, rfl⟩ := fill_ok.1 he
        exact ⟨o, (mem_fillings st).1 hf, hl⟩
    · rintro ⟨o, hf, hl⟩
      have c : callOn w (.fill k f) = .ok (putRound w k (moved q (plus (stockNow q) f, true)), []) :=
        withRound_ok.2 ⟨q, _, hq, fill_ok.2 ⟨nine_filling g1 st hf, o, (mem_fillings st).2 hf, hl, rfl⟩, rfl⟩
      rw [step_ok hr c]
      rfl
  · intro ha
    cases c : callOn w (.fill k f) with
    | bad e => rw [step_bad hr c] at ha; exact absurd ha said1
    | ok z =>
      rw [step_ok hr c]
      obtain ⟨y, e, hy, he, rfl⟩ := withRound_ok.1 c
      rw [hq] at hy
      cases hy
      obtain ⟨_, o, hf, hl, rfl⟩ := fill_ok.1 he
      exact round_put lt
theorem p_Sell_answers : Sell_answers := fun l r k f q hr hq => by
  obtain ⟨g1, g2, g3⟩ := (good_life l).2 k q hq
  have st : IsStock q.shop q.now.1 := g2 _ List.mem_cons_self
  have lt := round_lt hq
  generalize behind start l = w at hq lt
  refine ⟨⟨?_, ?_⟩, ?_, ?_⟩
  · intro ha
    cases c : callOn w (.sell k f) with
    | bad e => rw [step_bad hr c] at ha; exact absurd ha said1
    | ok z =>
      obtain ⟨y, e, hy, he, rfl⟩ := withRound_ok.1 c
      rw [hq] at hy
      cases hy
      obtain ⟨_, o, hf, hb, hl, rfl⟩ := sell_ok.1 he
      exact ⟨o, mem_takings.1 hf, isBelow_iff.1 hb, hl⟩
  · rintro ⟨o, hf, hb, hl⟩
    have c : callOn w (.sell k f) = .ok (putRound w k (moved q (minus (stockNow q) f, false)), []) :=
      withRound_ok.2 ⟨q, _, hq, sell_ok.2 ⟨nine_taking g1 hf, o, mem_takings.2 hf, isBelow_iff.2 hb, hl, rfl⟩, rfl⟩
    rw [step_ok hr c]
    rfl
  · intro ha
    cases c : callOn w (.sell k f) with
    | bad e => rw [step_bad hr c] at ha; exact absurd ha said1
    | ok z =>
      rw [step_ok hr c]
      obtain ⟨y, e, hy, he, rfl⟩ := withRound_ok.1 c
      rw [hq] at hy
      cases hy
      obtain ⟨_, o, hf, hb, hl, rfl⟩ := sell_ok.1 he
      exact round_put lt
  · intro o hf hb
    have c : callOn w (.sell k f) = .bad [13] :=
      withRound_bad.2 (Or.inr ⟨q, hq, sell_bad.2 (Or.inr ⟨nine_taking g1 hf, Or.inr ⟨o, Or.inr ⟨mem_takings.2 hf, Or.inl ⟨isBelow_false.2 hb, rfl⟩⟩⟩⟩)⟩)
    rw [step_bad hr c]
    rfl
theorem p_Fill_refused : Fill_refused := fun l r k f q hr hq => by
  obtain ⟨g1, g2, g3⟩ := (good_life l).2 k q hq
  have st : IsStock q.shop q.now.1 := g2 _ List.mem_cons_self
  generalize behind start l = w at hq
  have out : ∀ n, fillIn f q = .bad [n] → (Zz33Octets.step w r).2 = bytesOf [1, n] := fun n h => by
    have c : callOn w (.fill k f) = .bad [n] := withRound_bad.2 (Or.inr ⟨q, hq, h⟩)
    rw [step_bad hr c]
  refine ⟨fun h => ?_, fun h => ⟨fun o => ?_, fun o => ⟨fun hf => ?_, fun hf hl => ?_⟩⟩⟩
  · exact out 5 (fill_bad.2 (Or.inl ⟨h, rfl⟩))
  · exact out 8 (fill_bad.2 (Or.inr ⟨h, Or.inl ⟨o, rfl⟩⟩))
  · exact out 9 (fill_bad.2 (Or.inr ⟨h, Or.inr ⟨o, Or.inl ⟨fun z => hf ((mem_fillings st).1 z), rfl⟩⟩⟩))
  · exact out 10 (fill_bad.2 (Or.inr ⟨h, Or.inr ⟨o, Or.inr ⟨(mem_fillings st).2 hf, hl, rfl⟩⟩⟩))
theorem p_Sell_refused : Sell_refused := fun l r k f q hr hq => by
  generalize behind start l = w at hq
  have out : ∀ n, sellIn f q = .bad [n] → (Zz33Octets.step w r).2 = bytesOf [1, n] := fun n h => by
    have c : callOn w (.sell k f) = .bad [n] := withRound_bad.2 (Or.inr ⟨q, hq, h⟩)
    rw [step_bad hr c]
  refine ⟨fun h => ?_, fun h => ⟨fun o => ?_, fun o => ⟨fun hf => ?_, fun hf hb => ?_⟩⟩⟩
  · exact out 5 (sell_bad.2 (Or.inl ⟨h, rfl⟩))
  · exact out 11 (sell_bad.2 (Or.inr ⟨h, Or.inl ⟨o, rfl⟩⟩))
  · exact out 12 (sell_bad.2 (Or.inr ⟨h, Or.inr ⟨o, Or.inl ⟨fun z => hf (mem_takings.1 z), rfl⟩⟩⟩))
  · exact out 13 (sell_bad.2 (Or.inr ⟨h, Or.inr ⟨o, Or.inr ⟨mem_takings.2 hf, Or.inl ⟨isBelow_false.2 hb, rfl⟩⟩⟩⟩))
theorem undo_call {w : World} {k : Nat} {q : Round} (hq : roundAt w k = some q) : callOn w (.undo k) = .ok (putRound w k (undone q).1, (undone q).2) := withRound_ok.2 ⟨q, undone q, hq, rfl, rfl⟩
theorem p_Undo_answers : Undo_answers := fun l r k q hr hq => by
  have lt := round_lt hq
  generalize behind start l = w at hq lt
  have c := undo_call hq
  rw [step_ok hr c]
  refine ⟨fun h => ?_, fun m t h => ?_⟩
  · have : undone q = (q, putFlag false) := by unfold undone; rw [h]
    rw [this]
    exact ⟨rfl, round_put lt⟩
  · have : undone q = (⟨q.shop, m, t⟩, putFlag true) := by unfold undone; rw [h]
    rw [this]
    exact ⟨rfl, round_put lt⟩
theorem p_Undo_back : Undo_back := fun w r u k f q hr ha hq hu => by
  have lt := round_lt hq
  have key : ∃ m, (Zz33Octets.step w r).1 = putRound w k (moved q m) := by
    rcases hr with hr | hr
    · cases c : callOn w (.fill k f) with
      | bad e => rw [step_bad hr c] at ha; exact absurd ha said1
      | ok z =>
        rw [step_ok hr c]
        obtain ⟨y, e, hy, he, rfl⟩ := withRound_ok.1 c
        rw [hq] at hy
        cases hy
        obtain ⟨_, o, hf, hl, rfl⟩ := fill_ok.1 he
        exact ⟨_, rfl⟩
    · cases c : callOn w (.sell k f) with
      | bad e => rw [step_bad hr c] at ha; exact absurd ha said1
      | ok z =>
        rw [step_ok hr c]
        obtain ⟨y, e, hy, he, rfl⟩ := withRound_ok.1 c
        rw [hq] at hy
        cases hy
        obtain ⟨_, o, hf, hb, hl, rfl⟩ := sell_ok.1 he
        exact ⟨_, rfl⟩
  obtain ⟨m, e⟩ := key
  rw [e]
  have c := undo_call (w := putRound w k (moved q m)) (k := k) (round_put lt)
  rw [step_ok hu c]
  exact ⟨rfl, round_put (by rw [put_length]; exact lt)⟩
theorem look_call {w : World} {k : Nat} {q : Round} (hq : roundAt w k = some q) : callOn w (.look k) = .ok (w, putLook q) := by
  refine told_ok_iff.2 ⟨putLook q, ?_, rfl⟩
  unfold lookCall
  rw [hq]
  rfl
theorem p_Look_shows : Look_shows := fun l r k q _ hr hq => by
  obtain ⟨g1, g2, g3⟩ := (good_life l).2 k q hq
  have st : IsStock q.shop (stockNow q) := g2 _ List.mem_cons_self
  rw [step_ok hr (look_call hq)]
  exact ⟨rfl, (p_round_exact q st).1, (p_round_exact q st).2⟩
theorem p_Look_told : Look_told := fun l r k q hr hq => by
  obtain ⟨g1, g2, g3⟩ := (good_life l).2 k q hq
  have st : IsStock q.shop q.now.1 := g2 _ List.mem_cons_self
  rw [step_ok hr (look_call hq)]
  refine ⟨isWell q, putMaybe putNumbers (hintOf q), rfl, fun o => ⟨((p_round_exact q st).1 o).1, ?_⟩, fun o => ⟨((p_round_exact q st).2 o).1, ?_, fun t ht => ?_⟩⟩
  · rw [((p_round_exact q st).1 o).2]
    rfl
  · rw [((p_round_exact q st).2 o).2]
    rfl
  · rw [((p_round_exact q st).2 o).2]
    exact says_filling ht st
theorem p_Seats_refused : Seats_refused := fun w r k x hr h => by
  have c : callOn w x = .bad [7] := by
    rcases h with ⟨⟨t, rfl⟩, hk⟩ | ⟨hq, (⟨f, (rfl | rfl)⟩ | rfl | rfl)⟩
    · exact round_bad.2 (Or.inl ⟨hk, rfl⟩)
    · exact withRound_bad.2 (Or.inl ⟨hq, rfl⟩)
    · exact withRound_bad.2 (Or.inl ⟨hq, rfl⟩)
    · exact withRound_bad.2 (Or.inl ⟨hq, rfl⟩)
    · refine told_bad_iff.2 ?_
      unfold lookCall
      rw [hq]
      rfl
  rw [step_bad hr c]
  rfl
end RsP
set_option Elab.async false
namespace RsP
open Rs FsLaw
open Zz33Octets (octetsOf bytesOf start fits)

/-! ### each seat for itself, what only tells -/
theorem octets_cons (n : UInt8) (r : List UInt8) : octetsOf (n :: r) = n.toNat :: octetsOf r := rfl
theorem request_call' {n : UInt8} {r : List UInt8} {x : Request} (h : requestOf (octetsOf (n :: r)) = some x) : callOf x = n.toNat ∧ IsRequest x ∧ octetsOf r = bodyOf x := by
  obtain ⟨a, b⟩ := (request_iff (octets_bytes _)).1 h
  rw [octets_cons, List.cons.injEq] at b
  exact ⟨b.1.symm, a, b.2⟩
theorem p_Calls_keep : Calls_keep := fun s n r hn => by
  rcases step_cases s (n :: r) with ⟨_, e⟩ | ⟨x, hx, (⟨e, _, q⟩ | ⟨z, k, q⟩)⟩
  · rw [e]
  · rw [q]
  · rw [q]
    obtain ⟨c, _, _⟩ := request_call' hx
    have hn' : n.toNat ≤ 8 ∨ 13 ≤ n.toNat := hn.imp UInt8.le_iff_toNat_le.1 UInt8.le_iff_toNat_le.1
    cases x with
    | format t => obtain ⟨o, _, rfl⟩ := told_ok_iff.1 k; rfl
    | safe t s => obtain ⟨o, _, rfl⟩ := told_ok_iff.1 k; rfl
    | filling t s => obtain ⟨o, _, rfl⟩ := told_ok_iff.1 k; rfl
    | doom t s => obtain ⟨o, _, rfl⟩ := told_ok_iff.1 k; rfl
    | attack t s => obtain ⟨o, _, rfl⟩ := told_ok_iff.1 k; rfl
    | least t => obtain ⟨o, _, rfl⟩ := told_ok_iff.1 k; rfl
    | fewest t => obtain ⟨o, _, rfl⟩ := told_ok_iff.1 k; rfl
    | parting t u => obtain ⟨o, _, rfl⟩ := told_ok_iff.1 k; rfl
    | look i => obtain ⟨o, _, rfl⟩ := told_ok_iff.1 k; rfl
    | round i t => have c : 9 = n.toNat := c; omega
    | fill i t => have c : 10 = n.toNat := c; omega
    | sell i t => have c : 11 = n.toNat := c; omega
    | undo i => have c : 12 = n.toNat := c; omega
theorem p_Seats_apart : Seats_apart := fun s n i r j hj hn => by
  rcases step_cases s (n :: i :: r) with ⟨_, e⟩ | ⟨x, hx, (⟨e, _, q⟩ | ⟨z, k, q⟩)⟩
  · rw [e]
  · rw [q]
  · rw [q]
    obtain ⟨c, hr, hb⟩ := request_call' hx
    rw [octets_cons] at hb
    have hn' : 9 ≤ n.toNat := UInt8.le_iff_toNat_le.1 hn
    have key : ∀ (k : Nat) (l : Octets), k < 256 → i.toNat :: octetsOf r = putU8 k ++ l → k ≠ j := fun k l hk e => by
      have e : i.toNat :: octetsOf r = k % 256 :: l := e
      rw [List.cons.injEq] at e
      intro z
      have := e.1
      rw [Nat.mod_eq_of_lt hk] at this
      exact hj (by omega)
    cases x with
    | format t => obtain ⟨o, _, rfl⟩ := told_ok_iff.1 k; rfl
    | safe t s => obtain ⟨o, _, rfl⟩ := told_ok_iff.1 k; rfl
    | filling t s => obtain ⟨o, _, rfl⟩ := told_ok_iff.1 k; rfl
    | doom t s => obtain ⟨o, _, rfl⟩ := told_ok_iff.1 k; rfl
    | attack t s => obtain ⟨o, _, rfl⟩ := told_ok_iff.1 k; rfl
    | least t => obtain ⟨o, _, rfl⟩ := told_ok_iff.1 k; rfl
    | fewest t => obtain ⟨o, _, rfl⟩ := told_ok_iff.1 k; rfl
    | parting t u => obtain ⟨o, _, rfl⟩ := told_ok_iff.1 k; rfl
    | look i => obtain ⟨o, _, rfl⟩ := told_ok_iff.1 k; rfl
    | round m t =>
      obtain ⟨_, p, _, rfl⟩ := round_ok.1 k
      exact round_put_ne (key m (putText t) hr.1 hb)
    | fill m t =>
      obtain ⟨_, _, _, _, rfl⟩ := withRound_ok.1 k
      exact round_put_ne (key m (putNumbers t) hr.1 hb)
    | sell m t =>
      obtain ⟨_, _, _, _, rfl⟩ := withRound_ok.1 k
      exact round_put_ne (key m (putNumbers t) hr.1 hb)
    | undo m =>
      obtain ⟨_, _, _, _, rfl⟩ := withRound_ok.1 k
      exact round_put_ne (key m [] hr (by rw [List.append_nil]; exact hb))
/-- the octets of an error -/
def Err (e : Octets) : Prop := ∃ n l, e = n :: l ∧ 1 ≤ n ∧ n ≤ 13 ∧ l.length ≤ 2
theorem err_of {n : Nat} (h1 : 1 ≤ n) (h2 : n ≤ 13) : Err [n] := ⟨n, [], rfl, h1, h2, by simp⟩
theorem err_shop {t : List Nat} {e : Octets} (h : shopFor t = .bad e) : Err e := by
  rcases shopFor_bad (t := t) with ⟨p, k⟩ | ⟨_, k⟩ | ⟨n, k⟩
  · rw [k] at h; cases h
  · rw [k] at h; cases h
    exact err_of (by decide) (by decide)
  · rw [k] at h; cases h
    exact ⟨3, _, rfl, by decide, by decide, by simp [putU16]⟩
theorem err_at {t : List Nat} {s : Stock} {f : Shop → Stock → Octets} {e : Octets} (h : atStock t s f = .bad e) : Err e := by
  unfold atStock at h
  rw [then_bad] at h
  rcases h with h | ⟨p, _, h⟩
  · exact err_shop h
  · rw [map_bad] at h
    rw [(stock_bad.1 h).2]
    exact err_of (by decide) (by decide)
theorem err_call {w : World} {x : Request} {e : Octets} (h : callOn w x = .bad e) : Err e := by
  cases x with
  | format t => exact err_shop (map_bad.1 (told_bad_iff.1 h))
  | safe t s => exact err_at (told_bad_iff.1 h)
  | filling t s => exact err_at (told_bad_iff.1 h)
  | doom t s => exact err_at (told_bad_iff.1 h)
  | attack t s => exact err_at (told_bad_iff.1 h)
  | least t => exact err_shop (map_bad.1 (told_bad_iff.1 h))
  | fewest t => exact err_shop (map_bad.1 (told_bad_iff.1 h))
  | parting t u =>
    have h := told_bad_iff.1 h
    unfold partingCall at h
    rw [then_bad] at h
    rcases h with h | ⟨p, _, h⟩
    · exact err_shop h
    · rw [then_bad] at h
      rcases h with h | ⟨q, _, h⟩
      · exact err_shop h
      · rw [then_bad] at h
        rcases h with h | ⟨_, _, h⟩
        · rw [(need_bad.1 h).2]
          exact err_of (by decide) (by decide)
        · cases h
  | round k t =>
    rcases round_bad.1 h with ⟨_, rfl⟩ | ⟨_, h⟩
    · exact err_of (by decide) (by decide)
    · exact err_shop h
  | fill k f =>
    rcases withRound_bad.1 h with ⟨_, rfl⟩ | ⟨q, _, h⟩
    · exact err_of (by decide) (by decide)
    · rcases fill_bad.1 h with ⟨_, rfl⟩ | ⟨_, (⟨_, rfl⟩ | ⟨_, (⟨_, rfl⟩ | ⟨_, _, rfl⟩)⟩)⟩
      all_goals exact err_of (by decide) (by decide)
  | sell k f =>
    rcases withRound_bad.1 h with ⟨_, rfl⟩ | ⟨q, _, h⟩
    · exact err_of (by decide) (by decide)
    · rcases sell_bad.1 h with ⟨_, rfl⟩ | ⟨_, (⟨_, rfl⟩ | ⟨_, (⟨_, rfl⟩ | ⟨_, (⟨_, rfl⟩ | ⟨_, _, rfl⟩)⟩)⟩)⟩
      all_goals exact err_of (by decide) (by decide)
  | undo k =>
    rcases withRound_bad.1 h with ⟨_, rfl⟩ | ⟨q, _, h⟩
    · exact err_of (by decide) (by decide)
    · cases h
  | look k =>
    have h := told_bad_iff.1 h
    unfold lookCall at h
    rw [map_bad] at h
    cases c : roundAt w k with
    | none =>
      rw [c] at h
      cases h
      exact err_of (by decide) (by decide)
    | some q =>
      rw [c] at h
      cases h
theorem p_Refused_keeps : Refused_keeps := fun s r => by
  rcases step_cases s r with ⟨_, e⟩ | ⟨x, _, (⟨e, k, q⟩ | ⟨z, _, q⟩)⟩
  · rw [e]
    exact Or.inr ⟨⟨1, [], rfl, by decide, by decide⟩, rfl⟩
  · rw [q]
    obtain ⟨n, l, rfl, h1, h2, _⟩ := err_call k
    refine Or.inr ⟨⟨UInt8.ofNat n, bytesOf l, rfl, ?_⟩, rfl⟩
    have : ∀ n : Fin 14, 1 ≤ n.val → (1 : UInt8) ≤ UInt8.ofNat n.val ∧ UInt8.ofNat n.val ≤ 13 := by decide +kernel
    exact this ⟨n, by omega⟩ h1
  · rw [q]
    exact Or.inl ⟨_, rfl⟩
theorem p_Calls_alone : Calls_alone := fun s z n r hn => by
  cases h : requestOf (octetsOf (n :: r)) with
  | none => rw [step_none h, step_none h]
  | some x =>
    obtain ⟨c, _, _⟩ := request_call' h
    have hn' : n.toNat ≤ 9 := UInt8.le_iff_toNat_le.1 hn
    have both : ∀ y : Res Octets, (∀ w, callOn w x = Rs.told w y) → (Zz33Octets.step s (n :: r)).2 = (Zz33Octets.step z (n :: r)).2 := fun y hy => by
      cases y with
      | bad e => rw [step_bad h (hy s), step_bad h (hy z)]
      | ok o => rw [step_ok h (hy s), step_ok h (hy z)]
    cases x with
    | format t => exact both _ fun _ => rfl
    | safe t s => exact both _ fun _ => rfl
    | filling t s => exact both _ fun _ => rfl
    | doom t s => exact both _ fun _ => rfl
    | attack t s => exact both _ fun _ => rfl
    | least t => exact both _ fun _ => rfl
    | fewest t => exact both _ fun _ => rfl
    | parting t u => exact both _ fun _ => rfl
    | round k t =>
      cases c1 : callOn s (.round k t) with
      | bad e =>
        have c2 : callOn z (.round k t) = .bad e := round_bad.2 (round_bad.1 c1)
        rw [step_bad h c1, step_bad h c2]
      | ok y =>
        obtain ⟨hk, p, hp, rfl⟩ := round_ok.1 c1
        have c2 : callOn z (.round k t) = .ok (putRound z k (newRound p), []) := round_ok.2 ⟨hk, p, hp, rfl⟩
        rw [step_ok h c1, step_ok h c2]
    | fill i t => have c : 10 = n.toNat := c; omega
    | sell i t => have c : 11 = n.toNat := c; omega
    | undo i => have c : 12 = n.toNat := c; omega
    | look i => have c : 13 = n.toNat := c; omega

/-! ### the hints keep -/
def Well (k : Nat) (w : World) : Prop := Good w ∧ ∃ q, roundAt w k = some q ∧ isWell q = true
theorem well_stock {w : World} {k : Nat} {q : Round} (h : Good w) (hq : roundAt w k = some q) : IsStock q.shop (stockNow q) := (h.2 k q hq).2.1 _ List.mem_cons_self
theorem well_step {k : Nat} {w : World} {r : List UInt8} (h : Well k w) (f : Follows k w r) : Well k (Zz33Octets.step w r).1 := by
  obtain ⟨g, q, hq, hw⟩ := h
  refine ⟨good_step w r g, ?_⟩
  have st := well_stock g hq
  have lt := round_lt hq
  rcases step_cases w r with ⟨_, e⟩ | ⟨x, hx, (⟨e, _, s⟩ | ⟨z, c, s⟩)⟩
  · rw [e]; exact ⟨q, hq, hw⟩
  · rw [s]; exact ⟨q, hq, hw⟩
  · obtain ⟨f1, f2, f3⟩ := f x hx
    rw [s] at f1 f2 f3 ⊢
    show ∃ q, roundAt z.1 k = some q ∧ _
    cases x with
    | format t => obtain ⟨o, _, rfl⟩ := told_ok_iff.1 c; exact ⟨q, hq, hw⟩
    | safe t s => obtain ⟨o, _, rfl⟩ := told_ok_iff.1 c; exact ⟨q, hq, hw⟩
    | filling t s => obtain ⟨o, _, rfl⟩ := told_ok_iff.1 c; exact ⟨q, hq, hw⟩
    | doom t s => obtain ⟨o, _, rfl⟩ := told_ok_iff.1 c; exact ⟨q, hq, hw⟩
    | attack t s => obtain ⟨o, _, rfl⟩ := told_ok_iff.1 c; exact ⟨q, hq, hw⟩
    | least t => obtain ⟨o, _, rfl⟩ := told_ok_iff.1 c; exact ⟨q, hq, hw⟩
    | fewest t => obtain ⟨o, _, rfl⟩ := told_ok_iff.1 c; exact ⟨q, hq, hw⟩
    | parting t u => obtain ⟨o, _, rfl⟩ := told_ok_iff.1 c; exact ⟨q, hq, hw⟩
    | look i => obtain ⟨o, _, rfl⟩ := told_ok_iff.1 c; exact ⟨q, hq, hw⟩
    | round i t =>
      obtain ⟨_, p, hp, rfl⟩ := round_ok.1 c
      by_cases e : i = k
      · subst e
        exact absurd rfl (f1 t rfl)
      · exact ⟨q, by rw [round_put_ne e]; exact hq, hw⟩
    | fill i t =>
      obtain ⟨y, e, hy, he, rfl⟩ := withRound_ok.1 c
      by_cases e' : i = k
      · subst e'
        rw [hq] at hy
        cases hy
        obtain ⟨_, o, hf, hl, rfl⟩ := fill_ok.1 he
        have hint := f3 t q rfl rfl hq
        have hint' : fillingOf q.shop (stockNow q) = some t := by
          rw [← ((p_round_exact q st).2 o).2]
          exact hint
        obtain ⟨_, b, _⟩ := filling_some st hint'
        exact ⟨_, round_put lt, staysWell_iff.2 b⟩
      · exact ⟨q, by rw [round_put_ne e']; exact hq, hw⟩
    | sell i t =>
      obtain ⟨y, e, hy, he, rfl⟩ := withRound_ok.1 c
      by_cases e' : i = k
      · subst e'
        rw [hq] at hy
        cases hy
        obtain ⟨_, o, hf, hb, hl, rfl⟩ := sell_ok.1 he
        have sw := ((p_round_exact q st).1 o).1.1 hw
        exact ⟨_, round_put lt, isSafe_iff.2 (sw t (mem_takings.1 hf)).2⟩
      · exact ⟨q, by rw [round_put_ne e']; exact hq, hw⟩
    | undo i =>
      obtain ⟨y, e, hy, he, rfl⟩ := withRound_ok.1 c
      by_cases e' : i = k
      · subst e'
        rw [hq] at hy
        cases hy
        have he : Res.ok (undone q) = .ok e := he
        cases he
        unfold undone at f2 ⊢
        cases p : q.past with
        | nil => exact ⟨q, round_put lt, hw⟩
        | cons m l =>
          rw [p] at f2
          exact absurd rfl (f2 rfl)
      · exact ⟨q, by rw [round_put_ne e']; exact hq, hw⟩
theorem well_life {k : Nat} : ∀ (c d : List (List UInt8)) (w : World), Well k w → FollowsAll k w (c ++ d) → Well k (behind w c)
  | [], _, _, h, _ => h
  | r :: c, d, w, h, f => well_life c d _ (well_step h f.1) f.2
theorem p_Hints_keep : Hints_keep := fun a b k q _ hq hw hf c d r t hb hr => by
  subst hb
  have W := well_life (k := k) c (r :: d) (behind start a) ⟨good_life a, q, hq, hw⟩ hf
  rw [behind_app]
  generalize behind (behind start a) c = w at W
  obtain ⟨g, y, hy, yw⟩ := W
  have st := well_stock g hy
  intro bad
  cases e : callOn w (.sell k t) with
  | ok z =>
    rw [step_ok hr e] at bad
    exact absurd bad said0'
  | bad l =>
    rw [step_bad hr e] at bad
    rcases withRound_bad.1 e with ⟨n, _⟩ | ⟨x, hx, h⟩
    · rw [n] at hy; cases hy
    · rw [hy] at hx
      cases hx
      rcases sell_bad.1 h with ⟨_, rfl⟩ | ⟨_, (⟨_, rfl⟩ | ⟨o, (⟨_, rfl⟩ | ⟨ht, (⟨nb, rfl⟩ | ⟨_, _, rfl⟩)⟩)⟩)⟩
      · exact absurd (show bytesOf _ = _ from bad) (by decide)
      · exact absurd (show bytesOf _ = _ from bad) (by decide)
      · exact absurd (show bytesOf _ = _ from bad) (by decide)
      · have sw := ((p_round_exact y st).1 o).1.1 yw
        have := (sw t (mem_takings.1 ht)).1
        rw [nb] at this
        cases this
      · exact absurd (show bytesOf _ = _ from bad) (by decide)

/-! ### no answer is long -/
theorem numbers_length (l : List Nat) : (putNumbers l).length = l.length + 1 := by
  unfold putNumbers putList8 putU8
  simp
  induction l with
  | nil => rfl
  | cons a l ih => simp [ih]; omega
theorem maybe_length {o : Option Stock} (h : ∀ f, o = some f → f.length ≤ 3) : (putMaybe putNumbers o).length ≤ 5 := by
  cases o with
  | none => simp [putMaybe]
  | some f =>
    have := h f rfl
    simp only [putMaybe, List.length_cons, numbers_length]
    omega
theorem stock_short {p : Shop} {s : Stock} (hp : IsShop p) (h : IsStock p s) : s.length ≤ 3 := by
  rw [stock_length h]
  exact hp.1.2.1
theorem filling_short {p : Shop} {s : Stock} (hp : IsShop p) (h : IsStock p s) : (putMaybe putNumbers (fillingOf p s)).length ≤ 5 := maybe_length fun f e => by
  rw [(filling_some h e).1.1]
  exact stock_short hp h
theorem answer_at {t : List Nat} {s : Stock} {f : Shop → Stock → Octets} {o : Octets} (h : atStock t s f = .ok o) (k : ∀ p, IsShop p → IsStock p s → (f p s).length ≤ 900) : o.length ≤ 900 := by
  unfold atStock at h
  rw [then_ok] at h
  obtain ⟨p, hp, h⟩ := h
  rw [map_ok] at h
  obtain ⟨z, hz, rfl⟩ := h
  obtain ⟨hs, rfl⟩ := stock_ok.1 hz
  exact k p (shop_of_ok hp) hs
theorem flat_length {l : List Stock} (h : ∀ s, s ∈ l → s.length ≤ 3) : (l.flatMap putNumbers).length ≤ 4 * l.length := by
  induction l with
  | nil => simp
  | cons s l ih =>
    have a := h s List.mem_cons_self
    have b := ih fun x hx => h x (List.mem_cons_of_mem _ hx)
    rw [List.flatMap_cons, List.length_append, numbers_length, List.length_cons]
    omega
theorem safe_length (p : Shop) : (safeStocks p).length ≤ bound p := by
  obtain ⟨m, e, _⟩ := safe_kept p
  rw [e]
  have : ∀ n, (kept p n).length ≤ bound p := fun n => by
    induction n with
    | zero => exact Nat.le_refl _
    | succ n ih => exact Nat.le_trans (List.length_filter_le _ _) ih
  exact this m
theorem answer_ok {w : World} {x : Request} {z : World × Octets} (g : Good w) (h : callOn w x = .ok z) : z.2.length ≤ 900 := by
  cases x with
  | format t =>
    obtain ⟨o, k1, rfl⟩ := told_ok_iff.1 h; have h := k1; clear k1
    unfold formatCall at h
    rw [map_ok] at h
    obtain ⟨p, hp, rfl⟩ := h
    show (putUnits (shopUnits p)).length ≤ 900
    have := shop_length (shop_of_ok hp)
    unfold putUnits putList16 putU16
    have e : ∀ l : Units, (l.flatMap fun c => putU8 c.toNat).length = l.length := fun l => by
      induction l with
      | nil => rfl
      | cons a l ih => rw [List.flatMap_cons, List.length_append, ih]; simp [putU8]; omega
    rw [List.length_append, e]
    simp
    omega
  | safe t s =>
    obtain ⟨o, k1, rfl⟩ := told_ok_iff.1 h; have h := k1; clear k1
    refine answer_at (f := fun p s => putFlag (isSafe p s)) h fun p _ _ => ?_
    unfold putFlag
    split <;> simp
  | filling t s =>
    obtain ⟨o, k1, rfl⟩ := told_ok_iff.1 h; have h := k1; clear k1
    exact answer_at h fun p hp hs => Nat.le_trans (filling_short hp hs) (by decide)
  | doom t s =>
    obtain ⟨o, k1, rfl⟩ := told_ok_iff.1 h; have h := k1; clear k1
    refine answer_at h fun p _ _ => ?_
    cases doomOf p s <;> simp [putMaybe, putU16]
  | attack t s =>
    obtain ⟨o, k1, rfl⟩ := told_ok_iff.1 h; have h := k1; clear k1
    refine answer_at h fun p hp hs => Nat.le_trans (maybe_length fun f e => ?_) (by decide)
    rw [(attack_some hs e).1.1]
    exact hp.1.2.1
  | least t =>
    obtain ⟨o, k1, rfl⟩ := told_ok_iff.1 h; have h := k1; clear k1
    unfold leastCall at h
    rw [map_ok] at h
    obtain ⟨p, hp, rfl⟩ := h
    have sp := shop_of_ok hp
    show (putU16 (leastOf p).length ++ (leastOf p).flatMap putNumbers).length ≤ 900
    have a := flat_length (l := leastOf p) fun s hs => stock_short sp (mem_least.1 hs).1
    have b : (leastOf p).length ≤ 125 := Nat.le_trans (List.length_filter_le _ _) (Nat.le_trans (safe_length p) (bound_le sp))
    rw [List.length_append, show (putU16 (leastOf p).length).length = 2 from rfl]
    omega
  | fewest t =>
    obtain ⟨o, k1, rfl⟩ := told_ok_iff.1 h; have h := k1; clear k1
    unfold fewestCall at h
    rw [map_ok] at h
    obtain ⟨p, hp, rfl⟩ := h
    show (putMaybe putU8 (fewestItems p) ++ putMaybe putU8 (fewestOnto p)).length ≤ 900
    cases fewestItems p <;> cases fewestOnto p <;> simp [putMaybe, putU8]
  | parting t u =>
    obtain ⟨o, k1, rfl⟩ := told_ok_iff.1 h; have h := k1; clear k1
    unfold partingCall at h
    rw [then_ok] at h
    obtain ⟨p, hp, h⟩ := h
    rw [then_ok] at h
    obtain ⟨q, hq, h⟩ := h
    rw [then_ok] at h
    obtain ⟨_, _, h⟩ := h
    cases h
    refine Nat.le_trans (maybe_length fun f e => ?_) (by decide)
    exact stock_short (shop_of_ok hp) (parting_some e).1
  | round k t =>
    obtain ⟨_, p, _, rfl⟩ := round_ok.1 h
    simp
  | fill k f =>
    obtain ⟨q, e, _, he, rfl⟩ := withRound_ok.1 h
    obtain ⟨_, _, _, _, rfl⟩ := fill_ok.1 he
    simp
  | sell k f =>
    obtain ⟨q, e, _, he, rfl⟩ := withRound_ok.1 h
    obtain ⟨_, _, _, _, _, rfl⟩ := sell_ok.1 he
    simp
  | undo k =>
    obtain ⟨q, e, _, he, rfl⟩ := withRound_ok.1 h
    have he : Res.ok (undone q) = .ok e := he
    cases he
    unfold undone
    cases q.past <;> simp [putFlag]
  | look k =>
    obtain ⟨o, k1, rfl⟩ := told_ok_iff.1 h; have h := k1; clear k1
    unfold lookCall at h
    rw [map_ok] at h
    obtain ⟨q, hq, rfl⟩ := h
    have hq : roundAt w k = some q := by
      unfold orError at hq
      cases c : roundAt w k with
      | none => rw [c] at hq; cases hq
      | some y => rw [c] at hq; cases hq; rfl
    have st := well_stock g hq
    have sp := (g.2 k q hq).1
    show (putNumbers (stockNow q) ++ (putFlag (isOpen q) ++ (putFlag (isWell q) ++ putMaybe putNumbers (hintOf q)))).length ≤ 900
    have a := stock_short sp st
    have b : (putMaybe putNumbers (hintOf q)).length ≤ 5 := by
      unfold hintOf
      split
      · simp [putMaybe]
      · exact filling_short sp st
    have c : ∀ b, (putFlag b).length = 1 := fun b => by cases b <;> rfl
    simp only [List.length_append, numbers_length, c]
    omega
theorem p_Answers_fit : Answers_fit := fun l r => by
  have g := good_life l
  have bl : ∀ o : Octets, (bytesOf o).length = o.length := fun o => by unfold bytesOf; simp
  rcases step_cases (behind start l) r with ⟨_, e⟩ | ⟨x, _, (⟨e, k, q⟩ | ⟨z, k, q⟩)⟩
  · rw [e]
    show (2 : Nat) ≤ 1000
    decide
  · rw [q, bl]
    obtain ⟨n, m, rfl, _, _, h⟩ := err_call k
    simp
    omega
  · rw [q, bl]
    have := answer_ok g k
    simp
    omega
end RsP
set_option Elab.async false
set_option linter.all false
set_option maxRecDepth 100000
set_option maxHeartbeats 4000000
namespace Fs
open PySem PySem.Spec PyProof.Rows L2 FsX
open Evl (Ex Ex.refl Ex.trans Ex.new Ex.mut fresh_back)
def flagN (b : Bool) : List Nat := if b then [1] else [0]
def lookN (ρ : Rs.Round) : List Nat := (ρ.now.1.length :: ρ.now.1) ++ flagN ρ.now.2 ++ flagN (Rs.isWell ρ) ++ maybeRow (Rs.hintOf ρ)
def aorOf (n : Nat) (f : List Nat) (ρ : Rs.Round) : Rs.Res (Rs.Round × List Nat) := if n = 13 then .ok (ρ, lookN ρ) else if n = 12 then .ok (Rs.undone ρ) else if n = 10 then Rs.fillIn f ρ else Rs.sellIn f ρ
theorem fillIn_o {f : List Nat} {ρ : Rs.Round} {e : Rs.Round × Rs.Octets} (h : Rs.fillIn f ρ = .ok e) : e.2 = [] := by
  obtain ⟨_, _, _, _, h⟩ := RsP.fill_ok.1 h
  rw [h]
theorem sellIn_o {f : List Nat} {ρ : Rs.Round} {e : Rs.Round × Rs.Octets} (h : Rs.sellIn f ρ = .ok e) : e.2 = [] := by
  obtain ⟨_, _, _, _, _, h⟩ := RsP.sell_ok.1 h
  rw [h]
section
variable {P : Program} {w : World} {K : PySem.W.Frag} {mg : Str → Option Value} {base : Heap}
def spAor (K : PySem.W.Frag) : Sp := fun vs H Q E => ∃ (M : List Addr) (x pl q : Addr) (ρ : Rs.Round) (n : Nat) (us : List V) (ps : List PV) (f : List Nat), vs = [.int n, .ref x, .ref q] ∧ RoAt K M x pl H ρ ∧ H q = some (.lst us) ∧ Paired (PvAt H) us ps ∧ (n = 10 ∨ n = 11 → ∃ k, ps = [.seat k, .row f]) ∧ (n = 10 ∨ n = 11 ∨ n = 12 ∨ n = 13) ∧
  (∀ ρ' o, aorOf n f ρ = .ok (ρ', o) → ∀ r H1 H', Chg K M x pl H H1 ρ' → Ex H1 H' → H1 r = none → L H' r o → Q (.ref r) H') ∧ (∀ e, aorOf n f ρ = .bad e → Out K (xRef K) H e E)
theorem Chg.refl {M : List Addr} {x pl : Addr} {H : Hp} {ρ : Rs.Round} (h : RoAt K M x pl H ρ) : Chg K M x pl H H ρ := ⟨Ex.refl _, fun _ _ _ _ _ h => h, fun c o h => ⟨o, h⟩, h⟩
theorem k_aor (z : Z K mg) : Kp P w K mg base (L2.CX P w) 7 (He.ga K "answer_of_round") ["number", "going", "parts"] (spAor K) := by
  have nd := sc_answer_of_round.nd
  obtain ⟨t1, h13⟩ := c_LOOK z
  obtain ⟨t2, h12⟩ := c_UNDO z
  obtain ⟨t3, h10⟩ := c_FILL z
  obtain ⟨t4, h11⟩ := c_SELL z
  refine kpX (f_answer_of_round z) sc_answer_of_round (fun vs H Q E h => ?_) fun cdv A outer s H vs Q E hr h => ⟨_,
    (pss_cons (ps_if (pt_cmpR op_eq (pv 0) (pe_glob (v := .int 13) (by rfl) h13 ⟨_, rfl⟩) (nomark _)) (pss_cons (ps_asg (Kp.meth0 (k_outlook z) (cl_Round z) (me_Round_outlook z) (Room.mono hr (by decide)) pass0 (pv 1)) (pg_tup rfl (pgs_cons (pg_name (i := 3) nd rfl (Or.inl rfl)) (pgs_cons (pg_name (i := 4) nd rfl (Or.inl rfl)) pgs_nil)))) (pss_one (ps_ret (pe_op op_cat (pe_op op_cat (pe_op op_cat ((Kp.call ((k_row z)) (Room.mono (hr) (by decide)) (by rfl) ((g_write_row z)) pass0 ((pa_cons (pe_fld (pv 1) rfl) pa_nil)))) ((Kp.call ((k_flag z)) (Room.mono (hr) (by decide)) (by rfl) ((g_write_flag z)) pass0 ((pa_cons (pe_fld (pv 1) rfl) pa_nil))))) ((Kp.call ((k_flag z)) (Room.mono (hr) (by decide)) (by rfl) ((g_write_flag z)) pass0 ((pa_cons (pv 3) pa_nil))))) ((Kp.call ((k_mrow z)) (Room.mono (hr) (by decide)) (by rfl) ((g_write_maybe_row z)) pass0 ((pa_cons (pv 4) pa_nil)))))))) pss_nil) (pss_cons (ps_if (pt_cmpR op_eq (pv 0) (pe_glob (v := .int 12) (by rfl) h12 ⟨_, rfl⟩) (nomark _)) (pss_one (ps_ret ((Kp.call ((k_flag z)) (Room.mono (hr) (by decide)) (by rfl) ((g_write_flag z)) pass0 ((pa_cons (Kp.meth0 (k_undo z) (cl_Round z) (me_Round_undo z) (Room.mono hr (by decide)) pass0 (pv 1)) pa_nil)))))) pss_nil) (pss_cons (ps_if (pt_cmpR op_eq (pv 0) (pe_glob (v := .int 10) (by rfl) h10 ⟨_, rfl⟩) (nomark _)) (pss_one (ps_expr ((Kp.meth ((k_fill z)) ((cl_Round z)) ((me_Round_fill z)) (Room.mono hr (by decide)) (passX (takes_of rfl rfl rfl rfl)) ((pv 1)) ((pa_cons (pe_ix ix_list (pv 2) pe_int (fun _ _ => rfl)) pa_nil))))))
        (pss_one (ps_if (pt_cmpR op_eq (pv 0) (pe_glob (v := .int 11) (by rfl) h11 ⟨_, rfl⟩) (nomark _)) (pss_one (ps_expr ((Kp.meth ((k_sell z)) ((cl_Round z)) ((me_Round_sell z)) (Room.mono hr (by decide)) (passX (takes_of rfl rfl rfl rfl)) ((pv 1)) ((pa_cons (pe_ix ix_list (pv 2) pe_int (fun _ _ => rfl)) pa_nil)))))) pss_nil))) (pss_one (ps_ret (pe_lst pa_nil)))))), ?_⟩
  · obtain ⟨_, _, _, _, _, _, _, _, _, rfl, _⟩ := h; rfl
  · obtain ⟨M, x, pl, q', ρ, n, us, ps, f, rfl, hR, hq', hus, hps, hn, q, qe⟩ := h
    have hR0 := hR
    obtain ⟨⟨dx, sa, ka, hx, hs, hka⟩, _, mx, mp, ne, st, al, l30, hmk⟩ := hR
    have ok := hs.1
    have hS := st _ (List.mem_cons_self ..)
    have lk : (oFs sa ka ρ.now.2 pl).lookup ("stock" : Str) = some (.ref ka) := rfl
    have lse : (oFs sa ka ρ.now.2 pl).lookup ("selling" : Str) = some (.bl ρ.now.2) := rfl
    have hkaH : T H ka ρ.now.1 := hka.ex exRemS
    unfold aorOf at q qe
    refine ⟨_, rfl, rfl, _, rfl, eq_if (m := 13) (fun g => ?_) (fun g => ?_)⟩
    · rw [if_pos g] at q
      have q := q _ _ rfl
      refine ⟨_, rfl, x, dx, _, rfl, hx, rfl, M, x, pl, ρ, rfl, hR0, fun r v H1 e1 hr1 hv => ?_⟩
      refine ⟨r, _, rfl, SqT.of hr1, rfl, ?_⟩
      simp only [e1 _ _ hx, lk, cl_Round z, na_Round_stock z, Option.some.injEq, HO.ins.injEq, tNil, tCons, tC, tDrop, tOp, rI0, tCB, rEq, rNe, tNext, tRet, tRetN, tSeq, tAsg, tAug, tTest, tIfS, tIf, tNot, tAnd, tOr, tBM, tBM0, tCall, tTup, tTupZ, tLst, tFld, sFld, tMeth, tMake, tB, tYes, tCmp, t2I, tIsN, tNotN, tDGet, tDGet1, tDGet2, tDIn, tDNotIn, tAndV, tOrV, tNotV, tDNewT, sDPut, tSl, tPart, tNoPart, rSlL, tThen, tCntZ, tFgt, tChain, gCons, gNil, gTup, rCatZ, rCatA, rCat, rAppend, rExtend, rIn, rInD, rNotInD, rEqD, rNeD, rIxL, rIxT, tSub, tAdd, tBreak, tCont, tPar, rSum, rSumT, rMaxT, tyV, L2.start, List.map_cons, List.map_nil, List.length_cons, List.length_nil, List.cons_append, List.nil_append, List.append_nil, List.replicate, Nat.reduceAdd, Nat.reduceSub, wipe, List.set_cons_zero, List.set_cons_succ, nox_K, cxOf_K, blk_K, suite_K, tVar_0, tVar_1, tVar_2, tVar_3, tVar_4, tVar_5, tVar_6, tVar_7, tVar_8, tVar_9, tVar_10, tVar_11, tVar_12, tVar_13, tVar_14, tVar_15, gName_0, gName_1, gName_2, gName_3, gName_4, gName_5, gName_6, gName_7, gName_8, gName_9, gName_10, gName_11, gName_12, gName_13, gName_14, gName_15, and_assoc, exists_eq_left', exists_eq_left, exists_eq, exists_eq', exists_and_left, exists_const, and_true, true_and, V.int.injEq, V.ref.injEq, V.bl.injEq, V.str.injEq, List.cons.injEq, and_self, scal, Bool.false_eq_true, if_false, if_true, reduceCtorEq, false_and, and_false, false_or, or_false, ↓reduceIte]
      have s3 := stock3 ok hS
      refine ⟨ka, ρ.now.1, rfl, hkaH.ex e1, by omega, fun l1 H2 e2 f1 hl1 => ?_⟩
      refine ⟨RN K, dx, _, e2 _ _ (e1 _ _ hx), cl_Round z, na_Round_selling z, _, lse, _, rfl, fun l2 H3 e3 f2 hl2 => ?_⟩
      refine ⟨l1, rfl, l2, rfl, _, (hl1.ex e3).lst, _, hl2.lst, by rw [nv_len, nv_len, sizeLine_eq]; simp only [List.length_cons]; cases ρ.now.2 <;> simp only [Bool.false_eq_true, if_false, if_true, List.length_cons, List.length_nil] <;> omega, fun l3 fl3 => ?_⟩
      rw [← nv_app]
      have e4 : Ex H3 (upd H3 l3 (.lst (nv (ρ.now.1.length :: ρ.now.1 ++ if ρ.now.2 = true then [1] else [0])))) := Ex.new fl3
      refine ⟨_, rfl, fun l4 H4 e5 f4 hl4 => ?_⟩
      refine ⟨l4, rfl, _, e5 _ _ upd_same, _, hl4.lst, by rw [nv_len, nv_len, sizeLine_eq]; simp only [List.length_cons, List.length_append]; cases ρ.now.2 <;> cases Rs.isWell ρ <;> simp only [Bool.false_eq_true, if_false, if_true, List.length_cons, List.length_nil] <;> omega, fun l5 fl5 => ?_⟩
      rw [← nv_app]
      have e6 : Ex H4 (upd H4 l5 (.lst (nv ((ρ.now.1.length :: ρ.now.1 ++ if ρ.now.2 = true then [1] else [0]) ++ if Rs.isWell ρ = true then [1] else [0])))) := Ex.new fl5
      have hint3 : ∀ s, Rs.hintOf ρ = some s → s.length ≤ 3 := fun s h => by
        unfold Rs.hintOf Rs.isOpen Rs.stockNow at h
        split at h
        · cases h
        · have := (RsP.filling_some hS h).1.1; omega
      have eall := (e2.trans (e3.trans (e4.trans (e5.trans e6))))
      have hvx : RO (upd H4 l5 (.lst (nv ((ρ.now.1.length :: ρ.now.1 ++ if ρ.now.2 = true then [1] else [0]) ++ if Rs.isWell ρ = true then [1] else [0])))) v (Rs.hintOf ρ) := by
        rcases hv with h | ⟨l, s, h1, h2, h3⟩
        · exact .inl h
        · exact .inr ⟨l, s, h1, h2, h3.ex eall⟩
      refine ⟨v, _, rfl, hvx, fun s h => by have := hint3 s h; omega, fun l6 H5 e7 f6 hl6 => ?_⟩
      have hml : (maybeRow (Rs.hintOf ρ)).length ≤ 5 := by
        cases hh : Rs.hintOf ρ with
        | none => decide
        | some s => have := hint3 s hh; show (1 :: s.length :: s).length ≤ 5; simp only [List.length_cons]; omega
      refine ⟨l6, rfl, _, e7 _ _ upd_same, _, hl6.lst, by rw [nv_len, nv_len, sizeLine_eq]; simp only [List.length_cons, List.length_append]; cases ρ.now.2 <;> cases Rs.isWell ρ <;> simp only [Bool.false_eq_true, if_false, if_true, List.length_cons, List.length_nil] <;> omega, fun l7 fl7 => ?_⟩
      refine q l7 H _ (Chg.refl hR0) ((e1.trans (eall.trans e7)).trans (Ex.new fl7)) (fresh_back (e1.trans (eall.trans e7)) fl7) ?_
      show upd _ _ _ l7 = _
      rw [upd_same, ← nv_app]; rfl
    rw [if_neg g] at q qe
    refine ⟨_, rfl, rfl, _, rfl, eq_if (m := 12) (fun g => ?_) (fun g => ?_)⟩
    · rw [if_pos g] at q
      have q := q (Rs.undone ρ).1 (Rs.undone ρ).2 rfl
      refine ⟨_, rfl, x, dx, _, rfl, hx, rfl, M, x, pl, ρ, rfl, hR0, fun H1 ch => ?_⟩
      refine ⟨_, rfl, fun r H2 e2 fr hr2 => q r H1 H2 ch e2 fr ?_⟩
      have e : (Rs.undone ρ).2 = if (!ρ.past.isEmpty) = true then [1] else [0] := by
        unfold Rs.undone
        cases ρ.past <;> rfl
      rw [e]; exact hr2
    rw [if_neg g] at q qe
    refine ⟨_, rfl, rfl, _, rfl, eq_if (m := 10) (fun g => ?_) (fun g => ?_)⟩
    · rw [if_pos g] at q qe
      obtain ⟨k, rfl⟩ := hps (.inl g)
      cases hus with
      | cons u0 hus => cases hus with
        | cons u1 hus =>
          cases hus
          obtain ⟨a1, rfl, ha1⟩ := u1
          refine ⟨_, rfl, x, dx, _, rfl, hx, rfl, _, rfl, q', _, _, _, rfl, rfl, sq_of hq', rfl, M, x, pl, a1, ρ, f, rfl, hR0, ha1, fun ρ' o ho H1 ch => ?_, qe⟩
          have := fillIn_o ho
          simp only at this
          subst this
          exact ⟨by decide, fun r hr' => q ρ' [] ho r H1 _ ch (Ex.new hr') hr' upd_same⟩
    rw [if_neg g] at q qe
    refine ⟨_, rfl, rfl, _, rfl, eq_if (m := 11) (fun g => ?_) (fun g => ?_)⟩
    · obtain ⟨k, rfl⟩ := hps (.inr g)
      cases hus with
      | cons u0 hus => cases hus with
        | cons u1 hus =>
          cases hus
          obtain ⟨a1, rfl, ha1⟩ := u1
          refine ⟨_, rfl, x, dx, _, rfl, hx, rfl, _, rfl, q', _, _, _, rfl, rfl, sq_of hq', rfl, M, x, pl, a1, ρ, f, rfl, hR0, ha1, fun ρ' o ho H1 ch => ?_, qe⟩
          have := sellIn_o ho
          simp only at this
          subst this
          exact ⟨by decide, fun r hr' => q ρ' [] ho r H1 _ ch (Ex.new hr') hr' upd_same⟩
    · rcases hn with k | k | k | k
      all_goals omega
end
end Fs
set_option Elab.async false
set_option linter.all false
set_option maxRecDepth 100000
set_option maxHeartbeats 4000000
namespace Fs
open PySem PySem.Spec PyProof.Rows L2 FsX
open Evl (Ex Ex.refl Ex.trans Ex.new Ex.mut fresh_back)
abbrev SE (K : PySem.W.Frag) : Addr := He.ga K "Session"
def sFs (l : Addr) : List (Str × V) := putF ("seats" : Str) (.ref l) []
def seatV : Option (Addr × Addr) → V
  | none => .non
  | some e => .ref e.1
/-- a session stands here -/
structure SeAt (K : PySem.W.Frag) (G M : List Addr) (sx l : Addr) (rs : List (Option (Addr × Addr))) (H : Hp) (ω : Rs.World) : Prop where
  hx : ∃ dx, H sx = some (.ins (SE K) dx (sFs l))
  hl : H l = some (.lst (rs.map seatV))
  n8 : rs.length = 8
  w8 : ω.rounds.length = 8
  no : ∀ k, k < 8 → rs[k]? = some none → Rs.roundAt ω k = none
  yes : ∀ (k : Nat) (e : Addr × Addr), rs[k]? = some (some e) → ∃ ρ, Rs.roundAt ω k = some ρ ∧ RoAt K M e.1 e.2 H ρ ∧ e.1 ≠ sx ∧ e.1 ≠ l ∧ e.2 ≠ sx ∧ e.2 ≠ l
  two : ∀ (k j : Nat) (e f : Addr × Addr), k ≠ j → rs[k]? = some (some e) → rs[j]? = some (some f) → e.1 ≠ f.1 ∧ e.2 ≠ f.2 ∧ e.1 ≠ f.2 ∧ e.2 ≠ f.1
  ms : sx ∈ M
  ml : l ∈ M
  nsl : sx ≠ l
  tk : ∀ c, c ∈ M → ∃ o, H c = some o ∧ ∀ xs, o ≠ .tup xs
  gs : ∀ c, c ∈ G → c ∈ M ∧ c ≠ sx ∧ c ≠ l ∧ ∀ (k : Nat) (e : Addr × Addr), rs[k]? = some (some e) → c ≠ e.1 ∧ c ≠ e.2
section
variable {P : Program} {w : World} {K : PySem.W.Frag} {mg : Str → Option Value} {base : Heap}
theorem SeAt.mv {G M : List Addr} {sx l : Addr} {rs : List (Option (Addr × Addr))} {H H' : Hp} {ω : Rs.World} (h : SeAt K G M sx l rs H ω) (e : Ex H H') : SeAt K G M sx l rs H' ω := by
  obtain ⟨⟨dx, h1⟩, h2, h3, h4, h5, h6, h7, h8, h9, h10, h11, h12⟩ := h
  refine ⟨⟨dx, e _ _ h1⟩, e _ _ h2, h3, h4, h5, fun k f hf => ?_, h7, h8, h9, h10, fun c hc => let ⟨o, a, b⟩ := h11 c hc; ⟨o, e _ _ a, b⟩, h12⟩
  obtain ⟨ρ, a, b, c⟩ := h6 k f hf
  exact ⟨ρ, a, b.mv e, c⟩
def spSesI (K : PySem.W.Frag) : Sp := fun vs H Q _ => ∃ (x dx : Addr), vs = [.ref x] ∧ H x = some (.ins (SE K) dx []) ∧ ∀ l H', H l = none → l ≠ x → (∀ c o, c ≠ x → H c = some o → H' c = some o) → H' x = some (.ins (SE K) dx (sFs l)) → H' l = some (.lst ((List.replicate 8 (none : Option (Addr × Addr))).map seatV)) → Q .non H'
theorem k_Session_init (z : Z K mg) : Kp P w K mg base CX0 1 (He.ma K (He.ga K "Session") "__init__") ["self"] (spSesI K) := by
  have nd := sc_Session_init.nd
  obtain ⟨t8, h8⟩ := c_SEATS z
  refine kp0 (f_Session_init z) sc_Session_init (fun vs H Q E h => ?_) fun cdv A outer s H vs Q E hr h => ⟨_,
    (pss_one (ps_fld (pv 0) (pe_lc (g := gName 1) (own := [("seat", 1)]) rfl nd (pi_range1 (by rfl) (b_range z) (pa_cons (pe_glob (v := .int 8) (by rfl) h8 ⟨_, rfl⟩) pa_nil)) (blkOk_by (N := ["self", "seat"]) (sc := defScope s_Session_init) (by decide +kernel)) (fun _ _ _ _ _ => (pg_name (i := 1) nd rfl (Or.inl rfl))) (fun _ _ _ _ _ => pts_nil) (fun _ _ _ _ _ => pe_non)) rfl)), ?_⟩
  · obtain ⟨_, _, rfl, _⟩ := h; rfl
  · obtain ⟨x, dx, rfl, hx, q⟩ := h
    refine ⟨8, rfl, by decide, by decide, fun D hD => lc_range (lo := 0) (n := 8) (fun i H1 => Ex H H1 ∧ H1 D = some (.lst (List.replicate i .non))) ⟨Ex.new hD, upd_same⟩ ?_ ?_⟩
    · rintro i H1 hi ⟨e, hd⟩
      refine ⟨rfl, ?_⟩
      simp only [ tNil, tCons, tC, tDrop, tOp, rI0, tCB, rEq, rNe, tNext, tRet, tRetN, tSeq, tAsg, tAug, tTest, tIfS, tIf, tNot, tAnd, tOr, tBM, tBM0, tCall, tTup, tTupZ, tLst, tFld, sFld, tMeth, tMake, tB, tYes, tCmp, t2I, tIsN, tNotN, tDGet, tDGet1, tDGet2, tDIn, tDNotIn, tAndV, tOrV, tNotV, tDNewT, sDPut, tSl, tPart, tNoPart, rSlL, tThen, tCntZ, tFgt, tChain, gCons, gNil, gTup, rCatZ, rCatA, rCat, rAppend, rExtend, rIn, rInD, rNotInD, rEqD, rNeD, rIxL, rIxT, tSub, tAdd, tBreak, tCont, tPar, rSum, rSumT, rMaxT, tyV, L2.start, List.map_cons, List.map_nil, List.length_cons, List.length_nil, List.cons_append, List.nil_append, List.append_nil, List.replicate, Nat.reduceAdd, Nat.reduceSub, wipe, List.set_cons_zero, List.set_cons_succ, nox_K, cxOf_K, blk_K, suite_K, tVar_0, tVar_1, tVar_2, tVar_3, tVar_4, tVar_5, tVar_6, tVar_7, tVar_8, tVar_9, tVar_10, tVar_11, tVar_12, tVar_13, tVar_14, tVar_15, gName_0, gName_1, gName_2, gName_3, gName_4, gName_5, gName_6, gName_7, gName_8, gName_9, gName_10, gName_11, gName_12, gName_13, gName_14, gName_15, and_assoc, exists_eq_left', exists_eq_left, exists_eq, exists_eq', exists_and_left, exists_const, and_true, true_and, V.int.injEq, V.ref.injEq, V.bl.injEq, V.str.injEq, List.cons.injEq, and_self, scal, Bool.false_eq_true, if_false, if_true, reduceCtorEq, false_and, and_false, false_or, or_false, ↓reduceIte]
      refine ⟨_, hd, by rw [List.length_replicate, sizeLine_eq]; omega, Ex.mut e hD, ?_⟩
      rw [upd_same]
      exact congrArg (fun l => some (HO.lst l)) (List.replicate_succ' (n := i) (a := V.non)).symm
    · rintro H1 ⟨e, hd⟩
      have hx1 := e _ _ hx
      have dx' : D ≠ x := fun k => by rw [k, hx] at hD; cases hD
      refine ⟨_, rfl, x, SE K, dx, [], rfl, hx1, cl_Session z, na_Session_seats z, by decide, ?_⟩
      refine q D _ hD dx' (fun c o hc ho => by rw [upd_ne hc]; exact e _ _ ho) upd_same ?_
      rw [upd_ne dx']; exact hd
def aohOf (tx : Rs.Shop → List Nat) (n : Nat) (p : Rs.Shop) : List Nat := if n = 1 then tx p else if n = 6 then ((Rs.leastOf p).length % 256 :: (Rs.leastOf p).length / 256 :: rowsOf (Rs.leastOf p)) else maybeU8 (Rs.fewestItems p) ++ maybeU8 (Rs.fewestOnto p)
def spAoh (K : PySem.W.Frag) (tx : Rs.Shop → List Nat) : Sp := fun vs H Q _ => ∃ (n : Nat) (sa : Addr) (p : Rs.Shop), vs = [.int n, .ref sa] ∧ ShopAt (SH K) H sa p ∧ Ans H Q (aohOf tx n p)
end
end Fs
set_option Elab.async false
set_option linter.all false
set_option maxRecDepth 100000
set_option maxHeartbeats 4000000
namespace Fs
open PySem PySem.Spec PyProof.Rows L2 FsX
open Evl (Ex Ex.refl Ex.trans Ex.new Ex.mut fresh_back)
/-- what a call does and answers, its parts known; sh: the shop of a text; tx: a shop's text in octets, as answered -/
def onRound (ω : Rs.World) (k n : Nat) (f : List Nat) : Rs.Res (Rs.World × List Nat) := if k < 8 then (match Rs.roundAt ω k with
  | none => .bad [7]
  | some ρ => match aorOf n f ρ with
    | .bad e => .bad e
    | .ok (ρ', o) => .ok (Rs.putRound ω k ρ', o)) else .bad [7]
def withText (sh : List Nat → Except (List Nat) Rs.Shop) (t : List Nat) (f : Rs.Shop → Rs.Res (Rs.World × List Nat)) : Rs.Res (Rs.World × List Nat) := match sh t with
  | .error e => .bad e
  | .ok p => f p
def callN (sh : List Nat → Except (List Nat) Rs.Shop) (tx : Rs.Shop → List Nat) (ω : Rs.World) (n : Nat) (ps : List PV) : Rs.Res (Rs.World × List Nat) := match ps with
  | [.text t, .text u] => withText sh t fun p => withText sh u fun o => if namesOf p = namesOf o ∧ Rs.roomsOf p = Rs.roomsOf o then .ok (ω, maybeRow (Rs.partingOf p o)) else .bad [6]
  | [.text t] => withText sh t fun p => .ok (ω, aohOf tx n p)
  | [.text t, .row s] => withText sh t fun p => if Rs.isBelow s (Rs.roomsOf p) = true then .ok (ω, aosOf n p s) else .bad [4]
  | [.seat k, .text t] => if k < 8 then withText sh t fun p => .ok (Rs.putRound ω k (Rs.newRound p), []) else .bad [7]
  | [.seat k, .row f] => onRound ω k n f
  | [.seat k] => onRound ω k n []
  | _ => .bad [1]
def Kd.fit : Kd → PV → Prop
  | .seat, .seat _ => True
  | .text, .text _ => True
  | .row, .row _ => True
  | _, _ => False
theorem part_fit {k : Kd} {l : List Nat} {v : PV} {r : List Nat} (h : partTake k l = some (v, r)) : k.fit v := by
  cases k with
  | seat =>
    have h : Rs.mapTake PV.seat Rs.takeU8 l = some (v, r) := h
    unfold Rs.mapTake Rs.next at h
    split at h
    · cases h; trivial
    · cases h
  | text =>
    have h : Rs.mapTake PV.text Rs.takeText l = some (v, r) := h
    unfold Rs.mapTake Rs.next at h
    split at h
    · cases h; trivial
    · cases h
  | row =>
    have h : Rs.mapTake PV.row Rs.takeNumbers l = some (v, r) := h
    unfold Rs.mapTake Rs.next at h
    split at h
    · cases h; trivial
    · cases h
theorem parts_fit : ∀ {ks : List Kd} {l : List Nat} {vs : List PV} {r : List Nat}, partsOf ks l = some (vs, r) → Paired Kd.fit ks vs
  | [], _, _, _, h => by cases h; exact .nil
  | k :: ks, l, vs, r, h => by
    have h : (match partTake k l with | none => none | some (v, r) => match partsOf ks r with | none => none | some (vs, r') => some (v :: vs, r')) = some (vs, r) := h
    cases h1 : partTake k l with
    | none => rw [h1] at h; cases h
    | some e1 =>
      obtain ⟨v, r1⟩ := e1
      rw [h1] at h
      simp only at h
      cases h2 : partsOf ks r1 with
      | none => rw [h2] at h; cases h
      | some e2 =>
        obtain ⟨vs', r2⟩ := e2
        rw [h2] at h
        cases h
        exact .cons (part_fit h1) (parts_fit h2)
theorem apart_fit {l : List Nat} {n : Nat} {ps : List PV} (h : apart l = some (n, ps)) : ∃ ks, kindsOf n = some ks ∧ Paired Kd.fit ks ps := by
  unfold apart at h
  cases h1 : Rs.takeU8 l with
  | none => rw [h1] at h; cases h
  | some e =>
    obtain ⟨m, r⟩ := e
    rw [h1] at h
    simp only at h
    cases h2 : kindsOf m with
    | none => rw [h2] at h; cases h
    | some ks =>
      rw [h2] at h
      simp only at h
      cases h3 : partsOf ks r with
      | none => rw [h3] at h; cases h
      | some f =>
        obtain ⟨vs, r'⟩ := f
        rw [h3] at h
        simp only at h
        split at h
        · cases h; exact ⟨ks, h2, parts_fit h3⟩
        · cases h
theorem fit_text {ps : List PV} (h : Paired Kd.fit [.text] ps) : ∃ t, ps = [.text t] := by
  cases h with
  | cons h k => cases k; rename_i v; cases v <;> first | exact h.elim | exact ⟨_, rfl⟩
theorem fit_seat {ps : List PV} (h : Paired Kd.fit [.seat] ps) : ∃ t, ps = [.seat t] := by
  cases h with
  | cons h k => cases k; rename_i v; cases v <;> first | exact h.elim | exact ⟨_, rfl⟩
theorem fit_tr {ps : List PV} (h : Paired Kd.fit [.text, .row] ps) : ∃ t s, ps = [.text t, .row s] := by
  cases h with
  | cons h k => cases k with
    | cons h2 k => cases k; rename_i v u; cases v <;> first | exact h.elim | (cases u <;> first | exact h2.elim | exact ⟨_, _, rfl⟩)
theorem fit_tt {ps : List PV} (h : Paired Kd.fit [.text, .text] ps) : ∃ t s, ps = [.text t, .text s] := by
  cases h with
  | cons h k => cases k with
    | cons h2 k => cases k; rename_i v u; cases v <;> first | exact h.elim | (cases u <;> first | exact h2.elim | exact ⟨_, _, rfl⟩)
theorem fit_st {ps : List PV} (h : Paired Kd.fit [.seat, .text] ps) : ∃ t s, ps = [.seat t, .text s] := by
  cases h with
  | cons h k => cases k with
    | cons h2 k => cases k; rename_i v u; cases v <;> first | exact h.elim | (cases u <;> first | exact h2.elim | exact ⟨_, _, rfl⟩)
theorem fit_sr {ps : List PV} (h : Paired Kd.fit [.seat, .row] ps) : ∃ t s, ps = [.seat t, .row s] := by
  cases h with
  | cons h k => cases k with
    | cons h2 k => cases k; rename_i v u; cases v <;> first | exact h.elim | (cases u <;> first | exact h2.elim | exact ⟨_, _, rfl⟩)
def PV.size : PV → Nat
  | .seat _ => 0
  | .text l => l.length
  | .row l => l.length
theorem many_len {n : Nat} {l a r : List Nat} (h : Rs.takeMany Rs.takeU8 n l = some (a, r)) : a.length ≤ l.length ∧ r.length ≤ l.length := by
  rw [takeMany_u8] at h
  split at h
  · cases h; exact ⟨by rw [List.length_take]; omega, by rw [List.length_drop]; omega⟩
  · cases h
theorem u8_len {l r : List Nat} {n : Nat} (h : Rs.takeU8 l = some (n, r)) : r.length ≤ l.length := by
  cases l with
  | nil => cases h
  | cons a l => cases h; simp
theorem part_len {k : Kd} {l : List Nat} {v : PV} {r : List Nat} (h : partTake k l = some (v, r)) : v.size ≤ l.length ∧ r.length ≤ l.length := by
  cases k with
  | seat =>
    have h : Rs.mapTake PV.seat Rs.takeU8 l = some (v, r) := h
    obtain ⟨n, h1, rfl⟩ := RsP.map_some.1 h
    exact ⟨Nat.zero_le _, u8_len h1⟩
  | text =>
    have h : Rs.mapTake PV.text Rs.takeText l = some (v, r) := h
    obtain ⟨t, h1, rfl⟩ := RsP.map_some.1 h
    obtain ⟨n, r1, h2, h3⟩ := RsP.next_some.1 h1
    obtain ⟨x, y, rfl, _⟩ := RsP.u16_some.1 h2
    have := many_len h3
    simp only [List.length_cons]
    exact ⟨Nat.le_trans this.1 (by omega), Nat.le_trans this.2 (by omega)⟩
  | row =>
    have h : Rs.mapTake PV.row Rs.takeNumbers l = some (v, r) := h
    obtain ⟨t, h1, rfl⟩ := RsP.map_some.1 h
    obtain ⟨n, r1, h2, h3⟩ := RsP.next_some.1 h1
    have e := u8_len h2
    have := many_len h3
    exact ⟨Nat.le_trans this.1 e, Nat.le_trans this.2 e⟩
theorem parts_len : ∀ {ks : List Kd} {l : List Nat} {vs : List PV} {r : List Nat}, partsOf ks l = some (vs, r) → ∀ v, v ∈ vs → v.size ≤ l.length
  | [], _, _, _, h => by cases h; intro v hv; cases hv
  | k :: ks, l, vs, r, h => by
    have h : (match partTake k l with | none => none | some (v, r) => match partsOf ks r with | none => none | some (vs, r') => some (v :: vs, r')) = some (vs, r) := h
    cases h1 : partTake k l with
    | none => rw [h1] at h; cases h
    | some e1 =>
      obtain ⟨v, r1⟩ := e1
      rw [h1] at h
      simp only at h
      cases h2 : partsOf ks r1 with
      | none => rw [h2] at h; cases h
      | some e2 =>
        obtain ⟨vs', r2⟩ := e2
        rw [h2] at h
        cases h
        have := part_len h1
        intro u hu
        rcases List.mem_cons.1 hu with rfl | hu
        · exact this.1
        · exact Nat.le_trans (parts_len h2 u hu) this.2
theorem apart_len {l : List Nat} {n : Nat} {ps : List PV} (h : apart l = some (n, ps)) : ∀ v, v ∈ ps → v.size ≤ l.length := by
  unfold apart at h
  cases h1 : Rs.takeU8 l with
  | none => rw [h1] at h; cases h
  | some e =>
    obtain ⟨m, r⟩ := e
    rw [h1] at h
    simp only at h
    cases h2 : kindsOf m with
    | none => rw [h2] at h; cases h
    | some ks =>
      rw [h2] at h
      simp only at h
      cases h3 : partsOf ks r with
      | none => rw [h3] at h; cases h
      | some f =>
        obtain ⟨vs, r'⟩ := f
        rw [h3] at h
        simp only at h
        split at h
        · cases h; intro v hv; exact Nat.le_trans (parts_len h3 v hv) (u8_len h1)
        · cases h
section
variable {P : Program} {w : World} {K : PySem.W.Frag} {mg : Str → Option Value} {base : Heap}
theorem shop_read {sh : List Nat → Except (List Nat) Rs.Shop} {t : List Nat} (hx : TextRes t (sh t)) {H : Hp} {b : Addr} (ha : L H b t) (hl : t.length ≤ 100000) {Q : VK} {E : XK} (qe : ∀ e, sh t = .error e → Out K (xRef K) H e E) (q : ∀ p, sh t = .ok p → ∀ r H', Ex H H' → ShopAt (SH K) (newS H H') r p → Q (.ref r) H') : spShop K [.ref b] H Q E := by
  refine ⟨b, t, rfl, ha, hl, ?_⟩
  cases h : sh t with
  | error e =>
    rw [h] at hx
    have hx : shopN t = .error e := hx
    refine ⟨fun e' he => ?_, fun d c s hd => ?_⟩
    · rw [hx] at he; cases he; exact qe e h
    · rw [hx] at hd; cases hd
  | ok p =>
    rw [h] at hx
    refine ⟨no_err hx, fun d c s hd => ?_⟩
    obtain ⟨s1, s2, s3, s4, s5, s6, s7⟩ := shop_same hx hd
    exact ⟨p, s1, s2, s3, s4, s5, s6, s7, q p h⟩
/-- the session goes on: its seats changed alone -/
def Nxt (K : PySem.W.Frag) (G M : List Addr) (sx l : Addr) (H H' : Hp) (ω' : Rs.World) : Prop := Ex (remL M H) (remL M H') ∧ (∀ c o, H c = some o → ∃ o', H' c = some o') ∧ (∀ c o, c ∈ G → H c = some o → H' c = some o) ∧ ∃ M' rs', (∀ c, c ∈ M → c ∈ M') ∧ (∀ c, c ∈ M' → c ∉ M → H c = none) ∧ SeAt K G M' sx l rs' H' ω'
theorem RoAt.keep {M : List Addr} {x pl : Addr} {H H' : Hp} {ρ : Rs.Round} (h : RoAt K M x pl H ρ) (e : Ex (remL M H) (remL M H')) (kx : H' x = H x) (kp : H' pl = H pl) (tk : ∀ c, c ∈ M → ∃ o, H' c = some o ∧ ∀ xs, o ≠ .tup xs) : RoAt K M x pl H' ρ := by
  obtain ⟨⟨dx, s, k, h1, h2, h3⟩, ⟨as, h4, h5⟩, a, b, c, d, f, g, _⟩ := h
  exact ⟨⟨dx, s, k, by rw [kx]; exact h1, mShop _ _ _ _ e h2, h3.ex e⟩, ⟨as, by rw [kp]; exact h4, Paired.mapP h5 fun _ _ k => T.ex k e⟩, a, b, c, d, f, g, tk⟩
theorem RoAt.grow {M M' : List Addr} {x pl : Addr} {H H' : Hp} {ρ : Rs.Round} (h : RoAt K M x pl H ρ) (e : Ex (remL M H) (remL M' H')) (kx : H' x = H x) (kp : H' pl = H pl) (sub : ∀ c, c ∈ M → c ∈ M') (tk : ∀ c, c ∈ M' → ∃ o, H' c = some o ∧ ∀ xs, o ≠ .tup xs) : RoAt K M' x pl H' ρ := by
  obtain ⟨⟨dx, s, k, h1, h2, h3⟩, ⟨as, h4, h5⟩, a, b, c, d, f, g, _⟩ := h
  exact ⟨⟨dx, s, k, by rw [kx]; exact h1, mShop _ _ _ _ e h2, h3.ex e⟩, ⟨as, by rw [kp]; exact h4, Paired.mapP h5 fun _ _ k => T.ex k e⟩, sub _ a, sub _ b, c, d, f, g, tk⟩
theorem put_len (ω : Rs.World) (k : Nat) (ρ : Rs.Round) : (Rs.putRound ω k ρ).rounds.length = ω.rounds.length := RsP.put_length ω k ρ
theorem SeAt.chg {G M : List Addr} {sx l x pl : Addr} {rs : List (Option (Addr × Addr))} {H H1 : Hp} {ω : Rs.World} {k : Nat} {ρ' : Rs.Round} (h : SeAt K G M sx l rs H ω) (hk : rs[k]? = some (some (x, pl))) (ch : Chg K M x pl H H1 ρ') : SeAt K G M sx l rs H1 (Rs.putRound ω k ρ') := by
  obtain ⟨eR, keep, ex, hR⟩ := ch
  have hh := h
  obtain ⟨⟨dx, h1⟩, h2, h3, h4, h5, h6, h7, h8, h9, h10, h11, h12⟩ := hh
  obtain ⟨ρ, _, hρ, n1, n2, n3, n4⟩ := h6 k _ hk
  have hk8 : k < ω.rounds.length := by
    have := (List.getElem?_eq_some_iff.1 hk).1; omega
  have tk : ∀ c, c ∈ M → ∃ o, H1 c = some o ∧ ∀ xs, o ≠ .tup xs := hR.tk
  refine ⟨⟨dx, keep _ _ h8 (Ne.symm n1) (Ne.symm n3) h1⟩, keep _ _ h9 (Ne.symm n2) (Ne.symm n4) h2, h3, by rw [put_len]; exact h4, fun j hj hn => ?_, fun j e he => ?_, h7, h8, h9, h10, tk, h12⟩
  · have : k ≠ j := fun e => by rw [← e, hk] at hn; cases hn
    rw [RsP.round_put_ne this]; exact h5 j hj hn
  · by_cases hkj : k = j
    · subst hkj
      rw [hk] at he
      cases he
      exact ⟨ρ', RsP.round_put hk8, hR, n1, n2, n3, n4⟩
    · obtain ⟨ρj, hj1, hj2, hj3⟩ := h6 j e he
      obtain ⟨d1, d2, d3, d4⟩ := h7 k j _ _ hkj hk he
      refine ⟨ρj, by rw [RsP.round_put_ne hkj]; exact hj1, hj2.keep eR ?_ ?_ tk, hj3⟩
      · obtain ⟨o, ho, _⟩ := h11 e.1 hj2.mx
        rw [ho]; exact keep _ _ hj2.mx (Ne.symm d1) (Ne.symm d4) ho
      · obtain ⟨o, ho, _⟩ := h11 e.2 hj2.mp
        rw [ho]; exact keep _ _ hj2.mp (Ne.symm d3) (Ne.symm d2) ho
def spCall (K : PySem.W.Frag) (sh : List Nat → Except (List Nat) Rs.Shop) (tx : Rs.Shop → List Nat) : Sp := fun vs H Q E => ∃ (G M : List Addr) (sx l a : Addr) (rs : List (Option (Addr × Addr))) (ω : Rs.World) (c : List Nat), vs = [.ref sx, .ref a] ∧ SeAt K G M sx l rs H ω ∧ L H a c ∧ c.length ≤ 70000 ∧
  (apart c = none → Out K (xRef K) H [1] E) ∧ (∀ n ps, apart c = some (n, ps) → (∀ e, callN sh tx ω n ps = .bad e → Out K (xRef K) H e E) ∧ (∀ ω' o, callN sh tx ω n ps = .ok (ω', o) → ∀ r H1 H', Nxt K G M sx l H H1 ω' → Ex H1 H' → H1 r = none → L H' r o → Q (.ref r) H'))
theorem k_call (z : Z K mg) {sh : List Nat → Except (List Nat) Rs.Shop} {tx : Rs.Shop → List Nat} (hsh : ∀ t, TextRes t (sh t)) {lv : Nat} (hlv : lv ≤ 7) (haoh : Kp P w K mg base CX0 lv (He.ga K "answer_of_shop") ["number", "shop"] (spAoh K tx)) : Kp P w K mg base (L2.CX P w) 8 (He.ma K (He.ga K "Session") "call") ["self", "request"] (spCall K sh tx) := by
  have nd := sc_Session_call.nd
  obtain ⟨t1, h1⟩ := c_FORMAT z
  obtain ⟨t2, h2⟩ := c_SAFE z
  obtain ⟨t3, h3⟩ := c_FILLING z
  obtain ⟨t4, h4⟩ := c_DOOM z
  obtain ⟨t5, h5⟩ := c_ATTACK z
  obtain ⟨t6, h6⟩ := c_LEAST z
  obtain ⟨t7, h7⟩ := c_FEWEST z
  obtain ⟨t8, h8⟩ := c_PARTING z
  obtain ⟨t9, h9⟩ := c_ROUND z
  obtain ⟨ts, hs8⟩ := c_SEATS z
  refine kpX (f_Session_call z) sc_Session_call (fun vs H Q E h => ?_) fun cdv A outer s H vs Q E hr h => ⟨_,
    (pss_cons (ps_asg ((Kp.call ((k_apart z)) (Room.mono hr (by decide)) (by rfl) ((g_take_apart z)) (passX (takes_of rfl rfl rfl rfl)) ((pa_cons (pv 1) pa_nil)))) (pg_tup rfl (pgs_cons (pg_name (i := 2) nd rfl (Or.inl rfl)) (pgs_cons (pg_name (i := 3) nd rfl (Or.inl rfl)) pgs_nil)))) (pss_cons (ps_if (pt_cmpR op_eq (pv 2) (pe_glob (v := .int 8) (by rfl) h8 ⟨_, rfl⟩) (nomark _)) (pss_one (ps_ret ((Kp.call ((k_aop z)) (Room.mono hr (by decide)) (by rfl) ((g_answer_parting z)) (passX (takes_of rfl rfl rfl rfl)) ((pa_cons (pe_ix ix_list (pv 3) pe_int (fun _ _ => rfl)) (pa_cons (pe_ix ix_list (pv 3) pe_int (fun _ _ => rfl)) pa_nil))))))) pss_nil) (pss_cons (ps_if (pt_cmpR op_in_seq (pv 2) (pe_tup (pa_cons (pe_glob (v := .int 1) (by rfl) h1 ⟨_, rfl⟩) (pa_cons (pe_glob (v := .int 6) (by rfl) h6 ⟨_, rfl⟩) (pa_cons (pe_glob (v := .int 7) (by rfl) h7 ⟨_, rfl⟩) pa_nil)))) (by rfl)) (pss_one (ps_ret (Kp.call haoh (Room.mono hr hlv) (by rfl) (g_answer_of_shop z) pass0 (pa_cons (pv 2) (pa_cons ((Kp.call ((k_read_shop z)) (Room.mono hr (by decide)) (by rfl) ((g_read_shop z)) (passX (takes_of rfl rfl rfl rfl)) ((pa_cons (pe_ix ix_list (pv 3) pe_int (fun _ _ => rfl)) pa_nil)))) pa_nil))))) pss_nil) (pss_cons (ps_if (pt_cmpR op_in_seq (pv 2) (pe_tup (pa_cons (pe_glob (v := .int 2) (by rfl) h2 ⟨_, rfl⟩) (pa_cons (pe_glob (v := .int 3) (by rfl) h3 ⟨_, rfl⟩) (pa_cons (pe_glob (v := .int 4) (by rfl) h4 ⟨_, rfl⟩) (pa_cons (pe_glob (v := .int 5) (by rfl) h5 ⟨_, rfl⟩) pa_nil))))) (by rfl)) (pss_one (ps_ret ((Kp.call ((k_aos z)) (Room.mono hr (by decide)) (by rfl) ((g_answer_of_stock z)) (passX (takes_of rfl rfl rfl rfl)) ((pa_cons (pv 2) (pa_cons ((Kp.call ((k_read_shop z)) (Room.mono hr (by decide)) (by rfl) ((g_read_shop z)) (passX (takes_of rfl rfl rfl rfl)) ((pa_cons (pe_ix ix_list (pv 3) pe_int (fun _ _ => rfl)) pa_nil)))) (pa_cons (pe_ix ix_list (pv 3) pe_int (fun _ _ => rfl)) pa_nil)))))))) pss_nil) (pss_cons (ps_if (pt_cmpR op_ge (pe_ix ix_list (pv 3) pe_int (fun _ _ => rfl)) (pe_glob (v := .int 8) (by rfl) hs8 ⟨_, rfl⟩) (nomark _)) (pss_one ((raise0 (x := "NoRound") z (by decide) ((k_eNoRound z)) rfl (takes_of rfl rfl rfl rfl) (Room.mono hr (by decide)) (by rfl) ((g_NoRound z))))) pss_nil) (pss_cons (ps_if (pt_cmpR op_eq (pv 2) (pe_glob (v := .int 9) (by rfl) h9 ⟨_, rfl⟩) (nomark _)) (pss_cons (ps_asg ((Kp.make ((k_Round_init z)) ((mk_Round z)) (Room.mono (hr) (by decide)) (by rfl) ((g_Round z)) pass0 ((pa_cons ((Kp.call ((k_read_shop z)) (Room.mono hr (by decide)) (by rfl) ((g_read_shop z)) (passX (takes_of rfl rfl rfl rfl)) ((pa_cons (pe_ix ix_list (pv 3) pe_int (fun _ _ => rfl)) pa_nil)))) pa_nil)))) (pg_sub (pe_fld (pv 0) rfl) (pe_ix ix_list (pv 3) pe_int (fun _ _ => rfl)) set_list)) (pss_one (ps_ret (pe_lst pa_nil)))) pss_nil) (pss_cons (ps_if (pt_cmp (pc_isN (pe_ix ix_list (pe_fld (pv 0) rfl) (pe_ix ix_list (pv 3) pe_int (fun _ _ => rfl)) (fun _ _ => rfl)))) (pss_one ((raise0 (x := "NoRound") z (by decide) ((k_eNoRound z)) rfl (takes_of rfl rfl rfl rfl) (Room.mono hr (by decide)) (by rfl) ((g_NoRound z))))) pss_nil) (pss_one (ps_ret ((Kp.call ((k_aor z)) (Room.mono hr (by decide)) (by rfl) ((g_answer_of_round z)) (passX (takes_of rfl rfl rfl rfl)) ((pa_cons (pv 2) (pa_cons (pe_ix ix_list (pe_fld (pv 0) rfl) (pe_ix ix_list (pv 3) pe_int (fun _ _ => rfl)) (fun _ _ => rfl)) (pa_cons (pv 3) pa_nil))))))))))))))), ?_⟩
  · obtain ⟨_, _, _, _, _, _, _, _, rfl, _⟩ := h; rfl
  · obtain ⟨G, M, sx, l, a, rs, ω, c, rfl, hS, ha, hc, qe, q⟩ := h
    refine ⟨_, rfl, a, c, rfl, ha, fun n ps hap r q' us H1 e1 hr1 hq1 hus => ?_, qe⟩
    obtain ⟨qb, qo⟩ := q n ps hap
    obtain ⟨ks, hks, hfit⟩ := apart_fit hap
    refine ⟨r, _, rfl, SqT.of hr1, rfl, ?_⟩
    have hsz := apart_len hap
    have nx0 : Nxt K G M sx l H H ω := ⟨Ex.refl _, fun c o h => ⟨o, h⟩, fun _ _ _ h => h, M, rs, fun _ h => h, fun _ h k => absurd h k, hS⟩
    have hAns : ∀ o, callN sh tx ω n ps = .ok (ω, o) → Ans H Q o := fun o h r H' e fr hr => qo ω o h r H H' nx0 e fr hr
    simp only [ tNil, tCons, tC, tDrop, tOp, rI0, tCB, rEq, rNe, tNext, tRet, tRetN, tSeq, tAsg, tAug, tTest, tIfS, tIf, tNot, tAnd, tOr, tBM, tBM0, tCall, tTup, tTupZ, tLst, tFld, sFld, tMeth, tMake, tB, tYes, tCmp, t2I, tIsN, tNotN, tDGet, tDGet1, tDGet2, tDIn, tDNotIn, tAndV, tOrV, tNotV, tDNewT, sDPut, tSl, tPart, tNoPart, rSlL, tThen, tCntZ, tFgt, tChain, gCons, gNil, gTup, rCatZ, rCatA, rCat, rAppend, rExtend, rIn, rInD, rNotInD, rEqD, rNeD, rIxL, rIxT, tSub, tAdd, tBreak, tCont, tPar, rSum, rSumT, rMaxT, tyV, L2.start, List.map_cons, List.map_nil, List.length_cons, List.length_nil, List.cons_append, List.nil_append, List.append_nil, List.replicate, Nat.reduceAdd, Nat.reduceSub, wipe, List.set_cons_zero, List.set_cons_succ, nox_K, cxOf_K, blk_K, suite_K, tVar_0, tVar_1, tVar_2, tVar_3, tVar_4, tVar_5, tVar_6, tVar_7, tVar_8, tVar_9, tVar_10, tVar_11, tVar_12, tVar_13, tVar_14, tVar_15, gName_0, gName_1, gName_2, gName_3, gName_4, gName_5, gName_6, gName_7, gName_8, gName_9, gName_10, gName_11, gName_12, gName_13, gName_14, gName_15, and_assoc, exists_eq_left', exists_eq_left, exists_eq, exists_eq', exists_and_left, exists_const, and_true, true_and, V.int.injEq, V.ref.injEq, V.bl.injEq, V.str.injEq, List.cons.injEq, and_self, scal, Bool.false_eq_true, if_false, if_true, reduceCtorEq, false_and, and_false, false_or, or_false, ↓reduceIte]
    refine eq_int (m := 8) (fun g => ?_) (fun g => ?_)
    · subst g
      have : ks = [.text, .text] := (Option.some.inj hks).symm
      subst this
      obtain ⟨t, u, rfl⟩ := fit_tt hfit
      cases hus with
      | cons u0 hus => cases hus with
        | cons u1 hus =>
          cases hus
          obtain ⟨b0, rfl, hb0⟩ := u0
          obtain ⟨b1, rfl, hb1⟩ := u1
          have z0 := hsz (.text t) (by simp)
          have z1 := hsz (.text u) (by simp)
          have z0 : t.length ≤ c.length := z0
          have z1 : u.length ≤ c.length := z1
          refine ⟨_, sq_of hq1, .ref b0, rfl, _, sq_of hq1, .ref b1, rfl, b0, b1, t, u, sh t, sh u, rfl, hb0, hb1, by omega, by omega, hsh t, hsh u, fun e he => ?_, fun p e hp he => ?_, fun p o hp ho hk => ?_, fun p o hp ho hk => ?_⟩
          · exact (qb e (by simp only [callN, withText, he])).mono e1
          · exact (qb e (by simp only [callN, withText, hp, he])).mono e1
          · exact (hAns _ (by simp only [callN, withText, hp, ho]; rw [if_pos hk])).mono e1
          · exact (qb [6] (by simp only [callN, withText, hp, ho]; rw [if_neg hk])).mono e1
    refine ⟨by show 3 ≤ sizeLine; decide, fun p1 hp1 => ⟨_, .inr (SqT.of upd_same), rfl, rfl, ?_⟩⟩
    have e2 := e1.trans (Ex.new hp1 (o := HO.tup [V.int 1, V.int 6, V.int 7]))
    have hq2 : upd H1 p1 (HO.tup [V.int 1, V.int 6, V.int 7]) q' = some (.lst us) := Ex.new hp1 _ _ hq1
    have hus2 : Paired (PvAt (upd H1 p1 (HO.tup [V.int 1, V.int 6, V.int 7]))) us ps := Paired.mapP hus fun _ _ k => k.ex (Ex.new hp1)
    generalize upd H1 p1 (HO.tup [V.int 1, V.int 6, V.int 7]) = H2 at *
    refine in_if [1, 6, 7] (fun g2 => ?_) (fun g2 => ?_)
    · have : ks = [.text] := by unfold kindsOf at hks; rw [if_pos g2] at hks; exact (Option.some.inj hks).symm
      subst this
      obtain ⟨t, rfl⟩ := fit_text hfit
      cases hus2 with
      | cons u0 hus2 =>
        cases hus2
        obtain ⟨b0, rfl, hb0⟩ := u0
        have z0 : t.length ≤ c.length := hsz (.text t) (by simp)
        refine ⟨_, sq_of hq2, .ref b0, rfl, shop_read (hsh t) hb0 (by omega) (fun e he => ?_) (fun p hp sa H3 e3 hsn => ?_)⟩
        · exact (qb e (by simp only [callN, withText, he])).mono e2
        · exact ⟨n, sa, p, rfl, mShop _ _ _ _ newS_sub hsn, (hAns _ (by simp only [callN, withText, hp])).mono (e2.trans e3)⟩
    refine ⟨by show 4 ≤ sizeLine; decide, fun p2 hp2 => ⟨_, .inr (SqT.of upd_same), rfl, rfl, ?_⟩⟩
    have e3 := e2.trans (Ex.new hp2 (o := HO.tup [V.int 2, V.int 3, V.int 4, V.int 5]))
    have hq3 : upd H2 p2 (HO.tup [V.int 2, V.int 3, V.int 4, V.int 5]) q' = some (.lst us) := Ex.new hp2 _ _ hq2
    have hus3 : Paired (PvAt (upd H2 p2 (HO.tup [V.int 2, V.int 3, V.int 4, V.int 5]))) us ps := Paired.mapP hus2 fun _ _ k => k.ex (Ex.new hp2)
    generalize upd H2 p2 (HO.tup [V.int 2, V.int 3, V.int 4, V.int 5]) = H3 at *
    refine in_if [2, 3, 4, 5] (fun g3 => ?_) (fun g3 => ?_)
    · have : ks = [.text, .row] := by unfold kindsOf at hks; rw [if_neg g2, if_pos g3] at hks; exact (Option.some.inj hks).symm
      subst this
      obtain ⟨t, s, rfl⟩ := fit_tr hfit
      cases hus3 with
      | cons u0 hus3 => cases hus3 with
        | cons u1 hus3 =>
          cases hus3
          obtain ⟨b0, rfl, hb0⟩ := u0
          obtain ⟨b1, rfl, hb1⟩ := u1
          have z0 : t.length ≤ c.length := hsz (.text t) (by simp)
          refine ⟨_, sq_of hq3, .ref b0, rfl, shop_read (hsh t) hb0 (by omega) (fun e he => ?_) (fun p hp sa H4 e4 hsn => ?_)⟩
          · exact (qb e (by simp only [callN, withText, he])).mono e3
          · have hsa := mShop _ _ _ _ newS_sub hsn
            refine ⟨_, sq_of (e4 _ _ hq3), .ref b1, rfl, n, sa, b1, p, s, rfl, hsa, hb1.ex e4, fun hst => ?_, fun hst => ?_⟩
            · exact (hAns _ (by simp only [callN, withText, hp]; rw [if_pos (RsP.isBelow_iff.2 hst)])).mono (e3.trans e4)
            · exact (qb [4] (by simp only [callN, withText, hp]; rw [if_neg fun k => hst (RsP.isBelow_iff.1 k)])).mono (e3.trans e4)
    have shape : (n = 9 ∧ ∃ k t, ps = [.seat k, .text t]) ∨ ((n = 10 ∨ n = 11) ∧ ∃ k f, ps = [.seat k, .row f]) ∨ ((n = 12 ∨ n = 13) ∧ ∃ k, ps = [.seat k]) := by
      unfold kindsOf at hks
      rw [if_neg g2, if_neg g3, if_neg g] at hks
      split at hks
      · rename_i h; cases hks; exact .inl ⟨h, fit_st hfit⟩
      · split at hks
        · rename_i h; cases hks
          refine .inr (.inl ⟨?_, fit_sr hfit⟩)
          simpa [List.contains_eq_mem] using h
        · split at hks
          · rename_i h; cases hks
            refine .inr (.inr ⟨?_, fit_seat hfit⟩)
            simpa [List.contains_eq_mem] using h
          · cases hks
    have S3 := hS.mv e3
    obtain ⟨dsx, hsx⟩ := S3.hx
    have lse : (sFs l).lookup ("seats" : Str) = some (.ref l) := rfl
    have seat : ∀ k : Nat, k < 8 → ∃ e, rs[k]? = some e ∧ atI (rs.map seatV) (k : Int) = some (seatV e) := fun k hk => by
      have : k < rs.length := by rw [S3.n8]; exact hk
      exact ⟨rs[k], List.getElem?_eq_getElem this, atI_nat (by rw [List.getElem?_map, List.getElem?_eq_getElem this]; rfl)⟩
    have rest : ∀ (k : Nat) (f : List Nat), us[0]? = some (.int (k : Nat)) → k < 8 → (n = 10 ∨ n = 11 ∨ n = 12 ∨ n = 13) → (n = 10 ∨ n = 11 → ∃ k, ps = [.seat k, .row f]) → callN sh tx ω n ps = onRound ω k n f → ∀ e, rs[k]? = some (some e) → spAor K [.int n, .ref e.1, .ref q'] H3 Q E := fun k f hu hk hn hps hcall e he => by
      obtain ⟨ρ, hρ, hR, hne⟩ := S3.yes k e he
      refine ⟨M, e.1, e.2, q', ρ, n, us, ps, f, rfl, hR, hq3, hus3, hps, hn, fun ρ' o ho r H4 H5 ch e5 fr hr5 => ?_, fun e' he' => (qb e' ?_).mono e3⟩
      · refine qo (Rs.putRound ω k ρ') o ?_ r H4 H5 ⟨(exRemL e3).trans ch.1, fun c o h => ch.2.2.1 c o (e3 _ _ h), fun c o hg h => (let ⟨g1, _, _, g4⟩ := S3.gs c hg; ch.2.1 c o g1 (g4 k e he).1 (g4 k e he).2 (e3 _ _ h)), M, rs, fun _ h => h, fun _ h k => absurd h k, S3.chg he ch⟩ e5 fr hr5
        rw [hcall]; unfold onRound; rw [if_pos hk, hρ]; simp only; rw [ho]
      · rw [hcall]; unfold onRound; rw [if_pos hk, hρ]; simp only; rw [he']
    rcases shape with ⟨rfl, k, t, rfl⟩ | ⟨hn, k, f, rfl⟩ | ⟨hn, k, rfl⟩
    · cases hus3 with
      | cons u0 hus3 => cases hus3 with
        | cons u1 hus3 =>
          cases hus3
          have u0 : _ = V.int (k : Nat) := u0
          subst u0
          refine ⟨_, sq_of hq3, .int k, rfl, k, rfl, ite2 (fun g4 => ?_) (fun g4 => ?_)⟩
          · refine (qb [7] ?_).mono e3
            show (if k < 8 then _ else _) = _
            rw [if_neg (by have := of_decide_eq_true g4; omega)]
          have hk : k < 8 := by
            rcases Nat.lt_or_ge k 8 with h | h
            · exact h
            · exact absurd (decide_eq_true (by omega)) g4
          refine ifT (by decide) ?_
          obtain ⟨b1, rfl, hb1⟩ := u1
          have z0 : t.length ≤ c.length := hsz (.text t) (by simp)
          have hcall : callN sh tx ω 9 [.seat k, .text t] = withText sh t fun p => .ok (Rs.putRound ω k (Rs.newRound p), []) := by
            show (if k < 8 then _ else _) = _
            rw [if_pos hk]
          refine ⟨_, sq_of hq3, .ref b1, rfl, shop_read (hsh t) hb1 (by omega) (fun e he => ?_) (fun p hp sa H4 e4 hsn => ?_)⟩
          · exact (qb e (by rw [hcall]; simp only [withText, he])).mono e3
          intro x dx hx hdx ne
          have hx' : upd H4 dx (.own x) x = none := by rw [upd_ne ne.symm]; exact hx
          have eN : Ex H4 (upd (upd H4 dx (.own x)) x (.ins (RN K) dx [])) := (Ex.new hdx).trans (Ex.new hx')
          refine ⟨x, dx, sa, p, rfl, upd_same, mShop _ _ _ _ (newS_sub.trans (exDel eN hx)) hsn, fun k2 pl H5 hk2 hpl k2x plx keep hx5 hpl5 => ⟨rfl, ?_⟩⟩
          have e45 : Ex H4 H5 := fun c o hc => keep c o (ne_of_none hc hx) (eN _ _ hc)
          have plH4 : H4 pl = none := fresh_back eN hpl
          have S5 := (S3.mv e4).mv e45
          have hsx5 := e45 _ _ (e4 _ _ hsx)
          have hq5 := e45 _ _ (e4 _ _ hq3)
          obtain ⟨e, he, hat⟩ := seat k hk
          simp only [gSub, rSetL, hsx5, lse, cl_Session z, na_Session_seats z, Option.some.injEq, HO.ins.injEq, tNil, tCons, tC, tDrop, tOp, rI0, tCB, rEq, rNe, tNext, tRet, tRetN, tSeq, tAsg, tAug, tTest, tIfS, tIf, tNot, tAnd, tOr, tBM, tBM0, tCall, tTup, tTupZ, tLst, tFld, sFld, tMeth, tMake, tB, tYes, tCmp, t2I, tIsN, tNotN, tDGet, tDGet1, tDGet2, tDIn, tDNotIn, tAndV, tOrV, tNotV, tDNewT, sDPut, tSl, tPart, tNoPart, rSlL, tThen, tCntZ, tFgt, tChain, gCons, gNil, gTup, rCatZ, rCatA, rCat, rAppend, rExtend, rIn, rInD, rNotInD, rEqD, rNeD, rIxL, rIxT, tSub, tAdd, tBreak, tCont, tPar, rSum, rSumT, rMaxT, tyV, L2.start, List.map_cons, List.map_nil, List.length_cons, List.length_nil, List.cons_append, List.nil_append, List.append_nil, List.replicate, Nat.reduceAdd, Nat.reduceSub, wipe, List.set_cons_zero, List.set_cons_succ, nox_K, cxOf_K, blk_K, suite_K, tVar_0, tVar_1, tVar_2, tVar_3, tVar_4, tVar_5, tVar_6, tVar_7, tVar_8, tVar_9, tVar_10, tVar_11, tVar_12, tVar_13, tVar_14, tVar_15, gName_0, gName_1, gName_2, gName_3, gName_4, gName_5, gName_6, gName_7, gName_8, gName_9, gName_10, gName_11, gName_12, gName_13, gName_14, gName_15, and_assoc, exists_eq_left', exists_eq_left, exists_eq, exists_eq', exists_and_left, exists_const, and_true, true_and, V.int.injEq, V.ref.injEq, V.bl.injEq, V.str.injEq, List.cons.injEq, and_self, scal, Bool.false_eq_true, if_false, if_true, reduceCtorEq, false_and, and_false, false_or, or_false, ↓reduceIte]
          have hix : ixN (rs.map seatV).length (k : Int) = some k := by
            have hk2' : k < (rs.map seatV).length := by rw [List.length_map, S3.n8]; exact hk
            unfold ixN
            simp
            rw [S3.n8]; exact hk
          refine ⟨_, sq_of hq5, .int k, rfl, _, k, rfl, S5.hl, k, hix, by decide, fun r hr' => ?_⟩
          have S4 := S3.mv e4
          have lM := S4.ml
          have sM := S4.ms
          have lx : l ≠ x := ne_of_none S4.hl hx
          have lpl : l ≠ pl := ne_of_none S4.hl plH4
          obtain ⟨d4, hsx4⟩ := S4.hx
          have sxx : sx ≠ x := ne_of_none hsx4 hx
          have sxp : sx ≠ pl := ne_of_none hsx4 plH4
          have sl := S4.nsl
          have at6 : ∀ c, c ≠ l → upd H5 l (.lst ((rs.map seatV).set k (.ref x))) c = H5 c := fun c h => upd_ne h
          have atl : upd H5 l (.lst ((rs.map seatV).set k (.ref x))) l = some (.lst ((rs.map seatV).set k (.ref x))) := upd_same
          generalize hH6 : upd H5 l (.lst ((rs.map seatV).set k (.ref x))) = H6 at *
          have nM : ∀ c, H4 c = none → c ∉ M := fun c hc hm => by
            obtain ⟨o, ho, _⟩ := S4.tk c hm
            rw [hc] at ho; cases ho
          have tk6 : ∀ c, c ∈ x :: pl :: M → ∃ o, H6 c = some o ∧ ∀ xs, o ≠ .tup xs := fun c hc => by
            rcases List.mem_cons.1 hc with rfl | hc
            · exact ⟨_, by rw [at6 _ lx.symm]; exact hx5, fun _ z => by cases z⟩
            · rcases List.mem_cons.1 hc with rfl | hc
              · exact ⟨_, by rw [at6 _ lpl.symm]; exact hpl5, fun _ z => by cases z⟩
              · by_cases cl : c = l
                · subst cl; exact ⟨_, atl, fun _ z => by cases z⟩
                · obtain ⟨o, ho, h2⟩ := S5.tk c hc
                  exact ⟨o, by rw [at6 _ cl]; exact ho, h2⟩
          have eG : ∀ c o, c ∉ M → H4 c = some o → remL (x :: pl :: M) H6 c = some o := fun c o hm hc => by
            rw [remL_at (by
              intro h
              rcases List.mem_cons.1 h with h | h
              · exact ne_of_none hc hx h
              · rcases List.mem_cons.1 h with h | h
                · exact ne_of_none hc plH4 h
                · exact hm h), at6 _ (fun e => hm (by rw [e]; exact lM))]
            exact e45 _ _ hc
          have eRem : Ex (remL M H4) (remL (x :: pl :: M) H6) := fun c o h => eG c o (remL_off h).1 (remL_off h).2
          have same : ∀ c, c ∈ M → c ≠ l → H6 c = H4 c := fun c hm hl => by
            obtain ⟨o, ho, _⟩ := S4.tk c hm
            rw [at6 _ hl, ho]; exact e45 _ _ ho
          have e34 := e3.trans e4
          have k2M : k2 ∉ x :: pl :: M := fun h => by
            rcases List.mem_cons.1 h with h | h
            · exact k2x h
            · rcases List.mem_cons.1 h with h | h
              · rw [h] at hk2; rw [hk2.tup] at hpl5; cases hpl5
              · obtain ⟨o, ho, h2⟩ := S5.tk k2 h
                rw [hk2.tup] at ho; cases ho; exact h2 _ rfl
          have kl : k2 ≠ l := fun e => k2M (by rw [e]; exact List.mem_cons_of_mem _ (List.mem_cons_of_mem _ lM))
          have newR : RoAt K (x :: pl :: M) x pl H6 (Rs.newRound p) := by
            refine ⟨⟨dx, sa, k2, by rw [at6 _ lx.symm]; exact hx5, mShop _ _ _ _ (fun c o h => ?_) hsn, ?_⟩, ⟨[], by rw [at6 _ lpl.symm]; exact hpl5, .nil⟩, List.mem_cons_self .., List.mem_cons_of_mem _ (List.mem_cons_self ..), plx.symm, fun m hm => ?_, trivial, Nat.zero_le _, tk6⟩
            · obtain ⟨n1, n2⟩ := newS_off h
              refine eG c o (fun hm => ?_) n2
              obtain ⟨o', ho, _⟩ := S3.tk c hm
              rw [n1] at ho; cases ho
            · show remL _ H6 k2 = _
              rw [remL_at k2M, at6 _ kl]; exact hk2
            · cases List.mem_singleton.1 hm
              exact RsP.below_refl _
          have hk8 : k < ω.rounds.length := by rw [S4.w8]; exact hk
          refine qo (Rs.putRound ω k (Rs.newRound p)) [] (by rw [hcall]; simp only [withText, hp]) r H6 _ ⟨fun c o h => ?_, fun c o h => ?_, fun c o hg h => ?_, x :: pl :: M, rs.set k (some (x, pl)), fun c h => List.mem_cons_of_mem _ (List.mem_cons_of_mem _ h), fun c h hm => ?_, ?_⟩ (Ex.new hr') hr' upd_same
          · obtain ⟨h1, h2⟩ := remL_off h
            rw [remL_at h1, at6 _ (fun e => h1 (by rw [e]; exact lM))]
            exact e45 _ _ (e34 _ _ h2)
          · by_cases cl : c = l
            · subst cl; exact ⟨_, atl⟩
            · exact ⟨o, by rw [at6 _ cl]; exact e45 _ _ (e34 _ _ h)⟩
          · rw [at6 _ (S3.gs c hg).2.2.1]; exact e45 _ _ (e34 _ _ h)
          · rcases List.mem_cons.1 h with rfl | h
            · exact fresh_back e34 hx
            · rcases List.mem_cons.1 h with rfl | h
              · exact fresh_back e34 plH4
              · exact absurd h hm
          · refine ⟨⟨d4, by rw [at6 _ sl]; exact e45 _ _ hsx4⟩, by rw [atl, List.map_set]; rfl, by rw [List.length_set]; exact S4.n8, by rw [put_len]; exact S4.w8, fun j hj hn => ?_, fun j e hej => ?_, fun i j e f hij hi hj => ?_, List.mem_cons_of_mem _ (List.mem_cons_of_mem _ sM), List.mem_cons_of_mem _ (List.mem_cons_of_mem _ lM), sl, tk6, fun c hg => ?_⟩
            · by_cases kj : k = j
              · subst kj
                rw [List.getElem?_set_self (by rw [S4.n8]; exact hk)] at hn; cases hn
              · rw [List.getElem?_set_ne kj] at hn
                rw [RsP.round_put_ne kj]; exact S4.no j hj hn
            · by_cases kj : k = j
              · subst kj
                rw [List.getElem?_set_self (by rw [S4.n8]; exact hk)] at hej
                cases hej
                exact ⟨_, RsP.round_put hk8, newR, sxx.symm, lx.symm, sxp.symm, lpl.symm⟩
              · rw [List.getElem?_set_ne kj] at hej
                obtain ⟨ρ, y1, y2, y3⟩ := S4.yes j e hej
                exact ⟨ρ, by rw [RsP.round_put_ne kj]; exact y1, y2.grow eRem (same _ y2.mx y3.2.1) (same _ y2.mp y3.2.2.2) (fun c h => List.mem_cons_of_mem _ (List.mem_cons_of_mem _ h)) tk6, y3⟩
            · have old : ∀ (j : Nat) (f : Addr × Addr), rs[j]? = some (some f) → f.1 ≠ x ∧ f.1 ≠ pl ∧ f.2 ≠ x ∧ f.2 ≠ pl := fun j f h => by
                obtain ⟨ρ, _, y2, _⟩ := S4.yes j f h
                obtain ⟨o1, q1, _⟩ := S4.tk f.1 y2.mx
                obtain ⟨o2, q2, _⟩ := S4.tk f.2 y2.mp
                exact ⟨ne_of_none q1 hx, ne_of_none q1 plH4, ne_of_none q2 hx, ne_of_none q2 plH4⟩
              by_cases ki : k = i
              · subst ki
                rw [List.getElem?_set_self (by rw [S4.n8]; exact hk)] at hi
                rw [List.getElem?_set_ne hij] at hj
                cases hi
                obtain ⟨a1, a2, a3, a4⟩ := old j f hj
                exact ⟨a1.symm, a4.symm, a3.symm, a2.symm⟩
              · rw [List.getElem?_set_ne ki] at hi
                by_cases kj : k = j
                · subst kj
                  rw [List.getElem?_set_self (by rw [S4.n8]; exact hk)] at hj
                  cases hj
                  obtain ⟨a1, a2, a3, a4⟩ := old i e hi
                  exact ⟨a1, a4, a2, a3⟩
                · rw [List.getElem?_set_ne kj] at hj
                  exact S4.two i j e f hij hi hj
            · obtain ⟨g1, g2, g3, g4⟩ := S4.gs c hg
              refine ⟨List.mem_cons_of_mem _ (List.mem_cons_of_mem _ g1), g2, g3, fun j e hej => ?_⟩
              by_cases kj : k = j
              · subst kj
                rw [List.getElem?_set_self (by rw [S4.n8]; exact hk)] at hej
                cases hej
                obtain ⟨o, ho, _⟩ := S4.tk c g1
                exact ⟨ne_of_none ho hx, ne_of_none ho plH4⟩
              · rw [List.getElem?_set_ne kj] at hej
                exact g4 j e hej
    · cases hus3 with
      | cons u0 hus4 => cases hus4 with
        | cons u1 hus4 =>
          cases hus4
          have u0 : _ = V.int (k : Nat) := u0
          subst u0
          refine ⟨_, sq_of hq3, .int k, rfl, k, rfl, ite2 (fun g4 => ?_) (fun g4 => ?_)⟩
          · refine (qb [7] ?_).mono e3
            show onRound ω k n f = _
            unfold onRound
            rw [if_neg (by have := of_decide_eq_true g4; omega)]
          have hk : k < 8 := by
            rcases Nat.lt_or_ge k 8 with h | h
            · exact h
            · exact absurd (decide_eq_true (by omega)) g4
          refine ifF (by intro h; have := of_decide_eq_true h; omega) ?_
          obtain ⟨e, he, hat⟩ := seat k hk
          simp only [hsx, lse, cl_Session z, na_Session_seats z, Option.some.injEq, HO.ins.injEq, tNil, tCons, tC, tDrop, tOp, rI0, tCB, rEq, rNe, tNext, tRet, tRetN, tSeq, tAsg, tAug, tTest, tIfS, tIf, tNot, tAnd, tOr, tBM, tBM0, tCall, tTup, tTupZ, tLst, tFld, sFld, tMeth, tMake, tB, tYes, tCmp, t2I, tIsN, tNotN, tDGet, tDGet1, tDGet2, tDIn, tDNotIn, tAndV, tOrV, tNotV, tDNewT, sDPut, tSl, tPart, tNoPart, rSlL, tThen, tCntZ, tFgt, tChain, gCons, gNil, gTup, rCatZ, rCatA, rCat, rAppend, rExtend, rIn, rInD, rNotInD, rEqD, rNeD, rIxL, rIxT, tSub, tAdd, tBreak, tCont, tPar, rSum, rSumT, rMaxT, tyV, L2.start, List.map_cons, List.map_nil, List.length_cons, List.length_nil, List.cons_append, List.nil_append, List.append_nil, List.replicate, Nat.reduceAdd, Nat.reduceSub, wipe, List.set_cons_zero, List.set_cons_succ, nox_K, cxOf_K, blk_K, suite_K, tVar_0, tVar_1, tVar_2, tVar_3, tVar_4, tVar_5, tVar_6, tVar_7, tVar_8, tVar_9, tVar_10, tVar_11, tVar_12, tVar_13, tVar_14, tVar_15, gName_0, gName_1, gName_2, gName_3, gName_4, gName_5, gName_6, gName_7, gName_8, gName_9, gName_10, gName_11, gName_12, gName_13, gName_14, gName_15, and_assoc, exists_eq_left', exists_eq_left, exists_eq, exists_eq', exists_and_left, exists_const, and_true, true_and, V.int.injEq, V.ref.injEq, V.bl.injEq, V.str.injEq, List.cons.injEq, and_self, scal, Bool.false_eq_true, if_false, if_true, reduceCtorEq, false_and, and_false, false_or, or_false, ↓reduceIte]
          refine ⟨_, sq_of hq3, .int k, rfl, _, k, rfl, sq_of S3.hl, seatV e, hat, ?_⟩
          cases e with
          | none =>
            refine ifT rfl ?_
            refine (qb [7] ?_).mono e3
            show onRound ω k n f = _
            unfold onRound
            rw [if_pos hk, S3.no k hk he]
          | some e =>
            refine ifF (by simp [seatV]) ?_
            refine ⟨_, sq_of hq3, .int k, rfl, _, k, rfl, sq_of S3.hl, seatV (some e), hat, ?_⟩
            exact rest k f rfl hk (by omega) (fun _ => ⟨k, rfl⟩) rfl e he
    · cases hus3 with
      | cons u0 hus4 =>
          cases hus4
          have u0 : _ = V.int (k : Nat) := u0
          subst u0
          refine ⟨_, sq_of hq3, .int k, rfl, k, rfl, ite2 (fun g4 => ?_) (fun g4 => ?_)⟩
          · refine (qb [7] ?_).mono e3
            show onRound ω k n [] = _
            unfold onRound
            rw [if_neg (by have := of_decide_eq_true g4; omega)]
          have hk : k < 8 := by
            rcases Nat.lt_or_ge k 8 with h | h
            · exact h
            · exact absurd (decide_eq_true (by omega)) g4
          refine ifF (by intro h; have := of_decide_eq_true h; omega) ?_
          obtain ⟨e, he, hat⟩ := seat k hk
          simp only [hsx, lse, cl_Session z, na_Session_seats z, Option.some.injEq, HO.ins.injEq, tNil, tCons, tC, tDrop, tOp, rI0, tCB, rEq, rNe, tNext, tRet, tRetN, tSeq, tAsg, tAug, tTest, tIfS, tIf, tNot, tAnd, tOr, tBM, tBM0, tCall, tTup, tTupZ, tLst, tFld, sFld, tMeth, tMake, tB, tYes, tCmp, t2I, tIsN, tNotN, tDGet, tDGet1, tDGet2, tDIn, tDNotIn, tAndV, tOrV, tNotV, tDNewT, sDPut, tSl, tPart, tNoPart, rSlL, tThen, tCntZ, tFgt, tChain, gCons, gNil, gTup, rCatZ, rCatA, rCat, rAppend, rExtend, rIn, rInD, rNotInD, rEqD, rNeD, rIxL, rIxT, tSub, tAdd, tBreak, tCont, tPar, rSum, rSumT, rMaxT, tyV, L2.start, List.map_cons, List.map_nil, List.length_cons, List.length_nil, List.cons_append, List.nil_append, List.append_nil, List.replicate, Nat.reduceAdd, Nat.reduceSub, wipe, List.set_cons_zero, List.set_cons_succ, nox_K, cxOf_K, blk_K, suite_K, tVar_0, tVar_1, tVar_2, tVar_3, tVar_4, tVar_5, tVar_6, tVar_7, tVar_8, tVar_9, tVar_10, tVar_11, tVar_12, tVar_13, tVar_14, tVar_15, gName_0, gName_1, gName_2, gName_3, gName_4, gName_5, gName_6, gName_7, gName_8, gName_9, gName_10, gName_11, gName_12, gName_13, gName_14, gName_15, and_assoc, exists_eq_left', exists_eq_left, exists_eq, exists_eq', exists_and_left, exists_const, and_true, true_and, V.int.injEq, V.ref.injEq, V.bl.injEq, V.str.injEq, List.cons.injEq, and_self, scal, Bool.false_eq_true, if_false, if_true, reduceCtorEq, false_and, and_false, false_or, or_false, ↓reduceIte]
          refine ⟨_, sq_of hq3, .int k, rfl, _, k, rfl, sq_of S3.hl, seatV e, hat, ?_⟩
          cases e with
          | none =>
            refine ifT rfl ?_
            refine (qb [7] ?_).mono e3
            show onRound ω k n [] = _
            unfold onRound
            rw [if_pos hk, S3.no k hk he]
          | some e =>
            refine ifF (by simp [seatV]) ?_
            refine ⟨_, sq_of hq3, .int k, rfl, _, k, rfl, sq_of S3.hl, seatV (some e), hat, ?_⟩
            exact rest k [] rfl hk (by omega) (fun h => by omega) rfl e he
end
end Fs
set_option Elab.async false
set_option linter.all false
set_option maxRecDepth 100000
set_option maxHeartbeats 4000000
namespace Fs
open PySem PySem.Spec PyProof.Rows L2 FsX
open Evl (Ex Ex.refl Ex.trans Ex.new Ex.mut fresh_back)
/-- a method's call in a try -/
def tMethY (C : Addr) (m : Str) (sp : Sp) (E : L2.St → XK) (ta : TE) (t : TA) : TE := fun σ H Q => ta σ H fun x H1 => ∃ a dx fs, x = .ref a ∧ H1 a = some (.ins C dx fs) ∧ fs.lookup m = none ∧ t σ H1 fun vs H2 => sp (x :: vs) H2 Q (E σ)
theorem Kp.methY {X : Cx} {CX : CXT} {k : Nat} {f C : Addr} {ps : List Str} {sp : Sp} {E : L2.St → XK} {m : Str} {pos apos : Pos} {e o : Expr} {es : List Expr} {ta : TE} {t : TA} {pl : Sem Bool} (h : Kp X.prog X.w X.K X.mg X.base CX k f ps sp) (c : Cls X.K C) (hm : Meth X.K C m f) (hr : Room k X.A) (hx : ∀ σ, PassesAt CX X σ (E σ)) (he : PE X o ta) (ha : PA X (e :: es) t)
    (hst : starEach (e :: es) X.env = (false, eval e X.env) :: starEach es X.env := by rfl) (hpl : (backTo pos (starEach es X.env)).any (·.1) = false := by rfl)
    (ht : eval (.Call (.Attribute o m apos) (e :: es) [] pos) X.env = (do
      let ov ← eval o X.env; standAt apos.atName
      let (f, first) ← holding [ov] (getMethod ov m pl); callWith pos f first (backTo pos (starEach (e :: es) X.env)) (backToKw pos (keywordEach [] X.env))) := by rfl) : PE X (.Call (.Attribute o m apos) (e :: es) [] pos) (tMethY C m sp E ta t) := by
  obtain ⟨fd, F, hb, kp⟩ := h
  refine ⟨fun pins s σ H Q I h => ?_⟩
  refine PySem.W.methodCall_KW (pl := pl) (thn (he.run pins s σ H _ I h) fun u s1 q => ?_) ht
  obtain ⟨x, H1, I1, rx, a, dx, fs, rfl, ea, l, q⟩ := q
  obtain rfl : u = Value.ref a := rx
  refine getmeth_ok I1 ea c hm l ?_
  refine PySem.W.callWith_K (first := [.ref a]) (h₀ := X.base) I.ok.mod.kin hm.kp (thn (ha.run pos pins s1 σ H1 _ I1 q) fun us s2 q2 => ?_) hst hpl
  obtain ⟨vs, H2, I2, r, q2⟩ := q2
  exact ⟨I2.kIn, run_fnS (us := .ref a :: us) (vs := .ref a :: vs) F hr hb (hx σ) I2 (.cons rfl r) q2⟩
section
variable {P : Program} {w : World} {K : PySem.W.Frag} {mg : Str → Option Value} {base : Heap}
/-- the answer to a request -/
def ansN (sh : List Nat → Except (List Nat) Rs.Shop) (tx : Rs.Shop → List Nat) (ω : Rs.World) (c : List Nat) : Rs.World × List Nat := match apart c with
  | none => (ω, [1, 1])
  | some (n, ps) => match callN sh tx ω n ps with
    | .bad e => (ω, 1 :: e)
    | .ok (ω', o) => (ω', 0 :: o)
def spAnswer (K : PySem.W.Frag) (sh : List Nat → Except (List Nat) Rs.Shop) (tx : Rs.Shop → List Nat) : Sp := fun vs H Q _ => ∃ (G M : List Addr) (sx l a : Addr) (rs : List (Option (Addr × Addr))) (ω : Rs.World) (c : List Nat), vs = [.ref sx, .ref a] ∧ SeAt K G M sx l rs H ω ∧ L H a c ∧ c.length ≤ 70000 ∧ (ansN sh tx ω c).2.length ≤ 100000 ∧
  ∀ r H1 H', Nxt K G M sx l H H1 (ansN sh tx ω c).1 → Ex H1 H' → H1 r = none → L H' r (ansN sh tx ω c).2 → Q (.ref r) H'
theorem k_answer (z : Z K mg) {sh : List Nat → Except (List Nat) Rs.Shop} {tx : Rs.Shop → List Nat} (hsh : ∀ t, TextRes t (sh t)) {lv : Nat} (hlv : lv ≤ 7) (haoh : Kp P w K mg base CX0 lv (He.ga K "answer_of_shop") ["number", "shop"] (spAoh K tx)) : Kp P w K mg base CX0 9 (He.ma K (He.ga K "Session") "answer") ["self", "request"] (spAnswer K sh tx) := by
  have nd := sc_Session_answer.nd
  refine kp0 (f_Session_answer z) sc_Session_answer (fun vs H Q E h => ?_) fun cdv A outer s H vs Q E hr h => ⟨_,
    (pss_cons (ps_try_as (i := 3) rfl rfl nd rfl rfl ⟨rfl, by decide, .inl (g_Refusal z)⟩ takes0
        (fun W pn xe tk _ => (pss_one (ps_set (i := 2) nd rfl (Or.inl rfl) (Kp.methY (k_call z hsh hlv haoh) (cl_Session z) (me_Session_call z) (Room.mono hr (by decide)) (fun σ => passAt tk σ) (pv 0) (pa_cons (pv 1) pa_nil)))))
        (fun a oe cls d pn hz hf => (pss_one (ps_ret (pe_op op_cat (pe_lst (pa_cons (pe_int) (pa_cons (pe_xv hz hf (pv 3)) pa_nil))) (pe_xv hz hf (pv 3))))))) (pss_one (ps_ret (pe_op op_cat (pe_lst (pa_cons (pe_int) pa_nil)) (pv 2))))), ?_⟩
  · obtain ⟨_, _, _, _, _, _, _, _, rfl, _⟩ := h; rfl
  · obtain ⟨G, M, sx, l, a, rs, ω, c, rfl, hS, ha, hc, hlen, q⟩ := h
    obtain ⟨dsx, hsx⟩ := hS.hx
    have nx0 : Nxt K G M sx l H H ω := ⟨Ex.refl _, fun c o h => ⟨o, h⟩, fun _ _ _ h => h, M, rs, fun _ h => h, fun _ h k => absurd h k, hS⟩
    have fail : ∀ e, ansN sh tx ω c = (ω, 1 :: e) → ∀ (C d : Addr) (H' : Hp), RefC K (xRef K) C → Ex H H' → ErrAt H' d e → WE (wAs K (.ref (xRef K)) 3 (fun a cls d => tRet (tOp rCat (tLst (tCons (tC (.int 1)) (tCons (tXv K a cls d 3 "number") tNil))) (tXv K a cls d 3 "behind"))) (fun _ _ _ _ => False)
        { nx := tRet (tOp rCat (tLst (tCons (tC (.int 0)) tNil)) (tVar 2)) { nx := fun _ H' => Q .non H', rt := Q }, rt := Q }) [some (.ref sx), some (.ref a), none, none] (.ref C) (some d) H' := by
      intro e he C d H' rc eH hE
      rw [he] at q hlen
      obtain ⟨n, lb, b, rfl, hd, hb⟩ := hE
      refine ⟨true, rc.m, fun _ ae hae => ?_, fun h => by cases h⟩
      refine ⟨C, d, _, .int n, rfl, rfl, rc.x, rc.n, rfl, hd, rfl, by show 2 ≤ sizeLine; decide, fun p1 hp1 => ?_⟩
      refine ⟨C, d, _, .ref b, rfl, rfl, rc.x, rc.b, rfl, by rw [upd_ne (ne_of_none hd hp1)]; exact hd, rfl, p1, b, _, nv lb, rfl, rfl, upd_same, by rw [upd_ne (ne_of_none hb hp1)]; exact hb, ?_, fun r hr' => ?_⟩
      · simp only [List.length_cons] at hlen
        rw [nv_len, sizeLine_eq]; show 2 + lb.length ≤ _; omega
      · have e2 := (eH.trans (Ex.new hp1 (o := HO.lst [V.int 1, V.int (n : Nat)])))
        refine q r H _ nx0 (e2.trans (Ex.new hr')) (fresh_back e2 hr') ?_
        show upd _ _ _ r = _
        rw [upd_same]; rfl
    refine ⟨_, rfl, sx, dsx, _, rfl, hsx, rfl, _, rfl, G, M, sx, l, a, rs, ω, c, rfl, hS, ha, by omega, fun hap => ?_, fun n ps hap => ⟨fun e he => ?_, fun ω' o ho r H1 H' nx e1 fr hr1 => ?_⟩⟩
    · exact fail [1] (by unfold ansN; rw [hap])
    · exact fail e (by unfold ansN; rw [hap]; simp only; rw [he])
    · have hans : ansN sh tx ω c = (ω', 0 :: o) := by unfold ansN; rw [hap]; simp only; rw [ho]
      rw [hans] at q hlen
      simp only [List.length_cons] at hlen
      simp only [ tNil, tCons, tC, tDrop, tOp, rI0, tCB, rEq, rNe, tNext, tRet, tRetN, tSeq, tAsg, tAug, tTest, tIfS, tIf, tNot, tAnd, tOr, tBM, tBM0, tCall, tTup, tTupZ, tLst, tFld, sFld, tMeth, tMake, tB, tYes, tCmp, t2I, tIsN, tNotN, tDGet, tDGet1, tDGet2, tDIn, tDNotIn, tAndV, tOrV, tNotV, tDNewT, sDPut, tSl, tPart, tNoPart, rSlL, tThen, tCntZ, tFgt, tChain, gCons, gNil, gTup, rCatZ, rCatA, rCat, rAppend, rExtend, rIn, rInD, rNotInD, rEqD, rNeD, rIxL, rIxT, tSub, tAdd, tBreak, tCont, tPar, rSum, rSumT, rMaxT, tyV, L2.start, List.map_cons, List.map_nil, List.length_cons, List.length_nil, List.cons_append, List.nil_append, List.append_nil, List.replicate, Nat.reduceAdd, Nat.reduceSub, wipe, List.set_cons_zero, List.set_cons_succ, nox_K, cxOf_K, blk_K, suite_K, tVar_0, tVar_1, tVar_2, tVar_3, tVar_4, tVar_5, tVar_6, tVar_7, tVar_8, tVar_9, tVar_10, tVar_11, tVar_12, tVar_13, tVar_14, tVar_15, gName_0, gName_1, gName_2, gName_3, gName_4, gName_5, gName_6, gName_7, gName_8, gName_9, gName_10, gName_11, gName_12, gName_13, gName_14, gName_15, and_assoc, exists_eq_left', exists_eq_left, exists_eq, exists_eq', exists_and_left, exists_const, and_true, true_and, V.int.injEq, V.ref.injEq, V.bl.injEq, V.str.injEq, List.cons.injEq, and_self, scal, Bool.false_eq_true, if_false, if_true, reduceCtorEq, false_and, and_false, false_or, or_false, ↓reduceIte]
      refine ⟨by show 1 ≤ sizeLine; decide, fun p hp => ⟨_, upd_same, nv o, by rw [upd_ne (ne_of_none hr1 hp)]; exact hr1, by rw [nv_len, sizeLine_eq]; show 1 + o.length ≤ _; omega, fun r2 hr2 => ?_⟩⟩
      have e2 := e1.trans (Ex.new hp (o := HO.lst [V.int 0]))
      refine q r2 H1 _ nx (e2.trans (Ex.new hr2)) (fresh_back e2 hr2) ?_
      show upd _ _ _ r2 = _
      rw [upd_same]; rfl
end
end Fs
set_option Elab.async false
set_option linter.all false
set_option maxRecDepth 100000
set_option maxHeartbeats 4000000
namespace Fs
open PySem PySem.Spec PyProof.Rows L2 FsX
open Evl (Ex Ex.refl Ex.trans Ex.new Ex.mut fresh_back)
def flatN (cs : List (List Nat)) : List Nat := cs.flatMap fun c => 0 :: c.length :: c
def outN (os : List (List Nat)) : List Nat := os.flatMap fun o => o.length :: o
def playN (sh : List Nat → Except (List Nat) Rs.Shop) (tx : Rs.Shop → List Nat) : Rs.World → List (List Nat) → List (List Nat)
  | _, [] => []
  | ω, c :: r => (ansN sh tx ω c).2 :: playN sh tx (ansN sh tx ω c).1 r
def muP (n : Nat) (σ : L2.St) (i : Nat) : Nat := match σ[i]? with
  | some (some (.int v)) => (n - v).toNat
  | _ => 0
section
variable {P : Program} {w : World} {K : PySem.W.Frag} {mg : Str → Option Value} {base : Heap}
theorem SeAt.put {G M : List Addr} {sx l g : Addr} {rs : List (Option (Addr × Addr))} {H : Hp} {ω : Rs.World} {vs : List V} (h : SeAt K G M sx l rs H ω) (hg : g ∈ G) : SeAt K G M sx l rs (upd H g (.lst vs)) ω := by
  obtain ⟨g1, g2, g3, g4⟩ := h.gs g hg
  obtain ⟨⟨dx, h1⟩, h2, h3, h4, h5, h6, h7, h8, h9, h10, h11, h12⟩ := h
  have tk : ∀ c, c ∈ M → ∃ o, upd H g (.lst vs) c = some o ∧ ∀ xs, o ≠ .tup xs := fun c hc => by
    by_cases e : c = g
    · subst e; exact ⟨_, upd_same, fun _ z => by cases z⟩
    · obtain ⟨o, a, b⟩ := h11 c hc
      exact ⟨o, by rw [upd_ne e]; exact a, b⟩
  refine ⟨⟨dx, by rw [upd_ne g2.symm]; exact h1⟩, by rw [upd_ne g3.symm]; exact h2, h3, h4, h5, fun k e he => ?_, h7, h8, h9, h10, tk, h12⟩
  obtain ⟨ρ, y1, y2, y3⟩ := h6 k e he
  exact ⟨ρ, y1, y2.keep (exRemU g1) (upd_ne (g4 k e he).1.symm) (upd_ne (g4 k e he).2.symm) tk, y3⟩
theorem cut_mid (A c R : List Nat) : ((A ++ (0 :: c.length :: (c ++ R))).drop (A.length + 2)).take (A.length + 2 + c.length - (A.length + 2)) = c := by
  rw [show A.length + 2 + c.length - (A.length + 2) = c.length from by omega, show (A ++ (0 :: c.length :: (c ++ R))).drop (A.length + 2) = c ++ R from by simp [List.drop_append]]
  exact List.take_left' rfl
theorem flat_app (a b : List (List Nat)) : flatN (a ++ b) = flatN a ++ flatN b := List.flatMap_append
theorem sqEx {H H' : Hp} {a : Addr} {xs : List V} (h : SqL K H a xs) (e : Ex H H') : SqL K H' a xs := by
  rcases h with (h | ⟨o, h⟩) | h
  · exact .inl (.inl (e _ _ h))
  · exact .inl (.inr ⟨o, e _ _ h⟩)
  · exact .inr h
def spAnswers (K : PySem.W.Frag) (sh : List Nat → Except (List Nat) Rs.Shop) (tx : Rs.Shop → List Nat) : Sp := fun vs H Q _ => ∃ (a : Addr) (cs : List (List Nat)), vs = [.ref a] ∧ SqL K H a (nv (flatN cs)) ∧ (∀ c, c ∈ cs → c.length ≤ 70000) ∧ (outN (playN sh tx Rs.World.start cs)).length ≤ 10000000 ∧ (∀ o, o ∈ playN sh tx Rs.World.start cs → o.length ≤ 100000) ∧ ∀ r H', Ex H H' → L H' r (outN (playN sh tx Rs.World.start cs)) → Q (.ref r) H'
/-- as kp0, of a def's own object -/
theorem fn0 {x qual : Str} {st : Stmt} {f : Addr} {fd : FuncData} {N ps : List Str} {k : Nat} {sp : Sp} (F : FunD K x qual (defArgs st) (defBody st) (defScope st) [] [] f fd) (S : FnScope N ps (defScope st)) (len : ∀ vs H Q E, sp vs H Q E → vs.length = ps.length)
    (hb : ∀ (cdv : Value) (A : Around) (outer : List Env) (s : Shared) (H : Hp) (vs : List V) (Q : VK) (E : XK), Room k (A.deeper (envOfC qual (defScope st) s.heap.objs.size f cdv)) → sp vs H Q E →
      ∃ t, PSs (cxOf CX0 P w K mg base N qual (defScope st) f cdv A outer s H E).nox (defBody st) t ∧ t { nx := fun _ H' => Q .non H', rt := Q } (start N vs) H) : FnOk P w K mg base CX0 (k + 1) f fd ps sp :=
  F.ok S len fun cdv A outer s H vs Q E hr h => let ⟨t, h1, h2⟩ := hb cdv A outer s H vs Q E hr h; ⟨t, h1.nox, h2⟩
theorem k_answers (z : Z K mg) {sh : List Nat → Except (List Nat) Rs.Shop} {tx : Rs.Shop → List Nat} (hsh : ∀ t, TextRes t (sh t)) {lv : Nat} (hlv : lv ≤ 7) (haoh : Kp P w K mg base CX0 lv (He.ga K "answer_of_shop") ["number", "shop"] (spAoh K tx)) {fd : FuncData} (F : FunD K "answers" "answers" (defArgs s_answers) (defBody s_answers) (defScope s_answers) [] [] (He.ga K "answers") fd) :
    FnOk P w K mg base CX0 10 (He.ga K "answers") fd ["calls"] (spAnswers K sh tx) := by
  have nd := sc_answers.nd
  refine fn0 F sc_answers (fun vs H Q E h => ?_) fun cdv A outer s H vs Q E hr h => ⟨_,
    (pss_cons ((ps_set (i := 1) nd rfl (by first | exact Or.inl rfl | exact Or.inr rfl) ((Kp.make0 (k_Session_init z) (mk_Session z) (Room.mono hr (by decide)) (by rfl) (g_Session z) pass0)))) (pss_cons ((ps_set (i := 2) nd rfl (by first | exact Or.inl rfl | exact Or.inr rfl) ((pe_lst pa_nil)))) (pss_cons ((ps_set (i := 3) nd rfl (by first | exact Or.inl rfl | exact Or.inr rfl) (pe_int))) (pss_cons (ps_while PassesOwn.never (pt_cmpR op_lt (pv 3) ((pe_callB call_len_seq (by rfl) ((b_len z)) PySem.boot_len (pa_cons ((pv 0)) pa_nil))) (nomark _)) (pss_cons ((ps_set (i := 4) nd rfl (by first | exact Or.inl rfl | exact Or.inr rfl) ((pe_op op_add (pe_op op_add (pv 3) pe_int) (pe_ix ix_list (pv 0) (pe_op op_add (pv 3) pe_int) (fun _ _ => rfl)))))) (pss_cons ((ps_set (i := 5) nd rfl (by first | exact Or.inl rfl | exact Or.inr rfl) ((Kp.meth (k_answer z hsh hlv haoh) (cl_Session z) (me_Session_answer z) (Room.mono hr (by decide)) pass0 (pv 1) (pa_cons (pe_slice sl_list (pv 0) (po_some (pe_op op_add (pv 3) pe_int)) (po_some (pv 4))) pa_nil))))) (pss_cons ((ps_expr (pe_bm PySem.F.plainAttrs_list PySem.F.slot_list_append PySem.F.type_list_append mt_append ((pv 2)) (pa_cons (((pe_callB call_len_seq (by rfl) ((b_len z)) PySem.boot_len (pa_cons ((pv 5)) pa_nil)))) pa_nil)))) (pss_cons (ps_expr (pe_bm PySem.F.plainAttrs_list PySem.F.slot_list_extend PySem.F.type_list_extend mt_extend (pv 2) (pa_cons (pv 5) pa_nil))) (pss_one ((ps_set (i := 3) nd rfl (by first | exact Or.inl rfl | exact Or.inr rfl) ((pv 4)))))))))) (pss_one (ps_ret (pv 2))))))), ?_⟩
  · obtain ⟨_, _, rfl, _⟩ := h; rfl
  · obtain ⟨a, cs, rfl, ha, hcs, hout, hos, q⟩ := h
    simp only [ tNil, tCons, tC, tDrop, tOp, rI0, tCB, rEq, rNe, tNext, tRet, tRetN, tSeq, tAsg, tAug, tTest, tIfS, tIf, tNot, tAnd, tOr, tBM, tBM0, tCall, tTup, tTupZ, tLst, tFld, sFld, tMeth, tMake, tB, tYes, tCmp, t2I, tIsN, tNotN, tDGet, tDGet1, tDGet2, tDIn, tDNotIn, tAndV, tOrV, tNotV, tDNewT, sDPut, tSl, tPart, tNoPart, rSlL, tThen, tCntZ, tFgt, tChain, gCons, gNil, gTup, rCatZ, rCatA, rCat, rAppend, rExtend, rIn, rInD, rNotInD, rEqD, rNeD, rIxL, rIxT, tSub, tAdd, tBreak, tCont, tPar, rSum, rSumT, rMaxT, tyV, L2.start, List.map_cons, List.map_nil, List.length_cons, List.length_nil, List.cons_append, List.nil_append, List.append_nil, List.replicate, Nat.reduceAdd, Nat.reduceSub, wipe, List.set_cons_zero, List.set_cons_succ, nox_K, cxOf_K, blk_K, suite_K, tVar_0, tVar_1, tVar_2, tVar_3, tVar_4, tVar_5, tVar_6, tVar_7, tVar_8, tVar_9, tVar_10, tVar_11, tVar_12, tVar_13, tVar_14, tVar_15, gName_0, gName_1, gName_2, gName_3, gName_4, gName_5, gName_6, gName_7, gName_8, gName_9, gName_10, gName_11, gName_12, gName_13, gName_14, gName_15, and_assoc, exists_eq_left', exists_eq_left, exists_eq, exists_eq', exists_and_left, exists_const, and_true, true_and, V.int.injEq, V.ref.injEq, V.bl.injEq, V.str.injEq, List.cons.injEq, and_self, scal, Bool.false_eq_true, if_false, if_true, reduceCtorEq, false_and, and_false, false_or, or_false, ↓reduceIte]
    intro sx dx hsx hdx ne
    refine ⟨sx, dx, rfl, upd_same, fun l H1 hl lsx keep hs1 hl1 => ⟨rfl, by decide, fun g hg => ?_⟩⟩
    have hx' : upd H dx (.own sx) sx = none := by rw [upd_ne ne.symm]; exact hsx
    have eN : Ex H (upd (upd H dx (.own sx)) sx (.ins (SE K) dx [])) := (Ex.new hdx).trans (Ex.new hx')
    have e01 : Ex H H1 := fun c o hc => keep c o (ne_of_none hc hsx) (eN _ _ hc)
    have lH : H l = none := fresh_back eN hl
    have gH : H g = none := fresh_back e01 hg
    have gs1 : g ≠ sx := fun e => by rw [e, hs1] at hg; cases hg
    have gl : g ≠ l := fun e => by rw [e, hl1] at hg; cases hg
    have e12 : Ex H1 (upd H1 g (.lst [])) := Ex.new hg
    have S0 : SeAt K [g] [g, sx, l] sx l (List.replicate 8 none) (upd H1 g (.lst [])) Rs.World.start := by
      refine ⟨⟨dx, e12 _ _ hs1⟩, e12 _ _ hl1, rfl, rfl, fun k hk _ => ?_, fun k e he => ?_, fun i j e f _ he => ?_, by simp, by simp, lsx.symm, fun c hc => ?_, fun c hc => ?_⟩
      · show (List.replicate 8 (none : Option Rs.Round)).getD k none = none
        rw [List.getD_eq_getElem?_getD, List.getElem?_replicate]
        rw [if_pos hk]; rfl
      · rw [List.getElem?_replicate] at he
        split at he <;> cases he
      · rw [List.getElem?_replicate] at he
        split at he <;> cases he
      · simp only [List.mem_cons, List.not_mem_nil, or_false] at hc
        rcases hc with rfl | rfl | rfl
        · exact ⟨_, upd_same, fun _ z => by cases z⟩
        · exact ⟨_, e12 _ _ hs1, fun _ z => by cases z⟩
        · exact ⟨_, e12 _ _ hl1, fun _ z => by cases z⟩
      · cases List.mem_singleton.1 hc
        refine ⟨by simp, gs1, gl, fun k e he => ?_⟩
        rw [List.getElem?_replicate] at he
        split at he <;> cases he
    have hg1 : upd H1 g (.lst []) g = some (.lst []) := upd_same
    have e02 := e01.trans e12
    refine while_by (fun σ H' => ∃ (done rest : List (List Nat)) (M : List Addr) (rs : List (Option (Addr × Addr))) (ω : Rs.World) (og : List Nat) (u4 u5 : Option V), σ = [some (.ref a), some (.ref sx), some (.ref g), some (.int ((flatN done).length : Nat)), u4, u5] ∧ cs = done ++ rest ∧ Ex H H' ∧ SeAt K [g] M sx l rs H' ω ∧ (∀ c, c ∈ M → H c = none) ∧ L H' g og ∧ outN (playN sh tx Rs.World.start cs) = og ++ outN (playN sh tx ω rest) ∧ (∀ o, o ∈ playN sh tx ω rest → o.length ≤ 100000))
      (fun σ _ => muP (flatN cs).length σ 3) ⟨[], cs, _, _, _, [], none, none, rfl, rfl, e02, S0, fun c hc => ?_, hg1, rfl, hos⟩ ?_ ?_
    · simp only [List.mem_cons, List.not_mem_nil, or_false] at hc
      rcases hc with rfl | rfl | rfl
      · exact gH
      · exact hsx
      · exact lH
    · rintro σ H' ⟨done, rest, M, rs, ω, og, u4, u5, rfl, rfl, e, S, hM, hog, hsame, hos2⟩
      have haH := sqEx ha e
      cases rest with
      | nil =>
        simp only [ tNil, tCons, tC, tDrop, tOp, rI0, tCB, rEq, rNe, tNext, tRet, tRetN, tSeq, tAsg, tAug, tTest, tIfS, tIf, tNot, tAnd, tOr, tBM, tBM0, tCall, tTup, tTupZ, tLst, tFld, sFld, tMeth, tMake, tB, tYes, tCmp, t2I, tIsN, tNotN, tDGet, tDGet1, tDGet2, tDIn, tDNotIn, tAndV, tOrV, tNotV, tDNewT, sDPut, tSl, tPart, tNoPart, rSlL, tThen, tCntZ, tFgt, tChain, gCons, gNil, gTup, rCatZ, rCatA, rCat, rAppend, rExtend, rIn, rInD, rNotInD, rEqD, rNeD, rIxL, rIxT, tSub, tAdd, tBreak, tCont, tPar, rSum, rSumT, rMaxT, tyV, L2.start, List.map_cons, List.map_nil, List.length_cons, List.length_nil, List.cons_append, List.nil_append, List.append_nil, List.replicate, Nat.reduceAdd, Nat.reduceSub, wipe, List.set_cons_zero, List.set_cons_succ, nox_K, cxOf_K, blk_K, suite_K, tVar_0, tVar_1, tVar_2, tVar_3, tVar_4, tVar_5, tVar_6, tVar_7, tVar_8, tVar_9, tVar_10, tVar_11, tVar_12, tVar_13, tVar_14, tVar_15, gName_0, gName_1, gName_2, gName_3, gName_4, gName_5, gName_6, gName_7, gName_8, gName_9, gName_10, gName_11, gName_12, gName_13, gName_14, gName_15, and_assoc, exists_eq_left', exists_eq_left, exists_eq, exists_eq', exists_and_left, exists_const, and_true, true_and, V.int.injEq, V.ref.injEq, V.bl.injEq, V.str.injEq, List.cons.injEq, and_self, scal, Bool.false_eq_true, if_false, if_true, reduceCtorEq, false_and, and_false, false_or, or_false, ↓reduceIte]
        refine ⟨_, .inl haH, ?_⟩
        rw [nv_len, List.append_nil]
        refine ifF (by simp) ?_
        rw [List.append_nil] at hsame q
        have h0 : outN (playN sh tx ω []) = [] := rfl
        rw [h0, List.append_nil] at hsame
        exact q g H' e (by rw [hsame]; exact hog)
      | cons c rest =>
        have hfl : flatN (done ++ c :: rest) = flatN done ++ (0 :: c.length :: (c ++ flatN rest)) := by
          rw [flat_app]; rfl
        have hc := hcs c (by simp)
        have ho := hos2 _ (List.mem_cons_self ..)
        have hlen : (flatN (done ++ c :: rest)).length = (flatN done).length + (2 + c.length + (flatN rest).length) := by
          rw [hfl, List.length_append]; simp only [List.length_cons, List.length_append]; omega
        have i1 : ((flatN done).length : Int) + 1 = (((flatN done).length + 1 : Nat) : Int) := by omega
        have i2 : ((flatN done).length : Int) + 2 = (((flatN done).length + 2 : Nat) : Int) := by omega
        have i3 : ((flatN done).length : Int) + 2 + (c.length : Int) = (((flatN done).length + 2 + c.length : Nat) : Int) := by omega
        have at1 : atI (nv (flatN (done ++ c :: rest))) (((flatN done).length : Int) + 1) = some (.int (c.length : Nat)) := by
          rw [i1]
          refine atI_nat ?_
          rw [hfl, nv_app, List.getElem?_append_right (by rw [nv_len]; omega), nv_len]
          rw [show (flatN done).length + 1 - (flatN done).length = 1 from by omega]; rfl
        have cut : cutV (nv (flatN (done ++ c :: rest))) (some (((flatN done).length : Int) + 2)) (some (((flatN done).length : Int) + 2 + (c.length : Int))) = nv c := by
          rw [i3, i2, cut_nv _ _ _ (by omega) (by rw [hlen]; omega), hfl]
          rw [cut_mid]
        obtain ⟨ds, hsx'⟩ := S.hx
        simp only [ tNil, tCons, tC, tDrop, tOp, rI0, tCB, rEq, rNe, tNext, tRet, tRetN, tSeq, tAsg, tAug, tTest, tIfS, tIf, tNot, tAnd, tOr, tBM, tBM0, tCall, tTup, tTupZ, tLst, tFld, sFld, tMeth, tMake, tB, tYes, tCmp, t2I, tIsN, tNotN, tDGet, tDGet1, tDGet2, tDIn, tDNotIn, tAndV, tOrV, tNotV, tDNewT, sDPut, tSl, tPart, tNoPart, rSlL, tThen, tCntZ, tFgt, tChain, gCons, gNil, gTup, rCatZ, rCatA, rCat, rAppend, rExtend, rIn, rInD, rNotInD, rEqD, rNeD, rIxL, rIxT, tSub, tAdd, tBreak, tCont, tPar, rSum, rSumT, rMaxT, tyV, L2.start, List.map_cons, List.map_nil, List.length_cons, List.length_nil, List.cons_append, List.nil_append, List.append_nil, List.replicate, Nat.reduceAdd, Nat.reduceSub, wipe, List.set_cons_zero, List.set_cons_succ, nox_K, cxOf_K, blk_K, suite_K, tVar_0, tVar_1, tVar_2, tVar_3, tVar_4, tVar_5, tVar_6, tVar_7, tVar_8, tVar_9, tVar_10, tVar_11, tVar_12, tVar_13, tVar_14, tVar_15, gName_0, gName_1, gName_2, gName_3, gName_4, gName_5, gName_6, gName_7, gName_8, gName_9, gName_10, gName_11, gName_12, gName_13, gName_14, gName_15, and_assoc, exists_eq_left', exists_eq_left, exists_eq, exists_eq', exists_and_left, exists_const, and_true, true_and, V.int.injEq, V.ref.injEq, V.bl.injEq, V.str.injEq, List.cons.injEq, and_self, scal, Bool.false_eq_true, if_false, if_true, reduceCtorEq, false_and, and_false, false_or, or_false, ↓reduceIte]
        refine ⟨_, .inl haH, ifT ?_ ?_⟩
        · rw [nv_len, hlen]; exact decide_eq_true (by omega)
        refine ⟨_, haH, _, at1, _, rfl, ds, _, hsx', rfl, _, haH, fun p hp => ?_⟩
        rw [cut]
        have ep : Ex H' (upd H' p (.lst (nv c))) := Ex.new hp
        refine ⟨[g], M, sx, l, p, rs, ω, c, rfl, S.mv ep, upd_same, hc, ho, fun r H2 H3 nx e3 fr hr3 => ?_⟩
        obtain ⟨n1, n2, n3, M', rs', n4, n5, S2⟩ := nx
        have hg2 : L H3 g og := e3 _ _ (n3 g _ (by simp) (ep _ _ hog))
        have S3 := S2.mv e3
        have rg : r ≠ g := fun e => by
          rw [e] at fr
          have := n3 g _ (by simp) (ep _ _ hog)
          rw [fr] at this; cases this
        have hpl : playN sh tx ω (c :: rest) = (ansN sh tx ω c).2 :: playN sh tx (ansN sh tx ω c).1 rest := rfl
        have hso : outN (playN sh tx ω (c :: rest)) = ((ansN sh tx ω c).2.length :: (ansN sh tx ω c).2) ++ outN (playN sh tx (ansN sh tx ω c).1 rest) := by rw [hpl]; rfl
        rw [hso, ← List.append_assoc] at hsame
        have tot := congrArg List.length hsame
        simp only [List.length_append, List.length_cons] at tot
        have e03 : Ex H H3 := fun c o h => by
          have hm : c ∉ M := fun k => by rw [hM c k] at h; cases h
          have := n1 c o (by rw [remL_at hm]; exact ep _ _ (e _ _ h))
          exact e3 _ _ (remL_off this).2
        simp only [ tNil, tCons, tC, tDrop, tOp, rI0, tCB, rEq, rNe, tNext, tRet, tRetN, tSeq, tAsg, tAug, tTest, tIfS, tIf, tNot, tAnd, tOr, tBM, tBM0, tCall, tTup, tTupZ, tLst, tFld, sFld, tMeth, tMake, tB, tYes, tCmp, t2I, tIsN, tNotN, tDGet, tDGet1, tDGet2, tDIn, tDNotIn, tAndV, tOrV, tNotV, tDNewT, sDPut, tSl, tPart, tNoPart, rSlL, tThen, tCntZ, tFgt, tChain, gCons, gNil, gTup, rCatZ, rCatA, rCat, rAppend, rExtend, rIn, rInD, rNotInD, rEqD, rNeD, rIxL, rIxT, tSub, tAdd, tBreak, tCont, tPar, rSum, rSumT, rMaxT, tyV, L2.start, List.map_cons, List.map_nil, List.length_cons, List.length_nil, List.cons_append, List.nil_append, List.append_nil, List.replicate, Nat.reduceAdd, Nat.reduceSub, wipe, List.set_cons_zero, List.set_cons_succ, nox_K, cxOf_K, blk_K, suite_K, tVar_0, tVar_1, tVar_2, tVar_3, tVar_4, tVar_5, tVar_6, tVar_7, tVar_8, tVar_9, tVar_10, tVar_11, tVar_12, tVar_13, tVar_14, tVar_15, gName_0, gName_1, gName_2, gName_3, gName_4, gName_5, gName_6, gName_7, gName_8, gName_9, gName_10, gName_11, gName_12, gName_13, gName_14, gName_15, and_assoc, exists_eq_left', exists_eq_left, exists_eq, exists_eq', exists_and_left, exists_const, and_true, true_and, V.int.injEq, V.ref.injEq, V.bl.injEq, V.str.injEq, List.cons.injEq, and_self, scal, Bool.false_eq_true, if_false, if_true, reduceCtorEq, false_and, and_false, false_or, or_false, ↓reduceIte]
        have fl1 : (flatN (done ++ [c])).length = (flatN done).length + 2 + c.length := by
          rw [flat_app, List.length_append]
          show _ + ((0 :: c.length :: c) ++ []).length = _
          simp only [List.append_nil, List.length_cons]; omega
        refine ⟨.inl ⟨_, hg2.sq⟩, _, .inl hr3.sq, _, hg2.lst, by rw [nv_len, sizeLine_eq]; omega, .inl ⟨_, sq_of upd_same⟩, _, upd_same, _, by rw [upd_ne rg]; exact hr3.lst, by rw [List.length_append, nv_len, nv_len, sizeLine_eq]; simp only [List.length_cons, List.length_nil]; omega, ⟨done ++ [c], by rw [fl1]; exact congrArg (fun i => some (V.int i)) (by omega), rest, by simp, Ex.mut (Ex.mut e03 gH) gH, M', rs', _, (S3.put (by simp)).put (by simp), fun d hd => ?_, og ++ ((ansN sh tx ω c).2.length :: (ansN sh tx ω c).2), ?_, hsame, fun o ho' => hos2 o (by rw [hpl]; exact List.mem_cons_of_mem _ ho')⟩, ?_⟩
        · by_cases hm : d ∈ M
          · exact hM d hm
          · exact fresh_back (e.trans ep) (n5 d hd hm)
        · unfold L
          rw [upd_same, nv_len, nv_app, List.append_assoc]; rfl
        · show (((flatN (done ++ c :: rest)).length : Nat) - (((flatN done).length : Int) + 2 + (c.length : Int))).toNat < (((flatN (done ++ c :: rest)).length : Nat) - ((flatN done).length : Int)).toNat
          rw [hlen]; omega
    · intro σ H Q Q' hQ h
      obtain ⟨v, h1, v2, h1', p, e1, x, h2, i, j, e3, e4, k, e5, h6⟩ := h
      exact ⟨v, h1, v2, h1', p, e1, x, h2, i, j, e3, e4, k, e5, hQ _ _ h6⟩
end
end Fs
set_option Elab.async false
set_option linter.all false
set_option maxRecDepth 100000
set_option maxHeartbeats 4000000
namespace Fs
open PySem PySem.Spec PyProof.Rows L2 FsX
theorem digN_le {w : List Nat} {m : Nat} (h : digN w m ≠ 0) : 1 ≤ digN w m ∧ digN w m ≤ m := by
  unfold digN at h ⊢
  split at h
  · split at h
    · rename_i k
      rw [if_pos k]; omega
    · exact absurd rfl h
  · exact absurd rfl h
structure OkD (d : DN) : Prop where
  n : d.ns.length = d.rs.length
  l3 : d.ns.length ≤ 3
  nm : ∀ x, x ∈ d.ns → nameN x = true
  rm : ∀ r, r ∈ d.rs → 1 ≤ r ∧ r ≤ 4
  c : ∀ a b, d.c = some (a, b) → 1 ≤ a ∧ a ≤ 4 ∧ 1 ≤ b ∧ b ≤ a ∧ 1 ≤ d.ns.length
  s : ∀ i o, d.s = some (i, o) → 1 ≤ i ∧ i ≤ 9 ∧ 1 ≤ o ∧ o ≤ d.ns.length
  cs : d.s.isSome = true → d.c.isSome = true
theorem lineN_ok {d d' : DN} {ws : List (List Nat)} (h : OkD d) (e : lineN d ws = some d') : OkD d' := by
  have hcs := lineN_cs h.cs e
  unfold lineN at e
  split at e
  · unfold shelfN at e
    split at e
    · rename_i nm k _
      split at e
      · cases e
      · rename_i k1
        split at e
        · cases e
        · rename_i k2
          split at e
          · cases e
          · rename_i k3
            cases e
            have k1' : ¬ d.c.isSome = true := fun x => k1 (.inl x)
            have k1'' : ¬ d.ns.length = 3 := fun x => k1 (.inr x)
            have k2' : nameN nm = true := by
              cases hn : nameN nm with
              | true => rfl
              | false => exact absurd (.inl hn) k2
            have l3 := h.l3
            refine ⟨by simp [h.n], by simp only [List.length_append, List.length_cons, List.length_nil]; omega, fun x hx => ?_, fun r hr => ?_, fun a b hc => ?_, fun i o hs => ?_, hcs⟩
            · rcases List.mem_append.1 hx with hx | hx
              · exact h.nm x hx
              · cases List.mem_singleton.1 hx; exact k2'
            · rcases List.mem_append.1 hr with hr | hr
              · exact h.rm r hr
              · cases List.mem_singleton.1 hr; exact digN_le k3
            · have hc : d.c = some (a, b) := hc
              rw [hc] at k1'; exact absurd rfl k1'
            · have hs : d.s = some (i, o) := hs
              exact absurd (h.cs (by rw [hs]; rfl)) k1'
    · cases e
  · split at e
    · unfold custN at e
      split at e
      · rename_i n o k _ _
        split at e
        · cases e
        · rename_i k1
          split at e
          · cases e
          · split at e
            · cases e
            · rename_i k3
              cases e
              refine ⟨h.n, h.l3, h.nm, h.rm, fun a b hc => ?_, h.s, hcs⟩
              cases hc
              have h2 := digN_le k3
              have h1 : digN n 4 ≠ 0 := by omega
              have h1 := digN_le h1
              have : ¬ d.ns.length = 0 := fun x => k1 (.inr x)
              exact ⟨h1.1, h1.2, h2.1, h2.2, by show 1 ≤ d.ns.length; omega⟩
      · cases e
    · split at e
      · unfold stockN at e
        split at e
        · split at e
          · cases e
          · split at e
            · cases e
            · split at e
              · cases e
              · rename_i k3
                cases e
                refine ⟨h.n, h.l3, h.nm, h.rm, h.c, fun i o hs => ?_, hcs⟩
                cases hs
                have a1 := digN_le (fun x => k3 (.inl x))
                have a2 := digN_le (fun x => k3 (.inr x))
                exact ⟨a1.1, a1.2, a2.1, a2.2⟩
        · cases e
      · cases e
theorem readN_ok : ∀ {ls : List (List Nat)} {k : Nat} {d d' : DN}, OkD d → readN k d ls = .ok d' → OkD d'
  | [], _, _, _, h, e => by cases e; exact h
  | u :: r, k, d, d', h, e => by
    unfold readN at e
    split at e
    · exact readN_ok h e
    · split at e
      · cases e
      · rename_i d1 hl
        exact readN_ok (lineN_ok h hl) e
def toShop (d : DN) (c s : Nat × Nat) : Rs.Shop := ⟨(d.ns.zip d.rs).map fun e => ⟨e.1.map UInt16.ofNat, e.2⟩, c.1, c.2, s.1, s.2⟩
theorem zip_fst' {α β : Type} : ∀ {l : List α} {m : List β}, l.length = m.length → (l.zip m).map (·.1) = l
  | [], [], _ => rfl
  | _ :: l, _ :: m, h => by rw [List.zip_cons_cons, List.map_cons, zip_fst' (by simpa using h)]
theorem zip_snd' {α β : Type} : ∀ {l : List α} {m : List β}, l.length = m.length → (l.zip m).map (·.2) = m
  | [], [], _ => rfl
  | _ :: l, _ :: m, h => by rw [List.zip_cons_cons, List.map_cons, zip_snd' (by simpa using h)]
theorem name_let {w : List Nat} (h : nameN w = true) : ∀ c, c ∈ w → c ≤ 122 := by
  unfold nameN at h
  obtain ⟨h1, _⟩ := Bool.and_eq_true_iff.1 h
  have h1 := of_decide_eq_true h1
  intro c hc
  have := (List.filter_eq_self (p := isLet)).1 (List.length_filter_eq_length_iff.1 h1 |> fun k => List.filter_eq_self.2 k) c hc
  unfold isLet at this
  exact of_decide_eq_true (Bool.and_eq_true_iff.1 this).2
theorem toShop_ok {d : DN} {c s : Nat × Nat} (h : OkD d) (hc : d.c = some c) (hs : d.s = some s) : Ok (toShop d c s) ∧ namesOf (toShop d c s) = d.ns ∧ Rs.roomsOf (toShop d c s) = d.rs := by
  obtain ⟨a, b⟩ := c
  obtain ⟨i, o⟩ := s
  obtain ⟨c1, c2, c3, c4, c5⟩ := h.c a b hc
  obtain ⟨s1, s2, s3, s4⟩ := h.s i o hs
  have hrooms : Rs.roomsOf (toShop d (a, b) (i, o)) = d.rs := by
    unfold Rs.roomsOf toShop
    rw [List.map_map]
    exact zip_snd' h.n
  have hlen : (toShop d (a, b) (i, o)).shelves.length = d.ns.length := by
    unfold toShop
    rw [List.length_map, List.length_zip, ← h.n]; omega
  refine ⟨⟨by omega, by rw [hlen]; exact h.l3, fun sh hsh => ?_, c2, by show b ≤ 4; omega, s2, by have := h.l3; show o ≤ 3; omega, fun sh hsh => ?_⟩, ?_, hrooms⟩
  · refine h.rm sh.room ?_
    rw [← hrooms]
    exact List.mem_map.2 ⟨sh, hsh, rfl⟩
  · obtain ⟨e, he, rfl⟩ := List.mem_map.1 hsh
    have hm : e.1 ∈ d.ns := (List.of_mem_zip (a := e.1) (b := e.2) he).1
    have hn := h.nm _ hm
    refine ⟨?_, fun c hc => ?_⟩
    · show (e.1.map UInt16.ofNat).length ≤ 8
      rw [List.length_map]
      unfold nameN at hn
      simp only [Bool.and_eq_true, decide_eq_true_eq] at hn
      exact hn.2.2
    · obtain ⟨x, hx, rfl⟩ := List.mem_map.1 hc
      have := name_let hn x hx
      rw [UInt16.toNat_ofNat', Nat.mod_eq_of_lt (by omega)]; omega
  · unfold namesOf toShop
    rw [List.map_map]
    refine Eq.trans (List.map_congr_left fun e he => ?_) (zip_fst' h.n)
    show (e.1.map UInt16.ofNat).map (fun c => c.toNat) = e.1
    rw [List.map_map]
    have hm : e.1 ∈ d.ns := (List.of_mem_zip (a := e.1) (b := e.2) he).1
    refine (List.map_congr_left (g := id) fun x hx => ?_).trans (List.map_id _)
    have := name_let (h.nm _ hm) x hx
    show (UInt16.ofNat x).toNat = x
    rw [UInt16.toNat_ofNat']
    exact Nat.mod_eq_of_lt (by omega)
/-- the shop of a text -/
def shN (t : List Nat) : Except (List Nat) Rs.Shop := match shopN t with
  | .ok (d, c, s) => .ok (toShop d c s)
  | .error e => .error e
theorem shN_res (t : List Nat) : TextRes t (shN t) := by
  unfold shN
  cases h : shopN t with
  | error e => exact h
  | ok x =>
    obtain ⟨d, c, s⟩ := x
    have h' := h
    unfold shopN at h'
    split at h'
    · cases h'
    · split at h'
      · cases h'
      · rename_i d1 hr
        split at h'
        · rename_i c1 s1 hc hs
          cases h'
          have ok0 : OkD ⟨[], [], none, none⟩ := ⟨rfl, Nat.zero_le _, (fun _ hx => by cases hx), (fun _ hx => by cases hx), (fun _ _ hx => by cases hx), (fun _ _ hx => by cases hx), (fun hx => by cases hx)⟩
          obtain ⟨a1, a2, a3⟩ := toShop_ok (readN_ok ok0 hr) hc hs
          exact ⟨d, c, s, h, a1, a2, a3, rfl, rfl, rfl, rfl⟩
        · cases h'
end Fs
set_option Elab.async false
set_option linter.all false
set_option maxRecDepth 100000
set_option maxHeartbeats 4000000
namespace Fs
/-- octets as units -/
abbrev mu (l : List Nat) : Rs.Units := l.map UInt16.ofNat
def Low (l : List Nat) : Prop := ∀ c, c ∈ l → c < 256
theorem ofNat_inj {c d : Nat} (hc : c < 256) (hd : d < 256) : UInt16.ofNat c = UInt16.ofNat d ↔ c = d := by
  constructor
  · intro h
    have := congrArg UInt16.toNat h
    rw [UInt16.toNat_ofNat', UInt16.toNat_ofNat', Nat.mod_eq_of_lt (by omega), Nat.mod_eq_of_lt (by omega)] at this
    exact this
  · rintro rfl; rfl
theorem part_split {d : Nat} (hd : d < 256) : ∀ (l : List Nat) (done : List (List Nat)) (cur : List Nat), Low l → ((l.foldl (stepN d) (done, cur)).1 ++ [(l.foldl (stepN d) (done, cur)).2]).map mu = done.map mu ++ Rs.partAt (UInt16.ofNat d) (mu l) (mu cur).reverse
  | [], done, cur, _ => by simp [Rs.partAt]
  | c :: l, done, cur, hl => by
    have hc := hl c (List.mem_cons_self ..)
    have hl' : Low l := fun x hx => hl x (List.mem_cons_of_mem _ hx)
    rw [List.foldl_cons]
    show _ = _ ++ (if UInt16.ofNat c = UInt16.ofNat d then ((mu cur).reverse).reverse :: Rs.partAt (UInt16.ofNat d) (mu l) [] else Rs.partAt (UInt16.ofNat d) (mu l) (UInt16.ofNat c :: (mu cur).reverse))
    by_cases h : c = d
    · rw [if_pos ((ofNat_inj hc hd).2 h), show stepN d (done, cur) c = (done ++ [cur], []) from by unfold stepN; rw [if_pos h], part_split hd l _ _ hl']
      simp
    · rw [if_neg (fun k => h ((ofNat_inj hc hd).1 k)), show stepN d (done, cur) c = (done, cur ++ [c]) from by unfold stepN; rw [if_neg h], part_split hd l _ _ hl']
      simp
theorem split_part {d : Nat} (hd : d < 256) {l : List Nat} (hl : Low l) : (splitN d l).map mu = Rs.partAt (UInt16.ofNat d) (mu l) [] := by
  have := part_split hd l [] [] hl
  simpa [splitN, stN] using this
theorem lines_eq {l : List Nat} (hl : Low l) : (splitN 10 l).map mu = Rs.linesOf (mu l) := split_part (by decide) hl
theorem words_eq {l : List Nat} (hl : Low l) : (wordsN l).map mu = Rs.wordsOf (mu l) := by
  unfold wordsN Rs.wordsOf
  rw [← show (splitN 32 l).map mu = Rs.partAt 32 (mu l) [] from split_part (by decide) hl, List.filter_map]
  congr 1
  refine List.filter_congr fun w _ => ?_
  cases w <;> simp
end Fs
set_option Elab.async false
set_option linter.all false
set_option maxRecDepth 100000
set_option maxHeartbeats 4000000
namespace Fs
/-! what is read, against the specification's reading -/
theorem Low.tail {c : Nat} {l : List Nat} (h : Low (c :: l)) : Low l := fun x hx => h x (List.mem_cons_of_mem _ hx)
theorem mu_inj : ∀ {a b : List Nat}, Low a → Low b → (mu a = mu b ↔ a = b)
  | [], [], _, _ => by simp
  | [], _ :: _, _, _ => by simp
  | _ :: _, [], _, _ => by simp
  | x :: a, y :: b, ha, hb => by
    show UInt16.ofNat x :: mu a = UInt16.ofNat y :: mu b ↔ _
    rw [List.cons.injEq, List.cons.injEq, ofNat_inj (ha x (List.mem_cons_self ..)) (hb y (List.mem_cons_self ..)), mu_inj ha.tail hb.tail]
theorem mu_toNat {c : Nat} (h : c < 256) : (UInt16.ofNat c).toNat = c := by
  rw [UInt16.toNat_ofNat']; exact Nat.mod_eq_of_lt (by omega)
theorem le_mu {c d : Nat} (hc : c < 256) (hd : d < 256) : UInt16.ofNat d ≤ UInt16.ofNat c ↔ d ≤ c := by
  rw [UInt16.le_iff_toNat_le, mu_toNat hc, mu_toNat hd]
theorem isWord_mu {a w : List Nat} {s : String} (ha : Low a) (hw : Low w) (e : Rs.units s = mu w) : Rs.isWord (mu a) s = decide (a = w) := by
  unfold Rs.isWord
  rw [e, Bool.eq_iff_iff, beq_iff_eq, decide_eq_true_eq, mu_inj ha hw]
theorem u_shelf : Rs.units "shelf" = mu wShelf := by decide +kernel
theorem u_cust : Rs.units "customers" = mu wCust := by decide +kernel
theorem u_stock : Rs.units "stocker" = mu wStock := by decide +kernel
theorem u_of : Rs.units "of" = mu [111, 102] := by decide +kernel
theorem u_onto : Rs.units "onto" = mu [111, 110, 116, 111] := by decide +kernel
theorem low_words : Low wShelf ∧ Low wCust ∧ Low wStock ∧ Low [111, 102] ∧ Low [111, 110, 116, 111] := by
  refine ⟨?_, ?_, ?_, ?_, ?_⟩ <;> (intro c hc; revert c; decide)
theorem digit_mu {w : List Nat} {m : Nat} (hw : Low w) (hm : m ≤ 9) : Rs.numberTo m (mu w) = if digN w m = 0 then none else some (digN w m) := by
  unfold Rs.numberTo
  match w, hw with
  | [], _ => rfl
  | _ :: _ :: _, _ => rfl
  | [c], hw =>
    have hc := hw c (List.mem_cons_self ..)
    show ((if (49 : UInt16) ≤ UInt16.ofNat c ∧ UInt16.ofNat c ≤ 57 then some ((UInt16.ofNat c).toNat - 48) else none).bind fun n => if n ≤ m then some n else none) = if (if 48 < c ∧ c ≤ 48 + m then c - 48 else 0) = 0 then none else some (if 48 < c ∧ c ≤ 48 + m then c - 48 else 0)
    have h1 : (49 : UInt16) ≤ UInt16.ofNat c ↔ 49 ≤ c := le_mu (d := 49) hc (by decide)
    have h2 : UInt16.ofNat c ≤ (57 : UInt16) ↔ c ≤ 57 := le_mu (c := 57) (d := c) (by decide) hc
    rw [mu_toNat hc]
    by_cases k : 49 ≤ c ∧ c ≤ 57
    · rw [if_pos ⟨h1.2 k.1, h2.2 k.2⟩]
      show (if c - 48 ≤ m then some (c - 48) else none) = _
      by_cases k2 : c - 48 ≤ m
      · rw [if_pos k2, if_pos (c := 48 < c ∧ c ≤ 48 + m) (by omega), if_neg (by omega)]
      · rw [if_neg k2, if_neg (c := 48 < c ∧ c ≤ 48 + m) (by omega), if_pos rfl]
    · rw [if_neg (fun z => k ⟨h1.1 z.1, h2.1 z.2⟩), if_neg (c := 48 < c ∧ c ≤ 48 + m) (by omega), if_pos rfl]; rfl
theorem name_mu {w : List Nat} (hw : Low w) : Rs.isName (mu w) = nameN w := by
  unfold Rs.isName nameN
  have h1 : (mu w).length = w.length := List.length_map _
  have h2 : (mu w).all Rs.isNameUnit = decide ((w.filter isLet).length = w.length) := by
    rw [Bool.eq_iff_iff, decide_eq_true_eq, List.length_filter_eq_length_iff, List.all_eq_true]
    constructor
    · intro h c hc
      have hl := hw c hc
      have := h _ (List.mem_map_of_mem hc)
      unfold Rs.isNameUnit at this
      unfold isLet
      simp only [Bool.and_eq_true, decide_eq_true_eq] at this ⊢
      exact ⟨(le_mu (d := 97) hl (by decide)).1 this.1, (le_mu (c := 122) (d := c) (by decide) hl).1 this.2⟩
    · intro h x hx
      obtain ⟨c, hc, rfl⟩ := List.mem_map.1 hx
      have hl := hw c hc
      have := h c hc
      unfold isLet at this
      unfold Rs.isNameUnit
      simp only [Bool.and_eq_true, decide_eq_true_eq] at this ⊢
      exact ⟨(le_mu (d := 97) hl (by decide)).2 this.1, (le_mu (c := 122) (d := c) (by decide) hl).2 this.2⟩
  rw [h1, h2]
  show (decide (1 ≤ w.length) && (decide (w.length ≤ 8) && _)) = _
  cases decide (1 ≤ w.length) <;> cases decide (w.length ≤ 8) <;> cases decide ((w.filter isLet).length = w.length) <;> rfl
theorem nameN_low {w : List Nat} (h : nameN w = true) : Low w := fun c hc => by have := name_let h c hc; omega
theorem contains_mu {l : List (List Nat)} {x : List Nat} (hl : ∀ w, w ∈ l → Low w) (hx : Low x) : (l.map mu).contains (mu x) = l.contains x := by
  rw [Bool.eq_iff_iff, List.contains_iff_mem, List.contains_iff_mem, List.mem_map]
  constructor
  · rintro ⟨w, hw, e⟩
    rw [(mu_inj (hl w hw) hx).1 e] at hw; exact hw
  · exact fun h => ⟨x, h, rfl⟩
/-- what was read, as the specification has it -/
def shelvesD (d : DN) : List Rs.Shelf := (d.ns.zip d.rs).map fun e => ⟨mu e.1, e.2⟩
def absD (d : DN) : Rs.Reading := match d.c, d.s with
  | none, _ => ⟨0, ⟨shelvesD d, 1, 1, 1, 1⟩⟩
  | some c, none => ⟨1, ⟨shelvesD d, c.1, c.2, 1, 1⟩⟩
  | some c, some s => ⟨2, ⟨shelvesD d, c.1, c.2, s.1, s.2⟩⟩
theorem shelves_names {d : DN} (h : OkD d) : Rs.shelfNames (shelvesD d) = d.ns.map mu := by
  unfold Rs.shelfNames shelvesD
  rw [List.map_map]
  show ((d.ns.zip d.rs).map fun e => mu e.1) = _
  rw [show (fun e : List Nat × Nat => mu e.1) = mu ∘ fun e => e.1 from rfl, ← List.map_map, zip_fst' h.n]
theorem shelves_len {d : DN} (h : OkD d) : (shelvesD d).length = d.ns.length := by
  unfold shelvesD
  rw [List.length_map, List.length_zip, ← h.n]; omega
theorem shelves_snoc {d : DN} (h : OkD d) (nm : List Nat) (k : Nat) (c s : Option (Nat × Nat)) : shelvesD ⟨d.ns ++ [nm], d.rs ++ [k], c, s⟩ = shelvesD d ++ [⟨mu nm, k⟩] := by
  unfold shelvesD
  rw [List.zip_append h.n, List.map_append]; rfl
theorem shelvesD_c (d : DN) (c s : Option (Nat × Nat)) : shelvesD ⟨d.ns, d.rs, c, s⟩ = shelvesD d := rfl
theorem low_names {d : DN} (h : OkD d) : ∀ w, w ∈ d.ns → Low w := fun w hw => nameN_low (h.nm w hw)
theorem shelfFrom_mu {ws : List (List Nat)} (hl : ∀ w, w ∈ ws → Low w) : Rs.shelfFrom (ws.map mu) = match ws with
    | [a, nm, k] => if a = wShelf ∧ nameN nm = true then (if digN k 4 = 0 then none else some ⟨mu nm, digN k 4⟩) else none
    | _ => none := by
  match ws, hl with
  | [], _ => rfl
  | [_], _ => rfl
  | [_, _], _ => rfl
  | _ :: _ :: _ :: _ :: _, _ => rfl
  | [a, nm, k], hl =>
    show (if (Rs.isWord (mu a) "shelf" && Rs.isName (mu nm)) = true then (Rs.numberTo 4 (mu k)).map (fun n => (⟨mu nm, n⟩ : Rs.Shelf)) else none) = if a = wShelf ∧ nameN nm = true then (if digN k 4 = 0 then none else some ⟨mu nm, digN k 4⟩) else none
    rw [isWord_mu (hl a (by simp)) low_words.1 u_shelf, name_mu (hl nm (by simp)), digit_mu (hl k (by simp)) (by decide)]
    by_cases h : a = wShelf ∧ nameN nm = true
    · rw [if_pos h, if_pos (by rw [decide_eq_true h.1, h.2]; rfl)]
      split <;> rfl
    · rw [if_neg h, if_neg (fun z => h ?_)]
      rw [Bool.and_eq_true, decide_eq_true_eq] at z
      exact z
theorem custFrom_mu {ws : List (List Nat)} (hl : ∀ w, w ∈ ws → Low w) : Rs.customersFrom (ws.map mu) = match ws with
    | [a, n, o, k] => if a = wCust ∧ o = [111, 102] then (if digN k (digN n 4) = 0 then none else some (digN n 4, digN k (digN n 4))) else none
    | _ => none := by
  match ws, hl with
  | [], _ => rfl
  | [_], _ => rfl
  | [_, _], _ => rfl
  | [_, _, _], _ => rfl
  | _ :: _ :: _ :: _ :: _ :: _, _ => rfl
  | [a, n, o, k], hl =>
    show (if (Rs.isWord (mu a) "customers" && Rs.isWord (mu o) "of") = true then (Rs.numberTo 4 (mu n)).bind (fun n => (Rs.numberTo n (mu k)).map fun k => (n, k)) else none) = if a = wCust ∧ o = [111, 102] then (if digN k (digN n 4) = 0 then none else some (digN n 4, digN k (digN n 4))) else none
    rw [isWord_mu (hl a (by simp)) low_words.2.1 u_cust, isWord_mu (hl o (by simp)) low_words.2.2.2.1 u_of, digit_mu (hl n (by simp)) (by decide)]
    by_cases h : a = wCust ∧ o = [111, 102]
    · rw [if_pos h, if_pos (by rw [decide_eq_true h.1, decide_eq_true h.2]; rfl)]
      by_cases h0 : digN n 4 = 0
      · rw [if_pos h0, if_pos (by rw [h0]; exact Decidable.byContradiction fun z => by have := digN_le z; omega)]; rfl
      · rw [if_neg h0]
        show (Rs.numberTo (digN n 4) (mu k)).map _ = _
        have := digN_le h0
        rw [digit_mu (hl k (by simp)) (by omega)]
        split <;> rfl
    · rw [if_neg h, if_neg (fun z => h ?_)]
      rw [Bool.and_eq_true, decide_eq_true_eq, decide_eq_true_eq] at z
      exact z
theorem stockFrom_mu {ws : List (List Nat)} {m : Nat} (hm : m ≤ 9) (hl : ∀ w, w ∈ ws → Low w) : Rs.stockerFrom m (ws.map mu) = match ws with
    | [a, n, o, k] => if a = wStock ∧ o = [111, 110, 116, 111] then (if digN n 9 = 0 ∨ digN k m = 0 then none else some (digN n 9, digN k m)) else none
    | _ => none := by
  match ws, hl with
  | [], _ => rfl
  | [_], _ => rfl
  | [_, _], _ => rfl
  | [_, _, _], _ => rfl
  | _ :: _ :: _ :: _ :: _ :: _, _ => rfl
  | [a, n, o, k], hl =>
    show (if (Rs.isWord (mu a) "stocker" && Rs.isWord (mu o) "onto") = true then (Rs.numberTo 9 (mu n)).bind (fun n => (Rs.numberTo m (mu k)).map fun k => (n, k)) else none) = if a = wStock ∧ o = [111, 110, 116, 111] then (if digN n 9 = 0 ∨ digN k m = 0 then none else some (digN n 9, digN k m)) else none
    rw [isWord_mu (hl a (by simp)) low_words.2.2.1 u_stock, isWord_mu (hl o (by simp)) low_words.2.2.2.2 u_onto, digit_mu (hl n (by simp)) (by decide)]
    by_cases h : a = wStock ∧ o = [111, 110, 116, 111]
    · rw [if_pos h, if_pos (by rw [decide_eq_true h.1, decide_eq_true h.2]; rfl)]
      by_cases h0 : digN n 9 = 0
      · rw [if_pos h0, if_pos (.inl h0)]; rfl
      · rw [if_neg h0]
        show (Rs.numberTo m (mu k)).map _ = _
        rw [digit_mu (hl k (by simp)) hm]
        by_cases h1 : digN k m = 0
        · rw [if_pos h1, if_pos (.inr h1)]; rfl
        · rw [if_neg h1, if_neg (fun z => z.elim h0 h1)]; rfl
    · rw [if_neg h, if_neg (fun z => h ?_)]
      rw [Bool.and_eq_true, decide_eq_true_eq, decide_eq_true_eq] at z
      exact z
theorem cust_shelf : wCust ≠ wShelf ∧ wStock ≠ wShelf ∧ wStock ≠ wCust := by decide
theorem lineN_cons (d : DN) (a : List Nat) (r : List (List Nat)) : lineN d (a :: r) = if a = wShelf then shelfN d (a :: r) else if a = wCust then custN d (a :: r) else if a = wStock then stockN d (a :: r) else none := by
  unfold lineN
  simp only [List.head?_cons, Option.some.injEq]
theorem lineN_0 {ns : List (List Nat)} {rs : List Nat} {ws : List (List Nat)} (h : OkD ⟨ns, rs, none, none⟩) (hl : ∀ w, w ∈ ws → Low w) : Rs.readShopLine (absD ⟨ns, rs, none, none⟩) (ws.map mu) = (lineN ⟨ns, rs, none, none⟩ ws).map absD := by
  have e1 := shelfFrom_mu hl
  have e2 := custFrom_mu hl
  have hsl := shelves_len h
  have hsn := shelves_names h
  have l3 := h.l3
  have hlow := low_names h
  show (match ((Rs.shelfFrom (ws.map mu)).bind fun s => if (shelvesD ⟨ns, rs, none, none⟩).length < 3 ∧ (Rs.shelfNames (shelvesD ⟨ns, rs, none, none⟩)).contains s.name = false then some (⟨0, ⟨shelvesD ⟨ns, rs, none, none⟩ ++ [s], 1, 1, 1, 1⟩⟩ : Rs.Reading) else none) with
      | some e => some e
      | none => if (shelvesD ⟨ns, rs, none, none⟩).isEmpty = true then none else (Rs.customersFrom (ws.map mu)).map fun (e : Nat × Nat) => (⟨1, ⟨shelvesD ⟨ns, rs, none, none⟩, e.1, e.2, 1, 1⟩⟩ : Rs.Reading)) = _
  rw [e1, e2, hsl, hsn]
  have hem : (shelvesD ⟨ns, rs, none, none⟩).isEmpty = decide (ns.length = 0) := by
    rw [← show (shelvesD ⟨ns, rs, none, none⟩).length = ns.length from hsl]
    cases shelvesD ⟨ns, rs, none, none⟩ <;> simp
  rw [hem]
  match ws, hl with
  | [], _ => show (if _ then none else none) = none; split <;> rfl
  | [a], _ =>
    rw [lineN_cons, shelfN_len (by simp), custN_len (by simp), stockN_len (by simp)]
    show (if _ then none else none) = _
    simp
  | [a, b], _ =>
    rw [lineN_cons, shelfN_len (by simp), custN_len (by simp), stockN_len (by simp)]
    show (if _ then none else none) = _
    simp
  | a :: b :: c :: d :: e :: r, _ =>
    rw [lineN_cons, shelfN_len (by simp), custN_len (by simp), stockN_len (by simp)]
    show (if _ then none else none) = _
    simp
  | [a, nm, k], hl =>
    rw [lineN_cons, custN_len (by simp), stockN_len (by simp)]
    have hnm : Low nm := hl nm (by simp)
    show (match ((if a = wShelf ∧ nameN nm = true then (if digN k 4 = 0 then none else some (⟨mu nm, digN k 4⟩ : Rs.Shelf)) else none).bind fun s => if ns.length < 3 ∧ (ns.map mu).contains s.name = false then some (⟨0, ⟨shelvesD ⟨ns, rs, none, none⟩ ++ [s], 1, 1, 1, 1⟩⟩ : Rs.Reading) else none) with
      | some e => some e
      | none => if decide (ns.length = 0) = true then none else none) = Option.map absD (if a = wShelf then (if (none : Option (Nat × Nat)).isSome = true ∨ ns.length = 3 then none else if nameN nm = false ∨ ns.contains nm = true then none else if digN k 4 = 0 then none else some ⟨ns ++ [nm], rs ++ [digN k 4], none, none⟩) else if a = wCust then none else if a = wStock then none else none)
    have no : (if decide (ns.length = 0) = true then (none : Option Rs.Reading) else none) = none := by split <;> rfl
    rw [no]
    by_cases ha : a = wShelf
    · rw [if_pos ha]
      by_cases hn : nameN nm = true
      · rw [if_pos ⟨ha, hn⟩]
        by_cases hk : digN k 4 = 0
        · rw [if_pos hk, if_pos hk]; simp
        · rw [if_neg hk, if_neg hk]
          show (match (if ns.length < 3 ∧ (ns.map mu).contains (mu nm) = false then some (⟨0, ⟨shelvesD ⟨ns, rs, none, none⟩ ++ [⟨mu nm, digN k 4⟩], 1, 1, 1, 1⟩⟩ : Rs.Reading) else none) with
            | some e => some e
            | none => none) = _
          rw [contains_mu hlow hnm]
          have l3' : ns.length ≤ 3 := l3
          by_cases h3 : ns.length = 3
          · rw [if_neg (by omega), if_pos (.inr h3)]; rfl
          · rw [if_neg (c := (none : Option (Nat × Nat)).isSome = true ∨ ns.length = 3) (by rintro (z | z); cases z; exact h3 z)]
            by_cases hc : ns.contains nm = true
            · rw [if_neg (by rw [hc]; simp), if_pos (.inr hc)]; rfl
            · have hc' : ns.contains nm = false := by simpa using hc
              rw [if_pos ⟨by omega, hc'⟩, if_neg (by rw [hn, hc']; simp)]
              show some _ = some _
              rw [← shelves_snoc h nm (digN k 4) none none]; rfl
      · have hn' : nameN nm = false := by simpa using hn
        rw [if_neg (fun z => hn z.2)]
        rw [if_pos (c := nameN nm = false ∨ ns.contains nm = true) (.inl hn')]
        show none = Option.map absD (if (none : Option (Nat × Nat)).isSome = true ∨ ns.length = 3 then none else none)
        simp
    · rw [if_neg (fun z => ha z.1), if_neg ha]
      simp
  | [a, n, o, k], hl =>
    rw [lineN_cons, shelfN_len (by simp)]
    show (if decide (ns.length = 0) = true then none else (if a = wCust ∧ o = [111, 102] then (if digN k (digN n 4) = 0 then none else some (digN n 4, digN k (digN n 4))) else none).map fun (e : Nat × Nat) => (⟨1, ⟨shelvesD ⟨ns, rs, none, none⟩, e.1, e.2, 1, 1⟩⟩ : Rs.Reading)) =
      Option.map absD (if a = wShelf then none else if a = wCust then (if (none : Option (Nat × Nat)).isSome = true ∨ ns.length = 0 then none else if o ≠ [111, 102] then none else if digN k (digN n 4) = 0 then none else some ⟨ns, rs, some (digN n 4, digN k (digN n 4)), none⟩) else if a = wStock then (if (none : Option (Nat × Nat)) = none ∨ (none : Option (Nat × Nat)).isSome = true then none else if o ≠ [111, 110, 116, 111] then none else if digN n 9 = 0 ∨ digN k ns.length = 0 then none else some ⟨ns, rs, none, some (digN n 9, digN k ns.length)⟩) else none)
    by_cases ha : a = wCust
    · rw [if_neg (c := a = wShelf) (by rw [ha]; exact cust_shelf.1), if_pos (c := a = wCust) ha]
      by_cases h0 : ns.length = 0
      · rw [if_pos (by simpa using h0), if_pos (.inr h0)]; rfl
      · rw [if_neg (by simpa using h0), if_neg (c := (none : Option (Nat × Nat)).isSome = true ∨ ns.length = 0) (by rintro (z | z); cases z; exact h0 z)]
        by_cases ho : o = [111, 102]
        · rw [if_pos ⟨ha, ho⟩, if_neg (c := o ≠ [111, 102]) (by simpa using ho)]
          split <;> rfl
        · rw [if_neg (fun z => ho z.2), if_pos ho]; rfl
    · rw [if_neg (c := a = wCust ∧ o = [111, 102]) (fun z => ha z.1), if_neg (c := a = wCust) ha, if_pos (c := (none : Option (Nat × Nat)) = none ∨ _) (.inl rfl)]
      simp
theorem lineN_1 {ns : List (List Nat)} {rs : List Nat} {c : Nat × Nat} {ws : List (List Nat)} (h : OkD ⟨ns, rs, some c, none⟩) (hl : ∀ w, w ∈ ws → Low w) : Rs.readShopLine (absD ⟨ns, rs, some c, none⟩) (ws.map mu) = (lineN ⟨ns, rs, some c, none⟩ ws).map absD := by
  have hsl := shelves_len h
  have l3 := h.l3
  have e3 := stockFrom_mu (m := ns.length) (by have : ns.length ≤ 3 := l3; omega) hl
  show ((Rs.stockerFrom (shelvesD ⟨ns, rs, some c, none⟩).length (ws.map mu)).map fun (e : Nat × Nat) => (⟨2, ⟨shelvesD ⟨ns, rs, some c, none⟩, c.1, c.2, e.1, e.2⟩⟩ : Rs.Reading)) = _
  rw [hsl, e3]
  match ws, hl with
  | [], _ => rfl
  | [a], _ =>
    rw [lineN_cons, shelfN_len (by simp), custN_len (by simp), stockN_len (by simp)]
    simp
  | [a, b], _ =>
    rw [lineN_cons, shelfN_len (by simp), custN_len (by simp), stockN_len (by simp)]
    simp
  | [a, b, e], _ =>
    rw [lineN_cons, shelfN_c (.inl rfl), custN_len (by simp), stockN_len (by simp)]
    simp
  | a :: b :: e :: d :: f :: r, _ =>
    rw [lineN_cons, shelfN_len (by simp), custN_len (by simp), stockN_len (by simp)]
    simp
  | [a, n, o, k], hl =>
    rw [lineN_cons, shelfN_len (by simp), custN_c (.inl rfl)]
    show ((if a = wStock ∧ o = [111, 110, 116, 111] then (if digN n 9 = 0 ∨ digN k ns.length = 0 then none else some (digN n 9, digN k ns.length)) else none).map fun (e : Nat × Nat) => (⟨2, ⟨shelvesD ⟨ns, rs, some c, none⟩, c.1, c.2, e.1, e.2⟩⟩ : Rs.Reading)) =
      Option.map absD (if a = wShelf then none else if a = wCust then none else if a = wStock then (if some c = none ∨ (none : Option (Nat × Nat)).isSome = true then none else if o ≠ [111, 110, 116, 111] then none else if digN n 9 = 0 ∨ digN k ns.length = 0 then none else some ⟨ns, rs, some c, some (digN n 9, digN k ns.length)⟩) else none)
    by_cases ha : a = wStock
    · rw [if_neg (c := a = wShelf) (by rw [ha]; exact cust_shelf.2.1), if_neg (c := a = wCust) (by rw [ha]; exact cust_shelf.2.2), if_pos (c := a = wStock) ha, if_neg (c := some c = none ∨ _) (by rintro (z | z) <;> cases z)]
      by_cases ho : o = [111, 110, 116, 111]
      · rw [if_pos ⟨ha, ho⟩, if_neg (c := o ≠ [111, 110, 116, 111]) (by simpa using ho)]
        split <;> rfl
      · rw [if_neg (fun z => ho z.2), if_pos ho]; rfl
    · rw [if_neg (c := a = wStock ∧ _) (fun z => ha z.1), if_neg (c := a = wStock) ha]
      simp
theorem lineN_eq {d : DN} {ws : List (List Nat)} (h : OkD d) (hl : ∀ w, w ∈ ws → Low w) : Rs.readShopLine (absD d) (ws.map mu) = (lineN d ws).map absD := by
  obtain ⟨ns, rs, c, s⟩ := d
  cases c with
  | none =>
    have hs : s = none := by
      cases s with
      | none => rfl
      | some x => have := h.cs rfl; cases this
    subst hs
    exact lineN_0 h hl
  | some c =>
    cases s with
    | none => exact lineN_1 h hl
    | some s =>
      show none = _
      unfold lineN
      rw [shelfN_c (.inl rfl), custN_c (.inl rfl), stockN_c (.inr rfl)]
      simp
theorem st_low {d : Nat} : ∀ (l : List Nat) (st : List (List Nat) × List Nat), Low l → (∀ w, w ∈ st.1 → Low w) → Low st.2 → (∀ w, w ∈ (l.foldl (stepN d) st).1 → Low w) ∧ Low (l.foldl (stepN d) st).2
  | [], st, _, h1, h2 => ⟨h1, h2⟩
  | c :: l, st, hl, h1, h2 => by
    rw [List.foldl_cons]
    have hc := hl c (List.mem_cons_self ..)
    refine st_low l _ hl.tail ?_ ?_ <;> unfold stepN
    · split
      · intro w hw
        rcases List.mem_append.1 hw with hw | hw
        · exact h1 w hw
        · cases List.mem_singleton.1 hw; exact h2
      · exact h1
    · split
      · intro x hx; cases hx
      · intro x hx
        rcases List.mem_append.1 hx with hx | hx
        · exact h2 x hx
        · cases List.mem_singleton.1 hx; exact hc
theorem split_low {d : Nat} {l : List Nat} (hl : Low l) : ∀ w, w ∈ splitN d l → Low w := by
  obtain ⟨h1, h2⟩ := st_low (d := d) l ([], []) hl (fun _ hw => by cases hw) (fun _ hw => by cases hw)
  intro w hw
  rcases List.mem_append.1 hw with hw | hw
  · exact h1 w hw
  · cases List.mem_singleton.1 hw; exact h2
theorem words_low {l : List Nat} (hl : Low l) : ∀ w, w ∈ wordsN l → Low w := fun w hw => split_low hl w (List.mem_filter.1 hw).1
theorem readN_eq : ∀ {ls : List (List Nat)} {k : Nat} {d : DN}, OkD d → (∀ l, l ∈ ls → Low l) → Rs.readLines Rs.readShopLine k (absD d) (ls.map mu) = match readN k d ls with
    | .ok d' => .ok (absD d')
    | .error n => .error n
  | [], k, d, _, _ => rfl
  | u :: r, k, d, h, hl => by
    have hu := hl u (List.mem_cons_self ..)
    have hr : ∀ l, l ∈ r → Low l := fun l h => hl l (List.mem_cons_of_mem _ h)
    rw [List.map_cons]
    unfold Rs.readLines readN
    rw [← words_eq hu]
    by_cases hw : wordsN u = []
    · rw [if_pos hw, if_pos (by rw [hw]; rfl)]
      exact readN_eq h hr
    · rw [if_neg hw, if_neg (by simpa using hw), lineN_eq h (words_low hu)]
      cases e : lineN d (wordsN u) with
      | none => rfl
      | some d' => exact readN_eq (lineN_ok h e) hr
theorem readN_err : ∀ {ls : List (List Nat)} {k n : Nat} {d : DN}, readN k d ls = .error n → n < k + ls.length
  | [], k, n, d, e => by cases e
  | u :: r, k, n, d, e => by
    unfold readN at e
    rw [List.length_cons]
    split at e
    · have := readN_err e; omega
    · split at e
      · cases e; omega
      · have := readN_err e; omega
theorem shopFor_eq {t : List Nat} (hl : Low t) : Rs.shopFor t = match shN t with
    | .ok p => .ok p
    | .error e => .bad e := by
  have ok0 : OkD ⟨[], [], none, none⟩ := ⟨rfl, Nat.zero_le _, (fun _ hx => by cases hx), (fun _ hx => by cases hx), (fun _ _ hx => by cases hx), (fun _ _ hx => by cases hx), (fun hx => by cases hx)⟩
  unfold Rs.shopFor shN shopN
  by_cases h : 200 < t.length
  · rw [if_pos h, show (decide (t.length ≤ Rs.mostText)) = false from decide_eq_false (by show ¬ t.length ≤ 200; omega)]; rfl
  · rw [if_neg h, show (decide (t.length ≤ Rs.mostText)) = true from decide_eq_true (by show t.length ≤ 200; omega)]
    show (match Rs.readShop (mu t) with
      | .ok p => Rs.Res.ok p
      | .error n => .bad ([3] ++ Rs.putU16 n)) = _
    have hlen : (splitN 10 t).length ≤ 201 := by have := splitN_len 10 t; omega
    have hput : ∀ n : Nat, n < 65536 → [3] ++ Rs.putU16 n = eOf (n : Int) := fun n hn => by
      unfold Rs.putU16 eOf
      show [3, n % 256, n / 256 % 256] = [3, n % 256, n / 256]
      rw [Nat.mod_eq_of_lt (show n / 256 < 256 by omega)]
    have hrd := readN_eq (k := 1) ok0 (split_low (d := 10) hl)
    unfold Rs.readShop
    rw [← lines_eq hl, show Rs.startReading = absD ⟨[], [], none, none⟩ from rfl, hrd, List.length_map]
    cases e : readN 1 ⟨[], [], none, none⟩ (splitN 10 t) with
    | error n =>
      have := readN_err e
      simp only
      rw [hput n (by omega)]
    | ok d =>
      simp only
      obtain ⟨ns, rs, c, s⟩ := d
      have ok := readN_ok ok0 e
      have hw : ∀ n : Nat, n < 65536 → ∀ r : Rs.Reading, r.stage ≠ 2 → (match Rs.wholeShop r n with
        | .ok p => Rs.Res.ok p
        | .error n => .bad ([3] ++ Rs.putU16 n)) = .bad (eOf (n : Int)) := fun n hn r hr => by
        unfold Rs.wholeShop
        rw [if_neg hr]
        simp only
        rw [hput n hn]
      cases c with
      | none => exact hw (splitN 10 t).length (by omega) (absD ⟨ns, rs, none, s⟩) (show (0 : Nat) ≠ 2 by decide)
      | some c =>
        cases s with
        | none => exact hw (splitN 10 t).length (by omega) (absD ⟨ns, rs, some c, none⟩) (show (1 : Nat) ≠ 2 by decide)
        | some s => rfl
/-- the octets of a shop's name are those of letters -/
theorem shN_names {t : List Nat} {p : Rs.Shop} (h : shN t = .ok p) : ∀ s, s ∈ p.shelves → s.name.length ≤ 8 ∧ ∀ c, c ∈ s.name → c.toNat < 256 := by
  have ok0 : OkD ⟨[], [], none, none⟩ := ⟨rfl, Nat.zero_le _, (fun _ hx => by cases hx), (fun _ hx => by cases hx), (fun _ _ hx => by cases hx), (fun _ _ hx => by cases hx), (fun hx => by cases hx)⟩
  unfold shN shopN at h
  split at h
  · rename_i d c s h'
    cases h
    split at h'
    · cases h'
    · split at h'
      · cases h'
      · rename_i d1 hr
        have ok := readN_ok ok0 hr
        split at h'
        · cases h'
          intro sh hsh
          obtain ⟨e, he, rfl⟩ := List.mem_map.1 hsh
          have hm : e.1 ∈ d.ns := (List.of_mem_zip (a := e.1) (b := e.2) he).1
          have hn := ok.nm _ hm
          refine ⟨?_, fun c hc => ?_⟩
          · show (e.1.map UInt16.ofNat).length ≤ 8
            rw [List.length_map]
            unfold nameN at hn
            simp only [Bool.and_eq_true, decide_eq_true_eq] at hn
            exact hn.2.2
          · obtain ⟨x, hx, rfl⟩ := List.mem_map.1 hc
            have := name_let hn x hx
            rw [mu_toNat (by omega)]; omega
        · cases h'
  · cases h
end Fs
set_option Elab.async false
set_option linter.all false
set_option maxRecDepth 100000
set_option maxHeartbeats 4000000
namespace Fs
/-! requests, taken apart, against the specification's requests -/
inductive ReqOf : Nat → List PV → Rs.Request → Prop
  | format {t : List Nat} : Low t → ReqOf 1 [.text t] (.format t)
  | safe {t s : List Nat} : Low t → ReqOf 2 [.text t, .row s] (.safe t s)
  | filling {t s : List Nat} : Low t → ReqOf 3 [.text t, .row s] (.filling t s)
  | doom {t s : List Nat} : Low t → ReqOf 4 [.text t, .row s] (.doom t s)
  | attack {t s : List Nat} : Low t → ReqOf 5 [.text t, .row s] (.attack t s)
  | least {t : List Nat} : Low t → ReqOf 6 [.text t] (.least t)
  | fewest {t : List Nat} : Low t → ReqOf 7 [.text t] (.fewest t)
  | parting {t u : List Nat} : Low t → Low u → ReqOf 8 [.text t, .text u] (.parting t u)
  | round {k : Nat} {t : List Nat} : Low t → ReqOf 9 [.seat k, .text t] (.round k t)
  | fill {k : Nat} {f : List Nat} : ReqOf 10 [.seat k, .row f] (.fill k f)
  | sell {k : Nat} {f : List Nat} : ReqOf 11 [.seat k, .row f] (.sell k f)
  | undo {k : Nat} : ReqOf 12 [.seat k] (.undo k)
  | look {k : Nat} : ReqOf 13 [.seat k] (.look k)
theorem text_low {l t r : List Nat} (hl : Low l) (h : Rs.takeText l = some (t, r)) : Low t ∧ Low r := by
  obtain ⟨n, r1, h2, h3⟩ := RsP.next_some.1 h
  obtain ⟨x, y, rfl, _⟩ := RsP.u16_some.1 h2
  have h3 : Rs.takeMany Rs.takeU8 n r1 = some (t, r) := h3
  rw [takeMany_u8] at h3
  split at h3
  · cases h3
    exact ⟨fun c hc => hl c (List.mem_cons_of_mem _ (List.mem_cons_of_mem _ (List.mem_of_mem_take hc))), fun c hc => hl c (List.mem_cons_of_mem _ (List.mem_cons_of_mem _ (List.mem_of_mem_drop hc)))⟩
  · cases h3
theorem seat_low {l r : List Nat} {n : Nat} (hl : Low l) (h : Rs.takeU8 l = some (n, r)) : Low r := by
  cases l with
  | nil => cases h
  | cons a l => cases h; exact hl.tail
theorem empty_if {r : List Nat} {α : Type} (a b : α) : (if r.isEmpty = true then a else b) = if r = [] then a else b := by cases r <;> simp
theorem one_apart {n : Nat} {k : Kd} {r : List Nat} (h : kindsOf n = some [k]) : apart (n :: r) = match partTake k r with | none => none | some (v, r') => if r' = [] then some (n, [v]) else none := by
  unfold apart
  show (match kindsOf n with | none => none | some ks => match partsOf ks r with | none => none | some (vs, r') => if r' = [] then some (n, vs) else none) = _
  rw [h]
  show (match (match partTake k r with | none => none | some (v, r') => some ([v], r')) with | none => none | some (vs, r') => if r' = [] then some (n, vs) else none) = _
  cases partTake k r with
  | none => rfl
  | some e => rfl
theorem two_apart {n : Nat} {k j : Kd} {r : List Nat} (h : kindsOf n = some [k, j]) : apart (n :: r) = match partTake k r with | none => none | some (v, r') => match partTake j r' with | none => none | some (u, r2) => if r2 = [] then some (n, [v, u]) else none := by
  unfold apart
  show (match kindsOf n with | none => none | some ks => match partsOf ks r with | none => none | some (vs, r') => if r' = [] then some (n, vs) else none) = _
  rw [h]
  show (match (match partTake k r with | none => none | some (v, r') => match (match partTake j r' with | none => none | some (u, r2) => some ([u], r2)) with | none => none | some (vs, r2) => some (v :: vs, r2)) with | none => none | some (vs, r') => if r' = [] then some (n, vs) else none) = _
  cases partTake k r with
  | none => rfl
  | some e =>
    simp only
    cases partTake j e.2 with
    | none => rfl
    | some f => rfl
theorem req_cons (n : Nat) (r : List Nat) : Rs.requestOf (n :: r) = Rs.taken (if (n == 0) = true then Rs.wrongly else (Rs.takers[n - 1]?).getD Rs.wrongly) r := rfl
def Fits (c : List Nat) : Prop := (apart c = none ∧ Rs.requestOf c = none) ∨ ∃ n ps x, apart c = some (n, ps) ∧ Rs.requestOf c = some x ∧ ReqOf n ps x
theorem fits_1 {n : Nat} {k : Kd} {α : Type} {T : Rs.Take α} {g : α → PV} {f : α → Rs.Request} {r : List Nat} (h : kindsOf n = some [k]) (hk : partTake k = Rs.mapTake g T) (ht : (if (n == 0) = true then Rs.wrongly else (Rs.takers[n - 1]?).getD Rs.wrongly) = Rs.mapTake f T)
    (hq : ∀ a, T r = some (a, []) → ReqOf n [g a] (f a)) : Fits (n :: r) := by
  unfold Fits
  rw [one_apart h, req_cons, ht, hk]
  unfold Rs.mapTake Rs.taken Rs.next Rs.given
  cases e : T r with
  | none => exact .inl ⟨rfl, rfl⟩
  | some z =>
    obtain ⟨a, r1⟩ := z
    simp only
    cases r1 with
    | nil => exact .inr ⟨n, _, _, rfl, rfl, hq a e⟩
    | cons b r2 => exact .inl ⟨rfl, rfl⟩
theorem fits_2 {n : Nat} {k j : Kd} {α β : Type} {T : Rs.Take α} {U : Rs.Take β} {g : α → PV} {g2 : β → PV} {f : α → β → Rs.Request} {r : List Nat} (h : kindsOf n = some [k, j]) (hk : partTake k = Rs.mapTake g T) (hj : partTake j = Rs.mapTake g2 U)
    (ht : (if (n == 0) = true then Rs.wrongly else (Rs.takers[n - 1]?).getD Rs.wrongly) = Rs.next T fun a => Rs.next U fun b => Rs.given (f a b))
    (hq : ∀ a b r1, T r = some (a, r1) → U r1 = some (b, []) → ReqOf n [g a, g2 b] (f a b)) : Fits (n :: r) := by
  unfold Fits
  rw [two_apart h, req_cons, ht, hk, hj]
  unfold Rs.mapTake Rs.taken Rs.next Rs.given
  cases e : T r with
  | none => exact .inl ⟨rfl, rfl⟩
  | some z =>
    obtain ⟨a, r1⟩ := z
    simp only
    cases e2 : U r1 with
    | none => exact .inl ⟨rfl, rfl⟩
    | some y =>
      obtain ⟨b, r2⟩ := y
      simp only
      cases r2 with
      | nil => exact .inr ⟨n, _, _, rfl, rfl, hq a b r1 e e2⟩
      | cons b r2 => exact .inl ⟨rfl, rfl⟩
theorem apart_fits {c : List Nat} (hl : Low c) : Fits c := by
  match c, hl with
  | [], _ => exact .inl ⟨rfl, rfl⟩
  | 0 :: r, _ => exact .inl ⟨rfl, rfl⟩
  | 1 :: r, hl => exact fits_1 (k := .text) rfl rfl rfl fun a e => .format (text_low hl.tail e).1
  | 2 :: r, hl => exact fits_2 (k := .text) (j := .row) rfl rfl rfl rfl fun a b r1 e e2 => .safe (text_low hl.tail e).1
  | 3 :: r, hl => exact fits_2 (k := .text) (j := .row) rfl rfl rfl rfl fun a b r1 e e2 => .filling (text_low hl.tail e).1
  | 4 :: r, hl => exact fits_2 (k := .text) (j := .row) rfl rfl rfl rfl fun a b r1 e e2 => .doom (text_low hl.tail e).1
  | 5 :: r, hl => exact fits_2 (k := .text) (j := .row) rfl rfl rfl rfl fun a b r1 e e2 => .attack (text_low hl.tail e).1
  | 6 :: r, hl => exact fits_1 (k := .text) rfl rfl rfl fun a e => .least (text_low hl.tail e).1
  | 7 :: r, hl => exact fits_1 (k := .text) rfl rfl rfl fun a e => .fewest (text_low hl.tail e).1
  | 8 :: r, hl => exact fits_2 (k := .text) (j := .text) rfl rfl rfl rfl fun a b r1 e e2 => .parting (text_low hl.tail e).1 (text_low (text_low hl.tail e).2 e2).1
  | 9 :: r, hl => exact fits_2 (k := .seat) (j := .text) rfl rfl rfl rfl fun a b r1 e e2 => .round (text_low (seat_low hl.tail e) e2).1
  | 10 :: r, hl => exact fits_2 (k := .seat) (j := .row) rfl rfl rfl rfl fun a b r1 e e2 => .fill
  | 11 :: r, hl => exact fits_2 (k := .seat) (j := .row) rfl rfl rfl rfl fun a b r1 e e2 => .sell
  | 12 :: r, hl => exact fits_1 (k := .seat) rfl rfl rfl fun a e => .undo
  | 13 :: r, hl => exact fits_1 (k := .seat) rfl rfl rfl fun a e => .look
  | (n + 14) :: r, _ =>
    have h : kindsOf (n + 14) = none := by
      unfold kindsOf
      simp
    refine .inl ⟨?_, ?_⟩
    · unfold apart
      show (match kindsOf (n + 14) with | none => none | some ks => match partsOf ks r with | none => none | some (vs, r') => if r' = [] then some (n + 14, vs) else none) = none
      rw [h]
    · rw [req_cons]
      have : Rs.takers[n + 14 - 1]? = none := List.getElem?_eq_none (by show 13 ≤ n + 14 - 1; omega)
      rw [this]; rfl
end Fs
set_option Elab.async false
set_option linter.all false
set_option maxRecDepth 100000
set_option maxHeartbeats 4000000
namespace Fs
open FsLaw (IsShop IsStock AreNumbers)
/-! what is answered, against the specification's answers -/
theorem below_le : ∀ {s r : List Nat} {n : Nat}, FsLaw.Below s r → (∀ x, x ∈ r → x ≤ n) → ∀ x, x ∈ s → x ≤ n
  | [], _, _, _, _, x, hx => by cases hx
  | _ :: _, [], _, h, _, _, _ => absurd h RsP.not_below_cons_nil
  | a :: s, b :: r, n, h, hr, x, hx => by
    obtain ⟨h1, h2⟩ := RsP.below_cons.1 h
    rcases List.mem_cons.1 hx with rfl | hx
    · have := hr b (List.mem_cons_self ..); omega
    · exact below_le h2 (fun y hy => hr y (List.mem_cons_of_mem _ hy)) x hx
theorem stock_num {p : Rs.Shop} {s : List Nat} (hp : IsShop p) (h : IsStock p s) : AreNumbers s := by
  refine ⟨by have := RsP.stock_short hp h; omega, fun c hc => ?_⟩
  have := below_le h (n := 4) (fun x hx => by
    obtain ⟨sh, hsh, rfl⟩ := List.mem_map.1 hx
    exact (hp.1.2.2.2 sh hsh).2.2) c hc
  omega
theorem nine_num {p : Rs.Shop} {f : List Nat} (hp : IsShop p) (h : FsLaw.Below f (p.shelves.map fun _ => 9)) : AreNumbers f := by
  obtain ⟨h1, h2⟩ := RsP.const_below.1 h
  exact ⟨by have := hp.1.2.1; omega, fun c hc => by have := h2 c hc; omega⟩
theorem put_num {l : List Nat} (h : AreNumbers l) : Rs.putNumbers l = l.length :: l := by
  unfold Rs.putNumbers Rs.putList8 Rs.putU8
  rw [Nat.mod_eq_of_lt h.1]
  show l.length :: l.flatMap (fun n => [n % 256]) = _
  congr 1
  obtain ⟨-, h⟩ := h
  induction l with
  | nil => rfl
  | cons a l ih =>
    rw [List.flatMap_cons, ih fun c hc => h c (List.mem_cons_of_mem _ hc), Nat.mod_eq_of_lt (h a (List.mem_cons_self ..))]; rfl
theorem maybe_num {x : Option (List Nat)} (h : ∀ f, x = some f → AreNumbers f) : Rs.putMaybe Rs.putNumbers x = maybeRow x := by
  cases x with
  | none => rfl
  | some f => show 1 :: Rs.putNumbers f = _; rw [put_num (h f rfl)]; rfl
theorem maybe_u8 {x : Option Nat} (h : ∀ n, x = some n → n < 256) : Rs.putMaybe Rs.putU8 x = maybeU8 x := by
  cases x with
  | none => rfl
  | some n => show [1, n % 256] = [1, n]; rw [Nat.mod_eq_of_lt (h n rfl)]
theorem maybe_u16 {x : Option Nat} (h : ∀ n, x = some n → n < 65536) : Rs.putMaybe Rs.putU16 x = maybeU16 x := by
  cases x with
  | none => rfl
  | some n =>
    have := h n rfl
    show [1, n % 256, n / 256 % 256] = [1, n % 256, n / 256]; rw [Nat.mod_eq_of_lt (show n / 256 < 256 by omega)]
theorem filling_num {p : Rs.Shop} {s : List Nat} (hp : IsShop p) (h : IsStock p s) : Rs.putMaybe Rs.putNumbers (Rs.fillingOf p s) = maybeRow (Rs.fillingOf p s) :=
  maybe_num fun f e => nine_num hp (RsP.nine_filling hp h (RsP.filling_some h e).1)
theorem attack_num {p : Rs.Shop} {s : List Nat} (hp : IsShop p) (h : IsStock p s) : Rs.putMaybe Rs.putNumbers (Rs.attackOf p s) = maybeRow (Rs.attackOf p s) :=
  maybe_num fun f e => nine_num hp (RsP.nine_taking hp (RsP.attack_some h e).1)
theorem doom_num {p : Rs.Shop} {s : List Nat} (hp : IsShop p) (h : IsStock p s) : Rs.putMaybe Rs.putU16 (Rs.doomOf p s) = maybeU16 (Rs.doomOf p s) :=
  maybe_u16 fun n e => by have := (RsP.doom_some h e).1; have := RsP.bound_le hp; omega
theorem parting_num {p q : Rs.Shop} (hp : IsShop p) : Rs.putMaybe Rs.putNumbers (Rs.partingOf p q) = maybeRow (Rs.partingOf p q) :=
  maybe_num fun f e => stock_num hp (RsP.parting_some e).1
theorem least_num {p : Rs.Shop} (hp : IsShop p) : Rs.putList16 Rs.putNumbers (Rs.leastOf p) = (Rs.leastOf p).length % 256 :: (Rs.leastOf p).length / 256 :: rowsOf (Rs.leastOf p) := by
  have hn : ∀ s, s ∈ Rs.leastOf p → AreNumbers s := fun s hs => stock_num hp (RsP.mem_least.1 hs).1
  have hl : (Rs.leastOf p).length ≤ 125 := Nat.le_trans (List.length_filter_le ..) (Nat.le_trans (RsP.safe_length p) (RsP.bound_le hp))
  unfold Rs.putList16 Rs.putU16 rowsOf
  rw [Nat.mod_eq_of_lt (show (Rs.leastOf p).length / 256 < 256 by omega)]
  show _ :: _ :: (Rs.leastOf p).flatMap Rs.putNumbers = _
  congr 2
  generalize Rs.leastOf p = l at hn
  induction l with
  | nil => rfl
  | cons a l ih => rw [List.flatMap_cons, List.flatMap_cons, ih fun s hs => hn s (List.mem_cons_of_mem _ hs), put_num (hn a (List.mem_cons_self ..))]
theorem fewest_num {p : Rs.Shop} (hp : IsShop p) : Rs.putMaybe Rs.putU8 (Rs.fewestItems p) ++ Rs.putMaybe Rs.putU8 (Rs.fewestOnto p) = maybeU8 (Rs.fewestItems p) ++ maybeU8 (Rs.fewestOnto p) := by
  obtain ⟨h1, _, h2, _⟩ := RsP.p_fewest_exact p
  rw [maybe_u8 fun n e => by have := (h1 n e).2.1; omega, maybe_u8 fun n e => by have := (h2 n e).2.1; have := hp.1.2.1; omega]
theorem look_num {ρ : Rs.Round} (h : RsP.RoundGood ρ) : Rs.putLook ρ = lookN ρ := by
  obtain ⟨hp, hs, _⟩ := h
  have hs := hs ρ.now (List.mem_cons_self ..)
  unfold Rs.putLook lookN Rs.stockNow Rs.isOpen
  rw [put_num (stock_num hp hs)]
  have hh : Rs.putMaybe Rs.putNumbers (Rs.hintOf ρ) = maybeRow (Rs.hintOf ρ) := by
    refine maybe_num fun f e => ?_
    unfold Rs.hintOf at e
    split at e
    · cases e
    · exact nine_num hp (RsP.nine_filling hp hs (RsP.filling_some hs e).1)
  rw [hh]
  simp only [List.append_assoc]
  rfl
/-- a text's shop, in the octets that format answers -/
def txU (p : Rs.Shop) : List Nat := Rs.putUnits (Rs.shopUnits p)
theorem withText_eq {t : List Nat} (hl : Low t) (f : Rs.Shop → Rs.Res (Rs.World × List Nat)) : withText shN t f = Rs.andThen (Rs.shopFor t) f := by
  rw [shopFor_eq hl]
  unfold withText
  cases shN t <;> rfl
theorem digit_inj {a b : Nat} (ha : a < 200) (hb : b < 200) : Rs.digitUnits a = Rs.digitUnits b ↔ a = b := by
  unfold Rs.digitUnits
  rw [List.cons.injEq, ofNat_inj (by omega) (by omega)]
  constructor
  · rintro ⟨h, _⟩; omega
  · rintro rfl; exact ⟨rfl, rfl⟩
theorem toNats_inj : ∀ {a b : Rs.Units}, (a.map fun c => c.toNat) = (b.map fun c => c.toNat) ↔ a = b
  | [], [] => by simp
  | [], _ :: _ => by simp
  | _ :: _, [] => by simp
  | x :: a, y :: b => by
    rw [List.map_cons, List.map_cons, List.cons.injEq, List.cons.injEq, toNats_inj, UInt16.toNat_inj]
theorem same_eq : ∀ {a b : List Rs.Shelf}, (∀ s, s ∈ a → s.room < 200) → (∀ s, s ∈ b → s.room < 200) →
    (a.map Rs.shelfWords = b.map Rs.shelfWords ↔ ((a.map fun s => s.name.map fun c => c.toNat) = b.map fun s => s.name.map fun c => c.toNat) ∧ (a.map fun s => s.room) = b.map fun s => s.room)
  | [], [], _, _ => by simp
  | [], _ :: _, _, _ => by simp
  | _ :: _, [], _, _ => by simp
  | x :: a, y :: b, ha, hb => by
    simp only [List.map_cons, List.cons.injEq]
    rw [same_eq (fun s hs => ha s (List.mem_cons_of_mem _ hs)) (fun s hs => hb s (List.mem_cons_of_mem _ hs)), toNats_inj]
    have h1 := ha x (List.mem_cons_self ..)
    have h2 := hb y (List.mem_cons_self ..)
    unfold Rs.shelfWords
    simp only [List.cons.injEq, digit_inj h1 h2, true_and, and_true]
    constructor
    · rintro ⟨⟨a, b⟩, c, d⟩; exact ⟨⟨a, c⟩, b, d⟩
    · rintro ⟨⟨a, c⟩, b, d⟩; exact ⟨⟨a, b⟩, c, d⟩
theorem same_names {p q : Rs.Shop} (hp : IsShop p) (hq : IsShop q) : Rs.sameShelves p q = true ↔ (namesOf p = namesOf q ∧ Rs.roomsOf p = Rs.roomsOf q) := by
  unfold Rs.sameShelves
  rw [beq_iff_eq]
  exact same_eq (fun s hs => by have := (hp.1.2.2.2 s hs).2.2; omega) fun s hs => by have := (hq.1.2.2.2 s hs).2.2; omega
theorem at_eq {ω : Rs.World} {t s : List Nat} {f : Rs.Shop → List Nat → List Nat} {n : Nat} (h : ∀ p, IsShop p → IsStock p s → f p s = aosOf n p s) :
    (Rs.andThen (Rs.shopFor t) fun p => if Rs.isBelow s (Rs.roomsOf p) = true then Rs.Res.ok (ω, aosOf n p s) else .bad [4]) = Rs.told ω (Rs.atStock t s f) := by
  unfold Rs.told Rs.atStock Rs.mapRes
  cases e : Rs.shopFor t with
  | bad l => rfl
  | ok p =>
    have hp := RsP.shop_text e
    show (if Rs.isBelow s (Rs.roomsOf p) = true then Rs.Res.ok (ω, aosOf n p s) else .bad [4]) = Rs.andThen (Rs.andThen (Rs.andThen (if Rs.isBelow s (Rs.roomsOf p) then Rs.Res.ok () else .bad [4]) fun _ => .ok s) fun a => .ok (f p a)) fun o => .ok (ω, o)
    by_cases hb : Rs.isBelow s (Rs.roomsOf p) = true
    · rw [if_pos hb, if_pos hb]
      show _ = Rs.Res.ok (ω, f p s)
      rw [h p hp (RsP.isBelow_iff.1 hb)]
    · rw [if_neg hb, if_neg hb]; rfl
theorem text_eq {ω : Rs.World} {t : List Nat} {f g : Rs.Shop → List Nat} (h : ∀ p, IsShop p → f p = g p) : (Rs.andThen (Rs.shopFor t) fun p => Rs.Res.ok (ω, f p)) = Rs.told ω (Rs.mapRes g (Rs.shopFor t)) := by
  unfold Rs.told Rs.mapRes
  cases e : Rs.shopFor t with
  | bad l => rfl
  | ok p =>
    show Rs.Res.ok (ω, f p) = Rs.Res.ok (ω, g p)
    rw [h p (RsP.shop_text e)]
theorem set_same {ω : Rs.World} {k : Nat} {ρ : Rs.Round} (h : Rs.roundAt ω k = some ρ) : Rs.putRound ω k ρ = ω := by
  have hk := RsP.round_lt h
  unfold Rs.roundAt at h
  rw [List.getD_eq_getElem?_getD, List.getElem?_eq_getElem hk] at h
  unfold Rs.putRound
  have h : ω.rounds[k] = some ρ := h
  rw [← h, List.set_getElem_self]
theorem on_eq {ω : Rs.World} (g : RsP.Good ω) {k n : Nat} {f : List Nat} {F : Rs.Round → Rs.Res (Rs.Round × Rs.Octets)} (h : ∀ ρ, aorOf n f ρ = F ρ) : onRound ω k n f = Rs.withRound ω k F := by
  unfold onRound Rs.withRound
  by_cases hk : k < 8
  · rw [if_pos hk]
    cases e : Rs.roundAt ω k with
    | none => rfl
    | some ρ =>
      simp only [h]
      show _ = Rs.mapRes (fun e : Rs.Round × Rs.Octets => (Rs.putRound ω k e.1, e.2)) (F ρ)
      cases F ρ <;> rfl
  · rw [if_neg hk]
    cases e : Rs.roundAt ω k with
    | none => rfl
    | some ρ => have := RsP.round_lt e; rw [g.1] at this; exact absurd this hk
theorem look_eq {ω : Rs.World} (g : RsP.Good ω) {k : Nat} : onRound ω k 13 [] = Rs.told ω (Rs.lookCall ω k) := by
  unfold onRound Rs.lookCall
  by_cases hk : k < 8
  · rw [if_pos hk]
    cases e : Rs.roundAt ω k with
    | none => rfl
    | some ρ =>
      show Rs.Res.ok (Rs.putRound ω k ρ, lookN ρ) = Rs.Res.ok (ω, Rs.putLook ρ)
      rw [set_same e, look_num (g.2 k ρ e)]
  · rw [if_neg hk]
    cases e : Rs.roundAt ω k with
    | none => rfl
    | some ρ => have := RsP.round_lt e; rw [g.1] at this; exact absurd this hk
theorem call_eq {ω : Rs.World} (g : RsP.Good ω) {n : Nat} {ps : List PV} {x : Rs.Request} (h : ReqOf n ps x) : callN shN txU ω n ps = Rs.callOn ω x := by
  cases h with
  | format hl => exact (withText_eq hl _).trans (text_eq fun p hp => rfl)
  | least hl => exact (withText_eq hl _).trans (text_eq fun p hp => (least_num hp).symm)
  | fewest hl => exact (withText_eq hl _).trans (text_eq fun p hp => (fewest_num hp).symm)
  | safe hl => exact (withText_eq hl _).trans (at_eq fun p hp hs => rfl)
  | filling hl => exact (withText_eq hl _).trans (at_eq fun p hp hs => filling_num hp hs)
  | doom hl => exact (withText_eq hl _).trans (at_eq fun p hp hs => doom_num hp hs)
  | attack hl => exact (withText_eq hl _).trans (at_eq fun p hp hs => attack_num hp hs)
  | parting hl hu =>
    rename_i t u
    show withText shN t (fun p => withText shN u fun o => if namesOf p = namesOf o ∧ Rs.roomsOf p = Rs.roomsOf o then Rs.Res.ok (ω, maybeRow (Rs.partingOf p o)) else .bad [6]) = Rs.told ω (Rs.partingCall t u)
    rw [withText_eq hl]
    unfold Rs.partingCall
    cases e : Rs.shopFor t with
    | bad l => rfl
    | ok p =>
      show withText shN u _ = Rs.told ω (Rs.andThen (Rs.shopFor u) fun q => Rs.andThen (Rs.need (Rs.sameShelves p q) Rs.eShelves) fun _ => .ok (Rs.putMaybe Rs.putNumbers (Rs.partingOf p q)))
      rw [withText_eq hu]
      cases e2 : Rs.shopFor u with
      | bad l => rfl
      | ok q =>
        have hp := RsP.shop_text e
        have hq := RsP.shop_text e2
        show (if namesOf p = namesOf q ∧ Rs.roomsOf p = Rs.roomsOf q then Rs.Res.ok (ω, maybeRow (Rs.partingOf p q)) else .bad [6]) = Rs.told ω (Rs.andThen (if Rs.sameShelves p q then Rs.Res.ok () else .bad [6]) fun _ => .ok (Rs.putMaybe Rs.putNumbers (Rs.partingOf p q)))
        by_cases hb : Rs.sameShelves p q = true
        · rw [if_pos ((same_names hp hq).1 hb), if_pos hb]
          show _ = Rs.Res.ok (ω, Rs.putMaybe Rs.putNumbers (Rs.partingOf p q))
          rw [parting_num hp]
        · rw [if_neg (fun z => hb ((same_names hp hq).2 z)), if_neg hb]; rfl
  | round hl =>
    rename_i k t
    show (if k < 8 then withText shN t (fun p => Rs.Res.ok (Rs.putRound ω k (Rs.newRound p), [])) else .bad [7]) = Rs.roundCall ω k t
    rw [withText_eq hl]
    unfold Rs.roundCall
    by_cases hk : k < 8
    · rw [if_pos hk, show (decide (k < Rs.seatCount)) = true from decide_eq_true hk]; rfl
    · rw [if_neg hk, show (decide (k < Rs.seatCount)) = false from decide_eq_false hk]; rfl
  | fill => exact on_eq g fun ρ => rfl
  | sell => exact on_eq g fun ρ => rfl
  | undo => exact on_eq (n := 12) (F := Rs.undoIn) (f := []) g fun ρ => rfl
  | look => exact look_eq g
theorem ans_eq {ω : Rs.World} (g : RsP.Good ω) {c : List Nat} (hl : Low c) : ansN shN txU ω c = Rs.stepOn ω c := by
  unfold ansN Rs.stepOn
  rcases apart_fits hl with ⟨h1, h2⟩ | ⟨n, ps, x, h1, h2, h3⟩
  · rw [h1, h2]; rfl
  · rw [h1, h2]
    simp only
    rw [call_eq g h3]
    unfold Rs.answerOn
    cases Rs.callOn ω x <;> rfl
end Fs
set_option Elab.async false
set_option linter.all false
set_option maxRecDepth 100000
set_option maxHeartbeats 4000000
namespace Fs
/-! a session's calls and answers as whole numbers -/
theorem mod_low {n : Nat} : n % 256 < 256 := Nat.mod_lt _ (by decide)
theorem low_app {a b : List Nat} (ha : Low a) (hb : Low b) : Low (a ++ b) := fun c hc => (List.mem_append.1 hc).elim (ha c) (hb c)
theorem low_nil : Low [] := fun c hc => by cases hc
theorem low_cons {a : Nat} {l : List Nat} (ha : a < 256) (hl : Low l) : Low (a :: l) := fun c hc => (List.mem_cons.1 hc).elim (fun e => e ▸ ha) (hl c)
theorem low_flat {α : Type} {f : α → List Nat} (h : ∀ a, Low (f a)) (l : List α) : Low (l.flatMap f) := fun c hc => by
  obtain ⟨a, _, h2⟩ := List.mem_flatMap.1 hc
  exact h a c h2
theorem low_u8 (n : Nat) : Low (Rs.putU8 n) := low_cons mod_low low_nil
theorem low_u16 (n : Nat) : Low (Rs.putU16 n) := low_cons mod_low (low_cons mod_low low_nil)
theorem low_flag (b : Bool) : Low (Rs.putFlag b) := by cases b <;> exact low_cons (by decide) low_nil
theorem low_l8 {α : Type} {f : α → List Nat} (h : ∀ a, Low (f a)) (l : List α) : Low (Rs.putList8 f l) := low_app (low_u8 _) (low_flat h l)
theorem low_l16 {α : Type} {f : α → List Nat} (h : ∀ a, Low (f a)) (l : List α) : Low (Rs.putList16 f l) := low_app (low_u16 _) (low_flat h l)
theorem low_maybe {α : Type} {f : α → List Nat} (h : ∀ a, Low (f a)) (x : Option α) : Low (Rs.putMaybe f x) := by
  cases x with
  | none => exact low_cons (by decide) low_nil
  | some a => exact low_cons (by decide) (h a)
theorem low_nums (l : List Nat) : Low (Rs.putNumbers l) := low_l8 low_u8 l
theorem low_look (ρ : Rs.Round) : Low (Rs.putLook ρ) := low_app (low_nums _) (low_app (low_flag _) (low_app (low_flag _) (low_maybe low_nums _)))
/-- what a result holds -/
def ResLow {α : Type} (f : α → List Nat) : Rs.Res α → Prop
  | .bad e => Low e
  | .ok a => Low (f a)
theorem rl_then {α β : Type} {f : β → List Nat} {x : Rs.Res α} {g : α → Rs.Res β} (hx : ∀ e, x = .bad e → Low e) (hg : ∀ a, x = .ok a → ResLow f (g a)) : ResLow f (Rs.andThen x g) := by
  cases x with
  | bad e => exact hx e rfl
  | ok a => exact hg a rfl
theorem shop_low {t : List Nat} {e : List Nat} (h : Rs.shopFor t = .bad e) : Low e := by
  unfold Rs.shopFor at h
  rcases RsP.then_bad.1 h with h | ⟨_, _, h⟩
  · cases (RsP.need_bad.1 h).2; exact low_cons (by decide) low_nil
  · split at h
    · cases h
    · cases h; exact low_app (low_cons (by decide) low_nil) (low_u16 _)
theorem need_low {b : Bool} {n : Nat} (hn : n < 256) {e : List Nat} (h : Rs.need b n = .bad e) : Low e := by
  cases (RsP.need_bad.1 h).2; exact low_cons hn low_nil
abbrev O2 {α : Type} : α × Rs.Octets → List Nat := fun e => e.2
theorem told_low {ω : Rs.World} {x : Rs.Res Rs.Octets} (h : ResLow id x) : ResLow O2 (Rs.told ω x) := by
  cases x with
  | bad e => exact h
  | ok o => exact h
theorem at_low {t s : List Nat} {f : Rs.Shop → List Nat → List Nat} (h : ∀ p, Low (f p s)) : ResLow id (Rs.atStock t s f) := by
  unfold Rs.atStock
  refine rl_then (fun e he => shop_low he) fun p _ => ?_
  unfold Rs.mapRes Rs.stockFor
  refine rl_then (fun e he => ?_) fun a ha => ?_
  · rcases RsP.then_bad.1 he with he | ⟨_, _, he⟩
    · exact need_low (by decide) he
    · cases he
  · obtain ⟨_, _, ha⟩ := RsP.then_ok.1 ha
    cases ha
    exact h p
theorem text_low' {t : List Nat} {f : Rs.Shop → List Nat} (h : ∀ p, Low (f p)) : ResLow id (Rs.mapRes f (Rs.shopFor t)) := rl_then (fun e he => shop_low he) fun p _ => h p
theorem with_low {ω : Rs.World} {k : Nat} {F : Rs.Round → Rs.Res (Rs.Round × Rs.Octets)} (h : ∀ ρ, ResLow O2 (F ρ)) : ResLow O2 (Rs.withRound ω k F) := by
  unfold Rs.withRound
  refine rl_then (fun e he => ?_) fun ρ _ => ?_
  · unfold Rs.orError at he
    split at he
    · cases he
    · cases he; exact low_cons (by decide) low_nil
  · have := h ρ
    unfold Rs.mapRes
    cases hF : F ρ with
    | bad e => rw [hF] at this; exact this
    | ok z => rw [hF] at this; exact this
theorem going_low (ρ : Rs.Round) (m : Rs.Moment) : ResLow O2 (Rs.going ρ m) := rl_then (fun e he => need_low (by decide) he) fun _ _ => low_nil
theorem items_low {p : Rs.Shop} {f e : List Nat} (h : Rs.itemsFor p f = .bad e) : Low e := by
  rcases RsP.then_bad.1 h with he | ⟨_, _, he⟩
  · exact need_low (by decide) he
  · cases he
theorem call_low (ω : Rs.World) (x : Rs.Request) : ResLow O2 (Rs.callOn ω x) := by
  cases x with
  | format t => exact told_low (text_low' fun p => low_l16 (fun c => low_u8 _) _)
  | safe t s => exact told_low (at_low fun p => low_flag _)
  | filling t s => exact told_low (at_low fun p => low_maybe low_nums _)
  | doom t s => exact told_low (at_low fun p => low_maybe low_u16 _)
  | attack t s => exact told_low (at_low fun p => low_maybe low_nums _)
  | least t => exact told_low (text_low' fun p => low_l16 low_nums _)
  | fewest t => exact told_low (text_low' fun p => low_app (low_maybe low_u8 _) (low_maybe low_u8 _))
  | parting t u => exact told_low (rl_then (fun e he => shop_low he) fun p _ => rl_then (fun e he => shop_low he) fun q _ => rl_then (fun e he => need_low (by decide) he) fun _ _ => low_maybe low_nums _)
  | round k t =>
    refine rl_then (fun e he => need_low (by decide) he) fun _ _ => ?_
    exact rl_then (fun e he => shop_low he) fun p _ => low_nil
  | fill k f => exact with_low fun ρ => rl_then (fun e he => items_low he) fun _ _ => rl_then (fun e he => need_low (by decide) he) fun _ _ => rl_then (fun e he => need_low (by decide) he) fun _ _ => going_low _ _
  | sell k f => exact with_low fun ρ => rl_then (fun e he => items_low he) fun _ _ => rl_then (fun e he => need_low (by decide) he) fun _ _ => rl_then (fun e he => need_low (by decide) he) fun _ _ => rl_then (fun e he => need_low (by decide) he) fun _ _ => going_low _ _
  | undo k =>
    refine with_low fun ρ => ?_
    show Low (Rs.undone ρ).2
    unfold Rs.undone
    split
    · exact low_flag false
    · exact low_flag true
  | look k =>
    refine told_low (rl_then (fun e he => ?_) fun ρ _ => low_look ρ)
    unfold Rs.orError at he
    split at he
    · cases he
    · cases he; exact low_cons (by decide) low_nil
theorem step_low (ω : Rs.World) (c : List Nat) : Low (Rs.stepOn ω c).2 := by
  unfold Rs.stepOn
  split
  · rename_i x _
    have := call_low ω x
    unfold Rs.answerOn
    split
    · rename_i l e
      rw [e] at this
      exact low_cons (by decide) this
    · rename_i z e
      rw [e] at this
      exact low_cons (by decide) this
  · exact low_cons (by decide) (low_cons (by decide) low_nil)
/-! octets as bytes -/
theorem bytes_back {c : List Nat} (h : Low c) : Zz33Octets.octetsOf (Zz33Octets.bytesOf c) = c := by
  unfold Zz33Octets.octetsOf Zz33Octets.bytesOf
  rw [List.map_map]
  refine (List.map_congr_left (g := id) fun x hx => ?_).trans (List.map_id _)
  show (UInt8.ofNat x).toNat = x
  rw [UInt8.toNat_ofNat']
  exact Nat.mod_eq_of_lt (h x hx)
/-- whole numbers -/
abbrev zi (l : List Nat) : List Int := l.map Int.ofNat
theorem in_back {c : List Nat} (h : Low c) : Zz33Neutral.bytesOf (zi c) = Zz33Octets.bytesOf c := by
  unfold Zz33Neutral.bytesOf Zz33Octets.bytesOf
  rw [List.map_map]; rfl
theorem out_back {c : List Nat} (h : Low c) : Zz33Neutral.numbersOf (Zz33Octets.bytesOf c) = zi c := by
  unfold Zz33Neutral.numbersOf
  have : ((Zz33Octets.bytesOf c).map fun b : UInt8 => Int.ofNat b.toNat) = (Zz33Octets.octetsOf (Zz33Octets.bytesOf c)).map Int.ofNat := by
    unfold Zz33Octets.octetsOf
    rw [List.map_map]; rfl
  rw [this, bytes_back h]
theorem step_z {ω : Rs.World} {c : List Nat} (h : Low c) : Zz33Neutral.step ω (zi c) = ((Rs.stepOn ω c).1, zi (Rs.stepOn ω c).2) := by
  unfold Zz33Neutral.step Zz33Octets.step
  rw [in_back h, bytes_back h, out_back (step_low ω c)]
theorem good_on {ω : Rs.World} {c : List Nat} (h : Low c) (g : RsP.Good ω) : RsP.Good (Rs.stepOn ω c).1 := by
  have := RsP.good_step ω (Zz33Octets.bytesOf c) g
  unfold Zz33Octets.step at this
  rw [bytes_back h] at this
  exact this
theorem len_on {ω : Rs.World} {c : List Nat} (g : RsP.Good ω) : (Rs.stepOn ω c).2.length ≤ 1000 := by
  unfold Rs.stepOn
  split
  · rename_i x _
    unfold Rs.answerOn
    split
    · rename_i l e
      obtain ⟨n, m, rfl, _, _, h⟩ := RsP.err_call e
      simp [Rs.refused]; omega
    · rename_i z e
      have := RsP.answer_ok g e
      simp; omega
  · show (2 : Nat) ≤ 1000
    decide
/-- a session's answers -/
def playZ : Rs.World → List (List Nat) → List (List Nat)
  | _, [] => []
  | ω, c :: r => (Rs.stepOn ω c).2 :: playZ (Rs.stepOn ω c).1 r
theorem play_eq : ∀ {cs : List (List Nat)} {ω : Rs.World}, RsP.Good ω → (∀ c, c ∈ cs → Low c) → playN shN txU ω cs = playZ ω cs
  | [], _, _, _ => rfl
  | c :: r, ω, g, h => by
    have hc := h c (List.mem_cons_self ..)
    unfold playN playZ
    rw [ans_eq g hc, play_eq (good_on hc g) fun d hd => h d (List.mem_cons_of_mem _ hd)]
theorem play_len : ∀ {cs : List (List Nat)} {ω : Rs.World}, RsP.Good ω → (∀ c, c ∈ cs → Low c) → ∀ o, o ∈ playZ ω cs → o.length ≤ 1000
  | [], _, _, _, o, ho => by cases ho
  | c :: r, ω, g, h, o, ho => by
    have hc := h c (List.mem_cons_self ..)
    unfold playZ at ho
    rcases List.mem_cons.1 ho with rfl | ho
    · exact len_on g
    · exact play_len (good_on hc g) (fun d hd => h d (List.mem_cons_of_mem _ hd)) o ho
theorem played_eq : ∀ {cs : List (List Nat)} {ω : Rs.World}, (∀ c, c ∈ cs → Low c) → PyFlat.played (fun s c => Zz33Neutral.step s (c.headD [])) ω (cs.map fun c => [zi c]) = (playZ ω cs).map zi
  | [], _, _ => rfl
  | c :: r, ω, h => by
    have hc := h c (List.mem_cons_self ..)
    show (Zz33Neutral.step ω (zi c)).2 :: PyFlat.played _ (Zz33Neutral.step ω (zi c)).1 (r.map fun c => [zi c]) = _
    rw [step_z hc]
    show _ :: PyFlat.played (fun s c => Zz33Neutral.step s (c.headD [])) (Rs.stepOn ω c).1 (r.map fun c => [zi c]) = _
    rw [played_eq fun d hd => h d (List.mem_cons_of_mem _ hd)]; rfl
theorem told_eq (os : List (List Nat)) : PyFlat.told (os.map zi) = zi (outN os) := by
  unfold PyFlat.told outN
  induction os with
  | nil => rfl
  | cons o r ih =>
    rw [List.map_cons, List.flatMap_cons, ih, List.flatMap_cons]
    show _ = ((o.length :: o) ++ _).map Int.ofNat
    rw [List.map_append]
    show ((zi o).length : Int) :: zi o ++ _ = _
    rw [List.length_map]; rfl
/-- calls, read -/
theorem calls_read : ∀ (f : Nat) (l : List Int) (cs : List (List (List Int))), PyFlat.calls PyZz33.shape f l = some cs → ∃ xs : List (List Int), cs.map PyZz33.whole = xs.map (fun x => [x]) ∧ l = xs.flatMap fun x => 0 :: (x.length : Int) :: x
  | f, [], cs, h => by
    have : cs = [] := by cases f <;> (cases h; rfl)
    subst this
    exact ⟨[], rfl, rfl⟩
  | 0, _ :: _, cs, h => by cases h
  | f + 1, p :: r, cs, h => by
    unfold PyFlat.calls at h
    cases h1 : PyFlat.call PyZz33.shape (p :: r) with
    | none => rw [h1] at h; cases h
    | some e =>
      obtain ⟨c, t⟩ := e
      rw [h1] at h
      simp only at h
      cases h2 : PyFlat.calls PyZz33.shape f t with
      | none => rw [h2] at h; cases h
      | some cs' =>
        rw [h2] at h
        simp only [Option.some.injEq] at h
        subst h
        obtain ⟨xs, e1, e2⟩ := calls_read f t cs' h2
        unfold PyFlat.call PyZz33.shape at h1
        dsimp only at h1
        by_cases hp : p = 0
        · rw [if_pos hp] at h1
          simp only [Nat.not_lt_zero, if_false, List.drop_zero, List.take_zero] at h1
          unfold PyFlat.rows PyFlat.rows at h1
          cases r with
          | nil => cases h1
          | cons n r =>
            unfold PyFlat.row at h1
            by_cases hn : 0 ≤ n ∧ n.toNat ≤ r.length
            · simp only [if_pos hn, Option.some.injEq, Prod.mk.injEq] at h1
              obtain ⟨rfl, rfl⟩ := h1
              refine ⟨r.take n.toNat :: xs, ?_, ?_⟩
              · rw [List.map_cons, List.map_cons, e1, hp]; rfl
              · rw [List.flatMap_cons, ← e2, hp]
                have hl : ((r.take n.toNat).length : Int) = n := by rw [List.length_take]; omega
                rw [hl]
                show _ = 0 :: n :: (r.take n.toNat ++ r.drop n.toNat)
                rw [List.take_append_drop]
            · simp only [if_neg hn] at h1
              cases h1
        · rw [if_neg hp] at h1
          cases h1
theorem low_zi {x : List Int} (h : Zz33Neutral.asked1 x = true) : ∃ c, x = zi c ∧ Low c := by
  unfold Zz33Neutral.asked1 NeutralIO.bytes at h
  rw [List.all_eq_true] at h
  refine ⟨x.map Int.toNat, ?_, ?_⟩
  · show x = (x.map Int.toNat).map Int.ofNat
    rw [List.map_map]
    refine ((List.map_congr_left (g := id) fun n hn => ?_).trans (List.map_id _)).symm
    have := h n hn
    simp only [Bool.and_eq_true, decide_eq_true_eq] at this
    show ((n.toNat : Nat) : Int) = n
    omega
  · intro c hc
    obtain ⟨n, hn, rfl⟩ := List.mem_map.1 hc
    have := h n hn
    simp only [Bool.and_eq_true, decide_eq_true_eq] at this
    omega
theorem lows : ∀ {xs : List (List Int)}, (∀ x, x ∈ xs → Zz33Neutral.asked1 x = true) → ∃ cs : List (List Nat), xs = cs.map zi ∧ ∀ c, c ∈ cs → Low c
  | [], _ => ⟨[], rfl, fun _ h => by cases h⟩
  | x :: xs, h => by
    obtain ⟨c, rfl, hc⟩ := low_zi (h x (List.mem_cons_self ..))
    obtain ⟨cs, rfl, hcs⟩ := lows (xs := xs) fun y hy => h y (List.mem_cons_of_mem _ hy)
    refine ⟨c :: cs, rfl, fun d hd => ?_⟩
    rcases List.mem_cons.1 hd with rfl | hd
    · exact hc
    · exact hcs d hd
theorem flat_zi (cs : List (List Nat)) : ((cs.map zi).flatMap fun x => (0 : Int) :: (x.length : Int) :: x) = zi (flatN cs) := by
  unfold flatN
  induction cs with
  | nil => rfl
  | cons c cs ih =>
    rw [List.map_cons, List.flatMap_cons, ih, List.flatMap_cons]
    show _ = ((0 :: c.length :: c) ++ _).map Int.ofNat
    rw [List.map_append]
    show 0 :: ((zi c).length : Int) :: zi c ++ _ = _
    rw [List.length_map]; rfl
theorem good_0 : RsP.Good Rs.World.start := RsP.good_start
/-- what is asked of the list, and what is due -/
theorem asked_session {l : List Int} (h : PyZz33.answers_asked l = true) : ∃ cs : List (List Nat), l = zi (flatN cs) ∧ (∀ c, c ∈ cs → Low c) ∧ (∀ c, c ∈ cs → c.length ≤ 65536) ∧ PyZz33.answers l = zi (outN (playN shN txU Rs.World.start cs)) ∧ (outN (playN shN txU Rs.World.start cs)).length ≤ 10000000 ∧ ∀ o, o ∈ playN shN txU Rs.World.start cs → o.length ≤ 1000 := by
  unfold PyZz33.answers_asked at h
  cases e : PyZz33.calls l with
  | none => rw [e] at h; cases h
  | some ds =>
    rw [e] at h
    simp only [Bool.and_eq_true] at h
    obtain ⟨⟨_, h2⟩, h3⟩ := h
    have ha : PyZz33.answers l = PyFlat.told (PyFlat.played (fun s c => Zz33Neutral.step s (c.headD [])) Zz33Neutral.start ds) := by
      unfold PyZz33.answers
      rw [e]
    unfold PyZz33.calls at e
    cases e1 : PyFlat.calls PyZz33.shape l.length l with
    | none => rw [e1] at e; cases e
    | some cs0 =>
      rw [e1] at e
      simp only [Option.some.injEq] at e
      obtain ⟨xs, e2, e3⟩ := calls_read _ _ _ e1
      rw [e] at e2
      have hh : (ds.map fun c => c.headD []) = xs := by
        rw [e2, List.map_map]
        exact (List.map_congr_left (g := id) fun x hx => rfl).trans (List.map_id _)
      rw [hh] at h2
      unfold Zz33Neutral.asked at h2
      simp only [Bool.and_eq_true, List.all_eq_true] at h2
      obtain ⟨h21, _, h22⟩ := h2
      obtain ⟨cs, rfl, hcs⟩ := lows h21
      have hpl : PyZz33.answers l = zi (outN (playN shN txU Rs.World.start cs)) := by
        rw [ha, e2, List.map_map]
        rw [show ((fun x => [x]) ∘ zi : List Nat → List (List Int)) = fun c => [zi c] from rfl]
        rw [show Zz33Neutral.start = Rs.World.start from rfl, played_eq hcs, told_eq, play_eq good_0 hcs]
      refine ⟨cs, ?_, hcs, fun c hc => ?_, hpl, ?_, ?_⟩
      · rw [e3, flat_zi]
      · unfold Zz33Octets.fits at h22
        simp only [Bool.and_eq_true, List.all_eq_true, decide_eq_true_eq] at h22
        have := h22.2 (Zz33Neutral.bytesOf (zi c)) (List.mem_map_of_mem (List.mem_map_of_mem hc))
        unfold Zz33Neutral.bytesOf at this
        rw [List.length_map, List.length_map] at this
        exact this
      · unfold PyFlat.short at h3
        rw [hpl] at h3
        have := of_decide_eq_true h3
        rwa [List.length_map] at this
      · rw [play_eq good_0 hcs]
        exact play_len good_0 hcs
end Fs
set_option Elab.async false
set_option linter.all false
set_option maxRecDepth 100000
set_option maxHeartbeats 4000000
namespace Fs
open PySem PySem.Spec PyProof.Rows L2 FsX
open Evl (Ex Ex.refl Ex.trans Ex.new Ex.mut fresh_back)
/-! texts put together -/
def joinN (d : Nat) : List (List Nat) → List Nat
  | [] => []
  | [u] => u
  | u :: v :: r => u ++ d :: joinN d (v :: r)
theorem joinN_snoc (d : Nat) (u : List Nat) : ∀ xs : List (List Nat), joinN d (xs ++ [u]) = if xs = [] then u else joinN d xs ++ d :: u
  | [] => rfl
  | [v] => rfl
  | v :: w :: r => by
    rw [if_neg (by simp)]
    show v ++ d :: joinN d ((w :: r) ++ [u]) = (v ++ d :: joinN d (w :: r)) ++ d :: u
    rw [joinN_snoc d u (w :: r), if_neg (by simp), List.append_assoc]; rfl
theorem joinN_le (d : Nat) : ∀ a b : List (List Nat), (joinN d a).length ≤ (joinN d (a ++ b)).length
  | [], _ => Nat.zero_le _
  | [u], [] => Nat.le_refl _
  | [u], v :: r => by show u.length ≤ (u ++ d :: joinN d (v :: r)).length; rw [List.length_append]; omega
  | u :: v :: r, b => by
    show (u ++ d :: joinN d (v :: r)).length ≤ (u ++ d :: joinN d ((v :: r) ++ b)).length
    have := joinN_le d (v :: r) b
    simp only [List.length_append, List.length_cons] at this ⊢
    omega
theorem joinN_len (d : Nat) {n : Nat} : ∀ xs : List (List Nat), (∀ u, u ∈ xs → u.length ≤ n) → (joinN d xs).length ≤ xs.length * (n + 1)
  | [], _ => Nat.zero_le _
  | [u], h => by have := h u (List.mem_cons_self ..); show u.length ≤ 1 * (n + 1); omega
  | u :: v :: r, h => by
    have h1 := h u (List.mem_cons_self ..)
    have h2 := joinN_len d (v :: r) fun w hw => h w (List.mem_cons_of_mem _ hw)
    show (u ++ d :: joinN d (v :: r)).length ≤ ((v :: r).length + 1) * (n + 1)
    rw [List.length_append, List.length_cons, Nat.add_mul]
    omega
section
variable {P : Program} {w : World} {K : PySem.W.Frag} {mg : Str → Option Value} {base : Heap}
def spJoined : Sp := fun vs H Q _ => ∃ (a : Addr) (xs : List (List Nat)) (d : Nat), vs = [.ref a, .int d] ∧ LO L H a xs ∧ (joinN d xs).length ≤ 100000 ∧ Ans H Q (joinN d xs)
theorem k_joined (z : Z K mg) : Kp P w K mg base CX0 1 (He.ga K "joined") ["pieces", "divider"] spJoined := by
  have nd := sc_joined.nd
  refine kp0 (f_joined z) sc_joined (fun vs H Q E h => ?_) fun cdv A outer s H vs Q E hr h => ⟨_,
    (pss_cons ((ps_set (i := 2) nd rfl (by first | exact Or.inl rfl | exact Or.inr rfl) ((pe_lst pa_nil)))) (pss_cons (ps_for PassesOwn.never rfl (pi_enum (by rfl) (b_enumerate z) (pa_cons (pv 0) pa_nil)) (pg_tup rfl (pgs_cons (pg_name (i := 3) nd rfl (Or.inl rfl)) (pgs_cons (pg_name (i := 4) nd rfl (Or.inl rfl)) pgs_nil))) (pss_cons (ps_if (pt_cmpR op_gt (pv 3) pe_int (nomark _)) (pss_one ((ps_expr (pe_bm PySem.F.plainAttrs_list PySem.F.slot_list_append PySem.F.type_list_append mt_append ((pv 2)) (pa_cons ((pv 1)) pa_nil))))) pss_nil) (pss_one (ps_expr (pe_bm PySem.F.plainAttrs_list PySem.F.slot_list_extend PySem.F.type_list_extend mt_extend (pv 2) (pa_cons (pv 4) pa_nil)))))) (pss_one (ps_ret (pv 2))))), ?_⟩
  · obtain ⟨_, _, _, rfl, _⟩ := h; rfl
  · obtain ⟨a, xs, d, rfl, ⟨as, ha⟩, hl, q⟩ := h
    simp only [ tNil, tCons, tC, tDrop, tOp, rI0, tCB, rEq, rNe, tNext, tRet, tRetN, tSeq, tAsg, tAug, tTest, tIfS, tIf, tNot, tAnd, tOr, tBM, tBM0, tCall, tTup, tTupZ, tLst, tFld, sFld, tMeth, tMake, tB, tYes, tCmp, t2I, tIsN, tNotN, tDGet, tDGet1, tDGet2, tDIn, tDNotIn, tAndV, tOrV, tNotV, tDNewT, sDPut, tSl, tPart, tNoPart, rSlL, tThen, tCntZ, tFgt, tChain, gCons, gNil, gTup, rCatZ, rCatA, rCat, rAppend, rExtend, rIn, rInD, rNotInD, rEqD, rNeD, rIxL, rIxT, tSub, tAdd, tBreak, tCont, tPar, rSum, rSumT, rMaxT, tyV, L2.start, List.map_cons, List.map_nil, List.length_cons, List.length_nil, List.cons_append, List.nil_append, List.append_nil, List.replicate, Nat.reduceAdd, Nat.reduceSub, wipe, List.set_cons_zero, List.set_cons_succ, nox_K, cxOf_K, blk_K, suite_K, tVar_0, tVar_1, tVar_2, tVar_3, tVar_4, tVar_5, tVar_6, tVar_7, tVar_8, tVar_9, tVar_10, tVar_11, tVar_12, tVar_13, tVar_14, tVar_15, gName_0, gName_1, gName_2, gName_3, gName_4, gName_5, gName_6, gName_7, gName_8, gName_9, gName_10, gName_11, gName_12, gName_13, gName_14, gName_15, and_assoc, exists_eq_left', exists_eq_left, exists_eq, exists_eq', exists_and_left, exists_const, and_true, true_and, V.int.injEq, V.ref.injEq, V.bl.injEq, V.str.injEq, List.cons.injEq, and_self, scal, Bool.false_eq_true, if_false, if_true, reduceCtorEq, false_and, and_false, false_or, or_false, ↓reduceIte]
    refine ⟨by decide, fun o ho => ?_⟩
    have e0 := Ex.new ho (o := HO.lst [])
    refine ⟨_, rfl, a, _, rfl, LA.sq (LA.ex ha mL e0), for_it (walk_enum (xs := as.map V.ref)) (fun i σ H1 => ∃ u3 u4, σ = [some (.ref a), some (.int d), some (.ref o), u3, u4] ∧ Ex H H1 ∧ L H1 o (joinN d (xs.take i))) ⟨_, _, rfl, e0, upd_same⟩ ?_ ?_ ?_⟩
    · rintro i σ H1 _ ⟨_, _, _, e1, _⟩
      exact LA.sq (LA.ex ha mL e1)
    · rintro i x σ H1 H2 hi ⟨u3, u4, rfl, e1, ho1⟩ ⟨T, y1, y2, rfl, hT, rfl, hy1, hy2⟩
      cases hy1
      obtain ⟨p, y, rfl, hy, hp, hL⟩ := (LA.ex ha mL e1).get hy2
      have eT : Ex H1 (upd H1 T (.tup [.int (i : Nat), .ref p])) := Ex.new hT
      refine ⟨T, _, rfl, SqT.of upd_same, ?_⟩
      have ho2 := L.ex ho1 eT
      have hL2 := L.ex hL eT
      have e2 := e1.trans eT
      generalize upd H1 T (.tup [.int (i : Nat), .ref p]) = H2 at *
      refine ⟨rfl, ?_⟩
      have tk : joinN d (xs.take (i + 1)) = if xs.take i = [] then y else joinN d (xs.take i) ++ d :: y := by rw [take_snoc hy, joinN_snoc]
      have hle : (joinN d (xs.take (i + 1))).length ≤ 100000 := by
        have := joinN_le d (xs.take (i + 1)) (xs.drop (i + 1))
        rw [List.take_append_drop] at this
        omega
      have hi' : i < xs.length := (List.getElem?_eq_some_iff.1 hy).1
      have hHo : H o = none := ho
      simp only [ tNil, tCons, tC, tDrop, tOp, rI0, tCB, rEq, rNe, tNext, tRet, tRetN, tSeq, tAsg, tAug, tTest, tIfS, tIf, tNot, tAnd, tOr, tBM, tBM0, tCall, tTup, tTupZ, tLst, tFld, sFld, tMeth, tMake, tB, tYes, tCmp, t2I, tIsN, tNotN, tDGet, tDGet1, tDGet2, tDIn, tDNotIn, tAndV, tOrV, tNotV, tDNewT, sDPut, tSl, tPart, tNoPart, rSlL, tThen, tCntZ, tFgt, tChain, gCons, gNil, gTup, rCatZ, rCatA, rCat, rAppend, rExtend, rIn, rInD, rNotInD, rEqD, rNeD, rIxL, rIxT, tSub, tAdd, tBreak, tCont, tPar, rSum, rSumT, rMaxT, tyV, L2.start, List.map_cons, List.map_nil, List.length_cons, List.length_nil, List.cons_append, List.nil_append, List.append_nil, List.replicate, Nat.reduceAdd, Nat.reduceSub, wipe, List.set_cons_zero, List.set_cons_succ, nox_K, cxOf_K, blk_K, suite_K, tVar_0, tVar_1, tVar_2, tVar_3, tVar_4, tVar_5, tVar_6, tVar_7, tVar_8, tVar_9, tVar_10, tVar_11, tVar_12, tVar_13, tVar_14, tVar_15, gName_0, gName_1, gName_2, gName_3, gName_4, gName_5, gName_6, gName_7, gName_8, gName_9, gName_10, gName_11, gName_12, gName_13, gName_14, gName_15, and_assoc, exists_eq_left', exists_eq_left, exists_eq, exists_eq', exists_and_left, exists_const, and_true, true_and, V.int.injEq, V.ref.injEq, V.bl.injEq, V.str.injEq, List.cons.injEq, and_self, scal, Bool.false_eq_true, if_false, if_true, reduceCtorEq, false_and, and_false, false_or, or_false, ↓reduceIte]
      refine ite2 (fun g => ?_) (fun g => ?_)
      · have g : 0 < i := by have := of_decide_eq_true g; omega
        have hne : ¬ xs.take i = [] := fun z => by
          have := congrArg List.length z
          rw [List.length_take, List.length_nil] at this; omega
        rw [if_neg hne] at tk
        rw [tk] at hle
        simp only [List.length_append, List.length_cons] at hle
        have po : p ≠ o := ne_of_none (LA.at (R := L) ha hp hy) ho
        refine ⟨.inl ⟨_, ho2.sq⟩, _, ho2.lst, by rw [nv_len, sizeLine_eq]; omega, ?_⟩
        refine ⟨.inl ⟨_, sq_of upd_same⟩, _, upd_same, _, by rw [upd_ne po]; exact hL2, by rw [List.length_append, nv_len, nv_len, sizeLine_eq]; simp only [List.length_cons, List.length_nil]; omega, Ex.mut (Ex.mut e2 ho) ho, ?_⟩
        unfold L
        rw [upd_same, tk, nv_app]
        show some (HO.lst ((nv _ ++ [V.int d]) ++ nv y)) = _
        rw [List.append_assoc]; rfl
      · have g : i = 0 := by
          have : ¬ ((0 : Int) < i) := fun k => g (decide_eq_true k)
          omega
        subst g
        rw [List.take_zero, if_pos rfl] at tk
        have ho2 : L H2 o [] := ho2
        have po : p ≠ o := ne_of_none (LA.at (R := L) ha hp hy) ho
        rw [tk] at hle
        refine ⟨.inl ⟨_, ho2.sq⟩, _, ho2.lst, _, hL2, by rw [nv_len, nv_len, sizeLine_eq]; simp only [List.length_nil]; omega, Ex.mut e2 ho, ?_⟩
        unfold L
        rw [upd_same, tk]; rfl
    · rintro σ H1 ⟨u3, u4, rfl, e1, ho1⟩
      simp only [ tNil, tCons, tC, tDrop, tOp, rI0, tCB, rEq, rNe, tNext, tRet, tRetN, tSeq, tAsg, tAug, tTest, tIfS, tIf, tNot, tAnd, tOr, tBM, tBM0, tCall, tTup, tTupZ, tLst, tFld, sFld, tMeth, tMake, tB, tYes, tCmp, t2I, tIsN, tNotN, tDGet, tDGet1, tDGet2, tDIn, tDNotIn, tAndV, tOrV, tNotV, tDNewT, sDPut, tSl, tPart, tNoPart, rSlL, tThen, tCntZ, tFgt, tChain, gCons, gNil, gTup, rCatZ, rCatA, rCat, rAppend, rExtend, rIn, rInD, rNotInD, rEqD, rNeD, rIxL, rIxT, tSub, tAdd, tBreak, tCont, tPar, rSum, rSumT, rMaxT, tyV, L2.start, List.map_cons, List.map_nil, List.length_cons, List.length_nil, List.cons_append, List.nil_append, List.append_nil, List.replicate, Nat.reduceAdd, Nat.reduceSub, wipe, List.set_cons_zero, List.set_cons_succ, nox_K, cxOf_K, blk_K, suite_K, tVar_0, tVar_1, tVar_2, tVar_3, tVar_4, tVar_5, tVar_6, tVar_7, tVar_8, tVar_9, tVar_10, tVar_11, tVar_12, tVar_13, tVar_14, tVar_15, gName_0, gName_1, gName_2, gName_3, gName_4, gName_5, gName_6, gName_7, gName_8, gName_9, gName_10, gName_11, gName_12, gName_13, gName_14, gName_15, and_assoc, exists_eq_left', exists_eq_left, exists_eq, exists_eq', exists_and_left, exists_const, and_true, true_and, V.int.injEq, V.ref.injEq, V.bl.injEq, V.str.injEq, List.cons.injEq, and_self, scal, Bool.false_eq_true, if_false, if_true, reduceCtorEq, false_and, and_false, false_or, or_false, ↓reduceIte]
      rw [List.length_map, Paired.length ha.2, List.take_length] at ho1
      exact q o H1 e1 ho ho1
end
end Fs
set_option Elab.async false
set_option linter.all false
set_option maxRecDepth 100000
set_option maxHeartbeats 4000000
namespace Fs
open PySem PySem.Spec PyProof.Rows L2 FsX
open Evl (Ex Ex.refl Ex.trans Ex.new Ex.mut fresh_back)
/-- a shop's lines, in words of octets -/
def shelfL (nm : List Nat) (r : Nat) : List (List Nat) := [wShelf, nm, [48 + r]]
def custL (p : Rs.Shop) : List (List Nat) := [wCust, [48 + p.taken], [111, 102], [48 + p.ofOne]]
def stockL (p : Rs.Shop) : List (List Nat) := [wStock, [48 + p.items], [111, 110, 116, 111], [48 + p.onto]]
def nameL (p : Rs.Shop) : List (List (List Nat)) := p.shelves.map fun s => shelfL (s.name.map fun c => c.toNat) s.room
def linesN (p : Rs.Shop) : List (List (List Nat)) := nameL p ++ [custL p, stockL p]
def textN (p : Rs.Shop) : List Nat := joinN 10 ((linesN p).map (joinN 32))
theorem line_len {p : Rs.Shop} (ok : Ok p) : ∀ ws, ws ∈ linesN p → ws.length ≤ 4 ∧ ∀ u, u ∈ ws → u.length ≤ 9 := by
  intro ws h
  unfold linesN nameL at h
  rcases List.mem_append.1 h with h | h
  · obtain ⟨s, hs, rfl⟩ := List.mem_map.1 h
    have := (ok.nm s hs).1
    refine ⟨by show 3 ≤ 4; decide, fun u hu => ?_⟩
    simp only [shelfL, List.mem_cons, List.not_mem_nil, or_false] at hu
    rcases hu with rfl | rfl | rfl
    · decide
    · rw [List.length_map]; omega
    · show 1 ≤ 9; decide
  · simp only [List.mem_cons, List.not_mem_nil, or_false] at h
    rcases h with rfl | rfl
    · refine ⟨by show 4 ≤ 4; decide, fun u hu => ?_⟩
      simp only [custL, List.mem_cons, List.not_mem_nil, or_false] at hu
      rcases hu with rfl | rfl | rfl | rfl
      · decide
      · show 1 ≤ 9; decide
      · decide
      · show 1 ≤ 9; decide
    · refine ⟨by show 4 ≤ 4; decide, fun u hu => ?_⟩
      simp only [stockL, List.mem_cons, List.not_mem_nil, or_false] at hu
      rcases hu with rfl | rfl | rfl | rfl
      · decide
      · show 1 ≤ 9; decide
      · decide
      · show 1 ≤ 9; decide
theorem words_len {p : Rs.Shop} (ok : Ok p) : ∀ ws, ws ∈ linesN p → (joinN 32 ws).length ≤ 40 := fun ws h => by
  obtain ⟨h1, h2⟩ := line_len ok ws h
  have := joinN_len 32 (n := 9) ws h2
  have : ws.length * (9 + 1) ≤ 4 * 10 := Nat.mul_le_mul h1 (Nat.le_refl _)
  omega
theorem lines_len {p : Rs.Shop} (ok : Ok p) : (linesN p).length ≤ 5 := by
  unfold linesN nameL
  have := ok.n3
  simp only [List.length_append, List.length_map, List.length_cons, List.length_nil]; omega
theorem text_len {p : Rs.Shop} (ok : Ok p) : (textN p).length ≤ 205 := by
  unfold textN
  have := joinN_len 10 (n := 40) ((linesN p).map (joinN 32)) fun u hu => by
    obtain ⟨ws, h, rfl⟩ := List.mem_map.1 hu
    exact words_len ok ws h
  rw [List.length_map] at this
  have h5 := lines_len ok
  have : (linesN p).length * (40 + 1) ≤ 5 * 41 := Nat.mul_le_mul h5 (Nat.le_refl _)
  omega
/-- a line made of these words, appended -/
theorem line_push {H0 H1 H2 : Hp} {l p : Addr} {xs : List (List (List Nat))} {ws : List (List Nat)} {as : List Addr} (hl : H0 l = none) (e1 : Ex H0 H1) (hx : LX (LO L) H1 l xs) (e2 : Ex H1 H2) (hp : H2 p = none) (hi : Paired (fun a w => L H2 a w ∧ a ≠ l) as ws) (hn : xs.length ≤ 10) :
    ∃ vs, upd H2 p (.lst (as.map V.ref)) l = some (.lst vs) ∧ vs.length < sizeLine ∧ Ex H0 (upd (upd H2 p (.lst (as.map V.ref))) l (.lst (vs ++ [.ref p]))) ∧ LX (LO L) (upd (upd H2 p (.lst (as.map V.ref))) l (.lst (vs ++ [.ref p]))) l (xs ++ [ws]) := by
  have e3 : Ex H2 (upd H2 p (.lst (as.map V.ref))) := Ex.new hp
  have e13 := e2.trans e3
  have hl2 : upd H2 p (.lst (as.map V.ref)) l ≠ none := by
    obtain ⟨vs, h, _⟩ := (hx.ex (mLO mL) e13).len
    rw [h]; intro k; cases k
  have pl : p ≠ l := fun e => by
    obtain ⟨vs, h, _⟩ := (hx.ex (mLO mL) e2).len
    rw [← e, hp] at h; cases h
  have r : LO L (L2.del (upd H2 p (.lst (as.map V.ref))) l) p ws := by
    refine ⟨as, by rw [del_ne pl]; exact upd_same, Paired.mapP hi fun a w k => ?_⟩
    show L2.del _ _ a = _
    rw [del_ne k.2]
    exact e3 _ _ k.1
  obtain ⟨vs, h1, h2, h3⟩ := hx.app (mLO mL) e13 r
  exact ⟨vs, h1, by rw [h2, sizeLine_eq]; omega, Ex.mut (e1.trans e13) hl, h3⟩
section
variable {P : Program} {w : World} {K : PySem.W.Frag} {mg : Str → Option Value} {base : Heap}
def spWText : Sp := fun vs H Q _ => ∃ (a : Addr) (o : List Nat), vs = [.ref a] ∧ L H a o ∧ o.length ≤ 100000 ∧ Ans H Q (o.length % 256 :: o.length / 256 :: o)
theorem k_wtext (z : Z K mg) : Kp P w K mg base CX0 2 (He.ga K "write_text") ["octets"] spWText := by
  have nd := sc_write_text.nd
  refine kp0 (f_write_text z) sc_write_text (fun vs H Q E h => ?_) fun cdv A outer s H vs Q E hr h => ⟨_,
    (pss_one (ps_ret (pe_op op_cat ((Kp.call ((k_wu16 z)) (Room.mono (hr) (by decide)) (by rfl) ((g_write_u16 z)) pass0 ((pa_cons ((pe_callB call_len_seq (by rfl) ((b_len z)) PySem.boot_len (pa_cons ((pv 0)) pa_nil))) pa_nil)))) (pv 0)))), ?_⟩
  · obtain ⟨_, _, rfl, _⟩ := h; rfl
  · obtain ⟨a, o, rfl, ha, hl, q⟩ := h
    simp only [ tNil, tCons, tC, tDrop, tOp, rI0, tCB, rEq, rNe, tNext, tRet, tRetN, tSeq, tAsg, tAug, tTest, tIfS, tIf, tNot, tAnd, tOr, tBM, tBM0, tCall, tTup, tTupZ, tLst, tFld, sFld, tMeth, tMake, tB, tYes, tCmp, t2I, tIsN, tNotN, tDGet, tDGet1, tDGet2, tDIn, tDNotIn, tAndV, tOrV, tNotV, tDNewT, sDPut, tSl, tPart, tNoPart, rSlL, tThen, tCntZ, tFgt, tChain, gCons, gNil, gTup, rCatZ, rCatA, rCat, rAppend, rExtend, rIn, rInD, rNotInD, rEqD, rNeD, rIxL, rIxT, tSub, tAdd, tBreak, tCont, tPar, rSum, rSumT, rMaxT, tyV, L2.start, List.map_cons, List.map_nil, List.length_cons, List.length_nil, List.cons_append, List.nil_append, List.append_nil, List.replicate, Nat.reduceAdd, Nat.reduceSub, wipe, List.set_cons_zero, List.set_cons_succ, nox_K, cxOf_K, blk_K, suite_K, tVar_0, tVar_1, tVar_2, tVar_3, tVar_4, tVar_5, tVar_6, tVar_7, tVar_8, tVar_9, tVar_10, tVar_11, tVar_12, tVar_13, tVar_14, tVar_15, gName_0, gName_1, gName_2, gName_3, gName_4, gName_5, gName_6, gName_7, gName_8, gName_9, gName_10, gName_11, gName_12, gName_13, gName_14, gName_15, and_assoc, exists_eq_left', exists_eq_left, exists_eq, exists_eq', exists_and_left, exists_const, and_true, true_and, V.int.injEq, V.ref.injEq, V.bl.injEq, V.str.injEq, List.cons.injEq, and_self, scal, Bool.false_eq_true, if_false, if_true, reduceCtorEq, false_and, and_false, false_or, or_false, ↓reduceIte]
    refine ⟨_, .inl ha.sq, o.length, by rw [nv_len], fun r H1 e1 fr hr1 => ?_⟩
    simp only [ tNil, tCons, tC, tDrop, tOp, rI0, tCB, rEq, rNe, tNext, tRet, tRetN, tSeq, tAsg, tAug, tTest, tIfS, tIf, tNot, tAnd, tOr, tBM, tBM0, tCall, tTup, tTupZ, tLst, tFld, sFld, tMeth, tMake, tB, tYes, tCmp, t2I, tIsN, tNotN, tDGet, tDGet1, tDGet2, tDIn, tDNotIn, tAndV, tOrV, tNotV, tDNewT, sDPut, tSl, tPart, tNoPart, rSlL, tThen, tCntZ, tFgt, tChain, gCons, gNil, gTup, rCatZ, rCatA, rCat, rAppend, rExtend, rIn, rInD, rNotInD, rEqD, rNeD, rIxL, rIxT, tSub, tAdd, tBreak, tCont, tPar, rSum, rSumT, rMaxT, tyV, L2.start, List.map_cons, List.map_nil, List.length_cons, List.length_nil, List.cons_append, List.nil_append, List.append_nil, List.replicate, Nat.reduceAdd, Nat.reduceSub, wipe, List.set_cons_zero, List.set_cons_succ, nox_K, cxOf_K, blk_K, suite_K, tVar_0, tVar_1, tVar_2, tVar_3, tVar_4, tVar_5, tVar_6, tVar_7, tVar_8, tVar_9, tVar_10, tVar_11, tVar_12, tVar_13, tVar_14, tVar_15, gName_0, gName_1, gName_2, gName_3, gName_4, gName_5, gName_6, gName_7, gName_8, gName_9, gName_10, gName_11, gName_12, gName_13, gName_14, gName_15, and_assoc, exists_eq_left', exists_eq_left, exists_eq, exists_eq', exists_and_left, exists_const, and_true, true_and, V.int.injEq, V.ref.injEq, V.bl.injEq, V.str.injEq, List.cons.injEq, and_self, scal, Bool.false_eq_true, if_false, if_true, reduceCtorEq, false_and, and_false, false_or, or_false, ↓reduceIte]
    refine ⟨_, hr1.lst, _, (ha.ex e1).lst, by rw [nv_len, nv_len, sizeLine_eq]; simp only [List.length_cons, List.length_nil]; omega, fun p hp => ?_⟩
    refine q p _ (e1.trans (Ex.new hp)) (fresh_back e1 hp) ?_
    show upd _ _ _ p = _
    rw [upd_same]; rfl
theorem k_text (z : Z K mg) : Kp P w K mg base CX0 2 (He.ga K "canonical_text") ["shop"] (fun vs H Q _ => ∃ (a : Addr) (p : Rs.Shop), vs = [.ref a] ∧ ShopAt (SH K) H a p ∧ Ans H Q (textN p)) := by
  have nd := sc_canonical_text.nd
  obtain ⟨t1, h48⟩ := c_ZERO z
  obtain ⟨t2, h32⟩ := c_SPACE z
  obtain ⟨t3, h10⟩ := c_NEWLINE z
  refine kp0 (f_canonical_text z) sc_canonical_text (fun vs H Q E h => ?_) fun cdv A outer s H vs Q E hr h => ⟨_,
    (pss_cons ((ps_set (i := 1) nd rfl (by first | exact Or.inl rfl | exact Or.inr rfl) ((pe_lst pa_nil)))) (pss_cons (ps_for PassesOwn.never rfl (pi_zip (by rfl) (b_zip z) (pa_cons (pe_fld (pv 0) rfl) (pa_cons (pe_fld (pv 0) rfl) pa_nil))) (pg_tup rfl (pgs_cons (pg_name (i := 2) nd rfl (Or.inl rfl)) (pgs_cons (pg_name (i := 3) nd rfl (Or.inl rfl)) pgs_nil))) (pss_one ((ps_expr (pe_bm PySem.F.plainAttrs_list PySem.F.slot_list_append PySem.F.type_list_append mt_append ((pv 1)) (pa_cons ((pe_lst (pa_cons ((Kp.call ((k_oct z)) (Room.mono (hr) (by decide)) (by rfl) ((g_octets_of z)) pass0 ((pa_cons (pe_str) pa_nil)))) (pa_cons (pv 2) (pa_cons (pe_lst (pa_cons (pe_op op_add (pe_glob (v := .int 48) (by rfl) h48 ⟨_, rfl⟩) (pv 3)) pa_nil)) pa_nil))))) pa_nil)))))) (pss_cons ((ps_expr (pe_bm PySem.F.plainAttrs_list PySem.F.slot_list_append PySem.F.type_list_append mt_append ((pv 1)) (pa_cons ((pe_lst (pa_cons ((Kp.call ((k_oct z)) (Room.mono (hr) (by decide)) (by rfl) ((g_octets_of z)) pass0 ((pa_cons (pe_str) pa_nil)))) (pa_cons (pe_lst (pa_cons (pe_op op_add (pe_glob (v := .int 48) (by rfl) h48 ⟨_, rfl⟩) (pe_fld (pv 0) rfl)) pa_nil)) (pa_cons ((Kp.call ((k_oct z)) (Room.mono (hr) (by decide)) (by rfl) ((g_octets_of z)) pass0 ((pa_cons (pe_str) pa_nil)))) (pa_cons (pe_lst (pa_cons (pe_op op_add (pe_glob (v := .int 48) (by rfl) h48 ⟨_, rfl⟩) (pe_fld (pv 0) rfl)) pa_nil)) pa_nil)))))) pa_nil)))) (pss_cons ((ps_expr (pe_bm PySem.F.plainAttrs_list PySem.F.slot_list_append PySem.F.type_list_append mt_append ((pv 1)) (pa_cons ((pe_lst (pa_cons ((Kp.call ((k_oct z)) (Room.mono (hr) (by decide)) (by rfl) ((g_octets_of z)) pass0 ((pa_cons (pe_str) pa_nil)))) (pa_cons (pe_lst (pa_cons (pe_op op_add (pe_glob (v := .int 48) (by rfl) h48 ⟨_, rfl⟩) (pe_fld (pv 0) rfl)) pa_nil)) (pa_cons ((Kp.call ((k_oct z)) (Room.mono (hr) (by decide)) (by rfl) ((g_octets_of z)) pass0 ((pa_cons (pe_str) pa_nil)))) (pa_cons (pe_lst (pa_cons (pe_op op_add (pe_glob (v := .int 48) (by rfl) h48 ⟨_, rfl⟩) (pe_fld (pv 0) rfl)) pa_nil)) pa_nil)))))) pa_nil)))) (pss_one (ps_ret ((Kp.call ((k_joined z)) (Room.mono (hr) (by decide)) (by rfl) ((g_joined z)) pass0 ((pa_cons (pe_lc (g := gName 4) (own := [("words", 4)]) rfl nd (pi_list (pv 1)) (blkOk_by (N := ["shop", "lines", "name", "room", "words"]) (sc := defScope s_canonical_text) (by decide +kernel)) (fun _ _ _ _ _ => (pg_name (i := 4) nd rfl (Or.inl rfl))) (fun _ _ _ _ _ => pts_nil) (fun _ _ _ _ _ => (Kp.call ((k_joined z)) (Room.mono (hr) (by decide)) (by rfl) ((g_joined z)) pass0 ((pa_cons (pv 4) (pa_cons (pe_glob (v := .int 32) (by rfl) h32 ⟨_, rfl⟩) pa_nil)))))) (pa_cons (pe_glob (v := .int 10) (by rfl) h10 ⟨_, rfl⟩) pa_nil))))))))))), ?_⟩
  · obtain ⟨_, _, rfl, _⟩ := h; rfl
  · obtain ⟨a, p, rfl, ⟨ok, dx, fs, n, r, h0, h1, h2, h3, h4, h5, h6, h7, h8⟩, q⟩ := h
    simp only [ tNil, tCons, tC, tDrop, tOp, rI0, tCB, rEq, rNe, tNext, tRet, tRetN, tSeq, tAsg, tAug, tTest, tIfS, tIf, tNot, tAnd, tOr, tBM, tBM0, tCall, tTup, tTupZ, tLst, tFld, sFld, tMeth, tMake, tB, tYes, tCmp, t2I, tIsN, tNotN, tDGet, tDGet1, tDGet2, tDIn, tDNotIn, tAndV, tOrV, tNotV, tDNewT, sDPut, tSl, tPart, tNoPart, rSlL, tThen, tCntZ, tFgt, tChain, gCons, gNil, gTup, rCatZ, rCatA, rCat, rAppend, rExtend, rIn, rInD, rNotInD, rEqD, rNeD, rIxL, rIxT, tSub, tAdd, tBreak, tCont, tPar, rSum, rSumT, rMaxT, tyV, L2.start, List.map_cons, List.map_nil, List.length_cons, List.length_nil, List.cons_append, List.nil_append, List.append_nil, List.replicate, Nat.reduceAdd, Nat.reduceSub, wipe, List.set_cons_zero, List.set_cons_succ, nox_K, cxOf_K, blk_K, suite_K, tVar_0, tVar_1, tVar_2, tVar_3, tVar_4, tVar_5, tVar_6, tVar_7, tVar_8, tVar_9, tVar_10, tVar_11, tVar_12, tVar_13, tVar_14, tVar_15, gName_0, gName_1, gName_2, gName_3, gName_4, gName_5, gName_6, gName_7, gName_8, gName_9, gName_10, gName_11, gName_12, gName_13, gName_14, gName_15, and_assoc, exists_eq_left', exists_eq_left, exists_eq, exists_eq', exists_and_left, exists_const, and_true, true_and, V.int.injEq, V.ref.injEq, V.bl.injEq, V.str.injEq, List.cons.injEq, and_self, scal, Bool.false_eq_true, if_false, if_true, reduceCtorEq, false_and, and_false, false_or, or_false, ↓reduceIte]
    refine ⟨by decide, fun l hl => ?_⟩
    have e0 := Ex.new hl (o := HO.lst [])
    obtain ⟨as, h7⟩ := h7
    have n3 := ok.n3
    have nl : (namesOf p).length = p.shelves.length := List.length_map _
    have rl : (Rs.roomsOf p).length = p.shelves.length := List.length_map _
    have asl : (as.map V.ref).length = p.shelves.length := by rw [LA.len (R := L) h7, nl]
    refine ⟨_, rfl, a, SH K, dx, fs, _, rfl, e0 _ _ h0, cl_Shop z, na_Shop_names z, h1, _, rfl, a, SH K, dx, fs, _, rfl, e0 _ _ h0, cl_Shop z, na_Shop_rooms z, h2, n, r, _, _, rfl, (LA.ex h7 mL e0).sq, (h8.ex e0).sq, for_it (walk_zip (n := p.shelves.length) (xs := as.map V.ref) (ys := nv (Rs.roomsOf p)) (by rw [asl, nv_len, rl]; omega)) (fun i σ H1 => ∃ u2 u3, σ = [some (.ref a), some (.ref l), u2, u3, none] ∧ Ex H H1 ∧ LX (LO L) H1 l ((nameL p).take i)) ⟨_, _, rfl, e0, LX.new⟩ ?_ ?_ ?_⟩
    · rintro i σ H1 _ ⟨_, _, _, e1, _⟩
      exact ⟨(LA.ex h7 mL e1).sq, (h8.ex e1).sq⟩
    · rintro i x σ H1 H2 hi ⟨u2, u3, rfl, e1, hx⟩ ⟨T, y1, y2, rfl, hT, rfl, hy1, hy2⟩
      obtain ⟨nA, nm, rfl, hnm, hnA, hL⟩ := (LA.ex h7 mL e1).get hy1
      obtain ⟨rm, hrm, rfl⟩ := nv_get hy2
      refine ⟨T, _, rfl, SqT.of upd_same, rfl, ?_⟩
      have eT : Ex H1 (upd H1 T (.tup [.ref nA, .int (rm : Nat)])) := Ex.new hT
      have c : (48 : Int) + (rm : Int) = ((48 + rm : Nat) : Int) := by omega
      have hi3 : i < 3 := by omega
      have nAl : nA ≠ l := ne_of_none (LA.at (R := L) h7 hnA hnm) hl
      simp only [ tNil, tCons, tC, tDrop, tOp, rI0, tCB, rEq, rNe, tNext, tRet, tRetN, tSeq, tAsg, tAug, tTest, tIfS, tIf, tNot, tAnd, tOr, tBM, tBM0, tCall, tTup, tTupZ, tLst, tFld, sFld, tMeth, tMake, tB, tYes, tCmp, t2I, tIsN, tNotN, tDGet, tDGet1, tDGet2, tDIn, tDNotIn, tAndV, tOrV, tNotV, tDNewT, sDPut, tSl, tPart, tNoPart, rSlL, tThen, tCntZ, tFgt, tChain, gCons, gNil, gTup, rCatZ, rCatA, rCat, rAppend, rExtend, rIn, rInD, rNotInD, rEqD, rNeD, rIxL, rIxT, tSub, tAdd, tBreak, tCont, tPar, rSum, rSumT, rMaxT, tyV, L2.start, List.map_cons, List.map_nil, List.length_cons, List.length_nil, List.cons_append, List.nil_append, List.append_nil, List.replicate, Nat.reduceAdd, Nat.reduceSub, wipe, List.set_cons_zero, List.set_cons_succ, nox_K, cxOf_K, blk_K, suite_K, tVar_0, tVar_1, tVar_2, tVar_3, tVar_4, tVar_5, tVar_6, tVar_7, tVar_8, tVar_9, tVar_10, tVar_11, tVar_12, tVar_13, tVar_14, tVar_15, gName_0, gName_1, gName_2, gName_3, gName_4, gName_5, gName_6, gName_7, gName_8, gName_9, gName_10, gName_11, gName_12, gName_13, gName_14, gName_15, and_assoc, exists_eq_left', exists_eq_left, exists_eq, exists_eq', exists_and_left, exists_const, and_true, true_and, V.int.injEq, V.ref.injEq, V.bl.injEq, V.str.injEq, List.cons.injEq, and_self, scal, Bool.false_eq_true, if_false, if_true, reduceCtorEq, false_and, and_false, false_or, or_false, ↓reduceIte]
      have hxT := hx.ex (mLO mL) eT
      have hLT := L.ex hL eT
      have e1T := e1.trans eT
      generalize upd H1 T (.tup [.ref nA, .int (rm : Nat)]) = H2 at *
      obtain ⟨lv, hlv, _⟩ := hxT.len
      refine ⟨.inl ⟨_, sq_of hlv⟩, ("shelf" : Str), rfl, by decide, fun r1 H3 e3 fr1 hr1 => ?_⟩
      rw [c]
      refine ⟨by decide, fun p1 hp1 => ⟨by decide, fun p2 hp2 => ?_⟩⟩
      have hl3 := e3 _ _ hlv
      have p1l : p1 ≠ l := fun e => by rw [e, hl3] at hp1; cases hp1
      have e4 := Ex.new hp1 (o := HO.lst [V.int ((48 + rm : Nat) : Int)])
      obtain ⟨vs, a1, a2, a3, a4⟩ := line_push (as := [r1, nA, p1]) (ws := shelfL nm rm) hl e1T hxT (e3.trans e4) hp2 (.cons ⟨L.ex (s := wShelf) hr1 e4, fun e => by rw [e, hlv] at fr1; cases fr1⟩ (.cons ⟨L.ex hLT (e3.trans e4), nAl⟩ (.cons ⟨upd_same, p1l⟩ .nil))) (by rw [List.length_take]; omega)
      refine ⟨vs, a1, a2, a3, ?_⟩
      have hline : (nameL p)[i]? = some (shelfL nm rm) := by
        unfold namesOf at hnm
        unfold Rs.roomsOf at hrm
        unfold nameL
        rw [List.getElem?_map] at hnm hrm ⊢
        cases hs : p.shelves[i]? with
        | none => rw [hs] at hnm; cases hnm
        | some sh =>
          rw [hs] at hnm hrm
          cases hnm
          cases hrm
          rfl
      rw [take_snoc hline]
      exact a4
    · rintro σ H1 ⟨u2, u3, rfl, e1, hx⟩
      rw [List.take_of_length_le (by unfold nameL; rw [List.length_map]; exact Nat.le_refl _)] at hx
      have nml : (nameL p).length ≤ 3 := by unfold nameL; rw [List.length_map]; exact n3
      simp only [ tNil, tCons, tC, tDrop, tOp, rI0, tCB, rEq, rNe, tNext, tRet, tRetN, tSeq, tAsg, tAug, tTest, tIfS, tIf, tNot, tAnd, tOr, tBM, tBM0, tCall, tTup, tTupZ, tLst, tFld, sFld, tMeth, tMake, tB, tYes, tCmp, t2I, tIsN, tNotN, tDGet, tDGet1, tDGet2, tDIn, tDNotIn, tAndV, tOrV, tNotV, tDNewT, sDPut, tSl, tPart, tNoPart, rSlL, tThen, tCntZ, tFgt, tChain, gCons, gNil, gTup, rCatZ, rCatA, rCat, rAppend, rExtend, rIn, rInD, rNotInD, rEqD, rNeD, rIxL, rIxT, tSub, tAdd, tBreak, tCont, tPar, rSum, rSumT, rMaxT, tyV, L2.start, List.map_cons, List.map_nil, List.length_cons, List.length_nil, List.cons_append, List.nil_append, List.append_nil, List.replicate, Nat.reduceAdd, Nat.reduceSub, wipe, List.set_cons_zero, List.set_cons_succ, nox_K, cxOf_K, blk_K, suite_K, tVar_0, tVar_1, tVar_2, tVar_3, tVar_4, tVar_5, tVar_6, tVar_7, tVar_8, tVar_9, tVar_10, tVar_11, tVar_12, tVar_13, tVar_14, tVar_15, gName_0, gName_1, gName_2, gName_3, gName_4, gName_5, gName_6, gName_7, gName_8, gName_9, gName_10, gName_11, gName_12, gName_13, gName_14, gName_15, and_assoc, exists_eq_left', exists_eq_left, exists_eq, exists_eq', exists_and_left, exists_const, and_true, true_and, V.int.injEq, V.ref.injEq, V.bl.injEq, V.str.injEq, List.cons.injEq, and_self, scal, Bool.false_eq_true, if_false, if_true, reduceCtorEq, false_and, and_false, false_or, or_false, ↓reduceIte]
      obtain ⟨lv, hlv, _⟩ := hx.len
      refine ⟨.inl ⟨_, sq_of hlv⟩, ("customers" : Str), rfl, by decide, fun r1 H2 e2 fr1 hr1 => ?_⟩
      refine ⟨SH K, dx, fs, e2 _ _ (e1 _ _ h0), cl_Shop z, na_Shop_wanted z, _, h3, _, rfl, by decide, fun p1 hp1 => ⟨("of" : Str), rfl, by decide, fun r2 H3 e3 fr2 hr2 => ?_⟩⟩
      have e12 := e2.trans ((Ex.new hp1).trans e3)
      refine ⟨SH K, dx, fs, e12 _ _ (e1 _ _ h0), cl_Shop z, na_Shop_wanted_of_one z, _, h4, _, rfl, by decide, fun p2 hp2 => ⟨by decide, fun p3 hp3 => ?_⟩⟩
      have ep2 := Ex.new hp2 (o := HO.lst [V.int ((48 + p.ofOne : Nat) : Int)])
      have ep1 := Ex.new hp1 (o := HO.lst [V.int ((48 + p.taken : Nat) : Int)])
      have ne : ∀ {G : Hp} {b : Addr}, Ex H1 G → G b = none → b ≠ l := fun e h k => by
        rw [k] at h
        have := e _ _ hlv
        rw [h] at this; cases this
      have L1 : L (upd H2 p1 (HO.lst [V.int (48 + (p.taken : Int))])) p1 [48 + p.taken] := upd_same
      have L2 : L (upd H3 p2 (HO.lst [V.int (48 + (p.ofOne : Int))])) p2 [48 + p.ofOne] := upd_same
      obtain ⟨vs, a1, a2, a3, a4⟩ := line_push (as := [r1, p1, r2, p2]) (ws := custL p) hl e1 hx (e12.trans ep2) hp3 (.cons ⟨L.ex (s := wCust) hr1 (ep1.trans (e3.trans ep2)), ne (Ex.refl _) fr1⟩ (.cons ⟨L.ex L1 (e3.trans ep2), ne e2 hp1⟩ (.cons ⟨L.ex (s := [111, 102]) hr2 ep2, ne (e2.trans ep1) fr2⟩ (.cons ⟨L2, ne e12 hp2⟩ .nil)))) (by omega)
      refine ⟨vs, a1, a2, ?_⟩
      have b3 : Ex H (upd (upd (upd H3 p2 (HO.lst [V.int (48 + (p.ofOne : Int))])) p3 (HO.lst [.ref r1, .ref p1, .ref r2, .ref p2])) l (HO.lst (vs ++ [V.ref p3]))) := a3
      have b4 : LX (LO L) (upd (upd (upd H3 p2 (HO.lst [V.int (48 + (p.ofOne : Int))])) p3 (HO.lst [.ref r1, .ref p1, .ref r2, .ref p2])) l (HO.lst (vs ++ [V.ref p3]))) l (nameL p ++ [custL p]) := a4
      clear a1 a3 a4
      generalize upd (upd (upd H3 p2 (HO.lst [V.int (48 + (p.ofOne : Int))])) p3 (HO.lst [.ref r1, .ref p1, .ref r2, .ref p2])) l (HO.lst (vs ++ [V.ref p3])) = H4 at *
      clear L1 L2 ep1 ep2 e12 ne hr1 hr2 fr1 fr2 hp1 hp2 hp3 e2 e3 hlv
      obtain ⟨lv, hlv, _⟩ := b4.len
      refine ⟨.inl ⟨_, sq_of hlv⟩, ("stocker" : Str), rfl, by decide, fun r1 H5 e2 fr1 hr1 => ?_⟩
      refine ⟨SH K, dx, fs, e2 _ _ (b3 _ _ h0), cl_Shop z, na_Shop_put z, _, h5, _, rfl, by decide, fun p1 hp1 => ⟨("onto" : Str), rfl, by decide, fun r2 H6 e3 fr2 hr2 => ?_⟩⟩
      have e12 := e2.trans ((Ex.new hp1).trans e3)
      refine ⟨SH K, dx, fs, e12 _ _ (b3 _ _ h0), cl_Shop z, na_Shop_onto z, _, h6, _, rfl, by decide, fun p2 hp2 => ⟨by decide, fun p3 hp3 => ?_⟩⟩
      have ep2 := Ex.new hp2 (o := HO.lst [V.int ((48 + p.onto : Nat) : Int)])
      have ep1 := Ex.new hp1 (o := HO.lst [V.int ((48 + p.items : Nat) : Int)])
      have ne : ∀ {G : Hp} {b : Addr}, Ex H4 G → G b = none → b ≠ l := fun e h k => by
        rw [k] at h
        have := e _ _ hlv
        rw [h] at this; cases this
      have L1 : L (upd H5 p1 (HO.lst [V.int (48 + (p.items : Int))])) p1 [48 + p.items] := upd_same
      have L2 : L (upd H6 p2 (HO.lst [V.int (48 + (p.onto : Int))])) p2 [48 + p.onto] := upd_same
      obtain ⟨vs, a1, a2, a3, a4⟩ := line_push (as := [r1, p1, r2, p2]) (ws := stockL p) hl b3 b4 (e12.trans ep2) hp3 (.cons ⟨L.ex (s := wStock) hr1 (ep1.trans (e3.trans ep2)), ne (Ex.refl _) fr1⟩ (.cons ⟨L.ex L1 (e3.trans ep2), ne e2 hp1⟩ (.cons ⟨L.ex (s := [111, 110, 116, 111]) hr2 ep2, ne (e2.trans ep1) fr2⟩ (.cons ⟨L2, ne e12 hp2⟩ .nil)))) (by rw [List.length_append, List.length_singleton]; omega)
      refine ⟨vs, a1, a2, ?_⟩
      have c3 : Ex H (upd (upd (upd H6 p2 (HO.lst [V.int (48 + (p.onto : Int))])) p3 (HO.lst [.ref r1, .ref p1, .ref r2, .ref p2])) l (HO.lst (vs ++ [V.ref p3]))) := a3
      have c4 : LX (LO L) (upd (upd (upd H6 p2 (HO.lst [V.int (48 + (p.onto : Int))])) p3 (HO.lst [.ref r1, .ref p1, .ref r2, .ref p2])) l (HO.lst (vs ++ [V.ref p3]))) l (linesN p) := by
        have : nameL p ++ [custL p] ++ [stockL p] = linesN p := by rw [List.append_assoc]; rfl
        rw [← this]; exact a4
      clear a1 a3 a4
      generalize upd (upd (upd H6 p2 (HO.lst [V.int (48 + (p.onto : Int))])) p3 (HO.lst [.ref r1, .ref p1, .ref r2, .ref p2])) l (HO.lst (vs ++ [V.ref p3])) = H7 at *
      clear L1 L2 ep1 ep2 e12 ne hr1 hr2 fr1 fr2 hp1 hp2 hp3 e2 e3 hlv
      obtain ⟨lns, hln⟩ := c4.lo (mLO mL)
      have hlen := lines_len ok
      refine ⟨_, rfl, l, rfl, ⟨_, LA.sq hln⟩, fun D hD => lc_la (R := LO L) (as := lns) (xs := linesN p) (fun j G => Ex H7 G ∧ LX L G D (((linesN p).take j).map (joinN 32))) ⟨Ex.new hD, LX.new⟩ ?_ ?_ ?_⟩
      · rintro j G ⟨e, _⟩
        exact LA.ex hln (mLO mL) e
      · rintro j y ws G hw hy hwL ⟨e, hX⟩
        have hj : j < (linesN p).length := (List.getElem?_eq_some_iff.1 hw).1
        have hmem := List.mem_of_getElem? hw
        simp only [ tNil, tCons, tC, tDrop, tOp, rI0, tCB, rEq, rNe, tNext, tRet, tRetN, tSeq, tAsg, tAug, tTest, tIfS, tIf, tNot, tAnd, tOr, tBM, tBM0, tCall, tTup, tTupZ, tLst, tFld, sFld, tMeth, tMake, tB, tYes, tCmp, t2I, tIsN, tNotN, tDGet, tDGet1, tDGet2, tDIn, tDNotIn, tAndV, tOrV, tNotV, tDNewT, sDPut, tSl, tPart, tNoPart, rSlL, tThen, tCntZ, tFgt, tChain, gCons, gNil, gTup, rCatZ, rCatA, rCat, rAppend, rExtend, rIn, rInD, rNotInD, rEqD, rNeD, rIxL, rIxT, tSub, tAdd, tBreak, tCont, tPar, rSum, rSumT, rMaxT, tyV, L2.start, List.map_cons, List.map_nil, List.length_cons, List.length_nil, List.cons_append, List.nil_append, List.append_nil, List.replicate, Nat.reduceAdd, Nat.reduceSub, wipe, List.set_cons_zero, List.set_cons_succ, nox_K, cxOf_K, blk_K, suite_K, tVar_0, tVar_1, tVar_2, tVar_3, tVar_4, tVar_5, tVar_6, tVar_7, tVar_8, tVar_9, tVar_10, tVar_11, tVar_12, tVar_13, tVar_14, tVar_15, gName_0, gName_1, gName_2, gName_3, gName_4, gName_5, gName_6, gName_7, gName_8, gName_9, gName_10, gName_11, gName_12, gName_13, gName_14, gName_15, and_assoc, exists_eq_left', exists_eq_left, exists_eq, exists_eq', exists_and_left, exists_const, and_true, true_and, V.int.injEq, V.ref.injEq, V.bl.injEq, V.str.injEq, List.cons.injEq, and_self, scal, Bool.false_eq_true, if_false, if_true, reduceCtorEq, false_and, and_false, false_or, or_false, ↓reduceIte]
        refine ⟨y, ws, 32, rfl, hwL, by have := words_len ok ws hmem; omega, fun q' G5 e5 fr5 hq' => ?_⟩
        obtain ⟨vs, h1, h2, h3⟩ := hX.app mL e5 (y := joinN 32 ws) (p := q') (by
          have : q' ≠ D := fun er => by rw [er] at fr5; obtain ⟨vs, hv, _⟩ := hX.len; rw [fr5] at hv; cases hv
          show L2.del G5 D q' = _
          rw [del_ne this]; exact hq')
        refine ⟨vs, h1, ?_, Ex.mut (e.trans e5) hD, ?_⟩
        · rw [h2, List.length_map, List.length_take, sizeLine_eq]; omega
        · rw [take_snoc hw, List.map_append]; exact h3
      · rintro G ⟨e, hX⟩
        rw [List.take_length] at hX
        refine ⟨D, (linesN p).map (joinN 32), 10, rfl, hX.lo mL, ?_, ?_⟩
        · have := text_len ok
          unfold textN at this; omega
        · exact Ans.mono q (c3.trans e)
end
end Fs
set_option Elab.async false
set_option linter.all false
set_option maxRecDepth 100000
set_option maxHeartbeats 4000000
namespace Fs
open PySem PySem.Spec PyProof.Rows L2 FsX
open Evl (Ex Ex.refl Ex.trans Ex.new Ex.mut fresh_back)
/-! what format answers -/
abbrev tn (u : Rs.Units) : List Nat := u.map fun c => c.toNat
theorem join_tn (d : Nat) (hd : d < 256) : ∀ l : List Rs.Units, tn (Rs.joinWith (UInt16.ofNat d) l) = joinN d (l.map tn)
  | [] => rfl
  | [u] => rfl
  | u :: v :: r => by
    show tn (u ++ UInt16.ofNat d :: Rs.joinWith (UInt16.ofNat d) (v :: r)) = tn u ++ d :: joinN d ((v :: r).map tn)
    rw [← join_tn d hd (v :: r)]
    show List.map _ (u ++ _ :: _) = _
    rw [List.map_append, List.map_cons, mu_toNat hd]
theorem tn_digit {n : Nat} (h : n ≤ 9) : tn (Rs.digitUnits n) = [48 + n] := by
  show [(UInt16.ofNat (48 + n)).toNat] = _
  rw [mu_toNat (by omega)]
theorem tn_mu {w : List Nat} (h : Low w) : tn (mu w) = w := by
  unfold tn mu
  rw [List.map_map]
  exact (List.map_congr_left (g := id) fun x hx => mu_toNat (h x hx)).trans (List.map_id _)
theorem tn_shelf {s : Rs.Shelf} (h : s.room ≤ 4) : (Rs.shelfWords s).map tn = shelfL (tn s.name) s.room := by
  show [tn (Rs.units "shelf"), tn s.name, tn (Rs.digitUnits s.room)] = _
  rw [u_shelf, tn_mu low_words.1, tn_digit (by omega)]; rfl
theorem lines_tn {p : Rs.Shop} (ok : Ok p) : ((Rs.shopLines p).map fun ws => ws.map tn) = linesN p := by
  unfold Rs.shopLines linesN nameL
  rw [List.map_append, List.map_map]
  congr 1
  · refine List.map_congr_left fun s hs => ?_
    exact tn_shelf (ok.room s hs).2
  · show [[tn (Rs.units "customers"), tn (Rs.digitUnits p.taken), tn (Rs.units "of"), tn (Rs.digitUnits p.ofOne)], [tn (Rs.units "stocker"), tn (Rs.digitUnits p.items), tn (Rs.units "onto"), tn (Rs.digitUnits p.onto)]] = _
    have := ok.t4
    have := ok.o4
    have := ok.i9
    have := ok.m3
    rw [u_cust, u_of, u_stock, u_onto, tn_mu low_words.2.1, tn_mu low_words.2.2.1, tn_mu low_words.2.2.2.1, tn_mu low_words.2.2.2.2, tn_digit (by omega), tn_digit (by omega), tn_digit (by omega), tn_digit (by omega)]; rfl
theorem text_tn {p : Rs.Shop} (ok : Ok p) : tn (Rs.shopUnits p) = textN p := by
  unfold Rs.shopUnits textN
  rw [← lines_tn ok, show (10 : UInt16) = UInt16.ofNat 10 from rfl, join_tn 10 (by decide), List.map_map, List.map_map]
  congr 1
  exact List.map_congr_left fun ws _ => join_tn 32 (by decide) ws
theorem join_low {d : Nat} (hd : d < 256) : ∀ {xs : List (List Nat)}, (∀ u, u ∈ xs → Low u) → Low (joinN d xs)
  | [], _ => low_nil
  | [u], h => h u (List.mem_cons_self ..)
  | u :: v :: r, h => low_app (h u (List.mem_cons_self ..)) (low_cons hd (join_low hd (xs := v :: r) fun w hw => h w (List.mem_cons_of_mem _ hw)))
theorem line_low {p : Rs.Shop} (ok : Ok p) : ∀ ws, ws ∈ linesN p → ∀ u, u ∈ ws → Low u := by
  intro ws h
  have := ok.t4
  have := ok.o4
  have := ok.i9
  have := ok.m3
  unfold linesN nameL at h
  rcases List.mem_append.1 h with h | h
  · obtain ⟨s, hs, rfl⟩ := List.mem_map.1 h
    have h1 := (ok.nm s hs).2
    have h2 := (ok.room s hs).2
    intro u hu
    simp only [shelfL, List.mem_cons, List.not_mem_nil, or_false] at hu
    rcases hu with rfl | rfl | rfl
    · exact low_words.1
    · intro c hc
      obtain ⟨x, hx, rfl⟩ := List.mem_map.1 hc
      exact h1 x hx
    · exact low_cons (by omega) low_nil
  · simp only [List.mem_cons, List.not_mem_nil, or_false] at h
    rcases h with rfl | rfl
    · intro u hu
      simp only [custL, List.mem_cons, List.not_mem_nil, or_false] at hu
      rcases hu with rfl | rfl | rfl | rfl
      · exact low_words.2.1
      · exact low_cons (by omega) low_nil
      · exact low_words.2.2.2.1
      · exact low_cons (by omega) low_nil
    · intro u hu
      simp only [stockL, List.mem_cons, List.not_mem_nil, or_false] at hu
      rcases hu with rfl | rfl | rfl | rfl
      · exact low_words.2.2.1
      · exact low_cons (by omega) low_nil
      · exact low_words.2.2.2.2
      · exact low_cons (by omega) low_nil
theorem text_low2 {p : Rs.Shop} (ok : Ok p) : Low (textN p) := by
  unfold textN
  refine join_low (by decide) fun u hu => ?_
  obtain ⟨ws, h, rfl⟩ := List.mem_map.1 hu
  exact join_low (by decide) (line_low ok ws h)
theorem tx_eq {p : Rs.Shop} (ok : Ok p) : txU p = (textN p).length % 256 :: (textN p).length / 256 :: textN p := by
  have hl := text_len ok
  have h1 := text_tn ok
  have h2 := text_low2 ok
  have hn : (Rs.shopUnits p).length = (textN p).length := by rw [← h1, List.length_map]
  unfold txU Rs.putUnits Rs.putList16 Rs.putU16
  rw [hn, Nat.mod_eq_of_lt (show (textN p).length / 256 < 256 by omega)]
  show _ :: _ :: (Rs.shopUnits p).flatMap (fun c => [c.toNat % 256]) = _
  congr 2
  rw [← h1] at h2 ⊢
  generalize Rs.shopUnits p = l at h2
  induction l with
  | nil => rfl
  | cons c l ih =>
    rw [List.flatMap_cons, ih h2.tail]
    show c.toNat % 256 :: tn l = c.toNat :: tn l
    rw [Nat.mod_eq_of_lt (h2 c.toNat (List.mem_cons_self ..))]
section
variable {P : Program} {w : World} {K : PySem.W.Frag} {mg : Str → Option Value} {base : Heap}
theorem k_aoh (z : Z K mg) : Kp P w K mg base CX0 7 (He.ga K "answer_of_shop") ["number", "shop"] (spAoh K txU) := by
  have nd := sc_answer_of_shop.nd
  obtain ⟨t1, h1⟩ := c_FORMAT z
  obtain ⟨t6, h6⟩ := c_LEAST z
  refine kp0 (f_answer_of_shop z) sc_answer_of_shop (fun vs H Q E h => ?_) fun cdv A outer s H vs Q E hr h => ⟨_,
    (pss_cons (ps_if (pt_cmpR op_eq (pv 0) (pe_glob (v := .int 1) (by rfl) h1 ⟨_, rfl⟩) (nomark _)) (pss_one (ps_ret ((Kp.call ((k_wtext z)) (Room.mono (hr) (by decide)) (by rfl) ((g_write_text z)) pass0 ((pa_cons ((Kp.call ((k_text z)) (Room.mono (hr) (by decide)) (by rfl) ((g_canonical_text z)) pass0 ((pa_cons (pv 1) pa_nil)))) pa_nil)))))) pss_nil) (pss_cons (ps_if (pt_cmpR op_eq (pv 0) (pe_glob (v := .int 6) (by rfl) h6 ⟨_, rfl⟩) (nomark _)) (pss_one (ps_ret ((Kp.call ((k_rows z)) (Room.mono (hr) (by decide)) (by rfl) ((g_write_rows z)) pass0 ((pa_cons ((Kp.call ((k_least z)) (Room.mono (hr) (by decide)) (by rfl) ((g_least_stocks z)) pass0 ((pa_cons (pv 1) (pa_cons ((Kp.call ((k_dooms z)) (Room.mono (hr) (by decide)) (by rfl) ((g_dooms z)) pass0 ((pa_cons (pv 1) pa_nil)))) pa_nil))))) pa_nil)))))) pss_nil) (pss_one (ps_ret (pe_op op_cat ((Kp.call ((k_mu8 z)) (Room.mono (hr) (by decide)) (by rfl) ((g_write_maybe_u8 z)) pass0 ((pa_cons ((Kp.call ((k_fewest_put z)) (Room.mono (hr) (by decide)) (by rfl) ((g_fewest_put z)) pass0 ((pa_cons (pv 1) pa_nil)))) pa_nil)))) ((Kp.call ((k_mu8 z)) (Room.mono (hr) (by decide)) (by rfl) ((g_write_maybe_u8 z)) pass0 ((pa_cons ((Kp.call ((k_fewest_onto z)) (Room.mono (hr) (by decide)) (by rfl) ((g_fewest_onto z)) pass0 ((pa_cons (pv 1) pa_nil)))) pa_nil))))))))), ?_⟩
  · obtain ⟨_, _, _, rfl, _⟩ := h; rfl
  · obtain ⟨n, sa, p, rfl, hp, q⟩ := h
    have ok := hp.1
    unfold aohOf at q
    simp only [ tNil, tCons, tC, tDrop, tOp, rI0, tCB, rEq, rNe, tNext, tRet, tRetN, tSeq, tAsg, tAug, tTest, tIfS, tIf, tNot, tAnd, tOr, tBM, tBM0, tCall, tTup, tTupZ, tLst, tFld, sFld, tMeth, tMake, tB, tYes, tCmp, t2I, tIsN, tNotN, tDGet, tDGet1, tDGet2, tDIn, tDNotIn, tAndV, tOrV, tNotV, tDNewT, sDPut, tSl, tPart, tNoPart, rSlL, tThen, tCntZ, tFgt, tChain, gCons, gNil, gTup, rCatZ, rCatA, rCat, rAppend, rExtend, rIn, rInD, rNotInD, rEqD, rNeD, rIxL, rIxT, tSub, tAdd, tBreak, tCont, tPar, rSum, rSumT, rMaxT, tyV, L2.start, List.map_cons, List.map_nil, List.length_cons, List.length_nil, List.cons_append, List.nil_append, List.append_nil, List.replicate, Nat.reduceAdd, Nat.reduceSub, wipe, List.set_cons_zero, List.set_cons_succ, nox_K, cxOf_K, blk_K, suite_K, tVar_0, tVar_1, tVar_2, tVar_3, tVar_4, tVar_5, tVar_6, tVar_7, tVar_8, tVar_9, tVar_10, tVar_11, tVar_12, tVar_13, tVar_14, tVar_15, gName_0, gName_1, gName_2, gName_3, gName_4, gName_5, gName_6, gName_7, gName_8, gName_9, gName_10, gName_11, gName_12, gName_13, gName_14, gName_15, and_assoc, exists_eq_left', exists_eq_left, exists_eq, exists_eq', exists_and_left, exists_const, and_true, true_and, V.int.injEq, V.ref.injEq, V.bl.injEq, V.str.injEq, List.cons.injEq, and_self, scal, Bool.false_eq_true, if_false, if_true, reduceCtorEq, false_and, and_false, false_or, or_false, ↓reduceIte]
    refine eq_int (m := 1) (fun g => ?_) (fun g => ?_)
    · rw [if_pos g, tx_eq ok] at q
      have := text_len ok
      exact ⟨p, hp, fun r H1 e1 fr hr1 => ⟨r, textN p, rfl, hr1, by omega, q.mono e1⟩⟩
    rw [if_neg g] at q
    refine eq_int (m := 6) (fun g => ?_) (fun g => ?_)
    · rw [if_pos g] at q
      have hl : (Rs.leastOf p).length ≤ 125 := Nat.le_trans (List.length_filter_le ..) (Nat.le_trans (RsP.safe_length p) (by have := bound_le ok; exact this))
      refine ⟨sa, p, rfl, hp, fun d H1 e1 hd => ⟨sa, d, p, rfl, mShop _ _ _ _ e1 hp, hd, fun r H2 e2 hr2 => ⟨r, Rs.leastOf p, rfl, hr2, by omega, fun s hs => ?_, q.mono (e1.trans e2)⟩⟩⟩
      have := (RsP.mem_least.1 hs).1.1
      have := ok.rooms.1
      have := ok.n3
      omega
    rw [if_neg g] at q
    have m8 : ∀ x : Option Nat, (maybeU8 x).length ≤ 2 := fun x => by
      cases x with
      | none => show 1 ≤ 2; decide
      | some n => show 2 ≤ 2; decide
    refine ⟨sa, p, rfl, hp, fun H1 e1 => ⟨_, rfl, fun r1 H2 e2 fr1 hr1 => ⟨sa, p, rfl, mShop _ _ _ _ (e1.trans e2) hp, fun H3 e3 => ⟨_, rfl, fun r2 H4 e4 fr2 hr2 => ?_⟩⟩⟩⟩
    have a1 := m8 (Rs.fewestItems p)
    have a2 := m8 (Rs.fewestOnto p)
    refine ⟨r1, rfl, r2, rfl, _, L.ex hr1 (e3.trans e4), _, hr2.lst, by rw [nv_len, nv_len, sizeLine_eq]; omega, fun y hy => ?_⟩
    have e14 := e1.trans (e2.trans (e3.trans e4))
    refine q y _ (e14.trans (Ex.new hy)) (fresh_back e14 hy) ?_
    show upd _ _ _ y = _
    rw [upd_same, nv_app]
/-- the def that is asked of keeps its promise -/
theorem k_all (z : Z K mg) {fd : FuncData} (F : FunD K "answers" "answers" (defArgs s_answers) (defBody s_answers) (defScope s_answers) [] [] (He.ga K "answers") fd) : FnOk P w K mg base CX0 10 (He.ga K "answers") fd ["calls"] (spAnswers K shN txU) := k_answers z shN_res (Nat.le_refl 7) (k_aoh z) F
end
end Fs
set_option Elab.async false
set_option linter.all false
set_option maxRecDepth 100000
set_option maxHeartbeats 4000000
namespace Fs
open PySem PySem.Spec PyProof.Rows L2 FsX
open Evl (Ex Ex.refl Ex.trans Ex.new Ex.mut fresh_back)
open PySem.W (OpenSpec Codec WData)
theorem said : RR.wellSaid = true := by decide +kernel
/-- the promise at a list that may be handed in -/
theorem at_list {K : PySem.W.Frag} {H : Hp} {xs : List V} {l : List Int} (hask : PyZz33.answers_asked l = true) (h : DwAll K H xs [WData.list (l.map WData.int)]) :
    spAnswers K shN txU xs H (fun v H' => Dw K H' v (WData.list ((PyZz33.answers l).map WData.int))) fun _ _ _ => False := by
  cases h with
  | cons h1 h2 =>
    cases h2
    cases h1 with
    | lst hs ha =>
      obtain ⟨cs, rfl, hlow, hlen, hans, hout, hos⟩ := asked_session hask
      have e := ints_dw _ _ ha
      subst e
      refine ⟨_, cs, rfl, by rw [nv_ints]; exact hs, fun c hc => by have := hlen c hc; omega, hout, fun o ho => by have := hos o ho; omega, fun r H' e hr => ?_⟩
      rw [hans]
      refine Dw.lst (xs := (zi (outN (playN shN txU Rs.World.start cs))).map V.int) ?_ (dw_ints _)
      rw [← nv_ints]
      exact hr.sq
theorem end_call : PySem.W.WalkOS qv loN (PySem.W.XL qv []) hkX.says RR (HandSHeadRun.topDef RR.prog 98) [] (fun f vs => PySem.call f vs) := by
  intro w s₀ s₁ mg mb G Y fa o pm cd doc dV kV ho hd hcd hD hmg hg args vals as hpre hlay hrd hwl hlo
  obtain ⟨a, e1, e2⟩ := PySem.W.os_pre_some hpre
  obtain ⟨e3, hwi⟩ := Codec.encAll_of_decAll RR.args args a e1
  subst e3
  obtain ⟨K, KX, c, cx⟩ := Y
  have z : Z K mg := ⟨⟨s₁.heap, KX, G.T.g⟩, c, cx⟩
  obtain ⟨fd, F⟩ := c.def_ 73 (d := d_answers) rfl
  have hb := FunD.bindsA (ps := ["calls"]) F fun _ _ _ _ _ _ us hl => match us, hl with | [_], _ => rfl
  have hmg' : mg ("answers" : Str) = some (.ref fa) := by
    have e : (HandSHeadRun.topDef RR.prog 98).name = ("answers" : Str) := by kernel_rfl
    rw [← e]
    exact hmg
  have efa : fa = He.ga K "answers" := by
    have e := hmg'.symm.trans (g_answers z)
    cases e
    rfl
  subst efa
  refine PySem.W.enter_call (codeAny_mono (spec_call (k := 10) (CX := CX0) (ps := ["calls"]) (sp := spAnswers K shN txU) (R := []) (cl := classAt s₀.heap) (d0 := RR.ret.enc (Codec.app RR.args RR.f a)) KX G.T.g G.T.b G.T.builtins G.T.nolimit hg hwl (pl_encAll _ _) (layable_weight hlay) ⟨rfl, by decide, by decide⟩ (fun base _ _ => k_all z F) hb (by rw [encAll_len]; rfl)
    (fun H xs hO hS => at_list (l := a.1) e2 hS) fun H e s' x => x) fun r' s' hq => ?_)
  obtain ⟨u, as', rfl, h1, h2, h3, h4⟩ := hq
  exact ⟨.inl ⟨u, _, as', rfl, fun _ => rfl, h1, (OpenSpec.post_iff said hwi _ _).mpr rfl, fun z => Bool.noConfusion (show false = true from z)⟩, h2, h3, h4⟩
end Fs
open PySem PySem.W PySem.Calls PyProof.Rows
theorem PySem.Challenge.cw_fullshelves_s01_answers_holds : PySem.Challenge.rw_fullshelves_s01_answers.Holds := by
  w_on
  refine HandSHeadRun.head_spec (r := Fs.RR) (q := Fs.qv) (H := Fs.hkX) (ob := Fs.obX) (M := 8000) (loose := Fs.loN) (d := HandSHeadRun.topDef Fs.RR.prog 98) (kwd := []) Fs.obX_eq (by kernel_rfl) (fun s => by kernel_rfl) Fs.run1 (by kernel_rfl) (by kernel_rfl) (by kernel_rfl) os_shapes Fs.said (by decide +kernel) ⟨rfl, rfl, rfl, rfl, rfl, by decide +kernel⟩ ⟨[.list [.int 0, .int 0]], by decide +kernel, by decide +kernel⟩ Fs.end_call
#print axioms PySem.Challenge.cw_fullshelves_s01_answers_holds

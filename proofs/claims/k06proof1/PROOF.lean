import PyProof.Rows.All
import Wide.All
import OpenK.AllK
import Wide.FinOn
import KE.KExcInit
import KE.KExcIs
import KE.KExcPX
import KE.KExcSuper
import HandS.ForMost
import HandS.ExcOwn
import HandS.ExcValue
import HandS.ExcInit
import HandS.IsInst
import KE.KSuper
import HandS.HeadEnd
import HandS.Defaults
import PyProof.ReprRoads
import HandS.Wide
import HandS.Evl
import HandS.Conv
import HandS.Codes
import HandS.ClsMeth
import HandS.OwnEq
import HandS.MakeKwOnly
import HandS.Star
import HandS.ForDict
import HandS.ForList
import HandS.DictComp
import PySem.Challenge.RW_neargrades_k06_all_maps
import HandS.CallLocal
import HandS.TupMul
import HandS.TupAny
import HandS.Style
import HandS.Small
import PyProof.DictUpdate
import KE.KDictList
import HandS.More
import KE.KDictZip
import HandS.Zip0
import KE.GoesEnumKw
import HandS.Head0
import HandS.Head1
import HandS.Head2
import HandS.HeadHook1
import HandS.HeadHook2
import HandS.HeadNt
set_option Elab.async false
set_option linter.all false
set_option maxRecDepth 100000
set_option maxHeartbeats 4000000
/-! J1: own exception objects as values: made by an own __init__ or without one, their fields, isinstance. -/
namespace J
open PySem PySem.Spec PyProof.Rows L2

/-- a built-in base with all that is known of it -/
structure Bs (B nw ini : String) (bm : List Value) : Prop where
  fb : ExcBaseFacts B nw ini bm
  st : StoreFacts B bm "object.__setattr__" "object"
  su : PySem.W.KxsFacts B ini
abbrev mroV : List Value := [.type "ValueError", .type "Exception", .type "BaseException", .type "object"]
abbrev mroL : List Value := [.type "LookupError", .type "Exception", .type "BaseException", .type "object"]
theorem bsV : Bs "ValueError" "ValueError.__new__" "ValueError.__init__" mroV := ⟨F.excBase_ValueError, F.store_ValueError, PySem.W.kxs_ValueError⟩
theorem bsL : Bs "LookupError" "LookupError.__new__" "LookupError.__init__" mroL := ⟨F.excBase_LookupError, F.store_LookupError, PySem.W.kxs_LookupError⟩
/-- what the written part says of an own exception class at C -/
structure XC (K : PySem.W.Frag) (B nw ini : String) (bm : List Value) (C : Addr) : Prop where
  bs : Bs B nw ini bm
  ini : PySem.W.excInitIn K C bm nw = true
  ovr : PySem.W.excOver K C bm = true
  hd : PySem.W.hasDictIn K C = true
  sa : PySem.W.findIn K (.ref C) "__setattr__" = some (some (.builtin "object.__setattr__"))
  ga : PySem.W.findIn K (.ref C) "__getattribute__" = some (some (.builtin "BaseException.__getattribute__"))
  gt : PySem.W.findIn K (.ref C) "__getattr__" = some none
  sb : PySem.W.subIn K (.ref C) (.type "BaseException") = some true
  ca : PySem.W.findIn K (.ref C) "__class__" = some (some (.builtin "object.__class__"))
  dn : PySem.W.specialIn K (.builtin "object.__class__") "__get__" = some (some (.builtin "getset_descriptor.__get__"))
  tk : PySem.W.takesIn K (.builtin "object.__class__") = some true
  mo : PySem.W.mroIn K C (.type "object") = some true
  ty : PySem.W.typeIn K (.ref C) = some (.type "type")
  kp : PySem.W.keepIn K (.ref C) = true

/-- an exception object of the class at C with the fields fs (none as yet: no dict) -/
def XAt (H : Hp) (a C : Addr) (fs : List (Str × V)) : Prop :=
  (fs = [] ∧ H a = some (exo a C none)) ∨ ∃ dx, H a = some (exo a C (some dx)) ∧ H dx = some (exd dx fs)
theorem XAt.ext {H H' : Hp} {a C : Addr} {fs : List (Str × V)} (h : XAt H a C fs) (k : ∀ b o, H b = some o → H' b = some o) : XAt H' a C fs := by
  rcases h with ⟨e, h⟩ | ⟨dx, h1, h2⟩
  · exact .inl ⟨e, k _ _ h⟩
  · exact .inr ⟨dx, k _ _ h1, k _ _ h2⟩
theorem XAt.inst {P : Program} {w : World} {H : Hp} {h : Heap} {a C : Addr} {fs : List (Str × V)} (x : XAt H a C fs) (ok : HOk P w H h) :
    ∃ ox od, PySem.W.InstAt h a ox C od ∧ (fs = [] ∧ od = none ∨ ∃ (o : Obj) (mA : Str → Option Value), od = some o ∧ (∀ y, PySem.W.lookIn y o = some (mA y)) ∧ ∀ f, RelO (fs.lookup f) (mA f)) := by
  rcases x with ⟨e, h1⟩ | ⟨dx, h1, h2⟩
  · obtain ⟨t1, ho⟩ := exo_at ok h1
    exact ⟨_, none, ⟨ho, rfl, rfl, trivial⟩, .inl ⟨e, rfl⟩⟩
  · obtain ⟨t1, ho⟩ := exo_at ok h1
    obtain ⟨mA, hns, rel⟩ := exd_at ok h2
    obtain ⟨od, hod, hl⟩ := lookIn_ns hns
    exact ⟨_, some od, ⟨ho, rfl, rfl, hod⟩, .inr ⟨od, mA, rfl, hl, rel⟩⟩

section
variable {X : Cx} {B nw ini : String} {bm : List Value}
/-- isinstance(e, c), e such an object -/
def rIsX (K : PySem.W.Frag) : List V → Hp → VK → Prop := fun xs H Q => ∃ (a C : Addr) (fs : List (Str × V)) (c : V) (cv : Value) (b : Bool) (B nw ini : String) (bm : List Value),
  xs = [.ref a, c] ∧ XC K B nw ini bm C ∧ XAt H a C fs ∧ ClsV c cv ∧ PySem.W.kitOne K (.ref C) cv = some b ∧ Q (.bl b) H
theorem call_isX : CallR X (.builtin "isinstance") (rIsX X.K) := by
  intro pins s σ H xs us Q I r h
  obtain ⟨a, C, fs, c, cv, b, B, nw, ini, bm, rfl, T, x, k, e, q⟩ := h
  obtain ⟨u1, u2, rfl, r1, r2⟩ := vals2 r
  have e2 := k.eq r2
  subst e2
  obtain rfl : u1 = Value.ref a := r1
  obtain ⟨ox, od, J, _⟩ := x.inst I.hok
  have hcl : (PySem.W.clsIn X.K C).isSome = true := by
    have h := T.hd
    unfold PySem.W.hasDictIn at h
    cases hc : PySem.W.clsIn X.K C with
    | none => rw [hc] at h; cases h
    | some cd => rfl
  exact PySem.W.kia_one (PySem.W.kitx_exc hcl T.ga T.gt T.sb T.ca T.dn T.tk T.mo) I.kIn J e (fun z => nomatch z) fun tk => ⟨.bl b, H, I.tok tk, rfl, q⟩
/-- e.f, e such an object -/
def tXFld (K : PySem.W.Frag) (te : TE) (f : Str) : TE := fun σ H Q => te σ H fun x H1 => ∃ (a C : Addr) (fs : List (Str × V)) (v : V) (B nw ini : String) (bm : List Value),
  x = .ref a ∧ XC K B nw ini bm C ∧ XAt H1 a C fs ∧ PySem.W.findIn K (.ref C) f = some none ∧ fs.lookup f = some v ∧ Q v H1
theorem pe_xfld {e : Expr} {te : TE} {pos : Pos} {f : Str} (he : PE X e te) (hb : attributeBase e f X.env (eval e X.env) = eval e X.env := by rfl) : PE X (.Attribute e f pos) (tXFld X.K te f) := by
  refine ⟨fun pins s σ H Q I h => ?_⟩
  refine attr_of hb (thn (he.run pins s σ H _ I h) fun u s1 hh => ?_)
  obtain ⟨x, H1, I1, rx, a, C, fs, v, B, nw, ini, bm, rfl, T, xa, hno, l, q⟩ := hh
  obtain rfl : u = Value.ref a := rx
  obtain ⟨ox, od, Ji, hc⟩ := xa.inst I1.hok
  rcases hc with ⟨e0, _⟩ | ⟨o, mA, rfl, hl, rel⟩
  · rw [e0] at l
    cases l
  · obtain ⟨u, hu, ru⟩ := RelO.some_of (v := v) (o := mA f) (by rw [← l]; exact rel f)
    have fo := PySem.W.findObj_own T.hd hno rfl (by rw [hl, hu])
    exact HandSPX.exc_get I1.kIn Ji T.ga T.gt T.sb fo (handed_of ru) ⟨v, H1, I1.tok _, ru, q⟩

/-- C(), the class without an own __init__ -/
def tX0 (C : Addr) : TE := fun σ H Q => ∀ a, H a = none → Q (.ref a) (upd H a (exo a C none))
theorem pe_x0 {C : Addr} {x : Str} {p pos : Pos} (T : XC X.K B nw ini bm C) (xc : PySem.W.excIn X.K C bm nw = true) (gC : X.mg x = some (.ref C)) (hg : Gl X x) (hdb : (x == ("__debug__" : Str)) = false := by decide) :
    PE X (.Call (.Name x p) [] [] pos) (tX0 C) := by
  refine ⟨fun pins s σ H Q I h => ?_⟩
  refine wpAny_Call_Name_kw (ld_glob I hg gC ?_ hdb)
  refine PySem.W.callWith_K0 I.kIn T.kp ?_
  obtain ⟨bm', N, nm, qn, bs, hdct, sn, sub, ab, col, dd, k0, k1, k2, k3, k5, mN, hC, hN, hni, Tl⟩ := exc_obj I.kIn xc
  refine wpAny_call_exc_subT T.bs.fb Tl hC hN hni (fun h' a hm => ?_) (by show 0 ≤ sizeLine; exact Nat.zero_le _)
  have hn : H a = none := I.hok.gone hm.new
  obtain ⟨t, ht, _, _⟩ := hm.there
  exact ⟨.ref a, upd H a (exo a C none), I.laidN hm.keeps hm.new hn (exo_ok ht), rfl, h a hn⟩

/-- C(e, ..), by the own __init__ that keeps sp -/
def tXMk (C : Addr) (sp : Sp) (dvs : List V) (E : XK) (ta : TA) : TE := fun σ H Q => ta σ H fun vs H1 => vs.length ≤ 1000 ∧ ∀ a, H1 a = none →
  sp (.ref a :: (vs ++ dvs)) (upd H1 a (exo a C none)) (fun v H2 => v = .non ∧ Q (.ref a) H2) E
variable {CX : CXT} {k : Nat} {fI C : Addr} {fd : FuncData} {ps : List Str} {sp : Sp} {ds : List Value} {dvs : List V} {E : XK} {x : Str} {p pos : Pos} {e : Expr} {es : List Expr} {ta : TA}
theorem pe_xmk (T : XC X.K B nw ini bm C) (iC : PySem.W.findIn X.K (.ref C) "__init__" = some (some (.ref fI))) (tI : PySem.W.typeIn X.K (.ref fI) = some (.type "function"))
    (G : FnOk X.prog X.w X.K X.mg X.base CX k fI fd ps sp) (hr : Room (k + 1) X.A) (hb : Binds X.K fd ps ds) (hd : Vals dvs ds) (hx : Passes CX X E) (hg : Gl X x) (hm : X.mg x = some (.ref C)) (ha : PA X (e :: es) ta)
    (hdb : (x == ("__debug__" : Str)) = false := by decide) (he : starEach (e :: es) X.env = (false, eval e X.env) :: starEach es X.env := by rfl) (hpl : (backTo pos (starEach es X.env)).any (·.1) = false := by rfl) :
    PE X (.Call (.Name x p) (e :: es) [] pos) (tXMk C sp dvs E ta) := by
  refine ⟨fun pins s σ H Q I h => ?_⟩
  refine wpAny_Call_Name_kw (ld_glob I hg hm ?_ hdb)
  refine PySem.W.callWith_K (h₀ := X.base) I.ok.mod.kin T.kp (thn (ha.run pos pins s σ H _ I h) fun us s1 ⟨vs, H1, I1, r1, hz, q1⟩ => ⟨I1.kIn, ?_⟩) he hpl
  show wpAny _ _ (call (.ref C) us) _ _ _
  obtain ⟨nm, N, qn, bs, bmr, hdct, sn, sub, ab, col, dd, k0, k1, k2, k3, k5, hC, hT⟩ := PySem.W.excInit_of I1.kIn T.ini
  obtain ⟨hp, g, dr, tk, os⟩ := s1
  have up1 : hp.objs.size ≤ hp.objs.size + 1 := Nat.le_succ _
  have fresh := I1.hok.fresh up1
  have asks := q1 (hp.objs.size + 1) fresh
  have stays : ∀ b o, hp.get? b = some o → ((hp.push (PySem.W.kdv_tup us)).push (PySem.HandSPX.excO C hp.objs.size)).get? b = some o :=
    fun b o w => Heap.get?_push_of_some _ (Heap.get?_push_of_some _ w)
  have there : ((hp.push (PySem.W.kdv_tup us)).push (PySem.HandSPX.excO C hp.objs.size)).get? (hp.objs.size + 1) = some (PySem.HandSPX.excO C hp.objs.size) := by heap_get
  have I2 : Inv X pins σ (upd H1 (hp.objs.size + 1) (exo (hp.objs.size + 1) C none)) ⟨(hp.push (PySem.W.kdv_tup us)).push (PySem.HandSPX.excO C hp.objs.size), g, dr, tk, os⟩ :=
    I1.laid (t' := tk) (h' := (hp.push (PySem.W.kdv_tup us)).push (PySem.HandSPX.excO C hp.objs.size)) stays up1 (exo_ok there)
  have rel : Vals (V.ref (hp.objs.size + 1) :: (vs ++ dvs)) (Value.ref (hp.objs.size + 1) :: (us ++ ds)) := .cons rfl (r1.append hd)
  have many : (Value.ref (hp.objs.size + 1) :: us ++ ds).length = ps.length := by
    have w := rel.length
    rw [G.len _ _ _ _ asks] at w
    exact w.symm
  have short : us.length ≤ sizeLine := by
    rw [← Paired.length r1, sizeLine_eq]
    omega
  have bound := hb _ (Value.ref (hp.objs.size + 1) :: us) I2.kIn many
  have ran := G.run _ X.stack _ _ ⟨Value.ref (hp.objs.size + 1) :: us, []⟩ (Value.ref (hp.objs.size + 1) :: (us ++ ds)) _ _ E (hr.make C us []) (I2.env0.make C us []) bound rel asks
  refine wpAny_call (PySem.HandSPX.call_own T.bs.fb hT hC (PySem.W.looks_findIn I1.kIn iC) (fun self => PySem.W.bind_fn I1.kIn self tI) short (codeAny_mono ran fun r s' hq' => ?_))
  cases r with
  | error er => exact hx pins σ _ _ er s' I2 hq'
  | ok fl =>
    cases fl with
    | ret u =>
      obtain ⟨v, H2, os2, bare2, un2, hok2, rv, ev, q2⟩ := hq'
      subst ev
      exact ⟨rv, .ref (hp.objs.size + 1), H2, I2.call' (ch := []) os2 un2 hok2 bare2 (fun b z => absurd z (by simp)), rfl, q2⟩
    | next => exact False.elim hq'
    | brk => exact False.elim hq'
    | cont => exact False.elim hq'
end
end J

set_option Elab.async false
set_option linter.all false
set_option maxRecDepth 100000
set_option maxHeartbeats 4000000
/-! J2: a field of such an object is stored. -/
namespace J
open PySem PySem.Spec PyProof.Rows L2
section
open Builtin Builtin.ObjectAttr
variable {prog : Program} {w : World} {A : Around} {R : Result → Shared → Prop} {hp : Heap} {g : Array GenState} {d : Drawn} {t : Nat} {os : OsState} {B nw ini : String} {bm : List Value} {K : PySem.W.Frag}
theorem cls_of {C : Addr} (h : PySem.W.hasDictIn K C = true) : ∃ cd, PySem.W.clsIn K C = some cd ∧ cd.hasDict = true := PySem.W.any_some h
/-- the object has no dict as yet -/
theorem put0 {f : Str} {tk : Tok} {v : Value} {x C : Addr} {fv : Array Value} (T : XC K B nw ini bm C) (Kx : K.In hp) (ox : hp.get? x = some { cls := .ref C, data := .fields fv }) (no : PySem.W.findIn K (.ref C) f = some none)
    (k : ∀ h1 t1 dx, (∀ b o, b ≠ x → hp.get? b = some o → h1.get? b = some o) → hp.objs.size ≤ dx → dx ≠ x → h1.get? x = some { cls := .ref C, dict := some dx, data := .fields fv } →
      h1.Ns1 dx (fun y => if y = f then some v else none) → R (.ok (.ret .none)) ⟨h1, g, d, t1, os⟩) :
    codeAny (model prog w) A (.call (.builtin "object.__setattr__") ⟨[.ref x, .str f tk, v], []⟩) R ⟨hp, g, d, t, os⟩ := by
  obtain ⟨cd, ec, dd⟩ := cls_of T.hd
  have far : x ≠ hp.objs.size := Nat.ne_of_lt (Heap.lt_size ox)
  have look : PySem.W.Looks (model prog w) hp (classData C) cd := PySem.W.looks_clsIn Kx ec
  refine PySem.W.osa_openX (s := ⟨hp, g, d, t, os⟩) (od := none) (r := none) T.bs.st Kx ⟨ox, rfl, rfl, trivial⟩ T.ovr (by unfold PySem.W.takerIn; rw [no]; rfl) fun b => ?_
  obtain ⟨c1, c2, c3, c4, c5, c6, c7, c8, c9, c10, c11⟩ := cd
  dsimp only at dd
  subst dd
  dsimp only
  unfold storeInOwnDict ownDictForStores
  repeat (first | with_reducible refine PySem.HandSPX.store_in_new ?_ ?_ | with_reducible refine wpAny_loadPart_at ox ?_ | with_reducible refine look.at ?_ | wp_step)
  · exact ⟨_, #[], _, (Heap.get?_update_ne _ _ _ _ far.symm).trans (Heap.get?_push_at rfl rfl), rfl, fun e he => absurd he (by simp), fun _ => rfl⟩
  · intro h1 t1 n1 sb
    have ox1 : (hp.push { cls := .type "dict", data := .dict #[] }).get? x = some { cls := .ref C, data := .fields fv } := Heap.get?_push_of_some _ ox
    refine k h1 t1 hp.objs.size (fun b o hb ho => ?_) (Nat.le_refl _) far.symm ?_ n1
    · exact (sb.2 b (Nat.ne_of_lt (Heap.lt_size ho))).trans ((Heap.get?_update_ne _ _ _ _ hb).trans (Heap.get?_push_of_some _ ho))
    · exact (sb.2 x far).trans (Heap.get?_update_self _ ox1 rfl)
/-- it has one -/
theorem put1 {f : Str} {tk : Tok} {v : Value} {x C dx : Addr} {fv : Array Value} {m0 : Str → Option Value} {nl : List Str} (T : XC K B nw ini bm C) (Kx : K.In hp) (ox : hp.get? x = some { cls := .ref C, dict := some dx, data := .fields fv })
    (ns : hp.Ns1 dx m0) (hw : Within m0 nl) (hz : nl.length ≤ 1000) (no : PySem.W.findIn K (.ref C) f = some none)
    (k : ∀ h1 t1, (∀ b o, b ≠ dx → hp.get? b = some o → h1.get? b = some o) → h1.Ns1 dx (fun y => if y = f then some v else m0 y) → R (.ok (.ret .none)) ⟨h1, g, d, t1, os⟩) :
    codeAny (model prog w) A (.call (.builtin "object.__setattr__") ⟨[.ref x, .str f tk, v], []⟩) R ⟨hp, g, d, t, os⟩ := by
  obtain ⟨cd, ec, dd⟩ := cls_of T.hd
  obtain ⟨oD, _, _, hoD, _, _⟩ := ns.count hw
  have look : PySem.W.Looks (model prog w) hp (classData C) cd := PySem.W.looks_clsIn Kx ec
  refine PySem.W.osa_openX (s := ⟨hp, g, d, t, os⟩) (od := some oD) (r := none) T.bs.st Kx ⟨ox, rfl, rfl, hoD⟩ T.ovr (by unfold PySem.W.takerIn; rw [no]; rfl) fun b => ?_
  obtain ⟨c1, c2, c3, c4, c5, c6, c7, c8, c9, c10, c11⟩ := cd
  dsimp only at dd
  subst dd
  dsimp only
  unfold storeInOwnDict ownDictForStores
  repeat (first | with_reducible refine PySem.OEX.store_in_old ns hw hz ?_ | with_reducible refine wpAny_loadPart_at ox ?_ | with_reducible refine look.at ?_ | wp_step)
  intro h1 t1 n1 sb
  exact k h1 t1 (fun b o hb ho => (sb.2 b hb).trans ho) n1
end
section
variable {X : Cx} {pins : List (Addr × Obj)} {σ : L2.St} {H : Hp} {s : Shared} {a C dx : Addr} {f : Str} {y : V} {u : Value} {fs : List (Str × V)} {Q : Unit → Shared → Prop} {E : Value → Shared → Prop} {A : Around} {B nw ini : String} {bm : List Value}
theorem st0 (T : XC X.K B nw ini bm C) (I : Inv X pins σ H s) (e : H a = some (exo a C none)) (no : PySem.W.findIn X.K (.ref C) f = some none) (ry : RelV y u)
    (h : ∀ dx s', H dx = none → dx ≠ a → Inv X pins σ (upd (upd H dx (exd dx [(f, y)])) a (exo a C (some dx))) s' → Q () s') : wpAny (model X.prog X.w) A (setAttr (.ref a) f u) Q E s := by
  obtain ⟨t1, ho⟩ := exo_at I.hok e
  obtain ⟨hp, g, d, t, os⟩ := s
  refine PySem.W.set_plain I.kIn (ox := { cls := .ref C, dict := none, data := .fields #[.ref t1, .none, .none, .none, .bool false, .none] }) (od := none) ⟨ho, rfl, rfl, trivial⟩ T.sa ?_
  refine put0 T I.kIn ho no (fun h1 tk1 dx k dn dne hx hn => ?_)
  have hnd : H dx = none := I.hok.fresh dn
  have nd : ∀ {b : Addr} {o : Obj}, hp.get? b = some o → b ≠ dx := fun {b o} q => Nat.ne_of_lt (Nat.lt_of_lt_of_le (Heap.lt_size q) dn)
  have na : ∀ {b : Addr}, H b = none → b ≠ a := fun {b} n z => by
    rw [z, e] at n
    cases n
  have Un1 : Un X.fs [] H (upd (upd H dx (exd dx [(f, y)])) a (exo a C (some dx))) hp h1 :=
    { keep := fun b o q n _ _ => k b o (na n) q,
      slot := fun b o q n _ _ => ⟨o.slots, k b o (na n) q⟩,
      free := fun b o q n _ => (upd_ne (na n)).trans ((upd_ne (nd q)).trans n),
      there := fun b o q _ => by
        rcases Classical.em (b = a) with hb | hb
        · subst hb
          exact ⟨_, hx⟩
        · exact ⟨o, k b o hb q⟩,
      tups := fun b xs q => (upd_ne (at_ne e q exo_tup)).trans ((upd_ne (ne_of_none q hnd)).trans q),
      frzs := fun b o v q => (upd_ne (at_ne e q exo_frz)).trans ((upd_ne (ne_of_none q hnd)).trans q),
      tbls := fun b ps q => ⟨#[], by rw [upd_ne (at_ne e q exo_tbl), upd_ne (ne_of_none q hnd), q]; simp⟩ }
  refine h dx _ hnd dne (I.un (t' := tk1) Un1 fun b o q => ?_)
  by_cases hb : b = a
  · subst hb
    rw [upd_same] at q
    cases q
    exact exo_ok hx
  · rw [upd_ne hb] at q
    by_cases hd : b = dx
    · subst hd
      rw [upd_same] at q
      cases q
      exact exd_ok hn (relO_put (fs := []) ry fun g => True.intro)
    · rw [upd_ne hd] at q
      refine (I.hok b o q).stay (fun c v hc z => k c v ?_ z) (fun c hc => ?_) fun c xs hc => ?_
      · rcases hc with hc | hc
        · rw [hc]
          exact hb
        · exact at_ne e hc exo_own
      · exact (upd_ne (at_ne e hc exo_own)).trans ((upd_ne (ne_of_none hc hnd)).trans hc)
      · exact (upd_ne (at_ne e hc exo_tup)).trans ((upd_ne (ne_of_none hc hnd)).trans hc)
theorem st1 (T : XC X.K B nw ini bm C) (I : Inv X pins σ H s) (e : H a = some (exo a C (some dx))) (ed : H dx = some (exd dx fs)) (hl : fs.length ≤ 900) (no : PySem.W.findIn X.K (.ref C) f = some none) (ry : RelV y u)
    (h : ∀ s', Inv X pins σ (upd H dx (exd dx ((f, y) :: fs))) s' → Q () s') : wpAny (model X.prog X.w) A (setAttr (.ref a) f u) Q E s := by
  obtain ⟨t1, ho⟩ := exo_at I.hok e
  obtain ⟨mA, hns, rel⟩ := exd_at I.hok ed
  have hw := within_of rel
  obtain ⟨hp, g, d, t, os⟩ := s
  obtain ⟨oD, _, _, hoD, _, _⟩ := hns.count hw
  refine PySem.W.set_plain I.kIn (ox := { cls := .ref C, dict := some dx, data := .fields #[.ref t1, .none, .none, .none, .bool false, .none] }) (od := some oD) ⟨ho, rfl, rfl, hoD⟩ T.sa ?_
  refine put1 T I.kIn ho hns hw (by rw [List.length_map]; omega) no (fun h1 tk1 k hn => ?_)
  have hd : ∃ o, h1.get? dx = some o := by
    obtain ⟨o, _, _, e1, _⟩ := hn
    exact ⟨o, e1⟩
  exact h _ (I.write (t' := tk1) (x := dx) (e := dx) (o := exd dx ((f, y) :: fs)) (by rw [ed]; exact True.intro) (.inl rfl) k hd (exd_ok hn (relO_put ry rel)))
end
/-- o.f = e -/
def tXSet (K : PySem.W.Frag) (f : Str) (to te : TE) : TS := fun D σ H => te σ H fun y H1 => to σ H1 fun x H2 => ∃ (a C : Addr) (B nw ini : String) (bm : List Value), x = .ref a ∧ XC K B nw ini bm C ∧ PySem.W.findIn K (.ref C) f = some none ∧
  ((H2 a = some (exo a C none) ∧ ∀ dx, H2 dx = none → dx ≠ a → D.nx σ (upd (upd H2 dx (exd dx [(f, y)])) a (exo a C (some dx)))) ∨
    ∃ (dx : Addr) (fs : List (Str × V)), H2 a = some (exo a C (some dx)) ∧ H2 dx = some (exd dx fs) ∧ fs.length ≤ 900 ∧ D.nx σ (upd H2 dx (exd dx ((f, y) :: fs))))
theorem ps_xset {X : Cx} {o e : Expr} {to te : TE} {f : Str} {p pos : Pos} (ho : PE X o to) (he : PE X e te) (hs : swapsWith e (some (.Attribute o f p)) pos.line X.env = pure false := by rfl) :
    PS X (.Assign [.Attribute o f p] e pos) (tXSet X.K f to te) := by
  refine ⟨fun pins s σ H D I h => ?_⟩
  refine plainObj_wpAny_Assign_Attribute (thn (he.run pins s σ H _ I h) fun v s1 ⟨y, H1, I1, r1, q1⟩ => thn (ho.run pins s1 σ H1 _ I1 q1) fun u s2 hh => ?_) hs
  obtain ⟨x, H2, I2, r2, a, C, B, nw, ini, bm, rfl, T, no, q⟩ := hh
  obtain rfl : u = Value.ref a := r2
  rcases q with ⟨ea, q⟩ | ⟨dx, fs, ea, ed, hl, q⟩
  · exact st0 T I2 ea no r1 fun dx s' n ne J => ⟨σ, _, J, q dx n ne⟩
  · exact st1 T I2 ea ed hl no r1 fun s' J => ⟨σ, _, J, q⟩
end J

set_option Elab.async false
set_option linter.all false
set_option maxRecDepth 100000
set_option maxHeartbeats 4000000
/-! J3: an __init__ whose first row is super().__init__(a text); what follows by the layer. -/
namespace J
open PySem PySem.Spec PyProof.Rows L2

/-- the frame of such an __init__ -/
abbrev envS (qual : Str) (scope : Scope) (L f : Addr) (cd : Value) (cc : Addr) : Env := PySem.W.ksEnv qual scope L f cd cc
/-- its context -/
def cxS (CX : CXT) (P : Program) (w : World) (K : PySem.W.Frag) (mg : Str → Option Value) (base : Heap) (N : List Str) (qual : Str) (scope : Scope) (f : Addr) (cd : Value) (cc : Addr) (A : Around) (outer : List Env) (s : Shared) (H : Hp) (E : XK) : Cx where
  prog := P
  w := w
  K := K
  mg := mg
  base := base
  A := A.deeper (envS qual scope s.heap.objs.size f cd cc)
  N := N
  s_0 := s
  H_0 := H
  env := envS qual scope s.heap.objs.size f cd cc
  outer := outer
  stack := envS qual scope s.heap.objs.size f cd cc :: outer
  ex := []
  fn := fun _ => false
  calm := true
  pn := []
  xe := fun e z => wpAny (model P w) (A.deeper (envS qual scope s.heap.objs.size f cd cc)) (leaving (envS qual scope s.heap.objs.size f cd cc) e) (fun _ y => CX outer H s E e y) (fun e2 y => CX outer H s E e2 y) z
/-- what its scope must be: the parameters alone, super, __class__ -/
structure ScS (N : List Str) (sc : Scope) : Prop where
  kind : sc.kind = .function
  co : sc.isCoroutine = false
  gen : sc.isGenerator = false
  nd : N.Nodup
  par : ∀ x ∈ N, sc.names.lookup x = some .local
  nocell : ∀ y ∈ sc.names, y.2 ≠ .cell
  free : ∀ y ∈ sc.names, y.2 = .free → y.1 = ("__class__" : Str)
  sup : sc.names.lookup ("super" : Str) = some .globalImplicit
  cls : sc.names.lookup ("__class__" : Str) = some .free
  one : ∃ r : List Str, N = ("self" : Str) :: r
theorem zip_get {ps : List Str} {us : List Value} {i : Nat} {x : Str} {u : Value} (nd : ps.Nodup) (hl : ps.length = us.length) (h : ps[i]? = some x) (hu : us[i]? = some u) : (ps.zip us).reverse.lookup x = some u := by
  have keys : ((ps.zip us).map (·.1)).Nodup := by
    rw [List.map_fst_zip (Nat.le_of_eq hl)]
    exact nd
  have go : ∀ {ps : List Str} {us : List Value} {i : Nat}, ps.Nodup → ps[i]? = some x → us[i]? = some u → (ps.zip us).lookup x = some u := by
    intro ps
    induction ps with
    | nil =>
      intro us i _ h _
      simp at h
    | cons p ps ih =>
      intro us i nd h hu
      cases us with
      | nil => simp at hu
      | cons v us =>
        cases i with
        | zero =>
          simp at h hu
          subst h hu
          simp [List.lookup]
        | succ i =>
          have h1 : ps[i]? = some x := by simpa using h
          have ne : (x == p) = false := by
            have hm : x ∈ ps := (List.getElem?_eq_some_iff.mp h1).2 ▸ List.getElem_mem _
            have := (List.nodup_cons.mp nd).1
            simp only [beq_eq_false_iff_ne, ne_eq]
            intro z
            subst z
            exact this hm
          show (match x == p with | true => some v | false => (ps.zip us).lookup x) = some u
          rw [ne]
          exact ih (List.nodup_cons.mp nd).2 h1 (by simpa using hu)
  rw [lookup_reverse_of_nodup (ps.zip us) keys x]
  exact go nd h hu

section
variable {CX : CXT} {P : Program} {w : World} {K : PySem.W.Frag} {mg : Str → Option Value} {base : Heap} {N : List Str} {qual : Str} {scope : Scope} {f cc : Addr} {cd : Value} {A : Around} {outer : List Env} {s : Shared} {H : Hp} {E : XK} {us : List Value} {vs : List V}
theorem inv_s {h1 : Heap} {tk : Nat} {D : Addr} {cl : Value} {cld : Option Addr} {csl : Array (Option Value)} (S : ScS N scope) (hd : A.handled = none) (e0 : Env0 P w K mg base A outer s H) (hl : vs.length = N.length) (r : Vals vs us)
    (kc : K.lookup cc = some ⟨cl, cld, .cell (some (.ref D)), csl⟩) (ns : h1.Ns s.heap.objs.size fun x => (N.zip us).reverse.lookup x) (hk : ∀ b o, s.heap.get? b = some o → h1.get? b = some o) :
    Inv (cxS CX P w K mg base N qual scope f cd cc A outer s H E) [] (L2.start N vs) H { s with heap := h1, toks := tk } := by
  have nx : ∀ b : Addr, b ∉ (cxS CX P w K mg base N qual scope f cd cc A outer s H E).ex := fun b z => absurd (show b ∈ ([] : List Addr) from z) (by simp)
  have one : ∀ {y : Str} {c : Addr}, ([("__class__", cc)] : List (Str × Addr)).lookup y = some c → y = "__class__" ∧ c = cc := by
    intro y c z
    by_cases q : y = "__class__"
    · subst q
      exact ⟨rfl, (Option.some.inj z).symm⟩
    · have q2 : (y == ("__class__" : Str)) = false := by simpa using q
      simp [List.lookup, q2] at z
  have cellB : base.get? cc = some ⟨cl, cld, .cell (some (.ref D)), csl⟩ := e0.mod.kin _ _ kc
  have hst : L2.start N vs = vs.map some := by
    unfold L2.start
    rw [hl, Nat.sub_self]
    simp
  refine ⟨⟨e0.mod, S.kind, rfl, rfl, Nat.le_refl _, fun y z c h2 h3 => ?_, fun y hy => ?_, fun y c z => ?_, fun _ => hd, Around.frames_deeper e0.frames, .inr ⟨rfl, rfl⟩, fun b z => absurd z (nx b), e0.bs, e0.bsz, fun b _ _ => nx b, fun b z => absurd z (nx b), e0.funs, e0.frf⟩,
    rfl, e0.bare, Un.kept hk, ⟨_, ns, fun i y v h2 h3 h4 => ?_⟩, fun y c z => ?_, e0.hok.fresh (Nat.le_refl _), fun y c z => ?_, fun p hp => absurd (show p ∈ ([] : List (Addr × Obj)) from hp) (by simp), e0.hok.kept hk, ?_⟩
  · rw [(one h2).1, (one h3).1]
  · have hy2 : scope.names.lookup y = some .cell ∨ scope.names.lookup y = some .free := hy
    rcases hy2 with z | z
    · exact absurd rfl (S.nocell _ (PySem.mem_of_lookup z))
    · have e : y = "__class__" := S.free _ (PySem.mem_of_lookup z) rfl
      exact ⟨cc, by rw [e]; rfl⟩
  · cases z
  · rw [hst, List.getElem?_map] at h3
    cases e : vs[i]? with
    | none =>
      rw [e] at h3
      cases h3
    | some a =>
      rw [e] at h3
      cases h3
      obtain ⟨u, hu, rv⟩ := r.get e
      have hlen : N.length = us.length := by rw [← hl, r.length]
      exact ⟨u, rv, .inl ⟨S.par _ ((List.getElem?_eq_some_iff.mp h2).2 ▸ List.getElem_mem _), zip_get S.nd hlen h2 hu⟩⟩
  · rw [(one z).2]
    exact ⟨_, _, hk _ _ (e0.bs _ _ cellB).1, rfl⟩
  · rw [(one z).2]
    exact (e0.bs _ _ cellB).2
  · rw [hst, List.length_map]
    exact hl
/-- what the written part says of an __init__ with super() -/
structure SupF (P : Program) (K : PySem.W.Frag) (mg : Str → Option Value) (C : Addr) (B nw ini : String) (bm : List Value) (name qual : Str) (params : Arguments) (body : List Stmt) (scope : Scope) (f : Addr) (fd : FuncData) (N : List Str) : Prop where
  xc : XC K B nw ini bm C
  sc : ScS N scope
  ex : ∃ (oc : Value) (od : Option Addr) (dV kV doc pm : Value) (an : Option Addr) (cda : Addr) (ct : Value) (osl : Array (Option Value)) (cc : Addr) (cl : Value) (cld : Option Addr) (csl : Array (Option Value)) (ccl : Value) (cdd : Option Addr) (ccs : Array (Option Value)) (wv : Array Value) (file : Str) (tf : Tok),
    fd = PySem.W.ksFn name qual params body scope dV kV doc pm an (.ref cda) ct cc ∧ K.lookup f = some ⟨oc, od, .func fd, osl⟩ ∧ PySem.W.codeIn K (.ref cda) qual = true ∧ K.lookup cc = some ⟨cl, cld, .cell (some (.ref C)), csl⟩ ∧
    K.lookup cda = some ⟨ccl, cdd, .fields wv, ccs⟩ ∧ wv[2]? = some (.str file tf) ∧ ((P.main.file : Str) == file) = true
  hp : ∃ ar, (params.posonlyargs ++ params.args).head? = some ar ∧ ar.arg = "self"
  top : (P.main.scope.names.lookup ("super" : Str)).isSome = false
  sup : mg "super" = none
  opq : PySem.W.nsIn K cStatics "thirdparty.any" = some none
  met : PySem.W.ks_superIn K C C "__init__" = some (some (.builtin ini))
  isB : PySem.W.subIn K (.ref C) (.type B) = some true
  self : PySem.W.mroIn K C (.ref C) = some true
variable {B nw ini : String} {bm : List Value} {C : Addr} {name : Str} {params : Arguments} {scope : Scope} {fd : FuncData} {k : Nat} {sp : Sp} {rest : List Stmt} {msg : Str} {jm : Nat} {p0 p1 p2 p3 p4 p5 : Pos}
theorem fn_sup (F : SupF P K mg C B nw ini bm name qual params (.Expr (.Call (.Attribute (.Call (.Name "super" p0) [] [] p1) "__init__" p2) [.Constant (.str msg) jm p3] [] p4) p5 :: rest) scope f fd N)
    (len : ∀ vs H Q E, sp vs H Q E → vs.length = N.length) (hbind : Binds K fd N [])
    (hsw : ∀ (L : Addr) (cd : Value) (cc : Addr), swapsWith (.Call (.Attribute (.Call (.Name "super" p0) [] [] p1) "__init__" p2) [.Constant (.str msg) jm p3] [] p4) none p5.line (envS qual scope L f cd cc) = pure false)
    (hform : ∀ (L : Addr) (cd : Value) (cc : Addr), ∃ pl, eval (.Call (.Attribute (.Call (.Name "super" p0) [] [] p1) "__init__" p2) [.Constant (.str msg) jm p3] [] p4) (envS qual scope L f cd cc) = (do
      let ov ← attributeBase (.Call (.Name "super" p0) [] [] p1) "__init__" (envS qual scope L f cd cc) (eval (.Call (.Name "super" p0) [] [] p1) (envS qual scope L f cd cc))
      standAt p2.atName
      let (fx, first) ← holding [ov] (getMethod ov "__init__" pl)
      callWith p4 fx first (backTo p4 (starEach [.Constant (.str msg) jm p3] (envS qual scope L f cd cc))) []))
    (hbody : ∀ (cd : Value) (cc : Addr) (A : Around) (outer : List Env) (s : Shared) (H : Hp) (vs : List V) (Q : VK) (E : XK), Room k (A.deeper (envS qual scope s.heap.objs.size f cd cc)) → sp vs H Q E →
      (∃ a ws, vs = .ref a :: ws ∧ H a = some (exo a C none)) ∧ ∃ t, PSs (cxS CX P w K mg base N qual scope f cd cc A outer s H E) rest t ∧ t { nx := fun _ H' => Q .non H', rt := Q } (L2.start N vs) H) :
    FnOk P w K mg base CX (k + 1) f fd N sp := by
  obtain ⟨oc, od, dV, kV, doc, pm, an, cda, ct, osl, cc, cl, cld, csl, ccl, cdd, ccs, wv, file, tf, rfl, lk, hcd, kc, kd, hw, hfile⟩ := F.ex
  refine ⟨len, fun A outer s H args us vs Q E hr e0 hb r hsp => ?_⟩
  have hl := len _ _ _ _ hsp
  have KX : K.In s.heap := e0.mod.kin.keeps fun b o e => (e0.bs b o e).1
  have lim : s.heap.NoLimit := e0.mod.nolimit.keeps fun b o e => (e0.bs b o e).1
  have hus : N.length = us.length := by rw [← hl, r.length]
  obtain ⟨⟨a, ws, hva, ha⟩, t, ht, hq⟩ := hbody (.ref cda) cc A outer s H vs Q E (hr.deeper _) hsp
  refine PySem.ks_codeAny_call_defAt (fd := PySem.W.ksFn name qual params _ scope dV kV doc pm an (.ref cda) ct cc) (binds := N.zip us) hr.depth (KX _ _ lk) rfl lim (PySem.W.codeRec_of KX hcd) rfl hb F.sc.nocell (fun y hy => F.sc.par _ (List.of_mem_zip hy).1) (fun h1 ns hk => ?_) F.sc.co F.sc.gen F.sc.kind
  have I0 : Inv (cxS CX P w K mg base N qual scope f (.ref cda) cc A outer s H E) [] (L2.start N vs) H { s with heap := h1, toks := s.toks + (N.zip us).length } := inv_s F.sc hr.hd e0 hl r kc ns hk
  obtain ⟨t1, hx⟩ := exo_at I0.hok ha
  obtain ⟨cdC, ec, _⟩ := cls_of F.xc.hd
  have K1 : K.In h1 := I0.kIn
  obtain ⟨oC, oC1, oC2⟩ : ∃ o, h1.get? C = some o ∧ o.data = .cls cdC := by
    unfold PySem.W.clsIn at ec
    split at ec
    · rename_i q1 q2 q3 q4 ho
      cases ec
      exact ⟨_, K1 _ _ ho, rfl⟩
    · cases ec
  have hself : (N.zip us).reverse.lookup ("self" : Str) = some (.ref a) := by
    obtain ⟨rN, eN⟩ := F.sc.one
    subst eN hva
    cases r with
    | @cons _ u0 _ ur ra rw' =>
      obtain rfl : u0 = Value.ref a := ra
      exact zip_get (i := 0) F.sc.nd hus rfl rfl
  obtain ⟨ar, ar1, ar2⟩ := F.hp
  have hs1 : scope.names.lookup ("self" : Str) = some .local := F.sc.par _ (by obtain ⟨rN, eN⟩ := F.sc.one; rw [eN]; exact List.mem_cons_self ..)
  obtain ⟨pl, hpl⟩ := hform s.heap.objs.size (.ref cda) cc
  refine PySem.ks_wpAt_execs_cons (PySem.ks_wpAt_Expr_any (PySem.ks_wpAt_MethodCall (pl := pl) ?_ hpl) (by show (scope.kind == ScopeKind.module && _) = false; rw [F.sc.kind]; rfl) (hsw _ _ _))
  refine PySem.ks_wpAt_super_base (env := envS qual scope s.heap.objs.size f (.ref cda) cc) F.sc.sup F.sc.cls (by decide) rfl (K1 _ _ lk) rfl ar1 rfl (K1 _ _ kd) rfl hw hfile F.top ?_
  obtain ⟨mb, mb1, mb2⟩ := I0.mod.blt
  refine PySem.W.ks_loadName_global F.sc.kind F.sc.sup (Calls.loadGlobal_builtin (env := envS qual scope s.heap.objs.size f (.ref cda) cc) (I0.mod.glob.keeps I0.bk) F.sup (mb1.keeps I0.bk) ((mb2 _ (by decide)).trans PyProof.Rows.Boot.«super») ⟨rfl, ?_⟩)
  refine wpAny_loadName_free F.sc.kind F.sc.cls rfl ⟨_, K1 _ _ kc, rfl⟩ ?_
  rw [ar2]
  refine wpAny_loadName_local F.sc.kind hs1 ns hself ?_
  refine PySem.ks_wpAny_isType_cls oC1 oC2 ⟨rfl, ?_⟩
  refine PySem.ks_wpAny_call_super oC1 oC2 hx rfl (fun c z => nomatch z) (PySem.W.looks_mroIn K1 F.self) (fun h2 e2 k2 => ?_)
  have I1 := I0.kept (t' := s.toks + (N.zip us).length) k2
  have K2 : K.In h2 := I1.kIn
  have J : PySem.W.InstAt h2 a _ C none := ⟨k2 _ _ hx, rfl, rfl, trivial⟩
  have hmet := F.met
  unfold PySem.W.ks_superIn at hmet
  rw [ec] at hmet
  refine PySem.W.kxs_getMethod F.xc.bs.su e2 (PySem.W.looks_opaque K2 F.opq) (l₀ := cdC.mro) (fun A Q E s k q => wpAny_bind ((PySem.W.looks_clsIn K2 ec) A _ E s k (wpAny_pure q))) rfl K2 hmet (J.type.andThen (PySem.W.looks_subIn K2 F.isB)) (PySem.W.ks_ne K2 J ec) (by decide) ?_
  have k3 : ∀ b o, h2.get? b = some o → (h2.push (PySem.W.kxs_mw ini a)).get? b = some o := fun b o z => Heap.get?_push_of_some _ z
  have I2 := I1.kept (t' := s.toks + (N.zip us).length + 1) k3
  have ue : h2.objs.size ≠ s.heap.objs.size := Nat.ne_of_gt (show s.heap.objs.size < h2.objs.size from I1.lt)
  have I3 : Inv (cxS CX P w K mg base N qual scope f (.ref cda) cc A outer s H E) [(h2.objs.size, PySem.W.kxs_mw ini a)] (L2.start N vs) H _ := I2.pins_of (fun p hp => by
    have e : p = (h2.objs.size, PySem.W.kxs_mw ini a) := by simpa using hp
    subst e
    exact ⟨Heap.get?_push_at rfl rfl, I1.hok.fresh (Nat.le_refl _), ue, I1.nofs (Nat.le_refl _), fun v z => nomatch z⟩)
  have he : starEach [.Constant (.str msg) jm p3] (envS qual scope s.heap.objs.size f (.ref cda) cc) = (false, eval (.Constant (.str msg) jm p3) (envS qual scope s.heap.objs.size f (.ref cda) cc)) :: starEach [] (envS qual scope s.heap.objs.size f (.ref cda) cc) := rfl
  have pa : PA (cxS CX P w K mg base N qual scope f (.ref cda) cc A outer s H E) [.Constant (.str msg) jm p3] (tCons (tC (.str msg)) tNil) := pa_cons pe_str pa_nil
  have arg := pa.run p4 _ _ _ _ (fun ws H' => ws = [.str msg] ∧ H' = H) I3 ⟨rfl, rfl⟩
  show wpAny _ _ (callWith p4 (Value.ref h2.objs.size) [] (backTo p4 (starEach [.Constant (.str msg) jm p3] (envS qual scope s.heap.objs.size f (.ref cda) cc))) []) _ _ _
  rw [he]
  have arg2 : wpAny (model P w) (A.deeper (envS qual scope s.heap.objs.size f (.ref cda) cc)) (spliced (backTo p4 ((false, eval (.Constant (.str msg) jm p3) (envS qual scope s.heap.objs.size f (.ref cda) cc)) :: starEach [] (envS qual scope s.heap.objs.size f (.ref cda) cc)))) _ _ _ := arg
  refine PySem.W.kxs_callWith (i := ini) (x := a) (u := h2.objs.size) (by rfl) (PySem.Calls.evalArgs_plain (thn arg2 fun us2 s2 hh => ?_))
  obtain ⟨vs2, H2, I4, r2, rfl, eH⟩ := hh
  rw [eH] at I4
  obtain ⟨hu, _⟩ := I4.pin (h2.objs.size, PySem.W.kxs_mw ini a) (List.mem_append.mpr (.inr List.mem_cons_self))
  refine ⟨hu, ?_⟩
  obtain ⟨t4, hx4⟩ := exo_at I4.hok ha
  obtain ⟨nm, N4, qn, bs, bmr, hdct, sn, sub, ab, col, dd, k0, k1, k2', k3', k5, hC, hT⟩ := PySem.W.excInit_of I4.kIn F.xc.ini
  have short : us2.length ≤ sizeLine := by
    rw [← Paired.length r2, sizeLine_eq]
    simp
  obtain ⟨hp4, g4, d4, tk4, os4⟩ := s2
  refine wpAny_call (codeAny_of_tree ?_)
  show wpAny _ _ (callAny (.ref h2.objs.size) ⟨us2, []⟩) _ _ _
  simp only [callAny]
  refine wpAny_bind (wpAny_load hu ?_)
  have mw1 : (Value.type "method-wrapper" == Value.type "method" || Value.type "method-wrapper" == Value.type "builtin_function_or_method" || Value.type "method-wrapper" == Value.type "method-wrapper") = true := by decide
  simp only [PySem.W.kxs_mw, mw1, if_true]
  refine PySem.W.KFB.if_so (by decide) ?_
  refine wpAny_bind (PySem.W.check_bound_init F.xc.bs.fb.toExcCallFacts hC hx4 rfl ?_)
  refine wpAny_bind (wpAny_pure (wpAny_pure ?_))
  refine ⟨plainId_quiet F.xc.bs.fb.init.plain _, codeAny_builtin F.xc.bs.fb.initEntry ?_⟩
  refine PySem.W.exc_init_tree (cls := .ref C) (t0 := t4) (dv := none) (c2 := .none) (c3 := .none) (b4 := .bool false) hx4 short fun h5 k5 e5 _ => ?_
  have J5 := I4.write (t' := tk4) (x := a) (e := a) (o := exo a C none) (by rw [ha]; exact True.intro) (.inl rfl) k5 ⟨_, e5⟩ (exo_ok e5)
  have same : upd H a (exo a C none) = H := by
    funext b
    by_cases hb : b = a
    · rw [hb, upd_same, ha]
    · rw [upd_ne hb]
  rw [same] at J5
  refine PySem.wpAt_of_wpAny (wpAny_mono (ht.run _ _ (L2.start N vs) H _ J5 hq) (fun fl s' hs => ?_) fun e s' hs => hs)
  have fin : ∀ {σ' : L2.St} {H' : Hp} {v : V} {u : Value} {pins : List (Addr × Obj)}, Inv (cxS CX P w K mg base N qual scope f (.ref cda) cc A outer s H E) pins σ' H' s' → RelV v u → Q v H' → CE outer P w H s Q u s' :=
    fun {σ' H' v u pins} J rv q => ⟨v, H', J.os, J.bare, J.base, J.hok, rv, q⟩
  cases fl with
  | ret u =>
    obtain ⟨v, σ', H', J, rv, q⟩ := hs
    exact fin J rv q
  | next =>
    obtain ⟨σ', H', J, q⟩ := hs
    exact fin (v := V.non) (u := Value.none) J rfl q
  | brk =>
    obtain ⟨_, _, _, q⟩ := hs
    exact False.elim q
  | cont =>
    obtain ⟨_, _, _, q⟩ := hs
    exact False.elim q
end
end J

set_option Elab.async false
set_option linter.all false
set_option maxRecDepth 100000
set_option maxHeartbeats 4000000
/-! J4: defs that know that no repr runs around them; repr of data. -/
namespace J
open PySem PySem.Spec PyProof.Rows L2

/-- a def's promise, asked only where no container's repr is under way -/
structure FnG (P : Program) (w : World) (K : PySem.W.Frag) (mg : Str → Option Value) (base : Heap) (CX : CXT) (k : Nat) (f : Addr) (fd : FuncData) (ps : List Str) (sp : Sp) : Prop where
  len : ∀ vs H Q E, sp vs H Q E → vs.length = ps.length
  go : ∀ (A : Around) (outer : List Env) (s : Shared) (H : Hp) (args : Args) (us : List Value) (vs : List V) (Q : VK) (E : XK), A.guards = some [] → Room k A → Env0 P w K mg base A outer s H →
    BindsTo s fd args (ps.zip us) → Vals vs us → sp vs H Q E → codeAny (model P w) A (.call (.ref f) args) (CR CX outer P w H s Q E) s
section
variable {CX : CXT} {P : Program} {w : World} {K : PySem.W.Frag} {mg : Str → Option Value} {base : Heap} {j k : Nat} {f : Addr} {fd : FuncData} {N ps : List Str} {sp : Sp}
theorem FnG.of (F : FnOk P w K mg base CX k f fd ps sp) : FnG P w K mg base CX k f fd ps sp :=
  ⟨F.len, fun A outer s H args us vs Q E _ hr => F.run A outer s H args us vs Q E hr⟩
theorem FnG.up (F : FnG P w K mg base CX j f fd ps sp) (h : j ≤ k) : FnG P w K mg base CX k f fd ps sp :=
  ⟨F.len, fun A outer s H args us vs Q E hg hr => F.go A outer s H args us vs Q E hg (hr.mono h)⟩
/-- from the body -/
theorem fng {x qual : Str} {params : Arguments} {body : List Stmt} {scope : Scope} {dvs : List V} {kws : List (Str × V)} (F : FunD K x qual params body scope dvs kws f fd) (S : FnScope N ps scope)
    (len : ∀ vs H Q E, sp vs H Q E → vs.length = ps.length)
    (hbody : ∀ (cdv : Value) (A : Around) (outer : List Env) (s : Shared) (H : Hp) (vs : List V) (Q : VK) (E : XK), (A.deeper (envOfC qual scope s.heap.objs.size f cdv)).guards = some [] → Room k (A.deeper (envOfC qual scope s.heap.objs.size f cdv)) → sp vs H Q E →
      ∃ t, PSs (cxOf CX P w K mg base N qual scope f cdv A outer s H E) body t ∧ t { nx := fun _ H' => Q .non H', rt := Q } (L2.start N vs) H) : FnG P w K mg base CX (k + 1) f fd ps sp := by
  obtain ⟨oc, od, dV, kV, doc, pm, an, cdv, ct, osl, rfl, lk, hcd, _, _⟩ := F.ex
  refine ⟨len, fun A outer s H args us vs Q E hgd hr e0 hb r hsp => ?_⟩
  have many := len _ _ _ _ hsp
  have KX : K.In s.heap := e0.mod.kin.keeps fun b o e => (e0.bs b o e).1
  have free : s.heap.NoLimit := e0.mod.nolimit.keeps fun b o e => (e0.bs b o e).1
  have slots : ∀ y ∈ ps.zip us, scope.names.lookup y.1 = some .local ∨ (scope.names.lookup y.1 = some .cell ∧ ((cellsFrom (s.heap.objs.size + 1) scope.names []).lookup y.1).isSome = true) := by
    rintro ⟨n, v⟩ hy
    rcases S.par n (List.of_mem_zip hy).1 with q | q
    · exact .inl q
    · exact .inr ⟨q, PySem.W.cellsFrom_some _ _ _ (.inl q)⟩
  have bound := hb
  refine codeAny_call_function hr.depth (KX _ _ lk) rfl S.co S.gen rfl (PySem.W.codeRec_of KX hcd) (bound _ _ _ _ (wpAny_newFunctionEnv_cells S.kind slots fun env he s1 x => ?_))
  subst he
  obtain ⟨t, ht, hq⟩ := hbody cdv A outer s H vs Q E hgd (hr.deeper _) hsp
  have I0 : Inv (cxOf CX P w K mg base N qual scope f cdv A outer s H E) [] (L2.start N vs) H s1 := inv_start S hr.hd e0 many r x
  refine ⟨free.keeps x.toInCall.keep, codeAny_func (wpAny_mono (ht.run [] s1 (L2.start N vs) H _ I0 hq) (fun fl s' hs => ?_) fun e s' hs => hs)⟩
  have ends : ∀ {σ' : L2.St} {H' : Hp} {v : V} {u : Value}, Inv (cxOf CX P w K mg base N qual scope f cdv A outer s H E) [] σ' H' s' → RelV v u → Q v H' → CE outer P w H s Q u s' :=
    fun {σ' H' v u} J rv q => ⟨v, H', J.os, J.bare, J.base, J.hok, rv, q⟩
  cases fl with
  | ret u =>
    obtain ⟨v, σ', H', J, rv, q⟩ := hs
    exact ends J rv q
  | next =>
    obtain ⟨σ', H', J, q⟩ := hs
    exact ends (v := V.non) (u := Value.none) J rfl q
  | brk =>
    obtain ⟨_, _, _, q⟩ := hs
    exact False.elim q
  | cont =>
    obtain ⟨_, _, _, q⟩ := hs
    exact False.elim q
end
section
variable {X : Cx} {CX : CXT} {k : Nat} {f : Addr} {fd : FuncData} {ps : List Str} {sp : Sp} {dvs : List V} {ds : List Value} {E : XK} {x : Str} {p pos : Pos} {e : Expr} {es : List Expr} {t : TA}
/-- a call of such a def -/
theorem pe_callG (hgd : X.A.guards = some []) (F : FnG X.prog X.w X.K X.mg X.base CX k f fd ps sp) (hr : Room k X.A) (hg : Gl X x) (hm : X.mg x = some (.ref f)) (hk : PySem.W.keepIn X.K (.ref f) = true) (hb : Binds X.K fd ps ds) (hd : Vals dvs ds) (hx : Passes CX X E)
    (ha : PA X (e :: es) t) (hdb : (x == ("__debug__" : Str)) = false := by decide) (he : starEach (e :: es) X.env = (false, eval e X.env) :: starEach es X.env := by rfl) (hpl : (backTo pos (starEach es X.env)).any (·.1) = false := by rfl) :
    PE X (.Call (.Name x p) (e :: es) [] pos) (tCall sp dvs E t) := by
  refine ⟨fun pins s σ H Q I h => wpAny_Call_Name_kw (ld_glob I hg hm ?_ hdb)⟩
  refine PySem.W.callWith_K (h₀ := X.base) I.ok.mod.kin hk (thn (ha.run pos pins s σ H _ I h) fun us s1 ⟨vs, H1, I1, r, q⟩ => ⟨I1.kIn, ?_⟩) he hpl
  have rr : Vals (vs ++ dvs) (us ++ ds) := r.append hd
  have many : (us ++ ds).length = ps.length := by rw [← rr.length]; exact F.len _ _ _ _ q
  refine wpAny_call (codeAny_mono (F.go X.A X.stack s1 H1 ⟨us, []⟩ (us ++ ds) (vs ++ dvs) Q E hgd hr I1.env0 (hb s1 us I1.kIn many) rr q) fun r2 s2 hq => ?_)
  cases r2 with
  | error e => exact hx pins σ H1 s1 e s2 I1 hq
  | ok fl =>
    cases fl with
    | ret u => exact I1.after hq
    | next => exact False.elim hq
    | brk => exact False.elim hq
    | cont => exact False.elim hq
/-- repr of data -/
def rRepr (K : PySem.W.Frag) : List V → Hp → VK → Prop := fun xs H Q => ∃ (x : V) (d : PyData), xs = [x] ∧ Dp K H x d ∧ d.showable = true ∧ d.hasDict = false ∧ d.shown.length ≤ sizeLine ∧ d.depth ≤ 20 ∧ Q (.str d.shown) H
theorem call_repr (hgd : X.A.guards = some []) (hu : X.A.units + 65 < cLine) : CallR X (.builtin "repr") (rRepr X.K) := by
  intro pins s σ H xs us Q I r h
  obtain ⟨x, d, rfl, dp, sh, nd, sz, dz, q⟩ := h
  obtain ⟨u, rfl, rx⟩ := vals1 r
  cases dp with
  | non =>
    cases rx
    exact P.repr_of_none ⟨.str _, H, I.tok _, ⟨_, rfl⟩, by simpa only [PyData.shown] using q⟩
  | bl b =>
    cases rx
    exact P.repr_of_bool ⟨.str _, H, I.tok _, ⟨_, rfl⟩, by simpa only [PyData.shown] using q⟩
  | int i =>
    obtain ⟨t, rfl⟩ := rx
    exact P.repr_of_int (by simpa [PyData.showable] using sh) ⟨.str _, H, I.tok _, ⟨_, rfl⟩, by simpa only [PyData.shown] using q⟩
  | str y =>
    obtain ⟨t, rfl⟩ := rx
    exact P.repr_of_str ⟨.str _, H, I.tok _, ⟨_, rfl⟩, by simpa only [PyData.shown] using q⟩ (by simpa only [PyData.shown] using sz)
  | lst hs ha =>
    obtain ⟨as, rd⟩ := Dp.reads I _ _ _ (Dp.lst hs ha) rx
    cases rx
    exact repr_of_reads' rd sh (PyData.noDict_hsm nd) hgd (by omega) (fun _ _ z => z) (fun h2 t2 k2 kp => ⟨.str _, H, I.kept (t' := k2) kp, ⟨_, rfl⟩, q⟩) sz
  | tup hs ha =>
    obtain ⟨as, rd⟩ := Dp.reads I _ _ _ (Dp.tup hs ha) rx
    cases rx
    exact repr_of_reads' rd sh (PyData.noDict_hsm nd) hgd (by omega) (fun _ _ z => z) (fun h2 t2 k2 kp => ⟨.str _, H, I.kept (t' := k2) kp, ⟨_, rfl⟩, q⟩) sz
end
end J

set_option Elab.async false
set_option linter.all false
set_option maxRecDepth 100000
set_option maxHeartbeats 4000000
/-! J5: a law's end, its def's promise asked where no repr runs. -/
namespace J
open PySem PySem.Spec PyProof.Rows L2
section
variable {P : Program} {w : World} {K : PySem.W.Frag} {mg mb : Str → Option Value} {CX : CXT} {k : Nat} {fa a : Addr} {fd : FuncData} {x : Str} {sp : Sp} {s : Shared} {vs : List Value} {ns : List Int}
/-- from one abstract heap -/
theorem call_at {H : Hp} (KX : K.In s.heap) (hns : s.heap.Ns mainGlobals mg) (hb : s.heap.Ns builtinsNs mb) (hbb : ∀ x : Str, x ≠ "__name__" → mb x = bootBuiltins x) (hlim : s.heap.NoLimit) (hg : s.gens = #[])
    (ha : s.heap.get? a = some { cls := .type "list", data := .seq vs.toArray }) (hr : Room k callerA) (hbind : ∀ (s : Shared) (u : Value), BindsTo s fd ⟨[u], []⟩ [(x, u)])
    (F : ∀ base : Heap, K.In base → base.Ns mainGlobals mg → FnG P w K mg base CX k fa fd [x] sp) (hO : Only H) (ok : HOk P w H s.heap) (only : ∀ b, H b ≠ none → b = a) (hK : H a ≠ none → K.lookup a = none)
    (ask : sp [.ref a] H (fun v _ => v = .bl true) fun _ _ _ => False) (hCX : ∀ e z, CX [] H s (fun _ _ _ => False) e z → False) :
    codeAny (model P w) callerA (.call (.ref fa) ⟨[.ref a], []⟩) (fun r z => r = .ok (.ret (.bool true)) ∧ OldK s.heap z.heap ∧ z.os = s.os ∧ AllBare z.gens) s := by
  have untracked : ∀ b o, s.heap.get? b = some o → (b = a → H a = none) → (hidT s.heap H).get? b = some o := fun b o e n => hidT_get e (by
    cases q : H b with
    | none => rfl
    | some u =>
      have z : b = a := only b (by rw [q]; simp)
      have y := n z
      rw [← z, q] at y
      cases y)
  have dicts : ∀ {b : Addr} {o : Obj} {es : Array DictEntry} {ep : Nat}, s.heap.get? b = some o → o.data = .dict es ep → (hidT s.heap H).get? b = some o := fun {b o es ep} e d => untracked b o e (fun z => by
    rw [z, ha] at e
    cases e
    cases d)
  have spaces : ∀ {b : Addr} {m : Str → Option Value}, s.heap.Ns b m → (hidT s.heap H).Ns b m := fun {b m} ⟨o, es, ep, e, d, r⟩ => ⟨o, es, ep, dicts e d, d, r⟩
  have inB : K.In (hidT s.heap H) := fun b o e => untracked b o (KX b o e) (fun z => by
    cases q : H a with
    | none => rfl
    | some u =>
      have y := hK (by rw [q]; simp)
      rw [← z] at y
      rw [y] at e
      cases e)
  have hM : Mod K mg (hidT s.heap H) := ⟨inB, spaces hns, ⟨mb, spaces hb, hbb⟩, let ⟨mc, h1, h2⟩ := hlim; ⟨mc, spaces h1, h2⟩⟩
  have e0 : Env0 P w K mg (hidT s.heap H) callerA [] s H := ⟨rfl, hM, fun b o e => of_hidT e, Nat.le_of_eq (hidT_size _ _), trivial, fun b z => absurd (show b ∈ ([] : List Addr) from z) (by simp), ok, .of_eq hg⟩
  have run := (F _ inB (spaces hns)).go callerA [] s H ⟨[.ref a], []⟩ [.ref a] [.ref a] _ _ rfl hr e0 (hbind s (.ref a)) (.cons rfl .nil) ask
  refine codeAny_mono run fun r z h => ?_
  cases r with
  | error e => exact (hCX e z h).elim
  | ok fl =>
    cases fl with
    | next => exact False.elim h
    | brk => exact False.elim h
    | cont => exact False.elim h
    | ret u =>
      obtain ⟨v, H2, os, bare, un, ok2, rv, rfl⟩ := h
      obtain rfl : u = Value.bool true := rv
      refine ⟨rfl, OldK.of_keep fun b o e => ?_, os, bare⟩
      cases q : H b with
      | none => exact un.keep b o e q (by intro z; exact absurd (show b ∈ ([] : List Addr) from z) (by simp)) (by simp)
      | some u =>
        rcases hO b with z | ⟨ob, ys, z⟩
        · rw [q] at z
          cases z
        · obtain ⟨e1, _⟩ := ok b _ z
          obtain ⟨e2, _⟩ := ok2 b _ (un.frzs b ob _ z)
          rw [e] at e1
          cases e1
          exact e2
theorem call_law (KX : K.In s.heap) (hns : s.heap.Ns mainGlobals mg) (hb : s.heap.Ns builtinsNs mb) (hbb : ∀ x : Str, x ≠ "__name__" → mb x = bootBuiltins x) (hlim : s.heap.NoLimit) (hg : s.gens = #[])
    (ha : s.heap.get? a = some { cls := .type "list", data := .seq vs.toArray }) (hi : IntsAre vs ns) (hl : ns.length ≤ sizeLine) (hr : Room k callerA) (hbind : ∀ (s : Shared) (u : Value), BindsTo s fd ⟨[u], []⟩ [(x, u)])
    (F : ∀ base : Heap, K.In base → base.Ns mainGlobals mg → FnG P w K mg base CX k fa fd [x] sp)
    (ask : ∀ H : Hp, Only H → SqL K H a (ns.map V.int) → sp [.ref a] H (fun v _ => v = .bl true) fun _ _ _ => False) (hCX : ∀ H e z, CX [] H s (fun _ _ _ => False) e z → False) :
    codeAny (model P w) callerA (.call (.ref fa) ⟨[.ref a], []⟩) (fun r z => r = .ok (.ret (.bool true)) ∧ OldK s.heap z.heap ∧ z.os = s.os ∧ AllBare z.gens) s := by
  cases hk : K.lookup a with
  | some o =>
    have e := KX a o hk
    rw [ha] at e
    cases e
    have hO : Only (fun _ => none) := fun _ => .inl rfl
    refine call_at (H := fun _ => none) KX hns hb hbb hlim hg ha hr hbind F hO (fun b u z => nomatch (show (none : Option HO) = some u from z)) (fun b z => absurd rfl z) (fun z => absurd rfl z) (ask _ hO (.inr ⟨_, vs.toArray, _, hk, rfl, rfl, rfl, ?_, ?_⟩)) fun e z => hCX _ e z
    · rw [List.size_toArray, hi.length]
      exact hl
    · simpa using vals_ints hi
  | none =>
    let H1 : Hp := fun b => if b = a then some (.frz { cls := .type "list", data := .seq vs.toArray } (.lst (ns.map V.int))) else none
    have at1 : H1 a = some (.frz { cls := .type "list", data := .seq vs.toArray } (.lst (ns.map V.int))) := if_pos rfl
    have off : ∀ b, b ≠ a → H1 b = none := fun b h => if_neg h
    have hO : Only H1 := fun b => by
      by_cases h : b = a
      · exact .inr ⟨_, _, by rw [h]; exact at1⟩
      · exact .inl (off b h)
    refine call_at (H := H1) KX hns hb hbb hlim hg ha hr hbind F hO (fun b u z => ?_) (fun b z => ?_) (fun _ => hk) (ask _ hO (.inl (.inr ⟨_, at1⟩))) fun e z => hCX _ e z
    · by_cases h : b = a
      · subst h
        rw [at1] at z
        cases z
        exact ⟨ha, by rw [List.length_map]; exact hl, vs, _, vals_ints hi, ha⟩
      · rw [off b h] at z
        cases z
    · by_cases h : b = a
      · exact h
      · exact absurd (off b h) z
end
/-- the law's walk: a head by facts, the law's def by FnG -/
theorem walk_G {l : PySem.W.OpenLaw} {n k : Nat} {q : Program} {loose : List Str} {XP : (Str → Option Value) → Heap → Prop} {YP : World → Heap → Prop} {d : DefRec} {CX : CXT} {x : Str}
    (hn : l.most = some n) (hn2 : n ≤ sizeLine) (hdf : d.params.defaults = []) (hr : Room k callerA)
    (F : ∀ (w : World) (mg : Str → Option Value) (fa : Addr) (h : Heap), YP w h → h.Ns mainGlobals mg → mg d.name = some (.ref fa) →
      ∃ (K : PySem.W.Frag) (fd : FuncData) (sp : Sp), K.In h ∧ (∀ (s : Shared) (u : Value), BindsTo s fd ⟨[u], []⟩ [(x, u)]) ∧
        (∀ (H : Hp) (a : Addr) (ns : List Int), ns.length ≤ n → Only H → SqL K H a (ns.map V.int) → sp [.ref a] H (fun v _ => v = .bl true) fun _ _ _ => False) ∧
        ∀ base : Heap, K.In base → base.Ns mainGlobals mg → FnG l.prog w K mg base CX k fa fd [x] sp)
    (hCX : ∀ (H : Hp) (s : Shared) (e : Value) (z : Shared), CX [] H s (fun _ _ _ => False) e z → False) :
    PySem.W.WalkO q loose XP YP l.row.toRowW d [] (fun f vs => PySem.call f vs) := by
  refine Att.attach_call hn hdf fun w s₀ s₁ mg mb fa o pm cd doc a vs ns G Y ho hd hcd hmg hobj hints hlen hg => ?_
  obtain ⟨K, fd, sp, KX, hb, hsp, hF⟩ := F w mg fa _ Y G.T.g hmg
  refine call_law KX G.T.g G.T.b G.T.builtins G.T.nolimit hg hobj hints (Nat.le_trans hlen hn2) hr hb hF (fun H hO hS => ?_) (fun H e z => ?_)
  · exact hsp H a ns hlen hO hS
  · exact hCX H s₁ e z
end J

set_option Elab.async false
set_option linter.all false
set_option maxRecDepth 100000
set_option maxHeartbeats 4000000
/-! J6: calls in short, data, comprehensions. -/
namespace J
open PySem PySem.Spec PyProof.Rows L2 Evl

/-- a def of the module's, with its promise -/
structure Cal (P : Program) (w : World) (K : PySem.W.Frag) (mg : Str → Option Value) (base : Heap) (CX : CXT) (k : Nat) (x : Str) (ps : List Str) (sp : Sp) : Prop where
  ex : ∃ (f : Addr) (fd : FuncData), mg x = some (.ref f) ∧ PySem.W.keepIn K (.ref f) = true ∧ Binds K fd ps [] ∧ FnOk P w K mg base CX k f fd ps sp
structure CalG (P : Program) (w : World) (K : PySem.W.Frag) (mg : Str → Option Value) (base : Heap) (CX : CXT) (k : Nat) (x : Str) (ps : List Str) (sp : Sp) : Prop where
  ex : ∃ (f : Addr) (fd : FuncData), mg x = some (.ref f) ∧ PySem.W.keepIn K (.ref f) = true ∧ Binds K fd ps [] ∧ FnG P w K mg base CX k f fd ps sp
/-- an own exception class with its own __init__ -/
structure Mkr (P : Program) (w : World) (K : PySem.W.Frag) (mg : Str → Option Value) (base : Heap) (CX : CXT) (k : Nat) (x : Str) (C : Addr) (ps : List Str) (sp : Sp) : Prop where
  ex : ∃ (B nw ini : String) (bm : List Value) (f : Addr) (fd : FuncData), XC K B nw ini bm C ∧ PySem.W.findIn K (.ref C) "__init__" = some (some (.ref f)) ∧ PySem.W.typeIn K (.ref f) = some (.type "function") ∧
    mg x = some (.ref C) ∧ Binds K fd ps [] ∧ FnOk P w K mg base CX k f fd ps sp
/-- one without -/
structure Mk0 (K : PySem.W.Frag) (mg : Str → Option Value) (x : Str) (C : Addr) : Prop where
  ex : ∃ (B nw ini : String) (bm : List Value), XC K B nw ini bm C ∧ PySem.W.excIn K C bm nw = true ∧ mg x = some (.ref C)
theorem pss_no {X : Cx} {b : List Stmt} : PSs X b (fun _ _ _ => False) := ⟨fun _ _ _ _ _ _ h => h.elim⟩
theorem ps_no {X : Cx} {b : Stmt} : PS X b (fun _ _ _ => False) := ⟨fun _ _ _ _ _ _ h => h.elim⟩
section
variable {X : Cx} {CX : CXT} {k : Nat} {x : Str} {C : Addr} {ps : List Str} {sp : Sp} {E : XK} {p pos : Pos} {e : Expr} {es : List Expr} {t : TA}
theorem pe_cal (c : Cal X.prog X.w X.K X.mg X.base CX k x ps sp) (hr : Room k X.A) (hg : Gl X x) (hx : Passes CX X E) (ha : PA X (e :: es) t)
    (hdb : (x == ("__debug__" : Str)) = false := by decide) (he : starEach (e :: es) X.env = (false, eval e X.env) :: starEach es X.env := by rfl) (hpl : (backTo pos (starEach es X.env)).any (·.1) = false := by rfl) :
    PE X (.Call (.Name x p) (e :: es) [] pos) (tCall sp [] E t) := by
  obtain ⟨f, fd, hm, hk, hb, F⟩ := c.ex
  exact pe_call F hr hg hm hk hb .nil hx ha hdb he hpl
theorem pe_cal0 (c : Cal X.prog X.w X.K X.mg X.base CX k x ps sp) (hr : Room k X.A) (hg : Gl X x) (hx : Passes CX X E) (hdb : (x == ("__debug__" : Str)) = false := by decide) :
    PE X (.Call (.Name x p) [] [] pos) (tCall sp [] E tNil) := by
  obtain ⟨f, fd, hm, hk, hb, F⟩ := c.ex
  exact pe_call0 F hr hg hm hk hb .nil hx hdb
theorem pe_calG (hgd : X.A.guards = some []) (c : CalG X.prog X.w X.K X.mg X.base CX k x ps sp) (hr : Room k X.A) (hg : Gl X x) (hx : Passes CX X E) (ha : PA X (e :: es) t)
    (hdb : (x == ("__debug__" : Str)) = false := by decide) (he : starEach (e :: es) X.env = (false, eval e X.env) :: starEach es X.env := by rfl) (hpl : (backTo pos (starEach es X.env)).any (·.1) = false := by rfl) :
    PE X (.Call (.Name x p) (e :: es) [] pos) (tCall sp [] E t) := by
  obtain ⟨f, fd, hm, hk, hb, F⟩ := c.ex
  exact pe_callG hgd F hr hg hm hk hb .nil hx ha hdb he hpl
theorem pe_mkr (c : Mkr X.prog X.w X.K X.mg X.base CX k x C ps sp) (hr : Room (k + 1) X.A) (hg : Gl X x) (hx : Passes CX X E) (ha : PA X (e :: es) t)
    (hdb : (x == ("__debug__" : Str)) = false := by decide) (he : starEach (e :: es) X.env = (false, eval e X.env) :: starEach es X.env := by rfl) (hpl : (backTo pos (starEach es X.env)).any (·.1) = false := by rfl) :
    PE X (.Call (.Name x p) (e :: es) [] pos) (tXMk C sp [] E t) := by
  obtain ⟨B, nw, ini, bm, f, fd, T, iC, tI, hm, hb, F⟩ := c.ex
  exact pe_xmk T iC tI F hr hb .nil hx hg hm ha hdb he hpl
theorem pe_mk0 (c : Mk0 X.K X.mg x C) (hg : Gl X x) (hdb : (x == ("__debug__" : Str)) = false := by decide) : PE X (.Call (.Name x p) [] [] pos) (tX0 C) := by
  obtain ⟨B, nw, ini, bm, T, xc, gC⟩ := c.ex
  exact pe_x0 T xc gC hg hdb
/-- a text, many times -/
def rMulS : R2 := fun x y H Q => ∃ (z : Str) (n : Int), x = .str z ∧ y = .int n ∧ MulOk z n ∧ Q (.str (Txt.mul z n)) H
theorem op_mulS : OpR X (binaryOp .Mult) rMulS := by
  intro pins s σ H x y v u Q I rx ry h
  obtain ⟨z, n, rfl, rfl, ok, q⟩ := h
  obtain ⟨t, rfl⟩ := rx
  obtain ⟨t2, rfl⟩ := ry
  exact SB.mul ok fun t3 k => ⟨.str _, H, I.tok k, ⟨_, rfl⟩, q⟩
end

/-! ### data -/
section
variable {K : PySem.W.Frag} {H H' : Hp}
mutual
theorem dp_ext (e : Ex H H') : ∀ {v : V} {d : PyData}, Dp K H v d → Dp K H' v d
  | _, _, .non => .non
  | _, _, .bl b => .bl b
  | _, _, .int i => .int i
  | _, _, .str x => .str x
  | _, _, .lst h a => .lst (ex_l e h) (dpa_ext e a)
  | _, _, .tup h a => .tup (ex_t e h) (dpa_ext e a)
theorem dpa_ext (e : Ex H H') : ∀ {vs : List V} {ds : List PyData}, DpAll K H vs ds → DpAll K H' vs ds
  | _, _, .nil => .nil
  | _, _, .cons h r => .cons (dp_ext e h) (dpa_ext e r)
end
theorem dpa_len : ∀ {vs : List V} {ds : List PyData}, DpAll K H vs ds → vs.length = ds.length
  | _, _, .nil => rfl
  | _, _, .cons _ r => congrArg (· + 1) (dpa_len r)
theorem dpa_get : ∀ {vs : List V} {ds : List PyData} {i : Nat} {v : V}, DpAll K H vs ds → vs[i]? = some v → ∃ d, ds[i]? = some d ∧ Dp K H v d
  | _, _, i, v, .nil, h => by simp at h
  | _, _, 0, v, .cons h r, e => ⟨_, rfl, by simp at e; exact e ▸ h⟩
  | _, _, i + 1, v, .cons h r, e => by
    obtain ⟨d, h1, h2⟩ := dpa_get (i := i) r (by simpa using e)
    exact ⟨d, by simpa using h1, h2⟩
theorem dpa_of : ∀ {vs : List V} {ds : List PyData}, vs.length = ds.length → (∀ (i : Nat) v d, vs[i]? = some v → ds[i]? = some d → Dp K H v d) → DpAll K H vs ds
  | [], [], _, _ => .nil
  | [], _ :: _, h, _ => by simp at h
  | _ :: _, [], h, _ => by simp at h
  | v :: vs, d :: ds, h, f => .cons (f 0 v d rfl rfl) (dpa_of (by simpa using h) fun i v d h1 h2 => f (i + 1) v d (by simpa using h1) (by simpa using h2))
/-- data of so many stories, no container longer than a thousand -/
def Dn : Nat → PyData → Prop
  | _, .none => True
  | _, .bool _ => True
  | _, .int _ => True
  | _, .str _ => True
  | _, .dict _ => False
  | 0, _ => False
  | n + 1, .list ds => ds.length ≤ 1000 ∧ ∀ x ∈ ds, Dn n x
  | n + 1, .tuple ds => ds.length ≤ 1000 ∧ ∀ x ∈ ds, Dn n x
/-- what isinstance asks of data -/
theorem tyx_dp : ∀ {v : V} {d : PyData}, Dp K H v d → ∃ t : String, TyX K H v (.type t) ∧
    t = (match d with | .none => "NoneType" | .bool _ => "bool" | .int _ => "int" | .str _ => "str" | .list _ => "list" | .tuple _ => "tuple" | .dict _ => "dict")
  | _, _, .non => ⟨_, .base .non, rfl⟩
  | _, _, .bl b => ⟨_, .base (.bl b), rfl⟩
  | _, _, .int i => ⟨_, .base (.int i), rfl⟩
  | _, _, .str x => ⟨_, .base (.str x), rfl⟩
  | _, _, .lst h _ => ⟨"list", by
      rcases h with (h | ⟨o, h⟩) | h
      · exact .base (.lst h)
      · exact .base (.frz h)
      · obtain ⟨o, its, n, ho, hc, _⟩ := h
        exact .kList ho hc, rfl⟩
  | _, _, .tup h _ => ⟨"tuple", by
      rcases h with (h | ⟨o, h⟩) | h
      · exact .base (.tup h)
      · exact .fTuple h
      · obtain ⟨o, its, n, ho, hc, _⟩ := h
        exact .kTuple ho hc, rfl⟩
end

/-! ### comprehensions: each item to a value of which R is true -/
/-- whatever is made of it, by an extension of the heap, with Φ -/
def EvP (te : TE) (σ : L2.St) (H : Hp) (Φ : V → Hp → Prop) : Prop := ∀ H1, Ex H H1 → ∀ Q : VK, (∀ v H2, Ex H1 H2 → Φ v H2 → Q v H2) → te σ H1 Q
section
variable {K : PySem.W.Frag} {σ : L2.St} {H : Hp} {te : TE} {vs : List Nat} {j : Nat} {xs : List V} {a : Addr} (R : Nat → V → Hp → Prop)
/-- the list as it has grown -/
def Grown (H : Hp) (D : Addr) (n : Nat) (H2 : Hp) : Prop := H D = none ∧ Ex H H2 ∧ ∃ acc, H2 D = some (.lst acc) ∧ acc.length = n ∧ ∀ (i : Nat) y, acc[i]? = some y → R i y H2
theorem grown_step (mono : ∀ i y H H', Ex H H' → R i y H → R i y H') {D : Addr} {n : Nat} {H2 H3 : Hp} {y : V} (g : Grown R H D n H2) (hn : n < 50000) (e : Ex H2 H3) (r : R n y H3)
    (keep : ∀ i y (H4 : Hp) acc acc', H4 D = some (.lst acc) → R i y H4 → R i y (upd H4 D (.lst acc'))) :
    ∃ acc, H3 D = some (.lst acc) ∧ acc.length < sizeLine ∧ Grown R H D (n + 1) (upd H3 D (.lst (acc ++ [y]))) := by
  obtain ⟨h1, h2, acc, h3, h4, h5⟩ := g
  have h6 := e D _ h3
  refine ⟨acc, h6, sz_lt (by omega), h1, Ex.mut (h2.trans e) h1, acc ++ [y], upd_same, by rw [List.length_append, h4]; rfl, fun i z hz => ?_⟩
  by_cases hi : i < acc.length
  · rw [List.getElem?_append_left hi] at hz
    exact keep _ _ _ _ _ h6 (mono _ _ _ _ e (h5 i z hz))
  · have hi2 : i = acc.length := by
      have := (List.getElem?_eq_some_iff.mp hz).1
      rw [List.length_append] at this
      simp at this
      omega
    subst hi2
    rw [List.getElem?_append_right (Nat.le_refl _), Nat.sub_self] at hz
    simp at hz
    subst hz
    rw [h4]
    exact keep _ _ _ _ _ h6 r
end
end J

set_option Elab.async false
set_option linter.all false
set_option maxRecDepth 100000
set_option maxHeartbeats 4000000
/-! J7: data made anew, comprehensions over data. -/
namespace J
open PySem PySem.Spec PyProof.Rows L2 Evl
open Classical in
/-- of H what stands in B already, and what is new since H0 -/
noncomputable def rst (B H0 H : Hp) : Hp := fun b => if B b ≠ none ∨ H0 b = none then H b else none
theorem rst_in {B H0 H : Hp} {b : Addr} (h : B b ≠ none ∨ H0 b = none) : rst B H0 H b = H b := by
  unfold rst
  exact if_pos h
theorem rst_some {B H0 H : Hp} {b : Addr} {o : HO} (h : rst B H0 H b = some o) : (B b ≠ none ∨ H0 b = none) ∧ H b = some o := by
  unfold rst at h
  split at h
  · exact ⟨by assumption, h⟩
  · cases h
theorem rst_ex {B H0 H : Hp} : Ex (rst B H0 H) H := fun _ _ h => (rst_some h).2
theorem rst_base {B H0 H : Hp} (e : Ex B H) : Ex B (rst B H0 H) := fun b o h => by
  rw [rst_in (.inl (by rw [h]; simp))]
  exact e b o h
theorem rst_mono {B H0 H1 H2 H3 : Hp} (d : ∀ b, H1 b = none → H0 b = none) (e : ∀ b o, (B b ≠ none ∨ H0 b = none) → H2 b = some o → H3 b = some o) : Ex (rst B H1 H2) (rst B H0 H3) := fun b o h => by
  obtain ⟨h1, h2⟩ := rst_some h
  have h3 : B b ≠ none ∨ H0 b = none := h1.elim .inl fun z => .inr (d b z)
  rw [rst_in h3]
  exact e b o h3 h2
/-- data, put together of what stood in B and of what is new since H0 -/
def Dq (K : PySem.W.Frag) (B H0 H : Hp) (v : V) (d : PyData) : Prop := Dp K (rst B H0 H) v d
section
variable {K : PySem.W.Frag} {B H0 H H1 H2 H3 : Hp} {v : V} {d : PyData}
theorem Dq.dp (h : Dq K B H0 H v d) : Dp K H v d := dp_ext rst_ex h
theorem Dq.of (h : Dp K B v d) (e : Ex B H) : Dq K B H0 H v d := dp_ext (rst_base e) h
theorem Dq.mono (h : Dq K B H1 H2 v d) (d1 : ∀ b, H1 b = none → H0 b = none) (e : ∀ b o, (B b ≠ none ∨ H0 b = none) → H2 b = some o → H3 b = some o) : Dq K B H0 H3 v d := dp_ext (rst_mono d1 e) h
theorem Dq.ext (h : Dq K B H0 H v d) (e : Ex H H1) : Dq K B H0 H1 v d := h.mono (fun _ z => z) fun b o _ z => e b o z
theorem ex_dom (e : Ex H H1) : ∀ b, H1 b = none → H b = none := fun _ z => fresh_back e z
end
section
variable {K : PySem.W.Frag} {σ : L2.St} {te : TE} {vs : List Nat} {j : Nat} {xs : List V} {ds : List PyData} {a : Addr}
/-- the invariant of such a comprehension: B below, H ahead, D the list -/
def Lg (K : PySem.W.Frag) (ds : List PyData) (B H : Hp) (D : Addr) (n : Nat) (H2 : Hp) : Prop :=
  H D = none ∧ Ex H H2 ∧ ∃ acc, H2 D = some (.lst acc) ∧ acc.length = n ∧ ∀ (i : Nat) y d, acc[i]? = some y → ds[i]? = some d → Dq K B (upd H D (.lst [])) H2 y d
theorem lg_start {B H : Hp} {D : Addr} (hD : H D = none) : Lg K ds B H D 0 (upd H D (.lst [])) := ⟨hD, Ex.new hD, [], upd_same, rfl, fun i y d h => by simp at h⟩
theorem lg_step {B H H2 H3 : Hp} {D : Addr} {n : Nat} {y : V} {d : PyData} (eB : Ex B H) (g : Lg K ds B H D n H2) (hn : n < 50000) (e : Ex H2 H3) (hd : ds[n]? = some d) (r : Dq K B H2 H3 y d) :
    ∃ acc, H3 D = some (.lst acc) ∧ acc.length < sizeLine ∧ Lg K ds B H D (n + 1) (upd H3 D (.lst (acc ++ [y]))) := by
  obtain ⟨h1, h2, acc, h3, h4, h5⟩ := g
  have h6 := e D _ h3
  have off : ∀ b o, (B b ≠ none ∨ upd H D (.lst []) b = none) → H3 b = some o → upd H3 D (.lst (acc ++ [y])) b = some o := fun b o hb z => by
    have hbD : b ≠ D := fun q => by
      subst q
      rcases hb with hb | hb
      · cases hB : B b with
        | none => exact hb hB
        | some o2 =>
          have := eB b o2 hB
          rw [h1] at this
          cases this
      · rw [upd_same] at hb
        cases hb
    rw [upd_ne hbD]
    exact z
  have dom2 : ∀ b, H2 b = none → upd H D (.lst []) b = none := fun b z => by
    by_cases hb : b = D
    · subst hb
      rw [h3] at z
      cases z
    · rw [upd_ne hb]
      exact fresh_back h2 z
  refine ⟨acc, h6, sz_lt (by omega), h1, Ex.mut (h2.trans e) h1, acc ++ [y], upd_same, by rw [List.length_append, h4]; rfl, fun i z d2 hz hd2 => ?_⟩
  by_cases hi : i < acc.length
  · rw [List.getElem?_append_left hi] at hz
    exact (h5 i z d2 hz hd2).mono (fun b q => q) fun b o hb q => off b o hb (e b o q)
  · have hi2 : i = acc.length := by
      have := (List.getElem?_eq_some_iff.mp hz).1
      rw [List.length_append] at this
      simp at this
      omega
    subst hi2
    rw [List.getElem?_append_right (Nat.le_refl _), Nat.sub_self] at hz
    simp at hz
    subst hz
    rw [h4, hd] at hd2
    cases hd2
    exact r.mono dom2 off
/-- what the whole list is -/
theorem lg_end {B H H2 : Hp} {D : Addr} (eB : Ex B H) (g : Lg K ds B H D ds.length H2) : ∃ ys, H2 D = some (.lst ys) ∧ DpAll K (rst B H H2) ys ds := by
  obtain ⟨h1, h2, acc, h3, h4, h5⟩ := g
  refine ⟨acc, h3, dpa_of h4 fun i v d hv hd => (h5 i v d hv hd).mono (fun b z => ?_) fun b o _ z => z⟩
  by_cases hb : b = D
  · rw [hb]
    exact h1
  · rw [upd_ne hb] at z
    exact z
/-- an element's promise -/
def ElP (K : PySem.W.Frag) (xs : List V) (ds : List PyData) (B : Hp) (te : TE) (σ : L2.St) (vs : List Nat) (j : Nat) : Prop :=
  ∀ (i : Nat) (x : V) (d : PyData) (H1 : Hp), xs[i]? = some x → ds[i]? = some d → Dp K B x d → Ex B H1 → ∀ Q : VK, (∀ y H2, Ex H1 H2 → Dq K B H1 H2 y d → Q y H2) → te ((wipe σ vs).set j (some x)) H1 Q
theorem lc_dq {B H : Hp} {tl : TE} {Q : VK} (eB : Ex B H) (hv : ∀ H1, Ex H H1 → ∀ Q : VK, (∀ H2, Ex H1 H2 → Q (.ref a) H2) → tl σ H1 Q) (hx : SqL K B a xs) (hd : DpAll K B xs ds) (hz : xs.length ≤ 1000) (hw : ∀ x, wipe ((wipe σ vs).set j (some x)) vs = wipe σ vs)
    (el : ElP K xs ds B te σ vs j) (k : ∀ p H2 ys, H p = none → Ex H H2 → H2 p = some (.lst ys) → DpAll K (rst B H H2) ys ds → Q (.ref p) H2) : tLc (iList K tl) (gName j) tYes te vs σ H Q :=
  hv H (Ex.refl H) _ fun H0 e0 => ⟨a, rfl, ⟨xs, ex_l (eB.trans e0) hx⟩, fun D hD => by
    have len := dpa_len hd
    refine lc_list (xs := xs) (Lg K ds B H0 D) (lg_start hD) (fun i H2 _ g => ex_l ((eB.trans e0).trans g.2.1) hx) (fun i x H2 hi g => ⟨hw x, ?_⟩) (fun H2 g => ?_)
    · have hil := (List.getElem?_eq_some_iff.mp hi).1
      obtain ⟨d, h1, h2⟩ := dpa_get hd hi
      show te _ H2 _
      refine el i x d H2 hi h1 h2 ((eB.trans e0).trans g.2.1) _ fun y H3 e3 dq => ?_
      exact lg_step (eB.trans e0) g (by omega) e3 h1 dq
    · rw [len] at g
      obtain ⟨ys, h1, h2⟩ := lg_end (eB.trans e0) g
      exact k D H2 ys (fresh_back e0 hD) (e0.trans g.2.1) h1 (dpa_ext (rst_mono (fun b z => fresh_back e0 z) fun b o _ z => z) h2)⟩
theorem lc_dqT {B H : Hp} {tl : TE} {Q : VK} (eB : Ex B H) (hv : ∀ H1, Ex H H1 → ∀ Q : VK, (∀ H2, Ex H1 H2 → Q (.ref a) H2) → tl σ H1 Q) (hx : SqT K B a xs) (hd : DpAll K B xs ds) (hz : xs.length ≤ 1000) (hw : ∀ x, wipe ((wipe σ vs).set j (some x)) vs = wipe σ vs)
    (el : ElP K xs ds B te σ vs j) (k : ∀ p H2 ys, H p = none → Ex H H2 → H2 p = some (.lst ys) → DpAll K (rst B H H2) ys ds → Q (.ref p) H2) : tLc (iTup K tl) (gName j) tYes te vs σ H Q :=
  hv H (Ex.refl H) _ fun H0 e0 => ⟨a, rfl, ⟨xs, ex_t (eB.trans e0) hx⟩, fun D hD => by
    have len := dpa_len hd
    refine lc_tup (xs := xs) (Lg K ds B H0 D) (lg_start hD) (fun i H2 _ g => ex_t ((eB.trans e0).trans g.2.1) hx) (fun i x H2 hi g => ⟨hw x, ?_⟩) (fun H2 g => ?_)
    · have hil := (List.getElem?_eq_some_iff.mp hi).1
      obtain ⟨d, h1, h2⟩ := dpa_get hd hi
      show te _ H2 _
      refine el i x d H2 hi h1 h2 ((eB.trans e0).trans g.2.1) _ fun y H3 e3 dq => ?_
      exact lg_step (eB.trans e0) g (by omega) e3 h1 dq
    · rw [len] at g
      obtain ⟨ys, h1, h2⟩ := lg_end (eB.trans e0) g
      exact k D H2 ys (fresh_back e0 hD) (e0.trans g.2.1) h1 (dpa_ext (rst_mono (fun b z => fresh_back e0 z) fun b o _ z => z) h2)⟩
end
end J

set_option Elab.async false
set_option linter.all false
set_option maxRecDepth 100000
set_option maxHeartbeats 4000000
/-! J8: more of what readings evaluate to; a law's pen. -/
namespace J
open PySem PySem.Spec PyProof.Rows L2 Evl
section
variable {K : PySem.W.Frag} {σ : L2.St} {H : Hp} {ta tb : TE}
theorem rc_int {i : Int} : RC (fun xs H Q => (∃ i, xs = [.int i] ∧ Q (.int i) H) ∨ ∃ k, xs = [.bl k] ∧ Q (.int (if k then 1 else 0)) H) [.int i] H (.int i) := fun H1 _ _ q => .inl ⟨i, rfl, q H1 (Ex.refl H1)⟩
theorem rc_len {p : Addr} {ys : List V} (h : SqL K H p ys ∨ SqT K H p ys) : RC (fun xs H Q => ∃ p ys, xs = [.ref p] ∧ (SqL K H p ys ∨ SqT K H p ys) ∧ Q (.int ys.length) H) [.ref p] H (.int ys.length) :=
  fun H1 e _ q => ⟨p, ys, rfl, h.elim (fun z => .inl (ex_l e z)) (fun z => .inr (ex_t e z)), q H1 (Ex.refl H1)⟩
/-- leaves: no containers -/
def leaf : PyData → Bool
  | .none | .bool _ | .int _ => true
  | _ => false
theorem lay_leaf : ∀ {d : PyData}, leaf d = true → d.canLay0 = true ∧ d.depth = 0
  | .none, _ => by simp [PyData.canLay0, PyData.depth]
  | .bool _, _ => by simp [PyData.canLay0, PyData.depth]
  | .int _, _ => by simp [PyData.canLay0, PyData.depth]
  | .str _, h => by simp [leaf] at h
  | .list _, h => by simp [leaf] at h
  | .tuple _, h => by simp [leaf] at h
  | .dict _, h => by simp [leaf] at h
theorem lay_leaves : ∀ {ds : List PyData}, ds.all leaf = true → PyData.canLayAll0 ds = true ∧ PyData.depthAll ds ≤ 1
  | [], _ => by simp [PyData.canLayAll0, PyData.depthAll]
  | d :: ds, h => by
    rw [List.all_cons, Bool.and_eq_true] at h
    obtain ⟨h1, h2⟩ := lay_leaf h.1
    obtain ⟨h3, h4⟩ := lay_leaves h.2
    constructor
    · simp [PyData.canLayAll0, h1, h3]
    · simp only [PyData.depthAll]
      omega
theorem shaped_leaves {ds : List PyData} (h : ds.all leaf = true) : SeqAt.shaped (.list ds) = true := by
  obtain ⟨h1, h2⟩ := lay_leaves h
  unfold SeqAt.shaped
  rw [Bool.and_eq_true]
  refine ⟨by simpa [PyData.canLay0] using h1, decide_eq_true ?_⟩
  simp only [PyData.depth]
  omega
theorem eqv_bools : ∀ (xs ys : List Bool), PyData.eqvAll (xs.map .bool) (ys.map .bool) = decide (xs = ys)
  | [], [] => rfl
  | [], _ :: _ => rfl
  | _ :: _, [] => rfl
  | x :: xs, y :: ys => by
    simp only [List.map_cons, PyData.eqvAll, PyData.eqv, eqv_bools xs ys, List.cons.injEq]
    by_cases h : x = y <;> by_cases h2 : xs = ys <;> simp [h, h2]
theorem dpa_ints : ∀ ns : List Int, DpAll K H (ns.map V.int) (ns.map .int)
  | [] => .nil
  | n :: ns => .cons (.int n) (dpa_ints ns)
theorem dpa_bools : ∀ ns : List Bool, DpAll K H (ns.map V.bl) (ns.map .bool)
  | [] => .nil
  | n :: ns => .cons (.bl n) (dpa_bools ns)
/-- != of data, the right side a new list -/
theorem ev_neL {x : V} {d e : PyData} {ys : List V} {es : List PyData} (ha : Ev ta σ H x) (hd : Dp K H x d) (hb : EvL tb σ H ys) (hy : DpAll K H ys es) (s1 : SeqAt.shaped d = true) (s2 : SeqAt.shaped (.list es) = true) :
    Ev (tOp (rNeD K) ta tb) σ H (.bl (!PyData.eqv d (.list es))) :=
  ev_opL ha hb fun p H1 hp e => fun H2 e2 Q q => ⟨d, .list es, dp_ext (e.trans e2) hd, .lst (sq_of (e2 p _ hp)) (dpa_ext (e.trans e2) hy), s1, s2, q H2 (Ex.refl H2)⟩
end
/-! ### a law's pen: its cells, the place, what is left -/
def But (p : Addr) (H H' : Hp) : Prop := ∀ b o, b ≠ p → H b = some o → H' b = some o
theorem But.trans {p : Addr} {H H1 H2 : Hp} (a : But p H H1) (b : But p H1 H2) : But p H H2 := fun c o h z => b c o h (a c o h z)
theorem But.of {p : Addr} {H H1 : Hp} (e : Ex H H1) : But p H H1 := fun c o _ z => e c o z
theorem But.upd {p : Addr} {H : Hp} {o : HO} : But p H (upd H p o) := fun c q h z => by rw [upd_ne h]; exact z
/-- the heap that the pen is no part of goes on -/
theorem But.ex {p : Addr} {B H H1 : Hp} (a : But p H H1) (e : Ex B H) (h : B p = none) : Ex B H1 := fun c o z => a c o (ne_of_none z h) (e c o z)
def Pen (H : Hp) (p : Addr) (m : Nat) : Prop := ∃ (c : Addr) (ns : List Int) (i v : Int), H p = some (.lst [.ref c, .int i, .int v]) ∧ H c = some (.lst (ns.map V.int)) ∧ c ≠ p ∧ ns.length ≤ 60 ∧ 0 ≤ i ∧ i ≤ (m : Int)
theorem Pen.ext {H H' : Hp} {p : Addr} {m : Nat} (h : Pen H p m) (e : Ex H H') : Pen H' p m := by
  obtain ⟨c, ns, i, v, h1, h2, h3⟩ := h
  exact ⟨c, ns, i, v, e _ _ h1, e _ _ h2, h3⟩
def spPen (K : PySem.W.Frag) : Sp := fun vs H Q _ => ∃ (a : Addr) (ns : List Int), vs = [.ref a] ∧ SqL K H a (ns.map V.int) ∧ ∀ p H', H p = none → Ex H H' → Pen H' p 0 → Q (.ref p) H'
def spNext : Sp := fun vs H Q _ => ∃ (p c : Addr) (ns : List Int) (i v : Int), vs = [.ref p] ∧ H p = some (.lst [.ref c, .int i, .int v]) ∧ H c = some (.lst (ns.map V.int)) ∧ c ≠ p ∧ ns.length ≤ 60 ∧ 0 ≤ i ∧ i ≤ 1000000 ∧
  ∀ (r : Int) H', But p H H' → H' p = some (.lst [.ref c, .int (i + 1), .int v]) → Q (.int r) H'
def spDraw : Sp := fun vs H Q _ => ∃ (p : Addr) (u : Int) (m : Nat), vs = [.ref p, .int u] ∧ 1 ≤ u ∧ u ≤ 100000 ∧ Pen H p m ∧ m ≤ 1000000 ∧
  ∀ (d : Int) H', But p H H' → Pen H' p (m + 1) → 0 ≤ d → d < u → Q (.int d) H'
end J

set_option Elab.async false
set_option linter.all false
set_option maxRecDepth 100000
set_option maxHeartbeats 8000000
/-! J9g: data and new objects by readings (of no law): the general part of K13d, and J9. -/
namespace K13
open PySem PySem.Spec PyProof.Rows L2 Evl J
/-! new objects, one behind another -/
def Mono (Φ : Addr → Hp → Prop) : Prop := ∀ a H H', Ex H H' → Φ a H → Φ a H'
def EvN (te : TE) (σ : L2.St) (H : Hp) (Φ : Addr → Hp → Prop) : Prop := ∀ H1, Ex H H1 → ∀ Q : VK, (∀ a H2, H1 a = none → Ex H1 H2 → Φ a H2 → Q (.ref a) H2) → te σ H1 Q
/-- each of some objects is as it should be -/
inductive All2 : List Addr → List (Addr → Hp → Prop) → Hp → Prop
  | nil {H : Hp} : All2 [] [] H
  | cons {a : Addr} {as : List Addr} {Φ : Addr → Hp → Prop} {Φs : List (Addr → Hp → Prop)} {H : Hp} : Φ a H → Mono Φ → All2 as Φs H → All2 (a :: as) (Φ :: Φs) H
theorem All2.ext {H H' : Hp} (e : Ex H H') : ∀ {as : List Addr} {Φs : List (Addr → Hp → Prop)}, All2 as Φs H → All2 as Φs H'
  | _, _, .nil => .nil
  | _, _, .cons h m r => .cons (m _ _ _ e h) m (All2.ext e r)
theorem All2.app {H : Hp} : ∀ {as bs : List Addr} {Φs Ψs : List (Addr → Hp → Prop)}, All2 as Φs H → All2 bs Ψs H → All2 (as ++ bs) (Φs ++ Ψs) H
  | _, _, _, _, .nil, s => s
  | _, _, _, _, .cons h m r, s => .cons h m (All2.app r s)
theorem All2.len {H : Hp} : ∀ {as : List Addr} {Φs : List (Addr → Hp → Prop)}, All2 as Φs H → as.length = Φs.length
  | _, _, .nil => rfl
  | _, _, .cons _ _ r => congrArg (· + 1) (All2.len r)
theorem All2.get {H : Hp} : ∀ {as : List Addr} {Φs : List (Addr → Hp → Prop)} {i : Nat} {Φ : Addr → Hp → Prop}, All2 as Φs H → Φs[i]? = some Φ → ∃ a, as[i]? = some a ∧ Φ a H
  | _, _, i, _, .nil, h => by simp at h
  | _, _, 0, _, .cons h m r, e => by
    simp at e
    subst e
    exact ⟨_, rfl, h⟩
  | _, _, i + 1, _, .cons h m r, e => by
    obtain ⟨a, h1, h2⟩ := All2.get (i := i) r (by simpa using e)
    exact ⟨a, by simpa using h1, h2⟩
def EvNA (ta : TA) (σ : L2.St) (H : Hp) (Φs : List (Addr → Hp → Prop)) : Prop := ∀ H1, Ex H H1 → ∀ Q : List V → Hp → Prop, (∀ as H2, Ex H1 H2 → All2 as Φs H2 → Q (as.map V.ref) H2) → ta σ H1 Q
section
variable {K : PySem.W.Frag} {σ : L2.St} {H : Hp} {te ta : TE} {tr : TA} {Φ : Addr → Hp → Prop} {Φs : List (Addr → Hp → Prop)}
theorem na_nil : EvNA tNil σ H [] := fun H1 _ Q q => q [] H1 (Ex.refl H1) .nil
theorem na_cons (h : EvN te σ H Φ) (m : Mono Φ) (hr : EvNA tr σ H Φs) : EvNA (tCons te tr) σ H (Φ :: Φs) := fun H1 e Q q =>
  h H1 e _ fun a H2 _ e2 p => hr H2 (e.trans e2) _ fun as H3 e3 ps => q (a :: as) H3 (e2.trans e3) (.cons (m _ _ _ e3 p) m ps)
/-- a list of new objects -/
def EvNL (te : TE) (σ : L2.St) (H : Hp) (Φs : List (Addr → Hp → Prop)) : Prop := ∀ H1, Ex H H1 → ∀ Q : VK, (∀ p as H2, H1 p = none → Ex H1 H2 → H2 p = some (.lst (as.map V.ref)) → All2 as Φs H2 → Q (.ref p) H2) → te σ H1 Q
theorem nl_lst (h : EvNA tr σ H Φs) (hz : Φs.length ≤ 1000) : EvNL (tLst tr) σ H Φs := fun H1 e Q q =>
  h H1 e _ fun as H2 e2 al => ⟨by rw [List.length_map, al.len]; exact sz_of (by omega), fun p hp => q p as _ (fresh_back e2 hp) (e2.trans (Ex.new hp)) upd_same (al.ext (Ex.new hp))⟩
theorem nl_cat {l : Addr} {as : List Addr} {Ψs : List (Addr → Hp → Prop)} {tb : TE} (ha : Ev ta σ H (.ref l)) (hl : H l = some (.lst (as.map V.ref))) (al : All2 as Φs H) (hb : EvNL tb σ H Ψs) (hz : Φs.length + Ψs.length ≤ 1000) : EvNL (tOp rCat ta tb) σ H (Φs ++ Ψs) := fun H1 e Q q =>
  ha H1 e _ fun H2 e2 => hb H2 (e.trans e2) _ fun p bs H3 hp e3 h3 bl => ⟨l, p, _, _, rfl, rfl, e3 l _ (e2 l _ (e l _ hl)), h3, by rw [List.length_map, List.length_map, al.len, bl.len]; exact sz_of (by omega), fun r hr => by
    rw [← List.map_append]
    exact q r _ _ (fresh_back (e2.trans e3) hr) ((e2.trans e3).trans (Ex.new hr)) upd_same (((al.ext ((e.trans e2).trans e3)).app bl).ext (Ex.new hr))⟩
/-- .. both lists new -/
theorem nl_cat2 {Ψs : List (Addr → Hp → Prop)} {tb : TE} (ha : EvNL ta σ H Φs) (hb : EvNL tb σ H Ψs) (hz : Φs.length + Ψs.length ≤ 1000) : EvNL (tOp rCat ta tb) σ H (Φs ++ Ψs) := fun H1 e Q q =>
  ha H1 e _ fun l as H2 hl e2 h2 al => hb H2 (e.trans e2) _ fun p bs H3 hp e3 h3 bl => ⟨l, p, _, _, rfl, rfl, e3 l _ h2, h3, by rw [List.length_map, List.length_map, al.len, bl.len]; exact sz_of (by omega), fun r hr => by
    rw [← List.map_append]
    exact q r _ _ (fresh_back (e2.trans e3) hr) ((e2.trans e3).trans (Ex.new hr)) upd_same (((al.ext e3).app bl).ext (Ex.new hr))⟩
theorem q_asgNL {i : Nat} {tz : TS} {D : Ends} (h : EvNL te σ H Φs) (k : ∀ p as H1, H p = none → Ex H H1 → H1 p = some (.lst (as.map V.ref)) → All2 as Φs H1 → tz D (σ.set i (some (.ref p))) H1) : tSeq (tAsg te (gName i)) tz D σ H := h H (Ex.refl H) _ k
theorem s_retNL {D : Ends} (h : EvNL te σ H Φs) (k : ∀ p as H1, H p = none → Ex H H1 → H1 p = some (.lst (as.map V.ref)) → All2 as Φs H1 → D.rt (.ref p) H1) : tRet te D σ H := h H (Ex.refl H) _ k
theorem s_evNL {Q : VK} (h : EvNL te σ H Φs) (k : ∀ p as H1, H p = none → Ex H H1 → H1 p = some (.lst (as.map V.ref)) → All2 as Φs H1 → Q (.ref p) H1) : te σ H Q := h H (Ex.refl H) _ k
/-- an error of the class at C whose fields hold such data -/
def Er (K : PySem.W.Frag) (C : Addr) (flds : List (Str × PyData)) (a : Addr) (H : Hp) : Prop := ∃ fs : List (Str × V), XAt H a C fs ∧ ∀ x d, flds.lookup x = some d → ∃ v, fs.lookup x = some v ∧ Dp K H v d
theorem er_mono {C : Addr} {flds : List (Str × PyData)} : Mono (Er K C flds) := fun a H H' e ⟨fs, xa, h⟩ => ⟨fs, xa.ext e, fun x d z => let ⟨v, h1, h2⟩ := h x d z; ⟨v, h1, dp_ext e h2⟩⟩
theorem en_x0 {C : Addr} : EvN (tX0 C) σ H (Er K C []) := fun H1 e Q q a hn => q a _ hn (Ex.new hn) ⟨[], .inl ⟨rfl, upd_same⟩, fun x d z => by simp at z⟩
theorem one_lookup {f x : Str} {α : Type} {d e : α} (h : ([(f, d)] : List (Str × α)).lookup x = some e) : x = f ∧ d = e := by
  by_cases q : x = f
  · subst q
    simp [List.lookup] at h
    exact ⟨rfl, h⟩
  · have q2 : (x == f) = false := by simpa using q
    simp [List.lookup, q2] at h
end
section
variable {K : PySem.W.Frag} {σ : L2.St} {H : Hp} {te ta tb : TE} {tr : TA} {d : PyData} {ds es : List PyData}
def EvD (K : PySem.W.Frag) (te : TE) (σ : L2.St) (H : Hp) (d : PyData) : Prop := ∀ H1, Ex H H1 → ∀ Q : VK, (∀ v H2, Ex H1 H2 → Dp K H2 v d → Q v H2) → te σ H1 Q
def EvDA (K : PySem.W.Frag) (ta : TA) (σ : L2.St) (H : Hp) (ds : List PyData) : Prop := ∀ H1, Ex H H1 → ∀ Q : List V → Hp → Prop, (∀ vs H2, Ex H1 H2 → DpAll K H2 vs ds → Q vs H2) → ta σ H1 Q
def EvDL (K : PySem.W.Frag) (te : TE) (σ : L2.St) (H : Hp) (ds : List PyData) : Prop := ∀ H1, Ex H H1 → ∀ Q : VK, (∀ p xs H2, H1 p = none → Ex H1 H2 → H2 p = some (.lst xs) → DpAll K H2 xs ds → Q (.ref p) H2) → te σ H1 Q
theorem EvD.mono {H' : Hp} (h : EvD K te σ H d) (e : Ex H H') : EvD K te σ H' d := fun H1 e1 Q q => h H1 (e.trans e1) Q q
theorem ed_ev {v : V} (h : Ev te σ H v) (dp : Dp K H v d) : EvD K te σ H d := fun H1 e Q q => h H1 e _ fun H2 e2 => q v H2 e2 (dp_ext (e.trans e2) dp)
theorem ed_var {i : Nat} {v : V} (h : σ[i]? = some (some v)) (dp : Dp K H v d) : EvD K (tVar i) σ H d := ed_ev (ev_var h) dp
theorem ed_int {i : Int} : EvD K (tC (.int i)) σ H (.int i) := ed_ev ev_c (.int i)
theorem da_nil : EvDA K tNil σ H [] := fun H1 _ Q q => q [] H1 (Ex.refl H1) .nil
theorem da_cons (h : EvD K te σ H d) (hr : EvDA K tr σ H ds) : EvDA K (tCons te tr) σ H (d :: ds) := fun H1 e Q q =>
  h H1 e _ fun v H2 e2 dp => hr H2 (e.trans e2) _ fun vs H3 e3 da => q (v :: vs) H3 (e2.trans e3) (.cons (dp_ext e3 dp) da)
theorem ed_tup (h : EvDA K tr σ H ds) (hz : ds.length ≤ 1000) : EvD K (tTup tr) σ H (.tuple ds) := fun H1 e Q q =>
  h H1 e _ fun vs H2 e2 da => ⟨by rw [dpa_len da]; exact sz_of (by omega), fun p hp => q (.ref p) _ (e2.trans (Ex.new hp)) (.tup (st_of upd_same) (dpa_ext (Ex.new hp) da))⟩
theorem dl_lst (h : EvDA K tr σ H ds) (hz : ds.length ≤ 1000) : EvDL K (tLst tr) σ H ds := fun H1 e Q q =>
  h H1 e _ fun vs H2 e2 da => ⟨by rw [dpa_len da]; exact sz_of (by omega), fun p hp => q p vs _ (fresh_back e2 hp) (e2.trans (Ex.new hp)) upd_same (dpa_ext (Ex.new hp) da)⟩
theorem ed_dl (h : EvDL K te σ H ds) : EvD K te σ H (.list ds) := fun H1 e Q q => h H1 e _ fun p xs H2 _ e2 h2 da => q (.ref p) H2 e2 (.lst (sq_of h2) da)
theorem dpa_app {vs ws : List V} : ∀ {ds es : List PyData}, DpAll K H vs ds → DpAll K H ws es → DpAll K H (vs ++ ws) (ds ++ es) := by
  induction vs with
  | nil =>
    intro ds es h1 h2
    cases h1
    exact h2
  | cons v vs ih =>
    intro ds es h1 h2
    cases h1 with
    | cons h r => exact .cons h (ih r h2)
theorem dl_cat (ha : EvDL K ta σ H ds) (hb : EvDL K tb σ H es) (hz : ds.length + es.length ≤ 1000) : EvDL K (tOp rCat ta tb) σ H (ds ++ es) := fun H1 e Q q =>
  ha H1 e _ fun p xs H2 hp e2 h2 d2 => hb H2 (e.trans e2) _ fun r ys H3 hr e3 h3 d3 => ⟨p, r, xs, ys, rfl, rfl, e3 p _ h2, h3, by rw [dpa_len d2, dpa_len d3]; exact sz_of (by omega), fun l hl =>
    q l _ _ (fresh_back (e2.trans e3) hl) ((e2.trans e3).trans (Ex.new hl)) upd_same (dpa_app (dpa_ext (e3.trans (Ex.new hl)) d2) (dpa_ext (Ex.new hl) d3))⟩
/-- the left side a list that stands -/
theorem dl_cat1 {l : Addr} {xs : List V} (ha : Ev ta σ H (.ref l)) (hl : H l = some (.lst xs)) (da : DpAll K H xs ds) (hb : EvDL K tb σ H es) (hz : ds.length + es.length ≤ 1000) : EvDL K (tOp rCat ta tb) σ H (ds ++ es) := fun H1 e Q q =>
  ha H1 e _ fun H2 e2 => hb H2 (e.trans e2) _ fun r ys H3 hr e3 h3 d3 => ⟨l, r, xs, ys, rfl, rfl, e3 l _ (e2 l _ (e l _ hl)), h3, by rw [dpa_len da, dpa_len d3]; exact sz_of (by omega), fun m hm =>
    q m _ _ (fresh_back (e2.trans e3) hm) ((e2.trans e3).trans (Ex.new hm)) upd_same (dpa_app (dpa_ext (((e.trans e2).trans e3).trans (Ex.new hm)) da) (dpa_ext (Ex.new hm) d3))⟩
theorem dl_of {l : Addr} {xs : List V} (ha : Ev ta σ H (.ref l)) (hl : H l = some (.lst xs)) (da : DpAll K H xs ds) {l2 : Addr} {ys : List V} (hb : Ev tb σ H (.ref l2)) (hl2 : H l2 = some (.lst ys)) (db : DpAll K H ys es) (hz : ds.length + es.length ≤ 1000) : EvDL K (tOp rCat ta tb) σ H (ds ++ es) := fun H1 e Q q =>
  ha H1 e _ fun H2 e2 => hb H2 (e.trans e2) _ fun H3 e3 => ⟨l, l2, xs, ys, rfl, rfl, e3 l _ (e2 l _ (e l _ hl)), e3 l2 _ (e2 l2 _ (e l2 _ hl2)), by rw [dpa_len da, dpa_len db]; exact sz_of (by omega), fun m hm =>
    q m _ _ (fresh_back (e2.trans e3) hm) ((e2.trans e3).trans (Ex.new hm)) upd_same (dpa_app (dpa_ext (((e.trans e2).trans e3).trans (Ex.new hm)) da) (dpa_ext (((e.trans e2).trans e3).trans (Ex.new hm)) db))⟩
theorem dpa_rep {v : V} (h : Dp K H v d) : ∀ n : Nat, DpAll K H (List.replicate n v) (List.replicate n d)
  | 0 => .nil
  | n + 1 => .cons h (dpa_rep h n)
/-- [e] * n -/
theorem dl_rep {n : Nat} (h : EvDL K te σ H [d]) (hz : n ≤ 100) : EvDL K (tOp rRep te (tC (.int (n : Int)))) σ H (List.replicate n d) := fun H1 e Q q =>
  h H1 e _ fun p xs H2 hp e2 h2 da => by
    cases da with
    | @cons v _ _ _ hv hr =>
      cases hr
      refine ⟨p, (n : Int), [v], rfl, rfl, h2, by omega, by omega, by simp; exact sz_of (by omega), fun m hm => ?_⟩
      have e1 : ((n : Int).toNat) = n := Int.toNat_natCast n
      have e4 : (List.replicate n [v]).flatten = List.replicate n v := by
        clear e1 hm q h hz
        induction n with
        | zero => rfl
        | succ n ih => rw [List.replicate_succ, List.flatten_cons, ih]; rfl
      rw [e1, e4]
      exact q m _ _ (fresh_back e2 hm) (e2.trans (Ex.new hm)) upd_same (dpa_rep (dp_ext (Ex.new hm) hv) n)
/-- tuple(e) -/
theorem ed_tupleOf (h : EvD K te σ H d) (hd : d = .list ds ∨ d = .tuple ds) : EvD K (tThen te (kTup K)) σ H (.tuple ds) := fun H1 e Q q =>
  h H1 e _ fun v H2 e2 dp => by
    rcases hd with rfl | rfl
    · cases dp with
      | @lst a xs _ hs ha => exact .inl ⟨a, xs, rfl, hs, fun r hr => q (.ref r) _ (e2.trans (Ex.new hr)) (.tup (st_of upd_same) (dpa_ext (Ex.new hr) ha))⟩
    · cases dp with
      | @tup a xs _ hs ha => exact .inr ⟨a, xs, rfl, hs, q (.ref a) H2 e2 (.tup hs ha)⟩
/-- what repr asks -/
def okD (d : PyData) : Bool := d.showable && (!d.hasDict && (decide (d.shown.length ≤ 20000) && decide (d.depth ≤ 20)))
theorem ev_repr (h : EvD K te σ H d) (ok : okD d = true) : Ev (tCB (rRepr K) (tCons te tNil)) σ H (.str d.shown) := fun H1 e Q q => by
  obtain ⟨o1, o2⟩ := Bool.and_eq_true_iff.mp ok
  obtain ⟨o2, o3⟩ := Bool.and_eq_true_iff.mp o2
  obtain ⟨o3, o4⟩ := Bool.and_eq_true_iff.mp o3
  exact h H1 e _ fun v H2 e2 dp => ⟨v, d, rfl, dp, o1, by simpa using o2, sz_of (by have := of_decide_eq_true o3; omega), of_decide_eq_true o4, q H2 e2⟩
theorem et_same {s : Str} (h1 : Ev ta σ H (.str s)) (h2 : Ev tb σ H (.str s)) : EvT (tTest (tOp rNe ta tb)) σ H false :=
  et_is (et_test (ev_op h1 h2 (rv_ne rfl))) (by simp)
/-- a field of an error -/
theorem ed_fld {C : Addr} {flds : List (Str × PyData)} {a : Addr} {f : Str} {B nw ini : String} {bm : List Value} (h : Ev te σ H (.ref a)) (T : XC K B nw ini bm C) (no : PySem.W.findIn K (.ref C) f = some none) (er : Er K C flds a H) (hf : flds.lookup f = some d) :
    EvD K (tXFld K te f) σ H d := fun H1 e Q q => h H1 e _ fun H2 e2 => by
  obtain ⟨fs, xa, z⟩ := er_mono _ _ _ (e.trans e2) er
  obtain ⟨v, h1, h2⟩ := z f d hf
  exact ⟨a, C, fs, v, B, nw, ini, bm, rfl, T, xa, no, h1, q v H2 e2 h2⟩
theorem ed_fldN {C : Addr} {flds : List (Str × PyData)} {f : Str} {B nw ini : String} {bm : List Value} (h : EvN te σ H (Er K C flds)) (T : XC K B nw ini bm C) (no : PySem.W.findIn K (.ref C) f = some none) (hf : flds.lookup f = some d) :
    EvD K (tXFld K te f) σ H d := fun H1 e Q q => h H1 e _ fun a H2 _ e2 er => by
  obtain ⟨fs, xa, z⟩ := er
  obtain ⟨v, h1, h2⟩ := z f d hf
  exact ⟨a, C, fs, v, B, nw, ini, bm, rfl, T, xa, no, h1, q v H2 e2 h2⟩
theorem q_asgD {i : Nat} {tz : TS} {D : Ends} (h : EvDL K te σ H ds) (k : ∀ p xs H1, Ex H H1 → H1 p = some (.lst xs) → DpAll K H1 xs ds → tz D (σ.set i (some (.ref p))) H1) : tSeq (tAsg te (gName i)) tz D σ H := h H (Ex.refl H) _ fun p xs H1 _ e h1 da => k p xs H1 e h1 da
end
end K13

set_option linter.all false
/-! A1: finite scales, their algebra: joins, products, meets, what one grade leaves of another. -/
namespace Alg
variable {α : Type}
abbrev le (j : α → α → α) (a b : α) : Prop := j a b = b
structure Law (P : α → Prop) (j t : α → α → α) (lo hi : α) : Prop where
  jm : ∀ a b, P a → P b → P (j a b)
  tm : ∀ a b, P a → P b → P (t a b)
  pl : P lo
  ph : P hi
  jc : ∀ a b, P a → P b → j a b = j b a
  ja : ∀ a b c, P a → P b → P c → j (j a b) c = j a (j b c)
  ji : ∀ a, P a → j a a = a
  jl : ∀ a, P a → j lo a = a
  tc : ∀ a b, P a → P b → t a b = t b a
  ta : ∀ a b c, P a → P b → P c → t (t a b) c = t a (t b c)
  td : ∀ a b c, P a → P b → P c → t a (j b c) = j (t a b) (t a c)
  tl : ∀ a, P a → t lo a = lo
  th : ∀ a, P a → t hi a = a
  jh : ∀ a, P a → j hi a = hi
section
variable {P : α → Prop} {j t : α → α → α} {lo hi : α}
theorem Law.refl (L : Law P j t lo hi) {a : α} (ha : P a) : le j a a := L.ji a ha
theorem Law.trans (L : Law P j t lo hi) {a b c : α} (ha : P a) (hb : P b) (hc : P c) (h : le j a b) (k : le j b c) : le j a c := by
  show j a c = c
  have h' : j a b = b := h
  have k' : j b c = c := k
  calc j a c = j a (j b c) := by rw [k']
    _ = j (j a b) c := (L.ja a b c ha hb hc).symm
    _ = c := by rw [h', k']
theorem Law.anti (L : Law P j t lo hi) {a b : α} (ha : P a) (hb : P b) (h : le j a b) (k : le j b a) : a = b := by
  have h' : j a b = b := h
  have k' : j b a = a := k
  rw [← k', L.jc b a hb ha, h']
theorem Law.left (L : Law P j t lo hi) {a b : α} (ha : P a) (hb : P b) : le j a (j a b) := by
  show j a (j a b) = j a b
  rw [← L.ja a a b ha ha hb, L.ji a ha]
theorem Law.right (L : Law P j t lo hi) {a b : α} (ha : P a) (hb : P b) : le j b (j a b) := by
  rw [L.jc a b ha hb]
  exact L.left hb ha
theorem Law.join_le (L : Law P j t lo hi) {a b c : α} (ha : P a) (hb : P b) (hc : P c) : le j (j a b) c ↔ le j a c ∧ le j b c := by
  constructor
  · intro h
    exact ⟨L.trans ha (L.jm a b ha hb) hc (L.left ha hb) h, L.trans hb (L.jm a b ha hb) hc (L.right ha hb) h⟩
  · rintro ⟨h, k⟩
    show j (j a b) c = c
    rw [L.ja a b c ha hb hc, show j b c = c from k, show j a c = c from h]
theorem Law.bot (L : Law P j t lo hi) {a : α} (ha : P a) : le j lo a := L.jl a ha
theorem Law.top (L : Law P j t lo hi) {a : α} (ha : P a) : le j a hi := by
  show j a hi = hi
  rw [L.jc a hi ha L.ph, L.jh a ha]
theorem Law.mono (L : Law P j t lo hi) {a b c : α} (ha : P a) (hb : P b) (hc : P c) (h : le j b c) : le j (t a b) (t a c) := by
  show j (t a b) (t a c) = t a c
  rw [← L.td a b c ha hb hc, show j b c = c from h]
theorem Law.then_le (L : Law P j t lo hi) {a b : α} (ha : P a) (hb : P b) : le j (t a b) a := by
  have h := L.mono (a := a) (b := b) (c := hi) ha hb L.ph (L.top hb)
  rw [L.tc a hi ha L.ph, L.th a ha] at h
  exact h
theorem Law.then_le2 (L : Law P j t lo hi) {a b : α} (ha : P a) (hb : P b) : le j (t a b) b := by
  rw [L.tc a b ha hb]
  exact L.then_le hb ha
theorem Law.t_lo (L : Law P j t lo hi) {a : α} (ha : P a) : t a lo = lo := by rw [L.tc a lo ha L.pl, L.tl a ha]
theorem Law.t_hi (L : Law P j t lo hi) {a : α} (ha : P a) : t a hi = a := by rw [L.tc a hi ha L.ph, L.th a ha]
/-- the join of a row -/
def put (j : α → α → α) (e : α) : List α → α
  | [] => e
  | x :: r => r.foldl j x
theorem Law.fold_mem (L : Law P j t lo hi) : ∀ {r : List α} {x : α}, P x → (∀ y ∈ r, P y) → P (r.foldl j x)
  | [], _, hx, _ => hx
  | y :: r, x, hx, h => L.fold_mem (r := r) (x := j x y) (L.jm x y hx (h y List.mem_cons_self)) fun z hz => h z (List.mem_cons_of_mem _ hz)
theorem Law.fold_le (L : Law P j t lo hi) : ∀ {r : List α} {x c : α}, P x → (∀ y ∈ r, P y) → P c → (le j (r.foldl j x) c ↔ le j x c ∧ ∀ y ∈ r, le j y c)
  | [], _, _, _, _, _ => by simp
  | y :: r, x, c, hx, h, hc => by
    have hy := h y List.mem_cons_self
    have hr : ∀ z ∈ r, P z := fun z hz => h z (List.mem_cons_of_mem _ hz)
    rw [List.foldl_cons, L.fold_le (L.jm x y hx hy) hr hc, L.join_le hx hy hc]
    constructor
    · rintro ⟨⟨h1, h2⟩, h3⟩
      exact ⟨h1, fun z hz => by
        rcases List.mem_cons.mp hz with rfl | q
        · exact h2
        · exact h3 z q⟩
    · rintro ⟨h1, h2⟩
      exact ⟨⟨h1, h2 y List.mem_cons_self⟩, fun z hz => h2 z (List.mem_cons_of_mem _ hz)⟩
theorem Law.put_mem (L : Law P j t lo hi) {xs : List α} (h : ∀ y ∈ xs, P y) : P (put j lo xs) := by
  cases xs with
  | nil => exact L.pl
  | cons x r => exact L.fold_mem (h x List.mem_cons_self) fun z hz => h z (List.mem_cons_of_mem _ hz)
theorem Law.put_le (L : Law P j t lo hi) {xs : List α} {c : α} (h : ∀ y ∈ xs, P y) (hc : P c) : le j (put j lo xs) c ↔ ∀ y ∈ xs, le j y c := by
  cases xs with
  | nil => exact ⟨fun _ y hy => by simp at hy, fun _ => L.bot hc⟩
  | cons x r =>
    have z := L.fold_le (x := x) (r := r) (c := c) (h x List.mem_cons_self) (fun z hz => h z (List.mem_cons_of_mem _ hz)) hc
    show le j (r.foldl j x) c ↔ _
    rw [z]
    constructor
    · rintro ⟨h1, h2⟩ y hy
      rcases List.mem_cons.mp hy with rfl | q
      · exact h1
      · exact h2 y q
    · exact fun k => ⟨k x List.mem_cons_self, fun y hy => k y (List.mem_cons_of_mem _ hy)⟩
theorem Law.t_fold (L : Law P j t lo hi) {a : α} (ha : P a) : ∀ {r : List α} {x : α}, P x → (∀ y ∈ r, P y) → t a (r.foldl j x) = (r.map (t a)).foldl j (t a x)
  | [], _, _, _ => rfl
  | y :: r, x, hx, h => by
    have hy := h y List.mem_cons_self
    rw [List.foldl_cons, List.map_cons, List.foldl_cons, L.t_fold ha (L.jm x y hx hy) fun z hz => h z (List.mem_cons_of_mem _ hz), L.td a x y ha hx hy]
theorem Law.t_put (L : Law P j t lo hi) {a : α} (ha : P a) {xs : List α} (h : ∀ y ∈ xs, P y) : t a (put j lo xs) = put j lo (xs.map (t a)) := by
  cases xs with
  | nil => exact L.t_lo ha
  | cons x r => exact L.t_fold ha (h x List.mem_cons_self) fun z hz => h z (List.mem_cons_of_mem _ hz)
end
/-- a scale with its meets and what one grade leaves of another -/
structure Sca (P : α → Prop) (j t m o : α → α → α) (lo hi : α) : Prop where
  law : Law P j t lo hi
  mm : ∀ a b, P a → P b → P (m a b)
  om : ∀ a b, P a → P b → P (o a b)
  mg : ∀ a b d, P a → P b → P d → (le j d (m a b) ↔ le j d a ∧ le j d b)
  og : ∀ a b d, P a → P b → P d → (le j d (o a b) ↔ le j (t a d) b)
section
variable {P : α → Prop} {j t m o : α → α → α} {lo hi : α}
theorem Law.sca (L : Law P j t lo hi) {xm xo : α → α → List α} (em : ∀ a b, P a → P b → m a b = put j lo (xm a b)) (eo : ∀ a b, P a → P b → o a b = put j lo (xo a b))
    (hm : ∀ a b d, P a → P b → (d ∈ xm a b ↔ P d ∧ le j d a ∧ le j d b)) (ho : ∀ a b d, P a → P b → (d ∈ xo a b ↔ P d ∧ le j (t a d) b)) : Sca P j t m o lo hi := by
  have pm : ∀ a b, P a → P b → ∀ y ∈ xm a b, P y := fun a b ha hb y hy => ((hm a b y ha hb).mp hy).1
  have po : ∀ a b, P a → P b → ∀ y ∈ xo a b, P y := fun a b ha hb y hy => ((ho a b y ha hb).mp hy).1
  have mm : ∀ a b, P a → P b → P (m a b) := fun a b ha hb => by
    rw [em a b ha hb]
    exact L.put_mem (pm a b ha hb)
  have om : ∀ a b, P a → P b → P (o a b) := fun a b ha hb => by
    rw [eo a b ha hb]
    exact L.put_mem (po a b ha hb)
  refine ⟨L, mm, om, fun a b d ha hb hd => ?_, fun a b d ha hb hd => ?_⟩
  · constructor
    · intro h
      have h1 : le j (m a b) a := by
        rw [em a b ha hb]
        exact (L.put_le (pm a b ha hb) ha).mpr fun y hy => ((hm a b y ha hb).mp hy).2.1
      have h2 : le j (m a b) b := by
        rw [em a b ha hb]
        exact (L.put_le (pm a b ha hb) hb).mpr fun y hy => ((hm a b y ha hb).mp hy).2.2
      exact ⟨L.trans hd (mm a b ha hb) ha h h1, L.trans hd (mm a b ha hb) hb h h2⟩
    · rintro ⟨h1, h2⟩
      have z := (L.put_le (pm a b ha hb) (mm a b ha hb)).mp (by rw [← em a b ha hb]; exact L.refl (mm a b ha hb))
      exact z d ((hm a b d ha hb).mpr ⟨hd, h1, h2⟩)
  · constructor
    · intro h
      have h1 : le j (t a d) (t a (o a b)) := L.mono ha hd (om a b ha hb) h
      have h2 : le j (t a (o a b)) b := by
        rw [eo a b ha hb, L.t_put ha (po a b ha hb)]
        refine (L.put_le (fun y hy => ?_) hb).mpr fun y hy => ?_
        · obtain ⟨z, hz, rfl⟩ := List.mem_map.mp hy
          exact L.tm a z ha (po a b ha hb z hz)
        · obtain ⟨z, hz, rfl⟩ := List.mem_map.mp hy
          exact ((ho a b z ha hb).mp hz).2
      exact L.trans (L.tm a d ha hd) (L.tm a _ ha (om a b ha hb)) hb h1 h2
    · intro h
      have z := (L.put_le (po a b ha hb) (om a b ha hb)).mp (by rw [← eo a b ha hb]; exact L.refl (om a b ha hb))
      exact z d ((ho a b d ha hb).mpr ⟨hd, h⟩)
/-- two grades with the same grades within them are the same -/
theorem Law.ext (L : Law P j t lo hi) {a b : α} (ha : P a) (hb : P b) (h : ∀ d, P d → (le j d a ↔ le j d b)) : a = b :=
  L.anti ha hb ((h a ha).mp (L.refl ha)) ((h b hb).mpr (L.refl hb))
variable (S : Sca P j t m o lo hi) {a b c : α} (ha : P a) (hb : P b) (hc : P c)
include S ha hb
theorem Sca.meet_l : le j (m a b) a := ((S.mg a b _ ha hb (S.mm a b ha hb)).mp (S.law.refl (S.mm a b ha hb))).1
theorem Sca.meet_r : le j (m a b) b := ((S.mg a b _ ha hb (S.mm a b ha hb)).mp (S.law.refl (S.mm a b ha hb))).2
theorem Sca.back : le j (t a (o a b)) b := (S.og a b _ ha hb (S.om a b ha hb)).mp (S.law.refl (S.om a b ha hb))
omit hb in
theorem Sca.only_self : o a a = hi := S.law.ext (S.om a a ha ha) S.law.ph fun d hd => by
  rw [S.og a a d ha ha hd]
  exact ⟨fun _ => S.law.top hd, fun _ => S.law.then_le ha hd⟩
omit ha in
theorem Sca.only_hi : o hi b = b := S.law.ext (S.om hi b S.law.ph hb) hb fun d hd => by
  rw [S.og hi b d S.law.ph hb hd, S.law.th d hd]
omit ha in
theorem Sca.only_lo : o lo b = hi := S.law.ext (S.om lo b S.law.pl hb) S.law.ph fun d hd => by
  rw [S.og lo b d S.law.pl hb hd, S.law.tl d hd]
  exact ⟨fun _ => S.law.top hd, fun _ => S.law.bot hb⟩
theorem Sca.only_top : o a b = hi ↔ le j a b := by
  constructor
  · intro h
    have z := (S.og a b hi ha hb S.law.ph).mp (by rw [h]; exact S.law.refl S.law.ph)
    rw [S.law.t_hi ha] at z
    exact z
  · intro h
    exact S.law.ext (S.om a b ha hb) S.law.ph fun d hd => by
      rw [S.og a b d ha hb hd]
      exact ⟨fun _ => S.law.top hd, fun _ => S.law.trans (S.law.tm a d ha hd) ha hb (S.law.then_le ha hd) h⟩
include hc
theorem Sca.within_only : le j c (o a b) ↔ le j (t c a) b := by
  rw [S.og a b c ha hb hc, S.law.tc a c ha hc]
theorem Sca.only_only : o c (o a b) = o (t a c) b := S.law.ext (S.om c _ hc (S.om a b ha hb)) (S.om _ b (S.law.tm a c ha hc) hb) fun d hd => by
  rw [S.og c _ d hc (S.om a b ha hb) hd, S.og a b _ ha hb (S.law.tm c d hc hd), S.og _ b d (S.law.tm a c ha hc) hb hd, S.law.ta a c d ha hc hd]
theorem Sca.only_join : o (j a c) b = m (o a b) (o c b) := S.law.ext (S.om _ b (S.law.jm a c ha hc) hb) (S.mm _ _ (S.om a b ha hb) (S.om c b hc hb)) fun d hd => by
  rw [S.og _ b d (S.law.jm a c ha hc) hb hd, S.mg _ _ d (S.om a b ha hb) (S.om c b hc hb) hd, S.og a b d ha hb hd, S.og c b d hc hb hd, S.law.tc _ d (S.law.jm a c ha hc) hd, S.law.td d a c hd ha hc, S.law.tc d a hd ha, S.law.tc d c hd hc]
  exact S.law.join_le (S.law.tm a d ha hd) (S.law.tm c d hc hd) hb
theorem Sca.only_meet : o a (m b c) = m (o a b) (o a c) := S.law.ext (S.om a _ ha (S.mm b c hb hc)) (S.mm _ _ (S.om a b ha hb) (S.om a c ha hc)) fun d hd => by
  rw [S.og a _ d ha (S.mm b c hb hc) hd, S.mg b c _ hb hc (S.law.tm a d ha hd), S.mg _ _ d (S.om a b ha hb) (S.om a c ha hc) hd, S.og a b d ha hb hd, S.og a c d ha hc hd]
theorem Sca.meet_meet : m (m a b) c = m a (m b c) := S.law.ext (S.mm _ c (S.mm a b ha hb) hc) (S.mm a _ ha (S.mm b c hb hc)) fun d hd => by
  rw [S.mg _ c d (S.mm a b ha hb) hc hd, S.mg a b d ha hb hd, S.mg a _ d ha (S.mm b c hb hc) hd, S.mg b c d hb hc hd, and_assoc]
omit hc
theorem Sca.then_meet : le j (t a b) (m a b) := (S.mg a b _ ha hb (S.law.tm a b ha hb)).mpr ⟨S.law.then_le ha hb, S.law.then_le2 ha hb⟩
end
end Alg
namespace Alg
/-- two scales side by side -/
theorem Law.pair {α β γ : Type} {P : α → Prop} {R : β → Prop} {j1 t1 : α → α → α} {j2 t2 : β → β → β} {l1 h1 : α} {l2 h2 : β} {pr : α → β → γ} {j t : γ → γ → γ} (L : Law P j1 t1 l1 h1) (M : Law R j2 t2 l2 h2)
    (ej : ∀ a b c d, P a → R b → P c → R d → j (pr a b) (pr c d) = pr (j1 a c) (j2 b d)) (et : ∀ a b c d, P a → R b → P c → R d → t (pr a b) (pr c d) = pr (t1 a c) (t2 b d)) :
    Law (fun x => ∃ a b, P a ∧ R b ∧ x = pr a b) j t (pr l1 l2) (pr h1 h2) where
  jm := by
    rintro _ _ ⟨a, b, ha, hb, rfl⟩ ⟨c, d, hc, hd, rfl⟩
    exact ⟨_, _, L.jm a c ha hc, M.jm b d hb hd, ej a b c d ha hb hc hd⟩
  tm := by
    rintro _ _ ⟨a, b, ha, hb, rfl⟩ ⟨c, d, hc, hd, rfl⟩
    exact ⟨_, _, L.tm a c ha hc, M.tm b d hb hd, et a b c d ha hb hc hd⟩
  pl := ⟨_, _, L.pl, M.pl, rfl⟩
  ph := ⟨_, _, L.ph, M.ph, rfl⟩
  jc := by
    rintro _ _ ⟨a, b, ha, hb, rfl⟩ ⟨c, d, hc, hd, rfl⟩
    rw [ej a b c d ha hb hc hd, ej c d a b hc hd ha hb, L.jc a c ha hc, M.jc b d hb hd]
  ja := by
    rintro _ _ _ ⟨a, b, ha, hb, rfl⟩ ⟨c, d, hc, hd, rfl⟩ ⟨e, f, he, hf, rfl⟩
    rw [ej a b c d ha hb hc hd, ej _ _ e f (L.jm a c ha hc) (M.jm b d hb hd) he hf, ej c d e f hc hd he hf, ej a b _ _ ha hb (L.jm c e hc he) (M.jm d f hd hf), L.ja a c e ha hc he, M.ja b d f hb hd hf]
  ji := by
    rintro _ ⟨a, b, ha, hb, rfl⟩
    rw [ej a b a b ha hb ha hb, L.ji a ha, M.ji b hb]
  jl := by
    rintro _ ⟨a, b, ha, hb, rfl⟩
    rw [ej _ _ a b L.pl M.pl ha hb, L.jl a ha, M.jl b hb]
  tc := by
    rintro _ _ ⟨a, b, ha, hb, rfl⟩ ⟨c, d, hc, hd, rfl⟩
    rw [et a b c d ha hb hc hd, et c d a b hc hd ha hb, L.tc a c ha hc, M.tc b d hb hd]
  ta := by
    rintro _ _ _ ⟨a, b, ha, hb, rfl⟩ ⟨c, d, hc, hd, rfl⟩ ⟨e, f, he, hf, rfl⟩
    rw [et a b c d ha hb hc hd, et _ _ e f (L.tm a c ha hc) (M.tm b d hb hd) he hf, et c d e f hc hd he hf, et a b _ _ ha hb (L.tm c e hc he) (M.tm d f hd hf), L.ta a c e ha hc he, M.ta b d f hb hd hf]
  td := by
    rintro _ _ _ ⟨a, b, ha, hb, rfl⟩ ⟨c, d, hc, hd, rfl⟩ ⟨e, f, he, hf, rfl⟩
    rw [ej c d e f hc hd he hf, et a b _ _ ha hb (L.jm c e hc he) (M.jm d f hd hf), et a b c d ha hb hc hd, et a b e f ha hb he hf, ej _ _ _ _ (L.tm a c ha hc) (M.tm b d hb hd) (L.tm a e ha he) (M.tm b f hb hf), L.td a c e ha hc he, M.td b d f hb hd hf]
  tl := by
    rintro _ ⟨a, b, ha, hb, rfl⟩
    rw [et _ _ a b L.pl M.pl ha hb, L.tl a ha, M.tl b hb]
  th := by
    rintro _ ⟨a, b, ha, hb, rfl⟩
    rw [et _ _ a b L.ph M.ph ha hb, L.th a ha, M.th b hb]
  jh := by
    rintro _ ⟨a, b, ha, hb, rfl⟩
    rw [ej _ _ a b L.ph M.ph ha hb, L.jh a ha, M.jh b hb]
/-- the same with another word for the same grades -/
theorem Law.same {α : Type} {P R : α → Prop} {j t : α → α → α} {lo hi : α} (L : Law P j t lo hi) (h : ∀ x, R x ↔ P x) : Law R j t lo hi := by
  have e : R = P := funext fun x => propext (h x)
  rw [e]
  exact L
end Alg

set_option Elab.async false
set_option linter.all false
set_option maxRecDepth 100000
set_option maxHeartbeats 4000000
/-! S1: x in o by o's own __contains__; C.f(..) by a class's name. -/
namespace S
open PySem PySem.Spec PyProof.Rows L2 Evl J ClX StX
/-- o's own __contains__ tells so -/
def rInOwn (C : Addr) (sp : Sp) (E : XK) (neg : Bool) : R2 := fun x y H Q => ∃ a dx fs, y = .ref a ∧ H a = some (.ins C dx fs) ∧ sp [.ref a, x] H (fun v H' => ∃ b, v = .bl b ∧ Q (.bl (if neg then !b else b)) H') E
def tCFun (C : Addr) (sp : Sp) (dvs : List V) (E : XK) (ta : TE) (t : TA) : TE := fun σ H Q => ta σ H fun x H1 => x = .ref C ∧ t σ H1 fun vs H2 => sp (vs ++ dvs) H2 Q E
section
variable {X : Cx} {CX : CXT} {k : Nat} {C f : Addr} {fd : FuncData} {ps : List Str} {sp : Sp} {E : XK} {mc : Value} {o e : Expr} {es : List Expr} {m : Str} {pos apos : Pos} {ta : TE} {t : TA} {pl : Sem Bool} {dvs : List V} {ds : List Value}
theorem op_inOwn (F : FnOk X.prog X.w X.K X.mg X.base CX k f fd ps sp) (hr : Room k X.A) (hs : PySem.W.findIn X.K (.ref C) "__contains__" = some (some (.ref f))) (hf : PySem.W.isFn X.K (.ref f) = true) (hb : Binds X.K fd ps []) (hx : Passes CX X E) :
    OpR X (compareOp .In) (rInOwn C sp E false) := by
  intro pins s σ H x y v u Q I rx ry ⟨a, dx, fs, ey, ha, h⟩
  subst ey
  obtain rfl : u = Value.ref a := ry
  obtain ⟨mA, J, _⟩ := ins_get I.hok ha
  obtain ⟨od, J, _⟩ := J.look
  obtain ⟨m, hF⟩ := I.fr
  refine PySem.W.in_K hF I.ok.mod.kin J hs hf (thn (run_fn (us := [.ref a, v]) (vs := [.ref a, x]) F hr hb .nil hx I (.cons rfl (.cons rx .nil)) h) fun r s' ⟨z, H', I', rz, b, ez, q⟩ => ?_)
  subst ez
  obtain rfl : r = Value.bool b := rz
  exact wpAny_truthy_bool ⟨.bl b, H', I', rfl, q⟩
theorem op_niOwn (F : FnOk X.prog X.w X.K X.mg X.base CX k f fd ps sp) (hr : Room k X.A) (hs : PySem.W.findIn X.K (.ref C) "__contains__" = some (some (.ref f))) (hf : PySem.W.isFn X.K (.ref f) = true) (hb : Binds X.K fd ps []) (hx : Passes CX X E) :
    OpR X (compareOp .NotIn) (rInOwn C sp E true) := by
  intro pins s σ H x y v u Q I rx ry ⟨a, dx, fs, ey, ha, h⟩
  subst ey
  obtain rfl : u = Value.ref a := ry
  obtain ⟨mA, J, _⟩ := ins_get I.hok ha
  obtain ⟨od, J, _⟩ := J.look
  obtain ⟨m, hF⟩ := I.fr
  refine PySem.W.notIn_K hF I.ok.mod.kin J hs hf (thn (run_fn (us := [.ref a, v]) (vs := [.ref a, x]) F hr hb .nil hx I (.cons rfl (.cons rx .nil)) h) fun r s' ⟨z, H', I', rz, b, ez, q⟩ => ?_)
  subst ez
  obtain rfl : r = Value.bool b := rz
  exact wpAny_truthy_bool ⟨.bl (!b), H', I', rfl, q⟩
/-- C.f(e, ..), f a plain def of C's -/
theorem pe_cfun (he : PE X o ta) (r : CRead X.K C mc) (c : PySem.W.findCls X.K (.ref C) mc m = some (.val (.ref f))) (hk : PySem.W.keepIn X.K (.ref f) = true) (F : FnOk X.prog X.w X.K X.mg X.base CX k f fd ps sp) (hr : Room k X.A) (hb : Binds X.K fd ps ds) (hd : Vals dvs ds) (hx : Passes CX X E) (ha : PA X (e :: es) t)
    (hst : starEach (e :: es) X.env = (false, eval e X.env) :: starEach es X.env := by rfl) (hpl : (backTo pos (starEach es X.env)).any (·.1) = false := by rfl)
    (ht : eval (.Call (.Attribute o m apos) (e :: es) [] pos) X.env = (do
      let ov ← eval o X.env
      standAt apos.atName
      let (f, first) ← holding [ov] (getMethod ov m pl)
      callWith pos f first (backTo pos (starEach (e :: es) X.env)) (backToKw pos (keywordEach [] X.env))) := by rfl) :
    PE X (.Call (.Attribute o m apos) (e :: es) [] pos) (tCFun C sp dvs E ta t) := by
  refine ⟨fun pins s σ H Q I h => ?_⟩
  refine PySem.W.methodCall_KW (pl := pl) (thn (he.run pins s σ H _ I h) fun u s1 ⟨x, H1, I1, rx, ex, q⟩ => ?_) ht
  subst ex
  obtain rfl : u = Value.ref C := rx
  refine PySem.W.method_cls I1.kIn r.ga (PySem.W.cls_value I1.kIn r.rd c rfl ?_)
  have I2 := I1.tok (s1.toks + 1)
  refine PySem.W.callWith_K (first := []) (h₀ := X.base) I2.ok.mod.kin hk (thn (ha.run pos pins _ σ H1 _ I2 q) fun us s2 ⟨vs, H2, I3, rv, q2⟩ => ⟨I3.kIn, ?_⟩) hst hpl
  exact run_fn F hr hb hd hx I3 rv q2
end
end S

set_option Elab.async false
set_option linter.all false
set_option maxRecDepth 100000
set_option maxHeartbeats 4000000
/-! S2: a class's defs in short; a scale's object. -/
namespace S
open PySem PySem.Spec PyProof.Rows L2 Evl J ClX StX
/-- a class's def, with its promise -/
structure MCal (P : Program) (w : World) (K : PySem.W.Frag) (mg : Str → Option Value) (base : Heap) (CX : CXT) (k : Nat) (C : Addr) (m : Str) (ps : List Str) (sp : Sp) : Prop where
  ex : ∃ (f : Addr) (fd : FuncData), Cls K C ∧ Meth K C m f ∧ Binds K fd ps [] ∧ FnOk P w K mg base CX k f fd ps sp
/-- what of an instance's class is read: its fields stand in no class -/
structure ClsF (K : PySem.W.Frag) (C : Addr) (fl : List Str) : Prop where
  cl : Cls K C
  no : ∀ f ∈ fl, NoAttr K C f
section
variable {X : Cx} {CX : CXT} {k : Nat} {C : Addr} {m : Str} {ps : List Str} {sp : Sp} {E : XK} {o e : Expr} {es : List Expr} {pos apos : Pos} {ta : TE} {t : TA} {pl : Sem Bool}
theorem MCal.mono {P : Program} {w : World} {K : PySem.W.Frag} {mg : Str → Option Value} {base : Heap} {j : Nat} (c : MCal P w K mg base CX j C m ps sp) (h : j ≤ k) : MCal P w K mg base CX k C m ps sp := by
  obtain ⟨f, fd, q1, q2, q3, q4⟩ := c.ex
  exact ⟨f, fd, q1, q2, q3, q4.mono h⟩
theorem pe_mcal (c : MCal X.prog X.w X.K X.mg X.base CX k C m ps sp) (he : PE X o ta) (hr : Room k X.A) (hx : Passes CX X E) (ha : PA X (e :: es) t)
    (hst : starEach (e :: es) X.env = (false, eval e X.env) :: starEach es X.env := by rfl) (hpl : (backTo pos (starEach es X.env)).any (·.1) = false := by rfl)
    (ht : eval (.Call (.Attribute o m apos) (e :: es) [] pos) X.env = (do
      let ov ← eval o X.env
      standAt apos.atName
      let (f, first) ← holding [ov] (getMethod ov m pl)
      callWith pos f first (backTo pos (starEach (e :: es) X.env)) (backToKw pos (keywordEach [] X.env))) := by rfl) :
    PE X (.Call (.Attribute o m apos) (e :: es) [] pos) (tMeth C m sp [] E ta t) := by
  obtain ⟨f, fd, q1, q2, q3, q4⟩ := c.ex
  exact pe_meth he q1 q2 q4 hr q3 .nil hx ha hst hpl ht
theorem pe_mcal0 (c : MCal X.prog X.w X.K X.mg X.base CX k C m ps sp) (he : PE X o ta) (hr : Room k X.A) (hx : Passes CX X E)
    (ht : eval (.Call (.Attribute o m apos) [] [] pos) X.env = (do
      let ov ← eval o X.env
      standAt apos.atName
      let (f, first) ← holding [ov] (getMethod ov m pl)
      callWith pos f first (backTo pos (starEach [] X.env)) (backToKw pos (keywordEach [] X.env))) := by rfl) :
    PE X (.Call (.Attribute o m apos) [] [] pos) (tMeth C m sp [] E ta tNil) := by
  obtain ⟨f, fd, q1, q2, q3, q4⟩ := c.ex
  exact pe_meth0 he q1 q2 q4 hr q3 .nil hx ht
theorem op_niM (c : MCal X.prog X.w X.K X.mg X.base CX k C "__contains__" ps sp) (hr : Room k X.A) (hx : Passes CX X E) : OpR X (compareOp .NotIn) (rInOwn C sp E true) := by
  obtain ⟨f, fd, q1, q2, q3, q4⟩ := c.ex
  exact op_niOwn q4 hr q2.at_ q2.fn q3 hx
theorem op_inM (c : MCal X.prog X.w X.K X.mg X.base CX k C "__contains__" ps sp) (hr : Room k X.A) (hx : Passes CX X E) : OpR X (compareOp .In) (rInOwn C sp E false) := by
  obtain ⟨f, fd, q1, q2, q3, q4⟩ := c.ex
  exact op_inOwn q4 hr q2.at_ q2.fn q3 hx
end
/-! ### readings -/
section
variable {K : PySem.W.Frag} {σ : L2.St} {H : Hp} {te ta tb : TE} {t : TA} {a C dx : Addr} {fs : List (Str × V)} {v z : V} {f m : Str} {sp : Sp} {vs : List V}
theorem ev_fld (h : Ev te σ H (.ref a)) (c : Cls K C) (n : NoAttr K C f) (ha : H a = some (.ins C dx fs)) (l : fs.lookup f = some v) : Ev (tFld K te f) σ H v := fun H1 e Q q =>
  h H1 e _ fun H2 e2 => ⟨a, C, dx, fs, v, rfl, e2 _ _ (e _ _ ha), c, n, l, q H2 e2⟩
/-- o.m(..) whose promise tells one value -/
theorem ev_mcal (h : Ev te σ H (.ref a)) (hA : EvA t σ H vs) (ha : H a = some (.ins C dx fs)) (l : fs.lookup m = none) (s : ∀ H1, Ex H H1 → ∀ Q : VK, RetV z H1 Q → sp (.ref a :: vs ++ []) H1 Q E0) : Ev (tMeth C m sp [] E0 te t) σ H z := fun H1 e Q q =>
  h H1 e _ fun H2 e2 => ⟨a, dx, fs, rfl, e2 _ _ (e _ _ ha), l, hA H2 (e.trans e2) _ fun H3 e3 => s H3 ((e.trans e2).trans e3) Q fun H4 e4 => q H4 ((e2.trans e3).trans e4)⟩
theorem el_mcal {xs : List V} (h : Ev te σ H (.ref a)) (hA : EvA t σ H vs) (ha : H a = some (.ins C dx fs)) (l : fs.lookup m = none) (s : ∀ H1, Ex H H1 → ∀ Q : VK, RetL xs H1 Q → sp (.ref a :: vs ++ []) H1 Q E0) : EvL (tMeth C m sp [] E0 te t) σ H xs := fun H1 e Q q =>
  h H1 e _ fun H2 e2 => ⟨a, dx, fs, rfl, e2 _ _ (e _ _ ha), l, hA H2 (e.trans e2) _ fun H3 e3 => s H3 ((e.trans e2).trans e3) Q fun p H4 n4 e4 h4 => q p H4 (fresh_back (e2.trans e3) n4) ((e2.trans e3).trans e4) h4⟩
theorem ev_dget {d : Addr} {kvs : List (Key × V)} {key : Key} (h : Ev ta σ H (.ref d)) (hk : Ev tb σ H (kV key)) (hd : H d = some (.dK kvs)) (hv : valV kvs key = some v) : Ev (tDGet ta tb) σ H v := fun H1 e Q q =>
  h H1 e _ fun H2 e2 => hk H2 (e.trans e2) _ fun H3 e3 => ⟨d, v, rfl, by rw [← hv]; exact DGet.k (e3 _ _ (e2 _ _ (e _ _ hd))), q H3 (e2.trans e3)⟩
theorem ev_din {d : Addr} {kvs : List (Key × V)} {key : Key} (hk : Ev tb σ H (kV key)) (h : Ev ta σ H (.ref d)) (hd : H d = some (.dK kvs)) : Ev (tDIn tb ta) σ H (.bl (valV kvs key).isSome) := fun H1 e Q q =>
  hk H1 e _ fun H2 e2 => h H2 (e.trans e2) _ fun H3 e3 => ⟨d, _, rfl, DGet.k (e3 _ _ (e2 _ _ (e _ _ hd))), q H3 (e2.trans e3)⟩
theorem ev_isi {u w : String} {b : Bool} (h : Ev te σ H v) (ty : ∀ H1, Ex H H1 → TyX K H1 v (.type w)) (kb : kitB w u = some b) : Ev (tCB (rIsi K) (tCons te (tCons (tC (.ty u)) tNil))) σ H (.bl b) := fun H1 e Q q =>
  h H1 e _ fun H2 e2 => ⟨v, .ty u, .type w, .type u, b, rfl, .ty u, ty H2 (e.trans e2), kit_ty kb, q H2 e2⟩
theorem ev_niO {b : Bool} {x : V} (hx : Ev ta σ H x) (h : Ev tb σ H (.ref a)) (ha : H a = some (.ins C dx fs)) (s : ∀ H1, Ex H H1 → ∀ Q : VK, RetV (.bl b) H1 Q → sp [.ref a, x] H1 Q E0) : Ev (tOp (rInOwn C sp E0 true) ta tb) σ H (.bl (!b)) := fun H1 e Q q =>
  hx H1 e _ fun H2 e2 => h H2 (e.trans e2) _ fun H3 e3 => ⟨a, dx, fs, rfl, e3 _ _ (e2 _ _ (e _ _ ha)), s H3 ((e.trans e2).trans e3) _ fun H4 e4 => ⟨b, rfl, q H4 ((e2.trans e3).trans e4)⟩⟩
end
/-! ### a scale's object -/
def tab (rows : List (List Str)) : PyData := .tuple (rows.map fun r => .tuple (r.map .str))
/-- the places of the grades -/
def plc : List Str → Nat → List (Key × V)
  | [], _ => []
  | x :: r, i => (Sum.inr x, .int (i : Int)) :: plc r (i + 1)
structure Wf (G : List Str) (J : List (List Str)) : Prop where
  len : J.length = G.length
  row : ∀ r ∈ J, r.length = G.length
  at_ : ∀ r ∈ J, ∀ x ∈ r, x ∈ G
def ap (G : List Str) (J : List (List Str)) (x y : Str) : Str := (J.getD (G.idxOf x) []).getD (G.idxOf y) ""
/-- none of the scales' defs is hidden by a field -/
def mths : List Str := ["_place", "join", "then", "grades", "joined", "_put_together", "__contains__", "meet", "met", "only"]
/-- a scale, as far as its first six fields tell -/
structure ScAt (K : PySem.W.Frag) (C : Addr) (H : Hp) (a : Addr) (G : List Str) (J T : List (List Str)) (lo hi : Str) : Prop where
  ex : ∃ (dx : Addr) (fs : List (Str × V)) (g d : Addr) (j t : V), H a = some (.ins C dx fs) ∧ fs.lookup ("_grades" : Str) = some (.ref g) ∧ SqT K H g (G.map .str) ∧ fs.lookup ("_places" : Str) = some (.ref d) ∧ H d = some (.dK (plc G 0)) ∧
    fs.lookup ("_joins" : Str) = some j ∧ Dp K H j (tab J) ∧ fs.lookup ("_products" : Str) = some t ∧ Dp K H t (tab T) ∧ fs.lookup ("none" : Str) = some (.str lo) ∧ fs.lookup ("nearest" : Str) = some (.str hi) ∧ ∀ m ∈ mths, fs.lookup m = none
  nd : G.Nodup
  sz : G.length ≤ 12
  wj : Wf G J
  wt : Wf G T
  lo : lo ∈ G
  hi : hi ∈ G
theorem ScAt.ext {K : PySem.W.Frag} {C : Addr} {H H' : Hp} {a : Addr} {G : List Str} {J T : List (List Str)} {lo hi : Str} (h : ScAt K C H a G J T lo hi) (e : Ex H H') : ScAt K C H' a G J T lo hi := by
  obtain ⟨dx, fs, g, d, j, t, h1, h2, h3, h4, h5, h6, h7, h8, h9, h10⟩ := h.ex
  exact ⟨⟨dx, fs, g, d, j, t, e _ _ h1, h2, ex_t e h3, h4, e _ _ h5, h6, dp_ext e h7, h8, dp_ext e h9, h10⟩, h.nd, h.sz, h.wj, h.wt, h.lo, h.hi⟩
theorem plc_none {x : Str} : ∀ {G : List Str} {i : Nat}, x ∉ G → valV (plc G i) (Sum.inr x) = none
  | [], _, _ => rfl
  | y :: r, i, h => by
    have hy : y ≠ x := fun z => h (by rw [z]; exact List.mem_cons_self)
    have hr : x ∉ r := fun z => h (List.mem_cons_of_mem _ z)
    have ih := plc_none (i := i + 1) hr
    unfold valV at ih ⊢
    unfold plc
    rw [List.find?_cons_of_neg]
    · exact ih
    · simpa using hy
theorem plc_some {x : Str} : ∀ {G : List Str} {i : Nat}, x ∈ G → valV (plc G i) (Sum.inr x) = some (.int ((i + G.idxOf x : Nat) : Int))
  | [], _, h => by simp at h
  | y :: r, i, h => by
    unfold valV plc
    by_cases hy : y = x
    · subst hy
      rw [List.find?_cons_of_pos (by simp)]
      simp
    · have hr : x ∈ r := by
        rcases List.mem_cons.mp h with z | z
        · exact absurd z.symm hy
        · exact z
      have ih := plc_some (i := i + 1) hr
      unfold valV at ih
      rw [List.find?_cons_of_neg (by simpa using hy), ih, List.idxOf_cons]
      have : (y == x) = false := by simpa using hy
      simp only [this, cond_false]
      congr 2
      omega
theorem idx_lt {G : List Str} {x : Str} (h : x ∈ G) : G.idxOf x < G.length := List.idxOf_lt_length_iff.mpr h
theorem ap_mem {G : List Str} {J : List (List Str)} {x y : Str} (w : Wf G J) (hx : x ∈ G) (hy : y ∈ G) : ap G J x y ∈ G := by
  unfold ap
  have h1 : G.idxOf x < J.length := by rw [w.len]; exact idx_lt hx
  have e1 : J.getD (G.idxOf x) [] = J[G.idxOf x] := by rw [List.getD_eq_getElem?_getD, List.getElem?_eq_getElem h1]; rfl
  rw [e1]
  have m1 : J[G.idxOf x] ∈ J := List.getElem_mem h1
  have h2 : G.idxOf y < (J[G.idxOf x]).length := by rw [w.row _ m1]; exact idx_lt hy
  rw [List.getD_eq_getElem?_getD, List.getElem?_eq_getElem h2]
  exact w.at_ _ m1 _ (List.getElem_mem h2)
/-- the entry at two grades' places -/
theorem tab_at {K : PySem.W.Frag} {H : Hp} {G : List Str} {J : List (List Str)} {j : V} {x y : Str} (w : Wf G J) (dp : Dp K H j (tab J)) (hx : x ∈ G) (hy : y ∈ G) :
    ∃ p r ys zs, j = .ref p ∧ SqT K H p ys ∧ atI ys (G.idxOf x : Int) = some (.ref r) ∧ SqT K H r zs ∧ atI zs (G.idxOf y : Int) = some (.str (ap G J x y)) := by
  have h1 : G.idxOf x < J.length := by rw [w.len]; exact idx_lt hx
  have m1 : J[G.idxOf x] ∈ J := List.getElem_mem h1
  have h2 : G.idxOf y < (J[G.idxOf x]).length := by rw [w.row _ m1]; exact idx_lt hy
  have ea : ap G J x y = (J[G.idxOf x])[G.idxOf y] := by
    unfold ap
    have e1 : J.getD (G.idxOf x) [] = J[G.idxOf x] := by rw [List.getD_eq_getElem?_getD, List.getElem?_eq_getElem h1]; rfl
    rw [e1, List.getD_eq_getElem?_getD, List.getElem?_eq_getElem h2]
    rfl
  unfold tab at dp
  cases dp with
  | @tup p ys _ hs ha =>
    have hl := dpa_len ha
    rw [List.length_map] at hl
    have hv : ys[G.idxOf x]? = some ys[G.idxOf x] := List.getElem?_eq_getElem (by omega)
    obtain ⟨d1, hd1, dp1⟩ := dpa_get ha hv
    rw [List.getElem?_map, List.getElem?_eq_getElem h1] at hd1
    obtain rfl := Option.some.inj hd1
    generalize hyx : ys[G.idxOf x] = u at *
    cases dp1 with
    | @tup r zs _ hs2 ha2 =>
      have hl2 := dpa_len ha2
      rw [List.length_map] at hl2
      have hv2 : zs[G.idxOf y]? = some zs[G.idxOf y] := List.getElem?_eq_getElem (by omega)
      obtain ⟨d2, hd2, dp2⟩ := dpa_get ha2 hv2
      rw [List.getElem?_map, List.getElem?_eq_getElem h2] at hd2
      obtain rfl := Option.some.inj hd2
      generalize hyz : zs[G.idxOf y] = z at *
      cases dp2
      exact ⟨p, r, ys, zs, rfl, hs, atI_nat hv, hs2, by rw [ea]; exact atI_nat hv2⟩
end S

set_option Elab.async false
set_option linter.all false
set_option maxRecDepth 100000
set_option maxHeartbeats 8000000
/-! S3: a scale's defs: __contains__, _place, join, then, grades. -/
namespace K06
open PySem PySem.Spec PyProof.Rows L2 Evl J ClX StX S
def topS (i : Nat) : Stmt := PySem.Challenge.pw_neargrades_k06_all_maps.main.body.getD i (.Pass ⟨0, 0, 0, 0⟩)
def methS (c j : Nat) : Stmt := match topS c with
  | .ClassDef _ _ _ body _ _ _ _ _ _ _ => body.getD j (.Pass ⟨0, 0, 0, 0⟩)
  | s => s
abbrev FnP (K : PySem.W.Frag) (x : Str) (st : Stmt) (f : Addr) (fd : FuncData) : Prop := FunD K x x (defArgs st) (defBody st) (defScope st) [] [] f fd
abbrev FnM (K : PySem.W.Frag) (x q : Str) (st : Stmt) (f : Addr) (fd : FuncData) : Prop := FunD K x q (defArgs st) (defBody st) (defScope st) [] [] f fd
structure Bl (mg : Str → Option Value) : Prop where
  isi : mg "isinstance" = none
  str : mg "str" = none
  lst : mg "list" = none
  tup : mg "tuple" = none
  int : mg "int" = none
  len : mg "len" = none
  rng : mg "range" = none
abbrev sHas : Stmt := methS 27 1
abbrev sGrades : Stmt := methS 27 4
abbrev sJoin : Stmt := methS 27 5
abbrev sThen : Stmt := methS 27 6
abbrev sPlace : Stmt := methS 27 11
def fldN : List Str := ["none", "nearest", "_grades", "_places", "_joins", "_products", "_meets", "_onlys"]
def spHas (K : PySem.W.Frag) (C : Addr) : Sp := fun vs H Q _ => ∃ (a : Addr) (x : Str) (G : List Str) (J T : List (List Str)) (lo hi : Str), vs = [.ref a, .str x] ∧ ScAt K C H a G J T lo hi ∧ RetV (.bl (decide (x ∈ G))) H Q
def spPlace (K : PySem.W.Frag) (C : Addr) : Sp := fun vs H Q _ => ∃ (a : Addr) (x : Str) (G : List Str) (J T : List (List Str)) (lo hi : Str), vs = [.ref a, .str x] ∧ ScAt K C H a G J T lo hi ∧ x ∈ G ∧ RetV (.int (G.idxOf x : Int)) H Q
def spJoin (K : PySem.W.Frag) (C : Addr) (then_ : Bool) : Sp := fun vs H Q _ => ∃ (a : Addr) (x y : Str) (G : List Str) (J T : List (List Str)) (lo hi : Str), vs = [.ref a, .str x, .str y] ∧ ScAt K C H a G J T lo hi ∧ x ∈ G ∧ y ∈ G ∧ RetV (.str (ap G (if then_ then T else J) x y)) H Q
def spGrades (K : PySem.W.Frag) (C : Addr) : Sp := fun vs H Q _ => ∃ (a : Addr) (G : List Str) (J T : List (List Str)) (lo hi : Str), vs = [.ref a] ∧ ScAt K C H a G J T lo hi ∧ RetL (G.map V.str) H Q
section
variable {P : Program} {w : World} {K : PySem.W.Frag} {mg : Str → Option Value} {base : Heap} {f : Addr} {fd : FuncData} {C : Addr}
abbrev NHas : List Str := ["self", "x"]
abbrev NPlace : List Str := ["self", "grade"]
abbrev NJoin : List Str := ["self", "a", "b"]
theorem scHas : FnScope NHas ["self", "x"] (defScope sHas) := ⟨rfl, rfl, rfl, by decide +kernel, rfl, by decide +kernel, by decide +kernel⟩
theorem scPlace : FnScope NPlace ["self", "grade"] (defScope sPlace) := ⟨rfl, rfl, rfl, by decide +kernel, rfl, by decide +kernel, by decide +kernel⟩
theorem scJoin : FnScope NJoin ["self", "a", "b"] (defScope sJoin) := ⟨rfl, rfl, rfl, by decide +kernel, rfl, by decide +kernel, by decide +kernel⟩
theorem scThen : FnScope NJoin ["self", "a", "b"] (defScope sThen) := ⟨rfl, rfl, rfl, by decide +kernel, rfl, by decide +kernel, by decide +kernel⟩
theorem scGrades : FnScope ["self"] ["self"] (defScope sGrades) := ⟨rfl, rfl, rfl, by decide +kernel, rfl, by decide +kernel, by decide +kernel⟩
theorem ok_has (F : FnM K "__contains__" "Scale.__contains__" sHas f fd) (T : Bl mg) (cf : ClsF K C fldN) : FnOk P w K mg base CX0 1 f fd ["self", "x"] (spHas K C) := by
  refine F.ok scHas (fun vs H Q E h => ?_) (fun cdv A outer s H vs Q E hr h => ?_)
  · obtain ⟨a, x, G, J, T, lo, hi, rfl, _⟩ := h
    rfl
  · obtain ⟨a, x, G, J, T', lo, hi, rfl, sc, q⟩ := h
    have hu : (A.deeper (envOfC "Scale.__contains__" (defScope sHas) s.heap.objs.size f cdv)).units + 1 < cLine := by
      have := hr.un
      omega
    refine ⟨_, pss_one (ps_ret (pe_and (pe_callB call_isi (by rfl) T.isi boot_isinstance (pa_cons (pv 1) (pa_cons (pe_bltn (v := .ty "str") (by rfl) T.str Boot.«str» rfl) pa_nil))) (pe_one (pe_cmp (pc_din hu (pv 1) (pe_fld (pv 0) rfl)))))), ?_⟩
    obtain ⟨dx, fs, g, d, j, t, h1, h2, h3, h4, h5, _⟩ := sc.ex
    refine s_ret (ev_is (w := .bl (decide (x ∈ G))) (ev_andV (ev_isi (ev_var rfl) (fun H1 e => .base (.str x)) (by decide +kernel : kitB "str" "str" = some true)) (fun _ => ev_din (key := Sum.inr x) (ev_var rfl) (ev_fld (ev_var rfl) cf.cl (cf.no _ (by decide)) h1 h4) h5)) ?_) fun H2 e2 => q H2 e2
    by_cases hx : x ∈ G
    · rw [plc_some hx]
      simp [hx]
    · rw [plc_none hx]
      simp [hx]
theorem ok_place (F : FnM K "_place" "Scale._place" sPlace f fd) (cf : ClsF K C fldN) (cH : MCal P w K mg base CX0 1 C "__contains__" ["self", "x"] (spHas K C)) : FnOk P w K mg base CX0 2 f fd ["self", "grade"] (spPlace K C) := by
  refine F.ok scPlace (fun vs H Q E h => ?_) (fun cdv A outer s H vs Q E hr h => ?_)
  · obtain ⟨a, x, G, J, T, lo, hi, rfl, _⟩ := h
    rfl
  · obtain ⟨a, x, G, J, T', lo, hi, rfl, sc, hx, q⟩ := h
    have hu : (A.deeper (envOfC "Scale._place" (defScope sPlace) s.heap.objs.size f cdv)).units + 1 < cLine := by
      have := hr.un
      omega
    refine ⟨_, pss_cons (ps_if (pt_cmpR (op_niM cH hr pass0) (pv 1) (pv 0) rfl) pss_no pss_nil) (pss_one (ps_ret (pe_dget hu (pe_fld (pv 0) rfl) (pv 1) (fun _ _ => rfl)))), ?_⟩
    obtain ⟨dx, fs, g, d, j, t, h1, h2, h3, h4, h5, _⟩ := sc.ex
    refine q_when (b := false) (et_test (ev_is (ev_niO (b := decide (x ∈ G)) (ev_var rfl) (ev_var rfl) h1 (fun H1 e Q q => ⟨a, x, G, J, T', lo, hi, rfl, sc.ext e, q⟩)) (by simp [hx]))) (fun z => nomatch z) (fun _ H1 e1 => ?_)
    exact s_ret (ev_is (ev_dget (key := Sum.inr x) (ev_fld (ev_var rfl) cf.cl (cf.no _ (by decide)) (e1 _ _ h1) h4) (ev_var rfl) (e1 _ _ h5) (plc_some hx)) (by simp)) fun H2 e2 => q H2 (e1.trans e2)
theorem ok_join (F : FnM K "join" "Scale.join" sJoin f fd) (cf : ClsF K C fldN) (cP : MCal P w K mg base CX0 2 C "_place" ["self", "grade"] (spPlace K C)) : FnOk P w K mg base CX0 3 f fd ["self", "a", "b"] (spJoin K C false) := by
  refine F.ok scJoin (fun vs H Q E h => ?_) (fun cdv A outer s H vs Q E hr h => ?_)
  · obtain ⟨a, x, y, G, J, T, lo, hi, rfl, _⟩ := h
    rfl
  · obtain ⟨a, x, y, G, J, T', lo, hi, rfl, sc, hx, hy, q⟩ := h
    refine ⟨_, pss_one (ps_ret (pe_ix ix_tup (pe_ix ix_tup (pe_fld (pv 0) rfl) (pe_mcal cP (pv 0) hr pass0 (pa_cons (pv 1) pa_nil)) (fun _ _ => rfl)) (pe_mcal cP (pv 0) hr pass0 (pa_cons (pv 2) pa_nil)) (fun _ _ => rfl))), ?_⟩
    obtain ⟨dx, fs, g, d, j, t, h1, h2, h3, h4, h5, h6, h7, h8, h9, h10, h11, hm⟩ := sc.ex
    obtain ⟨p, r, ys, zs, rfl, t1, t2, t3, t4⟩ := tab_at sc.wj h7 hx hy
    have pl : ∀ i z, z ∈ G → ([some (V.ref a), some (V.str x), some (V.str y)] : L2.St)[i]? = some (some (V.str z)) → Ev (tMeth C "_place" (spPlace K C) [] E0 (tVar 0) (tCons (tVar i) tNil)) [some (.ref a), some (.str x), some (.str y)] H (.int (G.idxOf z : Int)) := fun i z hz hi =>
      ev_mcal (ev_var rfl) (ea_cons (ev_var hi) ea_nil) h1 (hm _ (by decide)) fun H1 e Q q => ⟨a, z, G, J, T', lo, _, rfl, sc.ext e, hz, q⟩
    exact s_ret (ev_op (ev_op (ev_fld (ev_var rfl) cf.cl (cf.no _ (by decide)) h1 h6) (pl 1 x hx rfl) (rv_ixT t1 t2)) (pl 2 y hy rfl) (rv_ixT t3 t4)) fun H2 e2 => q H2 e2
theorem ok_then (F : FnM K "then" "Scale.then" sThen f fd) (cf : ClsF K C fldN) (cP : MCal P w K mg base CX0 2 C "_place" ["self", "grade"] (spPlace K C)) : FnOk P w K mg base CX0 3 f fd ["self", "a", "b"] (spJoin K C true) := by
  refine F.ok scThen (fun vs H Q E h => ?_) (fun cdv A outer s H vs Q E hr h => ?_)
  · obtain ⟨a, x, y, G, J, T, lo, hi, rfl, _⟩ := h
    rfl
  · obtain ⟨a, x, y, G, J, T', lo, hi, rfl, sc, hx, hy, q⟩ := h
    refine ⟨_, pss_one (ps_ret (pe_ix ix_tup (pe_ix ix_tup (pe_fld (pv 0) rfl) (pe_mcal cP (pv 0) hr pass0 (pa_cons (pv 1) pa_nil)) (fun _ _ => rfl)) (pe_mcal cP (pv 0) hr pass0 (pa_cons (pv 2) pa_nil)) (fun _ _ => rfl))), ?_⟩
    obtain ⟨dx, fs, g, d, j, t, h1, h2, h3, h4, h5, h6, h7, h8, h9, h10, h11, hm⟩ := sc.ex
    obtain ⟨p, r, ys, zs, rfl, t1, t2, t3, t4⟩ := tab_at sc.wt h9 hx hy
    have pl : ∀ i z, z ∈ G → ([some (V.ref a), some (V.str x), some (V.str y)] : L2.St)[i]? = some (some (V.str z)) → Ev (tMeth C "_place" (spPlace K C) [] E0 (tVar 0) (tCons (tVar i) tNil)) [some (.ref a), some (.str x), some (.str y)] H (.int (G.idxOf z : Int)) := fun i z hz hi =>
      ev_mcal (ev_var rfl) (ea_cons (ev_var hi) ea_nil) h1 (hm _ (by decide)) fun H1 e Q q => ⟨a, z, G, J, T', lo, _, rfl, sc.ext e, hz, q⟩
    exact s_ret (ev_op (ev_op (ev_fld (ev_var rfl) cf.cl (cf.no _ (by decide)) h1 h8) (pl 1 x hx rfl) (rv_ixT t1 t2)) (pl 2 y hy rfl) (rv_ixT t3 t4)) fun H2 e2 => q H2 e2
theorem ok_grades (F : FnM K "grades" "Scale.grades" sGrades f fd) (T : Bl mg) (cf : ClsF K C fldN) : FnOk P w K mg base CX0 1 f fd ["self"] (spGrades K C) := by
  refine F.ok scGrades (fun vs H Q E h => ?_) (fun cdv A outer s H vs Q E hr h => ?_)
  · obtain ⟨a, G, J, T, lo, hi, rfl, _⟩ := h
    rfl
  · obtain ⟨a, G, J, T', lo, hi, rfl, sc, q⟩ := h
    refine ⟨_, pss_one (ps_ret (pe_callTy call_list_of rfl T.lst Boot.«list» (pa_cons (pe_fld (pv 0) rfl) pa_nil))), ?_⟩
    obtain ⟨dx, fs, g, d, j, t, h1, h2, h3, h4, h5, _⟩ := sc.ex
    exact ⟨_, rfl, a, C, dx, fs, .ref g, rfl, h1, cf.cl, cf.no _ (by decide), h2, g, _, rfl, .inr h3, fun l hl => q l _ hl (Ex.new hl) upd_same⟩
end
end K06

set_option Elab.async false
set_option linter.all false
set_option maxRecDepth 100000
set_option maxHeartbeats 4000000
/-! S4: comprehensions of data (each item its own data), dicts of new lists; truth, tails. -/
namespace S
open PySem PySem.Spec PyProof.Rows L2 Evl J ClX StX
section
variable {K : PySem.W.Frag} {σ : L2.St} {B H : Hp} {te tl ta : TE} {d : PyData} {es ds : List PyData} {vs : List Nat} {j : Nat} {xs : List V} {a : Addr} {v : V}
/-- data, put together of what stood in B and of what is new -/
def EvQ (K : PySem.W.Frag) (te : TE) (σ : L2.St) (B : Hp) (d : PyData) : Prop := ∀ H1, Ex B H1 → ∀ Q : VK, (∀ v H2, Ex H1 H2 → Dq K B H1 H2 v d → Q v H2) → te σ H1 Q
def EvQL (K : PySem.W.Frag) (te : TE) (σ : L2.St) (B : Hp) (es : List PyData) : Prop := ∀ H1, Ex B H1 → ∀ Q : VK, (∀ p ys H2, H1 p = none → Ex H1 H2 → H2 p = some (.lst ys) → DpAll K (rst B H1 H2) ys es → Q (.ref p) H2) → te σ H1 Q
theorem qd_ev (h : Ev te σ B v) (dp : Dp K B v d) : EvQ K te σ B d := fun H1 e Q q => h H1 e _ fun H2 e2 => q v H2 e2 (Dq.of dp (e.trans e2))
theorem qd_tup (h : EvQL K te σ B es) : EvQ K (tThen te (kTup K)) σ B (.tuple es) := fun H1 e Q q =>
  h H1 e _ fun p ys H2 hp e2 h2 da => .inl ⟨p, ys, rfl, sq_of h2, fun r hr => q (.ref r) _ (e2.trans (Ex.new hr)) (.tup (xs := ys) (st_of (by rw [rst_in (.inr (fresh_back e2 hr)), upd_same])) (dpa_ext (rst_mono (fun b z => z) fun b o _ z => (Ex.new hr) b o z) da))⟩
theorem qd_to (h : EvQ K te σ B d) : K13.EvD K te σ B d := fun H1 e Q q => h H1 e _ fun v H2 e2 dq => q v H2 e2 dq.dp
theorem qd_lc (hv : Ev tl σ B (.ref a)) (hx : SqL K B a xs) (len : xs.length = es.length) (hz : xs.length ≤ 1000) (hw : ∀ x, wipe ((wipe σ vs).set j (some x)) vs = wipe σ vs)
    (el : ∀ (i : Nat) (x : V) (e : PyData), xs[i]? = some x → es[i]? = some e → EvQ K te ((wipe σ vs).set j (some x)) B e) : EvQL K (tLc (iList K tl) (gName j) tYes te vs) σ B es := fun H1 eB Q k =>
  hv H1 eB _ fun H0 e0 => ⟨a, rfl, ⟨xs, ex_l (eB.trans e0) hx⟩, fun D hD => by
    refine lc_list (xs := xs) (Lg K es B H0 D) (lg_start hD) (fun i H2 _ g => ex_l ((eB.trans e0).trans g.2.1) hx) (fun i x H2 hi g => ⟨hw x, ?_⟩) (fun H2 g => ?_)
    · have hil := (List.getElem?_eq_some_iff.mp hi).1
      have h1 : es[i]? = some es[i] := List.getElem?_eq_getElem (by omega)
      show te _ H2 _
      refine el i x _ hi h1 H2 ((eB.trans e0).trans g.2.1) _ fun y H3 e3 dq => ?_
      exact lg_step (eB.trans e0) g (by omega) e3 h1 dq
    · rw [len] at g
      obtain ⟨ys, h1, h2⟩ := lg_end (eB.trans e0) g
      exact k D ys H2 (fresh_back e0 hD) (e0.trans g.2.1) h1 (dpa_ext (rst_mono (fun b z => fresh_back e0 z) fun b o _ z => z) h2)⟩
/-! ### truth, tails -/
theorem et_list {xs : List V} {p : Addr} (h : Ev te σ H (.ref p)) (hs : SqL K H p xs) : EvT (fun σ H Q => te σ H fun x H' => ∃ k, TruV K x H' k ∧ Q k H') σ H (!xs.isEmpty) := fun H1 e Q q =>
  h H1 e _ fun H2 e2 => ⟨_, .inl ⟨xs, ex_l (e.trans e2) hs, rfl⟩, q H2 e2⟩
theorem cut_tail (x : V) (r : List V) : cutV (x :: r) (some 1) none = r := by
  unfold cutV
  have e : HT.sIx (x :: r).length 0 (some 1) = min 1 (x :: r).length := HT.sIx_nat (x :: r).length 0 1
  have e2 : HT.sIx (x :: r).length (x :: r).length none = (x :: r).length := rfl
  rw [e, e2]
  have : min 1 (x :: r).length = 1 := by simp
  rw [this]
  simp
/-! ### a dict comprehension: keys texts, values new lists -/
/-- the dict as it has grown: key i has a list of as i -/
def Dg (H : Hp) (gs : List Str) (as : Str → List V) (D : Addr) (n : Nat) (H2 : Hp) : Prop :=
  H D = none ∧ Ex H H2 ∧ ∃ kvs, H2 D = some (.dK kvs) ∧ kvs.length ≤ n ∧ ∀ i x, i < n → gs[i]? = some x → ∃ l, valV kvs (Sum.inr x) = some (.ref l) ∧ l ≠ D ∧ H2 l = some (.lst (as x))
theorem valV_put {kvs : List (Key × V)} {k k2 : Key} {v : V} : valV (putK kvs k v) k2 = if k2 = k then some v else valV kvs k2 := by
  unfold putK valV
  split
  · rename_i h
    induction kvs with
    | nil => simp at h
    | cons p r ih =>
      obtain ⟨q, u⟩ := p
      by_cases hq : q = k
      · subst hq
        by_cases h2 : k2 = q
        · subst h2
          simp
        · have h3 : q ≠ k2 := fun z => h2 z.symm
          simp only [List.map_cons, if_true, h2, if_false]
          rw [List.find?_cons_of_neg (by simpa using h3), List.find?_cons_of_neg (by simpa using h3)]
          congr 1
          clear ih h
          induction r with
          | nil => rfl
          | cons p r ih2 =>
            obtain ⟨q2, u2⟩ := p
            by_cases hq2 : q2 = q
            · subst hq2
              simp only [List.map_cons, if_true]
              rw [List.find?_cons_of_neg (by simpa using h3), List.find?_cons_of_neg (by simpa using h3), ih2]
            · simp only [List.map_cons, hq2, if_false]
              by_cases hk : q2 = k2
              · rw [List.find?_cons_of_pos (by simpa using hk), List.find?_cons_of_pos (by simpa using hk)]
              · rw [List.find?_cons_of_neg (by simpa using hk), List.find?_cons_of_neg (by simpa using hk), ih2]
      · have hr : (r.any fun kv => decide (kv.1 = k)) = true := by simpa [hq] using h
        have ih := ih hr
        simp only [List.map_cons, hq, if_false]
        by_cases hk : q = k2
        · subst hk
          rw [List.find?_cons_of_pos (by simp), List.find?_cons_of_pos (by simp), if_neg hq]
        · rw [List.find?_cons_of_neg (by simpa using hk), List.find?_cons_of_neg (by simpa using hk)]
          exact ih
  · rename_i h
    rw [List.find?_append]
    by_cases h2 : k2 = k
    · subst h2
      have : (kvs.find? fun kv => decide (kv.1 = k2)) = none := by
        rw [List.find?_eq_none]
        intro p hp z
        apply h
        rw [List.any_eq_true]
        exact ⟨p, hp, z⟩
      rw [this]
      simp
    · simp only [h2, if_false]
      cases kvs.find? fun kv => decide (kv.1 = k2) with
      | some p => simp
      | none =>
        have h3 : k ≠ k2 := fun z => h2 z.symm
        simp [h3]
theorem putK_len {kvs : List (Key × V)} {k : Key} {v : V} : (putK kvs k v).length ≤ kvs.length + 1 := by
  unfold putK
  split
  · simp
  · simp
/-- {x: [..] for x in list of texts} -/
theorem dc_lists {tk : TE} {gs : List Str} {as : Str → List V} (hv : Ev tl σ H (.ref a)) (hx : SqL K H a (gs.map V.str)) (hz : gs.length ≤ 1000) (hw : ∀ x, wipe ((wipe σ vs).set j (some x)) vs = wipe σ vs)
    (ek : ∀ x, x ∈ gs → Ev tk ((wipe σ vs).set j (some (.str x))) H (.str x)) (el : ∀ x, x ∈ gs → EvL te ((wipe σ vs).set j (some (.str x))) H (as x))
    {Q : VK} (k : ∀ D H2 kvs, H D = none → Ex H H2 → H2 D = some (.dK kvs) → (∀ x, x ∈ gs → ∃ l, valV kvs (Sum.inr x) = some (.ref l) ∧ H2 l = some (.lst (as x))) → Q (.ref D) H2) : tDc (iList K tl) (gName j) tYes tk te vs σ H Q := by
  refine hv H (Ex.refl H) _ fun H0 e0 => ⟨a, rfl, ⟨_, ex_l e0 hx⟩, fun D hD => ?_⟩
  refine ⟨fun i m H' => m = gs.length - i ∧ i ≤ gs.length ∧ Dg H0 gs as D i H', ⟨gs.length, by simp, Nat.zero_le _, hD, Ex.new hD, [], upd_same, Nat.le_refl _, fun i x hi => absurd hi (Nat.not_lt_zero _)⟩, ?_⟩
  rintro i m H' ⟨rfl, hi, g0, g1, kvs, g2, g3, g4⟩
  have q := ex_l (e0.trans g1) hx
  by_cases hlt : i < gs.length
  · refine .inr ⟨⟨gs.map V.str, .str gs[i], q, by simp [hlt]⟩, fun H5 => Dg H0 gs as D (i + 1) H5, fun H5 p' => ⟨gs.length - (i + 1), by omega, rfl, hlt, p'⟩, fun x H5 y => ?_⟩
    obtain ⟨e5, y⟩ := y
    subst e5
    have hxi : x = .str gs[i] := by
      have := y (gs.map V.str) q
      simpa [hlt] using this.symm
    subst hxi
    have mem : gs[i] ∈ gs := List.getElem_mem hlt
    refine ⟨hw _, ?_⟩
    show tk _ H5 _
    refine ek _ mem H5 (e0.trans g1) _ fun H6 e6 => el _ mem H6 ((e0.trans g1).trans e6) _ fun l H7 nl e7 h7 => ?_
    have d7 := e7 _ _ (e6 _ _ g2)
    have nlD : l ≠ D := fun z => by
      subst z
      have := e6 _ _ g2
      rw [nl] at this
      cases this
    refine ⟨kvs, Sum.inr gs[i], rfl, d7, sz_lt (by omega), g0, Ex.mut ((g1.trans e6).trans e7) g0, _, upd_same, Nat.le_trans putK_len (by omega), fun n x hn hx2 => ?_⟩
    by_cases hnx : x = gs[i]
    · subst hnx
      exact ⟨l, by rw [valV_put, if_pos rfl], nlD, by rw [upd_ne nlD]; exact h7⟩
    · have hne : n ≠ i := fun z => by
        subst z
        rw [List.getElem?_eq_getElem hlt] at hx2
        exact hnx (Option.some.inj hx2).symm
      obtain ⟨l2, q1, q2, q3⟩ := g4 n x (by omega) hx2
      refine ⟨l2, ?_, q2, by rw [upd_ne q2]; exact e7 _ _ (e6 _ _ q3)⟩
      rw [valV_put, if_neg (fun z => hnx (Sum.inr.inj z))]
      exact q1
  · have e : i = gs.length := by omega
    subst e
    refine .inl ⟨⟨_, q, by simp⟩, k D H' kvs (fresh_back e0 g0) (e0.trans g1) g2 fun x hx2 => ?_⟩
    obtain ⟨n, hn, rfl⟩ := List.getElem_of_mem hx2
    obtain ⟨l, q1, _, q3⟩ := g4 n gs[n] hn (List.getElem?_eq_getElem hn)
    exact ⟨l, q1, q3⟩
end
end S
namespace S
open PySem PySem.Spec PyProof.Rows L2 Evl J ClX StX
section
variable {K : PySem.W.Frag} {σ : L2.St} {H : Hp} {te : TE} {a : Addr}
theorem el_tail {x : V} {r : List V} (h : Ev te σ H (.ref a)) (hs : SqL K H a (x :: r)) : EvL (tSl (rSlL K) te (tPart (tC (.int 1))) tNoPart) σ H r := by
  have z := el_sl h (eo_some (ev_c (v := .int 1))) eo_none hs
  rw [cut_tail] at z
  exact z
theorem given_all {n : Nat} {v : Nat → V} : given n (fun _ => true) v = (List.range n).map v := by
  unfold given
  rw [List.filter_eq_self.mpr (fun _ _ => rfl)]
theorem range_items {α β : Type} (f : α → β) (d : α) (xs : List α) : (List.range xs.length).map (fun i => f (xs.getD i d)) = xs.map f := by
  apply List.ext_getElem
  · simp
  · intro i h1 h2
    have h3 : i < xs.length := by simpa using h2
    simp [List.getD_eq_getElem?_getD, List.getElem?_eq_getElem h3]
/-- [f(x) for x in xs] -/
theorem el_map {α : Type} {g : α → V} {f : α → V} {d : α} {xs : List α} {tl : TE} {j : Nat} {vs : List Nat} (h : Ev tl σ H (.ref a)) (hx : SqL K H a (xs.map g)) (hz : xs.length ≤ 1000) (hw : ∀ x, wipe ((wipe σ vs).set j (some x)) vs = wipe σ vs)
    (he : ∀ x H1, Ex H H1 → x ∈ xs → Ev te ((wipe σ vs).set j (some (g x))) H1 (f x)) : EvL (tLc (iList K tl) (gName j) tYes te vs) σ H (xs.map f) := by
  have z := el_lcL (K := K) (te := te) (t := tYes) (fun _ => true) (fun i => f (xs.getD i d)) h hx (by rw [List.length_map]; omega) hw (fun i x H1 e hi => fun H2 _ _ q => q H2 (Ex.refl H2)) (fun i x H1 e hi _ => by
    rw [List.getElem?_map] at hi
    cases hg : xs[i]? with
    | none =>
      rw [hg] at hi
      cases hi
    | some y =>
      rw [hg] at hi
      obtain rfl := Option.some.inj hi
      rw [List.getD_eq_getElem?_getD, hg]
      exact he y H1 e (List.mem_of_getElem? hg))
  rw [given_all, List.length_map, range_items] at z
  exact z
/-- [x for x in xs if p(x)] -/
theorem el_filter {α : Type} {g f : α → V} {d : α} {xs : List α} {pr : α → Bool} {tl : TE} {t : TT} {j : Nat} {vs : List Nat} (h : Ev tl σ H (.ref a)) (hx : SqL K H a (xs.map g)) (hz : xs.length ≤ 1000) (hw : ∀ x, wipe ((wipe σ vs).set j (some x)) vs = wipe σ vs)
    (ht : ∀ x H1, Ex H H1 → x ∈ xs → EvT t ((wipe σ vs).set j (some (g x))) H1 (pr x)) (he : ∀ x H1, Ex H H1 → x ∈ xs → pr x = true → Ev te ((wipe σ vs).set j (some (g x))) H1 (f x)) : EvL (tLc (iList K tl) (gName j) t te vs) σ H ((xs.filter pr).map f) := by
  have at_ : ∀ i x, (xs.map g)[i]? = some x → ∃ y, xs[i]? = some y ∧ x = g y := fun i x hi => by
    rw [List.getElem?_map] at hi
    cases hg : xs[i]? with
    | none =>
      rw [hg] at hi
      cases hi
    | some y =>
      rw [hg] at hi
      exact ⟨y, hg, (Option.some.inj hi).symm⟩
  have gd : ∀ i y, xs[i]? = some y → xs.getD i d = y := fun i y h => by rw [List.getD_eq_getElem?_getD, h]; rfl
  have z := el_lcL (K := K) (te := te) (t := t) (fun i => pr (xs.getD i d)) (fun i => f (xs.getD i d)) h hx (by rw [List.length_map]; omega) hw (fun i x H1 e hi => by
    obtain ⟨y, hy, rfl⟩ := at_ i x hi
    rw [gd i y hy]
    exact ht y H1 e (List.mem_of_getElem? hy)) (fun i x H1 e hi hp => by
    obtain ⟨y, hy, rfl⟩ := at_ i x hi
    rw [gd i y hy] at hp ⊢
    exact he y H1 e (List.mem_of_getElem? hy) hp)
  have e : given (xs.map g).length (fun i => pr (xs.getD i d)) (fun i => f (xs.getD i d)) = (xs.filter pr).map f := by
    unfold given
    rw [List.length_map]
    have e1 : (List.range xs.length).map (fun i => xs.getD i d) = xs := by
      have := range_items (fun x : α => x) d xs
      simpa using this
    have e2 : ((List.range xs.length).filter fun i => pr (xs.getD i d)).map (fun i => xs.getD i d) = xs.filter pr := by
      conv => rhs; rw [← e1]
      rw [List.filter_map]
      rfl
    rw [← e2, List.map_map]
    rfl
  rw [e] at z
  exact z
end
/-- a row of grades put together -/
def put (G : List Str) (J : List (List Str)) (e : Str) : List Str → Str
  | [] => e
  | x :: r => r.foldl (ap G J) x
theorem fold_mem {G : List Str} {J : List (List Str)} (w : Wf G J) : ∀ {r : List Str} {x : Str}, x ∈ G → (∀ y ∈ r, y ∈ G) → r.foldl (ap G J) x ∈ G
  | [], _, hx, _ => hx
  | y :: r, x, hx, h => fold_mem (r := r) (x := ap G J x y) w (ap_mem w hx (h y List.mem_cons_self)) fun z hz => h z (List.mem_cons_of_mem _ hz)
theorem put_mem {G : List Str} {J : List (List Str)} {e : Str} (w : Wf G J) (he : e ∈ G) {xs : List Str} (h : ∀ y ∈ xs, y ∈ G) : put G J e xs ∈ G := by
  cases xs with
  | nil => exact he
  | cons x r => exact fold_mem w (h x List.mem_cons_self) fun z hz => h z (List.mem_cons_of_mem _ hz)
theorem idx_get {G : List Str} {x : Str} (h : x ∈ G) : G[G.idxOf x]? = some x := by
  rw [List.getElem?_eq_getElem (idx_lt h), List.getElem_idxOf]
theorem idx_str {G : List Str} {x : Str} (h : x ∈ G) : atI (G.map V.str) (G.idxOf x : Int) = some (.str x) := atI_nat (by rw [List.getElem?_map, idx_get h]; rfl)
end S

set_option Elab.async false
set_option linter.all false
set_option maxRecDepth 100000
set_option maxHeartbeats 8000000
/-! S5: within, joined, _put_together, _grades_below. -/
namespace K06
open PySem PySem.Spec PyProof.Rows L2 Evl J ClX StX S
abbrev sPut : Stmt := methS 27 12
abbrev sJoined : Stmt := methS 27 7
abbrev sWithin : Stmt := topS 23
abbrev sBelow : Stmt := topS 28
def spPut (K : PySem.W.Frag) (C : Addr) : Sp := fun vs H Q _ => ∃ (a l : Addr) (tb : V) (e : Str) (xs G : List Str) (J T U : List (List Str)) (lo hi : Str), vs = [.ref a, tb, .ref l, .str e] ∧ ScAt K C H a G J T lo hi ∧ Dp K H tb (tab U) ∧ Wf G U ∧ SqL K H l (xs.map V.str) ∧
  (∀ x ∈ xs, x ∈ G) ∧ xs.length ≤ 100 ∧ RetV (.str (put G U e xs)) H Q
def spJoined (K : PySem.W.Frag) (C : Addr) : Sp := fun vs H Q _ => ∃ (a l : Addr) (xs G : List Str) (J T : List (List Str)) (lo hi : Str), vs = [.ref a, .ref l] ∧ ScAt K C H a G J T lo hi ∧ SqL K H l (xs.map V.str) ∧ (∀ x ∈ xs, x ∈ G) ∧ xs.length ≤ 100 ∧ RetV (.str (put G J lo xs)) H Q
def spWithin (K : PySem.W.Frag) (C : Addr) : Sp := fun vs H Q _ => ∃ (a : Addr) (x y : Str) (G : List Str) (J T : List (List Str)) (lo hi : Str), vs = [.ref a, .str x, .str y] ∧ ScAt K C H a G J T lo hi ∧ x ∈ G ∧ y ∈ G ∧ RetV (.bl (decide (ap G J x y = y))) H Q
/-- the grades within a grade -/
def lowerOf (G : List Str) (J : List (List Str)) (x : Str) : List Str := G.filter fun a => decide (ap G J a x = x)
def BelowAt (G : List Str) (J : List (List Str)) (D : Addr) (H : Hp) : Prop := ∃ kvs, H D = some (.dK kvs) ∧ ∀ x, x ∈ G → ∃ l, valV kvs (Sum.inr x) = some (.ref l) ∧ H l = some (.lst ((lowerOf G J x).map V.str))
def spBelow (K : PySem.W.Frag) (C : Addr) : Sp := fun vs H Q _ => ∃ (a : Addr) (G : List Str) (J T : List (List Str)) (lo hi : Str), vs = [.ref a] ∧ ScAt K C H a G J T lo hi ∧ ∀ D H', H D = none → Ex H H' → BelowAt G J D H' → Q (.ref D) H'
section
variable {P : Program} {w : World} {K : PySem.W.Frag} {mg : Str → Option Value} {base : Heap} {f : Addr} {fd : FuncData} {C : Addr}
abbrev NPut : List Str := ["self", "table", "row", "empty", "places", "told", "place", "grade"]
abbrev NJd : List Str := ["self", "row"]
abbrev NWi : List Str := ["scale", "a", "b"]
abbrev NBe : List Str := ["scale", "grades", "b", "a"]
theorem scPut : FnScope NPut ["self", "table", "row", "empty"] (defScope sPut) := ⟨rfl, rfl, rfl, by decide +kernel, rfl, by decide +kernel, by decide +kernel⟩
theorem scJd : FnScope NJd ["self", "row"] (defScope sJoined) := ⟨rfl, rfl, rfl, by decide +kernel, rfl, by decide +kernel, by decide +kernel⟩
theorem scWi : FnScope NWi ["scale", "a", "b"] (defScope sWithin) := ⟨rfl, rfl, rfl, by decide +kernel, rfl, by decide +kernel, by decide +kernel⟩
theorem scBe : FnScope NBe ["scale"] (defScope sBelow) := ⟨rfl, rfl, rfl, by decide +kernel, rfl, by decide +kernel, by decide +kernel⟩
theorem ok_put (F : FnM K "_put_together" "Scale._put_together" sPut f fd) (cf : ClsF K C fldN) (cP : MCal P w K mg base CX0 2 C "_place" ["self", "grade"] (spPlace K C)) : FnOk P w K mg base CX0 3 f fd ["self", "table", "row", "empty"] (spPut K C) := by
  refine F.ok scPut (fun vs H Q E h => ?_) (fun cdv A outer s H vs Q E hr h => ?_)
  · obtain ⟨a, l, tb, e, xs, G, J, T, U, lo, hi, rfl, _⟩ := h
    rfl
  · obtain ⟨a, l, tb, e, xs, G, J, T, U, lo, hi, rfl, sc, dU, wU, hS, hG, hz, q⟩ := h
    have hu : (A.deeper (envOfC "Scale._put_together" (defScope sPut) s.heap.objs.size f cdv)).units + 1 < cLine := by
      have := hr.un
      omega
    refine ⟨_, PSs.nox (pss_cons (ps_setLc (i := 4) (own := [("grade", 7)]) (g := gName 7) (tt := tYes) rfl scPut.nd rfl rfl rfl (pi_list (pv 2)) (blkOk_by (N := NPut) (sc := defScope sPut) (by decide +kernel)) (fun _ _ _ _ _ => pg_name (i := 7) scPut.nd rfl (Or.inl rfl)) (fun _ _ _ _ _ => pts_nil) (fun _ _ _ _ _ => pe_mcal cP (pv 0) hr pass0 (pa_cons (pv 7) pa_nil)))
      (pss_cons (ps_if (pt_not (pt_truth (pv 4) (fun _ => rfl))) (pss_one (ps_ret (pv 3))) pss_nil)
      (pss_cons (ps_set (i := 5) scPut.nd rfl (Or.inl rfl) (pe_ix ix_tup (pe_fld (pv 0) rfl) (pe_ix ix_list (pv 4) pe_int (fun _ _ => rfl)) (fun _ _ => rfl)))
      (pss_cons (ps_for PassesOwn.never rfl (pi_list (pe_slice sl_list (pv 4) (po_some pe_int) po_none)) (pg_name (i := 6) scPut.nd rfl (Or.inl rfl)) (pss_one (ps_set (i := 5) scPut.nd rfl (Or.inl rfl) (pe_ix ix_tup (pe_ix ix_tup (pv 1) (pe_dget hu (pe_fld (pv 0) rfl) (pv 5) (fun _ _ => rfl)) (fun _ _ => rfl)) (pv 6) (fun _ _ => rfl)))))
      (pss_one (ps_ret (pv 5))))))), ?_⟩
    obtain ⟨dx, fs, g, d, j, t, h1, h2, h3, h4, h5, h6, h7, h8, h9, h10, h11, hm⟩ := sc.ex
    have hPlaces := h4
    refine q_asgL (el_map (d := "") (g := V.str) (f := fun x => .int (G.idxOf x : Int)) (ev_var rfl) hS (by omega) (fun x => rfl) (fun x H1 e hx => ev_mcal (ev_var rfl) (ea_cons (ev_var rfl) ea_nil) (e _ _ h1) (hm _ (by decide)) fun H2 e2 Q q => ⟨a, x, G, J, T, lo, hi, rfl, (sc.ext e).ext e2, hG x hx, q⟩)) fun p H1 n1 e1 hp => ?_
    cases xs with
    | nil => exact q_when (b := true) (et_is (et_not (et_list (ev_var rfl) (sq_of hp))) rfl) (fun _ H2 e2 => s_ret (ev_var rfl) fun H3 e3 => q H3 ((e1.trans e2).trans e3)) (fun z => nomatch z)
    | cons x r =>
      have hx : x ∈ G := hG x List.mem_cons_self
      have hrG : ∀ y ∈ r, y ∈ G := fun y hy => hG y (List.mem_cons_of_mem _ hy)
      refine q_when (b := false) (et_is (et_not (et_list (ev_var rfl) (sq_of hp))) rfl) (fun z => nomatch z) (fun _ H2 e2 => ?_)
      have e02 := e1.trans e2
      refine q_asg (ev_op (ev_fld (ev_var rfl) cf.cl (cf.no _ (by decide)) (e02 _ _ h1) h2) (ev_op (ev_var rfl) ev_c (rv_ixL (sq_of (e2 _ _ hp)) (atI_nat (j := 0) rfl))) (rv_ixT (ex_t e02 h3) (idx_str hx))) fun H3 e3 => ?_
      have e03 := e02.trans e3
      refine q_forNLn (xs := r.map fun y => .int (G.idxOf y : Int)) (el_tail (ev_var rfl) (sq_of ((e2.trans e3) _ _ hp)))
        (fun p2 i σ' H' => ∃ x6, σ' = [some (.ref a), some tb, some (.ref l), some (.str e), some (.ref p), some (.str ((r.take i).foldl (ap G U) x)), x6, none] ∧ Ex H3 H' ∧ H' p2 = some (.lst (r.map fun y => .int (G.idxOf y : Int))))
        (fun p2 H4 n4 e4 h4 => ⟨none, rfl, e4, h4⟩) (fun p2 i σ' H' _ ⟨x6, _, _, h4⟩ => sq_of h4) ?_ ?_
      · rintro p2 i v σ' H' hv ⟨x6, rfl, e4, h4⟩
        rw [List.getElem?_map] at hv
        cases hy : r[i]? with
        | none =>
          rw [hy] at hv
          cases hv
        | some y =>
          rw [hy] at hv
          obtain rfl := Option.some.inj hv
          have yG : y ∈ G := hrG y (List.mem_of_getElem? hy)
          have e04 := e03.trans e4
          have hPl := hPlaces
          have tG : (r.take i).foldl (ap G U) x ∈ G := fold_mem wU hx fun z hz => hrG z (List.mem_of_mem_take hz)
          obtain ⟨pu, ru, ys, zs, rfl, t1, t2, t3, t4⟩ := tab_at wU dU tG yG
          have step : (r.take (i + 1)).foldl (ap G U) x = ap G U ((r.take i).foldl (ap G U) x) y := by
            rw [List.take_add_one, hy, List.foldl_append]
            rfl
          refine s_asg (ev_op (ev_op (ev_var rfl) (ev_is (ev_dget (key := Sum.inr _) (ev_fld (ev_var rfl) cf.cl (cf.no _ (by decide)) (e04 _ _ h1) hPl) (ev_var rfl) (e04 _ _ h5) (plc_some tG)) (by simp)) (rv_ixT (ex_t e04 t1) t2)) (ev_var rfl) (rv_ixT (ex_t e04 t3) t4)) fun H5 e5 => ⟨_, by rw [step]; rfl, e4.trans e5, e5 _ _ h4⟩
      · rintro p2 σ' H' ⟨x6, rfl, e4, h4⟩
        refine s_ret (ev_var rfl) fun H5 e5 => ?_
        have := q H5 ((e03.trans e4).trans e5)
        rw [List.length_map, List.take_length]
        exact this
theorem ok_joined (F : FnM K "joined" "Scale.joined" sJoined f fd) (cf : ClsF K C fldN) (cU : MCal P w K mg base CX0 3 C "_put_together" ["self", "table", "row", "empty"] (spPut K C)) : FnOk P w K mg base CX0 4 f fd ["self", "row"] (spJoined K C) := by
  refine F.ok scJd (fun vs H Q E h => ?_) (fun cdv A outer s H vs Q E hr h => ?_)
  · obtain ⟨a, l, xs, G, J, T, lo, hi, rfl, _⟩ := h
    rfl
  · obtain ⟨a, l, xs, G, J, T, lo, hi, rfl, sc, hS, hG, hz, q⟩ := h
    refine ⟨_, pss_one (ps_ret (pe_mcal cU (pv 0) hr pass0 (pa_cons (pe_fld (pv 0) rfl) (pa_cons (pv 1) (pa_cons (pe_fld (pv 0) rfl) pa_nil))))), ?_⟩
    obtain ⟨dx, fs, g, d, j, t, h1, h2, h3, h4, h5, h6, h7, h8, h9, h10, h11, hm⟩ := sc.ex
    exact s_ret (ev_mcal (ev_var rfl) (ea_cons (ev_fld (ev_var rfl) cf.cl (cf.no _ (by decide)) h1 h6) (ea_cons (ev_var rfl) (ea_cons (ev_fld (ev_var rfl) cf.cl (cf.no _ (by decide)) h1 h10) ea_nil))) h1 (hm _ (by decide))
      fun H1 e Q q => ⟨a, l, j, lo, xs, G, J, T, J, lo, hi, rfl, sc.ext e, dp_ext e h7, sc.wj, ex_l e hS, hG, hz, q⟩) fun H2 e2 => q H2 e2
theorem ok_within (F : FnP K "within" sWithin f fd) (cJ : MCal P w K mg base CX0 3 C "join" ["self", "a", "b"] (spJoin K C false)) : FnOk P w K mg base CX0 4 f fd ["scale", "a", "b"] (spWithin K C) := by
  refine F.ok scWi (fun vs H Q E h => ?_) (fun cdv A outer s H vs Q E hr h => ?_)
  · obtain ⟨a, x, y, G, J, T, lo, hi, rfl, _⟩ := h
    rfl
  · obtain ⟨a, x, y, G, J, T, lo, hi, rfl, sc, hx, hy, q⟩ := h
    refine ⟨_, pss_one (ps_ret (pe_cmpR op_eq (pe_mcal cJ (pv 0) hr pass0 (pa_cons (pv 1) (pa_cons (pv 2) pa_nil))) (pv 2) (nomark _))), ?_⟩
    obtain ⟨dx, fs, g, d, j, t, h1, h2, h3, h4, h5, h6, h7, h8, h9, h10, h11, hm⟩ := sc.ex
    exact s_ret (ev_is (w := .bl (decide (ap G J x y = y))) (ev_op (ev_mcal (ev_var rfl) (ea_cons (ev_var rfl) (ea_cons (ev_var rfl) ea_nil)) h1 (hm _ (by decide)) fun H1 e Q q => ⟨a, x, y, G, J, T, lo, hi, rfl, sc.ext e, hx, hy, q⟩) (ev_var rfl) (rv_eq rfl)) (by simp)) fun H2 e2 => q H2 e2
theorem ok_below (F : FnP K "_grades_below" sBelow f fd) (cG : MCal P w K mg base CX0 1 C "grades" ["self"] (spGrades K C)) (cW : Cal P w K mg base CX0 4 "within" ["scale", "a", "b"] (spWithin K C)) : FnOk P w K mg base CX0 5 f fd ["scale"] (spBelow K C) := by
  refine F.ok scBe (fun vs H Q E h => ?_) (fun cdv A outer s H vs Q E hr h => ?_)
  · obtain ⟨a, G, J, T, lo, hi, rfl, _⟩ := h
    rfl
  · obtain ⟨a, G, J, T, lo, hi, rfl, sc, q⟩ := h
    have hr1 : Room 1 (A.deeper (envOfC "_grades_below" (defScope sBelow) s.heap.objs.size f cdv)) := hr.mono (by decide)
    refine ⟨_, pss_cons (ps_set (i := 1) scBe.nd rfl (Or.inr rfl) (pe_mcal0 cG (pv 0) hr1 pass0))
      (pss_one (ps_ret (pe_dc (own := [("b", 2)]) (g := gName 2) (tt := tYes) (tv := tLc (iList K (tVar 1)) (gName 3) (tB (tCall (spWithin K C) [] E0 (tCons (tVar 0) (tCons (tVar 3) (tCons (tVar 2) tNil))))) (tVar 3) [3]) rfl scBe.nd (pi_list (pv 1)) (blkOk_by (N := NBe) (sc := defScope sBelow) (by decide +kernel)) (fun _ _ _ _ _ => pg_name (i := 2) scBe.nd rfl (Or.inr rfl)) (fun _ _ _ _ _ => pts_nil) (fun _ _ _ _ _ => pv 2)
        (fun _ _ _ _ _ => by exact pe_lc (own := [("a", 3)]) (g := gName 3) (wi := iList K (tVar 1)) rfl scBe.nd (pi_list (pv 1)) (blkOk_by (N := NBe) (by rfl)) (fun _ _ _ _ _ => pg_name (i := 3) scBe.nd rfl (Or.inl rfl)) (fun _ _ _ _ _ => pts_one (pt_val (pe_cal cW hr rfl pass0 (pa_cons (pv 0) (pa_cons (pv 3) (pa_cons (pv 2) pa_nil)))))) (fun _ _ _ _ _ => pv 3))))), ?_⟩
    obtain ⟨dx, fs, g, d, j, t, h1, h2, h3, h4, h5, h6, h7, h8, h9, h10, h11, hm⟩ := sc.ex
    refine q_asgL (el_mcal (ev_var rfl) ea_nil h1 (hm _ (by decide)) fun H1 e Q q => ⟨a, G, J, T, lo, hi, rfl, sc.ext e, q⟩) fun p H1 n1 e1 hp => ?_
    have sc1 := sc.ext e1
    have sz := sc.sz
    refine dc_lists (gs := G) (as := fun x => (lowerOf G J x).map V.str) (ev_var rfl) (sq_of hp) (by omega) (fun x => rfl) (fun x hx => ev_var rfl) (fun x hx => ?_) (fun D H2 kvs n2 e2 hD hv => q D H2 (fresh_back e1 n2) (e1.trans e2) ⟨kvs, hD, hv⟩)
    exact el_filter (d := "") (g := V.str) (f := V.str) (pr := fun y => decide (ap G J y x = x)) (ev_var rfl) (sq_of hp) (by omega) (fun x => rfl)
      (fun y H2 e2 hy => et_B (ev_call (ea_cons (ev_var rfl) (ea_cons (ev_var rfl) (ea_cons (ev_var rfl) ea_nil))) fun H3 e3 Q q E => ⟨a, y, x, G, J, T, lo, hi, rfl, (sc1.ext e2).ext e3, hy, hx, fun H4 e4 => q H4 e4⟩)) (fun y H2 e2 hy _ => ev_var rfl)
end
end K06

set_option Elab.async false
set_option linter.all false
set_option maxRecDepth 100000
set_option maxHeartbeats 8000000
/-! S6: _meet_rows, _only_rows. -/
namespace S
open PySem PySem.Spec PyProof.Rows L2 Evl J ClX StX
theorem inV_str {d : Str} : ∀ {xs : List Str}, inV (.str d) (xs.map V.str) = decide (d ∈ xs)
  | [] => by simp [inV]
  | x :: r => by
    have ih := inV_str (d := d) (xs := r)
    unfold inV at ih ⊢
    simp only [List.map_cons, List.any_cons, List.mem_cons] at ih ⊢
    rw [ih]
    by_cases h : d = x
    · subst h
      simp [eqV]
    · have h2 : x ≠ d := fun z => h z.symm
      simp [eqV, h, h2]
theorem flat_strs {xs : List Str} : (xs.map V.str).all flatV = true := by
  rw [List.all_eq_true]
  intro v hv
  obtain ⟨x, _, rfl⟩ := List.mem_map.mp hv
  rfl
section
variable {K : PySem.W.Frag} {σ : L2.St} {B H : Hp} {te tl ta tb : TE} {vs : List Nat} {j : Nat} {a : Addr}
theorem qd_map {α : Type} {g : α → V} {F : α → PyData} {xs : List α} (hv : Ev tl σ B (.ref a)) (hx : SqL K B a (xs.map g)) (hz : xs.length ≤ 1000) (hw : ∀ x, wipe ((wipe σ vs).set j (some x)) vs = wipe σ vs)
    (el : ∀ y ∈ xs, EvQ K te ((wipe σ vs).set j (some (g y))) B (F y)) : EvQL K (tLc (iList K tl) (gName j) tYes te vs) σ B (xs.map F) := by
  refine qd_lc hv hx (by simp) (by simpa using hz) hw fun i x e hi he => ?_
  rw [List.getElem?_map] at hi he
  cases hg : xs[i]? with
  | none =>
    rw [hg] at hi
    cases hi
  | some y =>
    rw [hg] at hi he
    obtain rfl := Option.some.inj hi
    obtain rfl := Option.some.inj he
    exact el y (List.mem_of_getElem? hg)
/-- x in a list of texts -/
theorem et_inL {d : Str} {xs : List Str} {l : Addr} (h : Ev ta σ H (.str d)) (h2 : Ev tb σ H (.ref l)) (hl : H l = some (.lst (xs.map V.str))) : EvT (tTest (tOp (rIn K false) ta tb)) σ H (decide (d ∈ xs)) := by
  have z := et_test (ev_op h h2 (rv_isL (K := K) (sq_of hl) rfl flat_strs))
  rw [inV_str] at z
  exact z
end
/-- o.m(a new list), told by one value -/
theorem ev_mcalL {σ : L2.St} {H : Hp} {te tl : TE} {a C dx : Addr} {fs : List (Str × V)} {z : V} {m : Str} {sp : Sp} {xs : List V} (h : Ev te σ H (.ref a)) (hA : EvL tl σ H xs) (ha : H a = some (.ins C dx fs)) (l : fs.lookup m = none)
    (s : ∀ p H1, Ex H H1 → H1 p = some (.lst xs) → ∀ Q : VK, RetV z H1 Q → sp [.ref a, .ref p] H1 Q E0) : Ev (tMeth C m sp [] E0 te (tCons tl tNil)) σ H z := fun H1 e Q q =>
  h H1 e _ fun H2 e2 => ⟨a, dx, fs, rfl, e2 _ _ (e _ _ ha), l, hA H2 (e.trans e2) _ fun p H3 n3 e3 h3 => s p H3 ((e.trans e2).trans e3) h3 Q fun H4 e4 => q H4 ((e2.trans e3).trans e4)⟩
end S
namespace K06
open PySem PySem.Spec PyProof.Rows L2 Evl J ClX StX S
abbrev sMeetR : Stmt := topS 29
abbrev sOnlyR : Stmt := topS 30
def meetOf (G : List Str) (J : List (List Str)) (lo a b : Str) : Str := put G J lo ((lowerOf G J a).filter fun d => decide (d ∈ lowerOf G J b))
def onlyOf (G : List Str) (J T : List (List Str)) (lo a b : Str) : Str := put G J lo (G.filter fun d => decide (ap G T a d ∈ lowerOf G J b))
def rowsOf (G : List Str) (F : Str → Str → Str) : List (List Str) := G.map fun a => G.map fun b => F a b
def spRowsOf (K : PySem.W.Frag) (C : Addr) (only : Bool) : Sp := fun vs H Q _ => ∃ (a : Addr) (G : List Str) (J T : List (List Str)) (lo hi : Str), vs = [.ref a] ∧ ScAt K C H a G J T lo hi ∧
  ∀ v H', Ex H H' → Dp K H' v (tab (rowsOf G (if only then onlyOf G J T lo else meetOf G J lo))) → Q v H'
theorem tab_rows {G : List Str} {F : Str → Str → Str} : tab (rowsOf G F) = .tuple (G.map fun a => .tuple (G.map fun b => .str (F a b))) := by
  unfold tab rowsOf
  rw [List.map_map]
  congr 1
  apply List.map_congr_left
  intro a _
  simp
section
variable {P : Program} {w : World} {K : PySem.W.Frag} {mg : Str → Option Value} {base : Heap} {f : Addr} {fd : FuncData} {C : Addr}
abbrev NMr : List Str := ["scale", "grades", "below", "a", "b", "d"]
theorem scMr : FnScope NMr ["scale"] (defScope sMeetR) := ⟨rfl, rfl, rfl, by decide +kernel, rfl, by decide +kernel, by decide +kernel⟩
theorem scOr : FnScope NMr ["scale"] (defScope sOnlyR) := ⟨rfl, rfl, rfl, by decide +kernel, rfl, by decide +kernel, by decide +kernel⟩
abbrev rM3 (K : PySem.W.Frag) : TE := tLc (iList K (tDGet (tVar 2) (tVar 3))) (gName 5) (tTest (tOp (rIn K false) (tVar 5) (tDGet (tVar 2) (tVar 4)))) (tVar 5) [5]
abbrev rM2 (K : PySem.W.Frag) (C : Addr) (r3 : TE) : TE := tLc (iList K (tVar 1)) (gName 4) tYes (tMeth C "joined" (spJoined K C) [] E0 (tVar 0) (tCons r3 tNil)) [4]
abbrev rO3 (K : PySem.W.Frag) (C : Addr) : TE := tLc (iList K (tVar 1)) (gName 5) (tTest (tOp (rIn K false) (tMeth C "then" (spJoin K C true) [] E0 (tVar 0) (tCons (tVar 3) (tCons (tVar 5) tNil))) (tDGet (tVar 2) (tVar 4)))) (tVar 5) [5]
theorem ok_meetR (F : FnP K "_meet_rows" sMeetR f fd) (T0 : Bl mg) (cG : MCal P w K mg base CX0 1 C "grades" ["self"] (spGrades K C)) (cB : Cal P w K mg base CX0 5 "_grades_below" ["scale"] (spBelow K C)) (cJ : MCal P w K mg base CX0 4 C "joined" ["self", "row"] (spJoined K C)) : FnOk P w K mg base CX0 6 f fd ["scale"] (spRowsOf K C false) := by
  refine F.ok scMr (fun vs H Q E h => ?_) (fun cdv A outer s H vs Q E hr h => ?_)
  · obtain ⟨a, G, J, T, lo, hi, rfl, _⟩ := h
    rfl
  · obtain ⟨a, G, J, T, lo, hi, rfl, sc, q⟩ := h
    have hr1 : Room 1 (A.deeper (envOfC "_meet_rows" (defScope sMeetR) s.heap.objs.size f cdv)) := hr.mono (by decide)
    have hr4 : Room 4 (A.deeper (envOfC "_meet_rows" (defScope sMeetR) s.heap.objs.size f cdv)) := hr.mono (by decide)
    have hu : (A.deeper (envOfC "_meet_rows" (defScope sMeetR) s.heap.objs.size f cdv)).units + 1 < cLine := by
      have := hr.un
      omega
    refine ⟨_, pss_cons (ps_set (i := 1) scMr.nd rfl (Or.inr rfl) (pe_mcal0 cG (pv 0) hr1 pass0)) (pss_cons (ps_set (i := 2) scMr.nd rfl (Or.inr rfl) (pe_cal cB hr rfl pass0 (pa_cons (pv 0) pa_nil)))
      (pss_one (ps_ret (pe_tupleOf rfl T0.tup (pe_lc (own := [("a", 3)]) (g := gName 3) (tt := tYes) (te := tThen (rM2 K C (rM3 K)) (kTup K)) rfl scMr.nd (pi_list (pv 1)) (blkOk_by (N := NMr) (sc := defScope sMeetR) (by decide +kernel)) (fun _ _ _ _ _ => pg_name (i := 3) scMr.nd rfl (Or.inr rfl)) (fun _ _ _ _ _ => pts_nil)
        (fun _ _ _ _ _ => by exact pe_tupleOf rfl T0.tup (pe_lc (own := [("b", 4)]) (g := gName 4) (tt := tYes) (wi := iList K (tVar 1)) (te := tMeth C "joined" (spJoined K C) [] E0 (tVar 0) (tCons (rM3 K) tNil)) rfl scMr.nd (pi_list (pv 1)) (blkOk_by (N := NMr) (by rfl)) (fun _ _ _ _ _ => pg_name (i := 4) scMr.nd rfl (Or.inr rfl)) (fun _ _ _ _ _ => pts_nil)
          (fun _ _ _ _ _ => by exact pe_mcal cJ (pv 0) hr4 pass0 (pa_cons (pe_lc (own := [("d", 5)]) (g := gName 5) (wi := iList K (tDGet (tVar 2) (tVar 3))) (tt := tTest (tOp (rIn K false) (tVar 5) (tDGet (tVar 2) (tVar 4)))) (te := tVar 5) rfl scMr.nd (pi_list (pe_dget hu (pv 2) (pv 3) (fun _ _ => rfl))) (blkOk_by (N := NMr) (by rfl)) (fun _ _ _ _ _ => pg_name (i := 5) scMr.nd rfl (Or.inl rfl))
            (fun _ _ _ _ _ => by exact pts_one (pt_cmpR op_in_seq (pv 5) (pe_dget hu (pv 2) (pv 4) (fun _ _ => rfl)) rfl)) (fun _ _ _ _ _ => pv 5)) pa_nil))))))))), ?_⟩
    obtain ⟨dx, fs, g, d, j, t, h1, h2, h3, h4, h5, h6, h7, h8, h9, h10, h11, hm⟩ := sc.ex
    refine q_asgL (el_mcal (ev_var rfl) ea_nil h1 (hm _ (by decide)) fun H1 e Q q => ⟨a, G, J, T, lo, hi, rfl, sc.ext e, q⟩) fun p H1 n1 e1 hp => ?_
    have sc1 := sc.ext e1
    refine ⟨_, rfl, a, G, J, T, lo, hi, rfl, sc1, fun D H2 n2 e2 bl => ?_⟩
    have sc2 := sc1.ext e2
    have hp2 := e2 _ _ hp
    have ha2 := e2 _ _ (e1 _ _ h1)
    have sz := sc.sz
    obtain ⟨kvs, hD, hk⟩ := bl
    have low : ∀ x, (lowerOf G J x).length ≤ 12 := fun x => Nat.le_trans (List.length_filter_le _ _) sz
    have main : EvQ K (tThen (tLc (iList K (tVar 1)) (gName 3) tYes (tThen (rM2 K C (rM3 K)) (kTup K)) [3]) (kTup K)) [some (.ref a), some (.ref p), some (.ref D), none, none, none] H2 (tab (rowsOf G (meetOf G J lo))) := by
      rw [tab_rows]
      refine qd_tup (qd_map (g := V.str) (xs := G) (ev_var rfl) (sq_of hp2) (by omega) (fun x => rfl) fun x hx => qd_tup (qd_map (g := V.str) (xs := G) (ev_var rfl) (sq_of hp2) (by omega) (fun x => rfl) fun y hy => ?_))
      obtain ⟨lx, kx, hx2⟩ := hk x hx
      obtain ⟨ly, ky, hy2⟩ := hk y hy
      refine qd_ev (ev_mcalL (ev_var rfl) (el_filter (d := "") (g := V.str) (f := V.str) (xs := lowerOf G J x) (pr := fun d => decide (d ∈ lowerOf G J y)) (ev_dget (key := Sum.inr x) (ev_var rfl) (ev_var rfl) hD kx) (sq_of hx2) (Nat.le_trans (low x) (by omega)) (fun x => rfl)
        (fun d H3 e3 hd => et_inL (ev_var rfl) (ev_dget (key := Sum.inr y) (ev_var rfl) (ev_var rfl) (e3 _ _ hD) ky) (e3 _ _ hy2)) (fun d H3 e3 hd _ => ev_var rfl)) ha2 (hm _ (by decide))
        (fun l H3 e3 h3 Q q => ⟨a, l, _, G, J, T, lo, hi, rfl, sc2.ext e3, sq_of h3, fun z hz => (List.mem_filter.mp (List.mem_filter.mp hz).1).1, Nat.le_trans (List.length_filter_le _ _) (Nat.le_trans (low x) (by omega)), q⟩)) (.str _)
    exact main H2 (Ex.refl H2) _ fun v H3 e3 dq => q v H3 ((e1.trans e2).trans e3) dq.dp
theorem ok_onlyR (F : FnP K "_only_rows" sOnlyR f fd) (T0 : Bl mg) (cG : MCal P w K mg base CX0 1 C "grades" ["self"] (spGrades K C)) (cB : Cal P w K mg base CX0 5 "_grades_below" ["scale"] (spBelow K C)) (cT : MCal P w K mg base CX0 3 C "then" ["self", "a", "b"] (spJoin K C true)) (cJ : MCal P w K mg base CX0 4 C "joined" ["self", "row"] (spJoined K C)) : FnOk P w K mg base CX0 6 f fd ["scale"] (spRowsOf K C true) := by
  refine F.ok scOr (fun vs H Q E h => ?_) (fun cdv A outer s H vs Q E hr h => ?_)
  · obtain ⟨a, G, J, T, lo, hi, rfl, _⟩ := h
    rfl
  · obtain ⟨a, G, J, T, lo, hi, rfl, sc, q⟩ := h
    have hr1 : Room 1 (A.deeper (envOfC "_only_rows" (defScope sOnlyR) s.heap.objs.size f cdv)) := hr.mono (by decide)
    have hr4 : Room 4 (A.deeper (envOfC "_only_rows" (defScope sOnlyR) s.heap.objs.size f cdv)) := hr.mono (by decide)
    have hr3 : Room 3 (A.deeper (envOfC "_only_rows" (defScope sOnlyR) s.heap.objs.size f cdv)) := hr.mono (by decide)
    have hu : (A.deeper (envOfC "_only_rows" (defScope sOnlyR) s.heap.objs.size f cdv)).units + 1 < cLine := by
      have := hr.un
      omega
    refine ⟨_, pss_cons (ps_set (i := 1) scOr.nd rfl (Or.inr rfl) (pe_mcal0 cG (pv 0) hr1 pass0)) (pss_cons (ps_set (i := 2) scOr.nd rfl (Or.inr rfl) (pe_cal cB hr rfl pass0 (pa_cons (pv 0) pa_nil)))
      (pss_one (ps_ret (pe_tupleOf rfl T0.tup (pe_lc (own := [("a", 3)]) (g := gName 3) (tt := tYes) (te := tThen (rM2 K C (rO3 K C)) (kTup K)) rfl scOr.nd (pi_list (pv 1)) (blkOk_by (N := NMr) (sc := defScope sOnlyR) (by decide +kernel)) (fun _ _ _ _ _ => pg_name (i := 3) scOr.nd rfl (Or.inr rfl)) (fun _ _ _ _ _ => pts_nil)
        (fun _ _ _ _ _ => by exact pe_tupleOf rfl T0.tup (pe_lc (own := [("b", 4)]) (g := gName 4) (tt := tYes) (wi := iList K (tVar 1)) (te := tMeth C "joined" (spJoined K C) [] E0 (tVar 0) (tCons (rO3 K C) tNil)) rfl scOr.nd (pi_list (pv 1)) (blkOk_by (N := NMr) (by rfl)) (fun _ _ _ _ _ => pg_name (i := 4) scOr.nd rfl (Or.inr rfl)) (fun _ _ _ _ _ => pts_nil)
          (fun _ _ _ _ _ => by exact pe_mcal cJ (pv 0) hr4 pass0 (pa_cons (pe_lc (own := [("d", 5)]) (g := gName 5) (wi := iList K (tVar 1)) (tt := tTest (tOp (rIn K false) (tMeth C "then" (spJoin K C true) [] E0 (tVar 0) (tCons (tVar 3) (tCons (tVar 5) tNil))) (tDGet (tVar 2) (tVar 4)))) (te := tVar 5) rfl scOr.nd (pi_list (pv 1)) (blkOk_by (N := NMr) (by rfl)) (fun _ _ _ _ _ => pg_name (i := 5) scOr.nd rfl (Or.inl rfl))
            (fun _ _ _ _ _ => by exact pts_one (pt_cmpR op_in_seq (pe_mcal cT (pv 0) hr3 pass0 (pa_cons (pv 3) (pa_cons (pv 5) pa_nil))) (pe_dget hu (pv 2) (pv 4) (fun _ _ => rfl)) rfl)) (fun _ _ _ _ _ => pv 5)) pa_nil))))))))), ?_⟩
    obtain ⟨dx, fs, g, d, j, t, h1, h2, h3, h4, h5, h6, h7, h8, h9, h10, h11, hm⟩ := sc.ex
    refine q_asgL (el_mcal (ev_var rfl) ea_nil h1 (hm _ (by decide)) fun H1 e Q q => ⟨a, G, J, T, lo, hi, rfl, sc.ext e, q⟩) fun p H1 n1 e1 hp => ?_
    have sc1 := sc.ext e1
    refine ⟨_, rfl, a, G, J, T, lo, hi, rfl, sc1, fun D H2 n2 e2 bl => ?_⟩
    have sc2 := sc1.ext e2
    have hp2 := e2 _ _ hp
    have ha2 := e2 _ _ (e1 _ _ h1)
    have sz := sc.sz
    obtain ⟨kvs, hD, hk⟩ := bl
    have low : ∀ x, (lowerOf G J x).length ≤ 12 := fun x => Nat.le_trans (List.length_filter_le _ _) sz
    have main : EvQ K (tThen (tLc (iList K (tVar 1)) (gName 3) tYes (tThen (rM2 K C (rO3 K C)) (kTup K)) [3]) (kTup K)) [some (.ref a), some (.ref p), some (.ref D), none, none, none] H2 (tab (rowsOf G (onlyOf G J T lo))) := by
      rw [tab_rows]
      refine qd_tup (qd_map (g := V.str) (xs := G) (ev_var rfl) (sq_of hp2) (by omega) (fun x => rfl) fun x hx => qd_tup (qd_map (g := V.str) (xs := G) (ev_var rfl) (sq_of hp2) (by omega) (fun x => rfl) fun y hy => ?_))
      obtain ⟨ly, ky, hy2⟩ := hk y hy
      refine qd_ev (ev_mcalL (ev_var rfl) (el_filter (d := "") (g := V.str) (f := V.str) (xs := G) (pr := fun d => decide (ap G T x d ∈ lowerOf G J y)) (ev_var rfl) (sq_of hp2) (by omega) (fun x => rfl)
        (fun d H3 e3 hd => et_inL (ev_mcal (ev_var rfl) (ea_cons (ev_var rfl) (ea_cons (ev_var rfl) ea_nil)) (e3 _ _ ha2) (hm _ (by decide)) fun H4 e4 Q q => ⟨a, x, d, G, J, T, lo, hi, rfl, (sc2.ext e3).ext e4, hx, hd, q⟩) (ev_dget (key := Sum.inr y) (ev_var rfl) (ev_var rfl) (e3 _ _ hD) ky) (e3 _ _ hy2)) (fun d H3 e3 hd _ => ev_var rfl)) ha2 (hm _ (by decide))
        (fun l H3 e3 h3 Q q => ⟨a, l, _, G, J, T, lo, hi, rfl, sc2.ext e3, sq_of h3, fun z hz => (List.mem_filter.mp hz).1, Nat.le_trans (List.length_filter_le _ _) (by omega), q⟩)) (.str _)
    exact main H2 (Ex.refl H2) _ fun v H3 e3 dq => q v H3 ((e1.trans e2).trans e3) dq.dp
end
end K06

set_option Elab.async false
set_option linter.all false
set_option maxRecDepth 100000
set_option maxHeartbeats 8000000
/-! S7: a scale's __init__. -/
namespace S
open PySem PySem.Spec PyProof.Rows L2 Evl J ClX StX
/-! all but one object -/
def dl (a : Addr) (H : Hp) : Hp := fun b => if b = a then none else H b
theorem dl_ne {a b : Addr} {H : Hp} (h : b ≠ a) : dl a H b = H b := if_neg h
theorem dl_self {a : Addr} {H : Hp} : dl a H a = none := if_pos rfl
theorem dl_some {a b : Addr} {H : Hp} {o : HO} (h : dl a H b = some o) : b ≠ a ∧ H b = some o := by
  unfold dl at h
  split at h
  · cases h
  · exact ⟨by assumption, h⟩
theorem dl_ex {a : Addr} {H : Hp} : Ex (dl a H) H := fun b o z => (dl_some z).2
theorem dl_of {a : Addr} {B H : Hp} (e : Ex B H) (h : B a = none) : Ex B (dl a H) := fun b o z => by
  rw [dl_ne (ne_of_none z h)]
  exact e b o z
theorem dl_but {a : Addr} {H H' : Hp} (b : But a H H') : Ex (dl a H) (dl a H') := fun c o z => by
  obtain ⟨h1, h2⟩ := dl_some z
  rw [dl_ne h1]
  exact b c o h1 h2
theorem dl_upd {a : Addr} {H : Hp} {o : HO} : dl a (upd H a o) = dl a H := by
  funext b
  unfold dl
  split
  · rfl
  · rename_i h
    rw [upd_ne h]
theorem dl_rst {a : Addr} {H H1 : Hp} (h : H a ≠ none) : Ex (rst (dl a H) H H1) (dl a H1) := fun b o z => by
  obtain ⟨h1, h2⟩ := rst_some z
  rw [dl_ne]
  · exact h2
  · intro q
    subst q
    rcases h1 with h1 | h1
    · exact h1 dl_self
    · exact h h1
section
variable {K : PySem.W.Frag} {σ : L2.St} {H B : Hp} {ta tv te : TE} {a C dx : Addr} {fs : List (Str × V)} {v : V} {f : Str} {tz : TS} {D : Ends} {xs : List V} {d : PyData}
theorem q_fld (h : Ev tv σ H v) (ho : Ev ta σ H (.ref a)) (ha : H a = some (.ins C dx fs)) (c : Cls K C) (n : NoAttr K C f) (hz : fs.length < 1000) (k : ∀ H1, Ex H H1 → tz D σ (upd H1 a (.ins C dx (putF f v fs)))) : tSeq (sFld K ta tv f) tz D σ H :=
  h H (Ex.refl H) _ fun H1 e1 => ho H1 e1 _ fun H2 e2 => ⟨a, C, dx, fs, rfl, e2 _ _ (e1 _ _ ha), c, n, hz, k H2 (e1.trans e2)⟩
theorem s_fldG {D : Ends} (h : ∀ Q : VK, (∀ v H1, Ex H H1 → Dp K (dl a H1) v d → Q v H1) → tv σ H Q) (ho : Ev ta σ H (.ref a)) (ha : H a = some (.ins C dx fs)) (c : Cls K C) (n : NoAttr K C f) (hz : fs.length < 1000) (k : ∀ v H1, Ex H H1 → Dp K (dl a H1) v d → D.nx σ (upd H1 a (.ins C dx (putF f v fs)))) : sFld K ta tv f D σ H :=
  h _ fun v H1 e1 dv => ho H1 e1 _ fun H2 e2 => ⟨a, C, dx, fs, rfl, e2 _ _ (e1 _ _ ha), c, n, hz, k v H2 (e1.trans e2) (dp_ext (dl_but (But.of e2)) dv)⟩
theorem q_fldG (h : ∀ Q : VK, (∀ v H1, Ex H H1 → Dp K (dl a H1) v d → Q v H1) → tv σ H Q) (ho : Ev ta σ H (.ref a)) (ha : H a = some (.ins C dx fs)) (c : Cls K C) (n : NoAttr K C f) (hz : fs.length < 1000) (k : ∀ v H1, Ex H H1 → Dp K (dl a H1) v d → tz D σ (upd H1 a (.ins C dx (putF f v fs)))) : tSeq (sFld K ta tv f) tz D σ H :=
  s_fldG (D := { D with nx := tz D }) h ho ha c n hz k
/-- from data put together of what stands but for a -/
theorem of_qd (h : EvQ K tv σ (dl a H) d) (ha : H a ≠ none) : ∀ Q : VK, (∀ v H1, Ex H H1 → Dp K (dl a H1) v d → Q v H1) → tv σ H Q := fun Q q => h H dl_ex Q fun v H1 e1 dq => q v H1 e1 (dp_ext (dl_rst ha) dq)
theorem qd_tupOf {es : List PyData} (h : Ev te σ B v) (dp : Dp K B v (.list es)) : EvQ K (tThen te (kTup K)) σ B (.tuple es) := fun H1 e Q q =>
  h H1 e _ fun H2 e2 => by
    cases dp with
    | @lst p xs _ hs ha =>
      exact .inl ⟨p, xs, rfl, ex_l (e.trans e2) hs, fun r hr => q (.ref r) _ (e2.trans (Ex.new hr)) (.tup (xs := xs) (st_of (by rw [rst_in (.inr (fresh_back e2 hr)), upd_same])) (dpa_ext (rst_base ((e.trans e2).trans (Ex.new hr))) ha))⟩
/-- tuple([tuple(row) for row in rows]) -/
theorem qd_rows {J : List (List Str)} {tl : TE} {vs : List Nat} {j : Nat} (h : Ev tl σ B v) (dp : Dp K B v (.list (J.map fun r => .list (r.map .str)))) (hz : J.length ≤ 1000) (hj : ∀ x : V, ((wipe σ vs).set j (some x))[j]? = some (some x)) (hw : ∀ x, wipe ((wipe σ vs).set j (some x)) vs = wipe σ vs) :
    EvQ K (tThen (tLc (iList K tl) (gName j) tYes (tThen (tVar j) (kTup K)) vs) (kTup K)) σ B (tab J) := by
  cases dp with
  | @lst p xs _ hs ha =>
    have hl := dpa_len ha
    rw [List.length_map] at hl
    unfold tab
    refine qd_tup (qd_lc h hs (by simpa using hl) (by omega) hw fun i x e hi he => ?_)
    obtain ⟨d2, hd2, dp2⟩ := dpa_get ha hi
    rw [List.getElem?_map] at he hd2
    cases hg : J[i]? with
    | none =>
      rw [hg] at he
      cases he
    | some r =>
      rw [hg] at he hd2
      obtain rfl := Option.some.inj he
      obtain rfl := Option.some.inj hd2
      exact qd_tupOf (ev_var (hj x)) dp2
theorem plc_app {x : Str} : ∀ {G : List Str} {i : Nat}, plc (G ++ [x]) i = plc G i ++ [(Sum.inr x, .int ((i + G.length : Nat) : Int))]
  | [], i => by simp [plc]
  | y :: r, i => by
    have e : i + 1 + r.length = i + (r.length + 1) := by omega
    simp only [List.cons_append, plc, plc_app (G := r), List.length_cons, e]
theorem put_new {G : List Str} {i : Nat} {x : Str} {v : V} (h : x ∉ G) : putK (plc G i) (Sum.inr x) v = plc G i ++ [(Sum.inr x, v)] := by
  unfold putK
  rw [if_neg]
  intro z
  rw [List.any_eq_true] at z
  obtain ⟨p, hp, e⟩ := z
  have : ∀ {G : List Str} {i : Nat}, p ∈ plc G i → ∃ y ∈ G, p.1 = Sum.inr y := by
    intro G
    induction G with
    | nil =>
      intro i h
      simp [plc] at h
    | cons y r ih =>
      intro i h
      rcases List.mem_cons.mp h with q | q
      · exact ⟨y, List.mem_cons_self, by rw [q]⟩
      · obtain ⟨z, hz, e⟩ := ih q
        exact ⟨z, List.mem_cons_of_mem _ hz, e⟩
  obtain ⟨y, hy, ey⟩ := this hp
  have e2 := of_decide_eq_true e
  rw [ey] at e2
  exact h (Sum.inr.inj e2 ▸ hy)
/-- {xs[i]: i for i in range(len(xs))} -/
theorem dc_places {gs : List Str} {ta : TA} {tk tv : TE} {vs : List Nat} {j : Nat} (nd : gs.Nodup) (hz : gs.length ≤ 1000) (hn : EvA ta σ H [.int (gs.length : Int)]) (hw : ∀ x, wipe ((wipe σ vs).set j (some x)) vs = wipe σ vs)
    (ek : ∀ (i : Nat) x, gs[i]? = some x → Ev tk ((wipe σ vs).set j (some (.int (i : Int)))) H (.str x)) (el : ∀ i : Nat, Ev tv ((wipe σ vs).set j (some (.int (i : Int)))) H (.int (i : Int)))
    {Q : VK} (k : ∀ D H2, H D = none → Ex H H2 → H2 D = some (.dK (plc gs 0)) → Q (.ref D) H2) : tDc (iRng1 ta) (gName j) tYes tk tv vs σ H Q := by
  refine hn H (Ex.refl H) _ fun H0 e0 => ⟨(gs.length : Int), rfl, by omega, by omega, fun D hD => ?_⟩
  refine ⟨fun i m H' => m = gs.length - i ∧ i ≤ gs.length ∧ H0 D = none ∧ Ex H0 H' ∧ H' D = some (.dK (plc (gs.take i) 0)), ⟨gs.length, by simp, Nat.zero_le _, hD, Ex.new hD, by simpa [plc] using upd_same⟩, ?_⟩
  rintro i m H' ⟨rfl, hi, g0, g1, g2⟩
  by_cases hlt : i < gs.length
  · refine .inr ⟨(show i < ((gs.length : Nat) : Int).toNat by simpa using hlt), fun H5 => i + 1 ≤ gs.length ∧ H0 D = none ∧ Ex H0 H5 ∧ H5 D = some (.dK (plc (gs.take (i + 1)) 0)), fun H5 p' => ⟨gs.length - (i + 1), by omega, rfl, p'.1, p'.2⟩, fun x H5 y => ?_⟩
    obtain ⟨e5, ex⟩ := y
    subst e5
    have ex2 : x = .int (i : Int) := by
      rw [ex]
      simp
    subst ex2
    have hg : gs[i]? = some gs[i] := List.getElem?_eq_getElem hlt
    refine ⟨hw _, ?_⟩
    show tk _ H5 _
    refine ek i _ hg H5 (e0.trans g1) _ fun H6 e6 => el i H6 ((e0.trans g1).trans e6) _ fun H7 e7 => ?_
    have d7 := e7 _ _ (e6 _ _ g2)
    have ni : gs[i] ∉ gs.take i := fun z => by
      obtain ⟨n, hn, e⟩ := List.getElem_of_mem z
      have h1 : n < i := by
        rw [List.length_take] at hn
        omega
      rw [List.getElem_take] at e
      have := (List.getElem_inj nd).mp e
      omega
    have lp : (plc (gs.take i) 0).length ≤ 2000 := by
      have : ∀ (G : List Str) (n : Nat), (plc G n).length = G.length := by
        intro G
        induction G with
        | nil => intro n; rfl
        | cons y r ih => intro n; simp [plc, ih]
      rw [this, List.length_take]
      omega
    refine ⟨_, Sum.inr gs[i], rfl, d7, sz_lt (by omega), hlt, g0, Ex.mut ((g1.trans e6).trans e7) g0, ?_⟩
    rw [upd_same, put_new ni, List.take_add_one, hg]
    show _ = some (HO.dK (plc (gs.take i ++ [gs[i]]) 0))
    rw [plc_app, List.length_take]
    have : min i gs.length = i := by omega
    rw [this, Nat.zero_add]
  · have e : i = gs.length := by omega
    subst e
    refine .inl ⟨(show ((gs.length : Nat) : Int).toNat ≤ gs.length by simp), k D H' (fresh_back e0 g0) (e0.trans g1) ?_⟩
    rw [List.take_length] at g2
    exact g2
end
end S

set_option Elab.async false
set_option linter.all false
set_option maxRecDepth 100000
set_option maxHeartbeats 8000000
/-! S8: Scale.__init__. -/
namespace S
open PySem PySem.Spec PyProof.Rows L2 Evl J ClX StX
section
variable {K : PySem.W.Frag} {H : Hp} {a C dx : Addr} {fs : List (Str × V)} {f g : Str} {v : V} {r : Option V}
theorem lk_same : (putF f v fs).lookup f = some v := by rw [lookup_putF, if_pos rfl]
theorem lk (h : g ≠ f) (e : fs.lookup g = r) : (putF f v fs).lookup g = r := by rw [lookup_putF, if_neg h]; exact e
theorem sql_dl {p : Addr} {xs : List V} (ha : H a = some (.ins C dx fs)) (h : SqL K H p xs) : SqL K (dl a H) p xs := by
  rcases h with (h | ⟨o, h⟩) | h
  · have hp : p ≠ a := fun z => by
      rw [z, ha] at h
      cases h
    exact .inl (.inl (by rw [dl_ne hp]; exact h))
  · have hp : p ≠ a := fun z => by
      rw [z, ha] at h
      cases h
    exact .inl (.inr ⟨o, by rw [dl_ne hp]; exact h⟩)
  · exact .inr h
theorem sqt_dl {p : Addr} {xs : List V} (ha : H a = some (.ins C dx fs)) (h : SqT K H p xs) : SqT K (dl a H) p xs := by
  rcases h with (h | ⟨o, h⟩) | h
  · have hp : p ≠ a := fun z => by
      rw [z, ha] at h
      cases h
    exact .inl (.inl (by rw [dl_ne hp]; exact h))
  · have hp : p ≠ a := fun z => by
      rw [z, ha] at h
      cases h
    exact .inl (.inr ⟨o, by rw [dl_ne hp]; exact h⟩)
  · exact .inr h
theorem q_fldX {σ : L2.St} {ta tv : TE} {tz : TS} {E : Ends} {φ : V → Hp → Hp → Prop} (h : ∀ Q : VK, (∀ v H1, Ex H H1 → φ v H H1 → Q v H1) → tv σ H Q) (ho : Ev ta σ H (.ref a)) (ha : H a = some (.ins C dx fs)) (c : Cls K C) (n : NoAttr K C f) (hz : fs.length < 1000)
    (mono : ∀ v H1 H2, Ex H1 H2 → φ v H H1 → φ v H H2) (k : ∀ v H1, Ex H H1 → φ v H H1 → tz E σ (upd H1 a (.ins C dx (putF f v fs)))) : tSeq (sFld K ta tv f) tz E σ H :=
  h _ fun v H1 e1 dv => ho H1 e1 _ fun H2 e2 => ⟨a, C, dx, fs, rfl, e2 _ _ (e1 _ _ ha), c, n, hz, k v H2 (e1.trans e2) (mono v H1 H2 e2 dv)⟩
mutual
theorem dp_dl (ha : H a = some (.ins C dx fs)) : ∀ {v : V} {d : PyData}, Dp K H v d → Dp K (dl a H) v d
  | _, _, .non => .non
  | _, _, .bl b => .bl b
  | _, _, .int i => .int i
  | _, _, .str x => .str x
  | _, _, .lst h r => .lst (sql_dl ha h) (dpa_dl ha r)
  | _, _, .tup h r => .tup (sqt_dl ha h) (dpa_dl ha r)
theorem dpa_dl (ha : H a = some (.ins C dx fs)) : ∀ {vs : List V} {ds : List PyData}, DpAll K H vs ds → DpAll K (dl a H) vs ds
  | _, _, .nil => .nil
  | _, _, .cons h r => .cons (dp_dl ha h) (dpa_dl ha r)
end
theorem dpa_strs : ∀ G : List Str, DpAll K H (G.map V.str) (G.map .str)
  | [] => .nil
  | x :: r => .cons (.str x) (dpa_strs r)
theorem strs_of : ∀ {G : List Str} {xs : List V}, DpAll K H xs (G.map .str) → xs = G.map V.str
  | [], _, .nil => rfl
  | x :: r, _, .cons (.str _) h => by rw [strs_of h]; rfl
end
end S
namespace K06
open PySem PySem.Spec PyProof.Rows L2 Evl J ClX StX S
abbrev sInit : Stmt := methS 27 0
/-- a scale, whole -/
structure Made (K : PySem.W.Frag) (C : Addr) (H : Hp) (a : Addr) (G : List Str) (J T : List (List Str)) (lo hi : Str) : Prop where
  sc : ScAt K C H a G J T lo hi
  mo : ∃ (dx : Addr) (fs : List (Str × V)) (mv ov : V), H a = some (.ins C dx fs) ∧ fs.lookup ("_meets" : Str) = some mv ∧ Dp K H mv (tab (rowsOf G (meetOf G J lo))) ∧ fs.lookup ("_onlys" : Str) = some ov ∧ Dp K H ov (tab (rowsOf G (onlyOf G J T lo)))
def rowsL (J : List (List Str)) : PyData := .list (J.map fun r => .list (r.map .str))
def spInit (K : PySem.W.Frag) (C : Addr) : Sp := fun vs H Q _ => ∃ (a dx lg : Addr) (vj vt : V) (fs0 : List (Str × V)) (G : List Str) (J T : List (List Str)) (lo hi : Str), vs = [.ref a, .ref lg, vj, vt, .str lo, .str hi] ∧ fs0.length ≤ 2 ∧ (∀ m ∈ mths, fs0.lookup m = none) ∧ H a = some (.ins C dx fs0) ∧ SqL K H lg (G.map V.str) ∧ Dp K H vj (rowsL J) ∧ Dp K H vt (rowsL T) ∧
  G.Nodup ∧ G.length ≤ 12 ∧ Wf G J ∧ Wf G T ∧ lo ∈ G ∧ hi ∈ G ∧ ∀ H', But a H H' → Made K C H' a G J T lo hi → Q .non H'
section
variable {P : Program} {w : World} {K : PySem.W.Frag} {mg : Str → Option Value} {base : Heap} {f : Addr} {fd : FuncData} {C : Addr}
abbrev NIn : List Str := ["self", "grades", "joins", "products", "none", "nearest", "place", "row"]
theorem scIn : FnScope NIn ["self", "grades", "joins", "products", "none", "nearest"] (defScope sInit) := ⟨rfl, rfl, rfl, by decide +kernel, rfl, by decide +kernel, by decide +kernel⟩
theorem flen {fs : List (Str × V)} {f : Str} {v : V} {n : Nat} (h : fs.length ≤ n) : (putF f v fs).length ≤ n + 1 := by
  induction fs generalizing n with
  | nil => simp [putF]
  | cons p r ih =>
    obtain ⟨g, x⟩ := p
    unfold putF
    split
    · simp at h ⊢
      omega
    · cases n with
      | zero => simp at h
      | succ n =>
        have := ih (n := n) (by simpa using h)
        simpa using this
theorem lt_th {fs : List (Str × V)} {n : Nat} (h : fs.length ≤ n) (hn : n < 1000) : fs.length < 1000 := by omega
theorem ne_mth : ∀ m ∈ mths, ∀ x ∈ fldN, m ≠ x := by decide +kernel
/-- the six first fields -/
structure Six (fs : List (Str × V)) (g D : Addr) (j t : V) (lo hi : Str) : Prop where
  gr : fs.lookup ("_grades" : Str) = some (.ref g)
  pl : fs.lookup ("_places" : Str) = some (.ref D)
  jo : fs.lookup ("_joins" : Str) = some j
  pr : fs.lookup ("_products" : Str) = some t
  lo : fs.lookup ("none" : Str) = some (.str lo)
  hi : fs.lookup ("nearest" : Str) = some (.str hi)
  no : ∀ m ∈ mths, fs.lookup m = none
theorem Six.put {fs : List (Str × V)} {g D : Addr} {j t v : V} {lo hi f : Str} (s : Six fs g D j t lo hi) (h : f = "_meets" ∨ f = "_onlys") : Six (putF f v fs) g D j t lo hi := by
  rcases h with rfl | rfl
  · exact ⟨lk (by decide) s.gr, lk (by decide) s.pl, lk (by decide) s.jo, lk (by decide) s.pr, lk (by decide) s.lo, lk (by decide) s.hi, fun m hm => lk (ne_mth m hm _ (by decide)) (s.no m hm)⟩
  · exact ⟨lk (by decide) s.gr, lk (by decide) s.pl, lk (by decide) s.jo, lk (by decide) s.pr, lk (by decide) s.lo, lk (by decide) s.hi, fun m hm => lk (ne_mth m hm _ (by decide)) (s.no m hm)⟩
abbrev fs2 (fs0 : List (Str × V)) (lo hi : Str) : List (Str × V) := putF "nearest" (.str hi) (putF "none" (.str lo) fs0)
abbrev fs6 (fs0 : List (Str × V)) (lo hi : Str) (g D : Addr) (j t : V) : List (Str × V) := putF "_products" t (putF "_joins" j (putF "_places" (.ref D) (putF "_grades" (.ref g) (fs2 fs0 lo hi))))
theorem six6 {fs0 : List (Str × V)} (h0 : ∀ m ∈ mths, fs0.lookup m = none) {lo hi : Str} {g D : Addr} {j t : V} : Six (fs6 fs0 lo hi g D j t) g D j t lo hi :=
  ⟨lk (by decide) (lk (by decide) (lk (by decide) lk_same)), lk (by decide) (lk (by decide) lk_same), lk (by decide) lk_same, lk_same, lk (by decide) (lk (by decide) (lk (by decide) (lk (by decide) (lk (by decide) lk_same)))), lk (by decide) (lk (by decide) (lk (by decide) (lk (by decide) lk_same))),
    fun m hm => lk (ne_mth m hm _ (by decide)) (lk (ne_mth m hm _ (by decide)) (lk (ne_mth m hm _ (by decide)) (lk (ne_mth m hm _ (by decide)) (lk (ne_mth m hm _ (by decide)) (lk (ne_mth m hm _ (by decide)) (h0 m hm))))))⟩
theorem len6 {fs0 : List (Str × V)} (z0 : fs0.length ≤ 2) {lo hi : Str} {g D : Addr} {j t : V} : (fs6 fs0 lo hi g D j t).length ≤ 8 := flen (flen (flen (flen (flen (flen z0)))))
abbrev rRow (K : PySem.W.Frag) (i : Nat) : TE := tThen (tLc (iList K (tVar i)) (gName 7) tYes (tThen (tVar 7) (kTup K)) [7]) (kTup K)
theorem ok_init (F : FnM K "__init__" "Scale.__init__" sInit f fd) (T0 : Bl mg) (cf : ClsF K C fldN) (cM : Cal P w K mg base CX0 6 "_meet_rows" ["scale"] (spRowsOf K C false)) (cO : Cal P w K mg base CX0 6 "_only_rows" ["scale"] (spRowsOf K C true)) :
    FnOk P w K mg base CX0 7 f fd ["self", "grades", "joins", "products", "none", "nearest"] (spInit K C) := by
  refine F.ok scIn (fun vs H Q E h => ?_) (fun cdv A outer s H vs Q E hr h => ?_)
  · obtain ⟨a, dx, lg, vj, vt, fs0, G, J, T, lo, hi, rfl, _⟩ := h
    rfl
  · obtain ⟨a, dx, lg, vj, vt, fs0, G, J, T, lo, hi, rfl, z0, h0, ha, sg, dj, dt, nd, sz, wj, wt, hlo, hhi, q⟩ := h
    refine ⟨_, pss_cons (ps_fld (pv 0) (pv 4) rfl) (pss_cons (ps_fld (pv 0) (pv 5) rfl) (pss_cons (ps_fld (pv 0) (pe_tupleOf rfl T0.tup (pv 1)) rfl)
      (pss_cons (ps_fld (pv 0) (pe_dc (own := [("place", 6)]) (g := gName 6) (tt := tYes) (tk := tOp (rIxL K) (tVar 1) (tVar 6)) (tv := tVar 6) rfl scIn.nd (pi_range1 rfl T0.rng (pa_cons (pe_callB call_len_seq (by rfl) T0.len boot_len (pa_cons (pv 1) pa_nil)) pa_nil)) (blkOk_by (N := NIn) (sc := defScope sInit) (by decide +kernel))
        (fun _ _ _ _ _ => pg_name (i := 6) scIn.nd rfl (Or.inl rfl)) (fun _ _ _ _ _ => pts_nil) (fun _ _ _ _ _ => by exact pe_ix ix_list (pv 1) (pv 6) (fun _ _ => rfl)) (fun _ _ _ _ _ => pv 6)) rfl)
      (pss_cons (ps_fld (pv 0) (pe_tupleOf rfl T0.tup (pe_lc (own := [("row", 7)]) (g := gName 7) (tt := tYes) (te := tThen (tVar 7) (kTup K)) rfl scIn.nd (pi_list (pv 2)) (blkOk_by (N := NIn) (sc := defScope sInit) (by decide +kernel)) (fun _ _ _ _ _ => pg_name (i := 7) scIn.nd rfl (Or.inl rfl)) (fun _ _ _ _ _ => pts_nil) (fun _ _ _ _ _ => by exact pe_tupleOf rfl T0.tup (pv 7)))) rfl)
      (pss_cons (ps_fld (pv 0) (pe_tupleOf rfl T0.tup (pe_lc (own := [("row", 7)]) (g := gName 7) (tt := tYes) (te := tThen (tVar 7) (kTup K)) rfl scIn.nd (pi_list (pv 3)) (blkOk_by (N := NIn) (sc := defScope sInit) (by decide +kernel)) (fun _ _ _ _ _ => pg_name (i := 7) scIn.nd rfl (Or.inl rfl)) (fun _ _ _ _ _ => pts_nil) (fun _ _ _ _ _ => by exact pe_tupleOf rfl T0.tup (pv 7)))) rfl)
      (pss_cons (ps_fld (pv 0) (pe_cal cM hr rfl pass0 (pa_cons (pv 0) pa_nil)) rfl) (pss_one (ps_fld (pv 0) (pe_cal cO hr rfl pass0 (pa_cons (pv 0) pa_nil)) rfl)))))))), ?_⟩
    have L : SqL K (dl a H) lg (G.map V.str) := sql_dl ha sg
    have DJ := dp_dl ha dj
    have DT := dp_dl ha dt
    -- none, nearest
    refine q_fld (ev_var rfl) (ev_var rfl) ha cf.cl (cf.no _ (by decide)) (lt_th z0 (by decide)) fun H1 e1 => ?_
    have b1 : But a H (upd H1 a (.ins C dx (putF "none" (.str lo) fs0))) := (But.of e1).trans But.upd
    have a1 : (upd H1 a (.ins C dx (putF "none" (.str lo) fs0))) a = some (.ins C dx (putF "none" (.str lo) fs0)) := upd_same
    show tSeq _ _ _ _ (upd H1 a (.ins C dx (putF "none" (.str lo) fs0)))
    generalize upd H1 a (.ins C dx (putF "none" (.str lo) fs0)) = K1 at b1 a1 ⊢
    refine q_fld (ev_var rfl) (ev_var rfl) a1 cf.cl (cf.no _ (by decide)) (lt_th (flen z0) (by decide)) fun H2 e2 => ?_
    have b2 : But a H (upd H2 a (.ins C dx (fs2 fs0 lo hi))) := (b1.trans (But.of e2)).trans But.upd
    have a2 : (upd H2 a (.ins C dx (fs2 fs0 lo hi))) a = some (.ins C dx (fs2 fs0 lo hi)) := upd_same
    show tSeq _ _ _ _ (upd H2 a (.ins C dx (fs2 fs0 lo hi)))
    generalize upd H2 a (.ins C dx (fs2 fs0 lo hi)) = K2 at b2 a2 ⊢
    -- _grades
    have dpG : Dp K (dl a K2) (.ref lg) (.list (G.map .str)) := .lst (ex_l (dl_but b2) L) (dpa_strs G)
    refine q_fldG (of_qd (qd_tupOf (ev_var rfl) dpG) (by rw [a2]; simp)) (ev_var rfl) a2 cf.cl (cf.no _ (by decide)) (lt_th (flen (flen z0)) (by decide)) fun v3 H3 e3 dv => ?_
    obtain ⟨g, rfl, hg⟩ : ∃ g, v3 = .ref g ∧ SqT K (dl a H3) g (G.map V.str) := by
      cases dv with
      | @tup g xs _ hs hd => exact ⟨g, rfl, by rw [← strs_of hd]; exact hs⟩
    have b3 : But a H (upd H3 a (.ins C dx (putF "_grades" (.ref g) (fs2 fs0 lo hi)))) := (b2.trans (But.of e3)).trans But.upd
    have a3 : (upd H3 a (.ins C dx (putF "_grades" (.ref g) (fs2 fs0 lo hi)))) a = some (.ins C dx (putF "_grades" (.ref g) (fs2 fs0 lo hi))) := upd_same
    have g3 : SqT K (dl a (upd H3 a (.ins C dx (putF "_grades" (.ref g) (fs2 fs0 lo hi))))) g (G.map V.str) := by rw [dl_upd]; exact hg
    show tSeq _ _ _ _ (upd H3 a (.ins C dx (putF "_grades" (.ref g) (fs2 fs0 lo hi))))
    generalize upd H3 a (.ins C dx (putF "_grades" (.ref g) (fs2 fs0 lo hi))) = K3 at b3 a3 g3 ⊢
    -- _places
    have L3 : SqL K K3 lg (G.map V.str) := ex_l dl_ex (ex_l (dl_but b3) L)
    refine q_fldX (φ := fun v Ha Hb => ∃ D, v = .ref D ∧ Ha D = none ∧ Hb D = some (.dK (plc G 0))) (fun Q k => dc_places (gs := G) nd (by omega) (ea_cons (ev_is (ev_cb (ea_cons (ev_var rfl) ea_nil) (rc_len (.inl L3))) (by rw [List.length_map])) ea_nil) (fun x => rfl)
      (fun i x hi => by exact ev_op (ev_var rfl) (ev_var rfl) (rv_ixL L3 (atI_nat (by rw [List.getElem?_map, hi]; rfl)))) (fun i => by exact ev_var rfl) fun D H4 n4 e4 hD => k _ H4 e4 ⟨D, rfl, n4, hD⟩)
      (ev_var rfl) a3 cf.cl (cf.no _ (by decide)) (lt_th (flen (flen (flen z0))) (by decide)) (fun v H1 H2 e ⟨D, q1, q2, q3⟩ => ⟨D, q1, q2, e _ _ q3⟩) fun v4 H4 e4 hv4 => ?_
    obtain ⟨D, rfl, n4, hD⟩ := hv4
    have Da : D ≠ a := fun z => by
      rw [z, a3] at n4
      cases n4
    have b34 : But a K3 (upd H4 a (.ins C dx (putF "_places" (.ref D) (putF "_grades" (.ref g) (fs2 fs0 lo hi))))) := (But.of e4).trans But.upd
    have a4 : (upd H4 a (.ins C dx (putF "_places" (.ref D) (putF "_grades" (.ref g) (fs2 fs0 lo hi))))) a = some (.ins C dx (putF "_places" (.ref D) (putF "_grades" (.ref g) (fs2 fs0 lo hi)))) := upd_same
    have D4 : dl a (upd H4 a (.ins C dx (putF "_places" (.ref D) (putF "_grades" (.ref g) (fs2 fs0 lo hi))))) D = some (.dK (plc G 0)) := by rw [dl_upd, dl_ne Da]; exact hD
    show tSeq _ _ _ _ (upd H4 a (.ins C dx (putF "_places" (.ref D) (putF "_grades" (.ref g) (fs2 fs0 lo hi)))))
    generalize upd H4 a (.ins C dx (putF "_places" (.ref D) (putF "_grades" (.ref g) (fs2 fs0 lo hi)))) = K4 at b34 a4 D4 ⊢
    have b4 := b3.trans b34
    -- _joins
    have zj : J.length ≤ 1000 := by
      have := wj.len
      omega
    have zt : T.length ≤ 1000 := by
      have := wt.len
      omega
    refine q_fldG (of_qd (qd_rows (ev_var rfl) (dp_ext (dl_but b4) DJ) zj (fun x => rfl) (fun x => rfl)) (by rw [a4]; simp)) (ev_var rfl) a4 cf.cl (cf.no _ (by decide)) (lt_th (flen (flen (flen (flen z0)))) (by decide)) fun v5 H5 e5 d5 => ?_
    have b45 : But a K4 (upd H5 a (.ins C dx (putF "_joins" v5 (putF "_places" (.ref D) (putF "_grades" (.ref g) (fs2 fs0 lo hi)))))) := (But.of e5).trans But.upd
    have a5 : (upd H5 a (.ins C dx (putF "_joins" v5 (putF "_places" (.ref D) (putF "_grades" (.ref g) (fs2 fs0 lo hi)))))) a = some (.ins C dx (putF "_joins" v5 (putF "_places" (.ref D) (putF "_grades" (.ref g) (fs2 fs0 lo hi))))) := upd_same
    have J5 : Dp K (dl a (upd H5 a (.ins C dx (putF "_joins" v5 (putF "_places" (.ref D) (putF "_grades" (.ref g) (fs2 fs0 lo hi))))))) v5 (tab J) := by rw [dl_upd]; exact d5
    show tSeq _ _ _ _ (upd H5 a (.ins C dx (putF "_joins" v5 (putF "_places" (.ref D) (putF "_grades" (.ref g) (fs2 fs0 lo hi))))))
    generalize upd H5 a (.ins C dx (putF "_joins" v5 (putF "_places" (.ref D) (putF "_grades" (.ref g) (fs2 fs0 lo hi))))) = K5 at b45 a5 J5 ⊢
    have b5 := b4.trans b45
    -- _products
    refine q_fldG (of_qd (qd_rows (ev_var rfl) (dp_ext (dl_but b5) DT) zt (fun x => rfl) (fun x => rfl)) (by rw [a5]; simp)) (ev_var rfl) a5 cf.cl (cf.no _ (by decide)) (lt_th (flen (flen (flen (flen (flen z0))))) (by decide)) fun v6 H6 e6 d6 => ?_
    have b56 : But a K5 (upd H6 a (.ins C dx (fs6 fs0 lo hi g D v5 v6))) := (But.of e6).trans But.upd
    have a6 : (upd H6 a (.ins C dx (fs6 fs0 lo hi g D v5 v6))) a = some (.ins C dx (fs6 fs0 lo hi g D v5 v6)) := upd_same
    have T6 : Dp K (dl a (upd H6 a (.ins C dx (fs6 fs0 lo hi g D v5 v6)))) v6 (tab T) := by rw [dl_upd]; exact d6
    show tSeq _ _ _ _ (upd H6 a (.ins C dx (fs6 fs0 lo hi g D v5 v6)))
    generalize upd H6 a (.ins C dx (fs6 fs0 lo hi g D v5 v6)) = K6 at b56 a6 T6 ⊢
    have b6 := b5.trans b56
    have b36 := (b34.trans b45).trans b56
    have b46 := b45.trans b56
    have scK : ∀ (K7 : Hp) (fs : List (Str × V)), But a K6 K7 → K7 a = some (.ins C dx fs) → Six fs g D v5 v6 lo hi → ScAt K C K7 a G J T lo hi := fun K7 fs b7 a7 s7 =>
      ⟨⟨dx, fs, g, D, v5, v6, a7, s7.gr, ex_t dl_ex (ex_t (dl_but (b36.trans b7)) g3), s7.pl, dl_ex _ _ (dl_but (b46.trans b7) _ _ D4), s7.jo, dp_ext dl_ex (dp_ext (dl_but (b56.trans b7)) J5), s7.pr, dp_ext dl_ex (dp_ext (dl_but b7) T6), s7.lo, s7.hi, s7.no⟩, nd, sz, wj, wt, hlo, hhi⟩
    -- _meets
    refine ⟨_, rfl, a, G, J, T, lo, hi, rfl, scK K6 _ (fun c o _ z => z) a6 (six6 h0), fun v7 H7 e7 d7 => ⟨_, rfl, a, C, dx, _, rfl, e7 _ _ a6, cf.cl, cf.no _ (by decide), lt_th (len6 z0) (by decide), ?_⟩⟩
    have d7' : Dp K (dl a H7) v7 (tab (rowsOf G (meetOf G J lo))) := dp_dl (e7 _ _ a6) d7
    have b67 : But a K6 (upd H7 a (.ins C dx (putF "_meets" v7 (fs6 fs0 lo hi g D v5 v6)))) := (But.of e7).trans But.upd
    have a7 : (upd H7 a (.ins C dx (putF "_meets" v7 (fs6 fs0 lo hi g D v5 v6)))) a = some (.ins C dx (putF "_meets" v7 (fs6 fs0 lo hi g D v5 v6))) := upd_same
    have M7 : Dp K (dl a (upd H7 a (.ins C dx (putF "_meets" v7 (fs6 fs0 lo hi g D v5 v6))))) v7 (tab (rowsOf G (meetOf G J lo))) := by rw [dl_upd]; exact d7'
    generalize upd H7 a (.ins C dx (putF "_meets" v7 (fs6 fs0 lo hi g D v5 v6))) = K7 at b67 a7 M7 ⊢
    -- _onlys
    refine ⟨_, rfl, a, G, J, T, lo, hi, rfl, scK K7 _ b67 a7 ((six6 h0).put (.inl rfl)), fun v8 H8 e8 d8 => ⟨_, rfl, a, C, dx, _, rfl, e8 _ _ a7, cf.cl, cf.no _ (by decide), lt_th (flen (len6 z0)) (by decide), ?_⟩⟩
    have d8' : Dp K (dl a H8) v8 (tab (rowsOf G (onlyOf G J T lo))) := dp_dl (e8 _ _ a7) d8
    have b78 : But a K7 (upd H8 a (.ins C dx (putF "_onlys" v8 (putF "_meets" v7 (fs6 fs0 lo hi g D v5 v6))))) := (But.of e8).trans But.upd
    refine q _ ((b6.trans b67).trans b78) ⟨scK _ _ (b67.trans b78) upd_same (((six6 h0).put (.inl rfl)).put (.inr rfl)), dx, _, v7, v8, upd_same, lk (by decide) lk_same, dp_ext dl_ex (dp_ext (dl_but b78) M7), lk_same, dp_ext dl_ex (by rw [dl_upd]; exact d8')⟩
end
end K06

set_option Elab.async false
set_option linter.all false
set_option maxRecDepth 100000
set_option maxHeartbeats 8000000
/-! S9: what a table scale's texts and rows are looked through for. -/
namespace S
open PySem PySem.Spec PyProof.Rows L2 Evl J ClX StX
section
variable {K : PySem.W.Frag} {σ : L2.St} {H : Hp} {te tl ta : TE} {vs : List Nat} {j : Nat} {a : Addr}
/-- [f(sign) for sign in a text] -/
theorem el_lcS {x : Str} {f : Nat → V} (h : Ev tl σ H (.str x)) (hz : x.cps.size ≤ 40000) (hw : ∀ x, wipe ((wipe σ vs).set j (some x)) vs = wipe σ vs)
    (he : ∀ c, c ∈ x.cps.toList → Ev te ((wipe σ vs).set j (some (.str ⟨#[c]⟩))) H (f c)) : EvL (tLc (iStr tl) (gName j) tYes te vs) σ H (x.cps.toList.map f) := fun H1 e Q q =>
  h H1 e _ fun H0 e0 => ⟨x, rfl, fun D hD => by
    refine ⟨fun i m H' => m = x.cps.size - i ∧ i ≤ x.cps.size ∧ H0 D = none ∧ Ex H0 H' ∧ H' D = some (.lst ((x.cps.toList.take i).map f)), ⟨x.cps.size, by simp, Nat.zero_le _, hD, Ex.new hD, by simpa using upd_same⟩, ?_⟩
    rintro i m H' ⟨rfl, hi, g0, g1, g2⟩
    by_cases hlt : i < x.cps.size
    · refine .inr ⟨hlt, fun H5 => i + 1 ≤ x.cps.size ∧ H0 D = none ∧ Ex H0 H5 ∧ H5 D = some (.lst ((x.cps.toList.take (i + 1)).map f)), fun H5 p' => ⟨x.cps.size - (i + 1), by omega, rfl, p'.1, p'.2⟩, fun v H5 y => ?_⟩
      obtain ⟨e5, c, hc, ev⟩ := y
      subst e5 ev
      have hc2 : x.cps.toList[i]? = some c := by rw [Array.getElem?_toList]; exact hc
      have mem : c ∈ x.cps.toList := List.mem_of_getElem? hc2
      refine ⟨hw _, ?_⟩
      show te _ H5 _
      refine he c mem H5 ((e.trans e0).trans g1) _ fun H6 e6 => ?_
      have d6 := e6 _ _ g2
      refine ⟨_, d6, sz_lt (by rw [List.length_map, List.length_take]; omega), hlt, g0, Ex.mut (g1.trans e6) g0, ?_⟩
      rw [upd_same, List.take_add_one, hc2, List.map_append]
      rfl
    · have e9 : i = x.cps.size := by omega
      subst e9
      refine .inl ⟨Nat.le_refl _, q D H' (fresh_back e0 g0) (e0.trans g1) ?_⟩
      rw [g2, List.take_of_length_le (by simp)]⟩
/-- a dict comprehension over unlike texts, each with the same value -/
theorem dc_same {gs : List Str} {tk tv : TE} {v : V} (nd : gs.Nodup) (hv : Ev tl σ H (.ref a)) (hx : SqL K H a (gs.map V.str)) (hz : gs.length ≤ 1000) (hw : ∀ x, wipe ((wipe σ vs).set j (some x)) vs = wipe σ vs)
    (ek : ∀ x, x ∈ gs → Ev tk ((wipe σ vs).set j (some (.str x))) H (.str x)) (el : ∀ x, x ∈ gs → Ev tv ((wipe σ vs).set j (some (.str x))) H v)
    {Q : VK} (k : ∀ D H2, H D = none → Ex H H2 → H2 D = some (.dK (gs.map fun x => (Sum.inr x, v))) → Q (.ref D) H2) : tDc (iList K tl) (gName j) tYes tk tv vs σ H Q := by
  refine hv H (Ex.refl H) _ fun H0 e0 => ⟨a, rfl, ⟨_, ex_l e0 hx⟩, fun D hD => ?_⟩
  refine ⟨fun i m H' => m = gs.length - i ∧ i ≤ gs.length ∧ H0 D = none ∧ Ex H0 H' ∧ H' D = some (.dK ((gs.take i).map fun x => (Sum.inr x, v))), ⟨gs.length, by simp, Nat.zero_le _, hD, Ex.new hD, by simpa using upd_same⟩, ?_⟩
  rintro i m H' ⟨rfl, hi, g0, g1, g2⟩
  have q := ex_l (e0.trans g1) hx
  by_cases hlt : i < gs.length
  · refine .inr ⟨⟨gs.map V.str, .str gs[i], q, by simp [hlt]⟩, fun H5 => i + 1 ≤ gs.length ∧ H0 D = none ∧ Ex H0 H5 ∧ H5 D = some (.dK ((gs.take (i + 1)).map fun x => (Sum.inr x, v))), fun H5 p' => ⟨gs.length - (i + 1), by omega, rfl, p'.1, p'.2⟩, fun x H5 y => ?_⟩
    obtain ⟨e5, y⟩ := y
    subst e5
    have hxi : x = .str gs[i] := by
      have := y (gs.map V.str) q
      simpa [hlt] using this.symm
    subst hxi
    have mem : gs[i] ∈ gs := List.getElem_mem hlt
    have hg : gs[i]? = some gs[i] := List.getElem?_eq_getElem hlt
    refine ⟨hw _, ?_⟩
    show tk _ H5 _
    refine ek _ mem H5 (e0.trans g1) _ fun H6 e6 => el _ mem H6 ((e0.trans g1).trans e6) _ fun H7 e7 => ?_
    have d7 := e7 _ _ (e6 _ _ g2)
    have ni : gs[i] ∉ gs.take i := fun z => by
      obtain ⟨n, hn, e⟩ := List.getElem_of_mem z
      have h1 : n < i := by
        rw [List.length_take] at hn
        omega
      rw [List.getElem_take] at e
      have := (List.getElem_inj nd).mp e
      omega
    refine ⟨_, Sum.inr gs[i], rfl, d7, sz_lt (by rw [List.length_map, List.length_take]; omega), hlt, g0, Ex.mut ((g1.trans e6).trans e7) g0, ?_⟩
    rw [upd_same, List.take_add_one, hg, List.map_append]
    unfold putK
    rw [if_neg]
    · rfl
    · intro z
      rw [List.any_eq_true] at z
      obtain ⟨p, hp, e⟩ := z
      obtain ⟨y2, hy, rfl⟩ := List.mem_map.mp hp
      exact ni (Sum.inr.inj (of_decide_eq_true e) ▸ hy)
  · have e : i = gs.length := by omega
    subst e
    refine .inl ⟨⟨_, q, by simp⟩, k D H' (fresh_back e0 g0) (e0.trans g1) ?_⟩
    rw [List.take_length] at g2
    exact g2
end
end S

set_option Elab.async false
set_option linter.all false
set_option maxRecDepth 100000
set_option maxHeartbeats 8000000
/-! S10: is_row, is_run, _are_unlike, the checks. -/
namespace S
open PySem PySem.Spec PyProof.Rows L2 Evl J ClX StX
section
variable {K : PySem.W.Frag} {σ : L2.St} {H : Hp} {ta tb tc : TE} {i j k : Int}
/-- i <= j <= k -/
theorem et_le2 (ha : Ev ta σ H (.int i)) (hb : Ev tb σ H (.int j)) (hc : Ev tc σ H (.int k)) : EvT (tTest (tChain (rI0 fun i j => .bl (decide (i ≤ j))) (rI0 fun i j => .bl (decide (i ≤ j))) ta tb tc)) σ H (decide (i ≤ j) && decide (j ≤ k)) := fun H1 e Q q =>
  ha H1 e _ fun H2 e2 => hb H2 (e.trans e2) _ fun H3 e3 => ⟨i, j, rfl, rfl, decide (i ≤ j), rfl, by
    by_cases h : i ≤ j
    · rw [if_pos (by simpa using h)]
      refine hc H3 ((e.trans e2).trans e3) _ fun H4 e4 => ⟨j, k, rfl, rfl, _, rfl, ?_⟩
      have z := q H4 ((e2.trans e3).trans e4)
      rw [decide_eq_true h, Bool.true_and] at z
      exact z
    · rw [if_neg (by simpa using h)]
      refine ⟨_, rfl, ?_⟩
      have z := q H3 (e2.trans e3)
      rw [decide_eq_false h, Bool.false_and] at z
      exact z⟩
end
theorem kitL {K : PySem.W.Frag} : PySem.W.kitAny K (.type "list") [.type "list", .type "tuple"] = some true := by
  unfold PySem.W.kitAny
  rw [kit_ty (r := true) (by decide +kernel)]
theorem kitT {K : PySem.W.Frag} : PySem.W.kitAny K (.type "tuple") [.type "list", .type "tuple"] = some true := by
  unfold PySem.W.kitAny
  rw [kit_ty (r := false) (by decide +kernel)]
  unfold PySem.W.kitAny
  rw [kit_ty (r := true) (by decide +kernel)]
end S
namespace K06
open PySem PySem.Spec PyProof.Rows L2 Evl J ClX StX S
abbrev sIsRow : Stmt := topS 14
abbrev sIsRun : Stmt := topS 15
abbrev sUnlike : Stmt := topS 33
abbrev sChG : Stmt := topS 32
abbrev sChR : Stmt := topS 34
abbrev sChE : Stmt := topS 35
def signS : Str := "abcdefghijklmnopqrstuvwxyz0123456789"
def runB (x : Str) : Bool := decide (1 ≤ (x.length : Int)) && decide ((x.length : Int) ≤ 12) && x.cps.toList.all fun c => decide (c ∈ signS.cps.toList)
def spIsRow (K : PySem.W.Frag) : Sp := fun vs H Q _ => ∃ (v : V) (d : PyData) (ds : List PyData), vs = [v] ∧ Dp K H v d ∧ (d = .list ds ∨ d = .tuple ds) ∧ RetV (.bl true) H Q
def spIsRun : Sp := fun vs H Q _ => ∃ x : Str, vs = [.str x] ∧ x.length ≤ 40000 ∧ RetV (.bl (runB x)) H Q
def spUnlike (K : PySem.W.Frag) : Sp := fun vs H Q _ => ∃ (l : Addr) (G : List Str), vs = [.ref l] ∧ SqL K H l (G.map V.str) ∧ G.Nodup ∧ G.length ≤ 1000 ∧ RetV (.bl true) H Q
def spChG (K : PySem.W.Frag) : Sp := fun vs H Q _ => ∃ (l : Addr) (G : List Str), vs = [.ref l] ∧ SqL K H l (G.map V.str) ∧ G.Nodup ∧ 1 ≤ G.length ∧ G.length ≤ 8 ∧ (∀ x ∈ G, runB x = true) ∧ RetV .non H Q
def spChE (K : PySem.W.Frag) : Sp := fun vs H Q _ => ∃ (l l2 : Addr) (G xs : List Str), vs = [.ref l, .ref l2] ∧ SqL K H l (G.map V.str) ∧ SqL K H l2 (xs.map V.str) ∧ (∀ x ∈ xs, x ∈ G) ∧ RetV .non H Q
def spChR (K : PySem.W.Frag) : Sp := fun vs H Q _ => ∃ (l : Addr) (v : V) (G : List Str) (J : List (List Str)), vs = [.ref l, v] ∧ SqL K H l (G.map V.str) ∧ G.length ≤ 1000 ∧ Dp K H v (rowsL J) ∧ Wf G J ∧ RetV .non H Q
/-- further names of the module -/
structure Bl2 (mg : Str → Option Value) : Prop where
  all : mg "all" = none
  sgn : ∃ t, mg "SIGNS" = some (.str signS t)
  lng : ∃ t, mg "LONGEST" = some (.int 12 t)
  mst : ∃ t, mg "MOST_GRADES" = some (.int 8 t)
section
variable {P : Program} {w : World} {K : PySem.W.Frag} {mg : Str → Option Value} {base : Heap} {f : Addr} {fd : FuncData}
abbrev N1 : List Str := ["value"]
abbrev N2 : List Str := ["value", "sign"]
abbrev N3 : List Str := ["strings", "text"]
abbrev N4 : List Str := ["grades", "grade"]
abbrev N5 : List Str := ["grades", "entries", "entry"]
abbrev N6 : List Str := ["grades", "rows", "row"]
theorem sc1 : FnScope N1 ["value"] (defScope sIsRow) := ⟨rfl, rfl, rfl, by decide +kernel, rfl, by decide +kernel, by decide +kernel⟩
theorem sc2 : FnScope N2 ["value"] (defScope sIsRun) := ⟨rfl, rfl, rfl, by decide +kernel, rfl, by decide +kernel, by decide +kernel⟩
theorem sc3 : FnScope N3 ["strings"] (defScope sUnlike) := ⟨rfl, rfl, rfl, by decide +kernel, rfl, by decide +kernel, by decide +kernel⟩
theorem sc4 : FnScope N4 ["grades"] (defScope sChG) := ⟨rfl, rfl, rfl, by decide +kernel, rfl, by decide +kernel, by decide +kernel⟩
theorem sc5 : FnScope N5 ["grades", "entries"] (defScope sChE) := ⟨rfl, rfl, rfl, by decide +kernel, rfl, by decide +kernel, by decide +kernel⟩
theorem sc6 : FnScope N6 ["grades", "rows"] (defScope sChR) := ⟨rfl, rfl, rfl, by decide +kernel, rfl, by decide +kernel, by decide +kernel⟩
theorem ok_isRow (F : FnP K "is_row" sIsRow f fd) (T : Bl mg) : FnOk P w K mg base CX0 1 f fd ["value"] (spIsRow K) := by
  refine F.ok sc1 (fun vs H Q E h => ?_) (fun cdv A outer s H vs Q E hr h => ?_)
  · obtain ⟨v, d, ds, rfl, _⟩ := h
    rfl
  · obtain ⟨v, d, ds, rfl, dp, hd, q⟩ := h
    refine ⟨_, pss_one (ps_ret (pe_callB call_isiT (by rfl) T.isi boot_isinstance (pa_cons (pv 0) (pa_cons (pe_tup (pa_cons (pe_bltn (v := .ty "list") (by rfl) T.lst Boot.«list» rfl) (pa_cons (pe_bltn (v := .ty "tuple") (by rfl) T.tup Boot.«tuple» rfl) pa_nil))) pa_nil)))), ?_⟩
    refine ⟨v, rfl, sz_of (by simp), fun tp htp => ?_⟩
    obtain ⟨t, ty, te⟩ := tyx_dp (dp_ext (Ex.new htp) dp)
    rcases hd with rfl | rfl
    · obtain rfl : t = "list" := te
      exact ⟨v, tp, _, .type "list", [.type "list", .type "tuple"], true, rfl, upd_same, .cons (.ty _) (.cons (.ty _) .nil), ty, kitL, q _ (Ex.new htp)⟩
    · obtain rfl : t = "tuple" := te
      exact ⟨v, tp, _, .type "tuple", [.type "list", .type "tuple"], true, rfl, upd_same, .cons (.ty _) (.cons (.ty _) .nil), ty, kitT, q _ (Ex.new htp)⟩
theorem ok_isRun (F : FnP K "is_run" sIsRun f fd) (T : Bl mg) (T2 : Bl2 mg) : FnOk P w K mg base CX0 1 f fd ["value"] spIsRun := by
  refine F.ok sc2 (fun vs H Q E h => ?_) (fun cdv A outer s H vs Q E hr h => ?_)
  · obtain ⟨x, rfl, _⟩ := h
    rfl
  · obtain ⟨x, rfl, hz, q⟩ := h
    obtain ⟨tS, gS⟩ := T2.sgn
    obtain ⟨tL, gL⟩ := T2.lng
    refine ⟨_, pss_cons (ps_if (PW.pt (pw_or (pt_not (pt_val (pe_callB call_isi (by rfl) T.isi boot_isinstance (pa_cons (pv 0) (pa_cons (pe_bltn (v := .ty "str") (by rfl) T.str Boot.«str» rfl) pa_nil))))) (pw_or1 (pt_not (pt_chain op_le op_le pe_int (pe_callB call_len_str (by rfl) T.len boot_len (pa_cons (pv 0) pa_nil)) (pe_glob (v := .int 12) rfl gL ⟨_, rfl⟩)))))) (pss_one (ps_ret pe_bl)) pss_nil)
      (pss_one (ps_ret (pe_callB (cr_all rfl) (by rfl) T2.all boot_all (pa_cons (pe_lc (own := [("sign", 1)]) (g := gName 1) (tt := tYes) rfl sc2.nd (pi_str (pv 0)) (blkOk_by (N := N2) (sc := defScope sIsRun) (by decide +kernel)) (fun _ _ _ _ _ => pg_name (i := 1) sc2.nd rfl (Or.inl rfl)) (fun _ _ _ _ _ => pts_nil)
        (fun _ _ _ _ _ => pe_cmpR op_in_sign (pv 1) (pe_glob (v := .str signS) rfl gS ⟨_, rfl⟩) rfl)) pa_nil)))), ?_⟩
    have ln : ∀ H1, Ex H H1 → Ev (tCB (fun xs H Q => ∃ z, xs = [.str z] ∧ z.length ≤ sizeLine ∧ Q (.int z.length) H) (tCons (tVar 0) tNil)) [some (.str x), none] H1 (.int (x.length : Int)) := fun H1 _ =>
      ev_cb (ea_cons (ev_var rfl) ea_nil) (fun H2 _ Q q => ⟨x, rfl, sz_of (by omega), q H2 (Ex.refl H2)⟩)
    refine q_when (b := !(decide (1 ≤ (x.length : Int)) && decide ((x.length : Int) ≤ 12))) (et_is (et_or (et_not (et_B (ev_isi (ev_var rfl) (fun H1 e => .base (.str x)) (by decide +kernel : kitB "str" "str" = some true)))) (fun _ => et_not (et_le2 ev_c (ln H (Ex.refl H)) ev_c))) (by simp)) (fun hb H1 e1 => ?_) (fun hb H1 e1 => ?_)
    · refine s_ret ev_c fun H2 e2 => ?_
      have z := q H2 (e1.trans e2)
      unfold runB at z
      rw [Bool.not_eq_true'] at hb
      rw [hb, Bool.false_and] at z
      exact z
    · rw [Bool.not_eq_false'] at hb
      have z2 : RetV (.bl (x.cps.toList.all fun c => decide (c ∈ signS.cps.toList))) H Q := fun H2 e2 => by
        have z := q H2 e2
        unfold runB at z
        rw [hb, Bool.true_and] at z
        exact z
      have lst : EvL (tLc (iStr (tVar 0)) (gName 1) tYes (tOp (fun x y H Q => ∃ (c : Nat) (z : Str), x = .str ⟨#[c]⟩ ∧ y = .str z ∧ Q (.bl (decide (c ∈ z.cps.toList))) H) (tVar 1) (tC (.str signS))) [1]) [some (.str x), none] H1 (x.cps.toList.map fun c => .bl (decide (c ∈ signS.cps.toList))) :=
        el_lcS (ev_var rfl) hz (fun x => rfl) (fun c _ => ev_op (ev_var rfl) ev_c (fun H3 _ Q3 q3 => ⟨c, signS, rfl, rfl, q3 H3 (Ex.refl H3)⟩))
      have main : Ev (tCB (rAll K) (tCons (tLc (iStr (tVar 0)) (gName 1) tYes (tOp (fun x y H Q => ∃ (c : Nat) (z : Str), x = .str ⟨#[c]⟩ ∧ y = .str z ∧ Q (.bl (decide (c ∈ z.cps.toList))) H) (tVar 1) (tC (.str signS))) [1]) tNil)) [some (.str x), none] H1 (.bl (x.cps.toList.all fun c => decide (c ∈ signS.cps.toList))) := fun H2 e2 Q2 q2 =>
        lst H2 e2 (fun v H' => rAll K [v] H' Q2) fun p H3 n3 e3 h3 => ⟨p, x.cps.toList.map fun c => decide (c ∈ signS.cps.toList), rfl, sq_of (by rw [h3, List.map_map]; rfl), by
          rw [List.all_map]
          exact q2 H3 e3⟩
      exact s_ret main fun H2 e2 => z2 H2 (e1.trans e2)
end
end K06

set_option Elab.async false
set_option linter.all false
set_option maxRecDepth 100000
set_option maxHeartbeats 8000000
/-! S11: _are_unlike, _check_grades, _check_entries, _check_rows. -/
namespace S
open PySem PySem.Spec PyProof.Rows L2 Evl J ClX StX
section
variable {K : PySem.W.Frag} {σ : L2.St} {H : Hp} {tl ta : TE}
theorem ev_all {bs : List Bool} (h : EvL tl σ H (bs.map V.bl)) : Ev (tCB (rAll K) (tCons tl tNil)) σ H (.bl (bs.all id)) := fun H1 e Q q =>
  h H1 e (fun v H' => rAll K [v] H' Q) fun p H2 n2 e2 h2 => ⟨p, bs, rfl, sq_of h2, q H2 e2⟩
theorem ev_lenS {p : Addr} {xs : List V} (ha : Ev ta σ H (.ref p)) (h : SqL K H p xs ∨ SqT K H p xs) : Ev (tCB (fun xs H Q => ∃ p ys, xs = [.ref p] ∧ (SqL K H p ys ∨ SqT K H p ys) ∧ Q (.int ys.length) H) (tCons ta tNil)) σ H (.int (xs.length : Int)) :=
  ev_cb (ea_cons ha ea_nil) (rc_len h)
end
end S
namespace K06
open PySem PySem.Spec PyProof.Rows L2 Evl J ClX StX S
section
variable {P : Program} {w : World} {K : PySem.W.Frag} {mg : Str → Option Value} {base : Heap} {f : Addr} {fd : FuncData}
theorem ok_unlike (F : FnP K "_are_unlike" sUnlike f fd) (T : Bl mg) : FnOk P w K mg base CX0 1 f fd ["strings"] (spUnlike K) := by
  refine F.ok sc3 (fun vs H Q E h => ?_) (fun cdv A outer s H vs Q E hr h => ?_)
  · obtain ⟨l, G, rfl, _⟩ := h
    rfl
  · obtain ⟨l, G, rfl, sg, nd, hz, q⟩ := h
    refine ⟨_, pss_one (ps_ret (pe_cmpR op_eq (pe_callB call_lenD (by rfl) T.len boot_len (pa_cons (pe_dc (own := [("text", 1)]) (g := gName 1) (tt := tYes) (tk := tVar 1) (tv := tC (.bl true)) rfl sc3.nd (pi_list (pv 0)) (blkOk_by (N := N3) (sc := defScope sUnlike) (by decide +kernel)) (fun _ _ _ _ _ => pg_name (i := 1) sc3.nd rfl (Or.inl rfl)) (fun _ _ _ _ _ => pts_nil) (fun _ _ _ _ _ => pv 1) (fun _ _ _ _ _ => pe_bl)) pa_nil)) (pe_callB call_len_seq (by rfl) T.len boot_len (pa_cons (pv 0) pa_nil)) (nomark _))), ?_⟩
    have left : Ev (tCB (fun xs H Q => ∃ a kvs, xs = [V.ref a] ∧ H a = some (.dK kvs) ∧ Q (.int kvs.length) H) (tCons (tDc (iList K (tVar 0)) (gName 1) tYes (tVar 1) (tC (.bl true)) [1]) tNil)) [some (.ref l), none] H (.int (G.length : Int)) := fun H1 e Q q =>
      dc_same (v := .bl true) (Q := fun v H' => ∃ a kvs, [v] = [V.ref a] ∧ H' a = some (.dK kvs) ∧ Q (.int (kvs.length : Nat)) H') nd (ev_var rfl) (ex_l e sg) hz (fun x => rfl) (fun x _ => ev_var rfl) (fun x _ => ev_c) fun D H2 n2 e2 hD => ⟨D, _, rfl, hD, by rw [List.length_map]; exact q H2 e2⟩
    exact s_ret (ev_is (w := .bl true) (ev_op left (ev_lenS (ev_var rfl) (.inl sg)) (rv_eq rfl)) (by simp)) fun H2 e2 => q H2 e2
theorem ok_chG (F : FnP K "_check_grades" sChG f fd) (T : Bl mg) (T2 : Bl2 mg) (cR : Cal P w K mg base CX0 1 "is_row" ["value"] (spIsRow K)) (cN : Cal P w K mg base CX0 1 "is_run" ["value"] spIsRun) (cU : Cal P w K mg base CX0 1 "_are_unlike" ["strings"] (spUnlike K)) : FnOk P w K mg base CX0 2 f fd ["grades"] (spChG K) := by
  refine F.ok sc4 (fun vs H Q E h => ?_) (fun cdv A outer s H vs Q E hr h => ?_)
  · obtain ⟨l, G, rfl, _⟩ := h
    rfl
  · obtain ⟨l, G, rfl, sg, nd, z1, z8, hrun, q⟩ := h
    obtain ⟨tM, gM⟩ := T2.mst
    refine ⟨_, pss_cons (ps_if (PW.pt (pw_or (pt_not (pt_val (pe_cal cR hr rfl pass0 (pa_cons (pv 0) pa_nil)))) (pw_or1 (pt_not (pt_chain op_le op_le pe_int (pe_callB call_len_seq (by rfl) T.len boot_len (pa_cons (pv 0) pa_nil)) (pe_glob (v := .int 8) rfl gM ⟨_, rfl⟩)))))) pss_no pss_nil)
      (pss_cons (ps_if (pt_not (pt_val (pe_callB (cr_all rfl) (by rfl) T2.all boot_all (pa_cons (pe_lc (own := [("grade", 1)]) (g := gName 1) (tt := tYes) rfl sc4.nd (pi_list (pv 0)) (blkOk_by (N := N4) (sc := defScope sChG) (by decide +kernel)) (fun _ _ _ _ _ => pg_name (i := 1) sc4.nd rfl (Or.inl rfl)) (fun _ _ _ _ _ => pts_nil) (fun _ _ _ _ _ => pe_cal cN hr rfl pass0 (pa_cons (pv 1) pa_nil))) pa_nil)))) pss_no pss_nil)
      (pss_one (ps_if (pt_not (pt_val (pe_cal cU hr rfl pass0 (pa_cons (pv 0) pa_nil)))) pss_no pss_nil))), ?_⟩
    refine q_when (b := false) (et_is (et_or (et_not (et_B (b := true) (ev_call (ea_cons (ev_var rfl) ea_nil) fun H1 e Q q E => ⟨.ref l, .list (G.map .str), _, rfl, .lst (ex_l e sg) (dpa_strs G), .inl rfl, q⟩))) (fun _ => et_not (et_le2 ev_c (ev_lenS (ev_var rfl) (.inl sg)) ev_c))) (by simp; omega)) (fun z => nomatch z) (fun _ H1 e1 => ?_)
    refine q_when (b := false) (et_is (et_not (et_B (ev_all (bs := G.map runB) (by
      rw [List.map_map]
      exact el_map (d := "") (g := V.str) (f := fun x => .bl (runB x)) (ev_var rfl) (ex_l e1 sg) (by omega) (fun x => rfl) (fun x H2 e2 hx => ev_call (ea_cons (ev_var rfl) ea_nil) fun H3 e3 Q q E => ⟨x, rfl, by
        have := hrun x hx
        unfold runB at this
        simp only [Bool.and_eq_true, decide_eq_true_eq] at this
        omega, q⟩))))) (by
        rw [List.all_map]
        simp
        exact hrun)) (fun z => nomatch z) (fun _ H2 e2 => ?_)
    have e12 := e1.trans e2
    exact s_when (b := false) (et_is (et_not (et_B (b := true) (ev_call (ea_cons (ev_var rfl) ea_nil) fun H3 e Q q E => ⟨l, G, rfl, ex_l (e12.trans e) sg, nd, by omega, q⟩))) rfl) (fun z => nomatch z) (fun _ H3 e3 => q H3 (e12.trans e3))
theorem ok_chE (F : FnP K "_check_entries" sChE f fd) : FnOk P w K mg base CX0 1 f fd ["grades", "entries"] (spChE K) := by
  refine F.ok sc5 (fun vs H Q E h => ?_) (fun cdv A outer s H vs Q E hr h => ?_)
  · obtain ⟨l, l2, G, xs, rfl, _⟩ := h
    rfl
  · obtain ⟨l, l2, G, xs, rfl, sg, sx, hx, q⟩ := h
    refine ⟨_, PSs.nox (pss_one (ps_for PassesOwn.never rfl (pi_list (pv 1)) (pg_name (i := 2) sc5.nd rfl (Or.inl rfl)) (pss_one (ps_if (pt_cmpR op_notIn_seq (pv 2) (pv 0) rfl) pss_no pss_nil)))), ?_⟩
    refine s_forLn (ev_var rfl) sx (fun _ σ' H' => ∃ x2, σ' = [some (.ref l), some (.ref l2), x2] ∧ Ex H H') (fun H1 e => ⟨_, rfl, e⟩) (fun i σ' H' _ ⟨_, _, e⟩ => ex_l e sx) ?_ (fun σ' H' ⟨_, _, e⟩ => q H' e)
    rintro i v σ' H' hv ⟨x2, rfl, e⟩
    rw [List.getElem?_map] at hv
    cases hy : xs[i]? with
    | none =>
      rw [hy] at hv
      cases hv
    | some y =>
      rw [hy] at hv
      obtain rfl := Option.some.inj hv
      exact s_when (b := false) (et_is (et_test (ev_op (ev_var rfl) (ev_var rfl) (rv_niL (ex_l e sg) rfl flat_strs))) (by rw [inV_str]; simp [hx y (List.mem_of_getElem? hy)])) (fun z => nomatch z) (fun _ H2 e2 => ⟨_, rfl, e.trans e2⟩)
theorem ok_chR (F : FnP K "_check_rows" sChR f fd) (T : Bl mg) (cR : Cal P w K mg base CX0 1 "is_row" ["value"] (spIsRow K)) (cE : Cal P w K mg base CX0 1 "_check_entries" ["grades", "entries"] (spChE K)) : FnOk P w K mg base CX0 2 f fd ["grades", "rows"] (spChR K) := by
  refine F.ok sc6 (fun vs H Q E h => ?_) (fun cdv A outer s H vs Q E hr h => ?_)
  · obtain ⟨l, v, G, J, rfl, _⟩ := h
    rfl
  · obtain ⟨l, v, G, J, rfl, sg, hz, dp, wj, q⟩ := h
    have lenQ : ∀ i, PE (cxOf CX0 P w K mg base N6 "_check_rows" (defScope sChR) f cdv A outer s H E).nox (.Name "grades" i) (tVar 0) := fun i => pv 0
    refine ⟨_, PSs.nox (pss_cons (ps_if (PW.pt (pw_or (pt_not (pt_val (pe_cal cR hr rfl pass0 (pa_cons (pv 1) pa_nil)))) (pw_or1 (pt_cmpR op_ne (pe_callB call_len_seq (by rfl) T.len boot_len (pa_cons (pv 1) pa_nil)) (pe_callB call_len_seq (by rfl) T.len boot_len (pa_cons (pv 0) pa_nil)) (nomark _))))) pss_no pss_nil)
      (pss_one (ps_for PassesOwn.never rfl (pi_list (pv 1)) (pg_name (i := 2) sc6.nd rfl (Or.inl rfl)) (pss_cons (ps_if (PW.pt (pw_or (pt_not (pt_val (pe_cal cR hr rfl pass0 (pa_cons (pv 2) pa_nil)))) (pw_or1 (pt_cmpR op_ne (pe_callB call_len_seq (by rfl) T.len boot_len (pa_cons (pv 2) pa_nil)) (pe_callB call_len_seq (by rfl) T.len boot_len (pa_cons (pv 0) pa_nil)) (nomark _))))) pss_no pss_nil)
        (pss_one (ps_expr (pe_cal cE hr rfl pass0 (pa_cons (pv 0) (pa_cons (pv 2) pa_nil))))))))), ?_⟩
    have dp0 := dp
    cases dp with
    | @lst p xs _ hs ha =>
      have hl := dpa_len ha
      rw [List.length_map] at hl
      have isR : ∀ (i : Nat) (σ : L2.St) (H' : Hp) (v : V) (ds : List PyData), σ[i]? = some (some v) → Dp K H' v (.list ds) → EvT (tB (tCall (spIsRow K) [] E0 (tCons (tVar i) tNil))) σ H' true := fun i σ H' v ds hv dv => et_B (ev_call (ea_cons (ev_var hv) ea_nil) fun H1 e Q q E => ⟨v, .list ds, ds, rfl, dp_ext e dv, .inl rfl, q⟩)
      refine q_when (b := false) (et_is (et_or (et_not (isR 1 _ H _ _ rfl dp0)) (fun _ => et_test (ev_op (ev_lenS (ev_var rfl) (.inl hs)) (ev_lenS (ev_var rfl) (.inl sg)) (rv_ne rfl)))) (by rw [hl, wj.len, List.length_map]; simp)) (fun z => nomatch z) (fun _ H1 e1 => ?_)
      refine s_forLn (ev_var rfl) (ex_l e1 hs) (fun _ σ' H' => ∃ x2, σ' = [some (.ref l), some (.ref p), x2] ∧ Ex H H') (fun H2 e => ⟨_, rfl, e1.trans e⟩) (fun i σ' H' _ ⟨_, _, e⟩ => ex_l e hs) ?_ (fun σ' H' ⟨_, _, e⟩ => q H' e)
      rintro i x σ' H' hv ⟨x2, rfl, e⟩
      obtain ⟨d2, hd2, dp2⟩ := dpa_get ha hv
      rw [List.getElem?_map] at hd2
      cases hg : J[i]? with
      | none =>
        rw [hg] at hd2
        cases hd2
      | some r =>
        rw [hg] at hd2
        obtain rfl := Option.some.inj hd2
        have mr : r ∈ J := List.mem_of_getElem? hg
        have dr0 := dp_ext e dp2
        cases dp2 with
        | @lst p2 ys _ hs2 ha2 =>
          obtain rfl := strs_of ha2
          refine q_when (b := false) (et_is (et_or (et_not (isR 2 _ H' _ _ rfl dr0)) (fun _ => et_test (ev_op (ev_lenS (ev_var rfl) (.inl (ex_l e hs2))) (ev_lenS (ev_var rfl) (.inl (ex_l e sg))) (rv_ne rfl)))) (by rw [List.length_map, List.length_map, wj.row r mr]; simp)) (fun z => nomatch z) (fun _ H2 e2 => ?_)
          exact s_drop (v := .non) (ev_call (ea_cons (ev_var rfl) (ea_cons (ev_var rfl) ea_nil)) fun H3 e3 Q q E => ⟨l, p2, G, r, rfl, ex_l ((e.trans e2).trans e3) sg, ex_l ((e.trans e2).trans e3) hs2, wj.at_ r mr, q⟩) fun H3 e3 => ⟨_, rfl, (e.trans e2).trans e3⟩
end
end K06

set_option Elab.async false
set_option linter.all false
set_option maxRecDepth 100000
set_option maxHeartbeats 8000000
/-! S12: TableScale.__init__, a table scale made. -/
namespace S
open PySem PySem.Spec PyProof.Rows L2 Evl J ClX StX
/-- keyword-only parameters without defaults -/
theorem kbn0 {K : PySem.W.Frag} {x qual : Str} {params : Arguments} {body : List Stmt} {scope : Scope} {f : Addr} {fd : FuncData} {ps ks : List Str} {n : Nat} (F : FunD K x qual params body scope [] [] f fd)
    (h : ∀ (kV doc pm : Value) (an : Option Addr) (cdv ct : Value) (us ws : List Value), us.length = n → ws.length = ks.length → bindArgs (PySem.W.fnOf x qual params body scope .none kV doc pm an cdv ct) ⟨us, ks.zip ws⟩ = pure (ps.zip (us ++ ws))) :
    KBn K fd ps n ks (fun us ws => us ++ ws) (fun vs zs => vs ++ zs) := by
  obtain ⟨oc, od, dV, kV, doc, pm, an, cdv, ct, osl, rfl, lk, hcd, hD, hK⟩ := F.ex
  rcases hD with ⟨_, rfl⟩ | ⟨e, _⟩
  · exact ⟨fun s us ws _ l1 l2 => .of_eq (h kV doc pm an cdv ct us ws l1 l2), fun r1 r2 => r1.append r2⟩
  · exact absurd rfl e
end S
namespace K06
open PySem PySem.Spec PyProof.Rows L2 Evl J ClX StX S
abbrev sTInit : Stmt := methS 31 0
/-- what a told table must be -/
structure Good (G : List Str) (J T : List (List Str)) (lo hi : Str) : Prop where
  nd : G.Nodup
  z1 : 1 ≤ G.length
  z8 : G.length ≤ 8
  run : ∀ x ∈ G, runB x = true
  wj : Wf G J
  wt : Wf G T
  lo : lo ∈ G
  hi : hi ∈ G
def spTInit (K : PySem.W.Frag) (C : Addr) : Sp := fun vs H Q _ => ∃ (a dx lg : Addr) (vj vt : V) (G : List Str) (J T : List (List Str)) (lo hi : Str), vs = [.ref a, .ref lg, vj, vt, .str lo, .str hi] ∧ H a = some (.ins C dx []) ∧ SqL K H lg (G.map V.str) ∧ Dp K H vj (rowsL J) ∧ Dp K H vt (rowsL T) ∧
  Good G J T lo hi ∧ ∀ H', But a H H' → Made K C H' a G J T lo hi → Q .non H'
section
variable {P : Program} {w : World} {K : PySem.W.Frag} {mg : Str → Option Value} {base : Heap} {f fI CS C : Addr} {fd fdI : FuncData} {mc : Value}
abbrev NTi : List Str := ["self", "grades", "joins", "products", "none", "nearest"]
theorem scTi : FnScope NTi ["self", "grades", "joins", "products", "none", "nearest"] (defScope sTInit) := ⟨rfl, rfl, rfl, by decide +kernel, rfl, by decide +kernel, by decide +kernel⟩
theorem ok_tinit (F : FnM K "__init__" "TableScale.__init__" sTInit f fd) (cG : Cal P w K mg base CX0 2 "_check_grades" ["grades"] (spChG K)) (cR : Cal P w K mg base CX0 2 "_check_rows" ["grades", "rows"] (spChR K)) (cE : Cal P w K mg base CX0 1 "_check_entries" ["grades", "entries"] (spChE K))
    (gS : mg "Scale" = some (.ref CS)) (r : CRead K CS mc) (c : PySem.W.findCls K (.ref CS) mc "__init__" = some (.val (.ref fI))) (hk : PySem.W.keepIn K (.ref fI) = true) (hb : Binds K fdI ["self", "grades", "joins", "products", "none", "nearest"] [])
    (FI : FnOk P w K mg base CX0 7 fI fdI ["self", "grades", "joins", "products", "none", "nearest"] (spInit K C)) : FnOk P w K mg base CX0 8 f fd ["self", "grades", "joins", "products", "none", "nearest"] (spTInit K C) := by
  refine F.ok scTi (fun vs H Q E h => ?_) (fun cdv A outer s H vs Q E hr h => ?_)
  · obtain ⟨a, dx, lg, vj, vt, G, J, T, lo, hi, rfl, _⟩ := h
    rfl
  · obtain ⟨a, dx, lg, vj, vt, G, J, T, lo, hi, rfl, ha, sg, dj, dt, gd, q⟩ := h
    have hr1 : Room 1 (A.deeper (envOfC "TableScale.__init__" (defScope sTInit) s.heap.objs.size f cdv)) := hr.mono (by decide)
    have hr2 : Room 2 (A.deeper (envOfC "TableScale.__init__" (defScope sTInit) s.heap.objs.size f cdv)) := hr.mono (by decide)
    refine ⟨_, pss_cons (ps_expr (pe_cal cG hr2 rfl pass0 (pa_cons (pv 1) pa_nil))) (pss_cons (ps_expr (pe_cal cR hr2 rfl pass0 (pa_cons (pv 1) (pa_cons (pv 2) pa_nil)))) (pss_cons (ps_expr (pe_cal cR hr2 rfl pass0 (pa_cons (pv 1) (pa_cons (pv 3) pa_nil))))
      (pss_cons (ps_expr (pe_cal cE hr1 rfl pass0 (pa_cons (pv 1) (pa_cons (pe_lst (pa_cons (pv 4) (pa_cons (pv 5) pa_nil))) pa_nil))))
      (pss_one (ps_expr (pe_cfun (pe_glob (v := .ref CS) rfl gS rfl) r c hk FI hr hb .nil pass0 (pa_cons (pv 0) (pa_cons (pv 1) (pa_cons (pv 2) (pa_cons (pv 3) (pa_cons (pv 4) (pa_cons (pv 5) pa_nil)))))))))))), ?_⟩
    refine q_drop (v := .non) (ev_call (ea_cons (ev_var rfl) ea_nil) fun H1 e Q q E => ⟨lg, G, rfl, ex_l e sg, gd.nd, gd.z1, gd.z8, gd.run, q⟩) fun H1 e1 => ?_
    have z := gd.z8
    refine q_drop (v := .non) (ev_call (ea_cons (ev_var rfl) (ea_cons (ev_var rfl) ea_nil)) fun H2 e Q q E => ⟨lg, vj, G, J, rfl, ex_l (e1.trans e) sg, by omega, dp_ext (e1.trans e) dj, gd.wj, q⟩) fun H2 e2 => ?_
    have e12 := e1.trans e2
    refine q_drop (v := .non) (ev_call (ea_cons (ev_var rfl) (ea_cons (ev_var rfl) ea_nil)) fun H3 e Q q E => ⟨lg, vt, G, T, rfl, ex_l (e12.trans e) sg, by omega, dp_ext (e12.trans e) dt, gd.wt, q⟩) fun H3 e3 => ?_
    have e13 := e12.trans e3
    refine ⟨_, rfl, ⟨_, rfl, _, rfl, sz_of (by simp), fun p hp => ?_⟩⟩
    have e14 := e13.trans (Ex.new (o := .lst [.str lo, .str hi]) hp)
    refine ⟨lg, p, G, [lo, hi], rfl, ex_l e14 sg, sq_of upd_same, fun x hx => ?_, fun H4 e4 => ?_⟩
    · simp only [List.mem_cons, List.not_mem_nil, or_false] at hx
      rcases hx with rfl | rfl
      · exact gd.lo
      · exact gd.hi
    · have e := e14.trans e4
      exact ⟨rfl, _, rfl, _, rfl, _, rfl, _, rfl, _, rfl, _, rfl, a, dx, lg, vj, vt, [], G, J, T, lo, hi, rfl, Nat.zero_le 2, fun _ _ => rfl, e _ _ ha, ex_l e sg, dp_ext e dj, dp_ext e dt, gd.nd, by omega, gd.wj, gd.wt, gd.lo, gd.hi, fun H' b m => q H' ((But.of e).trans b) m⟩
end
end K06

set_option Elab.async false
set_option linter.all false
set_option maxRecDepth 100000
set_option maxHeartbeats 8000000
/-! S13: the ten demands. -/
namespace K06
open PySem PySem.Spec PyProof.Rows L2 Evl J ClX StX S
section
variable {P : Program} {w : World} {K : PySem.W.Frag} {mg : Str → Option Value} {base : Heap} {f C a : Addr} {fd : FuncData} {σ : L2.St} {H : Hp} {tx ty : TE} {x y lo hi : Str} {G : List Str} {J T : List (List Str)}
theorem ev_join (h0 : σ[0]? = some (some (.ref a))) (sc : ScAt K C H a G J T lo hi) (mx : x ∈ G) (my : y ∈ G) (hx : Ev tx σ H (.str x)) (hy : Ev ty σ H (.str y)) : Ev (tMeth C "join" (spJoin K C false) [] E0 (tVar 0) (tCons tx (tCons ty tNil))) σ H (.str (ap G J x y)) := by
  obtain ⟨dx, fs, g, d, j, t, h1, h2, h3, h4, h5, h6, h7, h8, h9, h10, h11, hm⟩ := sc.ex
  exact ev_mcal (ev_var h0) (ea_cons hx (ea_cons hy ea_nil)) h1 (hm _ (by decide)) fun H1 e Q q => ⟨a, x, y, G, J, T, lo, hi, rfl, sc.ext e, mx, my, q⟩
theorem ev_then (h0 : σ[0]? = some (some (.ref a))) (sc : ScAt K C H a G J T lo hi) (mx : x ∈ G) (my : y ∈ G) (hx : Ev tx σ H (.str x)) (hy : Ev ty σ H (.str y)) : Ev (tMeth C "then" (spJoin K C true) [] E0 (tVar 0) (tCons tx (tCons ty tNil))) σ H (.str (ap G T x y)) := by
  obtain ⟨dx, fs, g, d, j, t, h1, h2, h3, h4, h5, h6, h7, h8, h9, h10, h11, hm⟩ := sc.ex
  exact ev_mcal (ev_var h0) (ea_cons hx (ea_cons hy ea_nil)) h1 (hm _ (by decide)) fun H1 e Q q => ⟨a, x, y, G, J, T, lo, hi, rfl, sc.ext e, mx, my, q⟩
theorem ev_lo (h0 : σ[0]? = some (some (.ref a))) (sc : ScAt K C H a G J T lo hi) (cf : ClsF K C fldN) : Ev (tFld K (tVar 0) "none") σ H (.str lo) := by
  obtain ⟨dx, fs, g, d, j, t, h1, h2, h3, h4, h5, h6, h7, h8, h9, h10, h11, hm⟩ := sc.ex
  exact ev_fld (ev_var h0) cf.cl (cf.no _ (by decide)) h1 h10
theorem ev_hi (h0 : σ[0]? = some (some (.ref a))) (sc : ScAt K C H a G J T lo hi) (cf : ClsF K C fldN) : Ev (tFld K (tVar 0) "nearest") σ H (.str hi) := by
  obtain ⟨dx, fs, g, d, j, t, h1, h2, h3, h4, h5, h6, h7, h8, h9, h10, h11, hm⟩ := sc.ex
  exact ev_fld (ev_var h0) cf.cl (cf.no _ (by decide)) h1 h11
/-- what a demand is asked of a row of grades -/
abbrev Dem : Type := List Str → List (List Str) → List (List Str) → Str → Str → List Str → Bool
def spDem (K : PySem.W.Frag) (C : Addr) (n : Nat) (dm : Dem) : Sp := fun vs H Q _ => ∃ (a tp : Addr) (row G : List Str) (J T : List (List Str)) (lo hi : Str), vs = [.ref a, .ref tp] ∧ ScAt K C H a G J T lo hi ∧ SqT K H tp (row.map V.str) ∧ row.length = n ∧ (∀ x ∈ row, x ∈ G) ∧ RetV (.bl (dm G J T lo hi row)) H Q
def dm26 : Dem := fun G J T lo hi row => match row with
  | [x, y] => decide ((ap G J x y) = (ap G J y x))
  | _ => false
def dm27 : Dem := fun G J T lo hi row => match row with
  | [x, y, z] => decide ((ap G J (ap G J x y) z) = (ap G J x (ap G J y z)))
  | _ => false
def dm28 : Dem := fun G J T lo hi row => match row with
  | [x] => decide ((ap G J x x) = x)
  | _ => false
def dm29 : Dem := fun G J T lo hi row => match row with
  | [x] => decide ((ap G J lo x) = x)
  | _ => false
def dm30 : Dem := fun G J T lo hi row => match row with
  | [x, y] => decide ((ap G T x y) = (ap G T y x))
  | _ => false
def dm31 : Dem := fun G J T lo hi row => match row with
  | [x, y, z] => decide ((ap G T (ap G T x y) z) = (ap G T x (ap G T y z)))
  | _ => false
def dm32 : Dem := fun G J T lo hi row => match row with
  | [x, y, z] => decide ((ap G T x (ap G J y z)) = (ap G J (ap G T x y) (ap G T x z)))
  | _ => false
def dm33 : Dem := fun G J T lo hi row => match row with
  | [x] => decide ((ap G T lo x) = lo)
  | _ => false
def dm34 : Dem := fun G J T lo hi row => match row with
  | [x] => decide ((ap G T hi x) = x)
  | _ => false
def dm35 : Dem := fun G J T lo hi row => match row with
  | [x] => decide ((ap G J hi x) = hi)
  | _ => false
end
end K06

set_option Elab.async false
set_option linter.all false
set_option maxRecDepth 100000
set_option maxHeartbeats 8000000
/-! S14: _tuples. -/
namespace K06
open PySem PySem.Spec PyProof.Rows L2 Evl J ClX StX S
/-- tuples of texts, one behind another -/
def RowsAt (H : Hp) (acc : List V) (Rs : List (List Str)) : Prop := acc.length = Rs.length ∧ ∀ (n : Nat) r, Rs[n]? = some r → ∃ t, acc[n]? = some (.ref t) ∧ H t = some (.tup (r.map V.str))
theorem RowsAt.keep {H H' : Hp} {acc : List V} {Rs : List (List Str)} (h : RowsAt H acc Rs) (k : ∀ t xs, H t = some (.tup xs) → H' t = some (.tup xs)) : RowsAt H' acc Rs := ⟨h.1, fun n r e => by
  obtain ⟨t, h1, h2⟩ := h.2 n r e
  exact ⟨t, h1, k t _ h2⟩⟩
theorem RowsAt.snoc {H : Hp} {acc : List V} {Rs : List (List Str)} {t : Addr} {r : List Str} (h : RowsAt H acc Rs) (ht : H t = some (.tup (r.map V.str))) : RowsAt H (acc ++ [.ref t]) (Rs ++ [r]) := by
  refine ⟨by simp [h.1], fun n r2 e => ?_⟩
  by_cases hn : n < Rs.length
  · rw [List.getElem?_append_left hn] at e
    obtain ⟨t2, h1, h2⟩ := h.2 n r2 e
    exact ⟨t2, by rw [List.getElem?_append_left (by rw [h.1]; exact hn)]; exact h1, h2⟩
  · have e2 : n = Rs.length := by
      have := (List.getElem?_eq_some_iff.mp e).1
      rw [List.length_append] at this
      simp at this
      omega
    subst e2
    rw [List.getElem?_append_right (Nat.le_refl _), Nat.sub_self] at e
    obtain rfl := Option.some.inj e
    exact ⟨t, by rw [List.getElem?_append_right (by rw [h.1]; exact Nat.le_refl _), h.1, Nat.sub_self]; rfl, ht⟩
def ext1 (G : List Str) (m : List Str) : List (List Str) := G.map fun g => m ++ [g]
def tups (G : List Str) : Nat → List (List Str)
  | 0 => [[]]
  | n + 1 => (tups G n).flatMap (ext1 G)
theorem tups_mem {G : List Str} : ∀ {n : Nat} {r : List Str}, r ∈ tups G n → r.length = n ∧ ∀ x ∈ r, x ∈ G
  | 0, r, h => by
    obtain rfl := List.mem_singleton.mp h
    exact ⟨rfl, fun x hx => nomatch hx⟩
  | n + 1, r, h => by
    obtain ⟨m, hm, hr⟩ := List.mem_flatMap.mp h
    obtain ⟨g, hg, rfl⟩ := List.mem_map.mp hr
    obtain ⟨h1, h2⟩ := tups_mem hm
    refine ⟨by simp [h1], fun x hx => ?_⟩
    rcases List.mem_append.mp hx with q | q
    · exact h2 x q
    · rw [List.mem_singleton.mp q]
      exact hg
theorem flat_len {G : List Str} : ∀ {Rs : List (List Str)}, (Rs.flatMap (ext1 G)).length = Rs.length * G.length
  | [] => by simp
  | m :: r => by
    rw [List.flatMap_cons, List.length_append, flat_len (Rs := r)]
    simp [ext1, Nat.succ_mul, Nat.add_comm]
section
variable {K : PySem.W.Frag} {H : Hp}
abbrev teS (K : PySem.W.Frag) : TE := tTup (tStar K (tVar 4) (tCons (tVar 5) tNil))
theorem lc2_ext {l lg : Addr} {n : V} {x3 x4 x5 : Option V} {acc0 : List V} {rows : List (List Str)} {G : List Str} {Q : VK} (hl : H l = some (.lst acc0)) (R : RowsAt H acc0 rows) (sg : SqL K H lg (G.map V.str)) (hz : (rows.length + 1) * G.length ≤ 10000) (hr : ∀ r ∈ rows, r.length ≤ 100)
    (k : ∀ D H2 acc, H D = none → Ex H H2 → H2 D = some (.lst acc) → RowsAt H2 acc (rows.flatMap (ext1 G)) → Q (.ref D) H2) :
    tLc2 (iList K (tVar 2)) (gName 4) tYes (iList K (tVar 0)) (gName 5) tYes (teS K) [4, 5] [5] [some (.ref lg), some n, some (.ref l), x3, x4, x5] H Q := by
  refine ⟨.ref l, rfl, l, rfl, ⟨acc0, sq_of hl⟩, fun D hD => ?_⟩
  have al := R.1

  refine ⟨fun i m H' => m = rows.length - i ∧ i ≤ rows.length ∧ Ex H H' ∧ ∃ acc, H' D = some (.lst acc) ∧ RowsAt H' acc ((rows.take i).flatMap (ext1 G)), ⟨rows.length, by simp, Nat.zero_le _, Ex.new hD, [], upd_same, rfl, fun n r e => by simp at e⟩, ?_⟩
  rintro i m H' ⟨rfl, hi, g1, acc, g2, g3⟩
  have hl' := g1 _ _ hl

  by_cases hlt : i < rows.length
  · have hgi : acc0[i]? = some acc0[i] := List.getElem?_eq_getElem (by omega)
    refine .inr ⟨⟨acc0, acc0[i], sq_of hl', hgi⟩, fun H5 => i + 1 ≤ rows.length ∧ Ex H H5 ∧ ∃ acc, H5 D = some (.lst acc) ∧ RowsAt H5 acc ((rows.take (i + 1)).flatMap (ext1 G)), fun H5 p' => ⟨rows.length - (i + 1), by omega, rfl, p'.1, p'.2⟩, fun x H5 y => ?_⟩
    obtain ⟨e5, y⟩ := y
    subst e5
    have hx := y acc0 (sq_of hl')
    have hri : rows[i]? = some rows[i] := List.getElem?_eq_getElem hlt
    obtain ⟨t, ht, hT⟩ := R.2 i _ hri
    rw [ht] at hx
    obtain rfl := Option.some.inj hx
    refine ⟨rfl, ?_⟩
    unfold tYes
    dsimp only
    rw [if_pos rfl]
    refine ⟨.ref lg, rfl, lg, rfl, ⟨_, ex_l g1 sg⟩, ?_⟩
    have tk : (rows.take (i + 1)).flatMap (ext1 G) = (rows.take i).flatMap (ext1 G) ++ ext1 G rows[i] := by
      rw [List.take_add_one, hri, List.flatMap_append]
      simp
    refine ⟨fun j m H' => m = G.length - j ∧ j ≤ G.length ∧ Ex H H' ∧ ∃ acc, H' D = some (.lst acc) ∧ RowsAt H' acc ((rows.take i).flatMap (ext1 G) ++ (G.take j).map fun g => rows[i] ++ [g]), ⟨G.length, by simp, Nat.zero_le _, g1, acc, g2, by simpa using g3⟩, ?_⟩
    rintro j m H6 ⟨rfl, hj, f1, acc6, f2, f3⟩
    by_cases hlj : j < G.length
    · refine .inr ⟨⟨G.map V.str, .str G[j], ex_l f1 sg, by simp [hlj]⟩, fun H7 => j + 1 ≤ G.length ∧ Ex H H7 ∧ ∃ acc, H7 D = some (.lst acc) ∧ RowsAt H7 acc ((rows.take i).flatMap (ext1 G) ++ (G.take (j + 1)).map fun g => rows[i] ++ [g]), fun H7 p' => ⟨G.length - (j + 1), by omega, rfl, p'.1, p'.2⟩, fun x H7 y => ?_⟩
      obtain ⟨e7, y⟩ := y
      subst e7
      have hx2 := y _ (ex_l f1 sg)
      have hgj : G[j]? = some G[j] := List.getElem?_eq_getElem hlj
      rw [List.getElem?_map, hgj] at hx2
      obtain rfl := Option.some.inj hx2
      refine ⟨rfl, ?_⟩
      dsimp only
      rw [if_pos rfl]
      have hT7 := f1 _ _ hT
      have hlen : rows[i].length ≤ 100 := hr _ (List.getElem_mem hlt)
      refine ⟨.ref t, rfl, t, rows[i].map V.str, rfl, .inl (st_of hT7), .str G[j], rfl, sz_of (by simp; omega), fun p hp => ?_⟩
      have pD : D ≠ p := fun z => by
        rw [← z, f2] at hp
        cases hp
      have accl : acc6.length ≤ 10000 := by
        rw [f3.1, List.length_append, flat_len, List.length_map, List.length_take, List.length_take]
        have a1 : min i rows.length = i := by omega
        have a2 : min j G.length = j := by omega
        rw [a1, a2]
        have a3 : i * G.length ≤ rows.length * G.length := Nat.mul_le_mul_right _ (by omega)
        have a4 : (rows.length + 1) * G.length = rows.length * G.length + G.length := Nat.succ_mul _ _
        omega
      refine ⟨acc6, by rw [upd_ne pD]; exact f2, sz_lt (by omega), hlj, Ex.mut (f1.trans (Ex.new hp)) hD, _, upd_same, ?_⟩
      rw [List.take_add_one, hgj, List.map_append, ← List.append_assoc]
      refine RowsAt.snoc (f3.keep fun t2 xs h2 => ?_) ?_
      · have d1 : t2 ≠ D := fun z => by
          rw [z, f2] at h2
          cases h2
        rw [upd_ne d1, upd_ne (ne_of_none h2 hp)]
        exact h2
      · rw [upd_ne (Ne.symm pD), upd_same, List.map_append]
        rfl
    · have e : j = G.length := by omega
      subst e
      refine .inl ⟨⟨_, ex_l f1 sg, by simp⟩, hlt, f1, acc6, f2, ?_⟩
      rw [tk]
      rw [List.take_length] at f3
      exact f3
  · have e : i = rows.length := by omega
    subst e
    refine .inl ⟨⟨_, sq_of hl', by omega⟩, k D H' acc hD g1 g2 ?_⟩
    rw [List.take_length] at g3
    exact g3
end
end K06

set_option Elab.async false
set_option linter.all false
set_option maxRecDepth 100000
set_option maxHeartbeats 8000000
/-! S15: _tuples, told. -/
namespace K06
open PySem PySem.Spec PyProof.Rows L2 Evl J ClX StX S
def spTups (K : PySem.W.Frag) : Sp := fun vs H Q _ => ∃ (lg : Addr) (G : List Str) (n : Nat), vs = [.ref lg, .int (n : Int)] ∧ SqL K H lg (G.map V.str) ∧ n ≤ 3 ∧ G.length ≤ 8 ∧ ∀ p H' acc, H p = none → Ex H H' → H' p = some (.lst acc) → RowsAt H' acc (tups G n) → Q (.ref p) H'
theorem tups_len {G : List Str} : ∀ n, (tups G n).length = G.length ^ n
  | 0 => rfl
  | n + 1 => by
    unfold tups
    rw [flat_len, tups_len n, Nat.pow_succ]
section
variable {P : Program} {w : World} {K : PySem.W.Frag} {mg : Str → Option Value} {base : Heap} {f : Addr} {fd : FuncData}
abbrev NTu : List Str := ["grades", "count", "told", "_", "members", "grade"]
end
end K06

set_option Elab.async false
set_option linter.all false
set_option maxRecDepth 100000
set_option maxHeartbeats 8000000
/-! S16: first_fault. -/
namespace K06
open PySem PySem.Spec PyProof.Rows L2 Evl J ClX StX S
/-- the demands, in their order -/
def demL : List (Str × Nat × Dem) := [("join turned", 2, dm26), ("join joined", 3, dm27), ("join once", 1, dm28), ("none", 1, dm29), ("product turned", 2, dm30), ("product joined", 3, dm31), ("spread", 3, dm32), ("gone", 1, dm33), ("one", 1, dm34), ("greatest", 1, dm35)]
/-- the module's row of them -/
structure DemF (P : Program) (w : World) (K : PySem.W.Frag) (mg : Str → Option Value) (base : Heap) (C dD : Addr) (it fk : Nat → Addr) : Prop where
  gl : mg "DEMANDS" = some (.ref dD)
  row : ∀ H : Hp, SqT K H dD ((List.range 10).map fun i => V.ref (it i))
  at_ : ∀ (i : Nat) (e : Str × Nat × Dem), demL[i]? = some e → ∀ H : Hp, SqT K H (it i) [.str e.1, .int (e.2.1 : Int), .ref (fk i)]
  un : ∀ i j, i < 10 → j < 10 → fk i = fk j → i = j
  held : ∀ (i : Nat) (e : Str × Nat × Dem), demL[i]? = some e → Held P w K mg base 4 (fk i) (spDem K C e.2.1 e.2.2)
def fault (G : List Str) (J T : List (List Str)) (lo hi : Str) : Option (Str × List Str) := demL.findSome? fun e => ((tups G e.2.1).find? fun r => !e.2.2 G J T lo hi r).map fun r => (e.1, r)
def faultD : Option (Str × List Str) → PyData
  | none => .none
  | some (x, r) => .tuple [.str x, .tuple (r.map .str)]
def spFault (K : PySem.W.Frag) (C : Addr) : Sp := fun vs H Q _ => ∃ (a : Addr) (G : List Str) (J T : List (List Str)) (lo hi : Str), vs = [.ref a] ∧ ScAt K C H a G J T lo hi ∧ ∀ v H', Ex H H' → Dp K H' v (faultD (fault G J T lo hi)) → Q v H'
/-- which promise stands at an address -/
def promS (K : PySem.W.Frag) (C : Addr) (fk : Nat → Addr) (f : Addr) : Option Sp := (List.range 10).findSome? fun i => if f = fk i then (demL[i]?).map fun e => spDem K C e.2.1 e.2.2 else none
section
variable {P : Program} {w : World} {K : PySem.W.Frag} {mg : Str → Option Value} {base : Heap} {f C dD : Addr} {fd : FuncData} {it fk : Nat → Addr}
theorem prom_at (un : ∀ i j, i < 10 → j < 10 → fk i = fk j → i = j) {i : Nat} {e : Str × Nat × Dem} (h : demL[i]? = some e) : promS K C fk (fk i) = some (spDem K C e.2.1 e.2.2) := by
  have hi : i < 10 := (List.getElem?_eq_some_iff.mp h).1
  unfold promS
  cases q : (List.range 10).findSome? fun j => if fk i = fk j then (demL[j]?).map fun e => spDem K C e.2.1 e.2.2 else none with
  | none =>
    have z := List.findSome?_eq_none_iff.mp q i (List.mem_range.mpr hi)
    rw [if_pos rfl, h] at z
    cases z
  | some s =>
    obtain ⟨j, hj, z⟩ := List.exists_of_findSome?_eq_some q
    by_cases e2 : fk i = fk j
    · rw [if_pos e2] at z
      have ij := un i j hi (List.mem_range.mp hj) e2
      subst ij
      rw [h] at z
      exact z.symm
    · rw [if_neg e2] at z
      cases z
theorem prom_held (D : DemF P w K mg base C dD it fk) (g : Addr) (sp : Sp) (h : promS K C fk g = some sp) : Held P w K mg base 4 g sp := by
  obtain ⟨i, hi, z⟩ := List.exists_of_findSome?_eq_some h
  by_cases e : g = fk i
  · rw [if_pos e] at z
    cases q : demL[i]? with
    | none =>
      rw [q] at z
      cases z
    | some d =>
      rw [q] at z
      obtain rfl := Option.some.inj z
      rw [e]
      exact D.held i d q
  · rw [if_neg e] at z
    cases z
theorem find_at {α : Type} {p : α → Bool} {r : α} : ∀ {l : List α} {j : Nat}, (l.take j).find? p = none → l[j]? = some r → p r = true → l.find? p = some r
  | [], j, _, h, _ => by simp at h
  | x :: l, 0, _, h, hp => by
    simp at h
    subst h
    simp [hp]
  | x :: l, j + 1, h, h1, hp => by
    rw [List.take_succ_cons, List.find?_cons] at h
    cases hx : p x with
    | true =>
      rw [hx] at h
      cases h
    | false =>
      rw [hx] at h
      rw [List.find?_cons, hx]
      exact find_at (l := l) (j := j) h (by simpa using h1) hp
theorem find_more {α : Type} {p : α → Bool} {r : α} : ∀ {l : List α} {j : Nat}, (l.take j).find? p = none → l[j]? = some r → p r = false → (l.take (j + 1)).find? p = none
  | [], j, _, h, _ => by simp at h
  | x :: l, 0, _, h, hp => by
    simp at h
    subst h
    simp [hp]
  | x :: l, j + 1, h, h1, hp => by
    rw [List.take_succ_cons, List.find?_cons] at h ⊢
    cases hx : p x with
    | true =>
      rw [hx] at h
      cases h
    | false =>
      rw [hx] at h
      exact find_more (l := l) (j := j) h (by simpa using h1) hp
theorem some_at {α β : Type} {g : α → Option β} {r : α} {y : β} : ∀ {l : List α} {j : Nat}, (l.take j).findSome? g = none → l[j]? = some r → g r = some y → l.findSome? g = some y
  | [], j, _, h, _ => by simp at h
  | x :: l, 0, _, h, hp => by
    simp at h
    subst h
    rw [List.findSome?_cons, hp]
  | x :: l, j + 1, h, h1, hp => by
    rw [List.take_succ_cons, List.findSome?_cons] at h
    cases hx : g x with
    | some z =>
      rw [hx] at h
      cases h
    | none =>
      rw [hx] at h
      rw [List.findSome?_cons, hx]
      exact some_at (l := l) (j := j) h (by simpa using h1) hp
theorem some_more {α β : Type} {g : α → Option β} {r : α} : ∀ {l : List α} {j : Nat}, (l.take j).findSome? g = none → l[j]? = some r → g r = none → (l.take (j + 1)).findSome? g = none
  | [], j, _, h, _ => by simp at h
  | x :: l, 0, _, h, hp => by
    simp at h
    subst h
    simp [hp]
  | x :: l, j + 1, h, h1, hp => by
    rw [List.take_succ_cons, List.findSome?_cons] at h ⊢
    cases hx : g x with
    | some z =>
      rw [hx] at h
      cases h
    | none =>
      rw [hx] at h
      exact some_more (l := l) (j := j) h (by simpa using h1) hp
theorem s_forTups {σ : L2.St} {H : Hp} {D : Ends} {tu : TS} {tg : TE} {n : Nat} {G : List Str} (GL : EvL tg σ H (G.map V.str)) (hc : σ[2]? = some (some (.int (n : Int)))) (hn : n ≤ 3) (hz : G.length ≤ 8)
    (k : ∀ p acc H1, H p = none → Ex H H1 → H1 p = some (.lst acc) → RowsAt H1 acc (tups G n) → ∃ Pv : Nat → L2.St → Hp → Prop, Pv 0 σ H1 ∧ (∀ i σ' H', i ≤ acc.length → Pv i σ' H' → SqL K H' p acc) ∧
      (∀ i x σ' H', acc[i]? = some x → Pv i σ' H' → tu { D with nx := Pv (i + 1), ct := Pv (i + 1), bk := D.nx } (σ'.set 4 (some x)) H') ∧ ∀ σ' H', Pv acc.length σ' H' → D.nx σ' H') :
    tFor (iList K (tCall (spTups K) [] E0 (tCons tg (tCons (tVar 2) tNil)))) (gName 4) tu D σ H :=
  GL H (Ex.refl H) _ fun lg H1 n1 e1 h1 => ⟨_, hc, lg, G, n, rfl, sq_of h1, hn, hz, fun p H2 acc n2 e2 h2 r2 => by
    obtain ⟨Pv, k0, k1, k2, k3⟩ := k p acc H2 (fresh_back e1 n2) (e1.trans e2) h2 r2
    exact ⟨p, rfl, ⟨acc, sq_of h2⟩, for_list Pv k0 k1 k2 k3⟩⟩
abbrev NFf : List Str := ["scale", "word", "count", "holds", "grades"]
end
end K06

set_option Elab.async false
set_option linter.all false
set_option maxRecDepth 100000
set_option maxHeartbeats 8000000
namespace K06
open PySem PySem.Spec PyProof.Rows L2 Evl J
/-- the pen at p, its cells at c -/
def PenC (H : Hp) (p c : Addr) (m : Nat) : Prop := ∃ (ns : List Int) (i v : Int), H p = some (.lst [.ref c, .int i, .int v]) ∧ H c = some (.lst (ns.map V.int)) ∧ c ≠ p ∧ ns.length ≤ 60 ∧ 0 ≤ i ∧ i ≤ (m : Int)
theorem PenC.ext {H H' : Hp} {p c : Addr} {m : Nat} (h : PenC H p c m) (e : Ex H H') : PenC H' p c m := by
  obtain ⟨ns, i, v, h1, h2, h3⟩ := h
  exact ⟨ns, i, v, e _ _ h1, e _ _ h2, h3⟩
theorem PenC.keep {H H' : Hp} {p c : Addr} {m : Nat} (h : PenC H p c m) (e1 : H' p = H p) (e2 : H' c = H c) : PenC H' p c m := by
  obtain ⟨ns, i, v, h1, h2, h3⟩ := h
  exact ⟨ns, i, v, e1.trans h1, e2.trans h2, h3⟩
def spDrawC : Sp := fun vs H Q _ => ∃ (p c : Addr) (u : Int) (m : Nat), vs = [.ref p, .int u] ∧ 1 ≤ u ∧ u ≤ 100000 ∧ PenC H p c m ∧ m ≤ 1000000 ∧
  ∀ (d : Int) H', But p H H' → PenC H' p c (m + 1) → 0 ≤ d → d < u → Q (.int d) H'
abbrev sPen : Stmt := topS 39
abbrev sNext : Stmt := topS 40
abbrev sDraw : Stmt := topS 41
section
variable {P : Program} {w : World} {K : PySem.W.Frag} {mg : Str → Option Value} {base : Heap} {f : Addr} {fd : FuncData}
abbrev NPen : List Str := ["_law_script"]
abbrev NNext : List Str := ["_law_pen_here", "_law_index", "_law_cell_here", "_law_some", "_law_more", "_law_high"]
abbrev NDraw : List Str := ["_law_pen_here", "_law_under", "_law_digit"]
theorem scPen : FnScope NPen ["_law_script"] (defScope sPen) := ⟨rfl, rfl, rfl, by decide +kernel, rfl, by decide +kernel, by decide +kernel⟩
theorem scNext : FnScope NNext ["_law_pen_here"] (defScope sNext) := ⟨rfl, rfl, rfl, by decide +kernel, rfl, by decide +kernel, by decide +kernel⟩
theorem scDraw : FnScope NDraw ["_law_pen_here", "_law_under"] (defScope sDraw) := ⟨rfl, rfl, rfl, by decide +kernel, rfl, by decide +kernel, by decide +kernel⟩
theorem cut_ints (ns : List Int) : ∃ ms : List Int, cutV (ns.map V.int) none (some 60) = ms.map V.int ∧ ms.length ≤ 60 := by
  refine ⟨(ns.drop (HT.sIx ns.length 0 none)).take (HT.sIx ns.length ns.length (some 60) - HT.sIx ns.length 0 none), ?_, ?_⟩
  · unfold cutV
    rw [List.length_map, ← List.map_drop, ← List.map_take]
  · rw [List.length_take, List.length_drop]
    have e : HT.sIx ns.length ns.length (some 60) = min 60 ns.length := HT.sIx_nat ns.length ns.length 60
    omega
theorem ok_pen (F : FnP K "_law_pen" sPen f fd) (T : Bl mg) : FnOk P w K mg base CX0 1 f fd ["_law_script"] (spPen K) := by
  refine F.ok scPen (fun vs H Q E h => ?_) (fun cdv A outer s H vs Q E hr h => ?_)
  · obtain ⟨a, ns, rfl, _⟩ := h
    rfl
  · obtain ⟨a, ns, rfl, hS, q⟩ := h
    obtain ⟨ms, e1, e2⟩ := cut_ints ns
    refine ⟨_, pss_one (ps_ret (pe_lst (pa_cons (pe_callTy call_list_of rfl T.lst Boot.«list» (pa_cons (pe_slice sl_list (pv 0) po_none (po_some pe_int)) pa_nil)) (pa_cons pe_int (pa_cons pe_int pa_nil))))), ?_⟩
    refine ⟨.ref a, rfl, 60, rfl, a, _, rfl, hS, fun p hp => ?_⟩
    refine ⟨p, _, rfl, .inl (sq_of upd_same), fun l hl => ⟨sz_of (by simp), fun r hr => ?_⟩⟩
    have x1 : Ex H (upd H p (.lst (cutV (ns.map V.int) none (some 60)))) := Ex.new hp
    have x2 := x1.trans (Ex.new (o := .lst (cutV (ns.map V.int) none (some 60))) hl)
    have hr0 := fresh_back x2 hr
    refine q r _ hr0 (x2.trans (Ex.new hr)) ⟨l, ms, 0, 0, upd_same, ?_, ?_, e2, by omega, by omega⟩
    · rw [upd_ne (fun z => ?_), upd_same, e1]
      subst z
      rw [upd_same] at hr
      cases hr
    · intro z
      subst z
      rw [upd_same] at hr
      cases hr
/-- what the mixed numbers are below -/
theorem rest_lt {x m : Int} (h : 0 < m) : 0 ≤ x % m ∧ x % m < m := ⟨Int.emod_nonneg _ (by omega), Int.emod_lt_of_pos _ h⟩
theorem ok_next (F : FnP K "_law_next" sNext f fd) (T : Bl mg) : FnOk P w K mg base CX0 1 f fd ["_law_pen_here"] spNext := by
  refine F.ok scNext (fun vs H Q E h => ?_) (fun cdv A outer s H vs Q E hr h => ?_)
  · obtain ⟨p, c, ns, i, v, rfl, _⟩ := h
    rfl
  · obtain ⟨p, c, ns, i, v, rfl, hp, hc, ncp, hl, i0, i1, q⟩ := h
    have hu := hu_of hr
    have hu64 : (cxOf CX0 P w K mg base NNext "_law_next" (defScope sNext) f cdv A outer s H E).A.units + 64 < cLine := by
      have := hr.un
      show (A.deeper _).units + 64 < cLine
      omega
    refine ⟨_, pss_cons (ps_set (i := 1) scNext.nd rfl (Or.inl rfl) (pe_ix ix_list (pv 0) (pe_int) (fun _ _ => rfl))) (pss_cons (ps_asg (pe_op op_add (pv 1) (pe_int)) (pg_sub (pv 0) (pe_int) set_list)) (pss_cons (ps_set (i := 2) scNext.nd rfl (Or.inl rfl) (pe_op op_add (pe_op op_mul (pv 1) (pe_int)) (pe_int))) (pss_cut (ps_if (pt_cmpR (op_neD hu64) (pe_ix ix_list (pv 0) (pe_int) (fun _ _ => rfl)) (pe_lst pa_nil) (nomark _)) (pss_one (ps_set (i := 2) scNext.nd rfl (Or.inl rfl) (pe_ix ix_list (pe_ix ix_list (pv 0) (pe_int) (fun _ _ => rfl)) (pe_op op_mod (pe_callTy call_int1 (by rfl) T.int Boot.«int» (pa_cons (pv 1) pa_nil)) (pe_callB call_len_seq (by rfl) T.len boot_len (pa_cons (pe_ix ix_list (pv 0) (pe_int) (fun _ _ => rfl)) pa_nil))) (fun _ _ => rfl)))) pss_nil) (pss_cons (ps_if (PW.pt (pw_and (pt_cmpR op_lt (pv 1) (pe_callB call_len_seq (by rfl) T.len boot_len (pa_cons (pe_ix ix_list (pv 0) (pe_int) (fun _ _ => rfl)) pa_nil)) (nomark _)) (pw_and1 (pt_cmpR op_ge (pv 2) (pe_op op_pow (pe_int) (pe_int)) (nomark _))))) (pss_one (ps_ret (pv 2))) pss_nil) (pss_cons (ps_set (i := 3) scNext.nd rfl (Or.inl rfl) (pe_op op_mod (pe_callTy call_int1 (by rfl) T.int Boot.«int» (pa_cons (pe_op op_add (pe_op op_add (pe_op op_mod (pe_callTy call_int1 (by rfl) T.int Boot.«int» (pa_cons (pv 2) pa_nil)) (pe_int)) (pe_op op_mul (pv 1) (pe_int))) (pe_int)) pa_nil)) (pe_int))) (pss_cons (ps_set (i := 4) scNext.nd rfl (Or.inl rfl) (pe_op op_mod (pe_callTy call_int1 (by rfl) T.int Boot.«int» (pa_cons (pe_op op_add (pe_op op_add (pe_op op_mul (pv 3) (pv 3)) (pe_op op_mul (pv 1) (pe_int))) (pe_int)) pa_nil)) (pe_int))) (pss_cons (ps_set (i := 5) scNext.nd rfl (Or.inl rfl) (pe_op op_mod (pe_callTy call_int1 (by rfl) T.int Boot.«int» (pa_cons (pe_op op_add (pe_op op_add (pe_op op_mul (pv 4) (pv 4)) (pv 3)) (pe_op op_mul (pe_op op_mul (pv 1) (pv 1)) (pe_int))) pa_nil)) (pe_int))) (pss_one (ps_ret (pe_op op_add (pe_op op_mul (pe_op op_add (pe_op op_mul (pv 5) (pe_int)) (pv 4)) (pe_int)) (pv 3))))))))))), ?_⟩
    -- index
    refine q_asg (ev_op (ev_var rfl) ev_c (rv_ixL (sq_of hp) rfl)) fun H1 e1 => ?_
    refine q_setL (l := p) (j := 1) (e1 p _ hp) (ev_op (ev_var rfl) ev_c rv_I0) (ev_var rfl) ev_c (by simp) fun H2 e2 => ?_
    have b2 : But p H (upd H2 p (.lst [.ref c, .int (i + 1), .int v])) := (But.of (e1.trans e2)).trans But.upd
    have hp2 : (upd H2 p (.lst [.ref c, .int (i + 1), .int v])) p = some (.lst [.ref c, .int (i + 1), .int v]) := upd_same
    have hc2 : (upd H2 p (.lst [.ref c, .int (i + 1), .int v])) c = some (.lst (ns.map V.int)) := b2 c _ ncp hc
    show tSeq _ _ _ _ (upd H2 p (.lst [.ref c, .int (i + 1), .int v]))
    generalize upd H2 p (.lst [.ref c, .int (i + 1), .int v]) = H3 at b2 hp2 hc2 ⊢
    refine q_asg (ev_op (ev_op (ev_var rfl) ev_c (rv_I (.inr (by decide)))) ev_c rv_I0) fun H4 e4 => ?_
    -- if pen[0] != []
    refine q_cut (M := fun σ' H' => ∃ cell : Int, σ' = [some (.ref p), some (.int i), some (.int cell), none, none, none] ∧ Ex H3 H') ?_ ?_
    · have at0 : Ev (tOp (rIxL K) (tVar 0) (tC (.int 0))) [some (.ref p), some (.int i), some (.int (i * 1051 + 53)), none, none, none] H4 (.ref c) := ev_op (ev_var rfl) ev_c (rv_ixL (sq_of (e4 p _ hp2)) rfl)
      have hc4 := e4 c _ hc2
      refine s_when (et_test (ev_neL (e := .none) at0 (.lst (sq_of hc4) (dpa_ints ns)) (el_lst ea_nil (by simp)) .nil (shaped_leaves (by simp [leaf])) (shaped_leaves (by simp)))) (fun hb H5 e5 => ?_) (fun hb H5 e5 => ⟨_, rfl, e4.trans e5⟩)
      have hpos : 0 < ns.length := by
        cases ns with
        | nil => simp [PyData.eqv, PyData.eqvAll] at hb
        | cons n ns => simp
      have hm := rest_lt (x := i) (m := (ns.length : Int)) (by omega)
      obtain ⟨j, hj⟩ : ∃ j : Nat, i % (ns.length : Int) = (j : Int) := ⟨(i % (ns.length : Int)).toNat, by omega⟩
      have hj2 : j < ns.length := by omega
      refine s_asg (v := .int ns[j]) (ev_op (at0.mono e5) (ev_op (ev_cb (ea_cons (ev_var rfl) ea_nil) rc_int) (ev_cb (ea_cons (at0.mono e5) ea_nil) (rc_len (.inl (sq_of (e5 c _ hc4))))) (rv_I (by rw [List.length_map]; omega))) (rv_ixL (sq_of (e5 c _ hc4)) ?_)) fun H6 e6 => ⟨ns[j], rfl, (e4.trans e5).trans e6⟩
      rw [List.length_map, hj]
      exact atI_nat (by rw [List.getElem?_map, List.getElem?_eq_getElem hj2]; rfl)
    rintro σ' H4' ⟨cell, rfl, e4'⟩
    have at0 : Ev (tOp (rIxL K) (tVar 0) (tC (.int 0))) [some (.ref p), some (.int i), some (.int cell), none, none, none] H4' (.ref c) := ev_op (ev_var rfl) ev_c (rv_ixL (sq_of (e4' p _ hp2)) rfl)
    have out : ∀ (r : Int) H', Ex H4' H' → Q (.int r) H' := fun r H' e => q r H' (b2.trans (But.of (e4'.trans e))) ((e4'.trans e) p _ hp2)
    refine q_when (et_and (et_test (ev_op (ev_var rfl) (ev_cb (ea_cons at0 ea_nil) (rc_len (.inl (sq_of (e4' c _ hc2))))) rv_I0)) (fun _ => et_test (ev_op (ev_var rfl) (ev_op ev_c ev_c (rv_I ⟨by decide, by decide, by decide⟩)) rv_I0))) (fun _ H5 e5 => s_ret (ev_var rfl) fun H6 e6 => out _ _ (e5.trans e6)) (fun _ H5 e5 => ?_)
    have m1 := rest_lt (x := cell % 2147483587 + i * 30103 + 79) (m := 2147483587) (by decide)
    refine q_asg (ev_op (ev_cb (ea_cons (ev_op (ev_op (ev_op (ev_cb (ea_cons (ev_var rfl) ea_nil) rc_int) ev_c (rv_I (by decide))) (ev_op (ev_var rfl) ev_c (rv_I (.inr (by decide)))) rv_I0) ev_c rv_I0) ea_nil) rc_int) ev_c (rv_I (by decide))) fun H6 e6 => ?_
    generalize (cell % 2147483587 + i * 30103 + 79) % 2147483587 = x at m1 ⊢
    have m2 := rest_lt (x := x * x + i * 70039 + 61) (m := 2147483563) (by decide)
    refine q_asg (ev_op (ev_cb (ea_cons (ev_op (ev_op (ev_op (ev_var rfl) (ev_var rfl) (rv_I (.inr ⟨by omega, by omega⟩))) (ev_op (ev_var rfl) ev_c (rv_I (.inr (by decide)))) rv_I0) ev_c rv_I0) ea_nil) rc_int) ev_c (rv_I (by decide))) fun H7 e7 => ?_
    generalize (x * x + i * 70039 + 61) % 2147483563 = y at m2 ⊢
    refine q_asg (ev_op (ev_cb (ea_cons (ev_op (ev_op (ev_op (ev_var rfl) (ev_var rfl) (rv_I (.inr ⟨by omega, by omega⟩))) (ev_var rfl) rv_I0) (ev_op (ev_op (ev_var rfl) (ev_var rfl) (rv_I (.inr ⟨by omega, by omega⟩))) ev_c (rv_I (.inr (by decide)))) rv_I0) ea_nil) rc_int) ev_c (rv_I (by decide))) fun H8 e8 => ?_
    exact s_ret (ev_op (ev_op (ev_op (ev_op (ev_var rfl) ev_c (rv_I (.inr (by decide)))) (ev_var rfl) rv_I0) ev_c (rv_I (.inr (by decide)))) (ev_var rfl) rv_I0) fun H9 e9 => out _ _ ((((e5.trans e6).trans e7).trans e8).trans e9)
theorem ok_draw (F : FnP K "_law_draw" sDraw f fd) (T : Bl mg) (cN : Cal P w K mg base CX0 1 "_law_next" ["_law_pen_here"] spNext) : FnOk P w K mg base CX0 2 f fd ["_law_pen_here", "_law_under"] spDrawC := by
  refine F.ok scDraw (fun vs H Q E h => ?_) (fun cdv A outer s H vs Q E hr h => ?_)
  · obtain ⟨p, c, u, m, rfl, _⟩ := h
    rfl
  · obtain ⟨p, c, u, m, rfl, u1, u2, ⟨ns, i, v, hp, hc, ncp, hl, i0, i1⟩, hm, q⟩ := h
    refine ⟨_, pss_cut (ps_if (pt_cmpR op_lt (pe_ix ix_list (pv 0) (pe_int) (fun _ _ => rfl)) (pv 1) (nomark _)) (pss_one (ps_asg (pe_cal cN hr rfl pass0 (pa_cons (pv 0) pa_nil)) (pg_sub (pv 0) (pe_int) set_list))) pss_nil) (pss_cons (ps_set (i := 2) scDraw.nd rfl (Or.inl rfl) (pe_op op_mod (pe_callTy call_int1 (by rfl) T.int Boot.«int» (pa_cons (pe_ix ix_list (pv 0) (pe_int) (fun _ _ => rfl)) pa_nil)) (pv 1))) (pss_cons (ps_asg (pe_op op_fdivW (pe_ix ix_list (pv 0) (pe_int) (fun _ _ => rfl)) (pv 1)) (pg_sub (pv 0) (pe_int) set_list)) (pss_one (ps_ret (pv 2))))), ?_⟩
    refine q_cut (M := fun σ' H' => ∃ (j v : Int), σ' = [some (.ref p), some (.int u), none] ∧ But p H H' ∧ H' p = some (.lst [.ref c, .int j, .int v]) ∧ 0 ≤ j ∧ j ≤ (m : Int) + 1) ?_ ?_
    · refine s_when (et_test (ev_op (ev_op (ev_var rfl) ev_c (rv_ixL (sq_of hp) rfl)) (ev_var rfl) rv_I0)) (fun _ H1 e1 => ?_) (fun _ H1 e1 => ⟨i, v, rfl, But.of e1, e1 p _ hp, i0, by omega⟩)
      refine ⟨_, rfl, p, c, ns, i, v, rfl, e1 p _ hp, e1 c _ hc, ncp, hl, i0, by omega, fun r H2 b2 h2 => ⟨_, rfl, p, _, 2, 2, rfl, rfl, h2, rfl, i + 1, r, rfl, ((But.of e1).trans b2).trans But.upd, upd_same, by omega, by omega⟩⟩
    · rintro σ' H1 ⟨j, v, rfl, b1, hp1, j0, j1⟩
      have m1 := rest_lt (x := v) (m := u) (by omega)
      refine q_asg (ev_op (ev_cb (ea_cons (ev_op (ev_var rfl) ev_c (rv_ixL (sq_of hp1) rfl)) ea_nil) rc_int) (ev_var rfl) (rv_I (by omega))) fun H2 e2 => ?_
      refine q_setL (l := p) (j := 2) (e2 p _ hp1) (ev_op (ev_op (ev_var rfl) ev_c (rv_ixL (sq_of (e2 p _ hp1)) rfl)) (ev_var rfl) (rv_I (wide_div (b := 64) (by omega) (by omega) (by decide) (by decide)))) (ev_var rfl) ev_c (by simp) fun H3 e3 => ?_
      have b3 : But p H (upd H3 p (.lst ([.ref c, .int j, .int v].set 2 (.int (v / u))))) := (b1.trans (But.of (e2.trans e3))).trans But.upd
      exact s_ret (ev_var rfl) fun H4 e4 => q (v % u) H4 (b3.trans (But.of e4)) ⟨ns, j, v / u, e4 p _ upd_same, e4 c _ (b3 c _ ncp hc), ncp, hl, j0, by omega⟩ m1.1 m1.2
end
end K06

set_option Elab.async false
set_option linter.all false
set_option maxRecDepth 100000
set_option maxHeartbeats 8000000
/-! S18: _law_shuffled. -/
namespace K06
open PySem PySem.Spec PyProof.Rows L2 Evl J ClX StX S
theorem perm_erase {α : Type} : ∀ (l : List α) (k : Nat) (h : k < l.length), (l[k] :: l.eraseIdx k).Perm l
  | [], k, h => absurd h (Nat.not_lt_zero _)
  | x :: l, 0, _ => List.Perm.refl _
  | x :: l, k + 1, h => by
    have ih := perm_erase l k (by simpa using h)
    simp only [List.getElem_cons_succ, List.eraseIdx_cons_succ]
    exact (List.Perm.swap x _ _).trans (List.Perm.cons x ih)
/-- a comprehension over a range, whatever its turns do -/
theorem lc_rng {σ : L2.St} {H : Hp} {ta : TA} {te : TE} {vs : List Nat} {j n : Nat} {Q : VK} (EA : EvA ta σ H [.int (n : Int)]) (hz : n ≤ 40000)
    (k : ∀ D H1, Ex H H1 → H1 D = none → ∃ Pv : Nat → Hp → Prop, Pv 0 (upd H1 D (.lst [])) ∧ (∀ (i : Nat) H', i < n → Pv i H' → wipe ((wipe σ vs).set j (some (.int (i : Int)))) vs = wipe σ vs ∧
      te ((wipe σ vs).set j (some (.int (i : Int)))) H' fun y H4 => ∃ acc, H4 D = some (.lst acc) ∧ acc.length < sizeLine ∧ Pv (i + 1) (upd H4 D (.lst (acc ++ [y])))) ∧ ∀ H', Pv n H' → Q (.ref D) H') : tLc (iRng1 ta) (gName j) tYes te vs σ H Q :=
  EA H (Ex.refl H) _ fun H1 e1 => ⟨(n : Int), rfl, by omega, by omega, fun D hD => by
    obtain ⟨Pv, h0, hs, hd⟩ := k D H1 e1 hD
    refine lc_range (lo := 0) (n := n) Pv h0 (fun i H' hi p => ?_) hd
    have e0 : (0 : Int) + (i : Int) = (i : Int) := Int.zero_add _
    show wipe ((wipe σ vs).set j (some (.int ((0 : Int) + (i : Int))))) vs = wipe σ vs ∧ te ((wipe σ vs).set j (some (.int ((0 : Int) + (i : Int))))) H' _
    rw [e0]
    exact hs i H' hi p⟩
abbrev sShuf : Stmt := topS 42
def spShuf (K : PySem.W.Frag) : Sp := fun vs H Q _ => ∃ (p c l : Addr) (xs : List V) (m : Nat), vs = [.ref p, .ref l] ∧ PenC H p c m ∧ m ≤ 900000 ∧ SqL K H l xs ∧ xs.length ≤ 1000 ∧
  ∀ q H' ys, H q = none → But p H H' → PenC H' p c (m + xs.length) → ys.Perm xs → H' q = some (.lst ys) → q ≠ p → Q (.ref q) H'
section
variable {P : Program} {w : World} {K : PySem.W.Frag} {mg : Str → Option Value} {base : Heap} {f : Addr} {fd : FuncData}
abbrev NSh : List Str := ["_law_pen_here", "_law_items", "_law_rest", "_law_lap"]
theorem scSh : FnScope NSh ["_law_pen_here", "_law_items"] (defScope sShuf) := ⟨rfl, rfl, rfl, by decide +kernel, rfl, by decide +kernel, by decide +kernel⟩
theorem ok_shuf (F : FnP K "_law_shuffled" sShuf f fd) (T : Bl mg) (cD : Cal P w K mg base CX0 2 "_law_draw" ["_law_pen_here", "_law_under"] spDrawC) : FnOk P w K mg base CX0 3 f fd ["_law_pen_here", "_law_items"] (spShuf K) := by
  refine F.ok scSh (fun vs H Q E h => ?_) (fun cdv A outer s H vs Q E hr h => ?_)
  · obtain ⟨p, c, l, xs, m, rfl, _⟩ := h
    rfl
  · obtain ⟨p, c, l, xs, m, rfl, hp, hm, hs, hz, q⟩ := h
    refine ⟨_, pss_cons (ps_set (i := 2) scSh.nd rfl (Or.inr rfl) (pe_callTy call_list_of rfl T.lst Boot.«list» (pa_cons (pv 1) pa_nil)))
      (pss_one (ps_ret (pe_lc (own := [("_law_lap", 3)]) (g := gName 3) (tt := tYes) (te := tBM K "list" rPopAt (tVar 2) (tCons (tCall spDrawC [] E0 (tCons (tVar 0) (tCons (tCB (fun xs H Q => ∃ p ys, xs = [.ref p] ∧ (SqL K H p ys ∨ SqT K H p ys) ∧ Q (.int ys.length) H) (tCons (tVar 2) tNil)) tNil))) tNil)) rfl scSh.nd (pi_range1 rfl T.rng (pa_cons (pe_callB call_len_seq (by rfl) T.len boot_len (pa_cons (pv 2) pa_nil)) pa_nil)) (blkOk_by (N := NSh) (sc := defScope sShuf) (by decide +kernel)) (fun _ _ _ _ _ => pg_name (i := 3) scSh.nd rfl (Or.inl rfl)) (fun _ _ _ _ _ => pts_nil)
        (fun _ _ _ _ _ => by exact pe_bm PySem.F.plainAttrs_list PySem.F.slot_list_pop PySem.F.type_list_pop mt_popAt (pv 2) (pa_cons (pe_cal cD hr rfl pass0 (pa_cons (pv 0) (pa_cons (pe_callB call_len_seq (by rfl) T.len boot_len (pa_cons (pv 2) pa_nil)) pa_nil))) pa_nil))))), ?_⟩
    have hp0 : H p ≠ none := by
      obtain ⟨ns, i, v, h1, _⟩ := hp
      rw [h1]
      simp
    have LS : EvL (tCB (fun (xs : List V) (H : Hp) (Q : VK) => ∃ p ys, xs = [.ref p] ∧ (SqL K H p ys ∨ SqT K H p ys) ∧ ∀ l, H l = none → Q (.ref l) (upd H l (.lst ys))) (tCons (tVar 1) tNil)) [some (.ref p), some (.ref l), none, none] H xs := fun H1 e Q q =>
      ⟨_, rfl, l, xs, rfl, .inl (ex_l e hs), fun r hr => q r _ hr (Ex.new hr) upd_same⟩
    refine q_asgL LS fun r H1 hr x1 a1 => ?_
    have rp : r ≠ p := fun z => hp0 (z ▸ hr)
    have p1 : PenC H1 p c m := hp.ext x1
    have hc0 : H c ≠ none := by
      obtain ⟨ns, i, v, _, h2, _⟩ := hp
      rw [h2]
      simp
    have rc : c ≠ r := fun z => hc0 (z ▸ hr)
    refine lc_rng (Q := Q) (n := xs.length) (ea_cons (ev_lenS (ev_var rfl) (.inl (sq_of a1))) ea_nil) (by omega) fun D H2 e2 hD => ?_
    have rD : r ≠ D := ne_of_none (e2 _ _ a1) hD
    have pD : p ≠ D := fun z => hp0 (fresh_back (x1.trans e2) (z ▸ hD))
    refine ⟨fun i H' => ∃ rem acc, H' r = some (.lst rem) ∧ H' D = some (.lst acc) ∧ (acc ++ rem).Perm xs ∧ acc.length = i ∧ PenC H' p c (m + i) ∧ But p H H', ⟨xs, [], by rw [upd_ne rD]; exact e2 _ _ a1, upd_same, List.Perm.refl _, rfl, (p1.ext e2).ext (Ex.new hD), But.of ((x1.trans e2).trans (Ex.new hD))⟩, ?_, ?_⟩
    · rintro i H3 hi ⟨rem, acc, h3, d3, pm, al, pen3, b3⟩
      have hlen : acc.length + rem.length = xs.length := by
        have := pm.length_eq
        rwa [List.length_append] at this
      refine ⟨rfl, .ref r, rfl, .inl ⟨rfl, _, sq_of h3⟩, .ref p, rfl, .ref r, rfl, r, rem, rfl, .inl (sq_of h3), p, c, (rem.length : Int), m + i, rfl, by omega, by omega, pen3, by omega, fun d H4 b4 pen4 d0 d1 => ?_⟩
      obtain ⟨k, rfl⟩ : ∃ k : Nat, d = (k : Int) := ⟨d.toNat, by omega⟩
      have hk : k < rem.length := by omega
      have r4 := b4 _ _ rp h3
      have D4 := b4 _ _ (Ne.symm pD) d3
      refine ⟨r, rem, (k : Int), k, rem[k], rfl, rfl, r4, by omega, by omega, (by rw [seqIndex_of (by omega) (by omega)]; simp), List.getElem?_eq_getElem hk, ?_⟩
      refine ⟨acc, by rw [upd_ne (Ne.symm rD)]; exact D4, sz_lt (by omega), rem.eraseIdx k, acc ++ [rem[k]], by rw [upd_ne rD, upd_same], upd_same, ?_, by simp [al], ?_, ?_⟩
      · refine List.Perm.trans ?_ pm
        rw [List.append_assoc]
        exact List.Perm.append_left _ (perm_erase rem k hk)
      · have cD : c ≠ D := fun z => hc0 (fresh_back (x1.trans e2) (z ▸ hD))
        exact pen4.keep (by rw [upd_ne pD, upd_ne (Ne.symm rp)]) (by rw [upd_ne cD, upd_ne rc])
      · intro b o hb z
        have br : b ≠ r := ne_of_none z hr
        have bD : b ≠ D := ne_of_none ((x1.trans e2) _ _ z) hD
        rw [upd_ne bD, upd_ne br]
        exact b4 _ _ hb (b3 _ _ hb z)
    · rintro H3 ⟨rem, acc, h3, d3, pm, al, pen3, b3⟩
      have hrem : rem = [] := by
        have := pm.length_eq
        rw [List.length_append, al] at this
        exact List.eq_nil_of_length_eq_zero (by omega)
      subst hrem
      rw [List.append_nil] at pm
      exact q D H3 acc (fresh_back (x1.trans e2) hD) b3 pen3 pm d3 (Ne.symm pD)
end
end K06

set_option Elab.async false
set_option linter.all false
set_option maxRecDepth 100000
set_option maxHeartbeats 8000000
/-! S19: what is told, looked up: _law_join, _law_then, _law_rows_of. -/
namespace S
open PySem PySem.Spec PyProof.Rows L2 Evl J ClX StX
theorem idx_min {x : Str} : ∀ {G : List Str} {m : Nat}, G[m]? = some x → G.idxOf x ≤ m
  | [], m, h => by simp at h
  | y :: r, 0, h => by
    simp at h
    subst h
    simp
  | y :: r, m + 1, h => by
    have ih := idx_min (G := r) (m := m) (by simpa using h)
    rw [List.idxOf_cons]
    cases hy : (y == x) with
    | true => simp
    | false =>
      simp only [cond_false]
      omega
section
variable {K : PySem.W.Frag} {σ : L2.St} {H : Hp} {ta tb : TE}
theorem ev_index {l : Addr} {x : Str} {G : List Str} (h : Ev ta σ H (.ref l)) (hs : SqL K H l (G.map V.str)) (hx : Ev tb σ H (.str x)) (m : x ∈ G) : Ev (tBM K "list" (rIndex K) ta (tCons tb tNil)) σ H (.int (G.idxOf x : Int)) := fun H1 e Q q =>
  h H1 e _ fun H2 e2 => ⟨.inl ⟨rfl, _, ex_l (e.trans e2) hs⟩, hx H2 (e.trans e2) _ fun H3 e3 => ⟨l, _, .str x, G.idxOf x, .str x, rfl, rfl, ex_l ((e.trans e2).trans e3) hs, rfl, flat_strs, by rw [List.getElem?_map, idx_get m]; rfl, by simp [eqV], fun n z hn hz => by
    rw [List.getElem?_map] at hz
    cases hg : G[n]? with
    | none =>
      rw [hg] at hz
      cases hz
    | some y =>
      rw [hg] at hz
      obtain rfl := Option.some.inj hz
      have ne : y ≠ x := fun q => by
        subst q
        have := idx_min hg
        omega
      simpa [eqV] using ne, q H3 (e2.trans e3)⟩⟩
/-- the entry of lists of lists at two grades' places -/
theorem rows_at {G : List Str} {J : List (List Str)} {j : V} {x y : Str} (w : Wf G J) (dp : Dp K H j (K06.rowsL J)) (hx : x ∈ G) (hy : y ∈ G) :
    ∃ p r ys zs, j = .ref p ∧ SqL K H p ys ∧ atI ys (G.idxOf x : Int) = some (.ref r) ∧ SqL K H r zs ∧ atI zs (G.idxOf y : Int) = some (.str (ap G J x y)) := by
  have h1 : G.idxOf x < J.length := by rw [w.len]; exact idx_lt hx
  have m1 : J[G.idxOf x] ∈ J := List.getElem_mem h1
  have h2 : G.idxOf y < (J[G.idxOf x]).length := by rw [w.row _ m1]; exact idx_lt hy
  have ea : ap G J x y = (J[G.idxOf x])[G.idxOf y] := by
    unfold ap
    have e1 : J.getD (G.idxOf x) [] = J[G.idxOf x] := by rw [List.getD_eq_getElem?_getD, List.getElem?_eq_getElem h1]; rfl
    rw [e1, List.getD_eq_getElem?_getD, List.getElem?_eq_getElem h2]
    rfl
  unfold K06.rowsL at dp
  cases dp with
  | @lst p ys _ hs ha =>
    have hl := dpa_len ha
    rw [List.length_map] at hl
    have hv : ys[G.idxOf x]? = some ys[G.idxOf x] := List.getElem?_eq_getElem (by omega)
    obtain ⟨d1, hd1, dp1⟩ := dpa_get ha hv
    rw [List.getElem?_map, List.getElem?_eq_getElem h1] at hd1
    obtain rfl := Option.some.inj hd1
    generalize hyx : ys[G.idxOf x] = u at *
    cases dp1 with
    | @lst r zs _ hs2 ha2 =>
      have hl2 := dpa_len ha2
      rw [List.length_map] at hl2
      have hv2 : zs[G.idxOf y]? = some zs[G.idxOf y] := List.getElem?_eq_getElem (by omega)
      obtain ⟨d2, hd2, dp2⟩ := dpa_get ha2 hv2
      rw [List.getElem?_map, List.getElem?_eq_getElem h2] at hd2
      obtain rfl := Option.some.inj hd2
      generalize hyz : zs[G.idxOf y] = z at *
      cases dp2
      exact ⟨p, r, ys, zs, rfl, hs, atI_nat hv, hs2, by rw [ea]; exact atI_nat hv2⟩
end
end S
namespace K06
open PySem PySem.Spec PyProof.Rows L2 Evl J ClX StX S
/-- what is told, as far as it is read -/
structure ToldAt (K : PySem.W.Frag) (H : Hp) (d : Addr) (G : List Str) (J T : List (List Str)) (lo hi : Str) : Prop where
  ex : ∃ (kvs : List (Key × V)) (ln : Addr) (vj vt : V), H d = some (.dK kvs) ∧ valV kvs (Sum.inr "names") = some (.ref ln) ∧ SqL K H ln (G.map V.str) ∧ valV kvs (Sum.inr "joins") = some vj ∧ Dp K H vj (rowsL J) ∧ valV kvs (Sum.inr "products") = some vt ∧ Dp K H vt (rowsL T) ∧
    valV kvs (Sum.inr "low") = some (.str lo) ∧ valV kvs (Sum.inr "high") = some (.str hi)
  gd : Good G J T lo hi
theorem ToldAt.ext {K : PySem.W.Frag} {H H' : Hp} {d : Addr} {G : List Str} {J T : List (List Str)} {lo hi : Str} (h : ToldAt K H d G J T lo hi) (e : Ex H H') : ToldAt K H' d G J T lo hi := by
  obtain ⟨kvs, ln, vj, vt, h1, h2, h3, h4, h5, h6, h7, h8, h9⟩ := h.ex
  exact ⟨⟨kvs, ln, vj, vt, e _ _ h1, h2, ex_l e h3, h4, dp_ext e h5, h6, dp_ext e h7, h8, h9⟩, h.gd⟩
def spLJ (K : PySem.W.Frag) (then_ : Bool) : Sp := fun vs H Q _ => ∃ (d : Addr) (x y : Str) (G : List Str) (J T : List (List Str)) (lo hi : Str), vs = [.ref d, .str x, .str y] ∧ ToldAt K H d G J T lo hi ∧ x ∈ G ∧ y ∈ G ∧ RetV (.str (ap G (if then_ then T else J) x y)) H Q
section
variable {P : Program} {w : World} {K : PySem.W.Frag} {mg : Str → Option Value} {base : Heap} {f : Addr} {fd : FuncData}
abbrev NLj : List Str := ["_law_told_here", "_law_a", "_law_b"]
end
end K06

set_option Elab.async false
set_option linter.all false
set_option maxRecDepth 100000
set_option maxHeartbeats 8000000
/-! S20: _law_table_scale. -/
namespace K06
open PySem PySem.Spec PyProof.Rows L2 Evl J ClX StX S
abbrev sTS : Stmt := topS 49
def spTS (K : PySem.W.Frag) (C : Addr) : Sp := fun vs H Q _ => ∃ (d : Addr) (G : List Str) (J T : List (List Str)) (lo hi : Str), vs = [.ref d] ∧ ToldAt K H d G J T lo hi ∧ ∀ a H', H a = none → Ex H H' → Made K C H' a G J T lo hi → Q (.ref a) H'
section
variable {P : Program} {w : World} {K : PySem.W.Frag} {mg : Str → Option Value} {base : Heap} {f fT C : Addr} {fd fdT : FuncData}
theorem scTS : FnScope ["_law_told_here"] ["_law_told_here"] (defScope sTS) := ⟨rfl, rfl, rfl, by decide +kernel, rfl, by decide +kernel, by decide +kernel⟩
theorem made_read {σ : L2.St} {H : Hp} {t tk : TA} {lg : Addr} {vj vt : V} {G : List Str} {J T : List (List Str)} {lo hi : Str} {Q : VK} (ea : EvA t σ H [.ref lg, vj, vt]) (ek : EvA tk σ H [.str lo, .str hi]) (sg : SqL K H lg (G.map V.str)) (dj : Dp K H vj (rowsL J)) (dt : Dp K H vt (rowsL T)) (gd : Good G J T lo hi)
    (q : ∀ a H', H a = none → Ex H H' → Made K C H' a G J T lo hi → Q (.ref a) H') : tMakeK C 3 2 (spTInit K C) (fun vs zs => vs ++ zs) E0 t tk σ H Q :=
  ea H (Ex.refl H) _ fun H1 e1 => ek H1 e1 _ fun H2 e2 => ⟨rfl, rfl, fun x dx hx hdx ne => by
    have e12 := e1.trans e2
    have ed : Ex H2 (upd (upd H2 dx (.own x)) x (.ins C dx [])) := (Ex.new hdx).trans (Ex.new (by rw [upd_ne (Ne.symm ne)]; exact hx))
    refine ⟨x, dx, lg, vj, vt, G, J, T, lo, hi, rfl, upd_same, ex_l (e12.trans ed) sg, dp_ext (e12.trans ed) dj, dp_ext (e12.trans ed) dt, gd, fun H' b m => ⟨rfl, q x H' (fresh_back e12 hx) (fun c o z => ?_) m⟩⟩
    have z2 := e12 c o z
    exact b c o (ne_of_none z2 hx) (ed c o z2)⟩
theorem ok_ts (F : FnP K "_law_table_scale" sTS f fd) (M : Mk K C fT) (gT : mg "TableScale" = some (.ref C)) (hb : KBn K fdT ["self", "grades", "joins", "products", "none", "nearest"] 4 ["none", "nearest"] (fun us ws => us ++ ws) (fun vs zs => vs ++ zs)) (FT : FnOk P w K mg base CX0 8 fT fdT ["self", "grades", "joins", "products", "none", "nearest"] (spTInit K C)) :
    FnOk P w K mg base CX0 10 f fd ["_law_told_here"] (spTS K C) := by
  refine F.ok scTS (fun vs H Q E h => ?_) (fun cdv A outer s H vs Q E hr h => ?_)
  · obtain ⟨d, G, J, T, lo, hi, rfl, _⟩ := h
    rfl
  · obtain ⟨d, G, J, T, lo, hi, rfl, td, q⟩ := h
    have hu : (A.deeper (envOfC "_law_table_scale" (defScope sTS) s.heap.objs.size f cdv)).units + 1 < cLine := by
      have := hr.un
      omega
    refine ⟨_, pss_one (ps_ret (pe_makeK (n := 3) M FT hr rfl gT hb pass0 (pa_cons (pe_dget hu (pv 0) pe_str (fun _ _ => rfl)) (pa_cons (pe_dget hu (pv 0) pe_str (fun _ _ => rfl)) (pa_cons (pe_dget hu (pv 0) pe_str (fun _ _ => rfl)) pa_nil))) (pk_cons (pe_dget hu (pv 0) pe_str (fun _ _ => rfl)) (pk_cons (pe_dget hu (pv 0) pe_str (fun _ _ => rfl)) pk_nil)))), ?_⟩
    obtain ⟨kvs, ln, vj, vt, h1, h2, h3, h4, h5, h6, h7, h8, h9⟩ := td.ex
    exact made_read (ea_cons (ev_dget (key := Sum.inr "names") (ev_var rfl) ev_c h1 h2) (ea_cons (ev_dget (key := Sum.inr "joins") (ev_var rfl) ev_c h1 h4) (ea_cons (ev_dget (key := Sum.inr "products") (ev_var rfl) ev_c h1 h6) ea_nil)))
      (ea_cons (ev_dget (key := Sum.inr "low") (ev_var rfl) ev_c h1 h8) (ea_cons (ev_dget (key := Sum.inr "high") (ev_var rfl) ev_c h1 h9) ea_nil)) h3 h5 h7 td.gd q
end
end K06

set_option Elab.async false
set_option linter.all false
set_option maxRecDepth 100000
set_option maxHeartbeats 8000000
/-! S21: _law_fails_one. -/
namespace K06
open PySem PySem.Spec PyProof.Rows L2 Evl J ClX StX S
section
variable {P : Program} {w : World} {K : PySem.W.Frag} {mg : Str → Option Value} {base : Heap} {f d : Addr} {fd : FuncData} {σ : L2.St} {H : Hp} {tx ty : TE} {x y lo hi : Str} {G : List Str} {J T : List (List Str)}
theorem ev_lj (h0 : σ[0]? = some (some (.ref d))) (td : ToldAt K H d G J T lo hi) (mx : x ∈ G) (my : y ∈ G) (hx : Ev tx σ H (.str x)) (hy : Ev ty σ H (.str y)) : Ev (tCall (spLJ K false) [] E0 (tCons (tVar 0) (tCons tx (tCons ty tNil)))) σ H (.str (ap G J x y)) :=
  ev_call (ea_cons (ev_var h0) (ea_cons hx (ea_cons hy ea_nil))) fun H1 e Q q E => ⟨d, x, y, G, J, T, lo, hi, rfl, td.ext e, mx, my, q⟩
theorem ev_lt (h0 : σ[0]? = some (some (.ref d))) (td : ToldAt K H d G J T lo hi) (mx : x ∈ G) (my : y ∈ G) (hx : Ev tx σ H (.str x)) (hy : Ev ty σ H (.str y)) : Ev (tCall (spLJ K true) [] E0 (tCons (tVar 0) (tCons tx (tCons ty tNil)))) σ H (.str (ap G T x y)) :=
  ev_call (ea_cons (ev_var h0) (ea_cons hx (ea_cons hy ea_nil))) fun H1 e Q q E => ⟨d, x, y, G, J, T, lo, hi, rfl, td.ext e, mx, my, q⟩
theorem q_par {i j : Nat} {ta : TA} {v u : V} {tz : TS} {D : Ends} (h : EvA ta σ H [v, u]) (k : ∀ H1, Ex H H1 → tz D ((σ.set i (some v)).set j (some u)) H1) : tSeq (tPar i j ta) tz D σ H := h H (Ex.refl H) _ fun H1 e1 => ⟨v, u, rfl, k H1 e1⟩
def spFo (K : PySem.W.Frag) : Sp := fun vs H Q _ => ∃ (d : Addr) (x : Str) (e : Str × Nat × Dem) (G : List Str) (J T : List (List Str)) (lo hi : Str), vs = [.ref d, .str e.1, .str x] ∧ e ∈ demL ∧ e.2.1 = 1 ∧ ToldAt K H d G J T lo hi ∧ x ∈ G ∧ RetV (.bl (!e.2.2 G J T lo hi [x])) H Q
abbrev NFo : List Str := ["_law_told_here", "_law_word", "_law_a", "_law_low", "_law_high"]
end
end K06

set_option Elab.async false
set_option linter.all false
set_option maxRecDepth 100000
set_option maxHeartbeats 8000000
/-! S22: _law_fails. -/
namespace S
open PySem PySem.Spec PyProof.Rows L2 Evl J ClX StX
section
variable {K : PySem.W.Frag} {σ : L2.St} {H : Hp} {te ta tb : TE} {xs ys : List V} {tl th : TO} {lo hi : Option Int}
/-- some tuple of these -/
def EvTu (K : PySem.W.Frag) (te : TE) (σ : L2.St) (H : Hp) (xs : List V) : Prop := ∀ H1, Ex H H1 → ∀ Q : VK, (∀ p H2, Ex H1 H2 → SqT K H2 p xs → Q (.ref p) H2) → te σ H1 Q
theorem tu_var {i : Nat} {t : Addr} (h : σ[i]? = some (some (.ref t))) (st : SqT K H t xs) : EvTu K (tVar i) σ H xs := fun H1 e Q q => ⟨_, h, q t H1 (Ex.refl H1) (ex_t e st)⟩
theorem tu_sl (h : EvTu K te σ H xs) (h1 : EvO tl σ H lo) (h2 : EvO th σ H hi) (hz : xs.length ≤ 1000) : EvTu K (tSl (rSlA K) te tl th) σ H (cutV xs lo hi) := fun H1 e Q q =>
  h H1 e _ fun p H2 e2 st => h1 H2 (e.trans e2) _ fun H3 e3 => h2 H3 ((e.trans e2).trans e3) _ fun H4 e4 => ⟨p, xs, rfl, ex_t (e3.trans e4) st, fun z => by
    have ec : cutV xs lo hi = xs := by
      unfold cutV
      rw [z.1, z.2]
      simp
    exact q p H4 ((e2.trans e3).trans e4) (by rw [ec]; exact ex_t (e3.trans e4) st), fun _ r hr => q r _ (((e2.trans e3).trans e4).trans (Ex.new hr)) (st_of upd_same)⟩
theorem tu_rep {n : Nat} (h : EvTu K te σ H xs) (hx : xs ≠ []) (hz : xs.length ≤ 1000) (hn : 2 ≤ n ∧ n ≤ 1000) : EvTu K (tOp (rRepT K) te (tC (.int (n : Int)))) σ H (List.replicate n xs).flatten := fun H1 e Q q =>
  h H1 e _ fun p H2 e2 st => ⟨p, (n : Int), xs, rfl, rfl, st, hx, by omega, by omega, hz, fun r hr => q r _ (e2.trans (Ex.new hr)) (st_of upd_same)⟩
theorem tu_cat (h : EvTu K ta σ H xs) (h2 : EvTu K tb σ H ys) (hz : xs.length + ys.length ≤ 1000) : EvTu K (tOp (rCatA K) ta tb) σ H (xs ++ ys) := fun H1 e Q q =>
  h H1 e _ fun p H2 e2 st => h2 H2 (e.trans e2) _ fun r H3 e3 st2 => ⟨p, r, xs, ys, rfl, rfl, ex_t e3 st, st2, sz_of (by omega), fun z => q r H3 (e2.trans e3) (by rw [z]; exact st2), fun _ z => q p H3 (e2.trans e3) (by rw [z, List.append_nil]; exact ex_t e3 st),
    fun _ _ u hu => q u _ ((e2.trans e3).trans (Ex.new hu)) (st_of upd_same)⟩
theorem cut_take (n : Nat) : cutV xs none (some (n : Int)) = xs.take n := by
  unfold cutV
  have e : HT.sIx xs.length xs.length (some (n : Int)) = min n xs.length := HT.sIx_nat xs.length xs.length n
  have e2 : HT.sIx xs.length 0 none = 0 := rfl
  rw [e, e2, Nat.sub_zero, List.drop_zero]
  by_cases h : n ≤ xs.length
  · rw [Nat.min_eq_left h]
  · rw [Nat.min_eq_right (by omega), List.take_of_length_le (by omega), List.take_of_length_le (by omega)]
/-- .. bound to three names -/
theorem q_tup3 {i j k : Nat} {u v w : V} {tz : TS} {D : Ends} (h : EvTu K te σ H [u, v, w]) (n : ∀ H1, Ex H H1 → tz D (((σ.set i (some u)).set j (some v)).set k (some w)) H1) : tSeq (tAsg te (gTup K 3 (gCons (gName i) (gCons (gName j) (gCons (gName k) gNil))))) tz D σ H :=
  h H (Ex.refl H) _ fun p H2 e2 st => ⟨p, _, rfl, st, rfl, _, _, rfl, _, _, rfl, _, _, rfl, rfl, n H2 e2⟩
end
end S
namespace K06
open PySem PySem.Spec PyProof.Rows L2 Evl J ClX StX S
def spFa (K : PySem.W.Frag) : Sp := fun vs H Q _ => ∃ (d t : Addr) (row : List Str) (e : Str × Nat × Dem) (G : List Str) (J T : List (List Str)) (lo hi : Str), vs = [.ref d, .str e.1, .ref t] ∧ e ∈ demL ∧ e.2.1 ≠ 1 ∧ row.length = e.2.1 ∧ SqT K H t (row.map V.str) ∧ (∀ x ∈ row, x ∈ G) ∧ ToldAt K H d G J T lo hi ∧ RetV (.bl (!e.2.2 G J T lo hi row)) H Q
section
variable {P : Program} {w : World} {K : PySem.W.Frag} {mg : Str → Option Value} {base : Heap} {f d : Addr} {fd : FuncData}
abbrev NFa : List Str := ["_law_told_here", "_law_word", "_law_row", "_law_a", "_law_b", "_law_c", "_law_due"]
end
end K06

set_option Elab.async false
set_option linter.all false
set_option maxRecDepth 100000
set_option maxHeartbeats 8000000
/-! S23: _law_rows_of. -/
namespace K06
open PySem PySem.Spec PyProof.Rows L2 Evl J ClX StX S
theorem RowsAt.app {H : Hp} {a1 a2 : List V} {R1 R2 : List (List Str)} (h1 : RowsAt H a1 R1) (h2 : RowsAt H a2 R2) : RowsAt H (a1 ++ a2) (R1 ++ R2) := by
  refine ⟨by rw [List.length_append, List.length_append, h1.1, h2.1], fun n r e => ?_⟩
  by_cases hn : n < R1.length
  · rw [List.getElem?_append_left hn] at e
    obtain ⟨t, q1, q2⟩ := h1.2 n r e
    exact ⟨t, by rw [List.getElem?_append_left (by rw [h1.1]; exact hn)]; exact q1, q2⟩
  · rw [List.getElem?_append_right (by omega)] at e
    obtain ⟨t, q1, q2⟩ := h2.2 _ r e
    exact ⟨t, by rw [List.getElem?_append_right (by rw [h1.1]; omega), h1.1]; exact q1, q2⟩
section
variable {P : Program} {w : World} {K : PySem.W.Frag} {mg : Str → Option Value} {base : Heap} {f : Addr} {fd : FuncData}
abbrev teR (K : PySem.W.Frag) : TE := tOp (rCatA K) (tVar 5) (tTup (tCons (tVar 6) tNil))
theorem lc_ext {lg t : Addr} {x1 x2 x3 x4 x6 : Option V} {r G : List Str} {H : Hp} {Q : VK} (sg : SqL K H lg (G.map V.str)) (ht : H t = some (.tup (r.map V.str))) (hz : G.length ≤ 100) (hr : r.length ≤ 100)
    (k : ∀ D H2 acc, H D = none → Ex H H2 → H2 D = some (.lst acc) → RowsAt H2 acc (ext1 G r) → Q (.ref D) H2) : tLc (iList K (tVar 0)) (gName 6) tYes (teR K) [6] [some (.ref lg), x1, x2, x3, x4, some (.ref t), x6] H Q := by
  refine ⟨.ref lg, rfl, lg, rfl, ⟨_, sg⟩, fun D hD => ?_⟩
  refine lc_list (xs := G.map V.str) (fun i H' => Ex H H' ∧ ∃ acc, H' D = some (.lst acc) ∧ RowsAt H' acc ((G.take i).map fun g => r ++ [g])) ⟨Ex.new hD, [], upd_same, rfl, fun n r e => by simp at e⟩ (fun i H' _ p => ex_l p.1 sg) (fun i x H' hi p => ⟨rfl, ?_⟩) (fun H' ⟨e, acc, h1, h2⟩ => k D H' acc hD e h1 (by rw [List.length_map, List.take_length] at h2; exact h2))
  obtain ⟨e1, acc, h1, h2⟩ := p
  rw [List.getElem?_map] at hi
  cases hg : G[i]? with
  | none =>
    rw [hg] at hi
    cases hi
  | some g =>
    rw [hg] at hi
    obtain rfl := Option.some.inj hi
    have gl : i < G.length := (List.getElem?_eq_some_iff.mp hg).1
    unfold tYes
    dsimp only
    rw [if_pos rfl]
    have al : acc.length ≤ 100 := by
      rw [h2.1, List.length_map, List.length_take]
      omega
    have step : (G.take (i + 1)).map (fun g => r ++ [g]) = (G.take i).map (fun g => r ++ [g]) ++ [r ++ [g]] := by
      rw [List.take_add_one, hg, List.map_append]
      rfl
    refine ⟨.ref t, rfl, .str g, rfl, sz_of (by simp), fun p hp => ?_⟩
    have pD : D ≠ p := fun z => by
      rw [← z, h1] at hp
      cases hp
    have t2 : (upd H' p (.tup [.str g])) t = some (.tup (r.map V.str)) := (Ex.new hp) _ _ (e1 _ _ ht)
    have fin : ∀ (H2 : Hp) (q : Addr), Ex H' H2 → H2 q = some (.tup ((r ++ [g]).map V.str)) → D ≠ q → ∃ acc, H2 D = some (.lst acc) ∧ acc.length < sizeLine ∧ Ex H (upd H2 D (.lst (acc ++ [.ref q]))) ∧ ∃ acc2, (upd H2 D (.lst (acc ++ [.ref q]))) D = some (.lst acc2) ∧ RowsAt (upd H2 D (.lst (acc ++ [.ref q]))) acc2 ((G.take (i + 1)).map fun g => r ++ [g]) := fun H2 q e2 hq hDq =>
      ⟨acc, e2 _ _ h1, sz_lt (by omega), Ex.mut (e1.trans e2) hD, _, upd_same, by
        rw [step]
        refine RowsAt.snoc (h2.keep fun t3 xs h3 => ?_) (by rw [upd_ne (Ne.symm hDq)]; exact hq)
        have d1 : t3 ≠ D := fun z => by
          rw [z, h1] at h3
          cases h3
        rw [upd_ne d1]
        exact e2 _ _ h3⟩
    refine ⟨t, p, _, _, rfl, rfl, st_of t2, st_of upd_same, sz_of (by simp; omega), fun z => ?_, fun _ z => by simp at z, fun _ _ q hq => ?_⟩
    · have hr0 : r = [] := by simpa using z
      subst hr0
      exact fin _ p (Ex.new hp) upd_same pD
    · have qD : D ≠ q := fun z => by
        have := (Ex.new (o := .tup [.str g]) hp) _ _ h1
        rw [z, hq] at this
        cases this
      exact fin _ q ((Ex.new hp).trans (Ex.new hq)) (by rw [upd_same, List.map_append]; rfl) qD
abbrev NRo : List Str := ["_law_names", "_law_many", "_law_found", "_law_lap", "_law_longer", "_law_row", "_law_name"]
end
end K06

set_option Elab.async false
set_option linter.all false
set_option maxRecDepth 100000
set_option maxHeartbeats 8000000
/-! S24: _law_first. -/
namespace K06
open PySem PySem.Spec PyProof.Rows L2 Evl J ClX StX S
/-- tuples of these, one behind another -/
def TupsAt (H : Hp) (acc : List V) (Rs : List (List V)) : Prop := acc.length = Rs.length ∧ ∀ (n : Nat) r, Rs[n]? = some r → ∃ t, acc[n]? = some (.ref t) ∧ H t = some (.tup r)
theorem TupsAt.ext {H H' : Hp} {acc : List V} {Rs : List (List V)} (h : TupsAt H acc Rs) (e : Ex H H') : TupsAt H' acc Rs := ⟨h.1, fun n r z => by
  obtain ⟨t, h1, h2⟩ := h.2 n r z
  exact ⟨t, h1, e _ _ h2⟩⟩
theorem TupsAt.app {H : Hp} {a1 a2 : List V} {R1 R2 : List (List V)} (h1 : TupsAt H a1 R1) (h2 : TupsAt H a2 R2) : TupsAt H (a1 ++ a2) (R1 ++ R2) := by
  refine ⟨by rw [List.length_append, List.length_append, h1.1, h2.1], fun n r e => ?_⟩
  by_cases hn : n < R1.length
  · rw [List.getElem?_append_left hn] at e
    obtain ⟨t, q1, q2⟩ := h1.2 n r e
    exact ⟨t, by rw [List.getElem?_append_left (by rw [h1.1]; exact hn)]; exact q1, q2⟩
  · rw [List.getElem?_append_right (by omega)] at e
    obtain ⟨t, q1, q2⟩ := h2.2 _ r e
    exact ⟨t, by rw [List.getElem?_append_right (by rw [h1.1]; omega), h1.1]; exact q1, q2⟩
def EvTA (ta : TA) (σ : L2.St) (H : Hp) (Rs : List (List V)) : Prop := ∀ H1, Ex H H1 → ∀ Q : List V → Hp → Prop, (∀ vs H2, Ex H1 H2 → TupsAt H2 vs Rs → Q vs H2) → ta σ H1 Q
def EvTL (te : TE) (σ : L2.St) (H : Hp) (Rs : List (List V)) : Prop := ∀ H1, Ex H H1 → ∀ Q : VK, (∀ p acc H2, H1 p = none → Ex H1 H2 → H2 p = some (.lst acc) → TupsAt H2 acc Rs → Q (.ref p) H2) → te σ H1 Q
section
variable {K : PySem.W.Frag} {σ : L2.St} {H : Hp} {tr ta : TA} {te tb : TE} {r : List V} {Rs Ss : List (List V)}
theorem ta_nil : EvTA tNil σ H [] := fun H1 _ Q q => q [] H1 (Ex.refl H1) ⟨rfl, fun n r e => by simp at e⟩
theorem ta_cons (h : EvA tr σ H r) (hz : r.length ≤ 1000) (h2 : EvTA ta σ H Rs) : EvTA (tCons (tTup tr) ta) σ H (r :: Rs) := fun H1 e Q q =>
  h H1 e _ fun H2 e2 => ⟨sz_of (by omega), fun p hp => h2 _ ((e.trans e2).trans (Ex.new hp)) _ fun vs H3 e3 t3 => q (.ref p :: vs) H3 ((e2.trans (Ex.new hp)).trans e3) ⟨by simp [t3.1], fun n r2 z => by
    match n, z with
    | 0, z =>
      obtain rfl := Option.some.inj z
      exact ⟨p, rfl, e3 _ _ upd_same⟩
    | n + 1, z => exact t3.2 n r2 z⟩⟩
theorem tl_lst (h : EvTA ta σ H Rs) (hz : Rs.length ≤ 1000) : EvTL (tLst ta) σ H Rs := fun H1 e Q q =>
  h H1 e _ fun vs H2 e2 t2 => ⟨sz_of (by rw [t2.1]; omega), fun p hp => q p vs _ (fresh_back e2 hp) (e2.trans (Ex.new hp)) upd_same (t2.ext (Ex.new hp))⟩
theorem tl_cat {l : Addr} {acc : List V} {tx : TE} (h : Ev tx σ H (.ref l)) (hl : H l = some (.lst acc)) (t1 : TupsAt H acc Rs) (h2 : EvTL tb σ H Ss) (hz : Rs.length + Ss.length ≤ 1000) : EvTL (tOp rCat tx tb) σ H (Rs ++ Ss) := fun H1 e Q q =>
  h H1 e _ fun H2 e2 => h2 H2 (e.trans e2) _ fun p acc2 H3 n3 e3 h3 t3 => ⟨l, p, acc, acc2, rfl, rfl, e3 _ _ (e2 _ _ (e _ _ hl)), h3, sz_of (by rw [t1.1, t3.1]; omega), fun u hu => q u _ _ (fresh_back (e2.trans e3) hu) ((e2.trans e3).trans (Ex.new hu)) upd_same (((t1.ext ((e.trans e2).trans e3)).app t3).ext (Ex.new hu))⟩
theorem q_asgTL {i : Nat} {tz : TS} {D : Ends} (h : EvTL te σ H Rs) (k : ∀ p acc H1, H p = none → Ex H H1 → H1 p = some (.lst acc) → TupsAt H1 acc Rs → tz D (σ.set i (some (.ref p))) H1) : tSeq (tAsg te (gName i)) tz D σ H := h H (Ex.refl H) _ k
theorem s_forTups2 {D : Ends} {tu : TS} {tg : TE} {n j i : Nat} {ln : Addr} {G : List Str} (GL : Ev tg σ H (.ref ln)) (sg : SqL K H ln (G.map V.str)) (hc : σ[j]? = some (some (.int (n : Int)))) (hn : n ≤ 3) (hz : G.length ≤ 8)
    (k : ∀ p acc H1, H p = none → Ex H H1 → H1 p = some (.lst acc) → RowsAt H1 acc (tups G n) → ∃ Pv : Nat → L2.St → Hp → Prop, Pv 0 σ H1 ∧ (∀ i σ' H', i ≤ acc.length → Pv i σ' H' → SqL K H' p acc) ∧
      (∀ m x σ' H', acc[m]? = some x → Pv m σ' H' → tu { D with nx := Pv (m + 1), ct := Pv (m + 1), bk := D.nx } (σ'.set i (some x)) H') ∧ ∀ σ' H', Pv acc.length σ' H' → D.nx σ' H') :
    tFor (iList K (tCall (spTups K) [] E0 (tCons tg (tCons (tVar j) tNil)))) (gName i) tu D σ H :=
  GL H (Ex.refl H) _ fun H1 e1 => ⟨_, hc, ln, G, n, rfl, ex_l e1 sg, hn, hz, fun p H2 acc n2 e2 h2 r2 => by
    obtain ⟨Pv, k0, k1, k2, k3⟩ := k p acc H2 (fresh_back e1 n2) (e1.trans e2) h2 r2
    exact ⟨p, rfl, ⟨acc, sq_of h2⟩, for_list Pv k0 k1 k2 k3⟩⟩
end
def spFirst (K : PySem.W.Frag) : Sp := fun vs H Q _ => ∃ (d : Addr) (G : List Str) (J T : List (List Str)) (lo hi : Str), vs = [.ref d] ∧ ToldAt K H d G J T lo hi ∧ ∀ v H', Ex H H' → Dp K H' v (faultD (fault G J T lo hi)) → Q v H'
section
variable {P : Program} {w : World} {K : PySem.W.Frag} {mg : Str → Option Value} {base : Heap} {f : Addr} {fd : FuncData}
abbrev NFi : List Str := ["_law_told_here", "_law_words", "_law_word", "_law_many", "_law_row", "_law_fails_here"]
abbrev pT : Prop := True
end
end K06

set_option Elab.async false
set_option linter.all false
set_option maxRecDepth 100000
set_option maxHeartbeats 8000000
/-! S25: tables of places: _law_levels. -/
namespace S
open PySem PySem.Spec PyProof.Rows L2 Evl J ClX StX
section
variable {K : PySem.W.Frag} {σ : L2.St} {B H : Hp} {te : TE} {tr : TA} {d : PyData} {es : List PyData}
theorem qd_lst (h : EvQL K te σ B es) : EvQ K te σ B (.list es) := fun H1 e Q q =>
  h H1 e _ fun p ys H2 hp e2 h2 da => q (.ref p) H2 e2 (.lst (xs := ys) (sq_of (by rw [rst_in (.inr hp)]; exact h2)) da)
def EvQA (K : PySem.W.Frag) (ta : TA) (σ : L2.St) (B : Hp) (es : List PyData) : Prop := ∀ H1, Ex B H1 → ∀ Q : List V → Hp → Prop, (∀ vs H2, Ex H1 H2 → DpAll K (rst B H1 H2) vs es → Q vs H2) → ta σ H1 Q
theorem qa_nil : EvQA K tNil σ B [] := fun H1 _ Q q => q [] H1 (Ex.refl H1) .nil
theorem qa_cons (h : EvQ K te σ B d) (hr : EvQA K tr σ B es) : EvQA K (tCons te tr) σ B (d :: es) := fun H1 e Q q =>
  h H1 e _ fun v H2 e2 dq => hr H2 (e.trans e2) _ fun vs H3 e3 da => q (v :: vs) H3 (e2.trans e3) (.cons (dq.ext e3) (dpa_ext (rst_mono (fun b z => fresh_back e2 z) fun b o _ z => z) da))
theorem qd_tupN (h : EvQA K tr σ B es) (hz : es.length ≤ 1000) : EvQ K (tTup tr) σ B (.tuple es) := fun H1 e Q q =>
  h H1 e _ fun vs H2 e2 da => ⟨by rw [dpa_len da]; exact sz_of (by omega), fun p hp => q (.ref p) _ (e2.trans (Ex.new hp)) (.tup (xs := vs) (st_of (by rw [rst_in (.inr (fresh_back e2 hp)), upd_same])) (dpa_ext (rst_mono (fun b z => z) fun b o _ z => (Ex.new hp) b o z) da))⟩
theorem qd_i {i : Int} : EvQ K (tC (.int i)) σ B (.int i) := qd_ev ev_c (.int i)
end
end S
namespace K06
open PySem PySem.Spec PyProof.Rows L2 Evl J ClX StX S
theorem el_rg {σ : L2.St} {H : Hp} {te : TE} {n : Nat} (h : Ev te σ H (.int (n : Int))) (hz : n ≤ 10000) : EvL (tLstRg (tRg1 te)) σ H ((List.range n).map fun i : Nat => V.int (i : Int)) := fun H1 e Q q =>
  h H1 e _ fun H2 e2 => ⟨(n : Int), rfl, RgOk.of_le (by omega) (by omega) (by omega) (by omega), fun p hp => q p _ (fresh_back e2 hp) (e2.trans (Ex.new hp)) (by
    rw [upd_same]
    unfold rgV
    have z : ((n : Int) - 0).toNat = n := by omega
    rw [z]
    congr 2
    apply List.map_congr_left
    intro i _
    simp)⟩
theorem ev_min2 {σ : L2.St} {H : Hp} {ta tb : TE} {i j : Int} (ha : Ev ta σ H (.int i)) (hb : Ev tb σ H (.int j)) : Ev (tCB (fun xs H Q => ∃ i j, xs = [.int i, .int j] ∧ Q (.int (if j < i then j else i)) H) (tCons ta (tCons tb tNil))) σ H (.int (if j < i then j else i)) := fun H1 e Q q =>
  ha H1 e _ fun H2 e2 => hb H2 (e.trans e2) _ fun H3 e3 => ⟨i, j, rfl, q H3 (e2.trans e3)⟩
abbrev sLv : Stmt := topS 44
/-- tables of places as data -/
def tabI (F : Nat → Nat → Int) (n : Nat) : PyData := .list ((List.range n).map fun a => .list ((List.range n).map fun b => .int (F a b)))
def spLv (K : PySem.W.Frag) : Sp := fun vs H Q _ => ∃ t : Nat, vs = [.int (t : Int)] ∧ t ≤ 100 ∧ ∀ v H', Ex H H' → Dp K H' v (.tuple [tabI (fun a b => (max a b : Nat)) (t + 1), tabI (fun a b => (min a b : Nat)) (t + 1), .int 0, .int (t : Int)]) → Q v H'
section
variable {P : Program} {w : World} {K : PySem.W.Frag} {mg : Str → Option Value} {base : Heap} {f : Addr} {fd : FuncData}
abbrev NLv : List Str := ["_law_top", "_law_every", "_law_a", "_law_b"]
theorem scLv : FnScope NLv ["_law_top"] (defScope sLv) := ⟨rfl, rfl, rfl, by decide +kernel, rfl, by decide +kernel, by decide +kernel⟩
abbrev rMin2 : List V → Hp → VK → Prop := fun xs H Q => ∃ i j, xs = [.int i, .int j] ∧ Q (.int (if j < i then j else i)) H
/-- further names left to Python -/
structure Bl3 (mg : Str → Option Value) : Prop where
  max : mg "max" = none
  min : mg "min" = none
  sum : mg "sum" = none
theorem ok_lv (F : FnP K "_law_levels" sLv f fd) (T : Bl mg) (T3 : Bl3 mg) : FnOk P w K mg base CX0 1 f fd ["_law_top"] (spLv K) := by
  refine F.ok scLv (fun vs H Q E h => ?_) (fun cdv A outer s H vs Q E hr h => ?_)
  · obtain ⟨t, rfl, _⟩ := h
    rfl
  · obtain ⟨t, rfl, ht, q⟩ := h
    refine ⟨_, pss_cons (ps_set (i := 1) scLv.nd rfl (Or.inr rfl) (pe_listRg rfl rfl T.lst (prg_1 rfl T.rng (pe_op op_add (pv 0) pe_int))))
      (pss_one (ps_ret (pe_tup (pa_cons (pe_lc (own := [("_law_a", 2)]) (g := gName 2) (tt := tYes) (te := tLc (iList K (tVar 1)) (gName 3) tYes (tCB rMax2 (tCons (tVar 2) (tCons (tVar 3) tNil))) [3]) rfl scLv.nd (pi_list (pv 1)) (blkOk_by (N := NLv) (sc := defScope sLv) (by decide +kernel)) (fun _ _ _ _ _ => pg_name (i := 2) scLv.nd rfl (Or.inr rfl)) (fun _ _ _ _ _ => pts_nil)
          (fun _ _ _ _ _ => by exact pe_lc (own := [("_law_b", 3)]) (g := gName 3) (tt := tYes) (wi := iList K (tVar 1)) rfl scLv.nd (pi_list (pv 1)) (blkOk_by (N := NLv) (by rfl)) (fun _ _ _ _ _ => pg_name (i := 3) scLv.nd rfl (Or.inl rfl)) (fun _ _ _ _ _ => pts_nil) (fun _ _ _ _ _ => pe_callB (call_max2 rfl) (by rfl) T3.max Boot.«max» (pa_cons (pv 2) (pa_cons (pv 3) pa_nil)))))
        (pa_cons (pe_lc (own := [("_law_a", 2)]) (g := gName 2) (tt := tYes) (te := tLc (iList K (tVar 1)) (gName 3) tYes (tCB rMin2 (tCons (tVar 2) (tCons (tVar 3) tNil))) [3]) rfl scLv.nd (pi_list (pv 1)) (blkOk_by (N := NLv) (sc := defScope sLv) (by decide +kernel)) (fun _ _ _ _ _ => pg_name (i := 2) scLv.nd rfl (Or.inr rfl)) (fun _ _ _ _ _ => pts_nil)
          (fun _ _ _ _ _ => by exact pe_lc (own := [("_law_b", 3)]) (g := gName 3) (tt := tYes) (wi := iList K (tVar 1)) rfl scLv.nd (pi_list (pv 1)) (blkOk_by (N := NLv) (by rfl)) (fun _ _ _ _ _ => pg_name (i := 3) scLv.nd rfl (Or.inl rfl)) (fun _ _ _ _ _ => pts_nil) (fun _ _ _ _ _ => pe_callB (call_min2 rfl) (by rfl) T3.min Boot.«min» (pa_cons (pv 2) (pa_cons (pv 3) pa_nil)))))
        (pa_cons pe_int (pa_cons (pv 0) pa_nil))))))), ?_⟩
    refine q_asgL (el_rg (n := t + 1) (ev_is (ev_op (ev_var rfl) ev_c rv_I0) (by simp)) (by omega)) fun p H1 n1 e1 h1 => ?_
    have main : EvQ K (tTup (tCons (tLc (iList K (tVar 1)) (gName 2) tYes (tLc (iList K (tVar 1)) (gName 3) tYes (tCB rMax2 (tCons (tVar 2) (tCons (tVar 3) tNil))) [3]) [2]) (tCons (tLc (iList K (tVar 1)) (gName 2) tYes (tLc (iList K (tVar 1)) (gName 3) tYes (tCB rMin2 (tCons (tVar 2) (tCons (tVar 3) tNil))) [3]) [2]) (tCons (tC (.int 0)) (tCons (tVar 0) tNil))))) [some (.int (t : Int)), some (.ref p), none, none] H1
        (.tuple [tabI (fun a b => (max a b : Nat)) (t + 1), tabI (fun a b => (min a b : Nat)) (t + 1), .int 0, .int (t : Int)]) :=
      qd_tupN (qa_cons (qd_lst (qd_map (g := fun i : Nat => V.int (i : Int)) (xs := List.range (t + 1)) (ev_var rfl) (sq_of h1) (by simp; omega) (fun x => rfl) fun a _ => qd_lst (qd_map (g := fun i : Nat => V.int (i : Int)) (xs := List.range (t + 1)) (ev_var rfl) (sq_of h1) (by simp; omega) (fun x => rfl) fun b _ => qd_ev (ev_is (ev_max2 (ev_var rfl) (ev_var rfl)) (by congr 1; dsimp only; split <;> omega)) (.int _))))
        (qa_cons (qd_lst (qd_map (g := fun i : Nat => V.int (i : Int)) (xs := List.range (t + 1)) (ev_var rfl) (sq_of h1) (by simp; omega) (fun x => rfl) fun a _ => qd_lst (qd_map (g := fun i : Nat => V.int (i : Int)) (xs := List.range (t + 1)) (ev_var rfl) (sq_of h1) (by simp; omega) (fun x => rfl) fun b _ => qd_ev (ev_is (ev_min2 (ev_var rfl) (ev_var rfl)) (by congr 1; dsimp only; split <;> omega)) (.int _))))
        (qa_cons qd_i (qa_cons (qd_ev (ev_var rfl) (.int _)) qa_nil)))) (by simp)
    exact main H1 (Ex.refl H1) _ fun v H2 e2 dq => q v H2 (e1.trans e2) dq.dp
end
end K06

set_option Elab.async false
set_option linter.all false
set_option maxRecDepth 100000
set_option maxHeartbeats 8000000
/-! S26: _law_odd. -/
namespace S
open PySem PySem.Spec PyProof.Rows L2 Evl J ClX StX
section
variable {K : PySem.W.Frag} {σ : L2.St} {B H : Hp} {te : TE} {tr ta : TA} {d : PyData} {es : List PyData} {vs : List Nat} {j n : Nat}
theorem qd_lstL (h : EvQA K tr σ B es) (hz : es.length ≤ 1000) : EvQ K (tLst tr) σ B (.list es) := fun H1 e Q q =>
  h H1 e _ fun vs H2 e2 da => ⟨by rw [dpa_len da]; exact sz_of (by omega), fun p hp => q (.ref p) _ (e2.trans (Ex.new hp)) (.lst (xs := vs) (sq_of (by rw [rst_in (.inr (fresh_back e2 hp)), upd_same])) (dpa_ext (rst_mono (fun b z => z) fun b o _ z => (Ex.new hp) b o z) da))⟩
theorem qd_rng {F : Nat → PyData} (hn : EvA ta σ B [.int (n : Int)]) (hz : n ≤ 1000) (hw : ∀ x, wipe ((wipe σ vs).set j (some x)) vs = wipe σ vs) (el : ∀ i : Nat, i < n → EvQ K te ((wipe σ vs).set j (some (.int (i : Int)))) B (F i)) :
    EvQL K (tLc (iRng1 ta) (gName j) tYes te vs) σ B ((List.range n).map F) := fun H1 eB Q k =>
  K06.lc_rng (hn.mono eB) (by omega) fun D H0 e0 hD => by
    refine ⟨Lg K ((List.range n).map F) B H0 D, lg_start hD, fun i H2 hi g => ⟨hw _, ?_⟩, fun H2 g => ?_⟩
    · have h1 : ((List.range n).map F)[i]? = some (F i) := by rw [List.getElem?_map, List.getElem?_range hi]; rfl
      refine el i hi H2 ((eB.trans e0).trans g.2.1) _ fun y H3 e3 dq => ?_
      exact lg_step (eB.trans e0) g (by omega) e3 h1 dq
    · have g2 : Lg K ((List.range n).map F) B H0 D ((List.range n).map F).length H2 := by
        have e : ((List.range n).map F).length = n := by simp
        rw [e]
        exact g
      obtain ⟨ys, h1, h2⟩ := lg_end (eB.trans e0) g2
      exact k D ys H2 (fresh_back e0 hD) (e0.trans g.2.1) h1 (dpa_ext (rst_mono (fun b z => fresh_back e0 z) fun b o _ z => z) h2)
theorem q_asgQL {i : Nat} {tz : TS} {E : Ends} (h : EvQL K te σ H es) (k : ∀ p ys H1, H p = none → Ex H H1 → H1 p = some (.lst ys) → DpAll K H1 ys es → tz E (σ.set i (some (.ref p))) H1) : tSeq (tAsg te (gName i)) tz E σ H :=
  h H (Ex.refl H) _ fun p ys H1 hp e h1 da => k p ys H1 hp e h1 (dpa_ext rst_ex da)
end
end S
namespace K06
open PySem PySem.Spec PyProof.Rows L2 Evl J ClX StX S
abbrev sOd : Stmt := topS 46
def oddD : Nat → PyData
  | 0 => .tuple [.list [.list [.int 0, .int 1, .int 2], .list [.int 1, .int 1, .int 2], .list [.int 2, .int 2, .int 2]], .list [.list [.int 0, .int 0, .int 0], .list [.int 0, .int 0, .int 1], .list [.int 0, .int 1, .int 2]], .int 0, .int 2]
  | 1 => .tuple [tabI (fun a b => (max a b : Nat)) 4, .list [.list [.int 0, .int 0, .int 0, .int 0], .list [.int 0, .int 0, .int 0, .int 1], .list [.int 0, .int 0, .int 1, .int 2], .list [.int 0, .int 1, .int 2, .int 3]], .int 0, .int 3]
  | _ => .tuple [.list [.list [.int 0]], .list [.list [.int 0]], .int 0, .int 0]
def spOd (K : PySem.W.Frag) : Sp := fun vs H Q _ => ∃ k : Nat, vs = [.int (k : Int)] ∧ k ≤ 2 ∧ ∀ v H', Ex H H' → Dp K H' v (oddD k) → Q v H'
section
variable {P : Program} {w : World} {K : PySem.W.Frag} {mg : Str → Option Value} {base : Heap} {f : Addr} {fd : FuncData}
abbrev NOd : List Str := ["_law_k", "_law_joins", "_law_a", "_law_b"]
theorem scOd : FnScope NOd ["_law_k"] (defScope sOd) := ⟨rfl, rfl, rfl, by decide +kernel, rfl, by decide +kernel, by decide +kernel⟩
theorem s_retQ {te : TE} {σ : L2.St} {H : Hp} {D : Ends} {d : PyData} (h : EvQ K te σ H d) (k : ∀ v H1, Ex H H1 → Dp K H1 v d → D.rt v H1) : tRet te D σ H := h H (Ex.refl H) _ fun v H1 e dq => k v H1 e dq.dp
theorem ok_od (F : FnP K "_law_odd" sOd f fd) (T : Bl mg) (T3 : Bl3 mg) : FnOk P w K mg base CX0 1 f fd ["_law_k"] (spOd K) := by
  refine F.ok scOd (fun vs H Q E h => ?_) (fun cdv A outer s H vs Q E hr h => ?_)
  · obtain ⟨k, rfl, _⟩ := h
    rfl
  · obtain ⟨k, rfl, hk, q⟩ := h
    refine ⟨_, pss_cons (ps_if (pt_cmpR op_eq (pv 0) pe_int (nomark _)) (pss_one (ps_ret (pe_tup (pa_cons (pe_lst (pa_cons (pe_lst (pa_cons (pe_int) (pa_cons (pe_int) (pa_cons (pe_int) pa_nil)))) (pa_cons (pe_lst (pa_cons (pe_int) (pa_cons (pe_int) (pa_cons (pe_int) pa_nil)))) (pa_cons (pe_lst (pa_cons (pe_int) (pa_cons (pe_int) (pa_cons (pe_int) pa_nil)))) pa_nil)))) (pa_cons (pe_lst (pa_cons (pe_lst (pa_cons (pe_int) (pa_cons (pe_int) (pa_cons (pe_int) pa_nil)))) (pa_cons (pe_lst (pa_cons (pe_int) (pa_cons (pe_int) (pa_cons (pe_int) pa_nil)))) (pa_cons (pe_lst (pa_cons (pe_int) (pa_cons (pe_int) (pa_cons (pe_int) pa_nil)))) pa_nil)))) (pa_cons (pe_int) (pa_cons (pe_int) pa_nil))))))) pss_nil)
      (pss_cons (ps_if (pt_cmpR op_eq (pv 0) pe_int (nomark _)) (pss_cons (ps_setLc (i := 1) (own := [("_law_a", 2)]) (g := gName 2) (tt := tYes) (te := tLc (iRng1 (tCons (tC (.int 4)) tNil)) (gName 3) tYes (tCB rMax2 (tCons (tVar 2) (tCons (tVar 3) tNil))) [3]) rfl scOd.nd rfl rfl rfl (pi_range1 rfl T.rng (pa_cons pe_int pa_nil)) (blkOk_by (N := NOd) (sc := defScope sOd) (by decide +kernel)) (fun _ _ _ _ _ => pg_name (i := 2) scOd.nd rfl (Or.inr rfl)) (fun _ _ _ _ _ => pts_nil)
          (fun _ _ _ _ _ => by exact pe_lc (own := [("_law_b", 3)]) (g := gName 3) (tt := tYes) rfl scOd.nd (pi_range1 rfl T.rng (pa_cons pe_int pa_nil)) (blkOk_by (N := NOd) (by rfl)) (fun _ _ _ _ _ => pg_name (i := 3) scOd.nd rfl (Or.inl rfl)) (fun _ _ _ _ _ => pts_nil) (fun _ _ _ _ _ => pe_callB (call_max2 rfl) (by rfl) T3.max Boot.«max» (pa_cons (pv 2) (pa_cons (pv 3) pa_nil)))))
        (pss_one (ps_ret (pe_tup (pa_cons (pv 1) (pa_cons (pe_lst (pa_cons (pe_lst (pa_cons (pe_int) (pa_cons (pe_int) (pa_cons (pe_int) (pa_cons (pe_int) pa_nil))))) (pa_cons (pe_lst (pa_cons (pe_int) (pa_cons (pe_int) (pa_cons (pe_int) (pa_cons (pe_int) pa_nil))))) (pa_cons (pe_lst (pa_cons (pe_int) (pa_cons (pe_int) (pa_cons (pe_int) (pa_cons (pe_int) pa_nil))))) (pa_cons (pe_lst (pa_cons (pe_int) (pa_cons (pe_int) (pa_cons (pe_int) (pa_cons (pe_int) pa_nil))))) pa_nil))))) (pa_cons (pe_int) (pa_cons (pe_int) pa_nil)))))))) pss_nil) (pss_one (ps_ret (pe_tup (pa_cons (pe_lst (pa_cons (pe_lst (pa_cons (pe_int) pa_nil)) pa_nil)) (pa_cons (pe_lst (pa_cons (pe_lst (pa_cons (pe_int) pa_nil)) pa_nil)) (pa_cons (pe_int) (pa_cons (pe_int) pa_nil)))))))), ?_⟩
    match k, hk, q with
    | 0, _, q =>
      refine q_when (b := true) (et_is (et_test (ev_op (ev_var rfl) ev_c (rv_eq rfl))) (by simp)) (fun _ H1 e1 => ?_) (fun z => nomatch z)
      exact s_retQ (K := K) (d := oddD 0) (qd_tupN (qa_cons (qd_lstL (qa_cons (qd_lstL (qa_cons (qd_i) (qa_cons (qd_i) (qa_cons (qd_i) qa_nil))) (by simp)) (qa_cons (qd_lstL (qa_cons (qd_i) (qa_cons (qd_i) (qa_cons (qd_i) qa_nil))) (by simp)) (qa_cons (qd_lstL (qa_cons (qd_i) (qa_cons (qd_i) (qa_cons (qd_i) qa_nil))) (by simp)) qa_nil))) (by simp)) (qa_cons (qd_lstL (qa_cons (qd_lstL (qa_cons (qd_i) (qa_cons (qd_i) (qa_cons (qd_i) qa_nil))) (by simp)) (qa_cons (qd_lstL (qa_cons (qd_i) (qa_cons (qd_i) (qa_cons (qd_i) qa_nil))) (by simp)) (qa_cons (qd_lstL (qa_cons (qd_i) (qa_cons (qd_i) (qa_cons (qd_i) qa_nil))) (by simp)) qa_nil))) (by simp)) (qa_cons (qd_i) (qa_cons (qd_i) qa_nil)))) (by simp)) fun v H2 e2 dv => q v H2 (e1.trans e2) dv
    | 1, _, q =>
      refine q_when (b := false) (et_is (et_test (ev_op (ev_var rfl) ev_c (rv_eq rfl))) (by simp)) (fun z => nomatch z) (fun _ H1 e1 => ?_)
      refine q_when (b := true) (et_is (et_test (ev_op (ev_var rfl) ev_c (rv_eq rfl))) (by simp)) (fun _ H2 e2 => ?_) (fun z => nomatch z)
      refine q_asgQL (K := K) (es := (List.range 4).map fun a => .list ((List.range 4).map fun b => .int ((max a b : Nat) : Int))) (qd_rng (n := 4) (ea_cons ev_c ea_nil) (by omega) (fun x => rfl) fun a _ => qd_lst (qd_rng (n := 4) (ea_cons ev_c ea_nil) (by omega) (fun x => rfl) fun b _ => qd_ev (ev_is (ev_max2 (ev_var rfl) (ev_var rfl)) (by congr 1; (split <;> omega))) (.int _))) fun p ys H3 n3 e3 h3 d3 => ?_
      have hJ : Dp K H3 (.ref p) (tabI (fun a b => (max a b : Nat)) 4) := .lst (sq_of h3) d3
      exact s_retQ (K := K) (d := oddD 1) (qd_tupN (qa_cons (qd_ev (ev_var rfl) hJ) (qa_cons (qd_lstL (qa_cons (qd_lstL (qa_cons (qd_i) (qa_cons (qd_i) (qa_cons (qd_i) (qa_cons (qd_i) qa_nil)))) (by simp)) (qa_cons (qd_lstL (qa_cons (qd_i) (qa_cons (qd_i) (qa_cons (qd_i) (qa_cons (qd_i) qa_nil)))) (by simp)) (qa_cons (qd_lstL (qa_cons (qd_i) (qa_cons (qd_i) (qa_cons (qd_i) (qa_cons (qd_i) qa_nil)))) (by simp)) (qa_cons (qd_lstL (qa_cons (qd_i) (qa_cons (qd_i) (qa_cons (qd_i) (qa_cons (qd_i) qa_nil)))) (by simp)) qa_nil)))) (by simp)) (qa_cons (qd_i) (qa_cons (qd_i) qa_nil)))) (by simp)) fun v H4 e4 dv => q v H4 (((e1.trans e2).trans e3).trans e4) dv
    | 2, _, q =>
      refine q_when (b := false) (et_is (et_test (ev_op (ev_var rfl) ev_c (rv_eq rfl))) (by simp)) (fun z => nomatch z) (fun _ H1 e1 => ?_)
      refine q_when (b := false) (et_is (et_test (ev_op (ev_var rfl) ev_c (rv_eq rfl))) (by simp)) (fun z => nomatch z) (fun _ H2 e2 => ?_)
      exact s_retQ (K := K) (d := oddD 2) (qd_tupN (qa_cons (qd_lstL (qa_cons (qd_lstL (qa_cons (qd_i) qa_nil) (by simp)) qa_nil) (by simp)) (qa_cons (qd_lstL (qa_cons (qd_lstL (qa_cons (qd_i) qa_nil) (by simp)) qa_nil) (by simp)) (qa_cons (qd_i) (qa_cons (qd_i) qa_nil)))) (by simp)) fun v H4 e4 dv => q v H4 ((e1.trans e2).trans e4) dv
end
end K06

set_option Elab.async false
set_option linter.all false
set_option maxRecDepth 100000
set_option maxHeartbeats 8000000
/-! S27: _law_costs (its derivation). -/
namespace K06
open PySem PySem.Spec PyProof.Rows L2 Evl J ClX StX S
abbrev sCo : Stmt := topS 43
def costP (t : Nat) (s : Bool) (a b : Nat) : Int := if max a b > t then (t : Int) + 1 else min ((a : Int) + b) (if s then (t : Int) else (t : Int) + 1)
def costD (t : Nat) (s : Bool) : PyData := .tuple [tabI (fun a b => (min a b : Nat)) (t + 2), tabI (costP t s) (t + 2), .int ((t : Int) + 1), .int 0]
def spCo (K : PySem.W.Frag) : Sp := fun vs H Q _ => ∃ (t : Nat) (s : Bool), vs = [.int (t : Int), .bl s] ∧ t ≤ 100 ∧ ∀ v H', Ex H H' → Dp K H' v (costD t s) → Q v H'
section
variable {P : Program} {w : World} {K : PySem.W.Frag} {mg : Str → Option Value} {base : Heap} {f : Addr} {fd : FuncData}
theorem q_tup2L {σ : L2.St} {H : Hp} {te tb : TE} {i j : Nat} {xs : List V} {v : V} {tz : TS} {D : Ends} (h1 : EvL te σ H xs) (h2 : Ev tb σ H v) (k : ∀ p H1, H p = none → Ex H H1 → H1 p = some (.lst xs) → tz D ((σ.set i (some (.ref p))).set j (some v)) H1) :
    tSeq (tAsg (tTup (tCons te (tCons tb tNil))) (gTup K 2 (gCons (gName i) (gCons (gName j) gNil)))) tz D σ H :=
  h1 H (Ex.refl H) _ fun p H1 n1 e1 q1 => h2 H1 e1 _ fun H2 e2 => ⟨sz_of (by simp), fun tp htp => ⟨tp, _, rfl, st_of upd_same, rfl, _, _, rfl, _, _, rfl, rfl, k p _ n1 ((e1.trans e2).trans (Ex.new htp)) ((Ex.new htp) _ _ (e2 _ _ q1))⟩⟩
theorem q_par2 {σ : L2.St} {H : Hp} {te : TE} {i j : Nat} {es : List PyData} {tz : TS} {D : Ends} (h1 : EvQL K te σ H es) (k : ∀ p l H2 H1, Ex H H2 → H2 l = none → Ex H2 H1 → Dp K H2 (.ref p) (.list es) → H1 l = some (.lst []) → tz D ((σ.set i (some (.ref p))).set j (some (.ref l))) H1) :
    tSeq (tPar i j (tCons te (tCons (tLst tNil) tNil))) tz D σ H :=
  h1 H (Ex.refl H) _ fun p ys H2 n2 e2 q2 da => ⟨sz_of (by simp), fun l hl => ⟨_, _, rfl, k p l H2 _ e2 hl (Ex.new hl) (.lst (sq_of q2) (dpa_ext rst_ex da)) upd_same⟩⟩
theorem dpa_map {α : Type} {H : Hp} {F : α → V} {E : α → PyData} (h : ∀ a, Dp K H (F a) (E a)) : ∀ xs : List α, DpAll K H (xs.map F) (xs.map E)
  | [] => .nil
  | x :: r => .cons (h x) (dpa_map h r)
abbrev NCo : List Str := ["_law_top", "_law_stops", "_law_every", "_law_dear", "_law_joins", "_law_products", "_law_a", "_law_b"]
theorem scCo : FnScope NCo ["_law_top", "_law_stops"] (defScope sCo) := ⟨rfl, rfl, rfl, by decide +kernel, rfl, by decide +kernel, by decide +kernel⟩
abbrev rP (K : PySem.W.Frag) : TE := tLc (iList K (tVar 2)) (gName 7) tYes (tIf (tTest (tOp (rI0 fun i j => .bl (decide (i > j))) (tCB rMax2 (tCons (tVar 6) (tCons (tVar 7) tNil))) (tVar 0))) (tOp (rI0 fun i j => .int (i + j)) (tVar 0) (tC (.int 1))) (tCB rMin2 (tCons (tOp (rI0 fun i j => .int (i + j)) (tVar 6) (tVar 7)) (tCons (tVar 3) tNil)))) [7]
theorem ok_co (F : FnP K "_law_costs" sCo f fd) (T : Bl mg) (T3 : Bl3 mg) : FnOk P w K mg base CX0 1 f fd ["_law_top", "_law_stops"] (spCo K) := by
  refine F.ok scCo (fun vs H Q E h => ?_) (fun cdv A outer s H vs Q E hr h => ?_)
  · obtain ⟨t, b, rfl, _⟩ := h
    rfl
  · obtain ⟨t, b, rfl, ht, q⟩ := h
    refine ⟨_, PSs.nox (pss_cons (ps_asg (pe_tup (pa_cons (pe_listRg rfl rfl T.lst (prg_1 rfl T.rng (pe_op op_add (pv 0) pe_int))) (pa_cons (pe_ifExp (pt_val (pv 1)) (pv 0) (pe_op op_add (pv 0) pe_int)) pa_nil))) (pg_tup rfl (pgs_cons (pg_name (i := 2) scCo.nd rfl (Or.inr rfl)) (pgs_cons (pg_name (i := 3) scCo.nd rfl (Or.inr rfl)) pgs_nil))))
      (pss_cons (ps_par (i := 4) (j := 5) rfl scCo.nd rfl rfl (by decide) rfl rfl (pa_cons (pe_lc (own := [("_law_a", 6)]) (g := gName 6) (tt := tYes) (te := tLc (iList K (tVar 2)) (gName 7) tYes (tCB rMin2 (tCons (tVar 6) (tCons (tVar 7) tNil))) [7]) rfl scCo.nd (pi_list (pv 2)) (blkOk_by (N := NCo) (sc := defScope sCo) (by decide +kernel)) (fun _ _ _ _ _ => pg_name (i := 6) scCo.nd rfl (Or.inr rfl)) (fun _ _ _ _ _ => pts_nil)
          (fun _ _ _ _ _ => by exact pe_lc (own := [("_law_b", 7)]) (g := gName 7) (tt := tYes) (wi := iList K (tVar 2)) rfl scCo.nd (pi_list (pv 2)) (blkOk_by (N := NCo) (by rfl)) (fun _ _ _ _ _ => pg_name (i := 7) scCo.nd rfl (Or.inl rfl)) (fun _ _ _ _ _ => pts_nil) (fun _ _ _ _ _ => pe_callB (call_min2 rfl) (by rfl) T3.min Boot.«min» (pa_cons (pv 6) (pa_cons (pv 7) pa_nil))))) (pa_cons (pe_lst pa_nil) pa_nil)) rfl)
      (pss_cons (ps_for PassesOwn.never rfl (pi_list (pv 2)) (pg_name (i := 6) scCo.nd rfl (Or.inr rfl)) (pss_one (ps_expr (pe_bm PySem.F.plainAttrs_list PySem.F.slot_list_append PySem.F.type_list_append mt_append (pv 5) (pa_cons (pe_lc (own := [("_law_b", 7)]) (g := gName 7) (tt := tYes) (te := tIf (tTest (tOp (rI0 fun i j => .bl (decide (i > j))) (tCB rMax2 (tCons (tVar 6) (tCons (tVar 7) tNil))) (tVar 0))) (tOp (rI0 fun i j => .int (i + j)) (tVar 0) (tC (.int 1))) (tCB rMin2 (tCons (tOp (rI0 fun i j => .int (i + j)) (tVar 6) (tVar 7)) (tCons (tVar 3) tNil)))) rfl scCo.nd (pi_list (pv 2)) (blkOk_by (N := NCo) (sc := defScope sCo) (by decide +kernel)) (fun _ _ _ _ _ => pg_name (i := 7) scCo.nd rfl (Or.inl rfl)) (fun _ _ _ _ _ => pts_nil)
          (fun _ _ _ _ _ => by exact pe_ifExp (pt_cmpR op_gt (pe_callB (call_max2 rfl) (by rfl) T3.max Boot.«max» (pa_cons (pv 6) (pa_cons (pv 7) pa_nil))) (pv 0) (nomark _)) (pe_op op_add (pv 0) pe_int) (pe_callB (call_min2 rfl) (by rfl) T3.min Boot.«min» (pa_cons (pe_op op_add (pv 6) (pv 7)) (pa_cons (pv 3) pa_nil))))) pa_nil)))))
      (pss_one (ps_ret (pe_tup (pa_cons (pv 4) (pa_cons (pv 5) (pa_cons (pe_op op_add (pv 0) pe_int) (pa_cons pe_int pa_nil)))))))))), ?_⟩
    have ev2 : ∀ (σ : L2.St) (H1 : Hp), σ[0]? = some (some (.int (t : Int))) → Ev (tOp (rI0 fun i j => .int (i + j)) (tVar 0) (tC (.int 1))) σ H1 (.int ((t : Int) + 1)) := fun σ H1 h => ev_op (ev_var h) ev_c rv_I0
    refine q_tup2L (K := K) (el_rg (n := t + 2) (ev_is (ev_op (ev_var rfl) ev_c rv_I0) (by simp)) (by omega)) (ev_if (v := .int (if b then (t : Int) else (t : Int) + 1)) (b := b) (et_B (ev_var rfl)) (fun hb => ev_is (ev_var rfl) (by simp [hb])) (fun hb => ev_is (ev2 _ _ rfl) (by simp [hb]))) fun le H1 n1 e1 h1 => ?_
    refine q_par2 (K := K) (es := (List.range (t + 2)).map fun a => .list ((List.range (t + 2)).map fun b => .int ((min a b : Nat) : Int))) (qd_map (g := fun i : Nat => V.int (i : Int)) (xs := List.range (t + 2)) (ev_var rfl) (sq_of h1) (by simp; omega) (fun x => rfl) fun a _ => qd_lst (qd_map (g := fun i : Nat => V.int (i : Int)) (xs := List.range (t + 2)) (ev_var rfl) (sq_of h1) (by simp; omega) (fun x => rfl) fun b _ => qd_ev (ev_is (ev_min2 (ev_var rfl) (ev_var rfl)) (by congr 1; (split <;> omega))) (.int _))) fun pj lp H2 H3 e2 nlp e23 dj h3 => ?_
    have le2 := e2 _ _ h1
    have lel : le ≠ lp := ne_of_none le2 nlp
    have le3 := e23 _ _ le2
    refine q_forLn (ev_var rfl) (sq_of le3) (fun i σ' H' => ∃ acc x6, σ' = [some (.int (t : Int)), some (.bl b), some (.ref le), some (.int (if b then (t : Int) else (t : Int) + 1)), some (.ref pj), some (.ref lp), x6, none] ∧ But lp H3 H' ∧ H' lp = some (.lst acc) ∧ acc.length = i ∧
        ∀ n, n < i → ∃ p, acc[n]? = some (.ref p) ∧ p ≠ lp ∧ H' p = some (.lst ((List.range (t + 2)).map fun c => V.int (costP t b n c))))
      (fun H4 e4 => ⟨[], _, rfl, But.of e4, e4 _ _ h3, rfl, fun n h => absurd h (Nat.not_lt_zero _)⟩) (fun i σ' H' _ ⟨_, _, _, b4, _⟩ => sq_of (b4 _ _ lel le3)) ?_ ?_
    · rintro i v σ' H4 hv ⟨acc, x6, rfl, b4, h4, al, ha⟩
      have hi : i < t + 2 := by
        have := (List.getElem?_eq_some_iff.mp hv).1
        simpa using this
      have hv2 : v = .int (i : Int) := by
        rw [List.getElem?_map, List.getElem?_range hi] at hv
        exact (Option.some.inj hv).symm
      subst hv2
      refine s_appL (ys := (List.range (t + 2)).map fun c => V.int (costP t b i c)) h4 (ev_var rfl) (el_map (d := 0) (g := fun c : Nat => V.int (c : Int)) (f := fun c => V.int (costP t b i c)) (ev_var rfl) (sq_of (b4 _ _ lel le3)) (by simp; omega) (fun x => rfl) (fun c H5 e5 hc =>
        ev_if (b := decide (max i c > t)) (et_is (et_test (ev_op (ev_max2 (ev_var rfl) (ev_var rfl)) (ev_var rfl) rv_I0)) (by congr 1; simp only [eq_iff_iff]; split <;> omega)) (fun hb => ev_is (ev2 _ _ rfl) (by
          have := of_decide_eq_true hb
          unfold costP
          rw [if_pos this])) (fun hb => ev_is (ev_min2 (ev_op (ev_var rfl) (ev_var rfl) rv_I0) (ev_var rfl)) (by
          have := of_decide_eq_false hb
          unfold costP
          rw [if_neg this]
          congr 1
          omega)))) (by omega) fun p H5 n5 e5 h5 => ?_
      have pl : p ≠ lp := fun z => by
        rw [z, h4] at n5
        cases n5
      refine ⟨acc ++ [.ref p], _, rfl, (b4.trans (But.of e5)).trans But.upd, upd_same, by simp [al], fun n hn => ?_⟩
      by_cases hni : n < i
      · obtain ⟨r, q1, q2, q3⟩ := ha n hni
        exact ⟨r, by rw [List.getElem?_append_left (by omega)]; exact q1, q2, by rw [upd_ne q2]; exact e5 _ _ q3⟩
      · have e : n = i := by omega
        subst e
        exact ⟨p, by rw [List.getElem?_append_right (by omega), al]; simp, pl, by rw [upd_ne pl]; exact h5⟩
    · rintro σ' H4 ⟨acc, x6, rfl, b4, h4, al, ha⟩
      rw [List.length_map, List.length_range] at al
      have dj4 : Dp K H4 (.ref pj) (tabI (fun a b => (min a b : Nat)) (t + 2)) := dp_ext (b4.ex e23 nlp) dj
      have dp4 : Dp K H4 (.ref lp) (tabI (costP t b) (t + 2)) := .lst (sq_of h4) (dpa_of (by simp [al]) fun n v d hv hd => by
        have hn : n < t + 2 := by
          rw [← al]
          exact (List.getElem?_eq_some_iff.mp hv).1
        obtain ⟨p, q1, q2, q3⟩ := ha n (by rw [List.length_map, List.length_range]; exact hn)
        rw [q1] at hv
        obtain rfl := Option.some.inj hv
        rw [List.getElem?_map, List.getElem?_range hn] at hd
        obtain rfl := Option.some.inj hd
        exact .lst (sq_of q3) (dpa_map (fun c => .int _) _))
      have e03 := (e1.trans e2).trans e23
      exact s_retQ (K := K) (d := costD t b) (qd_tupN (qa_cons (qd_ev (ev_var rfl) dj4) (qa_cons (qd_ev (ev_var rfl) dp4) (qa_cons (qd_ev (ev2 _ _ rfl) (.int _)) (qa_cons qd_i qa_nil)))) (by simp)) fun v H5 e5 dv => q v H5 (fun c o z => e5 c o (b4 c o (ne_of_none z (fresh_back (e1.trans e2) nlp)) (e03 c o z))) dv
end
end K06

set_option Elab.async false
set_option linter.all false
set_option maxRecDepth 100000
set_option maxHeartbeats 8000000
/-! S28: _law_sets. -/
namespace S
open PySem PySem.Spec PyProof.Rows L2 Evl J ClX StX
section
variable {K : PySem.W.Frag} {σ : L2.St} {H : Hp} {te ta : TE} {tr : TA} {t : TT} {vs : List Nat} {j : Nat}
theorem given_filter {α : Type} {f : α → V} {d : α} {xs : List α} {pr : α → Bool} : given xs.length (fun i => pr (xs.getD i d)) (fun i => f (xs.getD i d)) = (xs.filter pr).map f := by
  unfold given
  have e1 : (List.range xs.length).map (fun i => xs.getD i d) = xs := by
    have := range_items (fun x : α => x) d xs
    simpa using this
  have e2 : ((List.range xs.length).filter fun i => pr (xs.getD i d)).map (fun i => xs.getD i d) = xs.filter pr := by
    conv => rhs; rw [← e1]
    rw [List.filter_map]
    rfl
  rw [← e2, List.map_map]
  rfl
/-- [x for x in (a, b, ..) if p(x)] -/
theorem el_filterU {α : Type} {g f : α → V} {d : α} {xs : List α} {pr : α → Bool} (h : EvA tr σ H (xs.map g)) (hz : xs.length ≤ 1000) (hw : ∀ x, wipe ((wipe σ vs).set j (some x)) vs = wipe σ vs)
    (ht : ∀ x H1, Ex H H1 → x ∈ xs → EvT t ((wipe σ vs).set j (some (g x))) H1 (pr x)) (he : ∀ x H1, Ex H H1 → x ∈ xs → pr x = true → Ev te ((wipe σ vs).set j (some (g x))) H1 (f x)) : EvL (tLc (iTup K (tTup tr)) (gName j) t te vs) σ H ((xs.filter pr).map f) := by
  have at_ : ∀ i x, (xs.map g)[i]? = some x → ∃ y, xs[i]? = some y ∧ x = g y := fun i x hi => by
    rw [List.getElem?_map] at hi
    cases hg : xs[i]? with
    | none =>
      rw [hg] at hi
      cases hi
    | some y =>
      rw [hg] at hi
      exact ⟨y, hg, (Option.some.inj hi).symm⟩
  have gd : ∀ i y, xs[i]? = some y → xs.getD i d = y := fun i y h => by rw [List.getD_eq_getElem?_getD, h]; rfl
  rw [← given_filter (d := d)]
  intro H0 e Q q
  refine h H0 e _ fun H1 e1 => ⟨sz_of (by simpa using Nat.le_trans hz (by omega)), fun tp htp => ⟨tp, rfl, ⟨_, st_of upd_same⟩, fun Dl hD => ?_⟩⟩
  have e2 : Ex H0 (upd H1 tp (.tup (xs.map g))) := e1.trans (Ex.new htp)
  refine lc_tup (xs := xs.map g) (Cw (upd H1 tp (.tup (xs.map g))) (fun i => pr (xs.getD i d)) (fun i => f (xs.getD i d)) Dl) ⟨hD, Ex.new hD, upd_same⟩ (fun i H' _ p => st_of (p.2.1 tp _ upd_same)) (fun i x H' hi p => ⟨hw x, ?_⟩) (fun H' p => ?_)
  · obtain ⟨y, hy, rfl⟩ := at_ i x hi
    have m := List.mem_of_getElem? hy
    refine cw_turn p (by have := (List.getElem?_eq_some_iff.mp hy).1; omega) (by rw [gd i y hy]; exact ht y _ (e.trans e2) m) (fun hf => by rw [gd i y hy] at hf ⊢; exact he y _ (e.trans e2) m hf)
  · rw [List.length_map] at p
    exact q Dl H' (fresh_back e2 p.1) (e2.trans p.2.1) p.2.2
theorem ev_sum {tl : TE} {ns : List Int} (h : EvL tl σ H (ns.map V.int)) : Ev (tCB (rSum K) (tCons tl tNil)) σ H (.int ns.sum) := fun H1 e Q q =>
  h H1 e (fun v H' => rSum K [v] H' Q) fun p H2 n2 e2 h2 => ⟨p, ns, rfl, sq_of h2, q H2 e2⟩
end
end S

set_option Elab.async false
set_option linter.all false
set_option maxRecDepth 100000
set_option maxHeartbeats 8000000
/-! S29: _law_sets. -/
namespace K06
open PySem PySem.Spec PyProof.Rows L2 Evl J ClX StX S
abbrev sSe : Stmt := topS 45
def bitB (k a : Int) : Bool := decide (a / k % 2 = 1)
def landI (a b : Nat) : Int := ((([1, 2, 4] : List Int).filter fun k => bitB k a && bitB k b).map id).sum
def setD (n : Nat) : PyData := .tuple [tabI (fun a b => (a : Int) + b - landI a b) n, tabI landI n, .int 0, .int ((n : Int) - 1)]
def sizeOf : Nat → Nat
  | 0 => 1
  | 1 => 2
  | 2 => 4
  | _ => 8
def spSe (K : PySem.W.Frag) : Sp := fun vs H Q _ => ∃ m : Nat, vs = [.int (m : Int)] ∧ m ≤ 3 ∧ ∀ v H', Ex H H' → Dp K H' v (setD (sizeOf m)) → Q v H'
section
variable {P : Program} {w : World} {K : PySem.W.Frag} {mg : Str → Option Value} {base : Heap} {f : Addr} {fd : FuncData}
abbrev NSe : List Str := ["_law_many", "_law_every", "_law_joins", "_law_products", "_law_a", "_law_row", "_law_b", "_law_k"]
theorem scSe : FnScope NSe ["_law_many"] (defScope sSe) := ⟨rfl, rfl, rfl, by decide +kernel, rfl, by decide +kernel, by decide +kernel⟩
abbrev rBit (K : PySem.W.Frag) (i : Nat) : TT := tTest (tOp rEq (tOp (rI (fun _ j => 0 < j) fun i j => .int (i % j)) (tCB (fun xs H Q => (∃ i, xs = [.int i] ∧ Q (.int i) H) ∨ ∃ k, xs = [.bl k] ∧ Q (.int (if k then 1 else 0)) H) (tCons (tOp (rI CDiv fun i j => .int (i / j)) (tVar i) (tVar 7)) tNil)) (tC (.int 2))) (tC (.int 1)))
theorem et_bit {σ : L2.St} {H : Hp} {i : Nat} {a k : Int} (h1 : σ[i]? = some (some (.int a))) (h2 : σ[7]? = some (some (.int k))) (hk : 0 < k ∧ k < 1073741824) : EvT (rBit K i) σ H (bitB k a) :=
  et_is (et_test (ev_op (ev_op (ev_cb (ea_cons (ev_op (ev_var h1) (ev_var h2) (rv_I hk)) ea_nil) rc_int) ev_c (rv_I (by decide))) ev_c (rv_eq rfl))) (by simp [bitB])
theorem q_par3L {σ : L2.St} {H : Hp} {te : TE} {i j l : Nat} {xs : List V} {tz : TS} {D : Ends} (h1 : EvL te σ H xs) (k : ∀ le lj lp H1, Ex H H1 → H lj = none → H lp = none → lj ≠ lp → le ≠ lj → le ≠ lp → H1 le = some (.lst xs) → H1 lj = some (.lst []) → H1 lp = some (.lst []) → tz D (((σ.set i (some (.ref le))).set j (some (.ref lj))).set l (some (.ref lp))) H1) :
    tSeq (tPar3 i j l (tCons te (tCons (tLst tNil) (tCons (tLst tNil) tNil)))) tz D σ H :=
  h1 H (Ex.refl H) _ fun le H1 n1 e1 q1 => ⟨sz_of (by simp), fun lj hj => ⟨sz_of (by simp), fun lp hp => ⟨_, _, _, rfl, by
    have x1 : Ex H1 (upd H1 lj (.lst [])) := Ex.new hj
    have x2 : Ex (upd H1 lj (.lst [])) (upd (upd H1 lj (.lst [])) lp (.lst [])) := Ex.new hp
    have jp : lj ≠ lp := fun z => by
      rw [← z, upd_same] at hp
      cases hp
    exact k le lj lp _ ((e1.trans x1).trans x2) (fresh_back e1 hj) (fresh_back (e1.trans x1) hp) jp (ne_of_none q1 hj) (ne_of_none (x1 _ _ q1) hp) (x2 _ _ (x1 _ _ q1)) (by rw [upd_ne jp, upd_same]) upd_same⟩⟩⟩
theorem ok_se (F : FnP K "_law_sets" sSe f fd) (T : Bl mg) (T3 : Bl3 mg) : FnOk P w K mg base CX0 1 f fd ["_law_many"] (spSe K) := by
  refine F.ok scSe (fun vs H Q E h => ?_) (fun cdv A outer s H vs Q E hr h => ?_)
  · obtain ⟨m, rfl, _⟩ := h
    rfl
  · obtain ⟨m, rfl, hm, q⟩ := h
    refine ⟨_, PSs.nox (pss_cons (ps_par3 (i := 1) (j := 2) (l := 3) rfl scSe.nd rfl rfl rfl (by decide) (by decide) (by decide) rfl rfl rfl (pa_cons (pe_listRg rfl rfl T.lst (prg_1 rfl T.rng (pe_ix ix_list (pe_lst (pa_cons pe_int (pa_cons pe_int (pa_cons pe_int (pa_cons pe_int pa_nil))))) (pv 0) (fun _ _ => rfl)))) (pa_cons (pe_lst pa_nil) (pa_cons (pe_lst pa_nil) pa_nil))) rfl)
      (pss_cons (ps_for PassesOwn.never rfl (pi_list (pv 1)) (pg_name (i := 4) scSe.nd rfl (Or.inr rfl))
        (pss_cons (ps_set (i := 5) scSe.nd rfl (Or.inr rfl) (pe_lst pa_nil))
        (pss_cons (ps_for PassesOwn.never rfl (pi_list (pv 1)) (pg_name (i := 6) scSe.nd rfl (Or.inr rfl))
          (pss_one (ps_expr (pe_bm PySem.F.plainAttrs_list PySem.F.slot_list_append PySem.F.type_list_append mt_append (pv 5) (pa_cons (pe_callB (cr_sum rfl) (by rfl) T3.sum boot_sum (pa_cons
            (pe_lc (own := [("_law_k", 7)]) (g := gName 7) (tt := tAnd (rBit K 4) (rBit K 6)) (te := tVar 7) rfl scSe.nd (pi_tup (pe_tup (pa_cons pe_int (pa_cons pe_int (pa_cons pe_int pa_nil))))) (blkOk_by (N := NSe) (sc := defScope sSe) (by decide +kernel)) (fun _ _ _ _ _ => pg_name (i := 7) scSe.nd rfl (Or.inl rfl))
              (fun _ _ _ _ _ => by exact pts_one (PW.pt (pw_and (pt_cmpR op_eq (pe_op op_mod (pe_callTy call_int1 (by rfl) T.int Boot.«int» (pa_cons (pe_op op_fdiv (pv 4) (pv 7)) pa_nil)) pe_int) pe_int (nomark _)) (pw_and1 (pt_cmpR op_eq (pe_op op_mod (pe_callTy call_int1 (by rfl) T.int Boot.«int» (pa_cons (pe_op op_fdiv (pv 6) (pv 7)) pa_nil)) pe_int) pe_int (nomark _)))))) (fun _ _ _ _ _ => pv 7)) pa_nil)) pa_nil)))))
        (pss_cons (ps_expr (pe_bm PySem.F.plainAttrs_list PySem.F.slot_list_append PySem.F.type_list_append mt_append (pv 3) (pa_cons (pv 5) pa_nil)))
        (pss_one (ps_expr (pe_bm PySem.F.plainAttrs_list PySem.F.slot_list_append PySem.F.type_list_append mt_append (pv 2) (pa_cons
          (pe_lc (own := [("_law_b", 6)]) (g := gName 6) (tt := tYes) (te := tOp (rI0 fun i j => .int (i - j)) (tOp (rI0 fun i j => .int (i + j)) (tVar 4) (tVar 6)) (tOp (rIxL K) (tVar 5) (tVar 6))) rfl scSe.nd (pi_list (pv 1)) (blkOk_by (N := NSe) (sc := defScope sSe) (by decide +kernel)) (fun _ _ _ _ _ => pg_name (i := 6) scSe.nd rfl (Or.inl rfl)) (fun _ _ _ _ _ => pts_nil)
            (fun _ _ _ _ _ => by exact pe_op op_sub (pe_op op_add (pv 4) (pv 6)) (pe_ix ix_list (pv 5) (pv 6) (fun _ _ => rfl)))) pa_nil))))))))
      (pss_one (ps_ret (pe_tup (pa_cons (pv 2) (pa_cons (pv 3) (pa_cons pe_int (pa_cons (pe_op op_sub (pe_callB call_len_seq (by rfl) T.len boot_len (pa_cons (pv 1) pa_nil)) pe_int) pa_nil))))))))), ?_⟩
    have sz8 : sizeOf m ≤ 8 := by
      match m, hm with
      | 0, _ => decide
      | 1, _ => decide
      | 2, _ => decide
      | 3, _ => decide
    have rng := el_rg (σ := [some (.int (m : Int)), none, none, none, none, none, none, none]) (H := H) (te := tOp (rIxL K) (tLst (tCons (tC (.int 1)) (tCons (tC (.int 2)) (tCons (tC (.int 4)) (tCons (tC (.int 8)) tNil))))) (tVar 0)) (n := sizeOf m)
      (ev_opL1 (xs := [.int 1, .int 2, .int 4, .int 8]) (el_lst (ea_cons ev_c (ea_cons ev_c (ea_cons ev_c (ea_cons ev_c ea_nil)))) (by simp)) (fun H1 _ => ev_var rfl) (fun p H1 hp _ => rv_ixL (sq_of hp) (atI_nat (j := m) (by
        match m, hm with
        | 0, _ => rfl
        | 1, _ => rfl
        | 2, _ => rfl
        | 3, _ => rfl)))) (by omega)
    refine q_par3L rng fun le lj lp H3 e3 nj np jp ej ep h3 hj3 hp3 => ?_
    generalize hN : sizeOf m = N at *
    refine q_forLn (ev_var rfl) (sq_of h3) (fun i σ' H' => ∃ aj ap x4 x5 x6, σ' = [some (.int (m : Int)), some (.ref le), some (.ref lj), some (.ref lp), x4, x5, x6, none] ∧ (∀ b o, b ≠ lj → b ≠ lp → H3 b = some o → H' b = some o) ∧ H' lj = some (.lst aj) ∧ H' lp = some (.lst ap) ∧ aj.length = i ∧ ap.length = i ∧
        (∀ n, n < i → ∃ p, aj[n]? = some (.ref p) ∧ p ≠ lj ∧ p ≠ lp ∧ H' p = some (.lst ((List.range N).map fun c => V.int ((n : Int) + c - landI n c)))) ∧ (∀ n, n < i → ∃ p, ap[n]? = some (.ref p) ∧ p ≠ lj ∧ p ≠ lp ∧ H' p = some (.lst ((List.range N).map fun c => V.int (landI n c)))))
      (fun H4 e4 => ⟨[], [], _, _, _, rfl, fun b o _ _ z => e4 _ _ z, e4 _ _ hj3, e4 _ _ hp3, rfl, rfl, fun n h => absurd h (Nat.not_lt_zero _), fun n h => absurd h (Nat.not_lt_zero _)⟩) (fun i σ' H' _ ⟨_, _, _, _, _, _, b4, _⟩ => sq_of (b4 _ _ ej ep h3)) ?_ ?_
    · rintro i v σ' H4 hv ⟨aj, ap, x4, x5, x6, rfl, b4, h4j, h4p, lj4, lp4, rj, rp⟩
      have hi : i < N := by
        have := (List.getElem?_eq_some_iff.mp hv).1
        simpa using this
      have hv2 : v = .int (i : Int) := by
        rw [List.getElem?_map, List.getElem?_range hi] at hv
        exact (Option.some.inj hv).symm
      subst hv2
      have le4 := b4 _ _ ej ep h3
      refine q_asgL (el_lst ea_nil (by simp)) fun r H5 n5 e5 h5 => ?_
      have rlj : r ≠ lj := fun z => by
        rw [z, h4j] at n5
        cases n5
      have rlp : r ≠ lp := fun z => by
        rw [z, h4p] at n5
        cases n5
      have rle : le ≠ r := ne_of_none le4 n5
      have le5 := e5 _ _ le4
      refine q_forLn (ev_var rfl) (sq_of le5) (fun n σ' H' => ∃ x6, σ' = [some (.int (m : Int)), some (.ref le), some (.ref lj), some (.ref lp), some (.int (i : Int)), some (.ref r), x6, none] ∧ But r H5 H' ∧ H' r = some (.lst ((List.range n).map fun c => V.int (landI i c))))
        (fun H6 e6 => ⟨_, rfl, But.of e6, by simpa using e6 _ _ h5⟩) (fun n σ' H' _ ⟨_, _, b6, _⟩ => sq_of (b6 _ _ rle le5)) ?_ ?_
      · rintro n v σ' H6 hv ⟨y6, rfl, b6, h6⟩
        have hn : n < N := by
          have := (List.getElem?_eq_some_iff.mp hv).1
          simpa using this
        have hv2 : v = .int (n : Int) := by
          rw [List.getElem?_map, List.getElem?_range hn] at hv
          exact (Option.some.inj hv).symm
        subst hv2
        refine s_app (v := .int (landI i n)) h6 (ev_var rfl) (ev_sum (K := K) (ns := (([1, 2, 4] : List Int).filter fun k => bitB k i && bitB k n).map id) (by
          rw [List.map_map]
          exact el_filterU (d := 0) (g := V.int) (f := V.int ∘ id) (xs := [1, 2, 4]) (pr := fun k => bitB k i && bitB k n) (ea_cons ev_c (ea_cons ev_c (ea_cons ev_c ea_nil))) (by simp) (fun x => rfl) (fun k H7 e7 hk => by
            have kb : 0 < k ∧ k < 1073741824 := by
              simp only [List.mem_cons, List.not_mem_nil, or_false] at hk
              omega
            exact et_and (et_bit rfl rfl kb) fun _ => et_bit rfl rfl kb) (fun k H7 e7 hk _ => ev_var rfl))) (by simp; omega) fun H7 e7 => ⟨_, rfl, (b6.trans (But.of e7)).trans But.upd, ?_⟩
        rw [upd_same, List.range_succ, List.map_append]
        rfl
      · rintro σ' H6 ⟨y6, rfl, b6, h6⟩
        rw [List.length_map, List.length_range] at h6
        have j6 : H6 lj = some (.lst aj) := b6 _ _ (Ne.symm rlj) (e5 _ _ h4j)
        have p6 : H6 lp = some (.lst ap) := b6 _ _ (Ne.symm rlp) (e5 _ _ h4p)
        refine q_app (v := .ref r) p6 (ev_var rfl) (ev_var rfl) (by omega) fun H7 e7 => ?_
        have j7 : (upd H7 lp (.lst (ap ++ [.ref r]))) lj = some (.lst aj) := by rw [upd_ne jp]; exact e7 _ _ j6
        have r7 : (upd H7 lp (.lst (ap ++ [.ref r]))) r = some (.lst ((List.range N).map fun c => V.int (landI i c))) := by rw [upd_ne rlp]; exact e7 _ _ h6
        have le7 : (upd H7 lp (.lst (ap ++ [.ref r]))) le = some (.lst ((List.range N).map fun i : Nat => V.int (i : Int))) := by rw [upd_ne ep]; exact e7 _ _ (b6 _ _ rle le5)
        have p7 : (upd H7 lp (.lst (ap ++ [.ref r]))) lp = some (.lst (ap ++ [.ref r])) := upd_same
        have o7 : ∀ b o, b ≠ lp → b ≠ r → H5 b = some o → (upd H7 lp (.lst (ap ++ [.ref r]))) b = some o := fun b o hb hbr z => by rw [upd_ne hb]; exact e7 _ _ (b6 _ _ hbr z)
        generalize upd H7 lp (.lst (ap ++ [.ref r])) = H8 at j7 r7 le7 p7 o7 ⊢
        refine s_appL (ys := (List.range N).map fun c => V.int ((i : Int) + c - landI i c)) j7 (ev_var rfl) (el_map (d := 0) (g := fun c : Nat => V.int (c : Int)) (f := fun c => V.int ((i : Int) + c - landI i c)) (ev_var rfl) (sq_of le7) (by simp; omega) (fun x => rfl) (fun c H9 e9 hc =>
          ev_op (ev_op (ev_var rfl) (ev_var rfl) rv_I0) (ev_op (ev_var rfl) (ev_var rfl) (rv_ixL (sq_of (e9 _ _ r7)) (atI_nat (by rw [List.getElem?_map, List.getElem?_range (List.mem_range.mp hc)]; rfl)))) rv_I0)) (by omega) fun p H9 n9 e9 h9 => ?_
        have plj : p ≠ lj := fun z => by
          rw [z, j7] at n9
          cases n9
        have plp : p ≠ lp := fun z => by
          rw [z, p7] at n9
          cases n9
        have fin : ∀ b o, b ≠ lj → b ≠ lp → b ≠ r → H4 b = some o → (upd H9 lj (.lst (aj ++ [.ref p]))) b = some o := fun b o h1 h2 h3 z => by
          rw [upd_ne h1]
          exact e9 _ _ (o7 _ _ h2 h3 (e5 _ _ z))
        refine ⟨aj ++ [.ref p], ap ++ [.ref r], _, _, _, rfl, fun b o h1 h2 z => fin b o h1 h2 (ne_of_none (b4 _ _ h1 h2 z) n5) (b4 _ _ h1 h2 z), upd_same, by rw [upd_ne (Ne.symm jp)]; exact e9 _ _ p7, by simp [lj4], by simp [lp4], fun n hn => ?_, fun n hn => ?_⟩
        · by_cases hni : n < i
          · obtain ⟨t, q1, q2, q3, q4⟩ := rj n hni
            exact ⟨t, by rw [List.getElem?_append_left (by omega)]; exact q1, q2, q3, fin t _ q2 q3 (ne_of_none q4 n5) q4⟩
          · have e : n = i := by omega
            subst e
            exact ⟨p, by rw [List.getElem?_append_right (by omega), lj4]; simp, plj, plp, by rw [upd_ne plj]; exact h9⟩
        · by_cases hni : n < i
          · obtain ⟨t, q1, q2, q3, q4⟩ := rp n hni
            exact ⟨t, by rw [List.getElem?_append_left (by omega)]; exact q1, q2, q3, fin t _ q2 q3 (ne_of_none q4 n5) q4⟩
          · have e : n = i := by omega
            subst e
            exact ⟨r, by rw [List.getElem?_append_right (by omega), lp4]; simp, rlj, rlp, by rw [upd_ne rlj]; exact e9 _ _ r7⟩
    · rintro σ' H4 ⟨aj, ap, x4, x5, x6, rfl, b4, h4j, h4p, lj4, lp4, rj, rp⟩
      rw [List.length_map, List.length_range] at lj4 lp4 rj rp
      have tabOf : ∀ (l : Addr) (acc : List V) (F : Nat → Nat → Int), H4 l = some (.lst acc) → acc.length = N → (∀ n, n < N → ∃ p, acc[n]? = some (.ref p) ∧ p ≠ lj ∧ p ≠ lp ∧ H4 p = some (.lst ((List.range N).map fun c => V.int (F n c)))) → Dp K H4 (.ref l) (tabI F N) := fun l acc F hl al ha =>
        .lst (sq_of hl) (dpa_of (by simp [al]) fun n v d hv hd => by
          have hn : n < N := by
            rw [← al]
            exact (List.getElem?_eq_some_iff.mp hv).1
          obtain ⟨p, q1, _, _, q3⟩ := ha n hn
          rw [q1] at hv
          obtain rfl := Option.some.inj hv
          rw [List.getElem?_map, List.getElem?_range hn] at hd
          obtain rfl := Option.some.inj hd
          exact .lst (sq_of q3) (dpa_map (fun c => .int _) _))
      have le4 := b4 _ _ ej ep h3
      refine s_retQ (K := K) (d := setD N) (qd_tupN (qa_cons (qd_ev (ev_var rfl) (tabOf lj aj _ h4j lj4 rj)) (qa_cons (qd_ev (ev_var rfl) (tabOf lp ap _ h4p lp4 rp)) (qa_cons qd_i (qa_cons (qd_ev (ev_is (ev_op (ev_lenS (ev_var rfl) (.inl (sq_of le4))) ev_c rv_I0) (by simp)) (.int _)) qa_nil)))) (by simp)) fun v H5 e5 dv => q v H5 (fun c o z => e5 c o (b4 c o (ne_of_none z nj) (ne_of_none z np) (e3 c o z))) dv
end
end K06

set_option Elab.async false
set_option linter.all false
set_option maxRecDepth 100000
set_option maxHeartbeats 8000000
/-! S30: _law_places. -/
namespace S
open PySem PySem.Spec PyProof.Rows L2 Evl J ClX StX
/-- not a pen's own list: a container and two numbers -/
def isPen : List PyData → Bool
  | [.list _, .int _, .int _] => true
  | [.tuple _, .int _, .int _] => true
  | [.dict _, .int _, .int _] => true
  | _ => false
mutual
def noP : PyData → Bool
  | .list ds => !isPen ds && noPs ds
  | .tuple ds => noPs ds
  | _ => true
def noPs : List PyData → Bool
  | [] => true
  | d :: r => noP d && noPs r
end
section
variable {K : PySem.W.Frag} {H : Hp} {p c : Addr} {i v : Int}
theorem sql_dlP {a : Addr} {xs : List V} (hp : H p = some (.lst [.ref c, .int i, .int v])) (hx : xs ≠ [.ref c, .int i, .int v]) (h : SqL K H a xs) : SqL K (dl p H) a xs := by
  rcases h with (h | ⟨o, h⟩) | h
  · have ne : a ≠ p := fun z => by
      rw [z, hp] at h
      cases h
      exact hx rfl
    exact .inl (.inl (by rw [dl_ne ne]; exact h))
  · have ne : a ≠ p := fun z => by
      rw [z, hp] at h
      cases h
    exact .inl (.inr ⟨o, by rw [dl_ne ne]; exact h⟩)
  · exact .inr h
theorem sqt_dlP {a : Addr} {xs : List V} (hp : H p = some (.lst [.ref c, .int i, .int v])) (h : SqT K H a xs) : SqT K (dl p H) a xs := by
  rcases h with (h | ⟨o, h⟩) | h
  · have ne : a ≠ p := fun z => by
      rw [z, hp] at h
      cases h
    exact .inl (.inl (by rw [dl_ne ne]; exact h))
  · have ne : a ≠ p := fun z => by
      rw [z, hp] at h
      cases h
    exact .inl (.inr ⟨o, by rw [dl_ne ne]; exact h⟩)
  · exact .inr h
mutual
theorem dp_dlP (hp : H p = some (.lst [.ref c, .int i, .int v])) : ∀ {u : V} {d : PyData}, Dp K H u d → noP d = true → Dp K (dl p H) u d
  | _, _, .non, _ => .non
  | _, _, .bl b, _ => .bl b
  | _, _, .int i, _ => .int i
  | _, _, .str x, _ => .str x
  | _, .list ds, .lst (xs := xs) h r, n => by
    have n2 : (!isPen ds && noPs ds) = true := n
    obtain ⟨n3, n4⟩ := Bool.and_eq_true_iff.mp n2
    refine .lst (sql_dlP hp (fun z => ?_) h) (dpa_dlP hp r n4)
    subst z
    cases r with
    | cons r1 r =>
      cases r with
      | cons r2 r =>
        cases r with
        | cons r3 r =>
          cases r
          cases r2
          cases r3
          cases r1 <;> simp [isPen] at n3
  | _, .tuple ds, .tup h r, n => .tup (sqt_dlP hp h) (dpa_dlP hp r (show noPs ds = true from n))
theorem dpa_dlP (hp : H p = some (.lst [.ref c, .int i, .int v])) : ∀ {us : List V} {ds : List PyData}, DpAll K H us ds → noPs ds = true → DpAll K (dl p H) us ds
  | _, _, .nil, _ => .nil
  | _, d :: ds, .cons h r, n => by
    have n2 : (noP d && noPs ds) = true := n
    obtain ⟨n3, n4⟩ := Bool.and_eq_true_iff.mp n2
    exact .cons (dp_dlP hp h n3) (dpa_dlP hp r n4)
end
end
theorem noPs_map {α : Type} {f : α → PyData} : ∀ {xs : List α}, (∀ x, noP (f x) = true) → noPs (xs.map f) = true
  | [], _ => rfl
  | x :: r, h => by
    show (noP (f x) && noPs (r.map f)) = true
    rw [h x, noPs_map h]
    rfl
theorem pen_ints {α : Type} {f : α → Int} : ∀ {xs : List α}, isPen (xs.map fun x => .int (f x)) = false
  | [] => rfl
  | [_] => rfl
  | [_, _] => rfl
  | [_, _, _] => rfl
  | _ :: _ :: _ :: _ :: _ => rfl
theorem pen_lists {α : Type} {f : α → List PyData} : ∀ {xs : List α}, isPen (xs.map fun x => .list (f x)) = false
  | [] => rfl
  | [_] => rfl
  | [_, _] => rfl
  | [_, _, _] => rfl
  | _ :: _ :: _ :: _ :: _ => rfl
theorem noP_ints {α : Type} {f : α → Int} {xs : List α} : noP (.list (xs.map fun x => .int (f x))) = true := by
  show (!isPen _ && noPs _) = true
  rw [pen_ints, noPs_map fun x => rfl]
  rfl
theorem noP_tab {F : Nat → Nat → Int} {n : Nat} : noP (K06.tabI F n) = true := by
  show (!isPen _ && noPs _) = true
  rw [pen_lists, noPs_map fun x => noP_ints]
  rfl
end S
namespace K06
open PySem PySem.Spec PyProof.Rows L2 Evl J ClX StX S
abbrev sPl : Stmt := topS 47
def levD (t : Nat) : PyData := .tuple [tabI (fun a b => (max a b : Nat)) (t + 1), tabI (fun a b => (min a b : Nat)) (t + 1), .int 0, .int (t : Int)]
/-- the families of places -/
inductive Fam (most : Nat) : PyData → Prop
  | odd (k : Nat) : k ≤ 2 → Fam most (oddD k)
  | cost (t : Nat) (b : Bool) : t + 2 ≤ most → Fam most (costD t b)
  | lev (t : Nat) : 1 ≤ t → t + 1 ≤ most → Fam most (levD t)
  | sets (m : Nat) : 1 ≤ m → m ≤ 2 → Fam most (setD (sizeOf m))
theorem Fam.noP {most : Nat} {d : PyData} (h : Fam most d) : noP d = true := by
  have tup : ∀ (a b : PyData) (i j : Int), S.noP a = true → S.noP b = true → S.noP (.tuple [a, b, .int i, .int j]) = true := fun a b i j h1 h2 => by
    show (S.noP a && (S.noP b && (S.noP (.int i) && (S.noP (.int j) && true)))) = true
    rw [h1, h2]
    rfl
  cases h with
  | odd k hk =>
    match k, hk with
    | 0, _ => decide +kernel
    | 1, _ => exact tup _ _ _ _ noP_tab (by decide +kernel)
    | 2, _ => decide +kernel
  | cost t b _ => exact tup _ _ _ _ noP_tab noP_tab
  | lev t _ _ => exact tup _ _ _ _ noP_tab noP_tab
  | sets m _ _ => exact tup _ _ _ _ noP_tab noP_tab
end K06

set_option Elab.async false
set_option linter.all false
set_option maxRecDepth 100000
set_option maxHeartbeats 8000000
/-! S31: _law_places. -/
namespace K06
open PySem PySem.Spec PyProof.Rows L2 Evl J ClX StX S
def spPl (K : PySem.W.Frag) : Sp := fun vs H Q _ => ∃ (p c : Addr) (m most : Nat), vs = [.ref p, .int (most : Int)] ∧ PenC H p c m ∧ 2 ≤ most ∧ most ≤ 7 ∧ m ≤ 900000 ∧ ∀ v H' d, But p H H' → PenC H' p c (m + 2) → Dp K (dl p H') v d → Fam most d → Q v H'
section
variable {P : Program} {w : World} {K : PySem.W.Frag} {mg : Str → Option Value} {base : Heap} {f : Addr} {fd : FuncData}
abbrev NPl : List Str := ["_law_pen_here", "_law_most", "_law_road"]
theorem scPl : FnScope NPl ["_law_pen_here", "_law_most"] (defScope sPl) := ⟨rfl, rfl, rfl, by decide +kernel, rfl, by decide +kernel, by decide +kernel⟩
theorem pen_dl {H : Hp} {p c : Addr} {m : Nat} {v : V} {d : PyData} (h : PenC H p c m) (dp : Dp K H v d) (n : noP d = true) : Dp K (dl p H) v d := by
  obtain ⟨ns, i, x, h1, _⟩ := h
  exact dp_dlP h1 dp n
theorem ok_pl (F : FnP K "_law_places" sPl f fd) (cD : Cal P w K mg base CX0 2 "_law_draw" ["_law_pen_here", "_law_under"] spDrawC) (cO : Cal P w K mg base CX0 1 "_law_odd" ["_law_k"] (spOd K)) (cC : Cal P w K mg base CX0 1 "_law_costs" ["_law_top", "_law_stops"] (spCo K)) (cL : Cal P w K mg base CX0 1 "_law_levels" ["_law_top"] (spLv K)) (cS : Cal P w K mg base CX0 1 "_law_sets" ["_law_many"] (spSe K)) :
    FnOk P w K mg base CX0 3 f fd ["_law_pen_here", "_law_most"] (spPl K) := by
  refine F.ok scPl (fun vs H Q E h => ?_) (fun cdv A outer s H vs Q E hr h => ?_)
  · obtain ⟨p, c, m, most, rfl, _⟩ := h
    rfl
  · obtain ⟨p, c, m, most, rfl, hp, hm3, hm7, hm, q⟩ := h
    have hr1 : Room 1 (A.deeper (envOfC "_law_places" (defScope sPl) s.heap.objs.size f cdv)) := hr.mono (by decide)
    refine ⟨_, pss_cons (ps_set (i := 2) scPl.nd rfl (Or.inl rfl) (pe_cal cD hr rfl pass0 (pa_cons (pv 0) (pa_cons pe_int pa_nil))))
      (pss_cons (ps_if (pt_cmpR op_lt (pv 2) pe_int (nomark _)) (pss_one (ps_ret (pe_cal cO hr1 rfl pass0 (pa_cons (pe_cal cD hr rfl pass0 (pa_cons (pv 0) (pa_cons pe_int pa_nil))) pa_nil)))) pss_nil)
      (pss_cons (ps_if (pt_cmpR op_lt (pv 2) pe_int (nomark _)) (pss_one (ps_ret (pe_cal cC hr1 rfl pass0 (pa_cons (pe_cal cD hr rfl pass0 (pa_cons (pv 0) (pa_cons (pe_op op_sub (pv 1) pe_int) pa_nil))) (pa_cons (pe_cmpR op_eq (pv 2) pe_int (nomark _)) pa_nil))))) pss_nil)
      (pss_cons (ps_if (pt_cmpR op_lt (pv 2) pe_int (nomark _)) (pss_one (ps_ret (pe_cal cL hr1 rfl pass0 (pa_cons (pe_op op_add pe_int (pe_cal cD hr rfl pass0 (pa_cons (pv 0) (pa_cons (pe_op op_sub (pv 1) pe_int) pa_nil)))) pa_nil)))) pss_nil)
      (pss_one (ps_ret (pe_cal cS hr1 rfl pass0 (pa_cons (pe_op op_add pe_int (pe_cal cD hr rfl pass0 (pa_cons (pv 0) (pa_cons (pe_ifExp (pt_cmpR op_lt (pv 1) pe_int (nomark _)) pe_int pe_int) pa_nil)))) pa_nil))))))), ?_⟩
    refine ⟨_, rfl, p, c, 8, m, rfl, by decide, by decide, hp, by omega, fun r H1 b1 p1 r0 r8 => ?_⟩
    have dn : ∀ (H2 : Hp) (k : Nat), Ex H1 H2 → PenC H2 p c (m + 1) := fun H2 k e => p1.ext e
    have fin : ∀ (H2 H3 H4 : Hp) (v : V) (d : PyData), Ex H1 H2 → But p H2 H3 → PenC H3 p c (m + 1 + 1) → Ex H3 H4 → Dp K H4 v d → Fam most d → Q v H4 := fun H2 H3 H4 v d e12 b23 p3 e34 dv fm =>
      q v H4 d (((b1.trans (But.of e12)).trans b23).trans (But.of e34)) (p3.ext e34) (pen_dl (p3.ext e34) dv fm.noP) fm
    refine q_when (b := decide (r < 2)) (et_test (ev_op (ev_var rfl) ev_c rv_I0)) (fun hb H2 e2 => ?_) (fun hb H2 e2 => ?_)
    · refine ⟨_, rfl, p, c, 3, m + 1, rfl, by decide, by decide, p1.ext e2, by omega, fun k H3 b3 p3 k0 k1 => ?_⟩
      obtain ⟨n, rfl⟩ : ∃ n : Nat, k = (n : Int) := ⟨k.toNat, by omega⟩
      exact ⟨n, rfl, by omega, fun v H4 e4 dv => fin H2 H3 H4 v _ e2 b3 p3 e4 dv (.odd n (by omega))⟩
    refine q_when (b := decide (r < 4)) (et_test (ev_op (ev_var rfl) ev_c rv_I0)) (fun hb H3 e3 => ?_) (fun hb H3 e3 => ?_)
    · refine ⟨_, rfl, _, rfl, _, _, rfl, rfl, p, c, (most : Int) - 1, m + 1, rfl, by omega, by omega, p1.ext (e2.trans e3), by omega, fun k H4 b4 p4 k0 k1 => ?_⟩
      obtain ⟨n, rfl⟩ : ∃ n : Nat, k = (n : Int) := ⟨k.toNat, by omega⟩
      exact ⟨_, rfl, rfl, n, _, rfl, by omega, fun v H5 e5 dv => fin H3 H4 H5 v _ (e2.trans e3) b4 p4 e5 dv (.cost n _ (by omega))⟩
    refine q_when (b := decide (r < 6)) (et_test (ev_op (ev_var rfl) ev_c rv_I0)) (fun hb H4 e4 => ?_) (fun hb H4 e4 => ?_)
    · refine ⟨_, rfl, _, rfl, _, _, rfl, rfl, p, c, (most : Int) - 1, m + 1, rfl, by omega, by omega, p1.ext ((e2.trans e3).trans e4), by omega, fun k H5 b5 p5 k0 k1 => ?_⟩
      obtain ⟨n, rfl⟩ : ∃ n : Nat, k = (n : Int) := ⟨k.toNat, by omega⟩
      exact ⟨1, (n : Int), rfl, rfl, 1 + n, by simp, by omega, fun v H6 e6 dv => fin H4 H5 H6 v _ ((e2.trans e3).trans e4) b5 p5 e6 dv (.lev (1 + n) (by omega) (by omega))⟩
    · have two : Ev (tIf (tTest (tOp (rI0 fun i j => .bl (decide (i < j))) (tVar 1) (tC (.int 8)))) (tC (.int 2)) (tC (.int 3))) [some (.ref p), some (.int (most : Int)), some (.int r)] H4 (.int 2) :=
        ev_if (b := true) (et_is (et_test (ev_op (ev_var rfl) ev_c rv_I0)) (by simp; omega)) (fun _ => ev_c) (fun z => nomatch z)
      refine ⟨_, rfl, ?_⟩
      refine two H4 (Ex.refl H4) _ fun H5 e5 => ⟨p, c, 2, m + 1, rfl, by decide, by decide, p1.ext (((e2.trans e3).trans e4).trans e5), by omega, fun k H6 b6 p6 k0 k1 => ?_⟩
      obtain ⟨n, rfl⟩ : ∃ n : Nat, k = (n : Int) := ⟨k.toNat, by omega⟩
      exact ⟨1, (n : Int), rfl, rfl, 1 + n, by simp, by omega, fun v H7 e7 dv => fin H5 H6 H7 v _ (((e2.trans e3).trans e4).trans e5) b6 p6 e7 dv (.sets (1 + n) (by omega) (by omega))⟩
end
end K06

set_option Elab.async false
set_option linter.all false
set_option maxRecDepth 100000
set_option maxHeartbeats 8000000
/-! S32: comprehensions of new lists, a dict of three texts, stores. -/
namespace S
open PySem PySem.Spec PyProof.Rows L2 Evl J ClX StX
/-- lists, one behind another -/
structure Rws (H : Hp) (rs : List Addr) (Rs : List (List V)) : Prop where
  len : rs.length = Rs.length
  at_ : ∀ (n : Nat) p r, rs[n]? = some p → Rs[n]? = some r → H p = some (.lst r)
theorem Rws.ext {H H' : Hp} {rs : List Addr} {Rs : List (List V)} (h : Rws H rs Rs) (e : Ex H H') : Rws H' rs Rs := ⟨h.len, fun n p r h1 h2 => e _ _ (h.at_ n p r h1 h2)⟩
theorem Rws.keep {H H' : Hp} {rs : List Addr} {Rs : List (List V)} (h : Rws H rs Rs) (e : ∀ p ∈ rs, H' p = H p) : Rws H' rs Rs := ⟨h.len, fun n p r h1 h2 => (e p (List.mem_of_getElem? h1)).trans (h.at_ n p r h1 h2)⟩
section
variable {K : PySem.W.Frag} {σ : L2.St} {H : Hp} {te ta tb : TE}
theorem el_news {α : Type} {g : α → V} {as : α → List V} {xs : List α} {a : Addr} {tl : TE} {j : Nat} {vs : List Nat} {Q : VK} (h : Ev tl σ H (.ref a)) (hx : SqL K H a (xs.map g)) (hz : xs.length ≤ 1000) (hw : ∀ x, wipe ((wipe σ vs).set j (some x)) vs = wipe σ vs)
    (he : ∀ x, x ∈ xs → EvL te ((wipe σ vs).set j (some (g x))) H (as x))
    (k : ∀ D H2 rs, H D = none → Ex H H2 → H2 D = some (.lst (rs.map V.ref)) → Rws H2 rs (xs.map as) → rs.Nodup → (∀ p ∈ rs, H p = none ∧ p ≠ D) → Q (.ref D) H2) : tLc (iList K tl) (gName j) tYes te vs σ H Q := by
  refine h H (Ex.refl H) _ fun H0 e0 => ⟨a, rfl, ⟨_, ex_l e0 hx⟩, fun D hD => ?_⟩
  refine lc_list (xs := xs.map g) (fun i H' => ∃ rs, H' D = some (.lst (rs.map V.ref)) ∧ Ex H0 H' ∧ Rws H' rs ((xs.map as).take i) ∧ rs.Nodup ∧ ∀ p ∈ rs, H0 p = none ∧ p ≠ D) ⟨[], upd_same, Ex.new hD, ⟨rfl, fun n p r e => by simp at e⟩, List.nodup_nil, fun p hp => nomatch hp⟩
    (fun i H' _ ⟨_, _, e, _⟩ => ex_l (e0.trans e) hx) (fun i x H' hi ⟨rs, h1, h2, h3, h4, h5⟩ => ⟨hw x, ?_⟩) (fun H' ⟨rs, h1, h2, h3, h4, h5⟩ => ?_)
  · rw [List.getElem?_map] at hi
    cases hg : xs[i]? with
    | none =>
      rw [hg] at hi
      cases hi
    | some y =>
      rw [hg] at hi
      obtain rfl := Option.some.inj hi
      have hl : i < xs.length := (List.getElem?_eq_some_iff.mp hg).1
      have rl : rs.length = i := by
        rw [h3.len, List.length_take, List.length_map]
        omega
      show te _ H' _
      refine he y (List.mem_of_getElem? hg) H' (e0.trans h2) _ fun l H4 nl e4 h4l => ?_
      have nD : l ≠ D := fun z => by
        rw [z, h1] at nl
        cases nl
      have has : (xs.map as)[i]? = some (as y) := by rw [List.getElem?_map, hg]; rfl
      refine ⟨rs.map V.ref, e4 _ _ h1, sz_lt (by rw [List.length_map]; omega), rs ++ [l], by rw [upd_same, List.map_append]; rfl, Ex.mut (h2.trans e4) hD, ⟨?_, ?_⟩, ?_, ?_⟩
      · rw [List.length_append, rl, List.length_take, List.length_map, List.length_singleton]
        omega
      · intro n p r hp hr
        rw [List.getElem?_take] at hr
        by_cases hn : n < i
        · rw [if_pos (by omega)] at hr
          rw [List.getElem?_append_left (by omega)] at hp
          have mem := List.mem_of_getElem? hp
          rw [upd_ne (h5 p mem).2]
          exact e4 _ _ (h3.at_ n p r hp (by rw [List.getElem?_take, if_pos hn]; exact hr))
        · by_cases hn2 : n < i + 1
          · have e : n = i := by omega
            subst e
            rw [if_pos hn2, has] at hr
            obtain rfl := Option.some.inj hr
            rw [List.getElem?_append_right (by omega), rl] at hp
            simp at hp
            subst hp
            rw [upd_ne nD]
            exact h4l
          · rw [if_neg hn2] at hr
            cases hr
      · rw [List.nodup_append]
        refine ⟨h4, by simp, fun p hp q hq z => ?_⟩
        rw [List.mem_singleton] at hq
        rw [hq] at z
        obtain ⟨n, hn, e⟩ := List.getElem_of_mem hp
        have hr : ∃ r, ((xs.map as).take i)[n]? = some r := ⟨_, List.getElem?_eq_getElem (by rw [← h3.len]; exact hn)⟩
        obtain ⟨r, hr⟩ := hr
        have := h3.at_ n p r (by rw [List.getElem?_eq_getElem hn, e]) hr
        rw [z, nl] at this
        cases this
      · intro p hp
        rcases List.mem_append.mp hp with q | q
        · exact h5 p q
        · rw [List.mem_singleton.mp q]
          exact ⟨fresh_back h2 nl, nD⟩
  · rw [List.length_map] at h3
    rw [List.take_of_length_le (by simp)] at h3
    exact k D H' rs (fresh_back e0 hD) (e0.trans h2) h1 h3 h4 fun p hp => ⟨fresh_back e0 (h5 p hp).1, (h5 p hp).2⟩
theorem q_setDN {α : Type} {g : α → V} {as : α → List V} {xs : List α} {a : Addr} {tl : TE} {j i : Nat} {vs : List Nat} {dd : Addr} {kvs : List (Key × V)} {key : Str} {tz : TS} {E : Ends} (hσ : σ[i]? = some (some (.ref dd))) (hd : H dd = some (.dK kvs)) (hkz : kvs.length < 1000)
    (h : Ev tl σ H (.ref a)) (hx : SqL K H a (xs.map g)) (hz : xs.length ≤ 1000) (hw : ∀ x, wipe ((wipe σ vs).set j (some x)) vs = wipe σ vs)
    (he : ∀ x, x ∈ xs → EvL te ((wipe σ vs).set j (some (g x))) H (as x))
    (k : ∀ D H2 rs, H D = none → Ex H H2 → H2 D = some (.lst (rs.map V.ref)) → Rws H2 rs (xs.map as) → rs.Nodup → (∀ p ∈ rs, H p = none ∧ p ≠ D) → tz E σ (upd H2 dd (.dK (putK kvs (Sum.inr key) (.ref D))))) :
    tSeq (tAsg (tLc (iList K tl) (gName j) tYes te vs) (gSub (tVar i) (tC (.str key)) rSetD)) tz E σ H :=
  el_news (Q := fun v H1 => gSub (tVar i) (tC (.str key)) rSetD v σ H1 (tz E)) h hx hz hw he fun D H2 rs n2 e2 h2 r2 nd fr => ⟨.ref dd, hσ, ⟨dd, _, rfl, DPut.k (k := Sum.inr key) (e2 _ _ hd) (sz_lt (by omega)), k D H2 rs n2 e2 h2 r2 nd fr⟩⟩
theorem q_told {x1 x2 x3 : Str} {t1 t2 t3 : TE} {ys : List V} {u w : V} {i : Nat} {tz : TS} {E : Ends} (h1 : EvL t1 σ H ys) (h2 : Ev t2 σ H u) (h3 : Ev t3 σ H w)
    (k : ∀ p l H1, H p = none → H l = none → p ≠ l → Ex H H1 → H1 p = some (.dK (mergeK [] [(Sum.inr x1, .ref l), (Sum.inr x2, u), (Sum.inr x3, w)])) → H1 l = some (.lst ys) → tz E (σ.set i (some (.ref p))) H1) :
    tSeq (tAsg (tDisp [(tC (.str x1), t1), (tC (.str x2), t2), (tC (.str x3), t3)]) (gName i)) tz E σ H := by
  intro p hp
  have e1 : Ex H (upd H p (.dK [])) := Ex.new hp
  refine h1 _ e1 _ fun l H2 n2 e2 g2 => h2 H2 (e1.trans e2) _ fun H3 e3 => h3 H3 ((e1.trans e2).trans e3) _ fun H4 e4 => ?_
  have lp : l ≠ p := fun z => by
    rw [z, upd_same] at n2
    cases n2
  refine ⟨e4 _ _ (e3 _ _ (e2 _ _ upd_same)), [(Sum.inr x1, .ref l), (Sum.inr x2, u), (Sum.inr x3, w)], rfl, by simp, k p l _ hp (fresh_back e1 n2) (Ne.symm lp) (fun c o z => ?_) upd_same ?_⟩
  · have ne := ne_of_none z hp
    rw [upd_ne ne]
    exact e4 _ _ (e3 _ _ (e2 _ _ (e1 _ _ z)))
  · rw [upd_ne lp]
    exact e4 _ _ (e3 _ _ g2)
theorem perm_map {α β : Type} {f : α → β} {ys zs : List β} (h : ys.Perm zs) : ∀ {l : List α}, zs = l.map f → ∃ l' : List α, ys = l'.map f ∧ l'.Perm l := by
  induction h with
  | nil =>
    intro l e
    exact ⟨[], rfl, by
      cases l with
      | nil => exact .nil
      | cons a l => cases e⟩
  | cons x _ ih =>
    intro l e
    cases l with
    | nil => cases e
    | cons a l =>
      obtain ⟨rfl, rfl⟩ := List.cons.inj e
      obtain ⟨l', e1, p1⟩ := ih rfl
      exact ⟨a :: l', by rw [e1]; rfl, p1.cons a⟩
  | swap x y t =>
    intro l e
    match l, e with
    | a :: b :: l, e =>
      obtain ⟨rfl, e2⟩ := List.cons.inj e
      obtain ⟨rfl, rfl⟩ := List.cons.inj e2
      exact ⟨b :: a :: l, rfl, .swap a b l⟩
  | trans _ _ ih1 ih2 =>
    intro l e
    obtain ⟨l2, e2, p2⟩ := ih2 e
    obtain ⟨l1, e1, p1⟩ := ih1 e2
    exact ⟨l1, e1, p1.trans p2⟩
end
end S

set_option Elab.async false
set_option linter.all false
set_option maxRecDepth 100000
set_option maxHeartbeats 8000000
/-! S33: the families by places: what they are, and that they are lawful. -/
namespace K06
open PySem PySem.Spec PyProof.Rows L2 Evl J ClX StX S
abbrev NT : Type := List (List Nat)
def natD (M : NT) : PyData := .list (M.map fun r => .list (r.map fun i : Nat => .int (i : Int)))
def planD (M T : NT) (lo hi : Nat) : PyData := .tuple [natD M, natD T, .int (lo : Int), .int (hi : Int)]
def nat_at (M : NT) (a b : Nat) : Nat := (M.getD a []).getD b 0
def sqB (n : Nat) (M : NT) : Bool := decide (M.length = n) && M.all fun r => decide (r.length = n) && r.all fun x => decide (x < n)
/-- the ten demands, by places -/
def lawB (n : Nat) (M T : NT) (lo hi : Nat) : Bool :=
  let R := List.range n
  let j := nat_at M
  let t := nat_at T
  (R.all fun a => R.all fun b => j a b == j b a && t a b == t b a) &&
  (R.all fun a => R.all fun b => R.all fun c => j (j a b) c == j a (j b c) && t (t a b) c == t a (t b c) && t a (j b c) == j (t a b) (t a c)) &&
  (R.all fun a => j a a == a && j lo a == a && t lo a == lo && t hi a == a && j hi a == hi)
def planB (n : Nat) (M T : NT) (lo hi : Nat) : Bool := decide (1 ≤ n) && decide (n ≤ 6) && sqB n M && sqB n T && decide (lo < n) && decide (hi < n) && lawB n M T lo hi
def PlanOf (d : PyData) (n : Nat) (M T : NT) (lo hi : Nat) : Prop := d = planD M T lo hi ∧ planB n M T lo hi = true
theorem fam_plan {most : Nat} {d : PyData} (h : Fam most d) (hm : most ≤ 6) : ∃ n M T lo hi, PlanOf d n M T lo hi ∧ (n ≤ 4 ∨ n ≤ most) := by
  cases h with
  | odd k hk =>
    match k, hk with
    | 0, _ => exact ⟨3, [[0, 1, 2], [1, 1, 2], [2, 2, 2]], [[0, 0, 0], [0, 0, 1], [0, 1, 2]], 0, 2, ⟨rfl, by decide +kernel⟩, by omega⟩
    | 1, _ => exact ⟨4, [[0, 1, 2, 3], [1, 1, 2, 3], [2, 2, 2, 3], [3, 3, 3, 3]], [[0, 0, 0, 0], [0, 0, 0, 1], [0, 0, 1, 2], [0, 1, 2, 3]], 0, 3, ⟨rfl, by decide +kernel⟩, by omega⟩
    | 2, _ => exact ⟨1, [[0]], [[0]], 0, 0, ⟨rfl, by decide +kernel⟩, by omega⟩
  | cost t b ht =>
    have h2 : t ≤ 4 := by omega
    match t, b, h2 with
    | 0, false, _ => exact ⟨2, [[0, 0], [0, 1]], [[0, 1], [1, 1]], 1, 0, ⟨rfl, by decide +kernel⟩, by omega⟩
    | 0, true, _ => exact ⟨2, [[0, 0], [0, 1]], [[0, 1], [1, 1]], 1, 0, ⟨rfl, by decide +kernel⟩, by omega⟩
    | 1, false, _ => exact ⟨3, [[0, 0, 0], [0, 1, 1], [0, 1, 2]], [[0, 1, 2], [1, 2, 2], [2, 2, 2]], 2, 0, ⟨rfl, by decide +kernel⟩, by omega⟩
    | 1, true, _ => exact ⟨3, [[0, 0, 0], [0, 1, 1], [0, 1, 2]], [[0, 1, 2], [1, 1, 2], [2, 2, 2]], 2, 0, ⟨rfl, by decide +kernel⟩, by omega⟩
    | 2, false, _ => exact ⟨4, [[0, 0, 0, 0], [0, 1, 1, 1], [0, 1, 2, 2], [0, 1, 2, 3]], [[0, 1, 2, 3], [1, 2, 3, 3], [2, 3, 3, 3], [3, 3, 3, 3]], 3, 0, ⟨rfl, by decide +kernel⟩, by omega⟩
    | 2, true, _ => exact ⟨4, [[0, 0, 0, 0], [0, 1, 1, 1], [0, 1, 2, 2], [0, 1, 2, 3]], [[0, 1, 2, 3], [1, 2, 2, 3], [2, 2, 2, 3], [3, 3, 3, 3]], 3, 0, ⟨rfl, by decide +kernel⟩, by omega⟩
    | 3, false, _ => exact ⟨5, [[0, 0, 0, 0, 0], [0, 1, 1, 1, 1], [0, 1, 2, 2, 2], [0, 1, 2, 3, 3], [0, 1, 2, 3, 4]], [[0, 1, 2, 3, 4], [1, 2, 3, 4, 4], [2, 3, 4, 4, 4], [3, 4, 4, 4, 4], [4, 4, 4, 4, 4]], 4, 0, ⟨rfl, by decide +kernel⟩, by omega⟩
    | 3, true, _ => exact ⟨5, [[0, 0, 0, 0, 0], [0, 1, 1, 1, 1], [0, 1, 2, 2, 2], [0, 1, 2, 3, 3], [0, 1, 2, 3, 4]], [[0, 1, 2, 3, 4], [1, 2, 3, 3, 4], [2, 3, 3, 3, 4], [3, 3, 3, 3, 4], [4, 4, 4, 4, 4]], 4, 0, ⟨rfl, by decide +kernel⟩, by omega⟩
    | 4, false, _ => exact ⟨6, [[0, 0, 0, 0, 0, 0], [0, 1, 1, 1, 1, 1], [0, 1, 2, 2, 2, 2], [0, 1, 2, 3, 3, 3], [0, 1, 2, 3, 4, 4], [0, 1, 2, 3, 4, 5]], [[0, 1, 2, 3, 4, 5], [1, 2, 3, 4, 5, 5], [2, 3, 4, 5, 5, 5], [3, 4, 5, 5, 5, 5], [4, 5, 5, 5, 5, 5], [5, 5, 5, 5, 5, 5]], 5, 0, ⟨rfl, by decide +kernel⟩, by omega⟩
    | 4, true, _ => exact ⟨6, [[0, 0, 0, 0, 0, 0], [0, 1, 1, 1, 1, 1], [0, 1, 2, 2, 2, 2], [0, 1, 2, 3, 3, 3], [0, 1, 2, 3, 4, 4], [0, 1, 2, 3, 4, 5]], [[0, 1, 2, 3, 4, 5], [1, 2, 3, 4, 4, 5], [2, 3, 4, 4, 4, 5], [3, 4, 4, 4, 4, 5], [4, 4, 4, 4, 4, 5], [5, 5, 5, 5, 5, 5]], 5, 0, ⟨rfl, by decide +kernel⟩, by omega⟩
  | lev t h1 ht =>
    have h2 : t ≤ 5 := by omega
    match t, h1, h2 with
    | 1, _, _ => exact ⟨2, [[0, 1], [1, 1]], [[0, 0], [0, 1]], 0, 1, ⟨rfl, by decide +kernel⟩, by omega⟩
    | 2, _, _ => exact ⟨3, [[0, 1, 2], [1, 1, 2], [2, 2, 2]], [[0, 0, 0], [0, 1, 1], [0, 1, 2]], 0, 2, ⟨rfl, by decide +kernel⟩, by omega⟩
    | 3, _, _ => exact ⟨4, [[0, 1, 2, 3], [1, 1, 2, 3], [2, 2, 2, 3], [3, 3, 3, 3]], [[0, 0, 0, 0], [0, 1, 1, 1], [0, 1, 2, 2], [0, 1, 2, 3]], 0, 3, ⟨rfl, by decide +kernel⟩, by omega⟩
    | 4, _, _ => exact ⟨5, [[0, 1, 2, 3, 4], [1, 1, 2, 3, 4], [2, 2, 2, 3, 4], [3, 3, 3, 3, 4], [4, 4, 4, 4, 4]], [[0, 0, 0, 0, 0], [0, 1, 1, 1, 1], [0, 1, 2, 2, 2], [0, 1, 2, 3, 3], [0, 1, 2, 3, 4]], 0, 4, ⟨rfl, by decide +kernel⟩, by omega⟩
    | 5, _, _ => exact ⟨6, [[0, 1, 2, 3, 4, 5], [1, 1, 2, 3, 4, 5], [2, 2, 2, 3, 4, 5], [3, 3, 3, 3, 4, 5], [4, 4, 4, 4, 4, 5], [5, 5, 5, 5, 5, 5]], [[0, 0, 0, 0, 0, 0], [0, 1, 1, 1, 1, 1], [0, 1, 2, 2, 2, 2], [0, 1, 2, 3, 3, 3], [0, 1, 2, 3, 4, 4], [0, 1, 2, 3, 4, 5]], 0, 5, ⟨rfl, by decide +kernel⟩, by omega⟩
  | sets m h1 h2 =>
    match m, h1, h2 with
    | 1, _, _ => exact ⟨2, [[0, 1], [1, 1]], [[0, 0], [0, 1]], 0, 1, ⟨rfl, by decide +kernel⟩, by omega⟩
    | 2, _, _ => exact ⟨4, [[0, 1, 2, 3], [1, 1, 3, 3], [2, 3, 2, 3], [3, 3, 3, 3]], [[0, 0, 0, 0], [0, 1, 0, 1], [0, 0, 2, 2], [0, 1, 2, 3]], 0, 3, ⟨rfl, by decide +kernel⟩, by omega⟩
/-- a plan told with names, in some order -/
structure Img (n : Nat) (M T : NT) (lo hi : Nat) (φ : Nat → Str) (O : List Nat) (G : List Str) (J' T' : List (List Str)) (l h : Str) : Prop where
  perm : O.Perm (List.range n)
  inj : ∀ a b, a < n → b < n → φ a = φ b → a = b
  g : G = O.map φ
  j : J' = O.map fun a => O.map fun b => φ (nat_at M a b)
  t : T' = O.map fun a => O.map fun b => φ (nat_at T a b)
  l : l = φ lo
  h : h = φ hi
theorem sq_at {n : Nat} {M : NT} (h : sqB n M = true) {a b : Nat} (ha : a < n) (hb : b < n) : nat_at M a b < n ∧ ∃ r, M[a]? = some r ∧ r[b]? = some (nat_at M a b) := by
  unfold sqB at h
  rw [Bool.and_eq_true, decide_eq_true_eq, List.all_eq_true] at h
  obtain ⟨h1, h2⟩ := h
  have ha2 : a < M.length := by omega
  have hr := h2 _ (List.getElem_mem ha2)
  rw [Bool.and_eq_true, decide_eq_true_eq, List.all_eq_true] at hr
  obtain ⟨h3, h4⟩ := hr
  have hb2 : b < (M[a]).length := by omega
  have e : nat_at M a b = (M[a])[b] := by
    unfold nat_at
    have e1 : List.getD M a [] = M[a] := by
      rw [List.getD_eq_getElem?_getD, List.getElem?_eq_getElem ha2]
      rfl
    rw [e1, List.getD_eq_getElem?_getD, List.getElem?_eq_getElem hb2]
    rfl
  refine ⟨?_, M[a], List.getElem?_eq_getElem ha2, ?_⟩
  · rw [e]
    have := h4 _ (List.getElem_mem hb2)
    exact of_decide_eq_true this
  · rw [e, List.getElem?_eq_getElem hb2]
section
variable {n : Nat} {M T : NT} {lo hi : Nat} {φ : Nat → Str} {O : List Nat} {G : List Str} {J' T' : List (List Str)} {l h : Str}
theorem img_mem (i : Img n M T lo hi φ O G J' T' l h) {a : Nat} : a ∈ O ↔ a < n := by rw [i.perm.mem_iff, List.mem_range]
theorem idx_img {φ : Nat → Str} {a : Nat} : ∀ {O : List Nat}, (∀ b ∈ O, φ b = φ a → b = a) → a ∈ O → ∃ k, (O.map φ).idxOf (φ a) = k ∧ O[k]? = some a
  | [], _, h => nomatch h
  | b :: r, inj, h => by
    rw [List.map_cons, List.idxOf_cons]
    by_cases e : φ b = φ a
    · have := inj b List.mem_cons_self e
      subst this
      exact ⟨0, by simp, rfl⟩
    · have hr : a ∈ r := by
        rcases List.mem_cons.mp h with z | z
        · exact absurd (by rw [z]) e
        · exact z
      obtain ⟨k, h1, h2⟩ := idx_img (φ := φ) (a := a) (O := r) (fun c hc => inj c (List.mem_cons_of_mem _ hc)) hr
      refine ⟨k + 1, ?_, by simpa using h2⟩
      have : (φ b == φ a) = false := by simpa using e
      rw [this, cond_false, h1]
theorem ap_img {N : NT} (i : Img n M T lo hi φ O G J' T' l h) {a b : Nat} (ha : a < n) (hb : b < n) : ap G (O.map fun a => O.map fun b => φ (nat_at N a b)) (φ a) (φ b) = φ (nat_at N a b) := by
  have inj : ∀ c, c < n → ∀ d ∈ O, φ d = φ c → d = c := fun c hc d hd e => i.inj d c ((img_mem i).mp hd) hc e
  obtain ⟨k, k1, k2⟩ := idx_img (inj a ha) ((img_mem i).mpr ha)
  obtain ⟨m, m1, m2⟩ := idx_img (inj b hb) ((img_mem i).mpr hb)
  unfold ap
  have e1 : (O.map fun a => O.map fun b => φ (nat_at N a b)).getD k [] = O.map fun b => φ (nat_at N a b) := by
    rw [List.getD_eq_getElem?_getD, List.getElem?_map, k2]
    rfl
  rw [i.g, k1, m1, e1, List.getD_eq_getElem?_getD, List.getElem?_map, m2]
  rfl
theorem img_lt (i : Img n M T lo hi φ O G J' T' l h) {x : Str} (hx : x ∈ G) : ∃ a, a < n ∧ x = φ a := by
  rw [i.g] at hx
  obtain ⟨a, ha, rfl⟩ := List.mem_map.mp hx
  exact ⟨a, (img_mem i).mp ha, rfl⟩
theorem nd_map {α β : Type} {f : α → β} : ∀ {l : List α}, l.Nodup → (∀ a b, a ∈ l → b ∈ l → f a = f b → a = b) → (l.map f).Nodup
  | [], _, _ => List.nodup_nil
  | a :: r, h, inj => by
    rw [List.nodup_cons] at h
    rw [List.map_cons, List.nodup_cons]
    refine ⟨fun z => ?_, nd_map h.2 fun x y hx hy => inj x y (List.mem_cons_of_mem _ hx) (List.mem_cons_of_mem _ hy)⟩
    obtain ⟨b, hb, e⟩ := List.mem_map.mp z
    have := inj b a (List.mem_cons_of_mem _ hb) List.mem_cons_self e
    subst this
    exact h.1 hb
theorem img_wf {N : NT} (i : Img n M T lo hi φ O G J' T' l h) (s : sqB n N = true) : Wf G (O.map fun a => O.map fun b => φ (nat_at N a b)) := by
  refine ⟨by rw [i.g]; simp, fun r hr => ?_, fun r hr x hx => ?_⟩
  · obtain ⟨a, _, rfl⟩ := List.mem_map.mp hr
    rw [i.g]
    simp
  · obtain ⟨a, ha, rfl⟩ := List.mem_map.mp hr
    obtain ⟨b, hb, rfl⟩ := List.mem_map.mp hx
    rw [i.g]
    exact List.mem_map_of_mem ((img_mem i).mpr (sq_at s ((img_mem i).mp ha) ((img_mem i).mp hb)).1)
theorem img_good (i : Img n M T lo hi φ O G J' T' l h) (p : planB n M T lo hi = true) (run : ∀ a, a < n → runB (φ a) = true) : Good G J' T' l h := by
  unfold planB at p
  simp only [Bool.and_eq_true, decide_eq_true_eq] at p
  obtain ⟨⟨⟨⟨⟨⟨p1, p2⟩, p3⟩, p4⟩, p5⟩, p6⟩, p7⟩ := p
  have len : O.length = n := by
    have := i.perm.length_eq
    rwa [List.length_range] at this
  have nd : O.Nodup := i.perm.nodup_iff.mpr List.nodup_range
  have ge := i.g
  have je := i.j
  have te := i.t
  refine ⟨?_, ?_, ?_, ?_, ?_, ?_, ?_, ?_⟩
  · rw [ge]
    exact nd_map nd fun a b ha hb e => i.inj a b ((img_mem i).mp ha) ((img_mem i).mp hb) e
  · rw [ge, List.length_map]
    omega
  · rw [ge, List.length_map]
    omega
  · intro x hx
    obtain ⟨a, ha, rfl⟩ := img_lt i hx
    exact run a ha
  · rw [je]
    exact img_wf i p3
  · rw [te]
    exact img_wf i p4
  · rw [i.l, ge]
    exact List.mem_map_of_mem ((img_mem i).mpr p5)
  · rw [i.h, ge]
    exact List.mem_map_of_mem ((img_mem i).mpr p6)
theorem rng_all {n : Nat} {p : Nat → Bool} (h : (List.range n).all p = true) {a : Nat} (ha : a < n) : p a = true := List.all_eq_true.mp h a (List.mem_range.mpr ha)
/-- what is told by a lawful plan has no fault -/
theorem img_fault (i : Img n M T lo hi φ O G J' T' l h) (p : planB n M T lo hi = true) : fault G J' T' l h = none := by
  unfold planB at p
  simp only [Bool.and_eq_true, decide_eq_true_eq] at p
  obtain ⟨⟨⟨⟨⟨⟨p1, p2⟩, p3⟩, p4⟩, p5⟩, p6⟩, p7⟩ := p
  unfold lawB at p7
  rw [Bool.and_eq_true, Bool.and_eq_true] at p7
  obtain ⟨⟨q1, q2⟩, q3⟩ := p7
  have je := i.j
  have te := i.t
  have aj : ∀ {a b}, a < n → b < n → ap G J' (φ a) (φ b) = φ (nat_at M a b) := fun ha hb => by rw [je]; exact ap_img i ha hb
  have at_ : ∀ {a b}, a < n → b < n → ap G T' (φ a) (φ b) = φ (nat_at T a b) := fun ha hb => by rw [te]; exact ap_img i ha hb
  have bj : ∀ {a b}, a < n → b < n → nat_at M a b < n := fun ha hb => (sq_at p3 ha hb).1
  have bt : ∀ {a b}, a < n → b < n → nat_at T a b < n := fun ha hb => (sq_at p4 ha hb).1
  have s1 : ∀ {a b}, a < n → b < n → nat_at M a b = nat_at M b a ∧ nat_at T a b = nat_at T b a := fun ha hb => by
    have z := rng_all (rng_all q1 ha) hb
    simpa using z
  have s2 : ∀ {a b c}, a < n → b < n → c < n → (nat_at M (nat_at M a b) c = nat_at M a (nat_at M b c) ∧ nat_at T (nat_at T a b) c = nat_at T a (nat_at T b c)) ∧ nat_at T a (nat_at M b c) = nat_at M (nat_at T a b) (nat_at T a c) := fun ha hb hc => by
    have z := rng_all (rng_all (rng_all q2 ha) hb) hc
    simpa using z
  have s3 : ∀ {a}, a < n → (((nat_at M a a = a ∧ nat_at M lo a = a) ∧ nat_at T lo a = lo) ∧ nat_at T hi a = a) ∧ nat_at M hi a = hi := fun ha => by
    have z := rng_all q3 ha
    simpa using z
  have le := i.l
  have he := i.h
  unfold fault
  rw [List.findSome?_eq_none_iff]
  intro e hm
  rw [Option.map_eq_none_iff, List.find?_eq_none]
  intro r hr
  obtain ⟨m1, m2⟩ := tups_mem hr
  have one : r.length = 1 → ∃ a, a < n ∧ r = [φ a] := fun hl => by
    match r, hl, m2 with
    | [x], _, m2 =>
      obtain ⟨a, ha, rfl⟩ := img_lt i (m2 x (by simp))
      exact ⟨a, ha, rfl⟩
  have two : r.length = 2 → ∃ a b, a < n ∧ b < n ∧ r = [φ a, φ b] := fun hl => by
    match r, hl, m2 with
    | [x, y], _, m2 =>
      obtain ⟨a, ha, rfl⟩ := img_lt i (m2 x (by simp))
      obtain ⟨b, hb, rfl⟩ := img_lt i (m2 y (by simp))
      exact ⟨a, b, ha, hb, rfl⟩
  have thr : r.length = 3 → ∃ a b c, a < n ∧ b < n ∧ c < n ∧ r = [φ a, φ b, φ c] := fun hl => by
    match r, hl, m2 with
    | [x, y, z], _, m2 =>
      obtain ⟨a, ha, rfl⟩ := img_lt i (m2 x (by simp))
      obtain ⟨b, hb, rfl⟩ := img_lt i (m2 y (by simp))
      obtain ⟨c, hc, rfl⟩ := img_lt i (m2 z (by simp))
      exact ⟨a, b, c, ha, hb, hc, rfl⟩
  simp only [demL, List.mem_cons, List.not_mem_nil, or_false] at hm
  rcases hm with rfl | rfl | rfl | rfl | rfl | rfl | rfl | rfl | rfl | rfl
  · obtain ⟨a, b, ha, hb, rfl⟩ := two m1
    simp only [dm26, aj ha hb, aj hb ha, (s1 ha hb).1]
    simp
  · obtain ⟨a, b, c, ha, hb, hc, rfl⟩ := thr m1
    simp only [dm27, aj ha hb, aj hb hc, aj (bj ha hb) hc, aj ha (bj hb hc), (s2 ha hb hc).1.1]
    simp
  · obtain ⟨a, ha, rfl⟩ := one m1
    simp only [dm28, aj ha ha, (s3 ha).1.1.1.1]
    simp
  · obtain ⟨a, ha, rfl⟩ := one m1
    simp only [dm29, le, aj p5 ha, (s3 ha).1.1.1.2]
    simp
  · obtain ⟨a, b, ha, hb, rfl⟩ := two m1
    simp only [dm30, at_ ha hb, at_ hb ha, (s1 ha hb).2]
    simp
  · obtain ⟨a, b, c, ha, hb, hc, rfl⟩ := thr m1
    simp only [dm31, at_ ha hb, at_ hb hc, at_ (bt ha hb) hc, at_ ha (bt hb hc), (s2 ha hb hc).1.2]
    simp
  · obtain ⟨a, b, c, ha, hb, hc, rfl⟩ := thr m1
    simp only [dm32, aj hb hc, at_ ha (bj hb hc), at_ ha hb, at_ ha hc, aj (bt ha hb) (bt ha hc), (s2 ha hb hc).2]
    simp
  · obtain ⟨a, ha, rfl⟩ := one m1
    simp only [dm33, le, at_ p5 ha, (s3 ha).1.1.2]
    simp
  · obtain ⟨a, ha, rfl⟩ := one m1
    simp only [dm34, he, at_ p6 ha, (s3 ha).1.2]
    simp
  · obtain ⟨a, ha, rfl⟩ := one m1
    simp only [dm35, he, aj p6 ha, (s3 ha).2]
    simp
end
end K06

set_option Elab.async false
set_option linter.all false
set_option maxRecDepth 100000
set_option maxHeartbeats 8000000
/-! S34: _law_told. -/
namespace K06
open PySem PySem.Spec PyProof.Rows L2 Evl J ClX StX S
abbrev sTo : Stmt := topS 48
def strsOf (J : List (List Str)) : List (List V) := J.map fun r => r.map V.str
/-- what is told, made of new lists that stand in one dict, once each -/
structure ToldM (K : PySem.W.Frag) (H : Hp) (d ln jn tn : Addr) (rj rt : List Addr) (G : List Str) (J T : List (List Str)) (lo hi : Str) : Prop where
  dict : ∃ kvs, H d = some (.dK kvs) ∧ kvs.length ≤ 5 ∧ valV kvs (Sum.inr "names") = some (.ref ln) ∧ valV kvs (Sum.inr "joins") = some (.ref jn) ∧ valV kvs (Sum.inr "products") = some (.ref tn) ∧ valV kvs (Sum.inr "low") = some (.str lo) ∧ valV kvs (Sum.inr "high") = some (.str hi)
  names : H ln = some (.lst (G.map V.str))
  joins : H jn = some (.lst (rj.map V.ref))
  prods : H tn = some (.lst (rt.map V.ref))
  rowj : Rws H rj (strsOf J)
  rowt : Rws H rt (strsOf T)
  nd : (ln :: (rj ++ rt)).Nodup
  gd : Good G J T lo hi
theorem dp_rows {K : PySem.W.Frag} {H : Hp} {jn : Addr} {rj : List Addr} {J : List (List Str)} (hj : H jn = some (.lst (rj.map V.ref))) (r : Rws H rj (strsOf J)) : Dp K H (.ref jn) (rowsL J) :=
  .lst (sq_of hj) (dpa_of (by rw [List.length_map, List.length_map, r.len, strsOf, List.length_map]) fun n v d hv hd => by
    rw [List.getElem?_map] at hv hd
    cases hg : rj[n]? with
    | none =>
      rw [hg] at hv
      cases hv
    | some p =>
      rw [hg] at hv
      obtain rfl := Option.some.inj hv
      cases hr : J[n]? with
      | none =>
        rw [hr] at hd
        cases hd
      | some row =>
        rw [hr] at hd
        obtain rfl := Option.some.inj hd
        exact .lst (sq_of (r.at_ n p (row.map V.str) hg (by rw [strsOf, List.getElem?_map, hr]; rfl))) (dpa_strs row))
theorem ToldM.at_ {K : PySem.W.Frag} {H : Hp} {d ln jn tn : Addr} {rj rt : List Addr} {G : List Str} {J T : List (List Str)} {lo hi : Str} (m : ToldM K H d ln jn tn rj rt G J T lo hi) : ToldAt K H d G J T lo hi := by
  obtain ⟨kvs, h1, _, h2, h3, h4, h5, h6⟩ := m.dict
  exact ⟨⟨kvs, ln, .ref jn, .ref tn, h1, h2, sq_of m.names, h3, dp_rows m.joins m.rowj, h4, dp_rows m.prods m.rowt, h5, h6⟩, m.gd⟩
theorem ToldM.ext {K : PySem.W.Frag} {H H' : Hp} {d ln jn tn : Addr} {rj rt : List Addr} {G : List Str} {J T : List (List Str)} {lo hi : Str} (m : ToldM K H d ln jn tn rj rt G J T lo hi) (e : Ex H H') : ToldM K H' d ln jn tn rj rt G J T lo hi := by
  obtain ⟨kvs, h1, h2⟩ := m.dict
  exact ⟨⟨kvs, e _ _ h1, h2⟩, e _ _ m.names, e _ _ m.joins, e _ _ m.prods, m.rowj.ext e, m.rowt.ext e, m.nd, m.gd⟩
/-- the names that may be told -/
def pool : List Str := ["0", "near", "a1", "zz", "top", "b", "none", "9", "nil", "w12345678901"]
def spTo (K : PySem.W.Frag) : Sp := fun vs H Q _ => ∃ (p c : Addr) (m : Nat) (v : V) (D : PyData) (n : Nat) (M0 T0 : NT) (lo hi : Nat), vs = [.ref p, v] ∧ PenC H p c m ∧ m ≤ 900000 - 16 ∧ Dp K (dl p H) v D ∧ PlanOf D n M0 T0 lo hi ∧
  ∀ d H' ln jn tn rj rt G J T l h φ O, But p H H' → PenC H' p c (m + 16) → ToldM K H' d ln jn tn rj rt G J T l h → Img n M0 T0 lo hi φ O G J T l h → (∀ a, a < n → φ a ∈ pool) → Q (.ref d) H'
/-- an entry of rows of places -/
theorem nat_rows {K : PySem.W.Frag} {H : Hp} {j : V} {M : NT} {a b x : Nat} {r : List Nat} (dp : Dp K H j (natD M)) (h1 : M[a]? = some r) (h2 : r[b]? = some x) :
    ∃ p q ys zs, j = .ref p ∧ SqL K H p ys ∧ atI ys (a : Int) = some (.ref q) ∧ SqL K H q zs ∧ atI zs (b : Int) = some (.int (x : Int)) := by
  unfold natD at dp
  cases dp with
  | @lst p ys _ hs ha =>
    have hl := dpa_len ha
    rw [List.length_map] at hl
    have ha1 := (List.getElem?_eq_some_iff.mp h1).1
    have hv : ys[a]? = some ys[a] := List.getElem?_eq_getElem (by omega)
    obtain ⟨d1, hd1, dp1⟩ := dpa_get ha hv
    rw [List.getElem?_map, h1] at hd1
    obtain rfl := Option.some.inj hd1
    generalize hyx : ys[a] = u at *
    cases dp1 with
    | @lst q zs _ hs2 ha2 =>
      have hl2 := dpa_len ha2
      rw [List.length_map] at hl2
      have hb1 := (List.getElem?_eq_some_iff.mp h2).1
      have hv2 : zs[b]? = some zs[b] := List.getElem?_eq_getElem (by omega)
      obtain ⟨d2, hd2, dp2⟩ := dpa_get ha2 hv2
      rw [List.getElem?_map, h2] at hd2
      obtain rfl := Option.some.inj hd2
      generalize hyz : zs[b] = z at *
      cases dp2
      exact ⟨p, q, ys, zs, rfl, hs, atI_nat hv, hs2, atI_nat hv2⟩
theorem plan_at {K : PySem.W.Frag} {H : Hp} {v : V} {M T : NT} {lo hi : Nat} (dp : Dp K H v (planD M T lo hi)) : ∃ p vj vt, v = .ref p ∧ SqT K H p [vj, vt, .int (lo : Int), .int (hi : Int)] ∧ Dp K H vj (natD M) ∧ Dp K H vt (natD T) := by
  unfold planD at dp
  cases dp with
  | @tup p xs _ hs ha =>
    cases ha with
    | @cons vj _ _ _ d1 r1 =>
      cases r1 with
      | @cons vt _ _ _ d2 r2 =>
        cases r2 with
        | cons d3 r3 =>
          cases r3 with
          | cons d4 r4 =>
            cases r4
            cases d3
            cases d4
            exact ⟨p, vj, vt, rfl, hs, d1, d2⟩
theorem nat_len {K : PySem.W.Frag} {H : Hp} {j : V} {M : NT} (dp : Dp K H j (natD M)) : ∃ p ys, j = .ref p ∧ SqL K H p ys ∧ ys.length = M.length := by
  unfold natD at dp
  cases dp with
  | @lst p ys _ hs ha =>
    have hl := dpa_len ha
    rw [List.length_map] at hl
    exact ⟨p, ys, rfl, hs, hl⟩
theorem merge3 {a b c : Key} {x y z : V} : mergeK [] [(a, x), (b, y), (c, z)] = putK (putK (putK [] a x) b y) c z := rfl
theorem valV_at {kvs : List (Key × V)} {k : Key} {v : V} : valV (putK kvs k v) k = some v := by rw [valV_put, if_pos rfl]
theorem valV_off {kvs : List (Key × V)} {k k2 : Key} {v : V} (h : k2 ≠ k) : valV (putK kvs k v) k2 = valV kvs k2 := by rw [valV_put, if_neg h]
section
variable {K : PySem.W.Frag} {σ : L2.St} {H : Hp} {tl : TE} {tz : TS} {E : Ends} {p c l : Addr} {m n i jn : Nat} {xs : List V}
theorem q_shuf (hσ : σ[0]? = some (some (.ref p))) (hp : PenC H p c m) (hm : m ≤ 900000) (hl : EvL tl σ H xs) (hz : xs.length ≤ 1000)
    (k : ∀ (q : Addr) (H' : Hp) (ys : List V), But p H H' → PenC H' p c (m + xs.length) → ys.Perm xs → H' q = some (.lst ys) → q ≠ p → tz E (σ.set i (some (.ref q))) H') : tSeq (tAsg (tCall (spShuf K) [] E0 (tCons (tVar 0) (tCons tl tNil))) (gName i)) tz E σ H :=
  ⟨_, hσ, hl H (Ex.refl H) _ fun l H1 n1 e1 h1 => ⟨p, c, l, xs, m, rfl, hp.ext e1, hm, sq_of h1, hz, fun q H' ys nq b pen pm hq ne => k q H' ys ((But.of e1).trans b) pen pm hq ne⟩⟩
theorem q_shufCut (hσ : σ[0]? = some (some (.ref p))) (hp : PenC H p c m) (hm : m ≤ 900000) (hl : Ev tl σ H (.ref l)) (sl : SqL K H l xs) (hz : xs.length ≤ 1000) (hn : σ[jn]? = some (some (.int (n : Int))))
    (k : ∀ (q : Addr) (H' : Hp) (ys : List V), But p H H' → PenC H' p c (m + xs.length) → ys.Perm xs → H' q = some (.lst (ys.take n)) → tz E (σ.set i (some (.ref q))) H') : tSeq (tAsg (tSl (rSlL K) (tCall (spShuf K) [] E0 (tCons (tVar 0) (tCons tl tNil))) tNoPart (tPart (tVar jn))) (gName i)) tz E σ H :=
  ⟨_, hσ, hl H (Ex.refl H) _ fun H1 e1 => ⟨p, c, l, xs, m, rfl, hp.ext e1, hm, ex_l e1 sl, hz, fun q H' ys nq b pen pm hq ne => ⟨_, hn, _, rfl, q, ys, rfl, sq_of hq, fun r hr => k r _ ys (((But.of e1).trans b).trans (But.of (Ex.new hr))) (pen.ext (Ex.new hr)) pm (by rw [upd_same, cut_take])⟩⟩⟩
end
abbrev rPl (K : PySem.W.Frag) (k : Int) : TE := tOp (rIxL K) (tVar 5) (tOp (rIxL K) (tOp (rIxL K) (tOp (rIxT K) (tVar 1) (tC (.int k))) (tVar 8)) (tVar 9))
theorem row_el {K : PySem.W.Frag} {H : Hp} {x0 x2 x3 x6 x7 x9 : Option V} {k : Int} {pv ol nl : Addr} {xs : List V} {jv : V} {M : NT} {n a : Nat} {φ : Nat → Str} {O : List Nat} {nm : List Str} (st : SqT K H pv xs) (hx : atI xs k = some jv) (dj : Dp K H jv (natD M)) (sq : sqB n M = true) (ha : a < n)
    (ho : H ol = some (.lst (O.map fun a : Nat => V.int (a : Int)))) (hO : ∀ b ∈ O, b < n) (hz : O.length ≤ 100) (hn : H nl = some (.lst (nm.map V.str))) (at_ : ∀ a, a < n → atI (nm.map V.str) (a : Int) = some (.str (φ a))) :
    EvL (tLc (iList K (tVar 4)) (gName 9) tYes (rPl K k) [9]) [x0, some (.ref pv), x2, x3, some (.ref ol), some (.ref nl), x6, x7, some (.int (a : Int)), x9] H ((O.map fun b => φ (nat_at M a b)).map V.str) := by
  rw [List.map_map]
  refine el_map (d := 0) (g := fun a : Nat => V.int (a : Int)) (f := V.str ∘ fun b => φ (nat_at M a b)) (ev_var rfl) (sq_of ho) (by omega) (fun x => rfl) fun b H1 e1 hb => ?_
  obtain ⟨lt, r, r1, r2⟩ := sq_at sq ha (hO b hb)
  obtain ⟨p, q, ys, zs, rfl, t1, t2, t3, t4⟩ := nat_rows (dp_ext e1 dj) r1 r2
  exact ev_op (ev_var rfl) (ev_op (ev_op (ev_op (ev_var rfl) ev_c (rv_ixT (ex_t e1 st) hx)) (ev_var rfl) (rv_ixL t1 t2)) (ev_var rfl) (rv_ixL t3 t4)) (rv_ixL (sq_of (e1 _ _ hn)) (at_ _ lt))
section
variable {P : Program} {w : World} {K : PySem.W.Frag} {mg : Str → Option Value} {base : Heap} {f : Addr} {fd : FuncData}
abbrev NTo : List Str := ["_law_pen_here", "_law_places_here", "_law_many", "_law_pool", "_law_order", "_law_names", "_law_found", "_law_k", "_law_a", "_law_b"]
theorem scTo : FnScope NTo ["_law_pen_here", "_law_places_here"] (defScope sTo) := ⟨rfl, rfl, rfl, by decide +kernel, rfl, by decide +kernel, by decide +kernel⟩
theorem ok_to (F : FnP K "_law_told" sTo f fd) (T : Bl mg) (cS : Cal P w K mg base CX0 3 "_law_shuffled" ["_law_pen_here", "_law_items"] (spShuf K)) : FnOk P w K mg base CX0 4 f fd ["_law_pen_here", "_law_places_here"] (spTo K) := by
  refine F.ok scTo (fun vs H Q E h => ?_) (fun cdv A outer s H vs Q E hr h => ?_)
  · obtain ⟨p, c, m, v, D, n, M0, T0, lo, hi, rfl, _⟩ := h
    rfl
  · obtain ⟨p, c, m, v, D, n, M0, T0, lo, hi, rfl, hp, hm, dp, ⟨rfl, pb⟩, q⟩ := h
    have hu : (cxOf CX0 P w K mg base NTo "_law_told" (defScope sTo) f cdv A outer s H E).A.units + 1 < cLine := by
      have := hr.un
      show (A.deeper _).units + 1 < cLine
      omega
    refine ⟨_, pss_cons (ps_set (i := 2) scTo.nd rfl (Or.inl rfl) (pe_callB call_len_seq (by rfl) T.len boot_len (pa_cons (pe_ix ix_tup (pv 1) pe_int (fun _ _ => rfl)) pa_nil)))
      (pss_cons (ps_set (i := 3) scTo.nd rfl (Or.inl rfl) (pe_lst (pa_cons pe_str (pa_cons pe_str (pa_cons pe_str (pa_cons pe_str (pa_cons pe_str (pa_cons pe_str (pa_cons pe_str (pa_cons pe_str (pa_cons pe_str (pa_cons pe_str pa_nil))))))))))))
      (pss_cons (ps_set (i := 4) scTo.nd rfl (Or.inr rfl) (pe_cal cS hr rfl pass0 (pa_cons (pv 0) (pa_cons (pe_listRg rfl rfl T.lst (prg_1 rfl T.rng (pv 2))) pa_nil))))
      (pss_cons (ps_set (i := 5) scTo.nd rfl (Or.inr rfl) (pe_slice sl_list (pe_cal cS hr rfl pass0 (pa_cons (pv 0) (pa_cons (pv 3) pa_nil))) po_none (po_some (pv 2))))
      (pss_cons (ps_set (i := 6) scTo.nd rfl (Or.inl rfl) (pe_disp (pps_cons pe_str (pe_lc (own := [("_law_k", 7)]) (g := gName 7) (tt := tYes) (te := tOp (rIxL K) (tVar 5) (tVar 7)) rfl scTo.nd (pi_list (pv 4)) (blkOk_by (N := NTo) (sc := defScope sTo) (by decide +kernel)) (fun _ _ _ _ _ => pg_name (i := 7) scTo.nd rfl (Or.inl rfl)) (fun _ _ _ _ _ => pts_nil)
            (fun _ _ _ _ _ => by exact pe_ix ix_list (pv 5) (pv 7) (fun _ _ => rfl)))
          (pps_cons pe_str (pe_ix ix_list (pv 5) (pe_ix ix_tup (pv 1) pe_int (fun _ _ => rfl)) (fun _ _ => rfl)) (pps_cons pe_str (pe_ix ix_list (pv 5) (pe_ix ix_tup (pv 1) pe_int (fun _ _ => rfl)) (fun _ _ => rfl)) pps_nil))) rfl rfl (fun z => nomatch z) (by decide)))
      (pss_cons (ps_asg (pe_lc (own := [("_law_a", 8)]) (g := gName 8) (tt := tYes) (te := tLc (iList K (tVar 4)) (gName 9) tYes (rPl K 0) [9]) rfl scTo.nd (pi_list (pv 4)) (blkOk_by (N := NTo) (sc := defScope sTo) (by decide +kernel)) (fun _ _ _ _ _ => pg_name (i := 8) scTo.nd rfl (Or.inr rfl)) (fun _ _ _ _ _ => pts_nil)
            (fun _ _ _ _ _ => by exact pe_lc (own := [("_law_b", 9)]) (g := gName 9) (tt := tYes) (wi := iList K (tVar 4)) rfl scTo.nd (pi_list (pv 4)) (blkOk_by (N := NTo) (by rfl)) (fun _ _ _ _ _ => pg_name (i := 9) scTo.nd rfl (Or.inl rfl)) (fun _ _ _ _ _ => pts_nil) (fun _ _ _ _ _ => by exact pe_ix ix_list (pv 5) (pe_ix ix_list (pe_ix ix_list (pe_ix ix_tup (pv 1) pe_int (fun _ _ => rfl)) (pv 8) (fun _ _ => rfl)) (pv 9) (fun _ _ => rfl)) (fun _ _ => rfl)))) (pg_sub (pv 6) pe_str (set_dict hu)))
      (pss_cons (ps_asg (pe_lc (own := [("_law_a", 8)]) (g := gName 8) (tt := tYes) (te := tLc (iList K (tVar 4)) (gName 9) tYes (rPl K 1) [9]) rfl scTo.nd (pi_list (pv 4)) (blkOk_by (N := NTo) (sc := defScope sTo) (by decide +kernel)) (fun _ _ _ _ _ => pg_name (i := 8) scTo.nd rfl (Or.inr rfl)) (fun _ _ _ _ _ => pts_nil)
            (fun _ _ _ _ _ => by exact pe_lc (own := [("_law_b", 9)]) (g := gName 9) (tt := tYes) (wi := iList K (tVar 4)) rfl scTo.nd (pi_list (pv 4)) (blkOk_by (N := NTo) (by rfl)) (fun _ _ _ _ _ => pg_name (i := 9) scTo.nd rfl (Or.inl rfl)) (fun _ _ _ _ _ => pts_nil) (fun _ _ _ _ _ => by exact pe_ix ix_list (pv 5) (pe_ix ix_list (pe_ix ix_list (pe_ix ix_tup (pv 1) pe_int (fun _ _ => rfl)) (pv 8) (fun _ _ => rfl)) (pv 9) (fun _ _ => rfl)) (fun _ _ => rfl)))) (pg_sub (pv 6) pe_str (set_dict hu)))
      (pss_one (ps_ret (pv 6))))))))), ?_⟩
    obtain ⟨pv, vj, vt, rfl, st, dj, dt⟩ := plan_at dp
    have eB : Ex (dl p H) H := dl_ex
    have pb0 := pb
    unfold planB at pb
    simp only [Bool.and_eq_true, decide_eq_true_eq] at pb
    obtain ⟨⟨⟨⟨⟨⟨n1, n4⟩, sj⟩, sT⟩, blo⟩, bhi⟩, _⟩ := pb
    have lenM : M0.length = n := by
      have z := sj
      unfold sqB at z
      rw [Bool.and_eq_true, decide_eq_true_eq] at z
      exact z.1
    obtain ⟨pj, ys, rfl, qj, lj⟩ := nat_len dj
    refine q_asg (v := .int (n : Int)) (ev_is (ev_lenS (ev_op (ev_var rfl) ev_c (rv_ixT (ex_t eB st) (atI_nat (j := 0) rfl))) (.inl (ex_l eB qj))) (by rw [lj, lenM])) fun H1 e1 => ?_
    refine q_asgL (xs := pool.map V.str) (el_lst (ea_cons ev_c (ea_cons ev_c (ea_cons ev_c (ea_cons ev_c (ea_cons ev_c (ea_cons ev_c (ea_cons ev_c (ea_cons ev_c (ea_cons ev_c (ea_cons ev_c ea_nil)))))))))) (by simp [pool])) fun lp H2 np e2 h2 => ?_
    have lpp : lp ≠ p := fun z => by
      obtain ⟨ns, i, v, g1, _⟩ := hp
      rw [z, e1 _ _ g1] at np
      cases np
    refine q_shuf (K := K) (c := c) (m := m) (p := p) rfl (hp.ext (e1.trans e2)) (by omega) (el_rg (n := n) (ev_var rfl) (by omega)) (by simp; omega) fun ol H3 ys3 b3 p3 pm3 h3 ol_p => ?_
    obtain ⟨O, rfl, pO⟩ := perm_map pm3 rfl
    rw [List.length_map, List.length_range] at p3
    refine q_shufCut (K := K) (c := c) (m := m + n) (p := p) (n := n) rfl p3 (by omega) (ev_var rfl) (sq_of (b3 _ _ lpp h2)) (by simp [pool]) rfl fun nl H4 ys4 b4 p4 pm4 h4 => ?_
    obtain ⟨N, rfl, pN⟩ := perm_map pm4 rfl
    have pl : (pool.map V.str).length = 10 := rfl
    rw [pl] at p4
    have h3 := b4 _ _ ol_p h3
    have b04 : But p H H4 := ((But.of (e1.trans e2)).trans b3).trans b4
    have e4 : Ex (dl p H) H4 := fun b o z => b04 b o (dl_some z).1 (dl_some z).2
    have lN : N.length = 10 := by
      have := pN.length_eq
      simpa [pool] using this
    rw [← List.map_take] at h4
    have ndN : N.Nodup := pN.nodup_iff.mpr (by decide +kernel)
    generalize hnm : N.take n = nm at h4
    have lnm : nm.length = n := by
      rw [← hnm, List.length_take]
      omega
    have nnm : nm.Nodup := by
      rw [← hnm]
      exact (List.take_sublist n N).nodup ndN
    have mnm : ∀ x ∈ nm, x ∈ pool := fun x hx => by
      rw [← hnm] at hx
      exact pN.mem_iff.mp (List.mem_of_mem_take hx)
    let φ : Nat → Str := fun a => nm.getD a ""
    have gφ : ∀ a, a < n → nm[a]? = some (φ a) := fun a ha => by
      show nm[a]? = some (nm.getD a "")
      rw [List.getD_eq_getElem?_getD, List.getElem?_eq_getElem (by omega)]
      rfl
    have aφ : ∀ a, a < n → atI (nm.map V.str) (a : Int) = some (.str (φ a)) := fun a ha => atI_nat (by rw [List.getElem?_map, gφ a ha]; rfl)
    have iφ : ∀ a b, a < n → b < n → φ a = φ b → a = b := fun a b ha hb e => by
      have e1 := gφ a ha
      have e2 := gφ b hb
      rw [e] at e1
      have h1 : a < nm.length := by omega
      exact (List.getElem?_inj h1 nnm).mp (e1.trans e2.symm)
    have hO : ∀ b ∈ O, b < n := fun b hb => List.mem_range.mp (pO.mem_iff.mp hb)
    have lO : O.length = n := by
      have := pO.length_eq
      rwa [List.length_range] at this
    have p4 : PenC H4 p c (m + 16) := by
      obtain ⟨ns, i, v, g1, g2, g3, g4, g5, g6⟩ := p4
      exact ⟨ns, i, v, g1, g2, g3, g4, g5, by omega⟩
    refine q_told (ys := (O.map φ).map V.str) (u := .str (φ lo)) (w := .str (φ hi)) (by
        rw [List.map_map]
        exact el_map (d := 0) (g := fun a : Nat => V.int (a : Int)) (f := V.str ∘ φ) (ev_var rfl) (sq_of h3) (by omega) (fun x => rfl) fun a H5 e5 ha => ev_op (ev_var rfl) (ev_var rfl) (rv_ixL (sq_of (e5 _ _ h4)) (aφ a (hO a ha))))
      (ev_op (ev_var rfl) (ev_op (ev_var rfl) ev_c (rv_ixT (ex_t e4 st) (atI_nat (j := 2) rfl))) (rv_ixL (sq_of h4) (aφ lo blo)))
      (ev_op (ev_var rfl) (ev_op (ev_var rfl) ev_c (rv_ixT (ex_t e4 st) (atI_nat (j := 3) rfl))) (rv_ixL (sq_of h4) (aφ hi bhi))) fun d fl H5 nd nf df e5 hd hf => ?_
    have e45 := e4.trans e5
    refine q_setDN (K := K) (g := fun a : Nat => V.int (a : Int)) (xs := O) (as := fun a => (O.map fun b => φ (nat_at M0 a b)).map V.str) rfl hd (Nat.lt_of_le_of_lt (length_mergeK _ _) (by simp)) (ev_var rfl) (sq_of (e5 _ _ h3)) (by omega) (fun x => rfl)
      (fun a ha => row_el (n := n) (jv := .ref pj) (ex_t e45 st) (atI_nat (j := 0) rfl) (dp_ext e45 dj) sj (hO a ha) (e5 _ _ h3) hO (by omega) (e5 _ _ h4) aφ) fun jn H6 rj nj e6 hj rwj ndj frj => ?_
    have hd6 := e6 _ _ hd
    have e46 : Ex H4 (upd H6 d (.dK (putK (mergeK [] [(Sum.inr "names", .ref fl), (Sum.inr "low", .str (φ lo)), (Sum.inr "high", .str (φ hi))]) (Sum.inr "joins") (.ref jn)))) := Ex.mut (e5.trans e6) nd
    have jd : jn ≠ d := fun z => by
      rw [z, hd] at nj
      cases nj
    have fd6 : ∀ q, q ∈ rj → q ≠ d := fun q hq z => by
      have := (frj q hq).1
      rw [z, hd] at this
      cases this
    have hj7 : (upd H6 d (.dK (putK (mergeK [] [(Sum.inr "names", .ref fl), (Sum.inr "low", .str (φ lo)), (Sum.inr "high", .str (φ hi))]) (Sum.inr "joins") (.ref jn)))) jn = some (.lst (rj.map V.ref)) := by rw [upd_ne jd]; exact hj
    have hd7 : (upd H6 d (.dK (putK (mergeK [] [(Sum.inr "names", .ref fl), (Sum.inr "low", .str (φ lo)), (Sum.inr "high", .str (φ hi))]) (Sum.inr "joins") (.ref jn)))) d = _ := upd_same
    have hf7 : (upd H6 d (.dK (putK (mergeK [] [(Sum.inr "names", .ref fl), (Sum.inr "low", .str (φ lo)), (Sum.inr "high", .str (φ hi))]) (Sum.inr "joins") (.ref jn)))) fl = some (.lst ((O.map φ).map V.str)) := by rw [upd_ne (Ne.symm df)]; exact e6 _ _ hf
    have rj7 : Rws (upd H6 d (.dK (putK (mergeK [] [(Sum.inr "names", .ref fl), (Sum.inr "low", .str (φ lo)), (Sum.inr "high", .str (φ hi))]) (Sum.inr "joins") (.ref jn)))) rj (O.map fun a => (O.map fun b => φ (nat_at M0 a b)).map V.str) := rwj.keep fun q hq => upd_ne (fd6 q hq)
    have jf : ∀ q, q ∈ rj → q ≠ fl := fun q hq z => by
      have := (frj q hq).1
      rw [z, hf] at this
      cases this
    show tSeq _ _ _ _ (upd H6 d (.dK (putK (mergeK [] [(Sum.inr "names", .ref fl), (Sum.inr "low", .str (φ lo)), (Sum.inr "high", .str (φ hi))]) (Sum.inr "joins") (.ref jn))))
    generalize upd H6 d (.dK (putK (mergeK [] [(Sum.inr "names", .ref fl), (Sum.inr "low", .str (φ lo)), (Sum.inr "high", .str (φ hi))]) (Sum.inr "joins") (.ref jn))) = H7 at e46 hj7 hd7 hf7 rj7 ⊢
    have e47 := e4.trans e46
    have kl : (putK (mergeK [] [(Sum.inr "names", .ref fl), (Sum.inr "low", .str (φ lo)), (Sum.inr "high", .str (φ hi))]) (Sum.inr "joins") (.ref jn)).length ≤ 4 := Nat.le_trans putK_len (Nat.succ_le_succ (Nat.le_trans (length_mergeK _ _) (by simp)))
    refine q_setDN (K := K) (g := fun a : Nat => V.int (a : Int)) (xs := O) (as := fun a => (O.map fun b => φ (nat_at T0 a b)).map V.str) rfl hd7 (by omega) (ev_var rfl) (sq_of (e46 _ _ h3)) (by omega) (fun x => rfl)
      (fun a ha => row_el (n := n) (jv := vt) (ex_t e47 st) (atI_nat (j := 1) rfl) (dp_ext e47 dt) sT (hO a ha) (e46 _ _ h3) hO (by omega) (e46 _ _ h4) aφ) fun tn H8 rt nt e8 ht rwt ndt frt => ?_
    have td : tn ≠ d := fun z => by
      rw [z, hd7] at nt
      cases nt
    have old8 : ∀ b o, H7 b = some o → b ≠ d → (upd H8 d (.dK (putK (putK (mergeK [] [(Sum.inr "names", .ref fl), (Sum.inr "low", .str (φ lo)), (Sum.inr "high", .str (φ hi))]) (Sum.inr "joins") (.ref jn)) (Sum.inr "products") (.ref tn)))) b = some o := fun b o z ne => by
      rw [upd_ne ne]
      exact e8 _ _ z
    have e48 : Ex H4 (upd H8 d (.dK (putK (putK (mergeK [] [(Sum.inr "names", .ref fl), (Sum.inr "low", .str (φ lo)), (Sum.inr "high", .str (φ hi))]) (Sum.inr "joins") (.ref jn)) (Sum.inr "products") (.ref tn)))) := Ex.mut (e46.trans e8) nd
    have img : Img n M0 T0 lo hi φ O (O.map φ) (O.map fun a => O.map fun b => φ (nat_at M0 a b)) (O.map fun a => O.map fun b => φ (nat_at T0 a b)) (φ lo) (φ hi) := ⟨pO, iφ, rfl, rfl, rfl, rfl, rfl⟩
    have mφ : ∀ a, a < n → φ a ∈ pool := fun a ha => mnm _ (List.mem_of_getElem? (gφ a ha))
    have sF : ∀ F : Nat → Nat → Str, strsOf (O.map fun a => O.map fun b => F a b) = O.map fun a => (O.map fun b => F a b).map V.str := fun F => by
      unfold strsOf
      rw [List.map_map]
      rfl
    refine s_ret (ev_var rfl) fun H9 e9 => q d H9 fl jn tn rj rt _ _ _ _ _ φ O (b04.trans (But.of (e48.trans e9))) ((p4.ext e48).ext e9) (ToldM.ext ?_ e9) img mφ
    refine ⟨⟨_, upd_same, Nat.le_trans putK_len (Nat.succ_le_succ kl), ?_, ?_, ?_, ?_, ?_⟩, old8 _ _ hf7 (Ne.symm df), old8 _ _ hj7 jd, by rw [upd_ne td]; exact ht, ?_, ?_, ?_, img_good img pb0 fun a ha => ?_⟩
    · rw [valV_off (by decide +kernel), valV_off (by decide +kernel)]
      rw [merge3, valV_off (by decide +kernel), valV_off (by decide +kernel), valV_at]
    · rw [valV_off (by decide +kernel), valV_at]
    · rw [valV_at]
    · rw [valV_off (by decide +kernel), valV_off (by decide +kernel)]
      rw [merge3, valV_off (by decide +kernel), valV_at]
    · rw [valV_off (by decide +kernel), valV_off (by decide +kernel)]
      rw [merge3, valV_at]
    · rw [sF]
      exact (rj7.ext e8).keep fun q hq => upd_ne (fd6 q hq)
    · rw [sF]
      exact rwt.keep fun q hq => upd_ne fun z => by
        have := (frt q hq).1
        rw [z, hd7] at this
        cases this
    · rw [List.nodup_cons, List.nodup_append]
      refine ⟨fun z => ?_, ndj, ndt, fun x hx y hy z => ?_⟩
      · rcases List.mem_append.mp z with z | z
        · exact jf _ z rfl
        · have := (frt _ z).1
          rw [hf7] at this
          cases this
      · subst z
        have n7 := (frt _ hy).1
        obtain ⟨k, hk, ek⟩ := List.getElem_of_mem hx
        have hr : ∃ r, (O.map fun a => (O.map fun b => φ (nat_at M0 a b)).map V.str)[k]? = some r := ⟨_, List.getElem?_eq_getElem (by rw [← rj7.len]; exact hk)⟩
        obtain ⟨r, hr⟩ := hr
        have := rj7.at_ k x r (by rw [List.getElem?_eq_getElem hk, ek]) hr
        rw [n7] at this
        cases this
    · have all : ∀ x ∈ pool, runB x = true := by decide +kernel
      exact all _ (mφ a ha)
end
end K06

set_option Elab.async false
set_option linter.all false
set_option maxRecDepth 100000
set_option maxHeartbeats 8000000
/-! S35: _law_bent. -/
namespace S
open PySem PySem.Spec PyProof.Rows L2 Evl J ClX StX
theorem rws_get {H : Hp} {rs : List Addr} {Rs : List (List V)} (h : Rws H rs Rs) {x : Addr} (hx : x ∈ rs) : ∃ (n : Nat) (r : List V), rs[n]? = some x ∧ Rs[n]? = some r ∧ H x = some (.lst r) := by
  obtain ⟨n, hn, e⟩ := List.getElem_of_mem hx
  have h1 : rs[n]? = some x := by rw [List.getElem?_eq_getElem hn, e]
  have hr : Rs[n]? = some (Rs[n]'(by rw [← h.len]; exact hn)) := List.getElem?_eq_getElem _
  exact ⟨n, _, h1, hr, h.at_ n x _ h1 hr⟩
theorem rws_set {H : Hp} {rs : List Addr} {Rs : List (List V)} (h : Rws H rs Rs) (nd : rs.Nodup) {i : Nat} {r : Addr} (hr : rs[i]? = some r) (x : List V) : Rws (upd H r (.lst x)) rs (Rs.set i x) := by
  have hi : i < rs.length := (List.getElem?_eq_some_iff.mp hr).1
  refine ⟨by rw [List.length_set]; exact h.len, fun n p y hp hy => ?_⟩
  by_cases e : n = i
  · subst e
    rw [hr] at hp
    obtain rfl := Option.some.inj hp
    rw [List.getElem?_set_self (by rw [← h.len]; exact hi)] at hy
    obtain rfl := Option.some.inj hy
    exact upd_same
  · have ne : p ≠ r := fun z => by
      subst z
      have hn : n < rs.length := (List.getElem?_eq_some_iff.mp hp).1
      exact e ((List.getElem?_inj hn nd).mp (hp.trans hr.symm))
    rw [List.getElem?_set_ne (Ne.symm e)] at hy
    rw [upd_ne ne]
    exact h.at_ n p y hp hy
theorem wf_set {G : List Str} {J : List (List Str)} {i j : Nat} {row : List Str} {g : Str} (w : Wf G J) (h : J[i]? = some row) (hg : g ∈ G) : Wf G (J.set i (row.set j g)) := by
  have hm := List.mem_of_getElem? h
  have old : ∀ r ∈ J.set i (row.set j g), r ∈ J ∨ r = row.set j g := fun r hr => List.mem_or_eq_of_mem_set hr
  refine ⟨by rw [List.length_set]; exact w.len, fun r hr => ?_, fun r hr x hx => ?_⟩
  · rcases old r hr with q | rfl
    · exact w.row r q
    · rw [List.length_set]
      exact w.row _ hm
  · rcases old r hr with q | rfl
    · exact w.at_ r q x hx
    · rcases List.mem_or_eq_of_mem_set hx with q | rfl
      · exact w.at_ _ hm x q
      · exact hg
end S
namespace K06
open PySem PySem.Spec PyProof.Rows L2 Evl J ClX StX S
theorem PenC.up {H : Hp} {p c : Addr} {m k : Nat} (h : PenC H p c m) (l : m ≤ k) : PenC H p c k := by
  obtain ⟨ns, i, v, g1, g2, g3, g4, g5, g6⟩ := h
  exact ⟨ns, i, v, g1, g2, g3, g4, g5, by omega⟩
theorem PenC.ne {H : Hp} {p c : Addr} {m : Nat} (h : PenC H p c m) {a : Addr} {o : HO} (ha : H a = some o) (ho : ∀ i v : Int, o ≠ .lst [.ref c, .int i, .int v]) : a ≠ p := fun z => by
  obtain ⟨ns, i, v, g1, _⟩ := h
  rw [z, g1] at ha
  exact ho i v (Option.some.inj ha).symm
theorem strs_no {xs : List Str} {c : Addr} (i v : Int) : HO.lst (xs.map V.str) ≠ .lst [.ref c, .int i, .int v] := fun z => by
  have z := HO.lst.inj z
  cases xs with
  | nil => cases z
  | cons x r => exact nomatch (List.cons.inj z).1
theorem refs_no {xs : List Addr} {c : Addr} (i v : Int) : HO.lst (xs.map V.ref) ≠ .lst [.ref c, .int i, .int v] := fun z => by
  have z := HO.lst.inj z
  match xs, z with
  | [_], z => cases z
  | _ :: _ :: _, z => exact nomatch (List.cons.inj (List.cons.inj z).2).1
theorem rows_keep {H H' : Hp} {p c : Addr} {m : Nat} {rs : List Addr} {J : List (List Str)} (hp : PenC H p c m) (b : But p H H') (h : Rws H rs (strsOf J)) : Rws H' rs (strsOf J) := by
  refine ⟨h.len, fun n q r h1 h2 => b _ _ (hp.ne (h.at_ n q r h1 h2) fun i v => ?_) (h.at_ n q r h1 h2)⟩
  unfold strsOf at h2
  rw [List.getElem?_map] at h2
  cases hj : J[n]? with
  | none =>
    rw [hj] at h2
    cases h2
  | some row =>
    rw [hj] at h2
    obtain rfl := Option.some.inj h2
    exact strs_no i v
section
variable {K : PySem.W.Frag} {H H' : Hp} {d ln jn tn p c : Addr} {m : Nat} {rj rt : List Addr} {G : List Str} {J T : List (List Str)} {lo hi : Str}
theorem ToldM.but (t : ToldM K H d ln jn tn rj rt G J T lo hi) (hp : PenC H p c m) (b : But p H H') : ToldM K H' d ln jn tn rj rt G J T lo hi := by
  obtain ⟨kvs, h1, h2⟩ := t.dict
  exact ⟨⟨kvs, b _ _ (hp.ne h1 fun i v z => nomatch z) h1, h2⟩, b _ _ (hp.ne t.names strs_no) t.names, b _ _ (hp.ne t.joins refs_no) t.joins, b _ _ (hp.ne t.prods refs_no) t.prods, rows_keep hp b t.rowj, rows_keep hp b t.rowt, t.nd, t.gd⟩
theorem refs_strs {rs : List Addr} {row : List Str} (h : 1 ≤ row.length) : HO.lst (rs.map V.ref) ≠ .lst (row.map V.str) := fun z => by
  have z := HO.lst.inj z
  match rs, row, h, z with
  | [], _ :: _, _, z => cases z
  | _ :: _, _ :: _, _, z => exact nomatch (List.cons.inj z).1
theorem strs_at {J : List (List Str)} {n : Nat} {row : List Str} (h : J[n]? = some row) : (strsOf J)[n]? = some (row.map V.str) := by
  unfold strsOf
  rw [List.getElem?_map, h]
  rfl
theorem strs_set {J : List (List Str)} {i j : Nat} {row : List Str} {g : Str} : strsOf (J.set i (row.set j g)) = (strsOf J).set i ((row.map V.str).set j (.str g)) := by
  unfold strsOf
  rw [List.map_set, List.map_set]
theorem rows_off {rs : List Addr} {Rs : List (List V)} {r : Addr} {o : HO} (h : Rws H rs Rs) (n : r ∉ rs) : Rws (upd H r o) rs Rs := h.keep fun q hq => upd_ne fun z => n (z ▸ hq)
theorem ToldM.setJ (t : ToldM K H d ln jn tn rj rt G J T lo hi) {i j : Nat} {r : Addr} {row : List Str} {g : Str} (hr : rj[i]? = some r) (hrow : J[i]? = some row) (hg : g ∈ G) :
    H r = some (.lst (row.map V.str)) ∧ 1 ≤ row.length ∧ ToldM K (upd H r (.lst ((row.map V.str).set j (.str g)))) d ln jn tn rj rt G (J.set i (row.set j g)) T lo hi := by
  have hr0 := t.rowj.at_ i r _ hr (strs_at hrow)
  have z1 := t.gd.z1
  have len : 1 ≤ row.length := by
    rw [t.gd.wj.row _ (List.mem_of_getElem? hrow)]
    exact z1
  obtain ⟨kvs, h1, h2⟩ := t.dict
  have nd := t.nd
  rw [List.nodup_cons, List.nodup_append] at nd
  obtain ⟨n1, n2, n3, n4⟩ := nd
  have mr := List.mem_of_getElem? hr
  refine ⟨hr0, len, ⟨kvs, ?_, h2⟩, ?_, ?_, ?_, ?_, ?_, t.nd, ?_⟩
  · rw [upd_ne fun z => by rw [z, hr0] at h1; cases h1]
    exact h1
  · rw [upd_ne fun z => n1 (List.mem_append.mpr (.inl (by rw [z]; exact mr)))]
    exact t.names
  · rw [upd_ne fun z => by
      have e := t.joins
      rw [z, hr0] at e
      exact refs_strs len (Option.some.inj e).symm]
    exact t.joins
  · rw [upd_ne fun z => by
      have e := t.prods
      rw [z, hr0] at e
      exact refs_strs len (Option.some.inj e).symm]
    exact t.prods
  · rw [strs_set]
    exact rws_set t.rowj n2 hr _
  · exact rows_off t.rowt fun z => n4 r mr r z rfl
  · have g := t.gd
    exact ⟨g.nd, g.z1, g.z8, g.run, wf_set g.wj hrow hg, g.wt, g.lo, g.hi⟩
theorem ToldM.setT (t : ToldM K H d ln jn tn rj rt G J T lo hi) {i j : Nat} {r : Addr} {row : List Str} {g : Str} (hr : rt[i]? = some r) (hrow : T[i]? = some row) (hg : g ∈ G) :
    H r = some (.lst (row.map V.str)) ∧ 1 ≤ row.length ∧ ToldM K (upd H r (.lst ((row.map V.str).set j (.str g)))) d ln jn tn rj rt G J (T.set i (row.set j g)) lo hi := by
  have hr0 := t.rowt.at_ i r _ hr (strs_at hrow)
  have z1 := t.gd.z1
  have len : 1 ≤ row.length := by
    rw [t.gd.wt.row _ (List.mem_of_getElem? hrow)]
    exact z1
  obtain ⟨kvs, h1, h2⟩ := t.dict
  have nd := t.nd
  rw [List.nodup_cons, List.nodup_append] at nd
  obtain ⟨n1, n2, n3, n4⟩ := nd
  have mr := List.mem_of_getElem? hr
  refine ⟨hr0, len, ⟨kvs, ?_, h2⟩, ?_, ?_, ?_, ?_, ?_, t.nd, ?_⟩
  · rw [upd_ne fun z => by rw [z, hr0] at h1; cases h1]
    exact h1
  · rw [upd_ne fun z => n1 (List.mem_append.mpr (.inr (by rw [z]; exact mr)))]
    exact t.names
  · rw [upd_ne fun z => by
      have e := t.joins
      rw [z, hr0] at e
      exact refs_strs len (Option.some.inj e).symm]
    exact t.joins
  · rw [upd_ne fun z => by
      have e := t.prods
      rw [z, hr0] at e
      exact refs_strs len (Option.some.inj e).symm]
    exact t.prods
  · exact rows_off t.rowj fun z => n4 r z r mr rfl
  · rw [strs_set]
    exact rws_set t.rowt n3 hr _
  · have g := t.gd
    exact ⟨g.nd, g.z1, g.z8, g.run, g.wj, wf_set g.wt hrow hg, g.lo, g.hi⟩
theorem pen_row {r : Addr} {row : List Str} {o : HO} (hp : PenC H p c m) (hr : H r = some (.lst (row.map V.str))) (l : 1 ≤ row.length) : PenC (upd H r o) p c m := by
  have h1 : r ≠ p := hp.ne hr strs_no
  refine hp.keep (upd_ne (Ne.symm h1)) (upd_ne fun z => ?_)
  obtain ⟨ns, i, v, _, g2, _⟩ := hp
  rw [z, hr] at g2
  have z2 := HO.lst.inj (Option.some.inj g2)
  match row, ns, l, z2 with
  | _ :: _, [], _, z2 => cases z2
  | _ :: _, _ :: _, _, z2 => exact nomatch (List.cons.inj z2).1
/-- which of the two tables a word tells -/
def tblA (jn tn : Addr) (b : Bool) : Addr := if b then jn else tn
def tblW (b : Bool) : Str := if b then "joins" else "products"
/-- a store into one of the tables -/
theorem ToldM.store (t : ToldM K H d ln jn tn rj rt G J T lo hi) (b : Bool) {i j : Nat} {g : Str} (hil : i < G.length) (hj : j < G.length) (hg : g ∈ G) :
    ∃ (kvs : List (Key × V)) (tb r : Addr) (rs : List Addr) (row : List Str) (J' T' : List (List Str)), H d = some (.dK kvs) ∧ valV kvs (Sum.inr (tblW b)) = some (.ref tb) ∧ H tb = some (.lst (rs.map V.ref)) ∧ rs[i]? = some r ∧ H r = some (.lst (row.map V.str)) ∧ 1 ≤ row.length ∧ j < row.length ∧
      ∀ H2, Ex H H2 → ToldM K (upd H2 r (.lst ((row.map V.str).set j (.str g)))) d ln jn tn rj rt G J' T' lo hi := by
  obtain ⟨kvs, h1, h2, h3, h4, h5, h6⟩ := t.dict
  cases b with
  | true =>
    have li : i < J.length := by rw [t.gd.wj.len]; exact hil
    have lr : i < rj.length := by rw [t.rowj.len, strsOf, List.length_map]; exact li
    obtain ⟨a1, a2, a3⟩ := t.setJ (j := j) (List.getElem?_eq_getElem lr) (List.getElem?_eq_getElem li) hg
    exact ⟨kvs, jn, _, rj, _, _, _, h1, h4, t.joins, List.getElem?_eq_getElem lr, a1, a2, by rw [t.gd.wj.row _ (List.getElem_mem li)]; exact hj, fun H2 e => ((t.ext e).setJ (List.getElem?_eq_getElem lr) (List.getElem?_eq_getElem li) hg).2.2⟩
  | false =>
    have li : i < T.length := by rw [t.gd.wt.len]; exact hil
    have lr : i < rt.length := by rw [t.rowt.len, strsOf, List.length_map]; exact li
    obtain ⟨a1, a2, a3⟩ := t.setT (j := j) (List.getElem?_eq_getElem lr) (List.getElem?_eq_getElem li) hg
    exact ⟨kvs, tn, _, rt, _, _, _, h1, h5, t.prods, List.getElem?_eq_getElem lr, a1, a2, by rw [t.gd.wt.row _ (List.getElem_mem li)]; exact hj, fun H2 e => ((t.ext e).setT (List.getElem?_eq_getElem lr) (List.getElem?_eq_getElem li) hg).2.2⟩
end
section
variable {K : PySem.W.Frag} {σ : L2.St} {H : Hp} {tl tu : TE} {tr : TA} {tz : TS} {E : Ends} {p c l : Addr} {m n i u : Nat} {vs : List V} {Q : VK}
theorem te_draw (hσ : σ[0]? = some (some (.ref p))) (hP : PenC H p c m) (hm : m ≤ 1000000) (hu : Ev tu σ H (.int (u : Int))) (u1 : 1 ≤ u ∧ u ≤ 100000) (k : ∀ (g : Nat) H', g < u → But p H H' → PenC H' p c (m + 1) → Q (.int (g : Int)) H') : tCall spDrawC [] E0 (tCons (tVar 0) (tCons tu tNil)) σ H Q :=
  ⟨_, hσ, hu H (Ex.refl H) _ fun H1 e1 => ⟨p, c, (u : Int), m, rfl, by omega, by omega, hP.ext e1, hm, fun g H2 b2 p2 g0 g1 => by
    obtain ⟨n, rfl⟩ : ∃ n : Nat, g = (n : Int) := ⟨g.toNat, by omega⟩
    exact k n H2 (by omega) ((But.of e1).trans b2) p2⟩⟩
theorem te_menu (h : EvA tr σ H vs) (hσ : σ[0]? = some (some (.ref p))) (hP : PenC H p c m) (hm : m ≤ 1000000) (hu : Ev tu σ H (.int (vs.length : Int))) (hz : 1 ≤ vs.length ∧ vs.length ≤ 1000) (k : ∀ v H', v ∈ vs → But p H H' → PenC H' p c (m + 1) → Q v H') :
    tOp (rIxL K) (tLst tr) (tCall spDrawC [] E0 (tCons (tVar 0) (tCons tu tNil))) σ H Q :=
  h H (Ex.refl H) _ fun H1 e1 => ⟨sz_of (by omega), fun l hl => by
    have e2 : Ex H (upd H1 l (.lst vs)) := e1.trans (Ex.new hl)
    have lp : l ≠ p := fun z => by
      obtain ⟨ns, i, v, g1, _⟩ := hP
      rw [z, e1 _ _ g1] at hl
      cases hl
    refine te_draw hσ (hP.ext e2) hm (hu.mono e2) (by omega) fun g H2 hg b2 p2 => ?_
    exact ⟨l, vs, (g : Int), vs[g], rfl, rfl, sq_of (b2 _ _ lp upd_same), atI_nat (List.getElem?_eq_getElem hg), k _ _ (List.getElem_mem hg) ((But.of e2).trans b2) p2⟩⟩
end
def spBe (K : PySem.W.Frag) : Sp := fun vs H Q _ => ∃ (p c d ln jn tn : Addr) (m : Nat) (rj rt : List Addr) (G : List Str) (J T : List (List Str)) (lo hi : Str), vs = [.ref p, .ref d] ∧ PenC H p c m ∧ m ≤ 900000 ∧ ToldM K H d ln jn tn rj rt G J T lo hi ∧
  ∀ H' J' T' lo' hi', PenC H' p c (m + 200) → ToldAt K H' d G J' T' lo' hi' → Q .non H'
end K06

set_option Elab.async false
set_option linter.all false
set_option maxRecDepth 100000
set_option maxHeartbeats 8000000
/-! W1: lawful scales; scales stand while the pen is drawn from. -/
namespace K06
open PySem PySem.Spec PyProof.Rows L2 Evl J ClX StX S
abbrev Lawful (G : List Str) (J T : List (List Str)) (lo hi : Str) : Prop := Alg.Law (fun x => x ∈ G) (ap G J) (ap G T) lo hi
theorem put_alg {G : List Str} {J : List (List Str)} {e : Str} {xs : List Str} : put G J e xs = Alg.put (ap G J) e xs := by
  cases xs <;> rfl
theorem low_mem {G : List Str} {J : List (List Str)} {a d : Str} : d ∈ lowerOf G J a ↔ d ∈ G ∧ Alg.le (ap G J) d a := by
  unfold lowerOf
  rw [List.mem_filter, decide_eq_true_eq]
abbrev Scal (G : List Str) (J T : List (List Str)) (lo hi : Str) : Prop := Alg.Sca (fun x => x ∈ G) (ap G J) (ap G T) (meetOf G J lo) (onlyOf G J T lo) lo hi
theorem Lawful.sca {G : List Str} {J T : List (List Str)} {lo hi : Str} (L : Lawful G J T lo hi) : Scal G J T lo hi := by
  refine Alg.Law.sca L (xm := fun a b => (lowerOf G J a).filter fun d => decide (d ∈ lowerOf G J b)) (xo := fun a b => G.filter fun d => decide (ap G T a d ∈ lowerOf G J b)) (fun a b _ _ => put_alg) (fun a b _ _ => put_alg) (fun a b d ha hb => ?_) (fun a b d ha hb => ?_)
  · rw [List.mem_filter, decide_eq_true_eq, low_mem, low_mem]
    constructor
    · rintro ⟨⟨h1, h2⟩, h3, h4⟩
      exact ⟨h1, h2, h4⟩
    · rintro ⟨h1, h2, h4⟩
      exact ⟨⟨h1, h2⟩, h1, h4⟩
  · rw [List.mem_filter, decide_eq_true_eq, low_mem]
    constructor
    · rintro ⟨h1, _, h3⟩
      exact ⟨h1, h3⟩
    · rintro ⟨h1, h3⟩
      exact ⟨h1, L.tm a d ha h1, h3⟩
theorem law_img {n : Nat} {M T : NT} {lo hi : Nat} {φ : Nat → Str} {O : List Nat} {G : List Str} {J' T' : List (List Str)} {l h : Str} (i : Img n M T lo hi φ O G J' T' l h) (p : planB n M T lo hi = true) : Lawful G J' T' l h := by
  have p0 := p
  unfold planB at p
  simp only [Bool.and_eq_true, decide_eq_true_eq] at p
  obtain ⟨⟨⟨⟨⟨⟨n1, n4⟩, sj⟩, sT⟩, blo⟩, bhi⟩, lw⟩ := p
  unfold lawB at lw
  simp only [Bool.and_eq_true, List.all_eq_true, List.mem_range, beq_iff_eq] at lw
  obtain ⟨⟨l2, l3⟩, l1⟩ := lw
  have aj : ∀ a b, a < n → b < n → ap G J' (φ a) (φ b) = φ (nat_at M a b) := fun a b ha hb => by
    rw [i.j]
    exact ap_img i ha hb
  have at_ : ∀ a b, a < n → b < n → ap G T' (φ a) (φ b) = φ (nat_at T a b) := fun a b ha hb => by
    rw [i.t]
    exact ap_img i ha hb
  have ij : ∀ a b, a < n → b < n → nat_at M a b < n := fun a b ha hb => (sq_at sj ha hb).1
  have iT : ∀ a b, a < n → b < n → nat_at T a b < n := fun a b ha hb => (sq_at sT ha hb).1
  have mem : ∀ a, a < n → φ a ∈ G := fun a ha => by
    rw [i.g]
    exact List.mem_map_of_mem ((img_mem i).mpr ha)
  have el := i.l
  have eh := i.h
  subst el eh
  refine ⟨?_, ?_, mem _ blo, mem _ bhi, ?_, ?_, ?_, ?_, ?_, ?_, ?_, ?_, ?_, ?_⟩
  · intro x y hx hy
    obtain ⟨a, ha, rfl⟩ := img_lt i hx
    obtain ⟨b, hb, rfl⟩ := img_lt i hy
    show ap G J' (φ a) (φ b) ∈ G
    rw [aj a b ha hb]
    exact mem _ (ij a b ha hb)
  · intro x y hx hy
    obtain ⟨a, ha, rfl⟩ := img_lt i hx
    obtain ⟨b, hb, rfl⟩ := img_lt i hy
    show ap G T' (φ a) (φ b) ∈ G
    rw [at_ a b ha hb]
    exact mem _ (iT a b ha hb)
  · intro x y hx hy
    obtain ⟨a, ha, rfl⟩ := img_lt i hx
    obtain ⟨b, hb, rfl⟩ := img_lt i hy
    rw [aj a b ha hb, aj b a hb ha, (l2 a ha b hb).1]
  · intro x y z hx hy hz
    obtain ⟨a, ha, rfl⟩ := img_lt i hx
    obtain ⟨b, hb, rfl⟩ := img_lt i hy
    obtain ⟨c, hc, rfl⟩ := img_lt i hz
    rw [aj a b ha hb, aj _ c (ij a b ha hb) hc, aj b c hb hc, aj a _ ha (ij b c hb hc), (l3 a ha b hb c hc).1.1]
  · intro x hx
    obtain ⟨a, ha, rfl⟩ := img_lt i hx
    rw [aj a a ha ha, (l1 a ha).1.1.1.1]
  · intro x hx
    obtain ⟨a, ha, rfl⟩ := img_lt i hx
    rw [aj lo a blo ha, (l1 a ha).1.1.1.2]
  · intro x y hx hy
    obtain ⟨a, ha, rfl⟩ := img_lt i hx
    obtain ⟨b, hb, rfl⟩ := img_lt i hy
    rw [at_ a b ha hb, at_ b a hb ha, (l2 a ha b hb).2]
  · intro x y z hx hy hz
    obtain ⟨a, ha, rfl⟩ := img_lt i hx
    obtain ⟨b, hb, rfl⟩ := img_lt i hy
    obtain ⟨c, hc, rfl⟩ := img_lt i hz
    rw [at_ a b ha hb, at_ _ c (iT a b ha hb) hc, at_ b c hb hc, at_ a _ ha (iT b c hb hc), (l3 a ha b hb c hc).1.2]
  · intro x y z hx hy hz
    obtain ⟨a, ha, rfl⟩ := img_lt i hx
    obtain ⟨b, hb, rfl⟩ := img_lt i hy
    obtain ⟨c, hc, rfl⟩ := img_lt i hz
    rw [aj b c hb hc, at_ a _ ha (ij b c hb hc), at_ a b ha hb, at_ a c ha hc, aj _ _ (iT a b ha hb) (iT a c ha hc), (l3 a ha b hb c hc).2]
  · intro x hx
    obtain ⟨a, ha, rfl⟩ := img_lt i hx
    rw [at_ lo a blo ha, (l1 a ha).1.1.2]
  · intro x hx
    obtain ⟨a, ha, rfl⟩ := img_lt i hx
    rw [at_ hi a bhi ha, (l1 a ha).1.2]
  · intro x hx
    obtain ⟨a, ha, rfl⟩ := img_lt i hx
    rw [aj hi a bhi ha, (l1 a ha).2]
/-- tables and rows hold no pen -/
theorem noP_tab2 {J : List (List Str)} : noP (tab J) = true := by
  show noPs (J.map fun r => .tuple (r.map .str)) = true
  exact noPs_map fun r => by
    show noPs (r.map .str) = true
    exact noPs_map fun _ => rfl
section
variable {K : PySem.W.Frag} {C p c a : Addr} {m : Nat} {H H' : Hp} {G : List Str} {J T : List (List Str)} {lo hi : Str}
theorem but_ex (b : But p H H') : Ex (dl p H) H' := fun q o z => b q o (dl_some z).1 (dl_some z).2
theorem Made.but (h : Made K C H a G J T lo hi) (hp : PenC H p c m) (b : But p H H') : Made K C H' a G J T lo hi := by
  obtain ⟨ns, i, v, q1, _⟩ := hp
  have e := but_ex b
  obtain ⟨dx, fs, g, d, j, t, h1, h2, h3, h4, h5, h6, h7, h8, h9, h10⟩ := h.sc.ex
  obtain ⟨dx2, fs2, mv, ov, k1, k2, k3, k4, k5⟩ := h.mo
  have nn : ∀ (q : Addr) (o : HO), H q = some o → (∀ xs, o ≠ .lst xs) → H' q = some o := fun q o z n => b q o (fun y => by
    rw [y, q1] at z
    exact n _ (Option.some.inj z).symm) z
  refine ⟨⟨⟨dx, fs, g, d, j, t, nn _ _ h1 (fun _ z => nomatch z), h2, ex_t e (sqt_dlP q1 h3), h4, nn _ _ h5 (fun _ z => nomatch z), h6, dp_ext e (dp_dlP q1 h7 noP_tab2), h8, dp_ext e (dp_dlP q1 h9 noP_tab2), h10⟩, h.sc.nd, h.sc.sz, h.sc.wj, h.sc.wt, h.sc.lo, h.sc.hi⟩,
    dx2, fs2, mv, ov, nn _ _ k1 (fun _ z => nomatch z), k2, dp_ext e (dp_dlP q1 k3 noP_tab2), k4, dp_ext e (dp_dlP q1 k5 noP_tab2)⟩
theorem Made.ext (h : Made K C H a G J T lo hi) (e : Ex H H') : Made K C H' a G J T lo hi := by
  obtain ⟨dx2, fs2, mv, ov, k1, k2, k3, k4, k5⟩ := h.mo
  exact ⟨h.sc.ext e, dx2, fs2, mv, ov, e _ _ k1, k2, dp_ext e k3, k4, dp_ext e k5⟩
end
/-! ### meets and what one grade leaves of another, by the tables -/
theorem idx_rows {α : Type} {G : List Str} {x : Str} (h : x ∈ G) (F : Str → α) (d : α) : (G.map F).getD (G.idxOf x) d = F x := by
  rw [List.getD_eq_getElem?_getD, List.getElem?_map, idx_get h]
  rfl
theorem ap_rows {G : List Str} {F : Str → Str → Str} {x y : Str} (hx : x ∈ G) (hy : y ∈ G) : ap G (rowsOf G F) x y = F x y := by
  unfold ap rowsOf
  rw [idx_rows hx, idx_rows hy]
theorem wf_rows {G : List Str} {F : Str → Str → Str} (h : ∀ x y, x ∈ G → y ∈ G → F x y ∈ G) : Wf G (rowsOf G F) where
  len := by simp [rowsOf]
  row r hr := by
    obtain ⟨x, _, rfl⟩ := List.mem_map.mp hr
    simp
  at_ r hr z hz := by
    obtain ⟨x, hx, rfl⟩ := List.mem_map.mp hr
    obtain ⟨y, hy, rfl⟩ := List.mem_map.mp hz
    exact h x y hx hy
theorem meet_in {G : List Str} {J : List (List Str)} {lo x y : Str} (w : Wf G J) (hl : lo ∈ G) : meetOf G J lo x y ∈ G :=
  put_mem w hl fun d hd => (low_mem.mp (List.mem_filter.mp hd).1).1
theorem only_in {G : List Str} {J T : List (List Str)} {lo x y : Str} (w : Wf G J) (hl : lo ∈ G) : onlyOf G J T lo x y ∈ G :=
  put_mem w hl fun d hd => (List.mem_filter.mp hd).1
end K06

set_option Elab.async false
set_option linter.all false
set_option maxRecDepth 100000
set_option maxHeartbeats 8000000
/-! W2: len of an own object; meet, met, only, __len__, idempotent. -/
namespace S
open PySem PySem.Spec PyProof.Rows L2 Evl J ClX StX
def rLenO (C : Addr) (sp : Sp) : List V → Hp → VK → Prop := fun xs H Q => ∃ a dx fs, xs = [.ref a] ∧ H a = some (.ins C dx fs) ∧ sp [.ref a] H (fun v H' => ∃ n : Int, v = .int n ∧ 0 ≤ n ∧ n < 2 ^ 63 ∧ Q (.int n) H') E0
section
variable {X : Cx} {CX : CXT} {k : Nat} {C f : Addr} {fd : FuncData} {ps : List Str} {sp : Sp} {E : XK} {dvs : List V} {ds : List Value}
/-- a def called by a built-in -/
theorem run_fn1 {pins : List (Addr × Obj)} {σ : L2.St} {H : Hp} {s : Shared} {Q : VK} {us : List Value} {vs : List V} (F : FnOk X.prog X.w X.K X.mg X.base CX k f fd ps sp) (hr : Room (k + 1) X.A) (hb : Binds X.K fd ps ds) (hd : Vals dvs ds) (hx : Passes CX X E)
    (I : Inv X pins σ H s) (r : Vals vs us) (h : sp (vs ++ dvs) H Q E) : wpAny (model X.prog X.w) X.A.in1 (call (.ref f) us) (EP X pins σ Q) X.xe s := by
  have r2 : Vals (vs ++ dvs) (us ++ ds) := r.append hd
  have hl : (us ++ ds).length = ps.length := by rw [← r2.length]; exact F.len _ _ _ _ h
  refine wpAny_call (codeAny_mono (F.run X.A.in1 X.stack s H ⟨us, []⟩ (us ++ ds) (vs ++ dvs) Q E hr.in1 I.env0.in1 (hb s us I.kIn hl) r2 h) fun r s' hq => ?_)
  cases r with
  | error e => exact hx pins σ H s e s' I hq
  | ok fl =>
    cases fl with
    | ret u => exact I.after hq
    | next => exact False.elim hq
    | brk => exact False.elim hq
    | cont => exact False.elim hq
theorem call_lenO (F : FnOk X.prog X.w X.K X.mg X.base CX0 k f fd ps sp) (hr : Room (k + 1) X.A) (hs : PySem.W.findIn X.K (.ref C) "__len__" = some (some (.ref f))) (hf : PySem.W.isFn X.K (.ref f) = true) (hb : Binds X.K fd ps []) (hx : Passes CX0 X E0) :
    CallR X (.builtin "len") (rLenO C sp) := by
  intro pins s σ H xs us Q I r ⟨a, dx, fs, exs, ha, h⟩
  subst exs
  obtain ⟨u, rfl, rx⟩ := vals1 r
  obtain rfl : u = Value.ref a := rx
  obtain ⟨mA, J, _⟩ := ins_get I.hok ha
  obtain ⟨od, J, _⟩ := J.look
  refine Calls.call_function_entry kind_len plain_len entry_len (args_len1 _) ?_
  unfold Builtin.«len»
  refine wpAny_bind (m := oneArg "len" _) (wpAny_pure ?_)
  refine wpAny_bind (m := callSpecial? (.ref a) (Str.ofString "__len__")) ?_
  unfold callSpecial?
  refine wpAny_bind (wpAny_bind (J.type.here ((PySem.W.looks_findIn I.kIn hs).here ?_)))
  refine wpAny_holding (wpAny_bind ((PySem.W.bind_fn I.kIn _ (beq_iff_eq.mp hf)).here ?_))
  refine wpAny_bind (wpAny_mono (run_fn1 (us := [.ref a]) (vs := [.ref a]) F hr hb .nil hx I (.cons rfl .nil) h) (fun v s' ⟨z, H', I', rz, n, ez, h0, h1, q⟩ => ?_) fun _ _ y => y)
  subst ez
  obtain ⟨t, rfl⟩ : ∃ t, v = Value.int n t := rz
  refine wpAny_pure ?_
  refine wpAny_bind (wpAny_holding (wpAny_pure ?_))
  refine wpAny_bind (wpAny_letGo ?_)
  show wpAny _ _ (if n < 0 then _ else _) _ _ _
  rw [if_neg (by omega)]
  show wpAny _ _ (if n ≥ 2 ^ 63 then _ else _) _ _ _
  rw [if_neg (by omega)]
  exact wpAny_bind (wpAny_mkInt (wpAny_pure ⟨_, rfl, ⟨.int n, H', I'.tok _, ⟨_, rfl⟩, q⟩⟩))
theorem call_lenM (c : MCal X.prog X.w X.K X.mg X.base CX0 k C "__len__" ps sp) (hr : Room (k + 1) X.A) (hx : Passes CX0 X E0) : CallR X (.builtin "len") (rLenO C sp) := by
  obtain ⟨f, fd, q1, q2, q3, q4⟩ := c.ex
  exact call_lenO q4 hr q2.at_ q2.fn q3 hx
/-- two promises of a def -/
theorem FnOk.or {P : Program} {w : World} {K : PySem.W.Frag} {mg : Str → Option Value} {base : Heap} {sp2 : Sp} (a : FnOk P w K mg base CX k f fd ps sp) (b : FnOk P w K mg base CX k f fd ps sp2) : FnOk P w K mg base CX k f fd ps (fun vs H Q E => sp vs H Q E ∨ sp2 vs H Q E) :=
  ⟨fun vs H Q E h => h.elim (a.len vs H Q E) (b.len vs H Q E), fun A outer s H args us vs Q E hr he hb hv h => h.elim (a.run A outer s H args us vs Q E hr he hb hv) (b.run A outer s H args us vs Q E hr he hb hv)⟩
/-- two readings of an expression -/
def tAlt (t u : TE) : TE := fun σ H Q => t σ H Q ∨ u σ H Q
theorem pe_alt {e : Expr} {t u : TE} (a : PE X e t) (b : PE X e u) : PE X e (tAlt t u) := ⟨fun pins s σ H Q I h => h.elim (a.run pins s σ H Q I) (b.run pins s σ H Q I)⟩
theorem call_alt {v : Value} {r q : List V → Hp → VK → Prop} (a : CallR X v r) (b : CallR X v q) : CallR X v (fun xs H Q => r xs H Q ∨ q xs H Q) := fun pins s σ H xs us Q I rx h => h.elim (a pins s σ H xs us Q I rx) (b pins s σ H xs us Q I rx)
end
/-! comprehensions over a new list -/
section
variable {K : PySem.W.Frag} {σ : L2.St} {H : Hp} {te : TE}
theorem el_filterN {α : Type} {g f : α → V} {d : α} {xs : List α} {pr : α → Bool} {tl : TE} {t : TT} {j : Nat} {vs : List Nat} (h : EvL tl σ H (xs.map g)) (hz : xs.length ≤ 1000) (hw : ∀ x, wipe ((wipe σ vs).set j (some x)) vs = wipe σ vs)
    (ht : ∀ x H1, Ex H H1 → x ∈ xs → EvT t ((wipe σ vs).set j (some (g x))) H1 (pr x)) (he : ∀ x H1, Ex H H1 → x ∈ xs → pr x = true → Ev te ((wipe σ vs).set j (some (g x))) H1 (f x)) : EvL (tLc (iList K tl) (gName j) t te vs) σ H ((xs.filter pr).map f) := by
  have at_ : ∀ i x, (xs.map g)[i]? = some x → ∃ y, xs[i]? = some y ∧ x = g y := fun i x hi => by
    rw [List.getElem?_map] at hi
    cases hg : xs[i]? with
    | none =>
      rw [hg] at hi
      cases hi
    | some y =>
      rw [hg] at hi
      exact ⟨y, hg, (Option.some.inj hi).symm⟩
  have gd : ∀ i y, xs[i]? = some y → xs.getD i d = y := fun i y h => by rw [List.getD_eq_getElem?_getD, h]; rfl
  have z := el_lcNL (K := K) (te := te) (t := t) (fun i => pr (xs.getD i d)) (fun i => f (xs.getD i d)) h (by rw [List.length_map]; omega) hw (fun i x H1 e hi => by
    obtain ⟨y, hy, rfl⟩ := at_ i x hi
    rw [gd i y hy]
    exact ht y H1 e (List.mem_of_getElem? hy)) (fun i x H1 e hi hp => by
    obtain ⟨y, hy, rfl⟩ := at_ i x hi
    rw [gd i y hy] at hp ⊢
    exact he y H1 e (List.mem_of_getElem? hy) hp)
  have e : given (xs.map g).length (fun i => pr (xs.getD i d)) (fun i => f (xs.getD i d)) = (xs.filter pr).map f := by
    unfold given
    rw [List.length_map]
    have e1 : (List.range xs.length).map (fun i => xs.getD i d) = xs := by
      have := range_items (fun x : α => x) d xs
      simpa using this
    have e2 : ((List.range xs.length).filter fun i => pr (xs.getD i d)).map (fun i => xs.getD i d) = xs.filter pr := by
      conv => rhs; rw [← e1]
      rw [List.filter_map]
      rfl
    rw [← e2, List.map_map]
    rfl
  rw [e] at z
  exact z
theorem el_mapN {α : Type} {g f : α → V} {d : α} {xs : List α} {tl : TE} {j : Nat} {vs : List Nat} (h : EvL tl σ H (xs.map g)) (hz : xs.length ≤ 1000) (hw : ∀ x, wipe ((wipe σ vs).set j (some x)) vs = wipe σ vs)
    (he : ∀ x H1, Ex H H1 → x ∈ xs → Ev te ((wipe σ vs).set j (some (g x))) H1 (f x)) : EvL (tLc (iList K tl) (gName j) tYes te vs) σ H (xs.map f) := by
  have z := el_filterN (K := K) (te := te) (d := d) (pr := fun _ => true) (t := tYes) h hz hw (fun x H1 e hx => fun H2 e2 Q q => q H2 (Ex.refl H2)) (fun x H1 e hx _ => he x H1 e hx)
  rwa [List.filter_eq_self.mpr (fun _ _ => rfl)] at z
end
end S
namespace K06
open PySem PySem.Spec PyProof.Rows L2 Evl J ClX StX S
abbrev sLen : Stmt := methS 27 2
abbrev sMeet : Stmt := methS 27 8
abbrev sMet : Stmt := methS 27 9
abbrev sOnly : Stmt := methS 27 10
def spRes (K : PySem.W.Frag) (C : Addr) (only : Bool) : Sp := fun vs H Q _ => ∃ (a : Addr) (x y : Str) (G : List Str) (J T : List (List Str)) (lo hi : Str), vs = [.ref a, .str x, .str y] ∧ Made K C H a G J T lo hi ∧ x ∈ G ∧ y ∈ G ∧ RetV (.str (if only then onlyOf G J T lo x y else meetOf G J lo x y)) H Q
def spMet (K : PySem.W.Frag) (C : Addr) : Sp := fun vs H Q _ => ∃ (a l : Addr) (xs G : List Str) (J T : List (List Str)) (lo hi : Str), vs = [.ref a, .ref l] ∧ Made K C H a G J T lo hi ∧ SqL K H l (xs.map V.str) ∧ (∀ x ∈ xs, x ∈ G) ∧ xs.length ≤ 100 ∧ RetV (.str (put G (rowsOf G (meetOf G J lo)) hi xs)) H Q
def spLen (K : PySem.W.Frag) (C : Addr) : Sp := fun vs H Q _ => ∃ (a : Addr) (G : List Str) (J T : List (List Str)) (lo hi : Str), vs = [.ref a] ∧ ScAt K C H a G J T lo hi ∧ RetV (.int (G.length : Int)) H Q
def idemOf (G : List Str) (T : List (List Str)) : List Str := G.filter fun g => decide (ap G T g g = g)
def spIdem (K : PySem.W.Frag) (C : Addr) : Sp := fun vs H Q _ => ∃ (a : Addr) (G : List Str) (J T : List (List Str)) (lo hi : Str), vs = [.ref a] ∧ ScAt K C H a G J T lo hi ∧ RetL ((idemOf G T).map V.str) H Q
section
variable {P : Program} {w : World} {K : PySem.W.Frag} {mg : Str → Option Value} {base : Heap} {f : Addr} {fd : FuncData} {C : Addr}
theorem scLen : FnScope ["self"] ["self"] (defScope sLen) := ⟨rfl, rfl, rfl, by decide +kernel, rfl, by decide +kernel, by decide +kernel⟩
theorem scMeet : FnScope NJoin ["self", "a", "b"] (defScope sMeet) := ⟨rfl, rfl, rfl, by decide +kernel, rfl, by decide +kernel, by decide +kernel⟩
theorem scOnly : FnScope NJoin ["self", "a", "b"] (defScope sOnly) := ⟨rfl, rfl, rfl, by decide +kernel, rfl, by decide +kernel, by decide +kernel⟩
theorem scMet : FnScope NJd ["self", "row"] (defScope sMet) := ⟨rfl, rfl, rfl, by decide +kernel, rfl, by decide +kernel, by decide +kernel⟩
theorem Made.same {H : Hp} {a dx : Addr} {fs : List (Str × V)} {G : List Str} {J T : List (List Str)} {lo hi : Str} (h : Made K C H a G J T lo hi) (ha : H a = some (.ins C dx fs)) :
    ∃ mv ov, fs.lookup ("_meets" : Str) = some mv ∧ Dp K H mv (tab (rowsOf G (meetOf G J lo))) ∧ fs.lookup ("_onlys" : Str) = some ov ∧ Dp K H ov (tab (rowsOf G (onlyOf G J T lo))) := by
  obtain ⟨dx2, fs2, mv, ov, k1, k2, k3, k4, k5⟩ := h.mo
  rw [ha] at k1
  cases k1
  exact ⟨mv, ov, k2, k3, k4, k5⟩
theorem ok_only (F : FnM K "only" "Scale.only" sOnly f fd) (cf : ClsF K C fldN) (cP : MCal P w K mg base CX0 2 C "_place" ["self", "grade"] (spPlace K C)) : FnOk P w K mg base CX0 3 f fd ["self", "a", "b"] (spRes K C true) := by
  refine F.ok scOnly (fun vs H Q E h => ?_) (fun cdv A outer s H vs Q E hr h => ?_)
  · obtain ⟨a, x, y, G, J, T, lo, hi, rfl, _⟩ := h
    rfl
  · obtain ⟨a, x, y, G, J, T', lo, hi, rfl, md, hx, hy, q⟩ := h
    refine ⟨_, pss_one (ps_ret (pe_ix ix_tup (pe_ix ix_tup (pe_fld (pv 0) rfl) (pe_mcal cP (pv 0) hr pass0 (pa_cons (pv 1) pa_nil)) (fun _ _ => rfl)) (pe_mcal cP (pv 0) hr pass0 (pa_cons (pv 2) pa_nil)) (fun _ _ => rfl))), ?_⟩
    have sc := md.sc
    obtain ⟨dx, fs, g, d, j, t, h1, h2, h3, h4, h5, h6, h7, h8, h9, h10, h11, hm⟩ := sc.ex
    obtain ⟨mv, ov, k2, k3, k4, k5⟩ := md.same h1
    obtain ⟨p, r, ys, zs, rfl, t1, t2, t3, t4⟩ := tab_at (wf_rows fun x y _ _ => only_in sc.wj sc.lo) k5 hx hy
    rw [ap_rows hx hy] at t4
    have pl : ∀ i z, z ∈ G → ([some (V.ref a), some (V.str x), some (V.str y)] : L2.St)[i]? = some (some (V.str z)) → Ev (tMeth C "_place" (spPlace K C) [] E0 (tVar 0) (tCons (tVar i) tNil)) [some (.ref a), some (.str x), some (.str y)] H (.int (G.idxOf z : Int)) := fun i z hz hi =>
      ev_mcal (ev_var rfl) (ea_cons (ev_var hi) ea_nil) h1 (hm _ (by decide)) fun H1 e Q q => ⟨a, z, G, J, T', lo, _, rfl, sc.ext e, hz, q⟩
    exact s_ret (ev_op (ev_op (ev_fld (ev_var rfl) cf.cl (cf.no _ (by decide)) h1 k4) (pl 1 x hx rfl) (rv_ixT t1 t2)) (pl 2 y hy rfl) (rv_ixT t3 t4)) fun H2 e2 => q H2 e2
theorem ok_len (F : FnM K "__len__" "Scale.__len__" sLen f fd) (T : Bl mg) (cf : ClsF K C fldN) : FnOk P w K mg base CX0 1 f fd ["self"] (spLen K C) := by
  refine F.ok scLen (fun vs H Q E h => ?_) (fun cdv A outer s H vs Q E hr h => ?_)
  · obtain ⟨a, G, J, T, lo, hi, rfl, _⟩ := h
    rfl
  · obtain ⟨a, G, J, T', lo, hi, rfl, sc, q⟩ := h
    refine ⟨_, pss_one (ps_ret (pe_callB call_len_seq (by rfl) T.len boot_len (pa_cons (pe_fld (pv 0) rfl) pa_nil))), ?_⟩
    obtain ⟨dx, fs, g, d, j, t, h1, h2, h3, h4, h5, _⟩ := sc.ex
    exact s_ret (ev_is (ev_lenS (ev_fld (ev_var rfl) cf.cl (cf.no _ (by decide)) h1 h2) (.inr h3)) (by rw [List.length_map])) fun H2 e2 => q H2 e2
end
end K06

set_option Elab.async false
set_option linter.all false
set_option maxRecDepth 100000
set_option maxHeartbeats 8000000
/-! W3: _law_left_right, _law_order_right. -/
namespace K06
open PySem PySem.Spec PyProof.Rows L2 Evl J ClX StX S
section
variable {P : Program} {w : World} {K : PySem.W.Frag} {mg : Str → Option Value} {base : Heap} {f C a : Addr} {fd : FuncData} {σ : L2.St} {H : Hp} {tx ty : TE} {x y lo hi : Str} {G : List Str} {J T : List (List Str)}
theorem ev_only (h0 : σ[0]? = some (some (.ref a))) (md : Made K C H a G J T lo hi) (mx : x ∈ G) (my : y ∈ G) (hx : Ev tx σ H (.str x)) (hy : Ev ty σ H (.str y)) : Ev (tMeth C "only" (spRes K C true) [] E0 (tVar 0) (tCons tx (tCons ty tNil))) σ H (.str (onlyOf G J T lo x y)) := by
  obtain ⟨dx, fs, g, d, j, t, h1, h2, h3, h4, h5, h6, h7, h8, h9, h10, h11, hm⟩ := md.sc.ex
  exact ev_mcal (ev_var h0) (ea_cons hx (ea_cons hy ea_nil)) h1 (hm _ (by decide)) fun H1 e Q q => ⟨a, x, y, G, J, T, lo, hi, rfl, md.ext e, mx, my, q⟩
theorem ev_meet (h0 : σ[0]? = some (some (.ref a))) (md : Made K C H a G J T lo hi) (mx : x ∈ G) (my : y ∈ G) (hx : Ev tx σ H (.str x)) (hy : Ev ty σ H (.str y)) : Ev (tMeth C "meet" (spRes K C false) [] E0 (tVar 0) (tCons tx (tCons ty tNil))) σ H (.str (meetOf G J lo x y)) := by
  obtain ⟨dx, fs, g, d, j, t, h1, h2, h3, h4, h5, h6, h7, h8, h9, h10, h11, hm⟩ := md.sc.ex
  exact ev_mcal (ev_var h0) (ea_cons hx (ea_cons hy ea_nil)) h1 (hm _ (by decide)) fun H1 e Q q => ⟨a, x, y, G, J, T, lo, hi, rfl, md.ext e, mx, my, q⟩
theorem ev_within (h0 : σ[0]? = some (some (.ref a))) (sc : ScAt K C H a G J T lo hi) (mx : x ∈ G) (my : y ∈ G) (hx : Ev tx σ H (.str x)) (hy : Ev ty σ H (.str y)) : Ev (tCall (spWithin K C) [] E0 (tCons (tVar 0) (tCons tx (tCons ty tNil)))) σ H (.bl (decide (ap G J x y = y))) :=
  ev_call (ea_cons (ev_var h0) (ea_cons hx (ea_cons hy ea_nil))) fun H1 e Q q E => ⟨a, x, y, G, J, T, lo, hi, rfl, sc.ext e, mx, my, q⟩
/-- scale.m([..]) -/
theorem ev_row {sp : Sp} {m : Str} {z : V} {tl : TE} {xs : List V} (h0 : σ[0]? = some (some (.ref a)))
    (ex : ∃ (dx : Addr) (fs : List (Str × V)) (g d : Addr) (j t : V), H a = some (.ins C dx fs) ∧ fs.lookup ("_grades" : Str) = some (.ref g) ∧ SqT K H g (G.map .str) ∧ fs.lookup ("_places" : Str) = some (.ref d) ∧ H d = some (.dK (plc G 0)) ∧
      fs.lookup ("_joins" : Str) = some j ∧ Dp K H j (tab J) ∧ fs.lookup ("_products" : Str) = some t ∧ Dp K H t (tab T) ∧ fs.lookup ("none" : Str) = some (.str lo) ∧ fs.lookup ("nearest" : Str) = some (.str hi) ∧ ∀ m ∈ mths, fs.lookup m = none)
    (hm : m ∈ mths) (hA : EvL tl σ H xs) (s : ∀ p H1, Ex H H1 → H1 p = some (.lst xs) → ∀ Q : VK, RetV z H1 Q → sp [.ref a, .ref p] H1 Q E0) : Ev (tMeth C m sp [] E0 (tVar 0) (tCons tl tNil)) σ H z := by
  obtain ⟨dx, fs, g, d, j, t, h1, h2, h3, h4, h5, h6, h7, h8, h9, h10, h11, hn⟩ := ex
  exact ev_mcalL (ev_var h0) hA h1 (hn _ hm) s
theorem q_parV {D : Ends} {tz : TS} {v u : V} {i j : Nat} (h1 : Ev tx σ H v) (h2 : Ev ty σ H u) (k : ∀ H1, Ex H H1 → tz D ((σ.set i (some v)).set j (some u)) H1) : tSeq (tPar i j (tCons tx (tCons ty tNil))) tz D σ H :=
  h1 H (Ex.refl H) _ fun H1 e1 => h2 H1 e1 _ fun H2 e2 => ⟨v, u, rfl, k H2 (e1.trans e2)⟩
def spSide (K : PySem.W.Frag) (C : Addr) : Sp := fun vs H Q _ => ∃ (p : Addr) (a b c : Str) (G : List Str) (J T : List (List Str)) (lo hi : Str), vs = [.ref p, .str a, .str b, .str c] ∧ Made K C H p G J T lo hi ∧ Lawful G J T lo hi ∧ a ∈ G ∧ b ∈ G ∧ c ∈ G ∧ RetV (.bl true) H Q
abbrev NLR : List Str := ["_law_scale", "_law_a", "_law_b", "_law_c", "_law_left"]
abbrev NOR : List Str := ["_law_scale", "_law_a", "_law_b", "_law_c", "_law_meet", "_law_join"]
theorem ne_same {v : V} {b : Bool} (h : b = true) : (!b) = false := by rw [h]; rfl
end
end K06

set_option Elab.async false
set_option linter.all false
set_option maxRecDepth 100000
set_option maxHeartbeats 8000000
/-! W4: comprehensions with any target, with two clauses; isinstance of own objects; names side by side. -/
namespace S
open PySem PySem.Spec PyProof.Rows L2 Evl J ClX StX
section
variable {K : PySem.W.Frag} {σ : L2.St} {B H : Hp} {te tl tm ta tb : TE} {es : List PyData} {vs : List Nat} {xs : List V} {a : Addr}
theorem qd_list (h : EvQL K te σ B es) : EvQ K te σ B (.list es) := fun H1 e Q q =>
  h H1 e _ fun p ys H2 hp e2 h2 da => q (.ref p) H2 e2 (.lst (xs := ys) (sq_of (by rw [rst_in (.inr hp)]; exact h2)) da)
/-- a comprehension of data, whatever its target is: st i the slots behind it -/
theorem qd_lcG {g : TG} (st : Nat → L2.St) (hv : Ev tl σ B (.ref a)) (hx : SqL K B a xs) (len : xs.length = es.length) (hz : xs.length ≤ 1000) (hw : ∀ i, i < xs.length → wipe (st i) vs = wipe σ vs)
    (hg : ∀ (i : Nat) (x : V) (H1 : Hp) (Q : L2.St → Hp → Prop), Ex B H1 → xs[i]? = some x → Q (st i) H1 → g x (wipe σ vs) H1 Q)
    (el : ∀ (i : Nat) (e : PyData), es[i]? = some e → EvQ K te (st i) B e) : EvQL K (tLc (iList K tl) g tYes te vs) σ B es := fun H1 eB Q k =>
  hv H1 eB _ fun H0 e0 => ⟨a, rfl, ⟨xs, ex_l (eB.trans e0) hx⟩, fun D hD => by
    refine lc_list (xs := xs) (Lg K es B H0 D) (lg_start hD) (fun i H2 _ g => ex_l ((eB.trans e0).trans g.2.1) hx) (fun i x H2 hi g => ?_) (fun H2 g => ?_)
    · have hil := (List.getElem?_eq_some_iff.mp hi).1
      have h1 : es[i]? = some es[i] := List.getElem?_eq_getElem (by omega)
      refine hg i x H2 _ ((eB.trans e0).trans g.2.1) hi ⟨hw i hil, ?_⟩
      show te _ H2 _
      refine el i _ h1 H2 ((eB.trans e0).trans g.2.1) _ fun y H3 e3 dq => ?_
      exact lg_step (eB.trans e0) g (by omega) e3 h1 dq
    · rw [len] at g
      obtain ⟨ys, h1, h2⟩ := lg_end (eB.trans e0) g
      exact k D ys H2 (fresh_back e0 hD) (e0.trans g.2.1) h1 (dpa_ext (rst_mono (fun b z => fresh_back e0 z) fun b o _ z => z) h2)⟩
/-- the target a, b over a row of tuples of two texts -/
theorem g_two {x y : Str} {t : Addr} {i j : Nat} {H1 : Hp} {Q : L2.St → Hp → Prop} (h : SqT K H1 t [.str x, .str y]) (q : Q ((σ.set i (some (.str x))).set j (some (.str y))) H1) : gTup K 2 (gCons (gName i) (gCons (gName j) gNil)) (.ref t) σ H1 Q :=
  ⟨t, _, rfl, h, rfl, _, _, rfl, _, _, rfl, rfl, q⟩
/-- tuples of two texts -/
structure TwoAt (H : Hp) (acc : List V) (ps : List (Str × Str)) : Prop where
  len : acc.length = ps.length
  at_ : ∀ (n : Nat) p, ps[n]? = some p → ∃ t, acc[n]? = some (.ref t) ∧ H t = some (.tup [.str p.1, .str p.2])
theorem TwoAt.keep {H H' : Hp} {acc : List V} {ps : List (Str × Str)} (h : TwoAt H acc ps) (k : ∀ t xs, H t = some (.tup xs) → H' t = some (.tup xs)) : TwoAt H' acc ps := ⟨h.len, fun n r e => by
  obtain ⟨t, h1, h2⟩ := h.at_ n r e
  exact ⟨t, h1, k t _ h2⟩⟩
theorem TwoAt.snoc {H : Hp} {acc : List V} {ps : List (Str × Str)} {t : Addr} {p : Str × Str} (h : TwoAt H acc ps) (ht : H t = some (.tup [.str p.1, .str p.2])) : TwoAt H (acc ++ [.ref t]) (ps ++ [p]) := by
  refine ⟨by simp [h.len], fun n r2 e => ?_⟩
  by_cases hn : n < ps.length
  · rw [List.getElem?_append_left hn] at e
    obtain ⟨t2, h1, h2⟩ := h.at_ n r2 e
    exact ⟨t2, by rw [List.getElem?_append_left (by rw [h.len]; exact hn)]; exact h1, h2⟩
  · have e2 : n = ps.length := by
      have := (List.getElem?_eq_some_iff.mp e).1
      rw [List.length_append] at this
      simp at this
      omega
    subst e2
    rw [List.getElem?_append_right (Nat.le_refl _), Nat.sub_self] at e
    obtain rfl := Option.some.inj e
    exact ⟨t, by rw [List.getElem?_append_right (by rw [h.len]; exact Nat.le_refl _), h.len, Nat.sub_self]; rfl, ht⟩
def two (A C : List Str) : List (Str × Str) := A.flatMap fun x => C.map fun y => (x, y)
theorem two_len {C : List Str} : ∀ {A : List Str}, (two A C).length = A.length * C.length
  | [] => by simp [two]
  | m :: r => by
    have ih := two_len (C := C) (A := r)
    unfold two at ih ⊢
    rw [List.flatMap_cons, List.length_append, ih]
    simp [Nat.succ_mul, Nat.add_comm]
/-- [(x, y) for x in new list for y in new list] -/
theorem lc2_two {A C : List Str} {i j : Nat} {Q : VK} (hl : EvL tl σ H (A.map V.str)) (hz : (A.length + 1) * C.length ≤ 10000) (hzA : A.length ≤ 1000)
    (hw : ∀ x : V, wipe ((wipe σ [i, j]).set i (some x)) [i, j] = wipe σ [i, j]) (hm : ∀ x : Str, x ∈ A → EvL tm ((wipe σ [i, j]).set i (some (.str x))) H (C.map V.str))
    (hw2 : ∀ x y : V, wipe ((wipe ((wipe σ [i, j]).set i (some x)) [j]).set j (some y)) [j] = wipe ((wipe σ [i, j]).set i (some x)) [j])
    (hi : ∀ x y : V, ((wipe ((wipe σ [i, j]).set i (some x)) [j]).set j (some y))[i]? = some (some x)) (hj : ∀ x y : V, ((wipe ((wipe σ [i, j]).set i (some x)) [j]).set j (some y))[j]? = some (some y))
    (k : ∀ D H2 acc, H D = none → Ex H H2 → H2 D = some (.lst acc) → TwoAt H2 acc (two A C) → Q (.ref D) H2) :
    tLc2 (iList K tl) (gName i) tYes (iList K tm) (gName j) tYes (tTup (tCons (tVar i) (tCons (tVar j) tNil))) [i, j] [j] σ H Q := by
  refine hl H (Ex.refl H) _ fun l H0 nl e0 hl0 => ⟨l, rfl, ⟨_, sq_of hl0⟩, fun D hD => ?_⟩
  have nD : H D = none := fresh_back e0 hD
  refine ⟨fun i m H' => m = A.length - i ∧ i ≤ A.length ∧ Ex H0 H' ∧ ∃ acc, H' D = some (.lst acc) ∧ TwoAt H' acc (two (A.take i) C), ⟨A.length, by simp, Nat.zero_le _, Ex.new hD, [], upd_same, rfl, fun n r e => by simp [two] at e⟩, ?_⟩
  rintro n m H' ⟨rfl, hn, g1, acc, g2, g3⟩
  have hl' := g1 _ _ hl0
  by_cases hlt : n < A.length
  · have hri : A[n]? = some A[n] := List.getElem?_eq_getElem hlt
    refine .inr ⟨⟨_, .str A[n], sq_of hl', by rw [List.getElem?_map, hri]; rfl⟩, fun H5 => n + 1 ≤ A.length ∧ Ex H0 H5 ∧ ∃ acc, H5 D = some (.lst acc) ∧ TwoAt H5 acc (two (A.take (n + 1)) C), fun H5 p' => ⟨A.length - (n + 1), by omega, rfl, p'.1, p'.2⟩, fun x H5 y => ?_⟩
    obtain ⟨e5, y⟩ := y
    subst e5
    have hx := y _ (sq_of hl')
    rw [List.getElem?_map, hri] at hx
    obtain rfl := Option.some.inj hx
    refine ⟨hw _, ?_⟩
    unfold tYes
    dsimp only
    rw [if_pos rfl]
    refine hm A[n] (List.getElem_mem hlt) H5 (e0.trans g1) _ fun lc H6 nlc e6 hlc => ⟨lc, rfl, ⟨_, sq_of hlc⟩, ?_⟩
    have tk : two (A.take (n + 1)) C = two (A.take n) C ++ C.map fun y => (A[n], y) := by
      unfold two
      rw [List.take_add_one, hri, List.flatMap_append]
      simp
    refine ⟨fun j m H' => m = C.length - j ∧ j ≤ C.length ∧ But D H6 H' ∧ ∃ acc, H' D = some (.lst acc) ∧ TwoAt H' acc (two (A.take n) C ++ (C.take j).map fun y => (A[n], y)), ⟨C.length, by simp, Nat.zero_le _, But.of (Ex.refl H6), acc, e6 _ _ g2, by simpa using g3.keep fun t xs z => e6 _ _ z⟩, ?_⟩
    rintro q m H7 ⟨rfl, hq, f1, acc7, f2, f3⟩
    have lD : lc ≠ D := fun z => by
      rw [z, g2] at nlc
      cases nlc
    have hlc7 := f1 _ _ lD hlc
    have g7 : Ex H0 H7 := f1.ex (g1.trans e6) hD
    by_cases hlq : q < C.length
    · have hgq : C[q]? = some C[q] := List.getElem?_eq_getElem hlq
      refine .inr ⟨⟨_, .str C[q], sq_of hlc7, by rw [List.getElem?_map, hgq]; rfl⟩, fun H8 => q + 1 ≤ C.length ∧ But D H6 H8 ∧ ∃ acc, H8 D = some (.lst acc) ∧ TwoAt H8 acc (two (A.take n) C ++ (C.take (q + 1)).map fun y => (A[n], y)), fun H8 p' => ⟨C.length - (q + 1), by omega, rfl, p'.1, p'.2⟩, fun x H8 y => ?_⟩
      obtain ⟨e8, y⟩ := y
      subst e8
      have hx2 := y _ (sq_of hlc7)
      rw [List.getElem?_map, hgq] at hx2
      obtain rfl := Option.some.inj hx2
      refine ⟨hw2 _ _, ?_⟩
      dsimp only
      rw [if_pos rfl]
      refine ⟨_, hi _ _, _, hj _ _, sz_of (by simp), fun p hp => ?_⟩
      have pD : D ≠ p := fun z => by
        rw [← z, f2] at hp
        cases hp
      have accl : acc7.length ≤ 10000 := by
        rw [f3.len, List.length_append, two_len, List.length_map, List.length_take, List.length_take]
        have a1 : min n A.length = n := by omega
        have a2 : min q C.length = q := by omega
        rw [a1, a2]
        have a3 : n * C.length ≤ A.length * C.length := Nat.mul_le_mul_right _ (by omega)
        have a4 : (A.length + 1) * C.length = A.length * C.length + C.length := Nat.succ_mul _ _
        omega
      refine ⟨acc7, by rw [upd_ne pD]; exact f2, sz_lt (by omega), hlq, (f1.trans (But.of (Ex.new hp))).trans But.upd, _, upd_same, ?_⟩
      rw [List.take_add_one, hgq, List.map_append, ← List.append_assoc]
      refine TwoAt.snoc (f3.keep fun t2 xs h2 => ?_) ?_
      · have d1 : t2 ≠ D := fun z => by
          rw [z, f2] at h2
          cases h2
        rw [upd_ne d1, upd_ne (ne_of_none h2 hp)]
        exact h2
      · rw [upd_ne (Ne.symm pD), upd_same]
    · have e : q = C.length := by omega
      subst e
      refine .inl ⟨⟨_, sq_of hlc7, by simp⟩, hlt, g7, acc7, f2, ?_⟩
      rw [tk]
      rw [List.take_length] at f3
      exact f3
  · have e : n = A.length := by omega
    subst e
    refine .inl ⟨⟨_, sq_of hl', by simp⟩, k D H' acc nD (e0.trans g1) g2 ?_⟩
    rw [List.take_length] at g3
    exact g3
end
/-! ### isinstance of own objects -/
structure InsT (K : PySem.W.Frag) (C : Addr) : Prop where
  cl : Cls K C
  ha : PySem.W.findIn K (.ref C) "__class__" = some (some (.builtin "object.__class__"))
  hn : PySem.W.specialIn K (.builtin "object.__class__") "__get__" = some (some (.builtin "getset_descriptor.__get__"))
  htk : PySem.W.takesIn K (.builtin "object.__class__") = some true
  hm : PySem.W.mroIn K C (.type "object") = some true
theorem ev_isO {K : PySem.W.Frag} {σ : L2.St} {H : Hp} {te : TE} {a C D dx : Addr} {fs : List (Str × V)} {b : Bool} (h : Ev te σ H (.ref a)) (ha : H a = some (.ins C dx fs)) (T : InsT K C) (kb : PySem.W.kitOne K (.ref C) (.ref D) = some b) : Ev (tCB (rIsi K) (tCons te (tCons (tC (.ref D)) tNil))) σ H (.bl b) := fun H1 e Q q =>
  h H1 e _ fun H2 e2 => ⟨.ref a, .ref D, .ref C, .ref D, b, rfl, .own D, .base (.ins (e2 _ _ (e _ _ ha)) T.cl T.ha T.hn T.htk T.hm), kb, q H2 e2⟩
end S

set_option Elab.async false
set_option linter.all false
set_option maxRecDepth 100000
set_option maxHeartbeats 8000000
/-! W5: two scales side by side: their names and tables. -/
namespace K06
open PySem PySem.Spec PyProof.Rows L2 Evl J ClX StX S
def bes (x y : Str) : Str := x ++ ("/" : Str) ++ y
abbrev besP (p : Str × Str) : Str := bes p.1 p.2
def pairG (A C : List Str) : List Str := (two A C).map besP
def pairT (A C : List Str) (J1 J2 : List (List Str)) : List (List Str) := (two A C).map fun p => (two A C).map fun q => bes (ap A J1 p.1 q.1) (ap C J2 p.2 q.2)
theorem two_mem {A C : List Str} {p : Str × Str} : p ∈ two A C ↔ p.1 ∈ A ∧ p.2 ∈ C := by
  unfold two
  rw [List.mem_flatMap]
  constructor
  · rintro ⟨x, hx, h⟩
    obtain ⟨y, hy, rfl⟩ := List.mem_map.mp h
    exact ⟨hx, hy⟩
  · rintro ⟨h1, h2⟩
    exact ⟨p.1, h1, List.mem_map.mpr ⟨p.2, h2, rfl⟩⟩
/-- names side by side tell their sides -/
def Inj (A C : List Str) : Prop := ∀ a b c d, a ∈ A → b ∈ C → c ∈ A → d ∈ C → bes a b = bes c d → a = c ∧ b = d
theorem two_nodup {C : List Str} (hC : C.Nodup) : ∀ {A : List Str}, A.Nodup → (two A C).Nodup
  | [], _ => by simp [two]
  | x :: r, h => by
    obtain ⟨h1, h2⟩ := List.nodup_cons.mp h
    have ih := two_nodup hC h2
    unfold two at ih ⊢
    rw [List.flatMap_cons, List.nodup_append]
    refine ⟨?_, ih, fun p hp q hq e => ?_⟩
    · exact nd_map hC fun a b _ _ e => (Prod.mk.inj e).2
    · obtain ⟨y, hy, rfl⟩ := List.mem_map.mp hp
      rw [← e] at hq
      exact h1 (two_mem (p := (x, y)).mp (show (x, y) ∈ two r C from hq)).1
section
variable {A C : List Str} {J1 J2 T1 T2 : List (List Str)}
theorem pair_inj (i : Inj A C) {p q : Str × Str} (hp : p ∈ two A C) (hq : q ∈ two A C) (e : besP p = besP q) : p = q := by
  obtain ⟨h1, h2⟩ := two_mem.mp hp
  obtain ⟨h3, h4⟩ := two_mem.mp hq
  obtain ⟨e1, e2⟩ := i _ _ _ _ h1 h2 h3 h4 e
  exact Prod.ext e1 e2
theorem pair_nodup (i : Inj A C) (hA : A.Nodup) (hC : C.Nodup) : (pairG A C).Nodup := nd_map (two_nodup hC hA) fun p q hp hq e => pair_inj i hp hq e
theorem pair_mem {x : Str} : x ∈ pairG A C ↔ ∃ a b, a ∈ A ∧ b ∈ C ∧ x = bes a b := by
  unfold pairG
  rw [List.mem_map]
  constructor
  · rintro ⟨p, hp, rfl⟩
    obtain ⟨h1, h2⟩ := two_mem.mp hp
    exact ⟨_, _, h1, h2, rfl⟩
  · rintro ⟨a, b, h1, h2, rfl⟩
    exact ⟨(a, b), two_mem.mpr ⟨h1, h2⟩, rfl⟩
theorem idx_mapP {α : Type} {φ : α → Str} {a : α} : ∀ {O : List α}, (∀ b ∈ O, φ b = φ a → b = a) → a ∈ O → ∃ k, (O.map φ).idxOf (φ a) = k ∧ O[k]? = some a
  | [], _, h => absurd h (List.not_mem_nil)
  | x :: r, inj, h => by
    by_cases e : x = a
    · subst e
      exact ⟨0, by simp, rfl⟩
    · have ne : φ x ≠ φ a := fun z => e (inj x List.mem_cons_self z)
      have hr : a ∈ r := by
        rcases List.mem_cons.mp h with z | z
        · exact absurd z.symm e
        · exact z
      obtain ⟨k, h1, h2⟩ := idx_mapP (O := r) (fun b hb => inj b (List.mem_cons_of_mem _ hb)) hr
      refine ⟨k + 1, ?_, h2⟩
      rw [List.map_cons, List.idxOf_cons]
      have : (φ x == φ a) = false := by simpa using ne
      rw [this, cond_false, h1]
theorem pair_ap (i : Inj A C) {a b c d : Str} (ha : a ∈ A) (hb : b ∈ C) (hc : c ∈ A) (hd : d ∈ C) : ap (pairG A C) (pairT A C J1 J2) (bes a b) (bes c d) = bes (ap A J1 a c) (ap C J2 b d) := by
  have mp : (a, b) ∈ two A C := two_mem.mpr ⟨ha, hb⟩
  have mq : (c, d) ∈ two A C := two_mem.mpr ⟨hc, hd⟩
  obtain ⟨k1, e1, g1⟩ := idx_mapP (φ := besP) (a := (a, b)) (O := two A C) (fun p hp e => pair_inj i hp mp e) mp
  obtain ⟨k2, e2, g2⟩ := idx_mapP (φ := besP) (a := (c, d)) (O := two A C) (fun p hp e => pair_inj i hp mq e) mq
  unfold ap
  have f1 : (pairG A C).idxOf (bes a b) = k1 := e1
  have f2 : (pairG A C).idxOf (bes c d) = k2 := e2
  rw [f1, f2]
  unfold pairT
  rw [List.getD_eq_getElem?_getD, List.getD_eq_getElem?_getD, List.getElem?_map, g1]
  show ((List.map (fun q : Str × Str => bes (ap A J1 a q.1) (ap C J2 b q.2)) (two A C))[k2]?).getD "" = bes (ap A J1 a c) (ap C J2 b d)
  rw [List.getElem?_map, g2]
  rfl
theorem pair_wf (w1 : Wf A J1) (w2 : Wf C J2) : Wf (pairG A C) (pairT A C J1 J2) where
  len := by simp [pairG, pairT]
  row r hr := by
    obtain ⟨p, _, rfl⟩ := List.mem_map.mp hr
    simp [pairG]
  at_ r hr z hz := by
    obtain ⟨p, hp, rfl⟩ := List.mem_map.mp hr
    obtain ⟨q, hq, rfl⟩ := List.mem_map.mp hz
    obtain ⟨h1, h2⟩ := two_mem.mp hp
    obtain ⟨h3, h4⟩ := two_mem.mp hq
    exact pair_mem.mpr ⟨_, _, ap_mem w1 h1 h3, ap_mem w2 h2 h4, rfl⟩
theorem pair_len : (pairG A C).length = A.length * C.length := by
  unfold pairG
  rw [List.length_map, two_len]
theorem pair_law {l1 h1 l2 h2 : Str} (i : Inj A C) (L : Lawful A J1 T1 l1 h1) (M : Lawful C J2 T2 l2 h2) : Lawful (pairG A C) (pairT A C J1 J2) (pairT A C T1 T2) (bes l1 l2) (bes h1 h2) :=
  (Alg.Law.pair (pr := bes) L M (fun a b c d ha hb hc hd => pair_ap i ha hb hc hd) (fun a b c d ha hb hc hd => pair_ap i ha hb hc hd)).same fun x => pair_mem
end
/-- the pool's names tell their sides -/
theorem pool_inj {A C : List Str} (hA : ∀ x ∈ A, x ∈ pool) (hC : ∀ x ∈ C, x ∈ pool) : Inj A C := by
  have z : ∀ a ∈ pool, ∀ b ∈ pool, ∀ c ∈ pool, ∀ d ∈ pool, bes a b = bes c d → a = c ∧ b = d := by decide +kernel
  exact fun a b c d ha hb hc hd e => z a (hA a ha) b (hC b hb) c (hA c hc) d (hC d hd) e
theorem pool_len {x : Str} (h : x ∈ pool) : x.length ≤ 12 := by
  have z : ∀ x ∈ pool, x.length ≤ 12 := by decide +kernel
  exact z x h
end K06

set_option Elab.async false
set_option linter.all false
set_option maxRecDepth 100000
set_option maxHeartbeats 1000000
/-! W6: PairScale.__init__. -/
namespace S
open PySem PySem.Spec PyProof.Rows L2 Evl J ClX StX
section
variable {K : PySem.W.Frag} {σ : L2.St} {B H : Hp} {te tl : TE} {vs : List Nat} {a : Addr}
abbrev rAdS : R2 := fun x y H Q => ∃ i j, x = .str i ∧ y = .str j ∧ i.length + j.length ≤ sizeLine ∧ Q (.str (i ++ j)) H
theorem rv_adS {x y : Str} (h : x.length + y.length ≤ 100000) : RV rAdS (.str x) (.str y) H (.str (x ++ y)) := fun H1 e Q q => ⟨x, y, rfl, rfl, sz_of h, q H1 (Ex.refl H1)⟩
theorem q_asgQ {i : Nat} {tz : TS} {D : Ends} {d : PyData} (h : EvQ K te σ H d) (k : ∀ v H1, Ex H H1 → Dp K H1 v d → tz D (σ.set i (some v)) H1) : tSeq (tAsg te (gName i)) tz D σ H :=
  h H (Ex.refl H) _ fun v H1 e dq => k v H1 e dq.dp
/-- over tuples of two texts -/
theorem qd_two {i j : Nat} {acc : List V} {ps : List (Str × Str)} {F : Str × Str → PyData} (hv : Ev tl σ B (.ref a)) (hx : B a = some (.lst acc)) (tw : TwoAt B acc ps) (hz : ps.length ≤ 1000)
    (hw : ∀ x y : V, wipe (((wipe σ vs).set i (some x)).set j (some y)) vs = wipe σ vs) (el : ∀ p ∈ ps, EvQ K te (((wipe σ vs).set i (some (.str p.1))).set j (some (.str p.2))) B (F p)) :
    EvQL K (tLc (iList K tl) (gTup K 2 (gCons (gName i) (gCons (gName j) gNil))) tYes te vs) σ B (ps.map F) := by
  refine qd_lcG (fun n => ((wipe σ vs).set i (some (.str (ps.getD n ("", "")).1))).set j (some (.str (ps.getD n ("", "")).2))) hv (sq_of hx) (by rw [tw.len, List.length_map]) (by rw [tw.len]; exact hz) (fun n _ => hw _ _) (fun n x H1 Q e hi q => ?_) fun n e he => ?_
  · have hn : n < ps.length := by
      rw [← tw.len]
      exact (List.getElem?_eq_some_iff.mp hi).1
    have hp : ps[n]? = some ps[n] := List.getElem?_eq_getElem hn
    obtain ⟨t, h1, h2⟩ := tw.at_ n _ hp
    rw [h1] at hi
    obtain rfl := Option.some.inj hi
    have ed : ps.getD n ("", "") = ps[n] := by rw [List.getD_eq_getElem?_getD, hp]; rfl
    simp only [ed] at q
    exact g_two (st_of (e _ _ h2)) q
  · rw [List.getElem?_map] at he
    cases hp : ps[n]? with
    | none =>
      rw [hp] at he
      cases he
    | some p =>
      rw [hp] at he
      obtain rfl := Option.some.inj he
      have ed : ps.getD n ("", "") = p := by rw [List.getD_eq_getElem?_getD, hp]; rfl
      rw [ed]
      exact el p (List.mem_of_getElem? hp)
theorem q_two {A C : List Str} {i j n : Nat} {tm : TE} {tz : TS} {E : Ends} (hl : EvL tl σ H (A.map V.str)) (hz : (A.length + 1) * C.length ≤ 10000) (hzA : A.length ≤ 1000)
    (hw : ∀ x : V, wipe ((wipe σ [i, j]).set i (some x)) [i, j] = wipe σ [i, j]) (hm : ∀ x : Str, x ∈ A → EvL tm ((wipe σ [i, j]).set i (some (.str x))) H (C.map V.str))
    (hw2 : ∀ x y : V, wipe ((wipe ((wipe σ [i, j]).set i (some x)) [j]).set j (some y)) [j] = wipe ((wipe σ [i, j]).set i (some x)) [j])
    (hi : ∀ x y : V, ((wipe ((wipe σ [i, j]).set i (some x)) [j]).set j (some y))[i]? = some (some x)) (hj : ∀ x y : V, ((wipe ((wipe σ [i, j]).set i (some x)) [j]).set j (some y))[j]? = some (some y))
    (k : ∀ D H2 acc, H D = none → Ex H H2 → H2 D = some (.lst acc) → TwoAt H2 acc (two A C) → tz E (σ.set n (some (.ref D))) H2) :
    tSeq (tAsg (tLc2 (iList K tl) (gName i) tYes (iList K tm) (gName j) tYes (tTup (tCons (tVar i) (tCons (tVar j) tNil))) [i, j] [j]) (gName n)) tz E σ H :=
  lc2_two (Q := fun v H1 => tz E (σ.set n (some v)) H1) hl hz hzA hw hm hw2 hi hj k
end
end S
namespace K06
open PySem PySem.Spec PyProof.Rows L2 Evl J ClX StX S
abbrev sBes : Stmt := topS 37
abbrev sPI : Stmt := methS 36 0
def spBes : Sp := fun vs H Q _ => ∃ (x y : Str), vs = [.str x, .str y] ∧ x.length ≤ 1000 ∧ y.length ≤ 1000 ∧ RetV (.str (bes x y)) H Q
def spPI (K : PySem.W.Frag) (CT CP : Addr) : Sp := fun vs H Q _ => ∃ (a dx l r : Addr) (A G : List Str) (J1 T1 J2 T2 : List (List Str)) (l1 h1 l2 h2 : Str), vs = [.ref a, .ref l, .ref r] ∧ H a = some (.ins CP dx []) ∧ ScAt K CT (dl a H) l A J1 T1 l1 h1 ∧ ScAt K CT (dl a H) r G J2 T2 l2 h2 ∧
  A.length * G.length ≤ 12 ∧ Inj A G ∧ (∀ x ∈ A, x.length ≤ 1000) ∧ (∀ x ∈ G, x.length ≤ 1000) ∧ ∀ H', But a H H' → Made K CP H' a (pairG A G) (pairT A G J1 J2) (pairT A G T1 T2) (bes l1 l2) (bes h1 h2) → Q .non H'
abbrev NPI : List Str := ["self", "left", "right", "pairs", "joins", "products", "a", "b", "c", "d"]
theorem scBes : FnScope ["a", "b"] ["a", "b"] (defScope sBes) := ⟨rfl, rfl, rfl, by decide +kernel, rfl, by decide +kernel, by decide +kernel⟩
theorem scPI : FnScope NPI ["self", "left", "right"] (defScope sPI) := ⟨rfl, rfl, rfl, by decide +kernel, rfl, by decide +kernel, by decide +kernel⟩
theorem str_len {x y : Str} : (x ++ y).length = x.length + y.length := by
  show (x.cps ++ y.cps).size = _
  rw [Array.size_append]
  rfl
section
variable {P : Program} {w : World} {K : PySem.W.Frag} {mg : Str → Option Value} {base : Heap} {f fI CS CT CP : Addr} {fd fdI : FuncData} {mc : Value}
theorem ok_bes (F : FnP K "_beside" sBes f fd) : FnOk P w K mg base CX0 1 f fd ["a", "b"] spBes := by
  refine F.ok scBes (fun vs H Q E h => ?_) (fun cdv A outer s H vs Q E hr h => ?_)
  · obtain ⟨x, y, rfl, _⟩ := h
    rfl
  · obtain ⟨x, y, rfl, hx, hy, q⟩ := h
    refine ⟨_, pss_one (ps_ret (pe_op op_add_str (pe_op op_add_str (pv 0) pe_str) (pv 1))), ?_⟩
    have z1 : ("/" : Str).length = 1 := by decide +kernel
    have z2 : (x ++ ("/" : Str)).length = x.length + 1 := by rw [str_len, z1]
    exact s_ret (ev_op (ev_op (ev_var rfl) ev_c (rv_adS (x := x) (y := "/") (by omega))) (ev_var rfl) (rv_adS (x := x ++ ("/" : Str)) (y := y) (by omega))) fun H2 e2 => q H2 e2
theorem ev_bes {σ : L2.St} {H : Hp} {tx ty : TE} {x y : Str} (hx : Ev tx σ H (.str x)) (hy : Ev ty σ H (.str y)) (lx : x.length ≤ 1000) (ly : y.length ≤ 1000) : Ev (tCall spBes [] E0 (tCons tx (tCons ty tNil))) σ H (.str (bes x y)) :=
  ev_call (ea_cons hx (ea_cons hy ea_nil)) fun H1 e Q q E => ⟨x, y, rfl, lx, ly, q⟩
theorem ev_lenO {C a : Addr} {σ : L2.St} {H : Hp} {te : TE} {G : List Str} {J T : List (List Str)} {lo hi : Str} (h : Ev te σ H (.ref a)) (sc : ScAt K C H a G J T lo hi) : Ev (tCB (rLenO C (spLen K C)) (tCons te tNil)) σ H (.int (G.length : Int)) := fun H1 e Q q => by
  have sc1 := sc.ext e
  obtain ⟨dx, fs, g, d, j, t, h1, _⟩ := sc1.ex
  have z := sc.sz
  exact h H1 e _ fun H2 e2 => ⟨a, dx, fs, rfl, e2 _ _ h1, a, G, J, T, lo, hi, rfl, sc1.ext e2, fun H3 e3 => ⟨(G.length : Int), rfl, by omega, by omega, q H3 (e2.trans e3)⟩⟩
/-- scale.m(x, y) of any expression -/
theorem ev_joinA {C a : Addr} {σ : L2.St} {H : Hp} {te tx ty : TE} {G : List Str} {J T : List (List Str)} {lo hi x y : Str} (h : Ev te σ H (.ref a)) (sc : ScAt K C H a G J T lo hi) (mx : x ∈ G) (my : y ∈ G) (hx : Ev tx σ H (.str x)) (hy : Ev ty σ H (.str y)) : Ev (tMeth C "join" (spJoin K C false) [] E0 te (tCons tx (tCons ty tNil))) σ H (.str (ap G J x y)) := by
  obtain ⟨dx, fs, g, d, j, t, h1, h2, h3, h4, h5, h6, h7, h8, h9, h10, h11, hm⟩ := sc.ex
  exact ev_mcal h (ea_cons hx (ea_cons hy ea_nil)) h1 (hm _ (by decide)) fun H1 e Q q => ⟨a, x, y, G, J, T, lo, hi, rfl, sc.ext e, mx, my, q⟩
theorem ev_thenA {C a : Addr} {σ : L2.St} {H : Hp} {te tx ty : TE} {G : List Str} {J T : List (List Str)} {lo hi x y : Str} (h : Ev te σ H (.ref a)) (sc : ScAt K C H a G J T lo hi) (mx : x ∈ G) (my : y ∈ G) (hx : Ev tx σ H (.str x)) (hy : Ev ty σ H (.str y)) : Ev (tMeth C "then" (spJoin K C true) [] E0 te (tCons tx (tCons ty tNil))) σ H (.str (ap G T x y)) := by
  obtain ⟨dx, fs, g, d, j, t, h1, h2, h3, h4, h5, h6, h7, h8, h9, h10, h11, hm⟩ := sc.ex
  exact ev_mcal h (ea_cons hx (ea_cons hy ea_nil)) h1 (hm _ (by decide)) fun H1 e Q q => ⟨a, x, y, G, J, T, lo, hi, rfl, sc.ext e, mx, my, q⟩
theorem el_gradesA {C a : Addr} {σ : L2.St} {H : Hp} {te : TE} {G : List Str} {J T : List (List Str)} {lo hi : Str} (h : Ev te σ H (.ref a)) (sc : ScAt K C H a G J T lo hi) : EvL (tMeth C "grades" (spGrades K C) [] E0 te tNil) σ H (G.map V.str) := by
  obtain ⟨dx, fs, g, d, j, t, h1, h2, h3, h4, h5, h6, h7, h8, h9, h10, h11, hm⟩ := sc.ex
  exact el_mcal h ea_nil h1 (hm _ (by decide)) fun H1 e Q q => ⟨a, G, J, T, lo, hi, rfl, sc.ext e, q⟩
theorem ev_loA {C a : Addr} {σ : L2.St} {H : Hp} {te : TE} {G : List Str} {J T : List (List Str)} {lo hi : Str} (h : Ev te σ H (.ref a)) (sc : ScAt K C H a G J T lo hi) (cf : ClsF K C fldN) : Ev (tFld K te "none") σ H (.str lo) := by
  obtain ⟨dx, fs, g, d, j, t, h1, h2, h3, h4, h5, h6, h7, h8, h9, h10, h11, hm⟩ := sc.ex
  exact ev_fld h cf.cl (cf.no _ (by decide)) h1 h10
theorem ev_hiA {C a : Addr} {σ : L2.St} {H : Hp} {te : TE} {G : List Str} {J T : List (List Str)} {lo hi : Str} (h : Ev te σ H (.ref a)) (sc : ScAt K C H a G J T lo hi) (cf : ClsF K C fldN) : Ev (tFld K te "nearest") σ H (.str hi) := by
  obtain ⟨dx, fs, g, d, j, t, h1, h2, h3, h4, h5, h6, h7, h8, h9, h10, h11, hm⟩ := sc.ex
  exact ev_fld h cf.cl (cf.no _ (by decide)) h1 h11
abbrev g67 (K : PySem.W.Frag) : TG := gTup K 2 (gCons (gName 6) (gCons (gName 7) gNil))
abbrev g89 (K : PySem.W.Frag) : TG := gTup K 2 (gCons (gName 8) (gCons (gName 9) gNil))
abbrev teJ (K : PySem.W.Frag) (CT : Addr) : TE := tLc (iList K (tVar 3)) (g89 K) tYes (tCall spBes [] E0 (tCons (tMeth CT "join" (spJoin K CT false) [] E0 (tVar 1) (tCons (tVar 6) (tCons (tVar 8) tNil))) (tCons (tMeth CT "join" (spJoin K CT false) [] E0 (tVar 2) (tCons (tVar 7) (tCons (tVar 9) tNil))) tNil))) [8, 9]
abbrev teT (K : PySem.W.Frag) (CT : Addr) : TE := tLc (iList K (tVar 3)) (g89 K) tYes (tCall spBes [] E0 (tCons (tMeth CT "then" (spJoin K CT true) [] E0 (tVar 1) (tCons (tVar 6) (tCons (tVar 8) tNil))) (tCons (tMeth CT "then" (spJoin K CT true) [] E0 (tVar 2) (tCons (tVar 7) (tCons (tVar 9) tNil))) tNil))) [8, 9]
/-- rows of names, by two of the pairs each -/
theorem rows_q {σ0 σ1 σ2 σ3 σ4 σ5 σ6 σ7 σ8 σ9 : Option V} {pl : Addr} {B : Hp} {acc : List V} {ps : List (Str × Str)} {te1 : TE} {F : Str × Str → Str × Str → Str} (e3 : σ3 = some (.ref pl)) (hx : B pl = some (.lst acc)) (tw : TwoAt B acc ps) (hz : ps.length ≤ 1000)
    (el : ∀ p ∈ ps, ∀ q ∈ ps, Ev te1 [σ0, σ1, σ2, σ3, σ4, σ5, some (.str p.1), some (.str p.2), some (.str q.1), some (.str q.2)] B (.str (F p q))) :
    EvQ K (tLc (iList K (tVar 3)) (g67 K) tYes (tLc (iList K (tVar 3)) (g89 K) tYes te1 [8, 9]) [6, 7]) [σ0, σ1, σ2, σ3, σ4, σ5, σ6, σ7, σ8, σ9] B (rowsL (ps.map fun p => ps.map fun q => F p q)) := by
  subst e3
  have rl : PyData.list (ps.map fun p => .list (ps.map fun q => .str (F p q))) = rowsL (ps.map fun p => ps.map fun q => F p q) := by
    unfold rowsL
    rw [List.map_map]
    congr 1
    apply List.map_congr_left
    intro p _
    simp
  rw [← rl]
  refine qd_list (qd_two (F := fun p => .list (ps.map fun q => .str (F p q))) (ev_var rfl) hx tw hz (fun _ _ => rfl) fun p hp => ?_)
  refine qd_list (qd_two (F := fun q => .str (F p q)) (ev_var rfl) hx tw hz (fun _ _ => rfl) fun q hq => ?_)
  exact qd_ev (el p hp q hq) (.str _)
theorem ok_pinit (F : FnM K "__init__" "PairScale.__init__" sPI f fd) (T : Bl mg) (cfT : ClsF K CT fldN) (cfP : ClsF K CP fldN) (cfL : ClsF K CP ["left", "right"]) (iT : InsT K CT) (kS : PySem.W.kitOne K (.ref CT) (.ref CS) = some true) (gM : ∃ t, mg "MOST_PAIRS" = some (.int 12 t))
    (cL : MCal P w K mg base CX0 1 CT "__len__" ["self"] (spLen K CT)) (cG : MCal P w K mg base CX0 1 CT "grades" ["self"] (spGrades K CT)) (cJ : MCal P w K mg base CX0 3 CT "join" ["self", "a", "b"] (spJoin K CT false)) (cT : MCal P w K mg base CX0 3 CT "then" ["self", "a", "b"] (spJoin K CT true))
    (cB : Cal P w K mg base CX0 1 "_beside" ["a", "b"] spBes) (gS : mg "Scale" = some (.ref CS)) (r : CRead K CS mc) (c : PySem.W.findCls K (.ref CS) mc "__init__" = some (.val (.ref fI))) (hk : PySem.W.keepIn K (.ref fI) = true) (hb : Binds K fdI ["self", "grades", "joins", "products", "none", "nearest"] [])
    (FI : FnOk P w K mg base CX0 7 fI fdI ["self", "grades", "joins", "products", "none", "nearest"] (spInit K CP)) : FnOk P w K mg base CX0 8 f fd ["self", "left", "right"] (spPI K CT CP) := by
  refine F.ok scPI (fun vs H Q E h => ?_) (fun cdv A0 outer s H vs Q E hr h => ?_)
  · obtain ⟨a, dx, l, r, A, G, J1, T1, J2, T2, l1, h1, l2, h2, rfl, _⟩ := h
    rfl
  · obtain ⟨a, dx, l, rr, A, G, J1, T1, J2, T2, l1, h1, l2, h2, rfl, ha, sl, sr, hz, inj, zA, zG, q⟩ := h
    obtain ⟨tM, gM⟩ := gM
    have hr1 : Room 1 (A0.deeper (envOfC "PairScale.__init__" (defScope sPI) s.heap.objs.size f cdv)) := hr.mono (by decide)
    have hr2 : Room 2 (A0.deeper (envOfC "PairScale.__init__" (defScope sPI) s.heap.objs.size f cdv)) := hr.mono (by decide)
    have hr3 : Room 3 (A0.deeper (envOfC "PairScale.__init__" (defScope sPI) s.heap.objs.size f cdv)) := hr.mono (by decide)
    refine ⟨_, pss_cons (ps_if (PW.pt (pw_or (pt_not (pt_val (pe_callB call_isi (by rfl) T.isi boot_isinstance (pa_cons (pv 1) (pa_cons (pe_glob (v := .ref CS) rfl gS rfl) pa_nil))))) (pw_or1 (pt_not (pt_val (pe_callB call_isi (by rfl) T.isi boot_isinstance (pa_cons (pv 2) (pa_cons (pe_glob (v := .ref CS) rfl gS rfl) pa_nil)))))))) pss_no pss_nil)
      (pss_cons (ps_if (pt_cmpR op_gt (pe_op op_mul (pe_callB (call_lenM cL hr2 pass0) (by rfl) T.len boot_len (pa_cons (pv 1) pa_nil)) (pe_callB (call_lenM cL hr2 pass0) (by rfl) T.len boot_len (pa_cons (pv 2) pa_nil))) (pe_glob (v := .int 12) rfl gM ⟨_, rfl⟩) (nomark _)) pss_no pss_nil)
      (pss_cons (ps_fld (pv 0) (pv 1) rfl) (pss_cons (ps_fld (pv 0) (pv 2) rfl)
      (pss_cons (ps_set (i := 3) scPI.nd rfl (Or.inr rfl) (pe_lc2 (own := [("a", 6), ("b", 7)]) (vs1 := [7]) (g := gName 6) (g1 := gName 7) (tt := tYes) (tt1 := tYes) (wi1 := iList K (tMeth CT "grades" (spGrades K CT) [] E0 (tVar 2) tNil)) (te := tTup (tCons (tVar 6) (tCons (tVar 7) tNil))) rfl scPI.nd (pi_list (pe_mcal0 cG (pv 1) hr1 pass0)) (blkOk_by (N := NPI) (sc := defScope sPI) (by decide +kernel)) (by decide) (fun _ _ _ _ _ => pg_name (i := 6) scPI.nd rfl (Or.inl rfl)) (fun _ _ _ _ _ => pts_nil)
        (fun _ _ _ _ _ => by exact pi_list (pe_mcal0 cG (pv 2) hr1 pass0)) (fun _ _ _ _ _ => pg_name (i := 7) scPI.nd rfl (Or.inl rfl)) (fun _ _ _ _ _ => pts_nil) (fun _ _ _ _ _ => by exact pe_tup (pa_cons (pv 6) (pa_cons (pv 7) pa_nil)))))
      (pss_cons (ps_setLc (i := 4) (own := [("a", 6), ("b", 7)]) (g := g67 K) (tt := tYes) (te := teJ K CT) rfl scPI.nd rfl rfl rfl (pi_list (pv 3)) (blkOk_by (N := NPI) (sc := defScope sPI) (by decide +kernel)) (fun _ _ _ _ _ => pg_tup rfl (pgs_cons (pg_name (i := 6) scPI.nd rfl (Or.inr rfl)) (pgs_cons (pg_name (i := 7) scPI.nd rfl (Or.inr rfl)) pgs_nil))) (fun _ _ _ _ _ => pts_nil)
        (fun _ _ _ _ _ => by refine pe_lc (own := [("c", 8), ("d", 9)]) (g := g89 K) (tt := tYes) (wi := iList K (tVar 3)) rfl scPI.nd ?_ ?_ ?_ ?_ ?_ <;> first | exact pi_list (pv 3) | exact blkOk_by (N := NPI) (by rfl) | exact (fun _ _ _ _ _ => pts_nil) | exact (fun _ _ _ _ _ => pg_tup rfl (pgs_cons (pg_name (i := 8) scPI.nd rfl (Or.inl rfl)) (pgs_cons (pg_name (i := 9) scPI.nd rfl (Or.inl rfl)) pgs_nil))) | exact (fun _ _ _ _ _ => by exact pe_cal cB hr1 rfl pass0 (pa_cons (pe_mcal cJ (pv 1) hr3 pass0 (pa_cons (pv 6) (pa_cons (pv 8) pa_nil))) (pa_cons (pe_mcal cJ (pv 2) hr3 pass0 (pa_cons (pv 7) (pa_cons (pv 9) pa_nil))) pa_nil)))))
      (pss_cons (ps_setLc (i := 5) (own := [("a", 6), ("b", 7)]) (g := g67 K) (tt := tYes) (te := teT K CT) rfl scPI.nd rfl rfl rfl (pi_list (pv 3)) (blkOk_by (N := NPI) (sc := defScope sPI) (by decide +kernel)) (fun _ _ _ _ _ => pg_tup rfl (pgs_cons (pg_name (i := 6) scPI.nd rfl (Or.inr rfl)) (pgs_cons (pg_name (i := 7) scPI.nd rfl (Or.inr rfl)) pgs_nil))) (fun _ _ _ _ _ => pts_nil)
        (fun _ _ _ _ _ => by refine pe_lc (own := [("c", 8), ("d", 9)]) (g := g89 K) (tt := tYes) (wi := iList K (tVar 3)) rfl scPI.nd ?_ ?_ ?_ ?_ ?_ <;> first | exact pi_list (pv 3) | exact blkOk_by (N := NPI) (by rfl) | exact (fun _ _ _ _ _ => pts_nil) | exact (fun _ _ _ _ _ => pg_tup rfl (pgs_cons (pg_name (i := 8) scPI.nd rfl (Or.inl rfl)) (pgs_cons (pg_name (i := 9) scPI.nd rfl (Or.inl rfl)) pgs_nil))) | exact (fun _ _ _ _ _ => by exact pe_cal cB hr1 rfl pass0 (pa_cons (pe_mcal cT (pv 1) hr3 pass0 (pa_cons (pv 6) (pa_cons (pv 8) pa_nil))) (pa_cons (pe_mcal cT (pv 2) hr3 pass0 (pa_cons (pv 7) (pa_cons (pv 9) pa_nil))) pa_nil)))))
      (pss_one (ps_expr (pe_cfun (pe_glob (v := .ref CS) rfl gS rfl) r c hk FI hr hb .nil pass0 (pa_cons (pv 0)
        (pa_cons (pe_lc (own := [("a", 6), ("b", 7)]) (g := g67 K) (tt := tYes) (te := tCall spBes [] E0 (tCons (tVar 6) (tCons (tVar 7) tNil))) rfl scPI.nd (pi_list (pv 3)) (blkOk_by (N := NPI) (sc := defScope sPI) (by decide +kernel)) (fun _ _ _ _ _ => pg_tup rfl (pgs_cons (pg_name (i := 6) scPI.nd rfl (Or.inl rfl)) (pgs_cons (pg_name (i := 7) scPI.nd rfl (Or.inl rfl)) pgs_nil))) (fun _ _ _ _ _ => pts_nil) (fun _ _ _ _ _ => by exact pe_cal cB hr1 rfl pass0 (pa_cons (pv 6) (pa_cons (pv 7) pa_nil))))
        (pa_cons (pv 4) (pa_cons (pv 5) (pa_cons (pe_cal cB hr1 rfl pass0 (pa_cons (pe_fld (pv 1) rfl) (pa_cons (pe_fld (pv 2) rfl) pa_nil))) (pa_cons (pe_cal cB hr1 rfl pass0 (pa_cons (pe_fld (pv 1) rfl) (pa_cons (pe_fld (pv 2) rfl) pa_nil))) pa_nil))))))))))))))), ?_⟩
    have SL := sl.ext dl_ex
    have SR := sr.ext dl_ex
    obtain ⟨dxl, fsl, _, _, _, _, hL, _⟩ := SL.ex
    obtain ⟨dxr, fsr, _, _, _, _, hR, _⟩ := SR.ex
    refine q_when (b := false) (et_is (et_or (et_not (et_B (ev_isO (ev_var rfl) hL iT kS))) (fun _ => et_not (et_B (ev_isO (ev_var rfl) hR iT kS)))) rfl) (fun z => nomatch z) (fun _ H1 e1 => ?_)
    have zA12 := SL.sz
    have zG12 := SR.sz
    have z12 : ((A.length : Int) * (G.length : Int)) ≤ 12 := by
      rw [← Int.natCast_mul]
      omega
    refine q_when (b := false) (et_is (et_test (ev_op (ev_op (ev_lenO (ev_var rfl) (SL.ext e1)) (ev_lenO (ev_var rfl) (SR.ext e1)) (rv_I (.inl ⟨by omega, by omega⟩))) ev_c rv_I0)) (by simp; omega)) (fun z => nomatch z) (fun _ H2 e2 => ?_)
    have a2 := (e1.trans e2) _ _ ha
    refine q_fld (ev_var rfl) (ev_var rfl) a2 cfL.cl (cfL.no _ (by decide)) (by simp) fun H3 e3 => ?_
    have b3 : But a H (upd H3 a (.ins CP dx (putF "left" (.ref l) []))) := (But.of ((e1.trans e2).trans e3)).trans But.upd
    have a3 : (upd H3 a (.ins CP dx (putF "left" (.ref l) []))) a = some (.ins CP dx (putF "left" (.ref l) [])) := upd_same
    show tSeq _ _ _ _ (upd H3 a (.ins CP dx (putF "left" (.ref l) [])))
    generalize upd H3 a (.ins CP dx (putF "left" (.ref l) [])) = K3 at b3 a3 ⊢
    refine q_fld (ev_var rfl) (ev_var rfl) a3 cfL.cl (cfL.no _ (by decide)) (lt_th (flen (Nat.le_refl 0)) (by decide)) fun H4 e4 => ?_
    have b4 : But a H (upd H4 a (.ins CP dx (putF "right" (.ref rr) (putF "left" (.ref l) [])))) := (b3.trans (But.of e4)).trans But.upd
    have a4 : (upd H4 a (.ins CP dx (putF "right" (.ref rr) (putF "left" (.ref l) [])))) a = some (.ins CP dx (putF "right" (.ref rr) (putF "left" (.ref l) []))) := upd_same
    show tSeq _ _ _ _ (upd H4 a (.ins CP dx (putF "right" (.ref rr) (putF "left" (.ref l) []))))
    generalize upd H4 a (.ins CP dx (putF "right" (.ref rr) (putF "left" (.ref l) []))) = K4 at b4 a4 ⊢
    have L4 : ScAt K CT K4 l A J1 T1 l1 h1 := (sl.ext (dl_but b4)).ext dl_ex
    have R4 : ScAt K CT K4 rr G J2 T2 l2 h2 := (sr.ext (dl_but b4)).ext dl_ex
    have zz : (A.length + 1) * G.length ≤ 10000 := by
      rw [Nat.succ_mul]
      omega
    refine q_two (K := K) (tm := tMeth CT "grades" (spGrades K CT) [] E0 (tVar 2) tNil) (n := 3) (A := A) (C := G) (i := 6) (j := 7) (el_gradesA (ev_var rfl) L4) zz (by omega) (fun _ => rfl) (fun x hx => el_gradesA (ev_var rfl) R4) (fun _ _ => rfl) (fun _ _ => rfl) (fun _ _ => rfl) fun pl H5 acc n5 e5 h5 tw => ?_
    have tz : (two A G).length ≤ 1000 := by
      rw [two_len]
      omega
    have lap : ∀ x y, x ∈ A → y ∈ A → (ap A J1 x y).length ≤ 1000 ∧ (ap A T1 x y).length ≤ 1000 := fun x y hx hy => ⟨zA _ (ap_mem L4.wj hx hy), zA _ (ap_mem L4.wt hx hy)⟩
    have lgp : ∀ x y, x ∈ G → y ∈ G → (ap G J2 x y).length ≤ 1000 ∧ (ap G T2 x y).length ≤ 1000 := fun x y hx hy => ⟨zG _ (ap_mem R4.wj hx hy), zG _ (ap_mem R4.wt hx hy)⟩
    refine q_asgQ (K := K) (rows_q (F := fun p q => bes (ap A J1 p.1 q.1) (ap G J2 p.2 q.2)) rfl h5 tw tz fun p hp q hq => ev_bes (ev_joinA (ev_var rfl) (L4.ext e5) (two_mem.mp hp).1 (two_mem.mp hq).1 (ev_var rfl) (ev_var rfl)) (ev_joinA (ev_var rfl) (R4.ext e5) (two_mem.mp hp).2 (two_mem.mp hq).2 (ev_var rfl) (ev_var rfl)) (lap _ _ (two_mem.mp hp).1 (two_mem.mp hq).1).1 (lgp _ _ (two_mem.mp hp).2 (two_mem.mp hq).2).1) fun vj H6 e6 dj => ?_
    have h6 := e6 _ _ h5
    have tw6 := tw.keep (fun t xs z => e6 _ _ z)
    have e56 := e5.trans e6
    refine q_asgQ (K := K) (rows_q (F := fun p q => bes (ap A T1 p.1 q.1) (ap G T2 p.2 q.2)) rfl h6 tw6 tz fun p hp q hq => ev_bes (ev_thenA (ev_var rfl) (L4.ext e56) (two_mem.mp hp).1 (two_mem.mp hq).1 (ev_var rfl) (ev_var rfl)) (ev_thenA (ev_var rfl) (R4.ext e56) (two_mem.mp hp).2 (two_mem.mp hq).2 (ev_var rfl) (ev_var rfl)) (lap _ _ (two_mem.mp hp).1 (two_mem.mp hq).1).2 (lgp _ _ (two_mem.mp hp).2 (two_mem.mp hq).2).2) fun vt H7 e7 dt => ?_
    have h7 := e7 _ _ h6
    have tw7 := tw6.keep (fun t xs z => e7 _ _ z)
    have e57 := e56.trans e7
    have eg : (two A G).map (fun p => PyData.str (bes p.1 p.2)) = (pairG A G).map .str := by
      unfold pairG
      rw [List.map_map]
      rfl
    have LG : EvL (tLc (iList K (tVar 3)) (g67 K) tYes (tCall spBes [] E0 (tCons (tVar 6) (tCons (tVar 7) tNil))) [6, 7]) [some (.ref a), some (.ref l), some (.ref rr), some (.ref pl), some vj, some vt, none, none, none, none] H7 ((pairG A G).map V.str) := by
      have z := qd_two (K := K) (F := fun p => .str (bes p.1 p.2)) (te := tCall spBes [] E0 (tCons (tVar 6) (tCons (tVar 7) tNil))) (vs := [6, 7]) (i := 6) (j := 7) (σ := [some (.ref a), some (.ref l), some (.ref rr), some (.ref pl), some vj, some vt, none, none, none, none]) (tl := tVar 3) (ev_var rfl) h7 tw7 tz (fun _ _ => rfl) fun p hp =>
        qd_ev (ev_bes (ev_var rfl) (ev_var rfl) (zA _ (two_mem.mp hp).1) (zG _ (two_mem.mp hp).2)) (.str _)
      rw [eg] at z
      exact fun H8 e8 Q k => z H8 e8 Q fun p ys H9 n9 e9 h9 da => k p H9 n9 e9 (by rw [h9, strs_of da])
    refine ⟨rfl, _, rfl, ?_⟩
    refine LG H7 (Ex.refl H7) _ fun lg H8 n8 e8 h8 => ⟨_, rfl, _, rfl, ?_⟩
    have e58 := e57.trans e8
    have hl1 := zA _ L4.lo
    have hl2 := zG _ R4.lo
    have hh1 := zA _ L4.hi
    have hh2 := zG _ R4.hi
    refine ev_bes (ev_loA (ev_var rfl) (L4.ext e58) cfT) (ev_loA (ev_var rfl) (R4.ext e58) cfT) hl1 hl2 H8 (Ex.refl H8) _ fun H9 e9 => ?_
    have e59 := e58.trans e9
    refine ev_bes (ev_hiA (ev_var rfl) (L4.ext e59) cfT) (ev_hiA (ev_var rfl) (R4.ext e59) cfT) hh1 hh2 H9 (Ex.refl H9) _ fun H10 e10 => ?_
    have e5a := e59.trans e10
    have nlr : ∀ m ∈ mths, m ≠ "right" ∧ m ≠ "left" := by decide +kernel
    exact ⟨a, dx, lg, vj, vt, putF "right" (.ref rr) (putF "left" (.ref l) []), pairG A G, pairT A G J1 J2, pairT A G T1 T2, bes l1 l2, bes h1 h2, rfl, flen (flen (Nat.le_refl 0)), fun m hm => lk (nlr m hm).1 (lk (nlr m hm).2 rfl), e5a _ _ a4, ex_l (e9.trans e10) (sq_of h8), dp_ext ((e7.trans e8).trans (e9.trans e10)) dj, dp_ext (e8.trans (e9.trans e10)) dt,
      pair_nodup inj L4.nd R4.nd, by rw [pair_len]; exact hz, pair_wf L4.wj R4.wj, pair_wf L4.wt R4.wt, pair_mem.mpr ⟨_, _, L4.lo, R4.lo, rfl⟩, pair_mem.mpr ⟨_, _, L4.hi, R4.hi, rfl⟩, fun H' b m => q H' ((b4.trans (But.of e5a)).trans b) m⟩
end
end K06

set_option Elab.async false
set_option linter.all false
set_option maxRecDepth 100000
set_option maxHeartbeats 1000000
/-! D1: {**e, k: v}. -/
namespace D
open PySem PySem.Spec PyProof.Rows L2
section
variable {prog : Program} {w : World} {Ky : Type} [DecidableEq Ky] {kd : KeyKind prog w Ky} {A : Around} {E : Value → Shared → Prop} {s : Shared}
theorem put_ok {d : Addr} {kvs : List (Ky × Value)} {k : Ky} {key v : Value} {Q : Unit → Shared → Prop} (hk : kd.is k key = true) (hd : s.heap.DictOf kd d kvs) (hz : kvs.length ≤ sizeLine)
    (hQ : ∀ g, g.DictOf kd d (stored kvs k v) → Heap.SameBut d s.heap g → Q () { s with heap := g }) : wpAny (model prog w) A (dictPut d (kd.hash k) key v) Q E s := by
  obtain ⟨ob, cs, n, g1, g2, g3, g4, g5, g6⟩ := hd
  have hc : cs.size ≤ sizeLine := by
    have z := g5.length
    have z2 : cs.toList.length = cs.size := Array.length_toList
    omega
  unfold dictPut
  refine wpAny_bind (wpAny_dictFind_of hk g1 g3 g4 ?_)
  have same : (cs.findIdx? fun c => kd.is k c.key) = kvs.findIdx? fun q => decide (q.1 = k) := by
    rw [← g5.findIdx k]
    cases cs
    simp
  cases hi : cs.findIdx? fun c => kd.is k c.key with
  | some i =>
    rw [hi] at same
    have old := any_of_findIdx_some same.symm
    have li : (cs.toList.findIdx? fun c => kd.is k c.key) = some i := by
      rw [← hi]
      cases cs
      simp
    refine wpAny_updateDict g1 g3 (hQ _ ⟨_, _, n, Heap.get?_update_self _ g1 (Obj.isFreed_of_dict (Obj.data_mapDict g3 _)), g2.mapDict _, Obj.data_mapDict g3 _, g4.modify _ _, ?_, ?_⟩ (Heap.SameBut.update ..))
    · rw [stored, if_pos old]
      have z := g5.modify g6 li v
      cases cs
      simpa using z
    · rw [stored, if_pos old, keys_map_store]
      exact g6
  | none =>
    rw [hi] at same
    have new : k ∉ kvs.map (·.1) := not_mem_of_findIdx_none same.symm
    have none_ : ¬ (kvs.any fun q => decide (q.1 = k)) = true := fun z => by
      obtain ⟨q, hq, e⟩ := List.any_eq_true.mp z
      exact new (List.mem_map.mpr ⟨q, hq, of_decide_eq_true e⟩)
    refine wpAny_updateDictKeys (hz := hc) g1 g3 (hQ _ ⟨_, _, n + 1, Heap.get?_update_self _ g1 (Obj.isFreed_of_dict (Obj.data_mapDictKeys g3 _)), g2.mapDictKeys _, Obj.data_mapDictKeys g3 _, g4.push hk _, ?_, ?_⟩ (Heap.SameBut.update ..))
    · rw [stored, if_neg none_]
      have z := g5.append hk (kd.hash k) v
      cases cs
      simpa using z
    · rw [stored, if_neg none_, List.map_append, List.nodup_append]
      exact ⟨g6, by simp, fun x hx y hy e => new (by
        have hy2 : y = k := by simpa using hy
        rw [← hy2, ← e]
        exact hx)⟩
theorem merge_ok {d a : Addr} {kvs more : List (Ky × Value)} {Q : Unit → Shared → Prop} (ne : d ≠ a) (ns : (a == sysModules) = false) (nr : ∀ k v, kd.is k v = true → ∀ x, v ≠ .ref x) (hd : s.heap.DictOf kd d kvs) (ha : s.heap.DictOf kd a more) (hz : kvs.length + more.length ≤ sizeLine)
    (hQ : ∀ g, g.DictOf kd d (merged kvs more) → Heap.SameBut d s.heap g → Q () { s with heap := g }) : wpAny (model prog w) A (mergeMapping d (.ref a) false) Q E s := by
  obtain ⟨od, cd, nd, d1, d2, d3, d4, d5, d6⟩ := id hd
  obtain ⟨oa, ca, na, a1, a2, a3, a4, a5, a6⟩ := id ha
  have la : more.length = ca.size := by
    rw [← a5.length]
    exact Array.length_toList
  unfold mergeMapping
  refine wpAny_bind (wpAny_isInstance ha.typeIs isSubtype_dict_dict ?_)
  rw [if_pos rfl]
  refine wpAny_bind (wpAny_specialOf ha.typeIs F.slot_dict_iter.lookup ?_)
  have eb : ((some (Value.builtin "dict.__iter__") : Option Value) == some (Value.builtin "dict.__iter__")) = true := beq_self_eq_true _
  rw [eb]
  refine wpAny_bind (wpAny_pure ?_)
  dsimp only
  rw [ns]
  rw [if_neg Bool.false_ne_true]
  refine wpAny_bind (wpAny_dictEntries d1 d3 ?_)
  have loop : wpAny (model prog w) A (do
      let l ← dictEntries a
      let ep ← dictEpoch a
      forIn (List.range l.size) PUnit.unit fun i (_ : PUnit) => (do
          let l2 ← dictEntries a
          match l2[i]? with
            | some e => do
              holding [e.key, e.val] (dictPut d e.hash e.key e.val)
              let ep2 ← dictEpoch a
              if (ep2 != ep) = true then do
                  unsupported "dict.changed-during-merge"
                  pure (ForInStep.yield PUnit.unit)
                else pure (ForInStep.yield PUnit.unit)
            | _ => do
              unsupported "dict.changed-during-merge"
              pure (ForInStep.yield PUnit.unit) : Sem (ForInStep PUnit))
      pure ()) Q E s := by
    refine wpAny_bind (wpAny_dictEntries a1 a3 ?_)
    refine wpAny_bind (wpAny_dictEpoch a1 a3 ?_)
    refine wpAny_bind ?_
    refine wpAny_forIn_list _ (fun todo _ t => ∃ (g : Heap) (i : Nat), t = { s with heap := g } ∧ todo = List.range' i (ca.size - i) ∧ i ≤ ca.size ∧ g.DictOf kd d (merged kvs (more.take i)) ∧ g.get? a = some oa ∧ Heap.SameBut d s.heap g) _ ?_ ?_ _ _
      ⟨s.heap, 0, rfl, by rw [List.range_eq_range', Nat.sub_zero], Nat.zero_le _, hd, a1, Heap.SameBut.refl _ _⟩
    · rintro x todo b t ⟨g, i, rfl, er, hi, q1, q2, q3⟩
      have lt : i < ca.size := by
        by_cases z : i < ca.size
        · exact z
        · rw [Nat.sub_eq_zero_of_le (Nat.le_of_not_lt z)] at er
          simp at er
      have e2 : ca.size - i = (ca.size - (i + 1)) + 1 := by omega
      rw [e2, List.range'_succ] at er
      obtain ⟨rfl, rfl⟩ := List.cons.inj er
      refine wpAny_bind (wpAny_dictEntries q2 a3 ?_)
      rw [Array.getElem?_eq_getElem lt]
      have hm : more[x]? = some (more[x]'(by omega)) := List.getElem?_eq_getElem _
      generalize more[x]'(by omega) = kv at hm
      obtain ⟨k, v⟩ := kv
      obtain ⟨r1, r2⟩ := a5.get? (e := ca[x]) (by simp [lt]) hm
      obtain ⟨k2, r3, r4⟩ := a4 ca[x] (Array.getElem_mem lt)
      obtain rfl : k2 = k := kd.inj _ _ _ r3 r1
      show wpAny _ _ (holding [ca[x].key, ca[x].val] (dictPut d ca[x].hash ca[x].key ca[x].val) >>= _) _ _ _
      rw [r4, r2]
      have len : (merged kvs (more.take x)).length ≤ sizeLine := by
        have z1 := merged_length_le kvs (more.take x)
        have z2 : (more.take x).length ≤ more.length := by
          rw [List.length_take]
          omega
        omega
      refine wpAny_bind (wpAny_holding (put_ok r1 q1 len fun g2 p1 p2 => ?_))
      have p3 : g2.get? a = some oa := (p2.2 a (Ne.symm ne)).trans q2
      refine wpAny_bind (wpAny_dictEpoch p3 a3 ?_)
      have z : (na != na) = false := bne_self_eq_false _
      rw [z, if_neg Bool.false_ne_true]
      exact wpAny_pure ⟨g2, x + 1, rfl, rfl, lt, by rw [merged_take_succ kvs more x (k2, v) hm]; exact p1, p3, q3.trans p2⟩
    · rintro b t ⟨g, i, rfl, er, hi, q1, q2, q3⟩
      have ei : i = ca.size := by
        by_cases z : i < ca.size
        · have e2 : ca.size - i = (ca.size - (i + 1)) + 1 := by omega
          rw [e2, List.range'_succ] at er
          cases er
        · omega
      rw [ei, ← la, List.take_length] at q1
      exact wpAny_pure (hQ g q1 q3)
  split
  · refine wpAny_bind (wpAny_dictEntries a1 a3 ?_)
    refine wpAny_bind (wpAny_forIn_array' _ (fun todo _ t => t = s ∧ ∀ c ∈ todo, c ∈ ca.toList) _ ?_ ?_ ca _ ⟨rfl, fun c hc => hc⟩)
    · rintro c todo b t ⟨rfl, hc⟩
      obtain ⟨k, r1, _⟩ := a4 c (Array.mem_toList_iff.mp (hc c List.mem_cons_self))
      have nx := nr k c.key r1
      split
      · rename_i x ex
        exact absurd ex (nx x)
      · exact wpAny_pure ⟨rfl, fun c2 h2 => hc c2 (List.mem_cons_of_mem _ h2)⟩
    · rintro b t ⟨rfl, _⟩
      exact loop
  · exact loop
end
end D

set_option Elab.async false
set_option linter.all false
set_option maxRecDepth 100000
set_option maxHeartbeats 1000000
/-! D2: {**e, k: v} as a rule. -/
namespace D
open PySem PySem.Spec PyProof.Rows L2
section
variable {X : Cx} {pos : Pos} {e ke ve : Expr} {te tk tv : TE}
def tStar1 (te tk tv : TE) : TE := fun σ H Q => ∀ p, H p = none → te σ (upd H p (.dK [])) fun x H1 => ∃ a kvs, x = .ref a ∧ H1 a = some (.dK kvs) ∧ a ≠ p ∧ H1 p = some (.dK []) ∧ kvs.length ≤ 1000 ∧
  ∀ r, H1 r = none → tk σ (upd (upd H1 p (.dK (mergeK [] kvs))) r (.dK [])) fun y H2 => tv σ H2 fun z H3 => ∃ key : Key, y = kV key ∧ r ≠ p ∧ H3 r = some (.dK []) ∧ H3 p = some (.dK (mergeK [] kvs)) ∧ Q (.ref p) (upd (upd H3 r (.dK [(key, z)])) p (.dK (putK (mergeK [] kvs) key z)))
theorem pe_star1 (he : PE X e te) (hk : PE X ke tk) (hv : PE X ve tv) : PE X (.Dict [none, some ke] [e, ve] pos) (tStar1 te tk tv) := by
  refine ⟨fun pins s σ H Q I q => ?_⟩
  rw [arm_eval_Dict]
  refine wpAny_bind (wpAny_standAt ?_)
  show wpAny _ _ (dictDisplay [(none, do let x ← eval e X.env; standAt pos; pure x), (some (eval ke X.env), do let x ← eval ve X.env; standAt pos; pure x)]) _ _ _
  unfold dictDisplay
  simp only [List.forIn_cons, List.forIn_nil]
  refine wpAny_bind (wpAny_bind (wpAny_bind ?_))
  rw [if_pos (show ([] : List (Sem Value × Sem Value)).isEmpty = true from rfl)]
  refine wpAny_pure ?_
  dsimp only
  refine wpAny_bind (wpAny_alloc ?_)
  refine wpAny_bind (wpAny_holding (wpAny_bind ?_))
  have hn := I.hok.fresh (Nat.le_refl s.heap.objs.size)
  have I1 := I.laid (a := s.heap.objs.size) (o := .dK []) (h' := s.heap.push { cls := .type "dict", data := .dict #[] }) (t' := s.toks) (fun _ _ z => Heap.get?_push_of_some _ z) (Nat.le_refl _) (dk_empty s.heap I.big)
  have nref : ∀ (k : Key) (v : Value), (mixKind X.prog X.w).is k v = true → ∀ x, v ≠ Value.ref x := fun k v z x e => by
    subst e
    rcases keyIs_shape z with ⟨i, t, _, e2⟩ | ⟨y, t, _, e2⟩ <;> cases e2
  refine thn (he.run pins _ σ _ _ I1 (q _ hn)) fun u s1 ⟨x, H1, J1, rx, a, kvs, ex, ha, nap, hp, hz, q2⟩ => ?_
  subst ex
  obtain rfl : u = Value.ref a := rx
  refine wpAny_bind (wpAny_standAt (wpAny_pure ?_))
  obtain ⟨_, hd1, vs0, r0, dd0⟩ := dk_of J1.hok hp
  cases r0
  obtain ⟨_, ha1, vs, rv, dda⟩ := dk_of J1.hok ha
  have lvs : vs.length ≤ 1000 := by
    rw [← rv.length]
    exact hz
  have big : (1000 : Nat) ≤ sizeLine := by
    rw [sizeLine_eq]
    decide
  refine wpAny_bind (wpAny_onRaise (wpAny_tryCatch (wpAny_onRaise (wpAny_holding (merge_ok (Ne.symm nap) ha1 nref dd0 dda (by simp; omega) fun g dg sg => ?_)))))
  have lm : (mergeK [] kvs).length ≤ 1000 := Nat.le_trans (length_mergeK kvs []) (by simpa using hz)
  have J2 := d_write (t' := s1.toks) J1 (by rw [hp]; exact True.intro) sg (let ⟨y, _, _, hy, _⟩ := dg; ⟨y, hy⟩) (dk_new (Nat.le_trans lm big) hd1 (rv.merge .nil) dg)
  refine wpAny_pure ?_
  dsimp only
  refine wpAny_pure ?_
  dsimp only
  rw [if_neg (by exact Bool.false_ne_true)]
  refine wpAny_bind (wpAny_bind (wpAny_holding (wpAny_subDict (knd := mixKind X.prog X.w) (by exact (by decide : 1 ≤ 15)) ?_)))
  have fr2 := J2.hok.fresh (Nat.le_refl g.objs.size)
  have rp : g.objs.size ≠ s.heap.objs.size := fun z => by
    rw [z, upd_same] at fr2
    cases fr2
  have fr1 : H1 g.objs.size = none := by
    rw [upd_ne rp] at fr2
    exact fr2
  have J3 := J2.laid (a := g.objs.size) (o := .dK []) (h' := g.push { cls := .type "dict", data := .dict #[] }) (t' := s1.toks) (fun _ _ z => Heap.get?_push_of_some _ z) (Nat.le_refl _) (dk_empty g J2.big)
  show wpAny _ _ (evalPairs [(eval ke X.env, do let x ← eval ve X.env; standAt pos; pure x)]) _ _ _
  unfold evalPairs
  refine wpAny_bind (thn (hk.run pins _ σ _ _ J3 (q2 _ fr1)) fun kv s2 ⟨y, H2, K2, ry, q3⟩ => ?_)
  refine wpAny_bind (wpAny_holding (wpAny_bind (thn (hv.run pins s2 σ H2 _ K2 q3) fun vv s3 ⟨z, H3, K3, rz, key, ey, _, hr3, hp3, q4⟩ => wpAny_bind (wpAny_standAt (wpAny_pure ?_)))))
  subst ey
  unfold evalPairs
  refine wpAny_bind (wpAny_holding (wpAny_pure (wpAny_pure ?_)))
  obtain ⟨_, hdr, w0, r0, ddr⟩ := dk_of K3.hok hr3
  cases r0
  refine ⟨[(key, vv)], ⟨kV_is ry, rfl, True.intro⟩, ddr, fun g4 dg4 sg4 => ?_⟩
  have J5 := d_write (ob := .dK [(key, z)]) (t' := s3.toks + 1) K3 (by rw [hr3]; exact True.intro) sg4 (let ⟨y, _, _, hy, _⟩ := dg4; ⟨y, hy⟩) (dk_new (Nat.le_trans (by decide : 1 ≤ 1000) big) hdr (.cons ⟨rfl, rz⟩ .nil) dg4)
  have hp5 : (upd H3 g.objs.size (.dK [(key, z)])) s.heap.objs.size = some (.dK (mergeK [] kvs)) := by
    rw [upd_ne (Ne.symm rp)]
    exact hp3
  obtain ⟨_, hd5, vs5, rv5, dd5⟩ := dk_of J5.hok hp5
  refine wpAny_bind (wpAny_onRaise (wpAny_holding (merge_ok (Ne.symm rp) hdr nref dd5 dg4 ?_ fun g6 dg6 sg6 => ?_)))
  · have z1 : vs5.length ≤ 1000 := by
      rw [← rv5.length]
      exact lm
    have z2 : (merged ([] : List (Key × Value)) [(key, vv)]).length ≤ 1 := by
      have := merged_length_le ([] : List (Key × Value)) [(key, vv)]
      simpa using this
    have z3 : (1001 : Nat) ≤ sizeLine := by
      rw [sizeLine_eq]
      decide
    omega
  · have e6 : merged vs5 (merged [] [(key, vv)]) = stored vs5 key vv := rfl
    rw [e6] at dg6
    have J6 := d_write (ob := .dK (putK (mergeK [] kvs) key z)) (t' := s3.toks + 1) J5 (by rw [hp5]; exact True.intro) sg6 (let ⟨y, _, _, hy, _⟩ := dg6; ⟨y, hy⟩) (dk_new (Nat.le_trans (Nat.le_trans (length_putK _ _ _) (Nat.succ_le_succ lm)) (by rw [sizeLine_eq]; decide)) hd5 (rv5.put key rz) dg6)
    refine wpAny_pure ?_
    dsimp only
    exact wpAny_pure ⟨.ref s.heap.objs.size, _, J6, rfl, q4⟩
end
end D

set_option Elab.async false
set_option linter.all false
set_option maxRecDepth 100000
set_option maxHeartbeats 1000000
/-! W7: _first_not_kept. -/
namespace K06
open PySem PySem.Spec PyProof.Rows L2 Evl J ClX StX S D
abbrev sFnk : Stmt := topS 18
structure Keeps (A : List Str) (J1 T1 : List (List Str)) (l1 h1 : Str) (G : List Str) (J2 T2 : List (List Str)) (l2 h2 : Str) (φ : Str → Str) : Prop where
  lo : φ l1 = l2
  hi : φ h1 = h2
  jo : ∀ a b, a ∈ A → b ∈ A → φ (ap A J1 a b) = ap G J2 (φ a) (φ b)
  th : ∀ a b, a ∈ A → b ∈ A → φ (ap A T1 a b) = ap G T2 (φ a) (φ b)
/-- a dict that leads grades to grades -/
def Leads (H : Hp) (d : Addr) (A G : List Str) (φ : Str → Str) : Prop := ∃ kvs, H d = some (.dK kvs) ∧ ∀ x ∈ A, valV kvs (Sum.inr x) = some (.str (φ x)) ∧ φ x ∈ G
theorem Leads.ext {H H' : Hp} {d : Addr} {A G : List Str} {φ : Str → Str} (h : Leads H d A G φ) (e : Ex H H') : Leads H' d A G φ := by
  obtain ⟨kvs, h1, h2⟩ := h
  exact ⟨kvs, e _ _ h1, h2⟩
theorem ev_lead {σ : L2.St} {H : Hp} {td tx : TE} {d : Addr} {A G : List Str} {φ : Str → Str} {x : Str} (h : Ev td σ H (.ref d)) (L : Leads H d A G φ) (mx : x ∈ A) (hx : Ev tx σ H (.str x)) : Ev (tDGet td tx) σ H (.str (φ x)) := by
  obtain ⟨kvs, h1, h2⟩ := L
  exact ev_dget (key := Sum.inr x) h hx h1 (h2 x mx).1
def spFnk (K : PySem.W.Frag) (CS CT : Addr) : Sp := fun vs H Q _ => ∃ (s t d : Addr) (A G : List Str) (J1 T1 J2 T2 : List (List Str)) (l1 h1 l2 h2 : Str) (φ : Str → Str), vs = [.ref s, .ref t, .ref d] ∧ ScAt K CS H s A J1 T1 l1 h1 ∧ ScAt K CT H t G J2 T2 l2 h2 ∧ Leads H d A G φ ∧
  ∀ v H', Ex H H' → (Keeps A J1 T1 l1 h1 G J2 T2 l2 h2 φ → v = .non) → (¬ Keeps A J1 T1 l1 h1 G J2 T2 l2 h2 φ → ∃ r, v = .ref r) → Q v H'
abbrev NFk : List Str := ["source", "target", "leads", "a", "b"]
theorem scFk : FnScope NFk ["source", "target", "leads"] (defScope sFnk) := ⟨rfl, rfl, rfl, by decide +kernel, rfl, by decide +kernel, by decide +kernel⟩
section
variable {P : Program} {w : World} {K : PySem.W.Frag} {mg : Str → Option Value} {base : Heap} {f CS CT : Addr} {fd : FuncData}
/-- for a in s.grades(): for b in s.grades(): if ..: return .. -/
theorem q_dbl {s t d : Addr} {x3 x4 : Option V} {A : List Str} {J T : List (List Str)} {lo hi : Str} {bad : Str → Str → Bool} {tt : TT} {te : TE} {tz : TS} {D : Ends} {H : Hp} (sc : ScAt K CT H s A J T lo hi)
    (ht : ∀ a b H1, Ex H H1 → a ∈ A → b ∈ A → EvT tt [some (.ref s), some (.ref t), some (.ref d), some (.str a), some (.str b)] H1 (bad a b))
    (hr : ∀ a b H1, Ex H H1 → a ∈ A → b ∈ A → bad a b = true → te [some (.ref s), some (.ref t), some (.ref d), some (.str a), some (.str b)] H1 D.rt)
    (k : ∀ y3 y4 H1, Ex H H1 → (∀ a b, a ∈ A → b ∈ A → bad a b = false) → tz D [some (.ref s), some (.ref t), some (.ref d), y3, y4] H1) :
    tSeq (tFor (iList K (tMeth CT "grades" (spGrades K CT) [] E0 (tVar 0) tNil)) (gName 3) (tFor (iList K (tMeth CT "grades" (spGrades K CT) [] E0 (tVar 0) tNil)) (gName 4) (tIfS tt (tRet te) tNext))) tz D [some (.ref s), some (.ref t), some (.ref d), x3, x4] H := by
  have mem : ∀ (i : Nat) (x : V), (A.map V.str)[i]? = some x → ∃ a, x = .str a ∧ A[i]? = some a := fun i x h => by
    rw [List.getElem?_map] at h
    cases e : A[i]? with
    | none =>
      rw [e] at h
      cases h
    | some a =>
      rw [e] at h
      exact ⟨a, (Option.some.inj h).symm, rfl⟩
  have take_all : ∀ (l : List Str) (i : Nat) (a : Str) (p : Str → Prop), l[i]? = some a → (∀ x ∈ l.take i, p x) → p a → ∀ x ∈ l.take (i + 1), p x := fun l i a p e h1 h2 x hx => by
    rw [List.take_add_one, e] at hx
    rcases List.mem_append.mp hx with z | z
    · exact h1 x z
    · have z2 : x = a := by simpa using z
      rw [z2]
      exact h2
  refine q_forNLn (xs := A.map V.str) (el_gradesA (ev_var rfl) sc) (fun p i σ' H' => ∃ y3 y4, σ' = [some (.ref s), some (.ref t), some (.ref d), y3, y4] ∧ Ex H H' ∧ H' p = some (.lst (A.map V.str)) ∧ ∀ a ∈ A.take i, ∀ b ∈ A, bad a b = false)
    (fun p H1 np e1 h1 => ⟨_, _, rfl, e1, h1, fun a ha => by simp at ha⟩) (fun p i σ' H' _ ⟨_, _, _, _, h, _⟩ => sq_of h) ?_ ?_
  · rintro p i x σ' H1 hx ⟨y3, y4, rfl, e1, h1, al⟩
    obtain ⟨a, rfl, ha⟩ := mem i x hx
    have ma := List.mem_of_getElem? ha
    refine s_forNL (g := gName 4) (xs := A.map V.str) (el_gradesA (ev_var rfl) (sc.ext e1)) (fun p2 j σ' H' => ∃ y4, σ' = [some (.ref s), some (.ref t), some (.ref d), some (.str a), y4] ∧ Ex H1 H' ∧ H' p2 = some (.lst (A.map V.str)) ∧ ∀ b ∈ A.take j, bad a b = false)
      (fun p2 H2 np e2 h2 => ⟨_, rfl, e2, h2, fun b hb => by simp at hb⟩) (fun p2 j σ' H' _ ⟨_, _, _, h, _⟩ => sq_of h) ?_ ?_
    · rintro p2 j y σ' H2 hy ⟨y4', rfl, e2, h2, bl⟩
      obtain ⟨b, rfl, hb⟩ := mem j y hy
      have mb := List.mem_of_getElem? hb
      have e12 := e1.trans e2
      refine s_when (b := bad a b) (ht a b H2 e12 ma mb) (fun z H3 e3 => hr a b H3 (e12.trans e3) ma mb z) (fun z H3 e3 => ⟨_, rfl, e2.trans e3, e3 _ _ h2, take_all A j b (fun b => bad a b = false) hb bl z⟩)
    · rintro p2 σ' H2 ⟨y4', rfl, e2, h2, bl⟩
      rw [List.length_map, List.take_length] at bl
      exact ⟨_, _, rfl, e1.trans e2, e2 _ _ h1, take_all A i a (fun a => ∀ b ∈ A, bad a b = false) ha al bl⟩
  · rintro p σ' H1 ⟨y3, y4, rfl, e1, h1, al⟩
    rw [List.length_map, List.take_length] at al
    exact k y3 y4 H1 e1 fun a b ha hb => al a ha b hb
theorem ok_fnk (F : FnP K "_first_not_kept" sFnk f fd) (cfS : ClsF K CS fldN) (cf : ClsF K CT fldN) (cG : MCal P w K mg base CX0 1 CS "grades" ["self"] (spGrades K CS)) (cJS : MCal P w K mg base CX0 3 CS "join" ["self", "a", "b"] (spJoin K CS false)) (cTS : MCal P w K mg base CX0 3 CS "then" ["self", "a", "b"] (spJoin K CS true)) (cJ : MCal P w K mg base CX0 3 CT "join" ["self", "a", "b"] (spJoin K CT false)) (cT : MCal P w K mg base CX0 3 CT "then" ["self", "a", "b"] (spJoin K CT true)) :
    FnOk P w K mg base CX0 4 f fd ["source", "target", "leads"] (spFnk K CS CT) := by
  refine F.ok scFk (fun vs H Q E h => ?_) (fun cdv A0 outer s0 H vs Q E hr h => ?_)
  · obtain ⟨s, t, d, A, G, J1, T1, J2, T2, l1, h1, l2, h2, φ, rfl, _⟩ := h
    rfl
  · obtain ⟨s, t, d, A, G, J1, T1, J2, T2, l1, h1, l2, h2, φ, rfl, sl, sr, L, q⟩ := h
    have hu : (A0.deeper (envOfC "_first_not_kept" (defScope sFnk) s0.heap.objs.size f cdv)).units + 1 < cLine := by
      have := hr.un
      omega
    have hr1 : Room 1 (A0.deeper (envOfC "_first_not_kept" (defScope sFnk) s0.heap.objs.size f cdv)) := hr.mono (by decide)
    refine ⟨_, PSs.nox (pss_cons (ps_if (pt_cmpR op_ne (pe_dget hu (pv 2) (pe_fld (pv 0) rfl) (fun _ _ => rfl)) (pe_fld (pv 1) rfl) (nomark _)) (pss_one (ps_ret (pe_tup (pa_cons pe_str (pa_cons (pe_tup pa_nil) pa_nil))))) pss_nil)
      (pss_cons (ps_if (pt_cmpR op_ne (pe_dget hu (pv 2) (pe_fld (pv 0) rfl) (fun _ _ => rfl)) (pe_fld (pv 1) rfl) (nomark _)) (pss_one (ps_ret (pe_tup (pa_cons pe_str (pa_cons (pe_tup pa_nil) pa_nil))))) pss_nil)
      (pss_cons (ps_for PassesOwn.never rfl (pi_list (pe_mcal0 cG (pv 0) hr1 pass0)) (pg_name (i := 3) scFk.nd rfl (Or.inl rfl)) (pss_one (ps_for PassesOwn.never rfl (pi_list (pe_mcal0 cG (pv 0) hr1 pass0)) (pg_name (i := 4) scFk.nd rfl (Or.inl rfl))
        (pss_one (ps_if (pt_cmpR op_ne (pe_dget hu (pv 2) (pe_mcal cJS (pv 0) hr pass0 (pa_cons (pv 3) (pa_cons (pv 4) pa_nil))) (fun _ _ => rfl)) (pe_mcal cJ (pv 1) hr pass0 (pa_cons (pe_dget hu (pv 2) (pv 3) (fun _ _ => rfl)) (pa_cons (pe_dget hu (pv 2) (pv 4) (fun _ _ => rfl)) pa_nil))) (nomark _))
          (pss_one (ps_ret (pe_tup (pa_cons pe_str (pa_cons (pe_tup (pa_cons (pv 3) (pa_cons (pv 4) pa_nil))) pa_nil))))) pss_nil)))))
      (pss_cons (ps_for PassesOwn.never rfl (pi_list (pe_mcal0 cG (pv 0) hr1 pass0)) (pg_name (i := 3) scFk.nd rfl (Or.inl rfl)) (pss_one (ps_for PassesOwn.never rfl (pi_list (pe_mcal0 cG (pv 0) hr1 pass0)) (pg_name (i := 4) scFk.nd rfl (Or.inl rfl))
        (pss_one (ps_if (pt_cmpR op_ne (pe_dget hu (pv 2) (pe_mcal cTS (pv 0) hr pass0 (pa_cons (pv 3) (pa_cons (pv 4) pa_nil))) (fun _ _ => rfl)) (pe_mcal cT (pv 1) hr pass0 (pa_cons (pe_dget hu (pv 2) (pv 3) (fun _ _ => rfl)) (pa_cons (pe_dget hu (pv 2) (pv 4) (fun _ _ => rfl)) pa_nil))) (nomark _))
          (pss_one (ps_ret (pe_tup (pa_cons pe_str (pa_cons (pe_tup (pa_cons (pv 3) (pa_cons (pv 4) pa_nil))) pa_nil))))) pss_nil)))))
      (pss_one (ps_ret pe_non)))))), ?_⟩
    have out : ∀ (a b : Str) (r : Addr) H', Ex H H' → ¬ Keeps A J1 T1 l1 h1 G J2 T2 l2 h2 φ → Q (.ref r) H' := fun a b r H' e nk => q _ H' e (fun z => absurd z nk) fun _ => ⟨r, rfl⟩
    have fin : ∀ (te : TE) (σ : L2.St) (H1 : Hp) (ds : List PyData), K13.EvD K te σ H1 (.tuple ds) → Ex H H1 → ¬ Keeps A J1 T1 l1 h1 G J2 T2 l2 h2 φ → te σ H1 Q := fun te σ H1 ds hd e nk => hd H1 (Ex.refl H1) Q fun v H2 e2 dp => by
      cases dp with
      | tup _ _ => exact out "" "" _ H2 (e.trans e2) nk
    have sne : ∀ x y : Str, (!decide ((V.str x) = V.str y)) = true → x ≠ y := fun x y z e => by
      rw [e] at z
      simp at z
    have seq : ∀ x y : Str, (!decide ((V.str x) = V.str y)) = false → x = y := fun x y z => by
      have z2 : decide ((V.str x) = V.str y) = true := by simpa using z
      exact V.str.inj (of_decide_eq_true z2)
    refine q_when (et_test (ev_op (ev_lead (ev_var rfl) L sl.lo (ev_loA (ev_var rfl) sl cfS)) (ev_loA (ev_var rfl) sr cf) (rv_ne rfl))) (fun z H1 e1 => ?_) (fun z1 H1 e1 => ?_)
    · exact fin _ _ _ _ (K13.ed_tup (K13.da_cons (K13.ed_ev ev_c (.str _)) (K13.da_cons (K13.ed_tup K13.da_nil (by simp)) K13.da_nil)) (by simp)) e1 fun k => sne _ _ z k.lo
    refine q_when (et_test (ev_op (ev_lead (ev_var rfl) (L.ext e1) sl.hi (ev_hiA (ev_var rfl) (sl.ext e1) cfS)) (ev_hiA (ev_var rfl) (sr.ext e1) cf) (rv_ne rfl))) (fun z H2 e2 => ?_) (fun z2 H2 e2 => ?_)
    · exact fin _ _ _ _ (K13.ed_tup (K13.da_cons (K13.ed_ev ev_c (.str _)) (K13.da_cons (K13.ed_tup K13.da_nil (by simp)) K13.da_nil)) (by simp)) (e1.trans e2) fun k => sne _ _ z k.hi
    have e02 := e1.trans e2
    have im : ∀ x, x ∈ A → φ x ∈ G := fun x hx => by
      obtain ⟨kvs, _, h⟩ := L
      exact (h x hx).2
    refine q_dbl (bad := fun a b => !decide ((V.str (φ (ap A J1 a b))) = V.str (ap G J2 (φ a) (φ b)))) (sl.ext e02) (fun a b H3 e3 ha hb => et_test (ev_op (ev_lead (ev_var rfl) ((L.ext e02).ext e3) (ap_mem sl.wj ha hb) (ev_joinA (ev_var rfl) ((sl.ext e02).ext e3) ha hb (ev_var rfl) (ev_var rfl)))
        (ev_joinA (ev_var rfl) ((sr.ext e02).ext e3) (im a ha) (im b hb) (ev_lead (ev_var rfl) ((L.ext e02).ext e3) ha (ev_var rfl)) (ev_lead (ev_var rfl) ((L.ext e02).ext e3) hb (ev_var rfl))) (rv_ne rfl)))
      (fun a b H3 e3 ha hb z => fin _ _ _ _ (K13.ed_tup (K13.da_cons (K13.ed_ev ev_c (.str _)) (K13.da_cons (K13.ed_tup (K13.da_cons (K13.ed_ev (ev_var rfl) (.str _)) (K13.da_cons (K13.ed_ev (ev_var rfl) (.str _)) K13.da_nil)) (by simp)) K13.da_nil)) (by simp)) (e02.trans e3) fun k => sne _ _ z (k.jo a b ha hb))
      (fun y3 y4 H3 e3 alJ => ?_)
    have e03 := e02.trans e3
    refine q_dbl (bad := fun a b => !decide ((V.str (φ (ap A T1 a b))) = V.str (ap G T2 (φ a) (φ b)))) (sl.ext e03) (fun a b H4 e4 ha hb => et_test (ev_op (ev_lead (ev_var rfl) ((L.ext e03).ext e4) (ap_mem sl.wt ha hb) (ev_thenA (ev_var rfl) ((sl.ext e03).ext e4) ha hb (ev_var rfl) (ev_var rfl)))
        (ev_thenA (ev_var rfl) ((sr.ext e03).ext e4) (im a ha) (im b hb) (ev_lead (ev_var rfl) ((L.ext e03).ext e4) ha (ev_var rfl)) (ev_lead (ev_var rfl) ((L.ext e03).ext e4) hb (ev_var rfl))) (rv_ne rfl)))
      (fun a b H4 e4 ha hb z => fin _ _ _ _ (K13.ed_tup (K13.da_cons (K13.ed_ev ev_c (.str _)) (K13.da_cons (K13.ed_tup (K13.da_cons (K13.ed_ev (ev_var rfl) (.str _)) (K13.da_cons (K13.ed_ev (ev_var rfl) (.str _)) K13.da_nil)) (by simp)) K13.da_nil)) (by simp)) (e03.trans e4) fun k => sne _ _ z (k.th a b ha hb))
      (fun y3' y4' H4 e4 alT => ?_)
    exact s_ret ev_c fun H5 e5 => q _ _ ((e03.trans e4).trans e5) (fun _ => rfl) fun nk => absurd ⟨seq _ _ z1, seq _ _ z2, fun a b ha hb => seq _ _ (alJ a b ha hb), fun a b ha hb => seq _ _ (alT a b ha hb)⟩ nk
end
end K06

set_option Elab.async false
set_option linter.all false
set_option maxRecDepth 100000
set_option maxHeartbeats 1000000
/-! X8: _choices, row by row. -/
namespace K06
open PySem PySem.Spec PyProof.Rows L2 Evl J ClX StX S D
/-- a dict's pairs: keys, values -/
def plv (A B : List Str) : List (Key × V) := (A.zip B).map fun p => (Sum.inr p.1, V.str p.2)
theorem plv_len {A B : List Str} : (plv A B).length = min A.length B.length := by
  unfold plv
  rw [List.length_map, List.length_zip]
theorem plv_key {A B : List Str} {p : Key × V} (h : p ∈ plv A B) : ∃ x ∈ A, p.1 = Sum.inr x := by
  unfold plv at h
  obtain ⟨q, hq, rfl⟩ := List.mem_map.mp h
  exact ⟨q.1, (List.of_mem_zip hq).1, rfl⟩
theorem put_plv {A B : List Str} {x : Str} {v : V} (h : x ∉ A) : putK (plv A B) (Sum.inr x) v = plv A B ++ [(Sum.inr x, v)] := by
  unfold putK
  rw [if_neg]
  intro z
  obtain ⟨p, hp, e⟩ := List.any_eq_true.mp z
  obtain ⟨y, hy, ey⟩ := plv_key hp
  have e2 := of_decide_eq_true e
  rw [ey] at e2
  exact h (Sum.inr.inj e2 ▸ hy)
theorem plv_snoc {A B : List Str} {x y : Str} (h : A.length = B.length) : plv (A ++ [x]) (B ++ [y]) = plv A B ++ [(Sum.inr x, .str y)] := by
  unfold plv
  rw [List.zip_append h, List.map_append]
  rfl
theorem merge_app : ∀ (more acc : List (Key × V)), ((acc ++ more).map (·.1)).Nodup → mergeK acc more = acc ++ more
  | [], acc, _ => by simp [mergeK]
  | q :: r, acc, h => by
    have fresh : ¬ (acc.any fun kv => decide (kv.1 = q.1)) = true := fun z => by
      obtain ⟨p, hp, e⟩ := List.any_eq_true.mp z
      rw [List.map_append, List.nodup_append] at h
      exact h.2.2 _ (List.mem_map_of_mem hp) _ (by rw [List.map_cons]; exact List.mem_cons_self) (of_decide_eq_true e)
    have step : mergeK acc (q :: r) = mergeK (acc ++ [q]) r := by
      show mergeK (putK acc q.1 q.2) r = _
      unfold putK
      rw [if_neg fresh]
    rw [step, merge_app r (acc ++ [q]) (by simpa using h)]
    simp
theorem plv_nodup {A B : List Str} (h : A.Nodup) : ((plv A B).map (·.1)).Nodup := by
  have e : (plv A B).map (·.1) = (A.take B.length).map Sum.inr := by
    unfold plv
    rw [List.map_map]
    induction A generalizing B with
    | nil => simp
    | cons a r ih =>
      cases B with
      | nil => simp
      | cons b t =>
        rw [List.nodup_cons] at h
        simp only [List.zip_cons_cons, List.map_cons, List.length_cons, List.take_succ_cons]
        rw [ih h.2]
        rfl
  rw [e]
  exact nd_map2 ((List.take_sublist _ _).nodup h) fun a b _ _ e => Sum.inr.inj e
where
  nd_map2 {α β : Type} {f : α → β} : ∀ {l : List α}, l.Nodup → (∀ a b, a ∈ l → b ∈ l → f a = f b → a = b) → (l.map f).Nodup := fun {l} h i => nd_map h i
theorem merge_plv {A B : List Str} (h : A.Nodup) : mergeK [] (plv A B) = plv A B := by
  have z := merge_app (plv A B) [] (by simpa using plv_nodup h)
  simpa using z
theorem tups_ok {G : List Str} : ∀ {i : Nat} {r : List Str}, r ∈ tups G i → r.length = i ∧ ∀ x ∈ r, x ∈ G
  | 0, r, h => by
    rw [List.mem_singleton.mp h]
    exact ⟨rfl, fun x hx => nomatch hx⟩
  | i + 1, r, h => by
    obtain ⟨r0, h0, h1⟩ := List.mem_flatMap.mp h
    obtain ⟨g, hg, rfl⟩ := List.mem_map.mp h1
    obtain ⟨h2, h3⟩ := tups_ok h0
    refine ⟨by simp [h2], fun x hx => ?_⟩
    rcases List.mem_append.mp hx with z | z
    · exact h3 x z
    · rw [List.mem_singleton.mp z]
      exact hg
def CAt (A : List Str) (i : Nat) (H : Hp) (acc : List V) (R : List (List Str)) : Prop := acc.length = R.length ∧ ∀ (n : Nat) is, R[n]? = some is → ∃ d, acc[n]? = some (.ref d) ∧ H d = some (.dK (plv (A.take i) is))
theorem CAt.keep {A : List Str} {i : Nat} {H H' : Hp} {acc : List V} {R : List (List Str)} (h : CAt A i H acc R) (k : ∀ d kvs, H d = some (.dK kvs) → H' d = some (.dK kvs)) : CAt A i H' acc R := ⟨h.1, fun n is e => by
  obtain ⟨d, h1, h2⟩ := h.2 n is e
  exact ⟨d, h1, k _ _ h2⟩⟩
theorem CAt.snoc {A : List Str} {i : Nat} {H : Hp} {acc : List V} {R : List (List Str)} {d : Addr} {is : List Str} (h : CAt A i H acc R) (hd : H d = some (.dK (plv (A.take i) is))) : CAt A i H (acc ++ [.ref d]) (R ++ [is]) := by
  refine ⟨by simp [h.1], fun n js e => ?_⟩
  by_cases hn : n < R.length
  · rw [List.getElem?_append_left hn] at e
    obtain ⟨d2, h1, h2⟩ := h.2 n js e
    exact ⟨d2, by rw [List.getElem?_append_left (by rw [h.1]; exact hn)]; exact h1, h2⟩
  · rw [List.getElem?_append_right (by omega)] at e
    have hz : n - R.length = 0 := by
      have h1 := (List.getElem?_eq_some_iff.mp e).1
      simp at h1
      omega
    rw [hz] at e
    simp at e
    subst e
    exact ⟨d, by rw [List.getElem?_append_right (by rw [h.1]; omega), h.1, hz]; rfl, hd⟩
section
variable {K : PySem.W.Frag} {CT : Addr}
theorem lc2_star {s t p : Addr} {x : Str} {x4 x5 : Option V} {A G : List Str} {J T : List (List Str)} {lo hi : Str} {H : Hp} {acc0 : List V} {i : Nat} {Q : VK} (sc : ScAt K CT H t G J T lo hi) (nd : A.Nodup) (hx : A[i]? = some x) (hA : A.length ≤ 12)
    (hl : H p = some (.lst acc0)) {R0 : List (List Str)} (R : CAt A i H acc0 R0) (lR : ∀ is ∈ R0, is.length = i) (hz : (acc0.length + 1) * G.length ≤ 10000)
    (k : ∀ D H2 acc, H D = none → Ex H H2 → H2 D = some (.lst acc) → CAt A (i + 1) H2 acc (R0.flatMap (ext1 G)) → Q (.ref D) H2) :
    tLc2 (iList K (tVar 2)) (gName 4) tYes (iList K (tMeth CT "grades" (spGrades K CT) [] E0 (tVar 1) tNil)) (gName 5) tYes (tStar1 (tVar 4) (tVar 3) (tVar 5)) [4, 5] [5] [some (.ref s), some (.ref t), some (.ref p), some (.str x), x4, x5] H Q := by
  have hi : i < A.length := (List.getElem?_eq_some_iff.mp hx).1
  have nx : x ∉ A.take i := fun z => by
    obtain ⟨n, hn, e⟩ := List.getElem_of_mem z
    have h1 : n < i := by
      rw [List.length_take] at hn
      omega
    rw [List.getElem_take] at e
    have e2 : A[i] = x := (List.getElem?_eq_some_iff.mp hx).2
    rw [← e2] at e
    have := (List.getElem_inj nd).mp e
    omega
  have tkA : A.take (i + 1) = A.take i ++ [x] := by
    rw [List.take_add_one, hx]
    rfl
  have ndt : (A.take i).Nodup := (List.take_sublist _ _).nodup nd
  refine ⟨.ref p, rfl, p, rfl, ⟨acc0, sq_of hl⟩, fun D hD => ?_⟩
  refine ⟨fun n m H' => m = acc0.length - n ∧ n ≤ acc0.length ∧ Ex H H' ∧ ∃ acc, H' D = some (.lst acc) ∧ acc.length = n * G.length ∧ CAt A (i + 1) H' acc ((R0.take n).flatMap (ext1 G)), ⟨acc0.length, by simp, Nat.zero_le _, Ex.new hD, [], upd_same, by simp, rfl, fun n r e => by simp at e⟩, ?_⟩
  rintro n m H' ⟨rfl, hn, g1, acc, g2, gl, g3⟩
  have hl' := g1 _ _ hl
  by_cases hlt : n < acc0.length
  · have hgi : acc0[n]? = some acc0[n] := List.getElem?_eq_getElem hlt
    refine .inr ⟨⟨acc0, acc0[n], sq_of hl', hgi⟩, fun H5 => n + 1 ≤ acc0.length ∧ Ex H H5 ∧ ∃ acc, H5 D = some (.lst acc) ∧ acc.length = (n + 1) * G.length ∧ CAt A (i + 1) H5 acc ((R0.take (n + 1)).flatMap (ext1 G)), fun H5 p' => ⟨acc0.length - (n + 1), by omega, rfl, p'.1, p'.2⟩, fun y H5 hy => ?_⟩
    obtain ⟨e5, hy⟩ := hy
    subst e5
    have hx2 := hy acc0 (sq_of hl')
    rw [hgi] at hx2
    obtain rfl := Option.some.inj hx2
    have hR0 : n < R0.length := by rw [← R.1]; exact hlt
    have hRn : R0[n]? = some R0[n] := List.getElem?_eq_getElem hR0
    obtain ⟨d0, e0, hd0⟩ := R.2 n _ hRn
    have li := lR _ (List.getElem_mem hR0)
    have tkR : R0.take (n + 1) = R0.take n ++ [R0[n]] := by
      rw [List.take_add_one, hRn]
      rfl
    rw [hgi] at e0
    have e0 := Option.some.inj e0
    generalize R0[n] = is at li hd0 tkR
    rw [e0]
    refine ⟨rfl, ?_⟩
    unfold tYes
    dsimp only
    rw [if_pos rfl]
    refine el_gradesA (ev_var rfl) (sc.ext g1) H5 (Ex.refl H5) _ fun lc H6 nlc e6 hlc => ⟨lc, rfl, ⟨_, sq_of hlc⟩, ?_⟩
    have lD : lc ≠ D := fun z => by
      rw [z, g2] at nlc
      cases nlc
    refine ⟨fun j m H' => m = G.length - j ∧ j ≤ G.length ∧ But D H6 H' ∧ ∃ acc, H' D = some (.lst acc) ∧ acc.length = n * G.length + j ∧ CAt A (i + 1) H' acc ((R0.take n).flatMap (ext1 G) ++ (G.take j).map fun g => is ++ [g]), ⟨G.length, by simp, Nat.zero_le _, But.of (Ex.refl H6), acc, e6 _ _ g2, by omega, by simpa using g3.keep fun d kvs z => e6 _ _ z⟩, ?_⟩
    rintro q m H7 ⟨rfl, hq, f1, acc7, f2, fl, f3⟩
    have hlc7 := f1 _ _ lD hlc
    have g7 : Ex H H7 := f1.ex (g1.trans e6) hD
    by_cases hlq : q < G.length
    · have hgq : G[q]? = some G[q] := List.getElem?_eq_getElem hlq
      refine .inr ⟨⟨_, .str G[q], sq_of hlc7, by rw [List.getElem?_map, hgq]; rfl⟩, fun H8 => q + 1 ≤ G.length ∧ But D H6 H8 ∧ ∃ acc, H8 D = some (.lst acc) ∧ acc.length = n * G.length + (q + 1) ∧ CAt A (i + 1) H8 acc ((R0.take n).flatMap (ext1 G) ++ (G.take (q + 1)).map fun g => is ++ [g]), fun H8 p' => ⟨G.length - (q + 1), by omega, rfl, p'.1, p'.2⟩, fun y H8 hy => ?_⟩
      obtain ⟨e8, hy⟩ := hy
      subst e8
      have hx3 := hy _ (sq_of hlc7)
      rw [List.getElem?_map, hgq] at hx3
      obtain rfl := Option.some.inj hx3
      refine ⟨rfl, ?_⟩
      dsimp only
      rw [if_pos rfl]
      intro p2 hp2
      have hd8 := g7 _ _ hd0
      have dp : d0 ≠ p2 := ne_of_none hd8 hp2
      refine ⟨.ref d0, rfl, d0, _, rfl, by rw [upd_ne dp]; exact hd8, dp, upd_same, by rw [plv_len, li, List.length_take]; omega, fun r hr => ⟨_, rfl, _, rfl, Sum.inr x, rfl, ?_⟩⟩
      have rp : r ≠ p2 := fun z => by
        rw [z, upd_same] at hr
        cases hr
      have hr8 : H8 r = none := by
        rw [upd_ne rp] at hr
        exact hr
      refine ⟨rp, upd_same, by rw [upd_ne (Ne.symm rp), upd_same], ?_⟩
      have same : ∀ (b : Addr), b ≠ p2 → b ≠ r → ∀ o2 o3 o4 o5 o6, (upd (upd (upd (upd (upd H8 p2 o2) p2 o3) r o4) r o5) p2 o6) b = H8 b := fun b h1 h2 o2 o3 o4 o5 o6 => by rw [upd_ne h1, upd_ne h2, upd_ne h2, upd_ne h1, upd_ne h1]
      have old : ∀ b o, H8 b = some o → (upd (upd (upd (upd (upd H8 p2 (.dK [])) p2 (.dK (mergeK [] (plv (A.take i) is)))) r (.dK [])) r (.dK [(Sum.inr x, V.str G[q])])) p2 (.dK (putK (mergeK [] (plv (A.take i) is)) (Sum.inr x) (V.str G[q])))) b = some o := fun b o z => by
        rw [same b (ne_of_none z hp2) (ne_of_none z hr8)]
        exact z
      have accl : acc7.length ≤ 10000 := by
        have a3 : n * G.length ≤ acc0.length * G.length := Nat.mul_le_mul_right _ (by omega)
        have a4 : (acc0.length + 1) * G.length = acc0.length * G.length + G.length := Nat.succ_mul _ _
        omega
      have kk : putK (mergeK [] (plv (A.take i) is)) (Sum.inr x) (V.str G[q]) = plv (A.take (i + 1)) (is ++ [G[q]]) := by
        rw [merge_plv ndt, put_plv nx, tkA, plv_snoc (by rw [List.length_take, li]; omega)]
      have hpn : (upd (upd (upd (upd (upd H8 p2 (.dK [])) p2 (.dK (mergeK [] (plv (A.take i) is)))) r (.dK [])) r (.dK [(Sum.inr x, V.str G[q])])) p2 (.dK (putK (mergeK [] (plv (A.take i) is)) (Sum.inr x) (V.str G[q])))) p2 = some (.dK (plv (A.take (i + 1)) (is ++ [G[q]]))) := by rw [upd_same, kk]
      generalize (upd (upd (upd (upd (upd H8 p2 (.dK [])) p2 (.dK (mergeK [] (plv (A.take i) is)))) r (.dK [])) r (.dK [(Sum.inr x, V.str G[q])])) p2 (.dK (putK (mergeK [] (plv (A.take i) is)) (Sum.inr x) (V.str G[q])))) = H9 at old hpn
      have pD : p2 ≠ D := fun z => by
        rw [z, f2] at hp2
        cases hp2
      refine ⟨acc7, old _ _ f2, sz_lt (by omega), hlq, (f1.trans (But.of old)).trans But.upd, _, upd_same, by simp; omega, ?_⟩
      have keep : ∀ d kvs, H9 d = some (.dK kvs) → (upd H9 D (.lst (acc7 ++ [.ref p2]))) d = some (.dK kvs) := fun d kvs z => by
        have dD : d ≠ D := fun y => by
          rw [y, old _ _ f2] at z
          cases z
        rw [upd_ne dD]
        exact z
      have step : (G.take (q + 1)).map (fun g => is ++ [g]) = (G.take q).map (fun g => is ++ [g]) ++ [is ++ [G[q]]] := by
        rw [List.take_add_one, hgq, List.map_append]
        rfl
      rw [step, ← List.append_assoc]
      exact ((f3.keep fun d kvs y => old _ _ y).keep keep).snoc (keep _ _ hpn)
    · have e : q = G.length := by omega
      subst e
      exact .inl ⟨⟨_, sq_of hlc7, by simp⟩, hlt, g7, acc7, f2, by rw [fl, Nat.succ_mul], by rw [List.take_length] at f3; rw [tkR, List.flatMap_append, List.flatMap_singleton]; exact f3⟩
  · have e : n = acc0.length := by omega
    subst e
    exact .inl ⟨⟨_, sq_of hl', by omega⟩, k D H' acc hD g1 g2 (by rw [R.1, List.take_length] at g3; exact g3)⟩
end
end K06

set_option Elab.async false
set_option linter.all false
set_option maxRecDepth 100000
set_option maxHeartbeats 1000000
/-! X9: _choices, row by row, its def. -/
namespace K06
open PySem PySem.Spec PyProof.Rows L2 Evl J ClX StX S D
abbrev sCh : Stmt := topS 19
def spCh (K : PySem.W.Frag) (CS CT : Addr) : Sp := fun vs H Q _ => ∃ (s t : Addr) (A G : List Str) (J1 T1 J2 T2 : List (List Str)) (l1 h1 l2 h2 : Str), vs = [.ref s, .ref t] ∧ ScAt K CS H s A J1 T1 l1 h1 ∧ ScAt K CT H t G J2 T2 l2 h2 ∧ A.length ≤ 4 ∧ G.length ≤ 4 ∧
  ∀ p H' acc, H p = none → Ex H H' → H' p = some (.lst acc) → CAt A A.length H' acc (tups G A.length) → Q (.ref p) H'
theorem tups_le {G : List Str} (h : G.length ≤ 4) : ∀ {i : Nat}, (tups G i).length ≤ 4 ^ i
  | 0 => by simp [tups]
  | i + 1 => by
    have z := tups_le h (i := i)
    show ((tups G i).flatMap (ext1 G)).length ≤ 4 ^ (i + 1)
    rw [flat_len, Nat.pow_succ]
    exact Nat.mul_le_mul z h
abbrev NCh : List Str := ["source", "target", "rows", "grade", "row", "image"]
theorem scCh : FnScope NCh ["source", "target"] (defScope sCh) := ⟨rfl, rfl, rfl, by decide +kernel, rfl, by decide +kernel, by decide +kernel⟩
section
variable {P : Program} {w : World} {K : PySem.W.Frag} {mg : Str → Option Value} {base : Heap} {f CS CT : Addr} {fd : FuncData}
theorem ok_ch (F : FnP K "_choices" sCh f fd) (cGS : MCal P w K mg base CX0 1 CS "grades" ["self"] (spGrades K CS)) (cG : MCal P w K mg base CX0 1 CT "grades" ["self"] (spGrades K CT)) : FnOk P w K mg base CX0 2 f fd ["source", "target"] (spCh K CS CT) := by
  refine F.ok scCh (fun vs H Q E h => ?_) (fun cdv A0 outer s0 H vs Q E hr h => ?_)
  · obtain ⟨s, t, A, G, J1, T1, J2, T2, l1, h1, l2, h2, rfl, _⟩ := h
    rfl
  · obtain ⟨s, t, A, G, J1, T1, J2, T2, l1, h1, l2, h2, rfl, sl, sr, zA, zG, q⟩ := h
    refine ⟨_, PSs.nox (pss_cons (ps_set (i := 2) scCh.nd rfl (Or.inl rfl) (pe_lst (pa_cons pe_dnewK pa_nil)))
      (pss_cons (ps_for PassesOwn.never rfl (pi_list (pe_mcal0 cGS (pv 0) hr pass0)) (pg_name (i := 3) scCh.nd rfl (Or.inr rfl))
        (pss_one (ps_setLc2 (i := 2) (own := [("row", 4), ("image", 5)]) (vs1 := [5]) (g := gName 4) (g1 := gName 5) (tt := tYes) (tt1 := tYes) (wi1 := iList K (tMeth CT "grades" (spGrades K CT) [] E0 (tVar 1) tNil)) (te := tStar1 (tVar 4) (tVar 3) (tVar 5)) rfl scCh.nd rfl rfl rfl (pi_list (pv 2)) (blkOk_by (N := NCh) (sc := defScope sCh) (by decide +kernel)) (by decide) (fun _ _ _ _ _ => pg_name (i := 4) scCh.nd rfl (Or.inl rfl)) (fun _ _ _ _ _ => pts_nil)
          (fun _ _ _ _ _ => by exact pi_list (pe_mcal0 cG (pv 1) hr pass0)) (fun _ _ _ _ _ => pg_name (i := 5) scCh.nd rfl (Or.inl rfl)) (fun _ _ _ _ _ => pts_nil) (fun _ _ _ _ _ => by exact pe_star1 (pv 4) (pv 3) (pv 5)))))
      (pss_one (ps_ret (pv 2))))), ?_⟩
    intro d0 hd0
    refine ⟨sz_of (by simp), fun p0 hp0 => ?_⟩
    have e1 : Ex H (upd (upd H d0 (.dK [])) p0 (.lst [.ref d0])) := (Ex.new hd0).trans (Ex.new hp0)
    have np0 : H p0 = none := fresh_back (Ex.new hd0) hp0
    have dp0 : d0 ≠ p0 := fun z => by
      rw [← z, upd_same] at hp0
      cases hp0
    have r1 : CAt A 0 (upd (upd H d0 (.dK [])) p0 (.lst [.ref d0])) [.ref d0] (tups G 0) := by
      refine ⟨rfl, fun n is e => ?_⟩
      have hn : n = 0 := by
        have h1 := (List.getElem?_eq_some_iff.mp e).1
        simpa [tups] using h1
      subst hn
      have e2 := Option.some.inj e
      subst e2
      exact ⟨d0, rfl, by rw [upd_ne dp0, upd_same]; rfl⟩
    have a1 : (upd (upd H d0 (.dK [])) p0 (.lst [.ref d0])) p0 = some (.lst [.ref d0]) := upd_same
    show tSeq _ _ _ _ (upd (upd H d0 (.dK [])) p0 (.lst [.ref d0]))
    generalize upd (upd H d0 (.dK [])) p0 (.lst [.ref d0]) = H1 at e1 r1 a1 ⊢
    refine q_forNLn (xs := A.map V.str) (el_gradesA (ev_var rfl) (sl.ext e1)) (fun pl i σ' H' => ∃ p acc x3 x4 x5, σ' = [some (.ref s), some (.ref t), some (.ref p), x3, x4, x5] ∧ H p = none ∧ Ex H H' ∧ H' pl = some (.lst (A.map V.str)) ∧ H' p = some (.lst acc) ∧ CAt A i H' acc (tups G i))
      (fun pl H2 _ e2 h2 => ⟨p0, _, _, _, _, rfl, np0, e1.trans e2, h2, e2 _ _ a1, r1.keep fun d kvs z => e2 _ _ z⟩) (fun pl i σ' H' _ ⟨_, _, _, _, _, _, _, _, h, _⟩ => sq_of h) ?_ ?_
    · rintro pl i v σ' H2 hv ⟨p, acc, x3, x4, x5, rfl, np, e2, h2, h3, R⟩
      have hl : acc.length ≤ 4 ^ i := by rw [R.1]; exact tups_le zG
      rw [List.getElem?_map] at hv
      cases hx : A[i]? with
      | none =>
        rw [hx] at hv
        cases hv
      | some x =>
        rw [hx] at hv
        obtain rfl := Option.some.inj hv
        have hi : i < A.length := (List.getElem?_eq_some_iff.mp hx).1
        have p4 : 4 ^ i ≤ 64 := by
          have : i = 0 ∨ i = 1 ∨ i = 2 ∨ i = 3 := by omega
          rcases this with rfl | rfl | rfl | rfl <;> decide
        have b1 : (acc.length + 1) * G.length ≤ 10000 := by
          have := Nat.mul_le_mul (show acc.length + 1 ≤ 65 by omega) zG
          omega
        refine lc2_star (Q := fun v H1 => _) (sr.ext e2) sl.nd hx sl.sz h3 R (fun is h => (tups_mem h).1) b1 fun D H4 acc4 n4 e4 h4 R4 => ?_
        exact ⟨D, acc4, _, _, _, rfl, fresh_back e2 n4, e2.trans e4, e4 _ _ h2, h4, R4⟩
    · rintro pl σ' H2 ⟨p, acc, x3, x4, x5, rfl, np, e2, h2, h3, R⟩
      rw [List.length_map] at R
      exact s_ret (ev_var rfl) fun H3 e3 => q p H3 acc np (e2.trans e3) (e3 _ _ h3) (R.keep fun d kvs z => e3 _ _ z)
end
end K06

set_option Elab.async false
set_option linter.all false
set_option maxRecDepth 100000
set_option maxHeartbeats 1000000
/-! W10: calls of own objects; dicts of two rows; ScaleMap.__init__, __call__. -/
namespace S
open PySem PySem.Spec PyProof.Rows L2 Evl J ClX StX
/-- o(e, ..) by o's own __call__ -/
def tObj (C : Addr) (sp : Sp) (E : XK) (tf : TE) (t : TA) : TE := fun σ H Q => tf σ H fun y H1 => ∃ a, y = V.ref a ∧ t σ H1 fun vs H2 => (∃ dx fs, H2 a = some (.ins C dx fs)) ∧ sp (V.ref a :: vs ++ []) H2 Q E
section
variable {X : Cx} {CX : CXT} {k : Nat} {C f : Addr} {fd : FuncData} {ps : List Str} {sp : Sp} {E : XK} {fe e : Expr} {es : List Expr} {tf : TE} {t : TA} {pos : Pos}
theorem pe_obj (hf : PE X fe tf) (c : CallO X.K C f) (F : FnOk X.prog X.w X.K X.mg X.base CX k f fd ps sp) (hb : Binds X.K fd ps []) (hr : Room k X.A) (hx : Passes CX X E) (ha : PA X (e :: es) t)
    (ht : eval (.Call fe (e :: es) [] pos) X.env = (do callWith pos (← eval fe X.env) [] (backTo pos (starEach (e :: es) X.env)) (backToKw pos (keywordEach [] X.env))) := by rfl)
    (hs : starEach (e :: es) X.env = (false, eval e X.env) :: starEach es X.env := by rfl) (hp : (backTo pos (starEach es X.env)).any (·.1) = false := by rfl) : PE X (.Call fe (e :: es) [] pos) (tObj C sp E tf t) := by
  refine ⟨fun pins s σ H Q I h => ?_⟩
  refine Call_ (thn (hf.run pins s σ H _ I h) fun u s1 ⟨y, H1, J1, ry, a, ey, q⟩ => ?_) ht
  subst ey
  obtain rfl : u = Value.ref a := ry
  refine callO_with (thn (ha.run pos pins s1 σ H1 _ J1 q) fun us s2 ⟨vs, H2, J2, rv, hi, q2⟩ => ?_) hs hp
  obtain ⟨ox, od, J, hd⟩ := insC_at (C := C) J2 (.inr hi)
  refine ⟨⟨C, ox, od, J, hd⟩, wpAny_call (PySem.W.kco_code J2.kIn J hd c.at_ c.fn c.fi ?_)⟩
  have r1 : Vals (V.ref a :: vs) (Value.ref a :: us) := .cons rfl rv
  have r2 : Vals ((V.ref a :: vs) ++ []) ((Value.ref a :: us) ++ []) := r1.append .nil
  have hl : ((Value.ref a :: us) ++ ([] : List Value)).length = ps.length := by rw [← r2.length]; exact F.len _ _ _ _ q2
  have go := F.run X.A X.stack s2 H2 ⟨Value.ref a :: us, []⟩ _ _ _ E hr J2.env0 (hb s2 (Value.ref a :: us) J2.kIn hl) r2 q2
  refine codeAny_mono go fun z s' hq => ?_
  cases z with
  | error er => exact hx pins σ H2 s2 er s' J2 hq
  | ok fl =>
    cases fl with
    | ret u => exact J2.after hq
    | next => exact False.elim hq
    | brk => exact False.elim hq
    | cont => exact False.elim hq
/-- y = {k: v for ..}, y a plain local -/
theorem ps_setDc {i : Nat} {y : Str} {py : Pos} {kx vx tg iter : Expr} {ifs : List Expr} {scope : Scope} {own : List (Str × Nat)} {pos spos : Pos} {wi : TI} {g : TG} {tt : TT} {tk tv : TE} (hc : X.calm = true) (hN : X.N.Nodup) (hy : X.N[i]? = some y) (hyl : X.env.scope.names.lookup y = some .local)
    (hsw : swapsWith (.DictComp kx vx [⟨tg, iter, ifs, 0⟩] scope pos) (some (.Name y py)) spos.line X.env = pure true) (hi : PI X tg iter wi) (ok : BlkOk X.N X.env.scope scope own)
    (hg : ∀ (s : Shared) (H : Hp) (C : Addr) (cl : List (Str × Addr)) (fp : List Addr), PG (X.blk s H scope (compEnvC scope cl C X.env) fp) tg g) (ht : ∀ (s : Shared) (H : Hp) (C : Addr) (cl : List (Str × Addr)) (fp : List Addr), PTs (X.blk s H scope (compEnvC scope cl C X.env) fp) ifs tt)
    (hk : ∀ (s : Shared) (H : Hp) (C : Addr) (cl : List (Str × Addr)) (fp : List Addr), PE (X.blk s H scope (compEnvC scope cl C X.env) fp) kx tk) (he : ∀ (s : Shared) (H : Hp) (C : Addr) (cl : List (Str × Addr)) (fp : List Addr), PE (X.blk s H scope (compEnvC scope cl C X.env) fp) vx tv)
    (hs : ∀ x, foldedSetIterable iter X.env x = pure x := by intro _; rfl) : PS X (.Assign [.Name y py] (.DictComp kx vx [⟨tg, iter, ifs, 0⟩] scope pos) spos) (tAsg (tDc wi g tt tk tv (own.map (·.2))) (gName i)) := by
  refine ⟨fun pins s σ H D I h => ?_⟩
  rw [exec_Assign_Name_used _ _ _ _ hsw]
  refine wpAny_bind (wpAny_standAt (wpAny_bind (?_ : wpAny _ X.A (do let _ ← comprehension (.DictComp kx vx [⟨tg, iter, ifs, 0⟩] scope pos) scope X.env (firstIterPos [⟨tg, iter, ifs, 0⟩] pos) newDict false (eval iter X.env) (some (assign (.Name y py) X.env))) _ _ s)))
  have h2 : tDc wi g tt tk tv (own.map (·.2)) σ H (fun x H1 => gName i x σ H1 D.nx) := h
  refine wpAny_bind (thn (dc_core (Qf := fun _ t => SP X pins D .next t) hc hN I hi ok hg ht hk he hs h2 fun L C t m H' J q hn fp => ?_) fun _ t hq => wpAny_pure (wpAny_pure hq))
  refine (?_ : wpAny _ _ (assign (.Name y py) X.env (.ref L)) _ _ _)
  refine wpAny_assign_Name (store_ok2 (v := V.ref L) J hN hy (.inl hyl) rfl (fun t2 J2 ⟨b, sb, hb⟩ => ?_) (.inr hyl))
  obtain ⟨p0, p1, p2, p3, p4, p5⟩ := fp
  have nb : C ≠ b := by
    rcases hb with z | z
    · rw [z]
      exact p1
    · exact fun e => p4 y b z e.symm
  exact ⟨m, hn.sameBut sb nb, fun t3 sb3 => ⟨_, H', J2.turned (t' := t2.toks) (fun c o hc e => (sb3.2 c hc).trans e) p0 p1 p3 p4 p5, q⟩⟩
end
end S
namespace K06
open PySem PySem.Spec PyProof.Rows L2 Evl J ClX StX S D
theorem plv_val {x : Str} : ∀ {A B : List Str}, A.length = B.length → x ∈ A → valV (plv A B) (Sum.inr x) = some (.str (B.getD (A.idxOf x) ""))
  | [], _, _, h => absurd h List.not_mem_nil
  | a :: r, [], h, _ => by simp at h
  | a :: r, b :: t, h, hx => by
    show valV ((Sum.inr a, V.str b) :: plv r t) (Sum.inr x) = _
    by_cases e : a = x
    · subst e
      rw [valV_pos (by rfl)]
      simp
    · have hr : x ∈ r := by
        rcases List.mem_cons.mp hx with z | z
        · exact absurd z.symm e
        · exact z
      rw [valV_neg (fun z => e (Sum.inr.inj z)), plv_val (by simpa using h) hr, List.idxOf_cons]
      have : (a == x) = false := by simpa using e
      rw [this]
      rfl
/-- {xs[i]: ys[i] for i in range(len(xs))} -/
theorem dc_zip {σ : L2.St} {H : Hp} {A B : List Str} {ta : TA} {tk tv : TE} {vs : List Nat} {j : Nat} (nd : A.Nodup) (lab : A.length = B.length) (hz : A.length ≤ 1000) (hn : EvA ta σ H [.int (A.length : Int)]) (hw : ∀ x, wipe ((wipe σ vs).set j (some x)) vs = wipe σ vs)
    (ek : ∀ (i : Nat) x, A[i]? = some x → Ev tk ((wipe σ vs).set j (some (.int (i : Int)))) H (.str x)) (el : ∀ (i : Nat) y, B[i]? = some y → Ev tv ((wipe σ vs).set j (some (.int (i : Int)))) H (.str y))
    {Q : VK} (k : ∀ D H2, H D = none → Ex H H2 → H2 D = some (.dK (plv A B)) → Q (.ref D) H2) : tDc (iRng1 ta) (gName j) tYes tk tv vs σ H Q := by
  refine hn H (Ex.refl H) _ fun H0 e0 => ⟨(A.length : Int), rfl, by omega, by omega, fun D hD => ?_⟩
  refine ⟨fun i m H' => m = A.length - i ∧ i ≤ A.length ∧ H0 D = none ∧ Ex H0 H' ∧ H' D = some (.dK (plv (A.take i) (B.take i))), ⟨A.length, by simp, Nat.zero_le _, hD, Ex.new hD, by simpa [plv] using upd_same⟩, ?_⟩
  rintro i m H' ⟨rfl, hi, g0, g1, g2⟩
  by_cases hlt : i < A.length
  · refine .inr ⟨(show i < ((A.length : Nat) : Int).toNat by simpa using hlt), fun H5 => i + 1 ≤ A.length ∧ H0 D = none ∧ Ex H0 H5 ∧ H5 D = some (.dK (plv (A.take (i + 1)) (B.take (i + 1)))), fun H5 p' => ⟨A.length - (i + 1), by omega, rfl, p'.1, p'.2⟩, fun x H5 y => ?_⟩
    obtain ⟨e5, ex⟩ := y
    subst e5
    have ex2 : x = .int (i : Int) := by
      rw [ex]
      simp
    subst ex2
    have hlb : i < B.length := by omega
    have ha : A[i]? = some A[i] := List.getElem?_eq_getElem hlt
    have hb : B[i]? = some B[i] := List.getElem?_eq_getElem hlb
    refine ⟨hw _, ?_⟩
    show tk _ H5 _
    refine ek i _ ha H5 (e0.trans g1) _ fun H6 e6 => el i _ hb H6 ((e0.trans g1).trans e6) _ fun H7 e7 => ?_
    have d7 := e7 _ _ (e6 _ _ g2)
    have ni : A[i] ∉ A.take i := fun z => by
      obtain ⟨n, hn, e⟩ := List.getElem_of_mem z
      have h1 : n < i := by
        rw [List.length_take] at hn
        omega
      rw [List.getElem_take] at e
      have := (List.getElem_inj nd).mp e
      omega
    refine ⟨_, Sum.inr A[i], rfl, d7, sz_lt (by rw [plv_len, List.length_take]; omega), hlt, g0, Ex.mut ((g1.trans e6).trans e7) g0, ?_⟩
    rw [upd_same, put_plv ni, List.take_add_one, List.take_add_one, ha, hb]
    show _ = some (HO.dK (plv (A.take i ++ [A[i]]) (B.take i ++ [B[i]])))
    rw [plv_snoc (by rw [List.length_take, List.length_take]; omega)]
  · have e : i = A.length := by omega
    subst e
    refine .inl ⟨(show ((A.length : Nat) : Int).toNat ≤ A.length by simp), k D H' (fresh_back e0 g0) (e0.trans g1) ?_⟩
    rw [lab] at g2
    rw [List.take_length] at g2
    rw [← lab, List.take_length] at g2
    exact g2
theorem q_zip {σ : L2.St} {H : Hp} {A B : List Str} {ta : TA} {tk tv : TE} {vs : List Nat} {j n : Nat} {tz : TS} {D : Ends} (nd : A.Nodup) (lab : A.length = B.length) (hz : A.length ≤ 1000) (hn : EvA ta σ H [.int (A.length : Int)]) (hw : ∀ x, wipe ((wipe σ vs).set j (some x)) vs = wipe σ vs)
    (ek : ∀ (i : Nat) x, A[i]? = some x → Ev tk ((wipe σ vs).set j (some (.int (i : Int)))) H (.str x)) (el : ∀ (i : Nat) y, B[i]? = some y → Ev tv ((wipe σ vs).set j (some (.int (i : Int)))) H (.str y))
    (k : ∀ d H2, H d = none → Ex H H2 → H2 d = some (.dK (plv A B)) → tz D (σ.set n (some (.ref d))) H2) : tSeq (tAsg (tDc (iRng1 ta) (gName j) tYes tk tv vs) (gName n)) tz D σ H :=
  dc_zip (Q := fun v H1 => tz D (σ.set n (some v)) H1) nd lab hz hn hw ek el k
/-- where the grades go, by the images' places -/
def leadF (A B : List Str) (x : Str) : Str := B.getD (A.idxOf x) ""
/-- a map's object -/
def MapAt (CM : Addr) (H : Hp) (m s t : Addr) (A G : List Str) (φ : Str → Str) : Prop := ∃ (dx d : Addr) (fs : List (Str × V)), H m = some (.ins CM dx fs) ∧ fs.lookup ("source" : Str) = some (.ref s) ∧ fs.lookup ("target" : Str) = some (.ref t) ∧ fs.lookup ("_leads" : Str) = some (.ref d) ∧ Leads H d A G φ
theorem MapAt.ext {CM m s t : Addr} {H H' : Hp} {A G : List Str} {φ : Str → Str} (h : MapAt CM H m s t A G φ) (e : Ex H H') : MapAt CM H' m s t A G φ := by
  obtain ⟨dx, d, fs, h1, h2, h3, h4, h5⟩ := h
  exact ⟨dx, d, fs, e _ _ h1, h2, h3, h4, h5.ext e⟩
/-- its images, as a tuple -/
def ImgAt (K : PySem.W.Frag) (CM : Addr) (H : Hp) (m : Addr) (B : List Str) : Prop := ∃ (dx : Addr) (fs : List (Str × V)) (v : V), H m = some (.ins CM dx fs) ∧ (fs.lookup ("_images" : Str) = some v ∧ fs.lookup ("images" : Str) = none) ∧ Dp K H v (.tuple (B.map .str))
theorem ImgAt.ext {K : PySem.W.Frag} {CM m : Addr} {H H' : Hp} {B : List Str} (h : ImgAt K CM H m B) (e : Ex H H') : ImgAt K CM H' m B := by
  obtain ⟨dx, fs, v, h1, h2, h3⟩ := h
  exact ⟨dx, fs, v, e _ _ h1, h2, dp_ext e h3⟩
def fldM : List Str := ["source", "target", "_images", "_leads"]
abbrev sMI : Stmt := methS 17 0
abbrev sMC : Stmt := methS 17 2
def spMI (K : PySem.W.Frag) (CS CT CM : Addr) : Sp := fun vs H Q _ => ∃ (m dx s t l : Addr) (A G B : List Str) (J1 T1 J2 T2 : List (List Str)) (l1 h1 l2 h2 : Str), vs = [.ref m, .ref s, .ref t, .ref l] ∧ H m = some (.ins CM dx []) ∧ ScAt K CS (dl m H) s A J1 T1 l1 h1 ∧ ScAt K CT (dl m H) t G J2 T2 l2 h2 ∧
  SqL K (dl m H) l (B.map V.str) ∧ B.length = A.length ∧ (∀ x ∈ B, x ∈ G) ∧ Keeps A J1 T1 l1 h1 G J2 T2 l2 h2 (leadF A B) ∧ ∀ H', But m H H' → MapAt CM H' m s t A G (leadF A B) → ImgAt K CM H' m B → Q .non H'
def spMC (K : PySem.W.Frag) (CT CM : Addr) : Sp := fun vs H Q _ => ∃ (m s t : Addr) (x : Str) (A G : List Str) (J T : List (List Str)) (lo hi : Str) (φ : Str → Str), vs = [.ref m, .str x] ∧ MapAt CM H m s t A G φ ∧ ScAt K CT H s A J T lo hi ∧ x ∈ A ∧ RetV (.str (φ x)) H Q
abbrev NMI : List Str := ["self", "source", "target", "images", "image", "grades", "leads", "fault", "place"]
theorem scMI : FnScope NMI ["self", "source", "target", "images"] (defScope sMI) := ⟨rfl, rfl, rfl, by decide +kernel, rfl, by decide +kernel, by decide +kernel⟩
theorem scMC : FnScope ["self", "grade"] ["self", "grade"] (defScope sMC) := ⟨rfl, rfl, rfl, by decide +kernel, rfl, by decide +kernel, by decide +kernel⟩
section
variable {P : Program} {w : World} {K : PySem.W.Frag} {mg : Str → Option Value} {base : Heap} {f CS CT CM : Addr} {fd : FuncData}
theorem ok_mc (F : FnM K "__call__" "ScaleMap.__call__" sMC f fd) (cfM : ClsF K CM fldM) (cH : MCal P w K mg base CX0 1 CT "__contains__" ["self", "x"] (spHas K CT)) : FnOk P w K mg base CX0 2 f fd ["self", "grade"] (spMC K CT CM) := by
  refine F.ok scMC (fun vs H Q E h => ?_) (fun cdv A0 outer s0 H vs Q E hr h => ?_)
  · obtain ⟨m, s, t, x, A, G, J, T, lo, hi, φ, rfl, _⟩ := h
    rfl
  · obtain ⟨m, s, t, x, A, G, J, T, lo, hi, φ, rfl, md, sc, hx, q⟩ := h
    have hu : (A0.deeper (envOfC "ScaleMap.__call__" (defScope sMC) s0.heap.objs.size f cdv)).units + 1 < cLine := by
      have := hr.un
      omega
    refine ⟨_, pss_cons (ps_if (pt_cmpR (op_niM cH hr pass0) (pv 1) (pe_fld (pv 0) rfl) rfl) pss_no pss_nil) (pss_one (ps_ret (pe_dget hu (pe_fld (pv 0) rfl) (pv 1) (fun _ _ => rfl)))), ?_⟩
    obtain ⟨dx, d, fs, h1, h2, h3, h4, h5⟩ := md
    obtain ⟨dxs, fss, _, _, _, _, hs, _⟩ := sc.ex
    refine q_when (b := false) (et_test (ev_is (ev_niO (b := decide (x ∈ A)) (ev_var rfl) (ev_fld (ev_var rfl) cfM.cl (cfM.no _ (by decide)) h1 h2) hs (fun H1 e Q q => ⟨s, x, A, J, T, lo, hi, rfl, sc.ext e, q⟩)) (by simp [hx]))) (fun z => nomatch z) (fun _ H1 e1 => ?_)
    exact s_ret (ev_lead (ev_fld (ev_var rfl) cfM.cl (cfM.no _ (by decide)) (e1 _ _ h1) h4) (h5.ext e1) hx (ev_var rfl)) fun H2 e2 => q H2 (e1.trans e2)
theorem ok_mi (F : FnM K "__init__" "ScaleMap.__init__" sMI f fd) (T : Bl mg) (cfM : ClsF K CM fldM) (cR : Cal P w K mg base CX0 1 "is_row" ["value"] (spIsRow K)) (cL : MCal P w K mg base CX0 1 CS "__len__" ["self"] (spLen K CS)) (cH : MCal P w K mg base CX0 1 CT "__contains__" ["self", "x"] (spHas K CT))
    (cG : MCal P w K mg base CX0 1 CS "grades" ["self"] (spGrades K CS)) (cF : Cal P w K mg base CX0 4 "_first_not_kept" ["source", "target", "leads"] (spFnk K CS CT)) : FnOk P w K mg base CX0 5 f fd ["self", "source", "target", "images"] (spMI K CS CT CM) := by
  refine F.ok scMI (fun vs H Q E h => ?_) (fun cdv A0 outer s0 H vs Q E hr h => ?_)
  · obtain ⟨m, dx, s, t, l, A, G, B, J1, T1, J2, T2, l1, h1, l2, h2, rfl, _⟩ := h
    rfl
  · obtain ⟨m, dx, s, t, l, A, G, B, J1, T1, J2, T2, l1, h1, l2, h2, rfl, hm, sl, sr, sq, lab, mB, kp, q⟩ := h
    have hr1 : Room 1 (A0.deeper (envOfC "ScaleMap.__init__" (defScope sMI) s0.heap.objs.size f cdv)) := hr.mono (by decide)
    have hr2 : Room 2 (A0.deeper (envOfC "ScaleMap.__init__" (defScope sMI) s0.heap.objs.size f cdv)) := hr.mono (by decide)
    refine ⟨_, PSs.nox (pss_cons (ps_if (PW.pt (pw_or (pt_not (pt_val (pe_cal cR hr1 rfl pass0 (pa_cons (pv 3) pa_nil)))) (pw_or1 (pt_cmpR op_ne (pe_callB call_len_seq (by rfl) T.len boot_len (pa_cons (pv 3) pa_nil)) (pe_callB (call_lenM cL hr2 pass0) (by rfl) T.len boot_len (pa_cons (pv 1) pa_nil)) (nomark _))))) pss_no pss_nil)
      (pss_cons (ps_for PassesOwn.never rfl (pi_list (pv 3)) (pg_name (i := 4) scMI.nd rfl (Or.inl rfl)) (pss_one (ps_if (pt_cmpR (op_niM cH hr1 pass0) (pv 4) (pv 2) rfl) pss_no pss_nil)))
      (pss_cons (ps_set (i := 5) scMI.nd rfl (Or.inr rfl) (pe_mcal0 cG (pv 1) hr1 pass0))
      (pss_cons (ps_setDc (i := 6) (own := [("place", 8)]) (g := gName 8) (tt := tYes) (tk := tOp (rIxL K) (tVar 5) (tVar 8)) (tv := tOp (rIxL K) (tVar 3) (tVar 8)) rfl scMI.nd rfl rfl rfl (pi_range1 rfl T.rng (pa_cons (pe_callB call_len_seq (by rfl) T.len boot_len (pa_cons (pv 5) pa_nil)) pa_nil)) (blkOk_by (N := NMI) (sc := defScope sMI) (by decide +kernel))
        (fun _ _ _ _ _ => pg_name (i := 8) scMI.nd rfl (Or.inl rfl)) (fun _ _ _ _ _ => pts_nil) (fun _ _ _ _ _ => by exact pe_ix ix_list (pv 5) (pv 8) (fun _ _ => rfl)) (fun _ _ _ _ _ => by exact pe_ix ix_list (pv 3) (pv 8) (fun _ _ => rfl)))
      (pss_cons (ps_set (i := 7) scMI.nd rfl (Or.inl rfl) (pe_cal cF hr rfl pass0 (pa_cons (pv 1) (pa_cons (pv 2) (pa_cons (pv 6) pa_nil)))))
      (pss_cons (ps_if (pt_cmp (pc_notN (pv 7))) pss_no pss_nil)
      (pss_cons (ps_fld (pv 0) (pv 1) rfl) (pss_cons (ps_fld (pv 0) (pv 2) rfl) (pss_cons (ps_fld (pv 0) (pe_tupleOf rfl T.tup (pv 3)) rfl) (pss_one (ps_fld (pv 0) (pv 6) rfl))))))))))), ?_⟩
    have SL := sl.ext dl_ex
    have SR := sr.ext dl_ex
    have SQ : SqL K H l (B.map V.str) := ex_l dl_ex sq
    obtain ⟨dxt, fst, _, _, _, _, ht, _⟩ := SR.ex
    have zA := SL.sz
    have im : ∀ x, x ∈ A → leadF A B x ∈ G := fun x hx => by
      unfold leadF
      have h1 : A.idxOf x < B.length := by rw [lab]; exact idx_lt hx
      rw [List.getD_eq_getElem?_getD, List.getElem?_eq_getElem h1]
      exact mB _ (List.getElem_mem h1)
    refine q_when (b := false) (et_is (et_or (et_not (et_B (b := true) (ev_call (ea_cons (ev_var rfl) ea_nil) fun H1 e Q q E => ⟨.ref l, .list (B.map .str), _, rfl, .lst (ex_l e SQ) (dpa_strs B), .inl rfl, q⟩))) (fun _ => et_test (ev_op (ev_lenS (ev_var rfl) (.inl SQ)) (ev_lenO (ev_var rfl) SL) (rv_ne rfl)))) (by simp [lab])) (fun z => nomatch z) (fun _ H1 e1 => ?_)
    refine q_forLn (xs := B.map V.str) (ev_var rfl) (ex_l e1 SQ) (fun i σ' H' => ∃ x4, σ' = [some (.ref m), some (.ref s), some (.ref t), some (.ref l), x4, none, none, none, none] ∧ Ex H H') (fun H2 e2 => ⟨_, rfl, e1.trans e2⟩) (fun i σ' H' _ ⟨_, _, e2⟩ => ex_l e2 SQ) ?_ ?_
    · rintro i v σ' H2 hv ⟨x4, rfl, e2⟩
      rw [List.getElem?_map] at hv
      cases hx : B[i]? with
      | none =>
        rw [hx] at hv
        cases hv
      | some x =>
        rw [hx] at hv
        obtain rfl := Option.some.inj hv
        have mx := mB x (List.mem_of_getElem? hx)
        exact s_when (b := false) (et_test (ev_is (ev_niO (b := decide (x ∈ G)) (ev_var rfl) (ev_var rfl) (e2 _ _ ht) (fun H3 e Q q => ⟨t, x, G, J2, T2, l2, h2, rfl, (SR.ext e2).ext e, q⟩)) (by simp [mx]))) (fun z => nomatch z) (fun _ H3 e3 => ⟨_, rfl, e2.trans e3⟩)
    · rintro σ' H2 ⟨x4, rfl, e2⟩
      refine q_asgL (el_gradesA (ev_var rfl) (SL.ext e2)) fun pg H3 n3 e3 h3 => ?_
      have e03 := e2.trans e3
      refine q_zip (A := A) (B := B) (n := 6) (j := 8) SL.nd lab.symm (by omega) (ea_cons (ev_is (ev_lenS (ev_var rfl) (.inl (sq_of h3))) (by rw [List.length_map])) ea_nil) (fun _ => rfl)
        (fun i x hx => ev_op (ev_var rfl) (ev_var rfl) (rv_ixL (sq_of h3) (atI_nat (by rw [List.getElem?_map, hx]; rfl)))) (fun i y hy => ev_op (ev_var rfl) (ev_var rfl) (rv_ixL (ex_l e03 SQ) (atI_nat (by rw [List.getElem?_map, hy]; rfl)))) fun d H4 n4 e4 h4 => ?_
      have e04 := e03.trans e4
      have L4 : Leads H4 d A G (leadF A B) := ⟨_, h4, fun x hx => ⟨plv_val lab.symm hx, im x hx⟩⟩
      refine q_asg (v := .non) (ev_call (ea_cons (ev_var rfl) (ea_cons (ev_var rfl) (ea_cons (ev_var rfl) ea_nil))) fun H5 e5 Q q E => ⟨s, t, d, A, G, J1, T1, J2, T2, l1, h1, l2, h2, leadF A B, rfl, (SL.ext e04).ext e5, (SR.ext e04).ext e5, L4.ext e5, fun v H6 e6 k _ => by
        rw [k kp]
        exact q H6 e6⟩) fun H5 e5 => ?_
      have e05 := e04.trans e5
      refine q_when (b := false) (fun H6 e6 Q q => ⟨.non, rfl, _, rfl, q H6 (Ex.refl H6)⟩) (fun z => nomatch z) (fun _ H6 e6 => ?_)
      have e06 := e05.trans e6
      have m6 := e06 _ _ hm
      have d6 := (e5.trans e6) _ _ h4
      have dm : d ≠ m := fun z => by
        rw [z, m6] at d6
        cases d6
      -- source, target
      refine q_fld (ev_var rfl) (ev_var rfl) m6 cfM.cl (cfM.no _ (by decide)) (by simp) fun H7 e7 => ?_
      have b7 : But m H (upd H7 m (.ins CM dx (putF "source" (.ref s) []))) := (But.of (e06.trans e7)).trans But.upd
      have m7 : (upd H7 m (.ins CM dx (putF "source" (.ref s) []))) m = some (.ins CM dx (putF "source" (.ref s) [])) := upd_same
      have d7 : (upd H7 m (.ins CM dx (putF "source" (.ref s) []))) d = some (.dK (plv A B)) := by rw [upd_ne dm]; exact e7 _ _ d6
      show tSeq _ _ _ _ (upd H7 m (.ins CM dx (putF "source" (.ref s) [])))
      generalize upd H7 m (.ins CM dx (putF "source" (.ref s) [])) = K7 at b7 m7 d7 ⊢
      refine q_fld (ev_var rfl) (ev_var rfl) m7 cfM.cl (cfM.no _ (by decide)) (lt_th (flen (Nat.le_refl 0)) (by decide)) fun H8 e8 => ?_
      have b8 : But m H (upd H8 m (.ins CM dx (putF "target" (.ref t) (putF "source" (.ref s) [])))) := (b7.trans (But.of e8)).trans But.upd
      have m8 : (upd H8 m (.ins CM dx (putF "target" (.ref t) (putF "source" (.ref s) [])))) m = some (.ins CM dx (putF "target" (.ref t) (putF "source" (.ref s) []))) := upd_same
      have d8 : (upd H8 m (.ins CM dx (putF "target" (.ref t) (putF "source" (.ref s) [])))) d = some (.dK (plv A B)) := by rw [upd_ne dm]; exact e8 _ _ d7
      show tSeq _ _ _ _ (upd H8 m (.ins CM dx (putF "target" (.ref t) (putF "source" (.ref s) []))))
      generalize upd H8 m (.ins CM dx (putF "target" (.ref t) (putF "source" (.ref s) []))) = K8 at b8 m8 d8 ⊢
      -- _images
      have dpB : Dp K (dl m K8) (.ref l) (.list (B.map .str)) := .lst (ex_l (dl_but b8) sq) (dpa_strs B)
      refine q_fldG (of_qd (qd_tupOf (ev_var rfl) dpB) (by rw [m8]; simp)) (ev_var rfl) m8 cfM.cl (cfM.no _ (by decide)) (lt_th (flen (flen (Nat.le_refl 0))) (by decide)) fun v9 H9 e9 dv9 => ?_
      have b9 : But m H (upd H9 m (.ins CM dx (putF "_images" v9 (putF "target" (.ref t) (putF "source" (.ref s) []))))) := (b8.trans (But.of e9)).trans But.upd
      have m9 : (upd H9 m (.ins CM dx (putF "_images" v9 (putF "target" (.ref t) (putF "source" (.ref s) []))))) m = some (.ins CM dx (putF "_images" v9 (putF "target" (.ref t) (putF "source" (.ref s) [])))) := upd_same
      have d9 : (upd H9 m (.ins CM dx (putF "_images" v9 (putF "target" (.ref t) (putF "source" (.ref s) []))))) d = some (.dK (plv A B)) := by rw [upd_ne dm]; exact e9 _ _ d8
      have g9 : Dp K (dl m (upd H9 m (.ins CM dx (putF "_images" v9 (putF "target" (.ref t) (putF "source" (.ref s) [])))))) v9 (.tuple (B.map .str)) := by
        rw [dl_upd]
        exact dv9
      generalize upd H9 m (.ins CM dx (putF "_images" v9 (putF "target" (.ref t) (putF "source" (.ref s) [])))) = K9 at b9 m9 d9 g9 ⊢
      have x9 : ∀ o, Ex (dl m K9) (upd K9 m o) := fun o b u z => by
        obtain ⟨y1, y2⟩ := dl_some z
        rw [upd_ne y1]
        exact y2
      have nf2 : ("_images" : Str) ≠ "_leads" := by decide +kernel
      have nf7 : ("images" : Str) ≠ "_leads" ∧ ("images" : Str) ≠ "_images" ∧ ("images" : Str) ≠ "target" ∧ ("images" : Str) ≠ "source" := by decide +kernel
      refine ⟨_, rfl, _, rfl, m, CM, dx, _, rfl, m9, cfM.cl, cfM.no _ (by decide), lt_th (flen (flen (flen (Nat.le_refl 0)))) (by decide), ?_⟩
      have nf : ("source" : Str) ≠ "_leads" ∧ ("source" : Str) ≠ "_images" ∧ ("source" : Str) ≠ "target" ∧ ("target" : Str) ≠ "_leads" ∧ ("target" : Str) ≠ "_images" := by decide +kernel
      exact q _ (b9.trans But.upd) ⟨dx, d, _, upd_same, lk nf.1 (lk nf.2.1 (lk nf.2.2.1 lk_same)), lk nf.2.2.2.1 (lk nf.2.2.2.2 lk_same), lk_same, plv A B, by rw [upd_ne dm]; exact d9, fun x hx => ⟨plv_val lab.symm hx, im x hx⟩⟩ ⟨dx, _, v9, upd_same, ⟨lk nf2 lk_same, lk nf7.1 (lk nf7.2.1 (lk nf7.2.2.1 (lk nf7.2.2.2 rfl)))⟩, dp_ext (x9 _) g9⟩
end
end K06

set_option Elab.async false
set_option linter.all false
set_option maxRecDepth 100000
set_option maxHeartbeats 1000000
/-! D3: list(e.values()). -/
namespace D
open PySem PySem.Spec PyProof.Rows L2
section
variable {X : Cx} {e : Expr} {te : TE} {p apos cpos pos : Pos}
def tListVals (te : TE) : TE := fun σ H Q => te σ H fun x H1 => ∃ d kvs, x = .ref d ∧ H1 d = some (.dK kvs) ∧ ∀ q, H1 q = none → Q (.ref q) (upd H1 q (.lst (kvs.map fun kv => kv.2)))
theorem vals_of_at {P : Nat → Value → Prop} {kvs : List (Key × V)} {vs : List (Key × Value)} (kv : KV kvs vs) : ∀ {its : List Value}, its.length = vs.length → (∀ (j : Nat) (v : Value), its[j]? = some v → ∃ k, vs[j]? = some (k, v)) → Vals (kvs.map fun q => q.2) its := by
  unfold KV at kv
  induction kv with
  | nil =>
    intro its h _
    have : its = [] := List.eq_nil_of_length_eq_zero (by simpa using h)
    rw [this]
    exact .nil
  | @cons a b as bs h _ ih =>
    intro its hl hv
    cases its with
    | nil => simp at hl
    | cons v r =>
      obtain ⟨k, hk⟩ := hv 0 v rfl
      have eb : b.2 = v := by
        have z := Option.some.inj hk
        rw [z]
      refine .cons (by rw [← eb]; exact h.2) (ih (by simpa using hl) fun j u hu => ?_)
      obtain ⟨k2, hk2⟩ := hv (j + 1) u (by simpa using hu)
      exact ⟨k2, by simpa using hk2⟩
theorem pe_listVals (hc : X.calm = true) (he : PE X e te) (hg : Gl X "list") (hm : X.mg "list" = none) (hv : bootBuiltins "list" = some (.type "list")) (hbase : attributeBase e "values" X.env (eval e X.env) = eval e X.env := by rfl) (hline : (apos.endLine == cpos.line) = true := by rfl)
    (hs : starEach [.Call (.Attribute e "values" apos) [] [] cpos] X.env = (false, eval (.Call (.Attribute e "values" apos) [] [] cpos) X.env) :: starEach [] X.env := by rfl) :
    PE X (.Call (.Name "list" p) [.Call (.Attribute e "values" apos) [] [] cpos] [] pos) (tListVals te) := by
  refine ⟨fun pins s σ H Q I hq => ?_⟩
  refine wpAny_Call_Name_kw (ld_blt I hg hm hv (PyProof.Rows.callWith_type1 ?_ hs rfl))
  rw [hs]
  refine (?_ : wpAny _ _ (spliced ((false, eval (.Call (.Attribute e "values" apos) [] [] cpos) X.env) :: backTo pos (starEach [] X.env))) _ _ s)
  refine Calls.spliced_cons (wpAny_Call_method (T := "dict") (id := "dict.values") hbase rfl hline F.plainAttrs_dict F.slot_dict_values F.type_dict_values (thn (he.run pins s σ H _ I hq) fun u s1 ⟨x, H1, J1, rx, d, kvs, ex, hd, q⟩ => ?_))
  subst ex
  obtain rfl : u = Value.ref d := rx
  obtain ⟨hz, hs0, vs, kv, dd⟩ := J1.hok d _ hd
  obtain ⟨n, at_⟩ := dd.dictAt
  have len : kvs.length = vs.length := Paired.length kv
  have J2 : Inv X pins σ H1 { s1 with heap := s1.heap.push { cls := .type "dict_values", data := .fields #[.ref d] } } := J1.kept (t' := s1.toks) fun b ob z => Heap.get?_push_of_some _ z
  refine ⟨dd.typeIs, dd.mapOf.noDict, (?_ : wpAny _ _ (callWith cpos (.builtin "dict.values") [.ref d] [] []) _ X.xe s1)⟩
  refine method_meetsIn F.slot_dict_values F.entry_dict_values rfl (PySem.evalArgs_none ⟨rfl, dd.typeIs, F.args_dict_values_1 _, _, meets_dict_values (mixKind X.prog X.w) d hs0, ⟨vs, dd⟩, Calls.spliced_nil ?_⟩)
  refine PySem.W.kdl_call (PySem.W.kdl_values (knd := mixKind X.prog X.w) (kvs := vs) (ep := n)) (J1.ok.hd hc) ⟨⟨_, Heap.get?_push_size _ rfl, rfl, rfl⟩, at_.push _⟩ (by omega) fun g tk acc c hk hS hacc => ?_
  have fr := J2.hok.fresh (Nat.le_refl (s1.heap.push { cls := .type "dict_values", data := .fields #[.ref d] }).objs.size)
  have la : acc.toList.length = vs.length := by rw [Array.length_toList]; exact hacc.1
  have J3 := J2.laid (o := .lst (kvs.map fun z => z.2)) (t' := tk) hk (Nat.le_refl _) ⟨by rw [List.length_map]; exact hz, acc.toList, c, vals_of_at (P := fun _ _ => True) kv la fun j v hv => hacc.2 j v (by rw [← Array.getElem?_toList]; exact hv), by rw [Array.toArray_toList]; exact hS⟩
  exact ⟨.ref _, _, J3, rfl, q _ fr⟩
end
end D

set_option Elab.async false
set_option linter.all false
set_option maxRecDepth 100000
set_option maxHeartbeats 1000000
/-! X11: all_maps, in order. -/
namespace S
open PySem PySem.Spec PyProof.Rows L2 Evl J ClX StX
mutual
def noL : PyData → Bool
  | .list _ => false
  | .tuple ds => noLs ds
  | .dict _ => false
  | _ => true
def noLs : List PyData → Bool
  | [] => true
  | d :: r => noL d && noLs r
end
section
variable {K : PySem.W.Frag} {H H' : Hp} {p : Addr} {xs : List V}
theorem sqt_dlL {a : Addr} {ys : List V} (hp : H p = some (.lst xs)) (h : SqT K H a ys) : SqT K (dl p H) a ys := by
  rcases h with (h | ⟨o, h⟩) | h
  · have ne : a ≠ p := fun z => by
      rw [z, hp] at h
      cases h
    exact .inl (.inl (by rw [dl_ne ne]; exact h))
  · have ne : a ≠ p := fun z => by
      rw [z, hp] at h
      cases h
    exact .inl (.inr ⟨o, by rw [dl_ne ne]; exact h⟩)
  · exact .inr h
mutual
theorem dp_noL (hp : H p = some (.lst xs)) : ∀ {u : V} {d : PyData}, Dp K H u d → noL d = true → Dp K (dl p H) u d
  | _, _, .non, _ => .non
  | _, _, .bl b, _ => .bl b
  | _, _, .int i, _ => .int i
  | _, _, .str x, _ => .str x
  | _, .list ds, .lst h r, n => nomatch (show noL (.list ds) = true from n)
  | _, .tuple ds, .tup h r, n => .tup (sqt_dlL hp h) (dpa_noL hp r (show noLs ds = true from n))
theorem dpa_noL (hp : H p = some (.lst xs)) : ∀ {us : List V} {ds : List PyData}, DpAll K H us ds → noLs ds = true → DpAll K (dl p H) us ds
  | _, _, .nil, _ => .nil
  | _, d :: ds, .cons h r, n => by
    have n2 : (noL d && noLs ds) = true := n
    obtain ⟨n3, n4⟩ := Bool.and_eq_true_iff.mp n2
    exact .cons (dp_noL hp h n3) (dpa_noL hp r n4)
end
end
end S
namespace K06
open PySem PySem.Spec PyProof.Rows L2 Evl J ClX StX S D
abbrev sAm : Stmt := topS 20
theorem plv_vals : ∀ {A B : List Str}, A.length = B.length → (plv A B).map (fun kv => kv.2) = B.map V.str
  | [], [], _ => rfl
  | [], b :: t, h => by simp at h
  | a :: r, [], h => by simp at h
  | a :: r, b :: t, h => by
    have ih := plv_vals (A := r) (B := t) (by simpa using h)
    show V.str b :: (plv r t).map (fun kv => kv.2) = _
    rw [ih]
    rfl
/-- which rows of images tell maps -/
noncomputable def keepsB (A : List Str) (J1 T1 : List (List Str)) (l1 h1 : Str) (G : List Str) (J2 T2 : List (List Str)) (l2 h2 : Str) (is : List Str) : Bool := @decide (Keeps A J1 T1 l1 h1 G J2 T2 l2 h2 (leadF A is)) (Classical.propDecidable _)
theorem keepsB_iff {A G is : List Str} {J1 T1 J2 T2 : List (List Str)} {l1 h1 l2 h2 : Str} : keepsB A J1 T1 l1 h1 G J2 T2 l2 h2 is = true ↔ Keeps A J1 T1 l1 h1 G J2 T2 l2 h2 (leadF A is) := by
  unfold keepsB
  exact @decide_eq_true_iff _ (Classical.propDecidable _)
/-- maps' objects, one for each row of images -/
def MapsAt (K : PySem.W.Frag) (CM s t : Addr) (A G : List Str) (H : Hp) (acc : List V) (R : List (List Str)) : Prop := acc.length = R.length ∧ ∀ (n : Nat) is, R[n]? = some is → ∃ m, acc[n]? = some (.ref m) ∧ MapAt CM H m s t A G (leadF A is) ∧ ImgAt K CM H m is
theorem MapsAt.keep {K : PySem.W.Frag} {CM s t : Addr} {A G : List Str} {H H' : Hp} {acc : List V} {R : List (List Str)} (h : MapsAt K CM s t A G H acc R) (k : ∀ m φ is, MapAt CM H m s t A G φ → ImgAt K CM H m is → MapAt CM H' m s t A G φ ∧ ImgAt K CM H' m is) : MapsAt K CM s t A G H' acc R := ⟨h.1, fun n is e => by
  obtain ⟨m, h1, h2, h3⟩ := h.2 n is e
  obtain ⟨k1, k2⟩ := k m _ _ h2 h3
  exact ⟨m, h1, k1, k2⟩⟩
theorem MapsAt.snoc {K : PySem.W.Frag} {CM s t : Addr} {A G : List Str} {H : Hp} {acc : List V} {R : List (List Str)} {m : Addr} {is : List Str} (h : MapsAt K CM s t A G H acc R) (h1 : MapAt CM H m s t A G (leadF A is)) (h2 : ImgAt K CM H m is) : MapsAt K CM s t A G H (acc ++ [.ref m]) (R ++ [is]) := by
  refine ⟨by simp [h.1], fun n js e => ?_⟩
  by_cases hn : n < R.length
  · rw [List.getElem?_append_left hn] at e
    obtain ⟨d2, k1, k2⟩ := h.2 n js e
    exact ⟨d2, by rw [List.getElem?_append_left (by rw [h.1]; exact hn)]; exact k1, k2⟩
  · rw [List.getElem?_append_right (by omega)] at e
    have hz : n - R.length = 0 := by
      have k1 := (List.getElem?_eq_some_iff.mp e).1
      simp at k1
      omega
    rw [hz] at e
    simp at e
    subst e
    exact ⟨m, by rw [List.getElem?_append_right (by rw [h.1]; omega), h.1, hz]; rfl, h1, h2⟩
theorem noLs_strs : ∀ B : List Str, noLs (B.map .str) = true
  | [] => rfl
  | a :: r => by
    have ih := noLs_strs r
    exact (by simpa [noLs, noL] using ih)
theorem ImgAt.butL {K : PySem.W.Frag} {CM m D : Addr} {H H' : Hp} {B : List Str} {xs : List V} (h : ImgAt K CM H m B) (hD : H D = some (.lst xs)) (b : But D H H') : ImgAt K CM H' m B := by
  obtain ⟨dx, fs, v, h1, h2, h3⟩ := h
  have n1 : m ≠ D := ne_of h1 hD (by simp)
  exact ⟨dx, fs, v, b _ _ n1 h1, h2, dp_ext (but_ex b) (dp_noL hD h3 (by
    exact noLs_strs B))⟩
theorem MapAt.but {CM m s t D : Addr} {H H' : Hp} {A G : List Str} {φ : Str → Str} {xs : List V} (h : MapAt CM H m s t A G φ) (hD : H D = some (.lst xs)) (b : But D H H') : MapAt CM H' m s t A G φ := by
  obtain ⟨dx, d, fs, h1, h2, h3, h4, kvs, h5, h6⟩ := h
  have n1 : m ≠ D := ne_of h1 hD (by simp)
  have n2 : d ≠ D := ne_of h5 hD (by simp)
  exact ⟨dx, d, fs, b _ _ n1 h1, h2, h3, h4, kvs, b _ _ n2 h5, h6⟩
def spAm (K : PySem.W.Frag) (CS CT CM : Addr) : Sp := fun vs H Q _ => ∃ (s t : Addr) (A G : List Str) (J1 T1 J2 T2 : List (List Str)) (l1 h1 l2 h2 : Str), vs = [.ref s, .ref t] ∧ ScAt K CS H s A J1 T1 l1 h1 ∧ ScAt K CT H t G J2 T2 l2 h2 ∧ A.length ≤ 4 ∧ G.length ≤ 4 ∧
  ∀ p H' acc, H p = none → Ex H H' → H' p = some (.lst acc) → MapsAt K CM s t A G H' acc ((tups G A.length).filter (keepsB A J1 T1 l1 h1 G J2 T2 l2 h2)) → Q (.ref p) H'
abbrev NAm : List Str := ["source", "target", "leads"]
theorem scAm : FnScope NAm ["source", "target"] (defScope sAm) := ⟨rfl, rfl, rfl, by decide +kernel, rfl, by decide +kernel, by decide +kernel⟩
section
variable {P : Program} {w : World} {K : PySem.W.Frag} {mg : Str → Option Value} {base : Heap} {f fM CS CT CM : Addr} {fd fdM : FuncData}
theorem ok_am (F : FnP K "all_maps" sAm f fd) (T : Bl mg) (M : Mk K CM fM) (gM : mg "ScaleMap" = some (.ref CM)) (hb : Binds K fdM ["self", "source", "target", "images"] []) (FM : FnOk P w K mg base CX0 5 fM fdM ["self", "source", "target", "images"] (spMI K CS CT CM))
    (cC : Cal P w K mg base CX0 2 "_choices" ["source", "target"] (spCh K CS CT)) (cF : Cal P w K mg base CX0 4 "_first_not_kept" ["source", "target", "leads"] (spFnk K CS CT)) : FnOk P w K mg base CX0 7 f fd ["source", "target"] (spAm K CS CT CM) := by
  refine F.ok scAm (fun vs H Q E h => ?_) (fun cdv A0 outer s0 H vs Q E hr h => ?_)
  · obtain ⟨s, t, A, G, J1, T1, J2, T2, l1, h1, l2, h2, rfl, _⟩ := h
    rfl
  · obtain ⟨s, t, A, G, J1, T1, J2, T2, l1, h1, l2, h2, rfl, sl, sr, zA, zG, q⟩ := h
    have hr2 : Room 2 (A0.deeper (envOfC "all_maps" (defScope sAm) s0.heap.objs.size f cdv)) := hr.mono (by decide)
    have hr4 : Room 4 (A0.deeper (envOfC "all_maps" (defScope sAm) s0.heap.objs.size f cdv)) := hr.mono (by decide)
    refine ⟨_, pss_one (ps_ret (pe_lc (own := [("leads", 2)]) (g := gName 2) (wi := iList K (tCall (spCh K CS CT) [] E0 (tCons (tVar 0) (tCons (tVar 1) tNil)))) (tt := tB (tIsN (tCall (spFnk K CS CT) [] E0 (tCons (tVar 0) (tCons (tVar 1) (tCons (tVar 2) tNil)))))) (te := tMake CM (spMI K CS CT CM) [] E0 (tCons (tVar 0) (tCons (tVar 1) (tCons (tListVals (tVar 2)) tNil)))) rfl scAm.nd (pi_list (pe_cal cC hr2 rfl pass0 (pa_cons (pv 0) (pa_cons (pv 1) pa_nil)))) (blkOk_by (N := NAm) (sc := defScope sAm) (by decide +kernel)) (fun _ _ _ _ _ => pg_name (i := 2) scAm.nd rfl (Or.inl rfl))
      (fun _ _ _ _ _ => by exact pts_one (pt_cmp (pc_isN (pe_cal cF hr4 rfl pass0 (pa_cons (pv 0) (pa_cons (pv 1) (pa_cons (pv 2) pa_nil))))))) (fun _ _ _ _ _ => by exact pe_make M FM hr rfl gM hb .nil pass0 (pa_cons (pv 0) (pa_cons (pv 1) (pa_cons (pe_listVals rfl (pv 2) rfl T.lst Boot.«list») pa_nil)))))), ?_⟩
    refine ⟨_, rfl, _, rfl, s, t, A, G, J1, T1, J2, T2, l1, h1, l2, h2, rfl, sl, sr, zA, zG, fun pc H1 acc0 n1 e1 hc R => ⟨pc, rfl, ⟨_, sq_of hc⟩, fun D hD => ?_⟩⟩
    refine lc_list (xs := acc0) (fun i H' => Ex H1 H' ∧ ∃ acc, H' D = some (.lst acc) ∧ acc.length ≤ i ∧ MapsAt K CM s t A G H' acc (((tups G A.length).take i).filter (keepsB A J1 T1 l1 h1 G J2 T2 l2 h2))) ⟨Ex.new hD, [], upd_same, by simp, rfl, fun n r e => by simp at e⟩ (fun i H' _ p => sq_of (p.1 _ _ hc)) ?_ ?_
    · rintro i x H2 hx ⟨e2, acc, hacc, la, mo⟩
      have lt : i < acc0.length := (List.getElem?_eq_some_iff.mp hx).1
      have hR0 : i < (tups G A.length).length := by rw [← R.1]; exact lt
      have hRn : (tups G A.length)[i]? = some (tups G A.length)[i] := List.getElem?_eq_getElem hR0
      obtain ⟨d, hxd, hd0⟩ := R.2 i _ hRn
      obtain ⟨li, mi⟩ := tups_mem (List.getElem_mem hR0)
      have tkR : (tups G A.length).take (i + 1) = (tups G A.length).take i ++ [(tups G A.length)[i]] := by
        rw [List.take_add_one, hRn]
        rfl
      rw [hx] at hxd
      obtain rfl := Option.some.inj hxd
      generalize (tups G A.length)[i] = is at li mi hd0 tkR
      rw [List.take_length] at hd0
      have zR : (tups G A.length).length ≤ 256 := Nat.le_trans (tups_le zG) (Nat.pow_le_pow_right (n := 4) (by decide) zA)
      have lz : acc0.length ≤ 256 := by rw [R.1]; exact zR
      have e02 := e1.trans e2
      have lab : A.length = is.length := li.symm
      have hd := e2 _ _ hd0
      have im : ∀ x, x ∈ A → leadF A is x ∈ G := fun x hx => by
        unfold leadF
        have h1 : A.idxOf x < is.length := by rw [li]; exact idx_lt hx
        rw [List.getD_eq_getElem?_getD, List.getElem?_eq_getElem h1]
        exact mi _ (List.getElem_mem h1)
      refine ⟨rfl, ?_⟩
      refine ⟨_, rfl, _, rfl, _, rfl, s, t, d, A, G, J1, T1, J2, T2, l1, h1, l2, h2, leadF A is, rfl, sl.ext e02, sr.ext e02, ⟨_, hd, fun x hx => ⟨plv_val lab hx, im x hx⟩⟩, fun v H3 e3 k1 k2 => ⟨_, rfl, ?_⟩⟩
      by_cases kp : Keeps A J1 T1 l1 h1 G J2 T2 l2 h2 (leadF A is)
      · rw [k1 kp]
        dsimp only
        rw [if_pos (by simp)]
        have hd3 := e3 _ _ hd
        refine ⟨_, rfl, _, rfl, ?_⟩
        refine ⟨_, rfl, d, _, rfl, hd3, fun l hl => fun m dx hm hdx ne => ?_⟩
        have e34 : Ex H3 (upd H3 l (.lst ((plv A is).map fun kv => kv.2))) := Ex.new hl
        have l4 : (upd H3 l (.lst ((plv A is).map fun kv => kv.2))) l = some (.lst (is.map V.str)) := by rw [upd_same, plv_vals lab]
        generalize upd H3 l (.lst ((plv A is).map fun kv => kv.2)) = H4 at e34 l4 hm hdx ⊢
        have e45 : Ex H4 (upd (upd H4 dx (.own m)) m (.ins CM dx [])) := (Ex.new hdx).trans (Ex.new (by rw [upd_ne (Ne.symm ne)]; exact hm))
        have eD : Ex H4 (dl m (upd (upd H4 dx (.own m)) m (.ins CM dx []))) := dl_of e45 hm
        have e24 : Ex H2 H4 := e3.trans e34
        have e04 := e02.trans e24
        refine ⟨m, dx, s, t, l, A, G, is, J1, T1, J2, T2, l1, h1, l2, h2, rfl, upd_same, (sl.ext e04).ext eD, (sr.ext e04).ext eD, sq_of (eD _ _ l4), li, mi, kp, fun H6 b6 mp im6 => ⟨rfl, ?_⟩⟩
        have e46 : Ex H4 H6 := But.ex b6 e45 hm
        have e26 := e24.trans e46
        have D6 := e26 _ _ hacc
        refine ⟨acc, D6, sz_lt (by omega), Ex.mut (e2.trans e26) hD, _, upd_same, by simp; omega, ?_⟩
        rw [tkR, List.filter_append, List.filter_cons, if_pos (keepsB_iff.mpr kp), List.filter_nil]
        exact ((mo.keep fun m2 φ js z1 z2 => ⟨(z1.ext e26).but D6 But.upd, (z2.ext e26).butL D6 But.upd⟩).snoc (mp.but D6 But.upd) (im6.butL D6 But.upd))
      · obtain ⟨r, rfl⟩ := k2 kp
        try dsimp only
        rw [if_neg (by simp)]
        refine ⟨e2.trans e3, acc, e3 _ _ hacc, by omega, ?_⟩
        rw [tkR, List.filter_append, List.filter_cons, if_neg (fun z => kp (keepsB_iff.mp z)), List.filter_nil, List.append_nil]
        exact mo.keep fun m2 φ js z1 z2 => ⟨z1.ext e3, z2.ext e3⟩
    · rintro H2 ⟨e2, acc, hacc, la, mo⟩
      exact q D H2 acc (fresh_back e1 hD) (e1.trans e2) hacc (by rw [R.1, List.take_length] at mo; exact mo)
end
end K06

set_option Elab.async false
set_option linter.all false
set_option maxRecDepth 100000
set_option maxHeartbeats 1000000
/-! E1: == and != of own objects by their own __eq__, whatever it answers. -/
namespace S
open PySem PySem.Spec PyProof.Rows L2
section
variable {X : Cx} {k : Nat} {C f : Addr} {fd : FuncData} {ps : List Str} {sp : Sp}
/-- an own def called with two objects, at a place below -/
theorem run_two (F : FnOk X.prog X.w X.K X.mg X.base CX0 k f fd ps sp) (hb : Binds X.K fd ps []) (hx : Passes CX0 X E0) {A : Around} {pins : List (Addr × Obj)} {σ : L2.St} {H : Hp} {s : Shared} (sb : Sub X k A) (I : Inv X pins σ H s) {a b : Addr} {Qv : V → Hp → Prop}
    (hsp : sp [.ref a, .ref b] H Qv E0) : wpAny (model X.prog X.w) A (call (.ref f) [.ref a, .ref b]) (fun v s' => ∃ z H', Inv X pins σ H' s' ∧ RelV z v ∧ Qv z H') X.xe s := by
  have e0 : Env0 X.prog X.w X.K X.mg X.base A X.stack s H := by
    have e := I.env0
    exact ⟨by rw [sb.fr]; exact e.frames, e.mod, e.bs, e.bsz, e.funs, e.frf, e.hok, e.bare⟩
  have hl := F.len _ _ _ _ hsp
  have r2 : Vals [V.ref a, V.ref b] [Value.ref a, Value.ref b] := .cons rfl (.cons rfl .nil)
  refine wpAny_call (codeAny_mono (F.run A X.stack s H ⟨[.ref a, .ref b], []⟩ [.ref a, .ref b] [.ref a, .ref b] _ E0 sb.room e0 (by
    have := hb s [.ref a, .ref b] I.kIn (by simpa using hl)
    simpa using this) r2 hsp) fun r s' hq => ?_)
  cases r with
  | error e => exact hx pins σ H s e s' I hq
  | ok fl =>
    cases fl with
    | ret w =>
      obtain ⟨z, H', I', rz, q⟩ := I.after hq
      exact ⟨z, H', I', rz, q⟩
    | next => exact False.elim hq
    | brk => exact False.elim hq
    | cont => exact False.elim hq
/-- what its own == is asked -/
def rOwnEq (K : PySem.W.Frag) (C : Addr) (sp : Sp) (neg : Bool) : R2 := fun x y H Q => ∃ (a b D dx dy : Addr) (fs gs : List (Str × V)), x = .ref a ∧ y = .ref b ∧ H a = some (.ins C dx fs) ∧ H b = some (.ins D dy gs) ∧ (D = C ∨ PySem.W.subIn K (.ref D) (.ref C) = some false) ∧
  sp [.ref a, .ref b] H (fun v H' => ∃ t, v = .bl t ∧ Q (.bl (if neg then !t else t)) H') E0
theorem notFirst_of {K : PySem.W.Frag} {D : Addr} (h : D = C ∨ PySem.W.subIn K (.ref D) (.ref C) = some false) : PySem.W.notFirst K C (.ref D) = true := by
  unfold PySem.W.notFirst
  rcases h with rfl | h
  · simp
  · rw [h]
    simp
theorem op_ownEq (F : FnOk X.prog X.w X.K X.mg X.base CX0 k f fd ps sp) (hr : Room k X.A) (hs : PySem.W.findIn X.K (.ref C) "__eq__" = some (some (.ref f))) (hf : PySem.W.isFn X.K (.ref f) = true) (hb : Binds X.K fd ps []) (hx : Passes CX0 X E0) : OpR X (compareOp .Eq) (rOwnEq X.K C sp false) := by
  intro pins s σ H x y v u Q I rx ry hq
  obtain ⟨a, b, D, dx, dy, fs, gs, rfl, rfl, ha, hb', hn, hsp⟩ := hq
  cases rx
  cases ry
  show wpAny (model X.prog X.w) X.A (richCompare .Eq (.ref a) (.ref b)) (EP X pins σ Q) X.xe s
  obtain ⟨mA, J, _⟩ := ins_get I.hok ha
  obtain ⟨mB, J', _⟩ := ins_get I.hok hb'
  obtain ⟨od, J, _⟩ := J.look
  obtain ⟨od', J', _⟩ := J'.look
  obtain ⟨m, hF⟩ := I.fr
  refine PySem.W.cmp_K (op := .Eq) (tb := .ref D) hr.units0 hF I.ok.mod.kin J J'.type (notFirst_of hn) hs hf ?_
  refine wpAny_mono (run_two F hb hx ⟨hr, rfl⟩ I hsp) (fun v s' ⟨z, H', I', rz, t, ez, q⟩ => ?_) fun _ _ y => y
  subst ez
  cases rz
  exact ⟨.bl t, H', I', rfl, q⟩
/-! ### != by object.__ne__ -/
theorem ifBound_objNe {M : Model} {A : Around} {E : Value → Shared → Prop} {s : Shared} {K : PySem.W.Frag} {x : Addr} {ox : Obj} {od : Option Obj} {args : List Value} {Q : Option Value → Shared → Prop} (X : K.In s.heap) (I : PySem.W.InstAt s.heap x ox C od) (hs : PySem.W.findIn K (.ref C) "__ne__" = some (some (.builtin "object.__ne__")))
    (h : wpAny M A (call (.builtin "object.__ne__") (.ref x :: args)) (fun v => Q (some v)) E s) : wpAny M A (callSpecialIfBound? (.ref x) "__ne__" args) Q E s := by
  simp only [callSpecialIfBound?, bindSpecialIfBound?]
  refine wpAny_holding (wpAny_bind (wpAny_bind (wpAny_bind (I.type.here ((PySem.W.looks_findIn X hs).here ?_)))))
  refine wpAny_bind (wpAny_askSetting (wpAny_ite ?_))
  have go : wpAny M A (call (.builtin "object.__ne__") ([.ref x] ++ args) >>= fun v => pure (some v)) Q E s := wpAny_bind (wpAny_mono h (fun v s' z => wpAny_pure z) fun _ _ z => z)
  split
  · exact wpAny_bind (wpAny_of_eq (F.cmp_object.ne.bind _) (wpAny_pure (by exact go)))
  · exact wpAny_tryCatch (wpAny_bind (wpAny_of_eq (F.cmp_object.ne.bind _) (wpAny_pure (by exact go))))
theorem entry_ne {M : Model} {A : Around} {E : Value → Shared → Prop} {s : Shared} {a b : Addr} {Q : Fin → Shared → Prop} (hu : A.units < cLine)
    (h : wpAny M A (callSpecialIfBound? (.ref a) "__eq__" [.ref b]) (fun r s' => ∃ t, r = some (.bool t) ∧ Q (.done (.ret (.bool (!t)))) s') E s) : wpAny M A (Builtin.«object.__ne__» ⟨[.ref a, .ref b], []⟩) Q E s := by
  unfold Builtin.«object.__ne__»
  repeat (first | with_reducible refine wpAny_cRoomFor hu ?_ | with_reducible refine wpAny_bind (m := callSpecialIfBound? (.ref a) "__eq__" [.ref b]) (wpAny_mono h (fun r s' ⟨t, er, q⟩ => ?_) fun _ _ z => z) | wp_step)
  subst er
  show wpAny M A (truthy (.bool t) >>= fun x => ret (.bool (!x))) Q E s'
  refine wpAny_bind (wpAny_truthy_bool ?_)
  exact wpAny_pure q
theorem op_ownNe (Fo : FnOk X.prog X.w X.K X.mg X.base CX0 k f fd ps sp) (hr : Room (k + 1) X.A) (hs : PySem.W.findIn X.K (.ref C) "__eq__" = some (some (.ref f))) (hf : PySem.W.isFn X.K (.ref f) = true) (hb : Binds X.K fd ps []) (hx : Passes CX0 X E0)
    (hne : PySem.W.findIn X.K (.ref C) "__ne__" = some (some (.builtin "object.__ne__"))) (hm : PySem.W.mroIn X.K C (.type "object") = some true) : OpR X (compareOp .NotEq) (rOwnEq X.K C sp true) := by
  intro pins s σ H x y v u Q I rx ry hq
  obtain ⟨a, b, D, dx, dy, fs, gs, rfl, rfl, ha, hb', hn, hsp⟩ := hq
  cases rx
  cases ry
  show wpAny (model X.prog X.w) X.A (richCompare .NotEq (.ref a) (.ref b)) (EP X pins σ Q) X.xe s
  obtain ⟨mA, J, _⟩ := ins_get I.hok ha
  obtain ⟨mB, J', _⟩ := ins_get I.hok hb'
  obtain ⟨od, J, _⟩ := J.look
  obtain ⟨od', J', _⟩ := J'.look
  obtain ⟨m, hF⟩ := I.fr
  have KX := I.ok.mod.kin.keeps hF.keep
  have sb : Sub X k X.A.in1 := L2.Sub.in1 (⟨hr, rfl⟩ : L2.Sub X (k + 1) X.A)
  have one : wpAny (model X.prog X.w) X.A (tryCompare (.ref a) "__ne__" (.ref b)) (fun r s' => ∃ v, r = some v ∧ ∃ t, v = .bool t ∧ EP X pins σ Q (.bool t) s') X.xe s := by
    unfold tryCompare
    refine wpAny_bind (ifBound_objNe KX J hne (wpAny_call (codeAny_call_builtin F.cmp_object.ne.plain F.cmpEntry_ne (PySem.W.check_slot F.cmpKind_ne F.cmpSplit_ne (J.type.andThen (PySem.W.looks_mroIn KX hm)) (F.cmpArgs_ne _ _) (entry_ne sb.room.units0 (PySem.W.ifBound_K KX J hs hf (wpAny_mono (run_two Fo hb hx sb I hsp) (fun v s' z => ?_) fun _ _ y => y)))))))
    obtain ⟨z, H', I', rz, t, ez, q⟩ := z
    subst ez
    cases rz
    exact ⟨t, rfl, wpAny_pure ⟨_, rfl, !t, rfl, ⟨.bl (!t), H', I', rfl, q⟩⟩⟩
  unfold richCompare
  simp only [oneThing_ref]
  refine wpAny_holding (wpAny_bind (wpAny_cRoomFor hr.units0 ?_))
  refine wpAny_bind (J.type.here (wpAny_bind (J'.type.here ?_)))
  split
  · rename_i qq
    have e : PySem.W.subIn X.K (.ref D) (.ref C) = some false := by
      rcases hn with e | e
      · rw [e] at qq
        simp at qq
      · exact e
    refine wpAny_bind ((PySem.W.looks_subIn KX e).here ?_)
    simp only [Bool.false_eq_true, if_false]
    refine wpAny_bind (wpAny_mono one (fun r s' z => ?_) fun _ _ e => e)
    obtain ⟨v, rfl, t, rfl, hq⟩ := z
    exact wpAny_pure hq
  · refine wpAny_bind (wpAny_pure ?_)
    simp only [Bool.false_eq_true, if_false]
    refine wpAny_bind (wpAny_mono one (fun r s' z => ?_) fun _ _ e => e)
    obtain ⟨v, rfl, t, rfl, hq⟩ := z
    exact wpAny_pure hq
end
end S

set_option Elab.async false
set_option linter.all false
set_option maxRecDepth 100000
set_option maxHeartbeats 1000000
/-! E2: x in a list of own objects, told by their own ==; own binary operations between objects of one class. -/
namespace S
open PySem PySem.Spec PyProof.Rows L2 PySem.SeqAt
open AutoSeq1 (wpAny_loadPart')
open MeetsSeq MeetsSeq2 MeetsSeq3 SeqRoads2
section
variable {prog : Program} {w : World} {A : Around}
/-- the list is read anew at each turn: N items; e says which are alike to x -/
def ListC (prog : Program) (w : World) (A : Around) (E : Value → Shared → Prop) (l : Addr) (x : Value) (N : Nat) (e : Nat → Bool) (I : Nat → Shared → Prop) : Prop :=
  ∀ i s, I i s → ∃ (items : Array Value) (n : Nat), s.heap.get? l = some { cls := .type "list", data := .seq items n } ∧ items.size = N ∧
    ∀ h1 : i < items.size, wpAny (model prog w) A.in1 (eqBool items[i] x) (fun r s' => r = e i ∧ I (i + 1) s') E s
theorem in_loopI {R : Result → Shared → Prop} (l : Addr) (x : Value) (N : Nat) (e : Nat → Bool) (I : Nat → Shared → Prop) (hl : ListC prog w A (fun er s' => R (.error er) s') l x N e I)
    (yes : ∀ i s, i < N → e i = true → I (i + 1) s → R (.ok (.ret (.bool true))) s) (no : ∀ s, (∀ j, j < N → e j = false) → I N s → R (.ok (.ret (.bool false))) s) (k : Nat) :
    ∀ i : Nat, N - i = k → i ≤ N → (∀ j, j < i → e j = false) → ∀ s, I i s →
      wpAny (model prog w) A.in1 (Builtin.«list.__contains__.loop» ⟨[.ref l, x, rawInt i], []⟩) (GQ.FinOf prog w A R) (fun er s' => R (.error er) s') s := by
  induction k with
  | zero =>
    intro i hk hi hf s h
    obtain ⟨items, n, hl1, hs1, _⟩ := hl _ _ h
    have hi' : i = N := by omega
    have hR : R (.ok (.ret (.bool false))) s := no s (hi' ▸ hf) (hi' ▸ h)
    obtain ⟨hp, g, d, tk, os⟩ := s
    wp_walk using wpAny_loadPart' hl1
    have hi1 : items[((i : Nat) : Int).toNat]? = none := by simp; omega
    rw [hi1]
    wp_walk
    exact hR
  | succ k ih =>
    intro i hk hi hf s h
    obtain ⟨items, n, hl1, hs1, turn⟩ := hl _ _ h
    have hlt : i < items.size := by omega
    have ht := turn hlt
    obtain ⟨hp, g, d, tk, os⟩ := s
    wp_walk using wpAny_loadPart' hl1
    have hi1 : items[((i : Nat) : Int).toNat]? = some items[i] := by simp [hlt]
    have hc : ((i : Int) + 1) = ((i + 1 : Nat) : Int) := by omega
    rw [hi1]
    refine wpAny_bind (wpAny_mono ht (fun r s2 h2 => ?_) fun _ _ z => z)
    obtain ⟨hr, h2⟩ := h2
    cases hb : e i with
    | true =>
      rw [hb] at hr
      subst hr
      have hR := yes i s2 (by omega) hb h2
      obtain ⟨hp2, g2, d2, tk2, os2⟩ := s2
      wp_walk
      exact hR
    | false =>
      rw [hb] at hr
      subst hr
      have hrec := ih (i + 1) (by omega) (by omega) (fun j hj => by
        rcases Nat.lt_succ_iff_lt_or_eq.mp hj with z | z
        · exact hf j z
        · rw [z]
          exact hb) s2 h2
      obtain ⟨hp2, g2, d2, tk2, os2⟩ := s2
      wp_walk
      rw [hc]
      exact ⟨plainId_quiet plain_contains_loop _, codeAny_builtin entry_contains_loop (by
        rw [Around.under_plainId plain_contains_loop _]
        exact hrec)⟩
theorem containsI {E : Value → Shared → Prop} {Q : Bool → Shared → Prop} {s : Shared} (l : Addr) (x : Value) (N : Nat) (e : Nat → Bool) (I : Nat → Shared → Prop) (hl : ListC prog w A E l x N e I)
    (yes : ∀ i s, i < N → e i = true → I (i + 1) s → Q true s) (no : ∀ s, (∀ j, j < N → e j = false) → I N s → Q false s) (h : I 0 s) : wpAny (model prog w) A (contains (.ref l) x) Q E s := by
  obtain ⟨items, n, hl1, hs1, _⟩ := hl _ _ h
  refine wpAny_contains_slot (T := "list") (id := "list.__contains__") ⟨_, hl1, rfl⟩ F.slot_list_contains (wpAny_mono (GQ.call_here (Q := fun v s' => ∃ b, v = .bool b ∧ Q b s') F.slot_list_contains ⟨_, hl1, rfl⟩ F.entry_list_contains (F.args_list_contains_2 _ _) ?_) (fun v s' hv => ?_) fun _ _ z => z)
  · have hrec := in_loopI (A := A) (R := wants (fun v s' => ∃ b, v = .bool b ∧ Q b s') E) l x N e I hl (fun i s h1 h2 h3 => ⟨true, rfl, yes i s h1 h2 h3⟩) (fun s h1 h2 => ⟨false, rfl, no s h1 h2⟩) _ 0 rfl (Nat.zero_le _) (fun j hj => absurd hj (Nat.not_lt_zero _)) s h
    obtain ⟨hp, g, d, tk, os⟩ := s
    wp_walk using wpAny_loadPart' hl1
    exact ⟨plainId_quiet plain_contains_loop _, codeAny_builtin entry_contains_loop (by
      rw [Around.under_plainId plain_contains_loop _]
      exact hrec)⟩
  · obtain ⟨b, rfl, hq⟩ := hv
    exact wpAny_truthy_bool hq
end
section
variable {X : Cx} {k : Nat} {C f : Addr} {fd : FuncData} {ps : List Str} {sp : Sp}
/-- eqBool of two objects of one class by its own == -/
theorem eqB_own (F : FnOk X.prog X.w X.K X.mg X.base CX0 k f fd ps sp) (hs : PySem.W.findIn X.K (.ref C) "__eq__" = some (some (.ref f))) (hf : PySem.W.isFn X.K (.ref f) = true) (hb : Binds X.K fd ps []) (hx : Passes CX0 X E0) {A : Around} {pins : List (Addr × Obj)} {σ : L2.St} {H : Hp} {s : Shared} (sb : Sub X k A) (I : Inv X pins σ H s)
    {a b dx dy : Addr} {fs gs : List (Str × V)} (ha : H a = some (.ins C dx fs)) (hb' : H b = some (.ins C dy gs)) {t : Bool} (ht : a = b → t = true) {Qb : Hp → Prop} (q0 : Qb H) (hsp : sp [.ref a, .ref b] H (fun v H' => v = .bl t ∧ Qb H') E0) :
    wpAny (model X.prog X.w) A (eqBool (.ref a) (.ref b)) (fun r s' => r = t ∧ ∃ H', Inv X pins σ H' s' ∧ Qb H') X.xe s := by
  by_cases hab : a = b
  · subst hab
    rw [ht rfl]
    exact SeqAt.EqAt.same (A := A) (s := s) (.ref a) X.prog X.w X.xe _ ⟨rfl, H, I, q0⟩
  · obtain ⟨mA, J, _⟩ := ins_get I.hok ha
    obtain ⟨mB, J', _⟩ := ins_get I.hok hb'
    obtain ⟨od, J, _⟩ := J.look
    obtain ⟨od', J', _⟩ := J'.look
    obtain ⟨m, hF⟩ := I.fr
    refine GQ.eqBool_refG hab (PySem.W.cmp_K (op := .Eq) (tb := .ref C) sb.room.units0 hF I.ok.mod.kin J J'.type (notFirst_of (.inl rfl)) hs hf ?_)
    refine wpAny_mono (run_two F hb hx sb I hsp) (fun v s' ⟨z, H', I', rz, ez, q⟩ => ?_) fun _ _ y => y
    subst ez
    cases rz
    exact ⟨t, rfl, rfl, H', I', q⟩
/-- x in a list of own objects -/
def rInObj (K : PySem.W.Frag) (C : Addr) (sp : Sp) (neg : Bool) : R2 := fun x y H Q => ∃ (b dy : Addr) (gs : List (Str × V)) (p : Addr) (xs : List V) (e : Nat → Bool), x = .ref b ∧ H b = some (.ins C dy gs) ∧ y = .ref p ∧ H p = some (.lst xs) ∧
  (∀ (i : Nat) z, xs[i]? = some z → ∃ (a dx : Addr) (fs : List (Str × V)), z = .ref a ∧ H a = some (.ins C dx fs) ∧ (a = b → e i = true) ∧ ∀ H', Ext H H' → ∀ Q' : VK, (∀ H2, Ext H' H2 → Q' (.bl (e i)) H2) → sp [.ref a, .ref b] H' Q' E0) ∧
  ∀ (t : Bool) H', Ext H H' → (t = true → ∃ i, i < xs.length ∧ e i = true) → (t = false → ∀ i, i < xs.length → e i = false) → Q (.bl (if neg then !t else t)) H'
theorem contains_obj (F : FnOk X.prog X.w X.K X.mg X.base CX0 k f fd ps sp) (hr : Room (k + 1) X.A) (hs : PySem.W.findIn X.K (.ref C) "__eq__" = some (some (.ref f))) (hf : PySem.W.isFn X.K (.ref f) = true) (hb : Binds X.K fd ps []) (hx : Passes CX0 X E0) {pins : List (Addr × Obj)} {σ : L2.St} {H : Hp} {s : Shared} (I : Inv X pins σ H s) {Q : VK} {neg : Bool} {x y : V} {u v : Value} (rx : RelV x u) (ry : RelV y v) (h : rInObj X.K C sp neg x y H Q) :
    wpAny (model X.prog X.w) X.A (contains v u) (fun t s' => EP X pins σ Q (.bool (if neg then !t else t)) s') X.xe s := by
  obtain ⟨b, dy, gs, p, xs, e, rfl, hb', rfl, hq, hi, q⟩ := h
  cases rx
  cases ry
  have sb : L2.Sub X k X.A.in1 := L2.Sub.in1 (⟨hr, rfl⟩ : L2.Sub X (k + 1) X.A)
  refine containsI p (.ref b) xs.length e (fun i s' => ∃ H', Inv X pins σ H' s' ∧ Ext H H') (fun i s' ⟨H', I', e'⟩ => ?_) (fun i s' h1 h2 ⟨H', I', e'⟩ => ⟨.bl _, H', I', rfl, q true H' e' (fun _ => ⟨i, h1, h2⟩) (fun z => nomatch z)⟩) (fun s' h1 ⟨H', I', e'⟩ => ⟨.bl _, H', I', rfl, q false H' e' (fun z => nomatch z) (fun _ => h1)⟩) ⟨H, I, Ext.rfl'⟩
  obtain ⟨z, its, n, r, el⟩ := I'.hok p _ (e' _ _ hq)
  refine ⟨its.toArray, n, el, by rw [List.size_toArray, ← r.length], fun h1 => ?_⟩
  have g1 : its[i]? = some its.toArray[i] := by
    have h1' : i < its.length := by simpa using h1
    rw [List.getElem?_eq_getElem h1'] <;> simp
  have k1 : i < xs.length := by rw [r.length]; simpa using h1
  obtain ⟨u, hu, ru⟩ := r.get (List.getElem?_eq_getElem k1)
  rw [g1] at hu
  rw [Option.some.inj hu]
  obtain ⟨a, dx, fs, ez, ha, hab, hsp⟩ := hi i _ (List.getElem?_eq_getElem k1)
  rw [ez] at ru
  cases ru
  refine wpAny_mono (eqB_own F hs hf hb hx sb I' (e' _ _ ha) (e' _ _ hb') hab (Qb := fun H2 => Ext H' H2) Ext.rfl' (hsp H' e' _ fun H2 e2 => ⟨rfl, e2⟩)) (fun t s2 ⟨et, H2, I2, e2⟩ => ?_) fun _ _ y => y
  exact ⟨et, H2, I2, e'.trans e2⟩
theorem op_inObj (F : FnOk X.prog X.w X.K X.mg X.base CX0 k f fd ps sp) (hr : Room (k + 1) X.A) (hs : PySem.W.findIn X.K (.ref C) "__eq__" = some (some (.ref f))) (hf : PySem.W.isFn X.K (.ref f) = true) (hb : Binds X.K fd ps []) (hx : Passes CX0 X E0) : OpR X (compareOp .In) (rInObj X.K C sp false) := by
  intro pins s σ H x y v u Q I rx ry hq
  show wpAny (model X.prog X.w) X.A (do return .bool (← contains u v)) (EP X pins σ Q) X.xe s
  exact wpAny_bind (wpAny_mono (contains_obj F hr hs hf hb hx I rx ry hq) (fun t s' z => wpAny_pure z) fun _ _ z => z)
theorem op_notInObj (F : FnOk X.prog X.w X.K X.mg X.base CX0 k f fd ps sp) (hr : Room (k + 1) X.A) (hs : PySem.W.findIn X.K (.ref C) "__eq__" = some (some (.ref f))) (hf : PySem.W.isFn X.K (.ref f) = true) (hb : Binds X.K fd ps []) (hx : Passes CX0 X E0) : OpR X (compareOp .NotIn) (rInObj X.K C sp true) := by
  intro pins s σ H x y v u Q I rx ry hq
  show wpAny (model X.prog X.w) X.A (do return .bool (!(← contains u v))) (EP X pins σ Q) X.xe s
  exact wpAny_bind (wpAny_mono (contains_obj F hr hs hf hb hx I rx ry hq) (fun t s' z => wpAny_pure z) fun _ _ z => z)
/-! ### own binary operations between two objects of one class -/
def rOwnBin (C : Addr) (sp : Sp) : R2 := fun x y H Q => ∃ (a b dx dy : Addr) (fs gs : List (Str × V)), x = .ref a ∧ y = .ref b ∧ H a = some (.ins C dx fs) ∧ H b = some (.ins C dy gs) ∧ sp [.ref a, .ref b] H (fun v H' => ∃ m, v = .ref m ∧ Q (.ref m) H') E0
theorem op_ownBin {op : Operator} (F : FnOk X.prog X.w X.K X.mg X.base CX0 k f fd ps sp) (hr : Room k X.A) (hc : PySem.W.selfFirst X.K C = true) (hs : PySem.W.findIn X.K (.ref C) (PySem.dunder op.info.2) = some (some (.ref f))) (hf : PySem.W.isFn X.K (.ref f) = true) (hb : Binds X.K fd ps []) (hx : Passes CX0 X E0) : OpR X (binaryOp op) (rOwnBin C sp) := by
  intro pins s σ H x y v u Q I rx ry hq
  obtain ⟨a, b, dx, dy, fs, gs, rfl, rfl, ha, hb', hsp⟩ := hq
  cases rx
  cases ry
  obtain ⟨mA, J, _⟩ := ins_get I.hok ha
  obtain ⟨mB, J', _⟩ := ins_get I.hok hb'
  obtain ⟨od, J, _⟩ := J.look
  obtain ⟨od', J', _⟩ := J'.look
  obtain ⟨m, hF⟩ := I.fr
  refine PySem.W.binop_K hF I.ok.mod.kin J J'.type hc hs hf ?_
  refine wpAny_mono (run_two F hb hx ⟨hr, rfl⟩ I hsp) (fun v s' ⟨z, H', I', rz, t, ez, q⟩ => ?_) fun _ _ y => y
  subst ez
  cases rz
  exact ⟨.ref t, H', I', rfl, q⟩
end
end S

set_option Elab.async false
set_option linter.all false
set_option maxRecDepth 100000
set_option maxHeartbeats 1000000
/-! Y1: Scale.__eq__; ScaleMap.__eq__, images, __rshift__, same, keeps_only. -/
namespace K06
open PySem PySem.Spec PyProof.Rows L2 Evl J ClX StX S D
open K13 (EvD ed_ev ed_var)
abbrev sSE : Stmt := methS 27 3
def tupS (A : List Str) : PyData := .tuple (A.map .str)
def scEqB (A : List Str) (J1 T1 : List (List Str)) (l1 h1 : Str) (G : List Str) (J2 T2 : List (List Str)) (l2 h2 : Str) : Bool :=
  PyData.eqv (tupS A) (tupS G) && (PyData.eqv (tab J1) (tab J2) && (PyData.eqv (tab T1) (tab T2) && (decide (V.str l1 = V.str l2) && decide (V.str h1 = V.str h2))))
def okS (A : List Str) : Prop := ∀ x ∈ A, PyData.strOk x = true
theorem canLay_strs : ∀ {A : List Str}, okS A → PyData.canLayAll0 (A.map .str) = true
  | [], _ => rfl
  | a :: r, h => by
    have ih := canLay_strs (A := r) fun x hx => h x (List.mem_cons_of_mem _ hx)
    simpa [PyData.canLayAll0, PyData.canLay0] using ⟨h a List.mem_cons_self, ih⟩
theorem canLay_tab : ∀ {J : List (List Str)}, (∀ r ∈ J, okS r) → PyData.canLayAll0 (J.map fun r => .tuple (r.map .str)) = true
  | [], _ => rfl
  | r :: J, hJ => by
    have ih := canLay_tab (J := J) fun x hx => hJ x (List.mem_cons_of_mem _ hx)
    have h := canLay_strs (hJ r List.mem_cons_self)
    simp only [List.map_cons, PyData.canLayAll0, PyData.canLay0, h, ih, Bool.and_self]
theorem wf_ok {A : List Str} {J : List (List Str)} (h : okS A) (w : Wf A J) : ∀ r ∈ J, okS r := fun r hr x hx => h x (w.at_ r hr x hx)
theorem depth_strs : ∀ A : List Str, PyData.depthAll (A.map .str) ≤ 1
  | [] => by simp [PyData.depthAll]
  | a :: r => by
    have ih := depth_strs r
    simp only [List.map_cons, PyData.depthAll, PyData.depth]
    omega
theorem depth_tab : ∀ J : List (List Str), PyData.depthAll (J.map fun r => .tuple (r.map .str)) ≤ 3
  | [] => by simp [PyData.depthAll]
  | r :: J => by
    have ih := depth_tab J
    have h := depth_strs r
    simp only [List.map_cons, PyData.depthAll, PyData.depth]
    omega
theorem sh_strs {A : List Str} (h : okS A) : SeqAt.shaped (tupS A) = true := by
  unfold SeqAt.shaped tupS
  have h1 : (PyData.tuple (A.map .str)).canLay0 = true := by
    simp only [PyData.canLay0, canLay_strs h]
  have h2 : (PyData.tuple (A.map .str)).depth ≤ 64 := by
    have := depth_strs A
    simp only [PyData.depth]
    omega
  rw [h1, decide_eq_true h2]
  rfl
theorem sh_tab {J : List (List Str)} (h : ∀ r ∈ J, okS r) : SeqAt.shaped (tab J) = true := by
  unfold SeqAt.shaped tab
  have h1 : (PyData.tuple (J.map fun r => .tuple (r.map .str))).canLay0 = true := by
    simp only [PyData.canLay0, canLay_tab h]
  have h2 : (PyData.tuple (J.map fun r => .tuple (r.map .str))).depth ≤ 64 := by
    have := depth_tab J
    simp only [PyData.depth]
    omega
  rw [h1, decide_eq_true h2]
  rfl
theorem scEqB_self {A : List Str} {J T : List (List Str)} {lo hi : Str} (h : okS A) (hJ : ∀ r ∈ J, okS r) (hT : ∀ r ∈ T, okS r) : scEqB A J T lo hi A J T lo hi = true := by
  unfold scEqB
  rw [SeqAt.eqv_refl _ (SeqAt.canLay_of_shaped (sh_strs h)), SeqAt.eqv_refl _ (SeqAt.canLay_of_shaped (sh_tab hJ)), SeqAt.eqv_refl _ (SeqAt.canLay_of_shaped (sh_tab hT))]
  simp
section
variable {K : PySem.W.Frag} {σ : L2.St} {H : Hp} {te ta tb : TE} {d e : PyData}
theorem ev_eqD (h1 : EvD K ta σ H d) (h2 : EvD K tb σ H e) (s1 : SeqAt.shaped d = true) (s2 : SeqAt.shaped e = true) : Ev (tOp (rEqD K) ta tb) σ H (.bl (PyData.eqv d e)) := fun H1 x Q q =>
  h1 H1 x _ fun v H2 e2 dp => h2 H2 (x.trans e2) _ fun u H3 e3 dq => ⟨d, e, dp_ext e3 dp, dq, s1, s2, q H3 (e2.trans e3)⟩
end
def spSE (K : PySem.W.Frag) (CA CB : Addr) : Sp := fun vs H Q _ => ∃ (a b : Addr) (A G : List Str) (J1 T1 J2 T2 : List (List Str)) (l1 h1 l2 h2 : Str), vs = [.ref a, .ref b] ∧ ScAt K CA H a A J1 T1 l1 h1 ∧ ScAt K CB H b G J2 T2 l2 h2 ∧ okS A ∧ okS G ∧ RetV (.bl (scEqB A J1 T1 l1 h1 G J2 T2 l2 h2)) H Q
theorem scSE : FnScope ["self", "other"] ["self", "other"] (defScope sSE) := ⟨rfl, rfl, rfl, by decide +kernel, rfl, by decide +kernel, by decide +kernel⟩
section
variable {P : Program} {w : World} {K : PySem.W.Frag} {mg : Str → Option Value} {base : Heap} {f CA CB CS : Addr} {fd : FuncData}
theorem ok_se2 (F : FnM K "__eq__" "Scale.__eq__" sSE f fd) (T : Bl mg) (cfA : ClsF K CA fldN) (cfB : ClsF K CB fldN) (iT : InsT K CB) (kS : PySem.W.kitOne K (.ref CB) (.ref CS) = some true) (gS : mg "Scale" = some (.ref CS)) : FnOk P w K mg base CX0 1 f fd ["self", "other"] (spSE K CA CB) := by
  refine F.ok scSE (fun vs H Q E h => ?_) (fun cdv A0 outer s0 H vs Q E hr h => ?_)
  · obtain ⟨a, b, A, G, J1, T1, J2, T2, l1, h1, l2, h2, rfl, _⟩ := h
    rfl
  · obtain ⟨a, b, A, G, J1, T1, J2, T2, l1, h1, l2, h2, rfl, sa, sb, oA, oG, q⟩ := h
    have hu64 : (A0.deeper (envOfC "Scale.__eq__" (defScope sSE) s0.heap.objs.size f cdv)).units + 64 < cLine := by
      have := hr.un
      omega
    refine ⟨_, pss_one (ps_ret (pe_and (pe_callB call_isi (by rfl) T.isi boot_isinstance (pa_cons (pv 1) (pa_cons (pe_glob (v := .ref CS) rfl gS rfl) pa_nil)))
      (pe_and (pe_cmpR (op_eqD hu64) (pe_fld (pv 0) rfl) (pe_fld (pv 1) rfl) (nomark _)) (pe_and (pe_cmpR (op_eqD hu64) (pe_fld (pv 0) rfl) (pe_fld (pv 1) rfl) (nomark _)) (pe_and (pe_cmpR (op_eqD hu64) (pe_fld (pv 0) rfl) (pe_fld (pv 1) rfl) (nomark _))
        (pe_and (pe_cmpR op_eq (pe_fld (pv 0) rfl) (pe_fld (pv 1) rfl) (nomark _)) (pe_one (pe_cmpR op_eq (pe_fld (pv 0) rfl) (pe_fld (pv 1) rfl) (nomark _))))))))), ?_⟩
    obtain ⟨dx, fs, g, d, j, t, k1, k2, k3, k4, k5, k6, k7, k8, k9, k10, k11, km⟩ := sa.ex
    obtain ⟨dx', fs', g', d', j', t', m1, m2, m3, m4, m5, m6, m7, m8, m9, m10, m11, mm⟩ := sb.ex
    have fa : ∀ {x : Str} {v : V}, x ∈ fldN → fs.lookup x = some v → Ev (tFld K (tVar 0) x) [some (.ref a), some (.ref b)] H v := fun hx l => ev_fld (ev_var rfl) cfA.cl (cfA.no _ hx) k1 l
    have fb : ∀ {x : Str} {v : V}, x ∈ fldN → fs'.lookup x = some v → Ev (tFld K (tVar 1) x) [some (.ref a), some (.ref b)] H v := fun hx l => ev_fld (ev_var rfl) cfB.cl (cfB.no _ hx) m1 l
    have D1 : Dp K H (.ref g) (tupS A) := .tup k3 (dpa_strs A)
    have D2 : Dp K H (.ref g') (tupS G) := .tup m3 (dpa_strs G)
    refine s_ret (ev_is (w := .bl (scEqB A J1 T1 l1 h1 G J2 T2 l2 h2)) (ev_andV (ev_isO (ev_var rfl) m1 iT kS) (fun _ => ev_andV (ev_eqD (ed_ev (fa (by decide) k2) D1) (ed_ev (fb (by decide) m2) D2) (sh_strs oA) (sh_strs oG)) (fun _ => ev_andV (ev_eqD (ed_ev (fa (by decide) k6) k7) (ed_ev (fb (by decide) m6) m7) (sh_tab (wf_ok oA sa.wj)) (sh_tab (wf_ok oG sb.wj)))
      (fun _ => ev_andV (ev_eqD (ed_ev (fa (by decide) k8) k9) (ed_ev (fb (by decide) m8) m9) (sh_tab (wf_ok oA sa.wt)) (sh_tab (wf_ok oG sb.wt))) (fun _ => ev_andV (ev_op (fa (by decide) k10) (fb (by decide) m10) (rv_eq rfl)) (fun _ => ev_op (fa (by decide) k11) (fb (by decide) m11) (rv_eq rfl))))))) ?_) fun H2 e2 => q H2 e2
    rfl
end
end K06

set_option Elab.async false
set_option linter.all false
set_option maxRecDepth 100000
set_option maxHeartbeats 1000000
/-! Y2: ScaleMap.images, __eq__, __rshift__; keeps_only. -/
namespace K06
open PySem PySem.Spec PyProof.Rows L2 Evl J ClX StX S D
open K13 (EvD ed_ev ed_var)
abbrev sImg : Stmt := methS 17 3
abbrev sShr : Stmt := methS 17 4
abbrev sME : Stmt := methS 17 5
/-- a class with an __eq__ of its own -/
structure OwnE (P : Program) (w : World) (K : PySem.W.Frag) (mg : Str → Option Value) (base : Heap) (k : Nat) (C : Addr) (sp : Sp) : Prop where
  ex : ∃ (f : Addr) (fd : FuncData), FnOk P w K mg base CX0 k f fd ["self", "other"] sp ∧ PySem.W.findIn K (.ref C) "__eq__" = some (some (.ref f)) ∧ PySem.W.isFn K (.ref f) = true ∧ L2.Binds K fd ["self", "other"] []
section
variable {X : Cx} {k : Nat} {C : Addr} {sp : Sp}
theorem op_oE (c : OwnE X.prog X.w X.K X.mg X.base k C sp) (hr : Room k X.A) (hx : Passes CX0 X E0) : OpR X (compareOp .Eq) (rOwnEq X.K C sp false) := by
  obtain ⟨f, fd, q1, q2, q3, q4⟩ := c.ex
  exact op_ownEq q1 hr q2 q3 q4 hx
theorem op_oN (c : OwnE X.prog X.w X.K X.mg X.base k C sp) (hr : Room (k + 1) X.A) (hx : Passes CX0 X E0) (hne : PySem.W.findIn X.K (.ref C) "__ne__" = some (some (.builtin "object.__ne__"))) (hm : PySem.W.mroIn X.K C (.type "object") = some true) : OpR X (compareOp .NotEq) (rOwnEq X.K C sp true) := by
  obtain ⟨f, fd, q1, q2, q3, q4⟩ := c.ex
  exact op_ownNe q1 hr q2 q3 q4 hx hne hm
theorem op_oNotIn (c : OwnE X.prog X.w X.K X.mg X.base k C sp) (hr : Room (k + 1) X.A) (hx : Passes CX0 X E0) : OpR X (compareOp .NotIn) (rInObj X.K C sp true) := by
  obtain ⟨f, fd, q1, q2, q3, q4⟩ := c.ex
  exact op_notInObj q1 hr q2 q3 q4 hx
end
def spImg (K : PySem.W.Frag) (CM : Addr) : Sp := fun vs H Q _ => ∃ (m : Addr) (B : List Str), vs = [.ref m] ∧ ImgAt K CM H m B ∧ RetL (B.map V.str) H Q
def spME (K : PySem.W.Frag) (CS CT CM : Addr) : Sp := fun vs H Q _ => ∃ (m n s t : Addr) (A G is js : List Str) (J1 T1 J2 T2 : List (List Str)) (l1 h1 l2 h2 : Str) (φ ψ : Str → Str), vs = [.ref m, .ref n] ∧ MapAt CM H m s t A G φ ∧ ImgAt K CM H m is ∧ MapAt CM H n s t A G ψ ∧ ImgAt K CM H n js ∧
  ScAt K CS H s A J1 T1 l1 h1 ∧ ScAt K CT H t G J2 T2 l2 h2 ∧ okS A ∧ okS G ∧ okS is ∧ okS js ∧ RetV (.bl (PyData.eqv (tupS is) (tupS js))) H Q
theorem scImg : FnScope ["self"] ["self"] (defScope sImg) := ⟨rfl, rfl, rfl, by decide +kernel, rfl, by decide +kernel, by decide +kernel⟩
theorem scME : FnScope ["self", "other"] ["self", "other"] (defScope sME) := ⟨rfl, rfl, rfl, by decide +kernel, rfl, by decide +kernel, by decide +kernel⟩
theorem kit_self {K : PySem.W.Frag} {C : Addr} : PySem.W.kitOne K (.ref C) (.ref C) = some true := by
  unfold PySem.W.kitOne
  rw [if_pos (by simp)]
section
variable {P : Program} {w : World} {K : PySem.W.Frag} {mg : Str → Option Value} {base : Heap} {f CS CT CM : Addr} {fd : FuncData}
theorem ok_img (F : FnM K "images" "ScaleMap.images" sImg f fd) (T : Bl mg) (cfM : ClsF K CM fldM) : FnOk P w K mg base CX0 1 f fd ["self"] (spImg K CM) := by
  refine F.ok scImg (fun vs H Q E h => ?_) (fun cdv A outer s H vs Q E hr h => ?_)
  · obtain ⟨m, B, rfl, _⟩ := h
    rfl
  · obtain ⟨m, B, rfl, im, q⟩ := h
    refine ⟨_, pss_one (ps_ret (pe_callTy call_list_of rfl T.lst Boot.«list» (pa_cons (pe_fld (pv 0) rfl) pa_nil))), ?_⟩
    obtain ⟨dx, fs, v, h1, ⟨h2, _⟩, h3⟩ := im
    cases h3 with
    | @tup p xs _ hs ha =>
      have ex := strs_of ha
      subst ex
      exact ⟨_, rfl, m, CM, dx, fs, .ref p, rfl, h1, cfM.cl, cfM.no _ (by decide), h2, p, _, rfl, .inr hs, fun l hl => q l _ hl (Ex.new hl) upd_same⟩
theorem ok_me (F : FnM K "__eq__" "ScaleMap.__eq__" sME f fd) (T : Bl mg) (cfM : ClsF K CM fldM) (iT : InsT K CM) (gM : mg "ScaleMap" = some (.ref CM)) (eS : OwnE P w K mg base 1 CS (spSE K CS CS)) (eT : OwnE P w K mg base 1 CT (spSE K CT CT)) : FnOk P w K mg base CX0 2 f fd ["self", "other"] (spME K CS CT CM) := by
  refine F.ok scME (fun vs H Q E h => ?_) (fun cdv A0 outer s0 H vs Q E hr h => ?_)
  · obtain ⟨m, n, s, t, A, G, is, js, J1, T1, J2, T2, l1, h1, l2, h2, φ, ψ, rfl, _⟩ := h
    rfl
  · obtain ⟨m, n, s, t, A, G, is, js, J1, T1, J2, T2, l1, h1, l2, h2, φ, ψ, rfl, mm, im, mn, jn, sl, sr, oA, oG, oi, oj, q⟩ := h
    have hu64 : (A0.deeper (envOfC "ScaleMap.__eq__" (defScope sME) s0.heap.objs.size f cdv)).units + 64 < cLine := by
      have := hr.un
      omega
    refine ⟨_, pss_one (ps_ret (pe_and (pe_callB call_isi (by rfl) T.isi boot_isinstance (pa_cons (pv 1) (pa_cons (pe_glob (v := .ref CM) rfl gM rfl) pa_nil)))
      (pe_and (pe_cmpR (op_oE eS hr pass0) (pe_fld (pv 0) rfl) (pe_fld (pv 1) rfl) (nomark _)) (pe_and (pe_cmpR (op_oE eT hr pass0) (pe_fld (pv 0) rfl) (pe_fld (pv 1) rfl) (nomark _)) (pe_one (pe_cmpR (op_eqD hu64) (pe_fld (pv 0) rfl) (pe_fld (pv 1) rfl) (nomark _))))))), ?_⟩
    obtain ⟨dx, d, fs, k1, k2, k3, k4, k5⟩ := mm
    obtain ⟨dx', d', fs', m1, m2, m3, m4, m5⟩ := mn
    obtain ⟨_, _, v, i1, ⟨i2, _⟩, i3⟩ := im
    obtain ⟨_, _, v', j1, ⟨j2, _⟩, j3⟩ := jn
    rw [k1] at i1
    cases i1
    rw [m1] at j1
    cases j1
    have fa : ∀ {x : Str} {v : V}, x ∈ fldM → fs.lookup x = some v → Ev (tFld K (tVar 0) x) [some (.ref m), some (.ref n)] H v := fun hx l => ev_fld (ev_var rfl) cfM.cl (cfM.no _ hx) k1 l
    have fb : ∀ {x : Str} {v : V}, x ∈ fldM → fs'.lookup x = some v → Ev (tFld K (tVar 1) x) [some (.ref m), some (.ref n)] H v := fun hx l => ev_fld (ev_var rfl) cfM.cl (cfM.no _ hx) m1 l
    obtain ⟨dxs, fss, _, _, _, _, hs, _⟩ := sl.ex
    obtain ⟨dxt, fst, _, _, _, _, ht, _⟩ := sr.ex
    have rS : RV (rOwnEq K CS (spSE K CS CS) false) (.ref s) (.ref s) H (.bl true) := fun H1 e1 Q1 q1 => ⟨s, s, CS, dxs, dxs, fss, fss, rfl, rfl, e1 _ _ hs, e1 _ _ hs, .inl rfl, s, s, A, A, J1, T1, J1, T1, l1, h1, l1, h1, rfl, sl.ext e1, sl.ext e1, oA, oA, fun H2 e2 => ⟨true, by rw [scEqB_self oA (wf_ok oA sl.wj) (wf_ok oA sl.wt)], q1 H2 e2⟩⟩
    have rT : RV (rOwnEq K CT (spSE K CT CT) false) (.ref t) (.ref t) H (.bl true) := fun H1 e1 Q1 q1 => ⟨t, t, CT, dxt, dxt, fst, fst, rfl, rfl, e1 _ _ ht, e1 _ _ ht, .inl rfl, t, t, G, G, J2, T2, J2, T2, l2, h2, l2, h2, rfl, sr.ext e1, sr.ext e1, oG, oG, fun H2 e2 => ⟨true, by rw [scEqB_self oG (wf_ok oG sr.wj) (wf_ok oG sr.wt)], q1 H2 e2⟩⟩
    exact s_ret (ev_is (w := .bl (PyData.eqv (tupS is) (tupS js))) (ev_andV (ev_isO (ev_var rfl) m1 iT kit_self) (fun _ => ev_andV (ev_op (fa (by decide) k2) (fb (by decide) m2) rS) (fun _ => ev_andV (ev_op (fa (by decide) k3) (fb (by decide) m3) rT) (fun _ => ev_eqD (ed_ev (fa (by decide) i2) i3) (ed_ev (fb (by decide) j2) j3) (sh_strs oi) (sh_strs oj))))) (by simp [tupS])) fun H2 e2 => q H2 e2
end
end K06

set_option Elab.async false
set_option linter.all false
set_option maxRecDepth 100000
set_option maxHeartbeats 1000000
/-! Y3: ScaleMap.__rshift__. -/
namespace K06
open PySem PySem.Spec PyProof.Rows L2 Evl J ClX StX S D
theorem leadF_map {A is : List Str} {ψ : Str → Str} {x : Str} (h : is.length = A.length) (hx : x ∈ A) : leadF A (is.map ψ) x = ψ (leadF A is x) := by
  unfold leadF
  have h1 : A.idxOf x < is.length := by rw [h]; exact idx_lt hx
  rw [List.getD_eq_getElem?_getD, List.getD_eq_getElem?_getD, List.getElem?_map, List.getElem?_eq_getElem h1]
  rfl
theorem keeps_comp {A G U is : List Str} {J1 T1 J2 T2 J3 T3 : List (List Str)} {l1 h1 l2 h2 l3 h3 : Str} {ψ : Str → Str} (li : is.length = A.length) (k : Keeps A J1 T1 l1 h1 G J2 T2 l2 h2 (leadF A is)) (k2 : Keeps G J2 T2 l2 h2 U J3 T3 l3 h3 ψ) (im : ∀ x ∈ A, leadF A is x ∈ G) (wj : Wf A J1) (wt : Wf A T1) (ml : l1 ∈ A) (mh : h1 ∈ A) :
    Keeps A J1 T1 l1 h1 U J3 T3 l3 h3 (leadF A (is.map ψ)) where
  lo := by rw [leadF_map li ml, k.lo, k2.lo]
  hi := by rw [leadF_map li mh, k.hi, k2.hi]
  jo a b ha hb := by rw [leadF_map li (ap_mem wj ha hb), leadF_map li ha, leadF_map li hb, k.jo a b ha hb, k2.jo _ _ (im a ha) (im b hb)]
  th a b ha hb := by rw [leadF_map li (ap_mem wt ha hb), leadF_map li ha, leadF_map li hb, k.th a b ha hb, k2.th _ _ (im a ha) (im b hb)]
section
variable {K : PySem.W.Frag} {σ : L2.St} {H : Hp} {CS CU CM s u p : Addr} {t1 t2 t3 tl te : TE} {A U B xs : List Str} {J1 T1 J3 T3 : List (List Str)} {l1 h1 l3 h3 : Str} {vs : List Nat} {j : Nat}
/-- [e for x in a tuple of texts] -/
theorem el_mapTu {f : Str → Str} (h : Ev tl σ H (.ref p)) (hx : SqT K H p (xs.map V.str)) (hz : xs.length ≤ 1000) (hw : ∀ x, wipe ((wipe σ vs).set j (some x)) vs = wipe σ vs)
    (he : ∀ x H1, Ex H H1 → x ∈ xs → Ev te ((wipe σ vs).set j (some (.str x))) H1 (.str (f x))) : EvL (tLc (iTup K tl) (gName j) tYes te vs) σ H ((xs.map f).map V.str) := fun H1 e Q q =>
  h H1 e _ fun H2 e2 => ⟨p, rfl, ⟨_, ex_t (e.trans e2) hx⟩, fun D hD => by
    have e02 := e.trans e2
    refine lc_tup (xs := xs.map V.str) (fun i H' => Ex H2 H' ∧ H' D = some (.lst (((xs.take i).map f).map V.str))) ⟨Ex.new hD, upd_same⟩ (fun i H' _ y => ex_t (e02.trans y.1) hx) (fun i x H' hi y => ⟨hw _, ?_⟩) (fun H' ⟨y1, y2⟩ => q D H' (fresh_back e2 hD) (e2.trans y1) (by rw [List.length_map, List.take_length] at y2; exact y2))
    rw [List.getElem?_map] at hi
    cases hg : xs[i]? with
    | none =>
      rw [hg] at hi
      cases hi
    | some z =>
      rw [hg] at hi
      obtain rfl := Option.some.inj hi
      obtain ⟨y1, y2⟩ := y
      have zi : i < xs.length := (List.getElem?_eq_some_iff.mp hg).1
      refine he z H' (e02.trans y1) (List.mem_of_getElem? hg) H' (Ex.refl H') _ fun H4 e4 => ⟨_, e4 _ _ y2, sz_lt (by rw [List.length_map, List.length_map, List.length_take]; omega), Ex.mut (y1.trans e4) hD, ?_⟩
      rw [upd_same, List.take_add_one, hg]
      simp⟩
theorem mk_map {Q : VK} (he1 : Ev t1 σ H (.ref s)) (he2 : Ev t2 σ H (.ref u)) (he3 : EvL t3 σ H (B.map V.str)) (sl : ScAt K CS H s A J1 T1 l1 h1) (su : ScAt K CU H u U J3 T3 l3 h3) (lB : B.length = A.length) (mB : ∀ x ∈ B, x ∈ U) (kp : Keeps A J1 T1 l1 h1 U J3 T3 l3 h3 (leadF A B))
    (q : ∀ r H', H r = none → Ex H H' → MapAt CM H' r s u A U (leadF A B) → ImgAt K CM H' r B → Q (.ref r) H') : tMake CM (spMI K CS CU CM) [] E0 (tCons t1 (tCons t2 (tCons t3 tNil))) σ H Q :=
  he1 H (Ex.refl H) _ fun H3 e3 => he2 H3 e3 _ fun H4 e4 => he3 H4 (e3.trans e4) _ fun l H5 n5 e5 h5 => fun r dx hm hdx ne => by
    have e05 := (e3.trans e4).trans e5
    have e45 : Ex H5 (upd (upd H5 dx (.own r)) r (.ins CM dx [])) := (Ex.new hdx).trans (Ex.new (by rw [upd_ne (Ne.symm ne)]; exact hm))
    have eD : Ex H5 (dl r (upd (upd H5 dx (.own r)) r (.ins CM dx []))) := dl_of e45 hm
    exact ⟨r, dx, s, u, l, A, U, B, J1, T1, J3, T3, l1, h1, l3, h3, rfl, upd_same, (sl.ext e05).ext eD, (su.ext e05).ext eD, sq_of (eD _ _ h5), lB, mB, kp, fun H6 b6 mp im => ⟨rfl, q r H6 (fresh_back e05 hm) (e05.trans (But.ex b6 e45 hm)) mp im⟩⟩
end
def spSh (K : PySem.W.Frag) (CS CT CU CM : Addr) : Sp := fun vs H Q _ => ∃ (m n s t u : Addr) (A G U is : List Str) (J1 T1 J2 T2 J3 T3 : List (List Str)) (l1 h1 l2 h2 l3 h3 : Str) (ψ : Str → Str), vs = [.ref m, .ref n] ∧ MapAt CM H m s t A G (leadF A is) ∧ ImgAt K CM H m is ∧ MapAt CM H n t u G U ψ ∧
  ScAt K CS H s A J1 T1 l1 h1 ∧ ScAt K CT H t G J2 T2 l2 h2 ∧ ScAt K CU H u U J3 T3 l3 h3 ∧ is.length = A.length ∧ (∀ x ∈ is, x ∈ G) ∧ Keeps A J1 T1 l1 h1 G J2 T2 l2 h2 (leadF A is) ∧ Keeps G J2 T2 l2 h2 U J3 T3 l3 h3 ψ ∧ okS G ∧
  ∀ r H', H r = none → Ex H H' → MapAt CM H' r s u A U (leadF A (is.map ψ)) → ImgAt K CM H' r (is.map ψ) → Q (.ref r) H'
abbrev NSh2 : List Str := ["self", "other", "image"]
theorem scShr : FnScope NSh2 ["self", "other"] (defScope sShr) := ⟨rfl, rfl, rfl, by decide +kernel, rfl, by decide +kernel, by decide +kernel⟩
section
variable {P : Program} {w : World} {K : PySem.W.Frag} {mg : Str → Option Value} {base : Heap} {f fM CS CT CU CM : Addr} {fd fdM : FuncData}
theorem ok_shr (F : FnM K "__rshift__" "ScaleMap.__rshift__" sShr f fd) (T : Bl mg) (cfM : ClsF K CM fldM) (iT : InsT K CM) (gM : mg "ScaleMap" = some (.ref CM)) (eT : OwnE P w K mg base 1 CT (spSE K CT CT)) (hne : PySem.W.findIn K (.ref CT) "__ne__" = some (some (.builtin "object.__ne__"))) (hmo : PySem.W.mroIn K CT (.type "object") = some true)
    (M : Mk K CM fM) (hb : Binds K fdM ["self", "source", "target", "images"] []) (FM : FnOk P w K mg base CX0 5 fM fdM ["self", "source", "target", "images"] (spMI K CS CU CM)) : FnOk P w K mg base CX0 7 f fd ["self", "other"] (spSh K CS CT CU CM) := by
  refine F.ok scShr (fun vs H Q E h => ?_) (fun cdv A0 outer s0 H vs Q E hr h => ?_)
  · obtain ⟨m, n, s, t, u, A, G, U, is, J1, T1, J2, T2, J3, T3, l1, h1, l2, h2, l3, h3, ψ, rfl, _⟩ := h
    rfl
  · obtain ⟨m, n, s, t, u, A, G, U, is, J1, T1, J2, T2, J3, T3, l1, h1, l2, h2, l3, h3, ψ, rfl, mm, im, mn, sl, sr, su, li, mi, kp, kp2, oG, q⟩ := h
    have hu : (A0.deeper (envOfC "ScaleMap.__rshift__" (defScope sShr) s0.heap.objs.size f cdv)).units + 1 < cLine := by
      have := hr.un
      omega
    have hr2 : Room 2 (A0.deeper (envOfC "ScaleMap.__rshift__" (defScope sShr) s0.heap.objs.size f cdv)) := hr.mono (by decide)
    refine ⟨_, pss_cons (ps_if (pt_not (pt_val (pe_callB call_isi (by rfl) T.isi boot_isinstance (pa_cons (pv 1) (pa_cons (pe_glob (v := .ref CM) rfl gM rfl) pa_nil))))) pss_no pss_nil)
      (pss_cons (ps_if (pt_cmpR (op_oN eT hr2 pass0 hne hmo) (pe_fld (pv 0) rfl) (pe_fld (pv 1) rfl) (nomark _)) pss_no pss_nil)
      (pss_one (ps_ret (pe_make M FM hr rfl gM hb .nil pass0 (pa_cons (pe_fld (pv 0) rfl) (pa_cons (pe_fld (pv 1) rfl) (pa_cons (pe_lc (own := [("image", 2)]) (g := gName 2) (tt := tYes) (te := tDGet (tFld K (tVar 1) "_leads") (tVar 2)) rfl scShr.nd (pi_tup (pe_fld (pv 0) rfl)) (blkOk_by (N := NSh2) (sc := defScope sShr) (by decide +kernel)) (fun _ _ _ _ _ => pg_name (i := 2) scShr.nd rfl (Or.inl rfl)) (fun _ _ _ _ _ => pts_nil) (fun _ _ _ _ _ => by exact pe_dget hu (pe_fld (pv 1) rfl) (pv 2) (fun _ _ => rfl))) pa_nil))))))), ?_⟩
    obtain ⟨dx, d, fs, k1, k2, k3, k4, k5⟩ := mm
    obtain ⟨dx', d', fs', m1, m2, m3, m4, m5⟩ := mn
    obtain ⟨_, _, v, i1, ⟨i2, _⟩, i3⟩ := im
    rw [k1] at i1
    cases i1
    obtain ⟨dxt, fst, _, _, _, _, ht, _⟩ := sr.ex
    have zA := sl.sz
    have fa : ∀ {σ : L2.St} {H1 : Hp} {x : Str} {v : V}, σ[0]? = some (some (.ref m)) → Ex H H1 → x ∈ fldM → fs.lookup x = some v → Ev (tFld K (tVar 0) x) σ H1 v := fun h0 e hx l => ev_fld (ev_var h0) cfM.cl (cfM.no _ hx) (e _ _ k1) l
    have fb : ∀ {σ : L2.St} {H1 : Hp} {x : Str} {v : V}, σ[1]? = some (some (.ref n)) → Ex H H1 → x ∈ fldM → fs'.lookup x = some v → Ev (tFld K (tVar 1) x) σ H1 v := fun h0 e hx l => ev_fld (ev_var h0) cfM.cl (cfM.no _ hx) (e _ _ m1) l
    refine q_when (b := false) (et_is (et_not (et_B (ev_isO (ev_var rfl) m1 iT kit_self))) rfl) (fun z => nomatch z) (fun _ H1 e1 => ?_)
    have rT : RV (rOwnEq K CT (spSE K CT CT) true) (.ref t) (.ref t) H1 (.bl false) := fun H2 e2 Q1 q1 => ⟨t, t, CT, dxt, dxt, fst, fst, rfl, rfl, (e1.trans e2) _ _ ht, (e1.trans e2) _ _ ht, .inl rfl, t, t, G, G, J2, T2, J2, T2, l2, h2, l2, h2, rfl, sr.ext (e1.trans e2), sr.ext (e1.trans e2), oG, oG, fun H3 e3 => ⟨true, by rw [scEqB_self oG (wf_ok oG sr.wj) (wf_ok oG sr.wt)], q1 H3 e3⟩⟩
    refine q_when (b := false) (et_test (ev_op (fa rfl e1 (by decide) k3) (fb rfl e1 (by decide) m2) rT)) (fun z => nomatch z) (fun _ H2 e2 => ?_)
    have e02 := e1.trans e2
    have im : ∀ x ∈ A, leadF A is x ∈ G := fun x hx => by
      obtain ⟨_, _, kk⟩ := k5
      exact (kk x hx).2
    have im2 : ∀ x ∈ G, ψ x ∈ U := fun x hx => by
      obtain ⟨_, _, kk⟩ := m5
      exact (kk x hx).2
    cases i3 with
    | @tup p xs _ hs ha =>
      have ex := strs_of ha
      subst ex
      refine mk_map (Q := Q) (B := is.map ψ) (fa rfl e02 (by decide) k2) (fb rfl e02 (by decide) m3) (el_mapTu (f := ψ) (fa rfl e02 (by decide) i2) (ex_t e02 hs) (by omega) (fun _ => rfl) fun x H3 e3 hx => ?_) (sl.ext e02) (su.ext e02) (by rw [List.length_map, li]) (fun x hx => ?_) (keeps_comp li kp kp2 im sl.wj sl.wt sl.lo sl.hi) fun r H4 n4 e4 mp ip => q r H4 (fresh_back e02 n4) (e02.trans e4) mp ip
      · exact ev_lead (fb rfl (e02.trans e3) (by decide) m4) (m5.ext (e02.trans e3)) (mi x hx) (ev_var rfl)
      · obtain ⟨y, hy, rfl⟩ := List.mem_map.mp hx
        exact im2 y (mi y hy)
end
end K06

set_option Elab.async false
set_option linter.all false
set_option maxRecDepth 100000
set_option maxHeartbeats 1000000
/-! Y4: two loops, one in the other, that return the first pair; keeps_only. -/
namespace S
open PySem PySem.Spec PyProof.Rows L2 Evl J ClX StX
/-- the first pair, row by row -/
def firstP (A : List Str) (bad : Str → Str → Bool) : Option (Str × Str) := (A.flatMap fun a => A.map fun b => (a, b)).find? fun p => bad p.1 p.2
def optD : Option (Str × Str) → PyData
  | none => .none
  | some (a, b) => .tuple [.str a, .str b]
theorem firstP_none {A : List Str} {bad : Str → Str → Bool} (h : ∀ a ∈ A, ∀ b ∈ A, bad a b = false) : firstP A bad = none := by
  unfold firstP
  rw [List.find?_eq_none]
  intro p hp
  obtain ⟨a, ha, h1⟩ := List.mem_flatMap.mp hp
  obtain ⟨b, hb, rfl⟩ := List.mem_map.mp h1
  rw [h a ha b hb]
  simp
theorem split_at {α : Type} {l : List α} {i : Nat} {a : α} (h : l[i]? = some a) : l = l.take i ++ a :: l.drop (i + 1) := by
  obtain ⟨h1, h2⟩ := List.getElem?_eq_some_iff.mp h
  subst h2
  rw [List.getElem_cons_drop h1, List.take_append_drop]
theorem firstP_some {A : List Str} {bad : Str → Str → Bool} {i j : Nat} {a b : Str} (ha : A[i]? = some a) (hb : A[j]? = some b) (h1 : ∀ x ∈ A.take i, ∀ y ∈ A, bad x y = false) (h2 : ∀ y ∈ A.take j, bad a y = false) (h : bad a b = true) : firstP A bad = some (a, b) := by
  unfold firstP
  have e1 : (A.flatMap fun a => A.map fun b => (a, b)) = ((A.take i).flatMap fun a => A.map fun b => (a, b)) ++ ((A.map fun b => (a, b)) ++ ((A.drop (i + 1)).flatMap fun a => A.map fun b => (a, b))) := by
    conv => lhs; arg 2; rw [split_at ha]
    rw [List.flatMap_append, List.flatMap_cons]
  have e2 : (A.map fun b => (a, b)) = ((A.take j).map fun b => (a, b)) ++ ((a, b) :: (A.drop (j + 1)).map fun b => (a, b)) := by
    conv => lhs; rw [split_at hb]
    rw [List.map_append, List.map_cons]
  rw [e1, List.find?_append, List.find?_append]
  have n1 : List.find? (fun p : Str × Str => bad p.1 p.2) ((A.take i).flatMap fun a => A.map fun b => (a, b)) = none := by
    rw [List.find?_eq_none]
    intro p hp
    obtain ⟨x, hx, h3⟩ := List.mem_flatMap.mp hp
    obtain ⟨y, hy, rfl⟩ := List.mem_map.mp h3
    rw [h1 x hx y hy]
    simp
  have n2 : List.find? (fun p : Str × Str => bad p.1 p.2) ((A.take j).map fun b => (a, b)) = none := by
    rw [List.find?_eq_none]
    intro p hp
    obtain ⟨y, hy, rfl⟩ := List.mem_map.mp hp
    rw [h2 y hy]
    simp
  rw [n1, e2, List.find?_append, n2, List.find?_cons]
  simp [h]
/-- a list, new or not -/
def EvX (K : PySem.W.Frag) (te : TE) (σ : L2.St) (H : Hp) (xs : List V) : Prop := ∀ H1, Ex H H1 → ∀ Q : VK, (∀ p H2, Ex H1 H2 → SqL K H2 p xs → Q (.ref p) H2) → te σ H1 Q
section
variable {K : PySem.W.Frag} {σ : L2.St} {H : Hp} {te tl : TE} {xs : List V} {D : Ends} {tu : TS} {j : Nat} {tz : TS}
theorem ex_of (h : EvL te σ H xs) : EvX K te σ H xs := fun H1 e Q q => h H1 e Q fun p H2 _ e2 h2 => q p H2 e2 (sq_of h2)
theorem ex_var {p : Addr} (h : Ev te σ H (.ref p)) (hp : SqL K H p xs) : EvX K te σ H xs := fun H1 e Q q => h H1 e Q fun H2 e2 => q p H2 e2 (ex_l (e.trans e2) hp)
theorem s_forX (h : EvX K tl σ H xs) (Pv : Addr → Nat → L2.St → Hp → Prop) (h0 : ∀ p H1, Ex H H1 → SqL K H1 p xs → Pv p 0 σ H1) (hl : ∀ p i σ' H', i ≤ xs.length → Pv p i σ' H' → SqL K H' p xs)
    (hs : ∀ p i x σ' H', xs[i]? = some x → Pv p i σ' H' → tu { D with nx := Pv p (i + 1), ct := Pv p (i + 1), bk := D.nx } (σ'.set j (some x)) H') (hd : ∀ p σ' H', Pv p xs.length σ' H' → D.nx σ' H') : tFor (iList K tl) (gName j) tu D σ H :=
  h H (Ex.refl H) _ fun p H1 e h1 => ⟨p, rfl, ⟨xs, h1⟩, for_list (Pv p) (h0 p H1 e h1) (hl p) (hs p) (hd p)⟩
theorem set_l {pre : L2.St} {x y z : Option V} : (pre ++ [x, y]).set pre.length z = pre ++ [z, y] := by simp
theorem set_r {pre : L2.St} {x y z : Option V} : (pre ++ [x, y]).set (pre.length + 1) z = pre ++ [x, z] := by
  rw [List.set_append_right _ _ (by omega)]
  simp
/-- for a in A: for b in A: if bad: return .. -/
theorem q_first {pre : L2.St} {x y : Option V} {A : List Str} {bad : Str → Str → Bool} {tt : TT} {te tl tl2 : TE} {i j : Nat} (ei : i = pre.length) (ej : j = pre.length + 1) (L1 : EvX K tl (pre ++ [x, y]) H (A.map V.str)) (L2 : ∀ a y H1, Ex H H1 → a ∈ A → EvX K tl2 (pre ++ [some (.str a), y]) H1 (A.map V.str))
    (ht : ∀ a b H1, Ex H H1 → a ∈ A → b ∈ A → EvT tt (pre ++ [some (.str a), some (.str b)]) H1 (bad a b))
    (hr : ∀ a b H1, Ex H H1 → a ∈ A → b ∈ A → firstP A bad = some (a, b) → te (pre ++ [some (.str a), some (.str b)]) H1 D.rt)
    (k : ∀ y3 y4 H1, Ex H H1 → firstP A bad = none → tz D (pre ++ [y3, y4]) H1) :
    tSeq (tFor (iList K tl) (gName i) (tFor (iList K tl2) (gName j) (tIfS tt (tRet te) tNext))) tz D (pre ++ [x, y]) H := by
  subst ei ej
  have mem : ∀ (i : Nat) (x : V), (A.map V.str)[i]? = some x → ∃ a, x = .str a ∧ A[i]? = some a := fun i x h => by
    rw [List.getElem?_map] at h
    cases e : A[i]? with
    | none =>
      rw [e] at h
      cases h
    | some a =>
      rw [e] at h
      exact ⟨a, (Option.some.inj h).symm, rfl⟩
  have take_all : ∀ (i : Nat) (a : Str) (p : Str → Prop), A[i]? = some a → (∀ x ∈ A.take i, p x) → p a → ∀ x ∈ A.take (i + 1), p x := fun i a p e h1 h2 x hx => by
    rw [List.take_add_one, e] at hx
    rcases List.mem_append.mp hx with z | z
    · exact h1 x z
    · have z2 : x = a := by simpa using z
      rw [z2]
      exact h2
  refine s_forX (D := { D with nx := tz D }) L1 (fun p i σ' H' => ∃ y3 y4, σ' = pre ++ [y3, y4] ∧ Ex H H' ∧ SqL K H' p (A.map V.str) ∧ ∀ a ∈ A.take i, ∀ b ∈ A, bad a b = false)
    (fun p H1 e1 h1 => ⟨_, _, rfl, e1, h1, fun a ha => by simp at ha⟩) (fun p i σ' H' _ ⟨_, _, _, _, h, _⟩ => h) ?_ ?_
  · rintro p i x σ' H1 hx ⟨y3, y4, rfl, e1, h1, al⟩
    obtain ⟨a, rfl, ha⟩ := mem i x hx
    have ma := List.mem_of_getElem? ha
    rw [set_l]
    refine s_forX (L2 a y4 H1 e1 ma) (fun p2 j σ' H' => ∃ y4, σ' = pre ++ [some (.str a), y4] ∧ Ex H1 H' ∧ SqL K H' p2 (A.map V.str) ∧ ∀ b ∈ A.take j, bad a b = false)
      (fun p2 H2 e2 h2 => ⟨_, rfl, e2, h2, fun b hb => by simp at hb⟩) (fun p2 j σ' H' _ ⟨_, _, _, h, _⟩ => h) ?_ ?_
    · rintro p2 j y σ' H2 hy ⟨y4', rfl, e2, h2, bl⟩
      obtain ⟨b, rfl, hb⟩ := mem j y hy
      have mb := List.mem_of_getElem? hb
      have e12 := e1.trans e2
      rw [set_r]
      refine s_when (b := bad a b) (ht a b H2 e12 ma mb) (fun z H3 e3 => hr a b H3 (e12.trans e3) ma mb (firstP_some ha hb al bl z)) (fun z H3 e3 => ⟨_, rfl, e2.trans e3, ex_l e3 h2, take_all j b (fun b => bad a b = false) hb bl z⟩)
    · rintro p2 σ' H2 ⟨y4', rfl, e2, h2, bl⟩
      rw [List.length_map, List.take_length] at bl
      exact ⟨_, _, rfl, e1.trans e2, ex_l e2 h1, take_all i a (fun a => ∀ b ∈ A, bad a b = false) ha al bl⟩
  · rintro p σ' H1 ⟨y3, y4, rfl, e1, h1, al⟩
    rw [List.length_map, List.take_length] at al
    exact k y3 y4 H1 e1 (firstP_none al)
end
end S

set_option Elab.async false
set_option linter.all false
set_option maxRecDepth 100000
set_option maxHeartbeats 1000000
/-! Y5: keeps_only. -/
namespace K06
open PySem PySem.Spec PyProof.Rows L2 Evl J ClX StX S D
open K13 (EvD ed_ev ed_var da_cons da_nil ed_tup)
abbrev sKO : Stmt := topS 21
section
variable {K : PySem.W.Frag} {σ : L2.St} {H : Hp} {CS CT CM C a mo s t : Addr} {te tx ty : TE} {A G : List Str} {J T : List (List Str)} {lo hi x y : Str} {φ : Str → Str}
theorem ev_onlyA (h : Ev te σ H (.ref a)) (md : Made K C H a G J T lo hi) (mx : x ∈ G) (my : y ∈ G) (hx : Ev tx σ H (.str x)) (hy : Ev ty σ H (.str y)) : Ev (tMeth C "only" (spRes K C true) [] E0 te (tCons tx (tCons ty tNil))) σ H (.str (onlyOf G J T lo x y)) := by
  obtain ⟨dx, fs, g, d, j, t, h1, h2, h3, h4, h5, h6, h7, h8, h9, h10, h11, hm⟩ := md.sc.ex
  exact ev_mcal h (ea_cons hx (ea_cons hy ea_nil)) h1 (hm _ (by decide)) fun H1 e Q q => ⟨a, x, y, G, J, T, lo, hi, rfl, md.ext e, mx, my, q⟩
theorem ev_map (h : Ev te σ H (.ref mo)) (ma : MapAt CM H mo s t A G φ) (sc : ScAt K CS H s A J T lo hi) (mx : x ∈ A) (hx : Ev tx σ H (.str x)) : Ev (tObj CM (spMC K CS CM) E0 te (tCons tx tNil)) σ H (.str (φ x)) := fun H1 e Q q =>
  h H1 e _ fun H2 e2 => ⟨mo, rfl, hx H2 (e.trans e2) _ fun H3 e3 => by
    have e03 := (e.trans e2).trans e3
    have ma3 := ma.ext e03
    obtain ⟨dx, d, fs, k1, k2⟩ := ma3
    exact ⟨⟨dx, fs, k1⟩, mo, s, t, x, A, G, J, T, lo, hi, φ, rfl, ma.ext e03, sc.ext e03, mx, fun H4 e4 => q H4 ((e2.trans e3).trans e4)⟩⟩
end
def koBad (A G : List Str) (J1 T1 : List (List Str)) (l1 : Str) (J2 T2 : List (List Str)) (l2 : Str) (φ : Str → Str) (a b : Str) : Bool := !decide ((V.str (φ (onlyOf A J1 T1 l1 a b))) = V.str (onlyOf G J2 T2 l2 (φ a) (φ b)))
def spKO (K : PySem.W.Frag) (CS CT CM : Addr) : Sp := fun vs H Q _ => ∃ (m s t : Addr) (A G : List Str) (J1 T1 J2 T2 : List (List Str)) (l1 h1 l2 h2 : Str) (φ : Str → Str), vs = [.ref m] ∧ MapAt CM H m s t A G φ ∧ Made K CS H s A J1 T1 l1 h1 ∧ Made K CT H t G J2 T2 l2 h2 ∧
  ∀ v H', Ex H H' → Dp K H' v (optD (firstP A (koBad A G J1 T1 l1 J2 T2 l2 φ))) → Q v H'
theorem scKO : FnScope ["m", "a", "b"] ["m"] (defScope sKO) := ⟨rfl, rfl, rfl, by decide +kernel, rfl, by decide +kernel, by decide +kernel⟩
section
variable {P : Program} {w : World} {K : PySem.W.Frag} {mg : Str → Option Value} {base : Heap} {f fC CS CT CM : Addr} {fd fdC : FuncData}
theorem ok_ko (F : FnP K "keeps_only" sKO f fd) (cfM : ClsF K CM fldM) (MC : CallO K CM fC) (hbC : Binds K fdC ["self", "grade"] []) (FC : FnOk P w K mg base CX0 2 fC fdC ["self", "grade"] (spMC K CS CM)) (cG : MCal P w K mg base CX0 1 CS "grades" ["self"] (spGrades K CS)) (cOS : MCal P w K mg base CX0 3 CS "only" ["self", "a", "b"] (spRes K CS true)) (cOT : MCal P w K mg base CX0 3 CT "only" ["self", "a", "b"] (spRes K CT true)) :
    FnOk P w K mg base CX0 4 f fd ["m"] (spKO K CS CT CM) := by
  refine F.ok scKO (fun vs H Q E h => ?_) (fun cdv A0 outer s0 H vs Q E hr h => ?_)
  · obtain ⟨m, s, t, A, G, J1, T1, J2, T2, l1, h1, l2, h2, φ, rfl, _⟩ := h
    rfl
  · obtain ⟨m, s, t, A, G, J1, T1, J2, T2, l1, h1, l2, h2, φ, rfl, mm, sl, sr, q⟩ := h
    have hr1 : Room 1 (A0.deeper (envOfC "keeps_only" (defScope sKO) s0.heap.objs.size f cdv)) := hr.mono (by decide)
    have hr2 : Room 2 (A0.deeper (envOfC "keeps_only" (defScope sKO) s0.heap.objs.size f cdv)) := hr.mono (by decide)
    refine ⟨_, PSs.nox (pss_cons (ps_for PassesOwn.never rfl (pi_list (pe_mcal0 cG (pe_fld (pv 0) rfl) hr1 pass0)) (pg_name (i := 1) scKO.nd rfl (Or.inl rfl)) (pss_one (ps_for PassesOwn.never rfl (pi_list (pe_mcal0 cG (pe_fld (pv 0) rfl) hr1 pass0)) (pg_name (i := 2) scKO.nd rfl (Or.inl rfl))
        (pss_one (ps_if (pt_cmpR op_ne (pe_obj (pv 0) MC FC hbC hr2 pass0 (pa_cons (pe_mcal cOS (pe_fld (pv 0) rfl) hr pass0 (pa_cons (pv 1) (pa_cons (pv 2) pa_nil))) pa_nil)) (pe_mcal cOT (pe_fld (pv 0) rfl) hr pass0 (pa_cons (pe_obj (pv 0) MC FC hbC hr2 pass0 (pa_cons (pv 1) pa_nil)) (pa_cons (pe_obj (pv 0) MC FC hbC hr2 pass0 (pa_cons (pv 2) pa_nil)) pa_nil))) (nomark _))
          (pss_one (ps_ret (pe_tup (pa_cons (pv 1) (pa_cons (pv 2) pa_nil))))) pss_nil)))))
      (pss_one (ps_ret pe_non))), ?_⟩
    have mm0 := mm
    obtain ⟨dx, d, fs, k1, k2, k3, k4, k5⟩ := mm
    have fa : ∀ {σ : L2.St} {H1 : Hp} {x : Str} {v : V}, σ[0]? = some (some (.ref m)) → Ex H H1 → x ∈ fldM → fs.lookup x = some v → Ev (tFld K (tVar 0) x) σ H1 v := fun h0 e hx l => ev_fld (ev_var h0) cfM.cl (cfM.no _ hx) (e _ _ k1) l
    have im : ∀ x ∈ A, φ x ∈ G := fun x hx => by
      obtain ⟨_, _, kk⟩ := k5
      exact (kk x hx).2
    have S1om : ∀ a b, a ∈ A → b ∈ A → onlyOf A J1 T1 l1 a b ∈ A := fun a b _ _ => only_in sl.sc.wj sl.sc.lo
    refine q_first (pre := [some (.ref m)]) (bad := koBad A G J1 T1 l1 J2 T2 l2 φ) (A := A) rfl rfl (ex_of (el_gradesA (fa rfl (Ex.refl H) (by decide) k2) sl.sc)) (fun a y H1 e1 ha => ex_of (el_gradesA (fa rfl e1 (by decide) k2) (sl.sc.ext e1)))
      (fun a b H1 e1 ha hb => et_test (ev_op (ev_map (ev_var rfl) (mm0.ext e1) (sl.sc.ext e1) (S1om a b ha hb) (ev_onlyA (fa rfl e1 (by decide) k2) (sl.ext e1) ha hb (ev_var rfl) (ev_var rfl)))
        (ev_onlyA (fa rfl e1 (by decide) k3) (sr.ext e1) (im a ha) (im b hb) (ev_map (ev_var rfl) (mm0.ext e1) (sl.sc.ext e1) ha (ev_var rfl)) (ev_map (ev_var rfl) (mm0.ext e1) (sl.sc.ext e1) hb (ev_var rfl))) (rv_ne rfl)))
      (fun a b H1 e1 ha hb fp => ?_) (fun y3 y4 H1 e1 fp => ?_)
    · refine (ed_tup (da_cons (ed_ev (ev_var rfl) (.str a)) (da_cons (ed_ev (ev_var rfl) (.str b)) da_nil)) (by simp) : EvD K _ _ H1 (.tuple [.str a, .str b])) H1 (Ex.refl H1) _ fun v H2 e2 dp => q v H2 (e1.trans e2) (by rw [fp]; exact dp)
    · exact s_ret ev_c fun H2 e2 => q _ _ (e1.trans e2) (by rw [fp]; exact .non)
end
end K06

set_option Elab.async false
set_option linter.all false
set_option maxRecDepth 100000
set_option maxHeartbeats 8000000
/-! Y6: what is told, read: _law_join, _law_then, _law_rows_of, _law_within, _law_joined, _law_only. -/
namespace K06
open PySem PySem.Spec PyProof.Rows L2 Evl J ClX StX S D
/-- what is told, whatever the names are -/
structure GoodW (G : List Str) (J T : List (List Str)) (lo hi : Str) : Prop where
  nd : G.Nodup
  z1 : 1 ≤ G.length
  z8 : G.length ≤ 8
  wj : Wf G J
  wt : Wf G T
  lo : lo ∈ G
  hi : hi ∈ G
structure TolW (K : PySem.W.Frag) (H : Hp) (d : Addr) (G : List Str) (J T : List (List Str)) (lo hi : Str) : Prop where
  ex : ∃ (kvs : List (Key × V)) (ln : Addr) (vj vt : V), H d = some (.dK kvs) ∧ valV kvs (Sum.inr "names") = some (.ref ln) ∧ SqL K H ln (G.map V.str) ∧ valV kvs (Sum.inr "joins") = some vj ∧ Dp K H vj (rowsL J) ∧ valV kvs (Sum.inr "products") = some vt ∧ Dp K H vt (rowsL T) ∧
    valV kvs (Sum.inr "low") = some (.str lo) ∧ valV kvs (Sum.inr "high") = some (.str hi)
  gd : GoodW G J T lo hi
theorem TolW.ext {K : PySem.W.Frag} {H H' : Hp} {d : Addr} {G : List Str} {J T : List (List Str)} {lo hi : Str} (h : TolW K H d G J T lo hi) (e : Ex H H') : TolW K H' d G J T lo hi := by
  obtain ⟨kvs, ln, vj, vt, h1, h2, h3, h4, h5, h6, h7, h8, h9⟩ := h.ex
  exact ⟨⟨kvs, ln, vj, vt, e _ _ h1, h2, ex_l e h3, h4, dp_ext e h5, h6, dp_ext e h7, h8, h9⟩, h.gd⟩
theorem TolW.of {K : PySem.W.Frag} {H : Hp} {d : Addr} {G : List Str} {J T : List (List Str)} {lo hi : Str} (h : ToldAt K H d G J T lo hi) : TolW K H d G J T lo hi := ⟨h.ex, h.gd.nd, h.gd.z1, h.gd.z8, h.gd.wj, h.gd.wt, h.gd.lo, h.gd.hi⟩
def spLJw (K : PySem.W.Frag) (then_ : Bool) : Sp := fun vs H Q _ => ∃ (d : Addr) (x y : Str) (G : List Str) (J T : List (List Str)) (lo hi : Str), vs = [.ref d, .str x, .str y] ∧ TolW K H d G J T lo hi ∧ x ∈ G ∧ y ∈ G ∧ RetV (.str (ap G (if then_ then T else J) x y)) H Q
abbrev sLJ : Stmt := topS 50
abbrev sLT : Stmt := topS 51
abbrev sRo : Stmt := topS 57
section
variable {P : Program} {w : World} {K : PySem.W.Frag} {mg : Str → Option Value} {base : Heap} {f : Addr} {fd : FuncData}
theorem scLj : FnScope NLj ["_law_told_here", "_law_a", "_law_b"] (defScope sLJ) := ⟨rfl, rfl, rfl, by decide +kernel, rfl, by decide +kernel, by decide +kernel⟩
theorem scLt : FnScope NLj ["_law_told_here", "_law_a", "_law_b"] (defScope sLT) := ⟨rfl, rfl, rfl, by decide +kernel, rfl, by decide +kernel, by decide +kernel⟩
theorem ok_lj (F : FnP K "_law_join" sLJ f fd) : FnOk P w K mg base CX0 1 f fd ["_law_told_here", "_law_a", "_law_b"] (spLJw K false) := by
  refine F.ok scLj (fun vs H Q E h => ?_) (fun cdv A outer s H vs Q E hr h => ?_)
  · obtain ⟨d, x, y, G, J, T, lo, hi, rfl, _⟩ := h
    rfl
  · obtain ⟨d, x, y, G, J, T, lo, hi, rfl, td, hx, hy, q⟩ := h
    have hu : (A.deeper (envOfC "_law_join" (defScope sLJ) s.heap.objs.size f cdv)).units + 1 < cLine := by
      have := hr.un
      omega
    refine ⟨_, pss_one (ps_ret (pe_ix ix_list (pe_ix ix_list (pe_dget hu (pv 0) pe_str (fun _ _ => rfl)) (pe_bm PySem.F.plainAttrs_list PySem.F.slot_list_index PySem.F.type_list_index mt_index (pe_dget hu (pv 0) pe_str (fun _ _ => rfl)) (pa_cons (pv 1) pa_nil)) (fun _ _ => rfl)) (pe_bm PySem.F.plainAttrs_list PySem.F.slot_list_index PySem.F.type_list_index mt_index (pe_dget hu (pv 0) pe_str (fun _ _ => rfl)) (pa_cons (pv 2) pa_nil)) (fun _ _ => rfl))), ?_⟩
    obtain ⟨kvs, ln, vj, vt, h1, h2, h3, h4, h5, h6, h7, h8, h9⟩ := td.ex
    obtain ⟨p, r, ys, zs, rfl, t1, t2, t3, t4⟩ := rows_at td.gd.wj h5 hx hy
    have nm : Ev (tDGet (tVar 0) (tC (.str "names"))) [some (V.ref d), some (V.str x), some (V.str y)] H (.ref ln) := ev_dget (key := Sum.inr "names") (ev_var rfl) ev_c h1 h2
    exact s_ret (ev_op (ev_op (ev_dget (key := Sum.inr "joins") (ev_var rfl) ev_c h1 h4) (ev_index nm h3 (ev_var rfl) hx) (rv_ixL t1 t2)) (ev_index nm h3 (ev_var rfl) hy) (rv_ixL t3 t4)) fun H2 e2 => q H2 e2
theorem ok_lt (F : FnP K "_law_then" sLT f fd) : FnOk P w K mg base CX0 1 f fd ["_law_told_here", "_law_a", "_law_b"] (spLJw K true) := by
  refine F.ok scLt (fun vs H Q E h => ?_) (fun cdv A outer s H vs Q E hr h => ?_)
  · obtain ⟨d, x, y, G, J, T, lo, hi, rfl, _⟩ := h
    rfl
  · obtain ⟨d, x, y, G, J, T, lo, hi, rfl, td, hx, hy, q⟩ := h
    have hu : (A.deeper (envOfC "_law_then" (defScope sLT) s.heap.objs.size f cdv)).units + 1 < cLine := by
      have := hr.un
      omega
    refine ⟨_, pss_one (ps_ret (pe_ix ix_list (pe_ix ix_list (pe_dget hu (pv 0) pe_str (fun _ _ => rfl)) (pe_bm PySem.F.plainAttrs_list PySem.F.slot_list_index PySem.F.type_list_index mt_index (pe_dget hu (pv 0) pe_str (fun _ _ => rfl)) (pa_cons (pv 1) pa_nil)) (fun _ _ => rfl)) (pe_bm PySem.F.plainAttrs_list PySem.F.slot_list_index PySem.F.type_list_index mt_index (pe_dget hu (pv 0) pe_str (fun _ _ => rfl)) (pa_cons (pv 2) pa_nil)) (fun _ _ => rfl))), ?_⟩
    obtain ⟨kvs, ln, vj, vt, h1, h2, h3, h4, h5, h6, h7, h8, h9⟩ := td.ex
    obtain ⟨p, r, ys, zs, rfl, t1, t2, t3, t4⟩ := rows_at td.gd.wt h7 hx hy
    have nm : Ev (tDGet (tVar 0) (tC (.str "names"))) [some (V.ref d), some (V.str x), some (V.str y)] H (.ref ln) := ev_dget (key := Sum.inr "names") (ev_var rfl) ev_c h1 h2
    exact s_ret (ev_op (ev_op (ev_dget (key := Sum.inr "products") (ev_var rfl) ev_c h1 h6) (ev_index nm h3 (ev_var rfl) hx) (rv_ixL t1 t2)) (ev_index nm h3 (ev_var rfl) hy) (rv_ixL t3 t4)) fun H2 e2 => q H2 e2
theorem scRo : FnScope NRo ["_law_names", "_law_many"] (defScope sRo) := ⟨rfl, rfl, rfl, by decide +kernel, rfl, by decide +kernel, by decide +kernel⟩
def spRo (K : PySem.W.Frag) : Sp := fun vs H Q _ => ∃ (lg : Addr) (G : List Str) (n : Nat), vs = [.ref lg, .int (n : Int)] ∧ SqL K H lg (G.map V.str) ∧ n ≤ 4 ∧ G.length ≤ 4 ∧ ∀ p H' acc, H p = none → Ex H H' → H' p = some (.lst acc) → RowsAt H' acc (tups G n) → Q (.ref p) H'
theorem ok_ro (F : FnP K "_law_rows_of" sRo f fd) (T : Bl mg) : FnOk P w K mg base CX0 1 f fd ["_law_names", "_law_many"] (spRo K) := by
  refine F.ok scRo (fun vs H Q E h => ?_) (fun cdv A outer s H vs Q E hr h => ?_)
  · obtain ⟨lg, G, n, rfl, _⟩ := h
    rfl
  · obtain ⟨lg, G, n, rfl, sg, hn, hz, q⟩ := h
    refine ⟨_, PSs.nox (pss_cons (ps_set (i := 2) scRo.nd rfl (Or.inl rfl) (pe_lst (pa_cons (pe_tup pa_nil) pa_nil))) (pss_cons (ps_for PassesOwn.never rfl (pi_range1 rfl T.rng (pa_cons (pv 1) pa_nil)) (pg_name (i := 3) scRo.nd rfl (Or.inl rfl))
      (pss_cons (ps_set (i := 4) scRo.nd rfl (Or.inl rfl) (pe_lst pa_nil)) (pss_cons (ps_for PassesOwn.never rfl (pi_list (pv 2)) (pg_name (i := 5) scRo.nd rfl (Or.inr rfl))
        (pss_one (ps_set (i := 4) scRo.nd rfl (Or.inl rfl) (pe_op op_cat (pv 4) (pe_lc (own := [("_law_name", 6)]) (g := gName 6) (tt := tYes) (te := teR K) rfl scRo.nd (pi_list (pv 0)) (blkOk_by (N := NRo) (sc := defScope sRo) (by decide +kernel)) (fun _ _ _ _ _ => pg_name (i := 6) scRo.nd rfl (Or.inl rfl)) (fun _ _ _ _ _ => pts_nil) (fun _ _ _ _ _ => by exact pe_op op_catA (pv 5) (pe_tup (pa_cons (pv 6) pa_nil))))))))
        (pss_one (ps_set (i := 2) scRo.nd rfl (Or.inl rfl) (pv 4)))))) (pss_one (ps_ret (pv 2))))), ?_⟩
    refine ⟨sz_of (by simp), fun t ht => ⟨sz_of (by simp), fun l hl => ?_⟩⟩
    have e1 : Ex H (upd (upd H t (.tup [])) l (.lst [.ref t])) := (Ex.new ht).trans (Ex.new hl)
    have nl : H l = none := fresh_back (Ex.new ht) hl
    have tl : t ≠ l := fun z => by
      rw [← z, upd_same] at hl
      cases hl
    have r1 : RowsAt (upd (upd H t (.tup [])) l (.lst [.ref t])) [.ref t] (tups G 0) := ⟨rfl, fun n r e => by
      match n, e with
      | 0, e =>
        obtain rfl := Option.some.inj e
        exact ⟨t, rfl, by rw [upd_ne tl, upd_same]; rfl⟩⟩
    have a1 : (upd (upd H t (.tup [])) l (.lst [.ref t])) l = some (.lst [.ref t]) := upd_same
    show tSeq _ _ _ _ (upd (upd H t (.tup [])) l (.lst [.ref t]))
    generalize upd (upd H t (.tup [])) l (.lst [.ref t]) = H1 at e1 r1 a1 ⊢
    refine q_forR1 (ea_cons (ev_var rfl) ea_nil) (by omega) (fun i σ' H' => ∃ p acc x3 x4 x5 x6, σ' = [some (.ref lg), some (.int (n : Int)), some (.ref p), x3, x4, x5, x6] ∧ H p = none ∧ Ex H H' ∧ H' p = some (.lst acc) ∧ RowsAt H' acc (tups G i)) (fun H2 e2 => ⟨l, _, _, _, _, _, rfl, nl, e1.trans e2, e2 _ _ a1, r1.keep fun t xs h => e2 _ _ h⟩) ?_ ?_
    · rintro i σ' H2 hi ⟨p, acc, x3, x4, x5, x6, rfl, np, e2, h2, r2⟩
      have i3 : i < 4 := by omega
      have ln : (tups G i).length ≤ 512 := by
        rw [tups_len]
        have a2 : G.length ^ i ≤ 4 ^ i := Nat.pow_le_pow_left hz i
        have a3 : (4 : Nat) ^ i ≤ 4 ^ 3 := Nat.pow_le_pow_right (by decide) (by omega)
        omega
      refine q_asgL (el_lst ea_nil (by simp)) fun l4 H3 n4 e3 h4 => ?_
      have e23 := e2.trans e3
      refine q_forLn (ev_var rfl) (sq_of (e3 _ _ h2)) (fun j σ' H' => ∃ q4 acc4 x5 x6, σ' = [some (.ref lg), some (.int (n : Int)), some (.ref p), some (.int (i : Int)), some (.ref q4), x5, x6] ∧ H q4 = none ∧ Ex H3 H' ∧ H' q4 = some (.lst acc4) ∧ RowsAt H' acc4 (((tups G i).take j).flatMap (ext1 G)))
        (fun H4 e4 => ⟨l4, _, _, _, rfl, fresh_back e2 n4, e4, e4 _ _ h4, rfl, fun n r e => by simp at e⟩) (fun j σ' H' _ ⟨_, _, _, _, _, _, e4, _⟩ => sq_of (e4 _ _ (e3 _ _ h2))) ?_ ?_
      · rintro j v σ' H4 hv ⟨q4, acc4, x5, x6, rfl, nq, e4, h4', r4⟩
        have hj : j < (tups G i).length := by
          rw [← r2.1]
          exact (List.getElem?_eq_some_iff.mp hv).1
        have hrj : (tups G i)[j]? = some (tups G i)[j] := List.getElem?_eq_getElem hj
        obtain ⟨tp, g1, g2⟩ := r2.2 j _ hrj
        rw [g1] at hv
        obtain rfl := Option.some.inj hv
        have len := (tups_mem (List.mem_of_getElem? hrj)).1
        have e24 := e23.trans e4
        have a4 : acc4.length ≤ 10000 := by
          rw [r4.1, flat_len, List.length_take]
          have b1 : min j (tups G i).length ≤ 512 := by omega
          have := Nat.mul_le_mul b1 hz
          omega
        refine ⟨.ref q4, rfl, lc_ext (Q := fun y H' => rCat (.ref q4) y H' fun v H'' => _) (ex_l e24 sg) (e4 _ _ (e3 _ _ g2)) (by omega) (by omega) fun D H5 acc5 n5 e5 h5 r5 => ⟨q4, D, acc4, acc5, rfl, rfl, e5 _ _ h4', h5, ?_, fun u hu => ?_⟩⟩
        · have : acc5.length ≤ 8 := by
            rw [r5.1]
            simp [ext1]
            exact Nat.le_trans hz (by decide)
          exact sz_of (by omega)
        · refine ⟨u, acc4 ++ acc5, _, _, rfl, fresh_back (e24.trans e5) hu, (e4.trans e5).trans (Ex.new hu), upd_same, ?_⟩
          rw [List.take_add_one, hrj, List.flatMap_append]
          have k1 := (r4.keep fun t xs h => e5 _ _ h).app r5
          have k2 := k1.keep (H' := upd H5 u (.lst (acc4 ++ acc5))) fun t xs h => (Ex.new hu) _ _ h
          simpa using k2
      · rintro σ' H4 ⟨q4, acc4, x5, x6, rfl, nq, e4, h4', r4⟩
        rw [r2.1, List.take_length] at r4
        exact s_asg (ev_var rfl) fun H5 e5 => ⟨q4, acc4, _, _, _, _, rfl, nq, (e23.trans e4).trans e5, e5 _ _ h4', r4.keep fun t xs h => e5 _ _ h⟩
    · rintro σ' H2 ⟨p, acc, x3, x4, x5, x6, rfl, np, e2, h2, r2⟩
      refine s_ret (ev_var rfl) fun H3 e3 => q p H3 acc np (e2.trans e3) (e3 _ _ h2) ?_
      have e : ((n : Int)).toNat = n := Int.toNat_natCast n
      rw [e] at r2
      exact r2.keep fun t xs h => e3 _ _ h
end
abbrev sLW : Stmt := topS 52
abbrev sLJd : Stmt := topS 53
abbrev sLO : Stmt := topS 54
def spLW (K : PySem.W.Frag) : Sp := fun vs H Q _ => ∃ (d : Addr) (x y : Str) (G : List Str) (J T : List (List Str)) (lo hi : Str), vs = [.ref d, .str x, .str y] ∧ TolW K H d G J T lo hi ∧ x ∈ G ∧ y ∈ G ∧ RetV (.bl (decide (ap G J x y = y))) H Q
def spLJd (K : PySem.W.Frag) : Sp := fun vs H Q _ => ∃ (d l : Addr) (xs G : List Str) (J T : List (List Str)) (lo hi : Str), vs = [.ref d, .ref l] ∧ TolW K H d G J T lo hi ∧ SqL K H l (xs.map V.str) ∧ (∀ x ∈ xs, x ∈ G) ∧ RetV (.str (xs.foldl (ap G J) lo)) H Q
def onlyF (G : List Str) (J T : List (List Str)) (lo a b : Str) : Str := (G.filter fun d => decide (ap G J (ap G T a d) b = b)).foldl (ap G J) lo
def spLO (K : PySem.W.Frag) : Sp := fun vs H Q _ => ∃ (d : Addr) (x y : Str) (G : List Str) (J T : List (List Str)) (lo hi : Str), vs = [.ref d, .str x, .str y] ∧ TolW K H d G J T lo hi ∧ x ∈ G ∧ y ∈ G ∧ RetV (.str (onlyF G J T lo x y)) H Q
abbrev NJdL : List Str := ["_law_told_here", "_law_row", "_law_found", "_law_grade"]
abbrev NLO : List Str := ["_law_told_here", "_law_a", "_law_b", "_law_d"]
theorem scLW : FnScope NLj ["_law_told_here", "_law_a", "_law_b"] (defScope sLW) := ⟨rfl, rfl, rfl, by decide +kernel, rfl, by decide +kernel, by decide +kernel⟩
theorem scLJd : FnScope NJdL ["_law_told_here", "_law_row"] (defScope sLJd) := ⟨rfl, rfl, rfl, by decide +kernel, rfl, by decide +kernel, by decide +kernel⟩
theorem scLO : FnScope NLO ["_law_told_here", "_law_a", "_law_b"] (defScope sLO) := ⟨rfl, rfl, rfl, by decide +kernel, rfl, by decide +kernel, by decide +kernel⟩
section
variable {K : PySem.W.Frag} {σ : L2.St} {H : Hp} {d : Addr} {te tx ty : TE} {G : List Str} {J T : List (List Str)} {lo hi x y : Str} {b : Bool}
theorem ev_ljA (h : Ev te σ H (.ref d)) (td : TolW K H d G J T lo hi) (mx : x ∈ G) (my : y ∈ G) (hx : Ev tx σ H (.str x)) (hy : Ev ty σ H (.str y)) : Ev (tCall (spLJw K b) [] E0 (tCons te (tCons tx (tCons ty tNil)))) σ H (.str (ap G (if b then T else J) x y)) :=
  ev_call (ea_cons h (ea_cons hx (ea_cons hy ea_nil))) fun H1 e Q q E => ⟨d, x, y, G, J, T, lo, hi, rfl, td.ext e, mx, my, q⟩
theorem ev_lwA (h : Ev te σ H (.ref d)) (td : TolW K H d G J T lo hi) (mx : x ∈ G) (my : y ∈ G) (hx : Ev tx σ H (.str x)) (hy : Ev ty σ H (.str y)) : Ev (tCall (spLW K) [] E0 (tCons te (tCons tx (tCons ty tNil)))) σ H (.bl (decide (ap G J x y = y))) :=
  ev_call (ea_cons h (ea_cons hx (ea_cons hy ea_nil))) fun H1 e Q q E => ⟨d, x, y, G, J, T, lo, hi, rfl, td.ext e, mx, my, q⟩
theorem ev_loL (h : Ev te σ H (.ref d)) (td : TolW K H d G J T lo hi) (mx : x ∈ G) (my : y ∈ G) (hx : Ev tx σ H (.str x)) (hy : Ev ty σ H (.str y)) : Ev (tCall (spLO K) [] E0 (tCons te (tCons tx (tCons ty tNil)))) σ H (.str (onlyF G J T lo x y)) :=
  ev_call (ea_cons h (ea_cons hx (ea_cons hy ea_nil))) fun H1 e Q q E => ⟨d, x, y, G, J, T, lo, hi, rfl, td.ext e, mx, my, q⟩
theorem fold_mem {xs : List Str} (w : Wf G J) (hx : x ∈ G) (h : ∀ y ∈ xs, y ∈ G) : xs.foldl (ap G J) x ∈ G := by
  induction xs generalizing x with
  | nil => exact hx
  | cons a r ih => exact ih (ap_mem w hx (h a List.mem_cons_self)) fun y hy => h y (List.mem_cons_of_mem _ hy)
end
section
variable {P : Program} {w : World} {K : PySem.W.Frag} {mg : Str → Option Value} {base : Heap} {f : Addr} {fd : FuncData}
theorem ok_lw (F : FnP K "_law_within" sLW f fd) (cJ : Cal P w K mg base CX0 1 "_law_join" ["_law_told_here", "_law_a", "_law_b"] (spLJw K false)) : FnOk P w K mg base CX0 2 f fd ["_law_told_here", "_law_a", "_law_b"] (spLW K) := by
  refine F.ok scLW (fun vs H Q E h => ?_) (fun cdv A outer s H vs Q E hr h => ?_)
  · obtain ⟨d, x, y, G, J, T, lo, hi, rfl, _⟩ := h
    rfl
  · obtain ⟨d, x, y, G, J, T, lo, hi, rfl, td, hx, hy, q⟩ := h
    refine ⟨_, pss_one (ps_ret (pe_cmpR op_eq (pe_cal cJ hr rfl pass0 (pa_cons (pv 0) (pa_cons (pv 1) (pa_cons (pv 2) pa_nil)))) (pv 2) (nomark _))), ?_⟩
    exact s_ret (ev_is (ev_op (ev_ljA (b := false) (ev_var rfl) td hx hy (ev_var rfl) (ev_var rfl)) (ev_var rfl) (rv_eq rfl)) (by congr 1; exact decide_eq_decide.mpr ⟨fun z => V.str.inj z, fun z => congrArg V.str z⟩)) fun H2 e2 => q H2 e2
theorem ok_ljd (F : FnP K "_law_joined" sLJd f fd) (cJ : Cal P w K mg base CX0 1 "_law_join" ["_law_told_here", "_law_a", "_law_b"] (spLJw K false)) : FnOk P w K mg base CX0 2 f fd ["_law_told_here", "_law_row"] (spLJd K) := by
  refine F.ok scLJd (fun vs H Q E h => ?_) (fun cdv A outer s H vs Q E hr h => ?_)
  · obtain ⟨d, l, xs, G, J, T, lo, hi, rfl, _⟩ := h
    rfl
  · obtain ⟨d, l, xs, G, J, T, lo, hi, rfl, td, sl, mx, q⟩ := h
    have hu : (A.deeper (envOfC "_law_joined" (defScope sLJd) s.heap.objs.size f cdv)).units + 1 < cLine := by
      have := hr.un
      omega
    refine ⟨_, PSs.nox (pss_cons (ps_set (i := 2) scLJd.nd rfl (Or.inl rfl) (pe_dget hu (pv 0) pe_str (fun _ _ => rfl))) (pss_cons (ps_for PassesOwn.never rfl (pi_list (pv 1)) (pg_name (i := 3) scLJd.nd rfl (Or.inl rfl)) (pss_one (ps_set (i := 2) scLJd.nd rfl (Or.inl rfl) (pe_cal cJ hr rfl pass0 (pa_cons (pv 0) (pa_cons (pv 2) (pa_cons (pv 3) pa_nil)))))))
      (pss_one (ps_ret (pv 2))))), ?_⟩
    obtain ⟨kvs, ln, vj, vt, h1, h2, h3, h4, h5, h6, h7, h8, h9⟩ := td.ex
    refine q_asg (ev_dget (key := Sum.inr "low") (ev_var rfl) ev_c h1 h8) fun H1 e1 => ?_
    refine q_forLn (xs := xs.map V.str) (ev_var rfl) (ex_l e1 sl) (fun i σ' H' => ∃ x3, σ' = [some (.ref d), some (.ref l), some (.str ((xs.take i).foldl (ap G J) lo)), x3] ∧ Ex H H') (fun H2 e2 => ⟨_, rfl, e1.trans e2⟩) (fun i σ' H' _ ⟨_, _, e2⟩ => ex_l e2 sl) ?_ ?_
    · rintro i v σ' H2 hv ⟨x3, rfl, e2⟩
      rw [List.getElem?_map] at hv
      cases hx : xs[i]? with
      | none =>
        rw [hx] at hv
        cases hv
      | some x =>
        rw [hx] at hv
        obtain rfl := Option.some.inj hv
        refine s_asg (v := .str ((xs.take (i + 1)).foldl (ap G J) lo)) (ev_is (ev_ljA (b := false) (ev_var rfl) (td.ext e2) (fold_mem td.gd.wj td.gd.lo fun y hy => mx y (List.mem_of_mem_take hy)) (mx x (List.mem_of_getElem? hx)) (ev_var rfl) (ev_var rfl)) ?_) fun H3 e3 => ⟨_, rfl, e2.trans e3⟩
        rw [List.take_add_one, hx]
        simp
    · rintro σ' H2 ⟨x3, rfl, e2⟩
      rw [List.length_map, List.take_length]
      exact s_ret (ev_var rfl) fun H3 e3 => q H3 (e2.trans e3)
end
end K06

set_option Elab.async false
set_option linter.all false
set_option maxRecDepth 100000
set_option maxHeartbeats 1000000
/-! Y7: _law_only, _law_unkept. -/
namespace K06
open PySem PySem.Spec PyProof.Rows L2 Evl J ClX StX S D
open K13 (EvD ed_ev ed_var da_cons da_nil ed_tup)
abbrev sUn : Stmt := topS 59
theorem ev_callNL {K : PySem.W.Frag} {σ : L2.St} {H : Hp} {d : Addr} {te tl : TE} {xs : List V} {z : V} {sp : Sp} (h : Ev te σ H (.ref d)) (hA : EvL tl σ H xs) (s : ∀ p H1, Ex H H1 → H1 p = some (.lst xs) → ∀ Q : VK, RetV z H1 Q → sp [.ref d, .ref p] H1 Q E0) : Ev (tCall sp [] E0 (tCons te (tCons tl tNil))) σ H z := fun H1 e Q q =>
  h H1 e _ fun H2 e2 => hA H2 (e.trans e2) _ fun p H3 n3 e3 h3 => s p H3 ((e.trans e2).trans e3) h3 Q fun H4 e4 => q H4 ((e2.trans e3).trans e4)
section
variable {P : Program} {w : World} {K : PySem.W.Frag} {mg : Str → Option Value} {base : Heap} {f fC CS CT CM : Addr} {fd fdC : FuncData}
abbrev ttLO (K : PySem.W.Frag) : TT := tB (tCall (spLW K) [] E0 (tCons (tVar 0) (tCons (tCall (spLJw K true) [] E0 (tCons (tVar 0) (tCons (tVar 1) (tCons (tVar 3) tNil)))) (tCons (tVar 2) tNil))))
theorem ok_lo (F : FnP K "_law_only" sLO f fd) (cT : Cal P w K mg base CX0 1 "_law_then" ["_law_told_here", "_law_a", "_law_b"] (spLJw K true)) (cW : Cal P w K mg base CX0 2 "_law_within" ["_law_told_here", "_law_a", "_law_b"] (spLW K)) (cJ : Cal P w K mg base CX0 2 "_law_joined" ["_law_told_here", "_law_row"] (spLJd K)) : FnOk P w K mg base CX0 3 f fd ["_law_told_here", "_law_a", "_law_b"] (spLO K) := by
  refine F.ok scLO (fun vs H Q E h => ?_) (fun cdv A outer s H vs Q E hr h => ?_)
  · obtain ⟨d, x, y, G, J, T, lo, hi, rfl, _⟩ := h
    rfl
  · obtain ⟨d, x, y, G, J, T, lo, hi, rfl, td, mx, my, q⟩ := h
    have hu : (A.deeper (envOfC "_law_only" (defScope sLO) s.heap.objs.size f cdv)).units + 1 < cLine := by
      have := hr.un
      omega
    have hr1 : Room 1 (A.deeper (envOfC "_law_only" (defScope sLO) s.heap.objs.size f cdv)) := hr.mono (by decide)
    refine ⟨_, pss_one (ps_ret (pe_cal cJ hr rfl pass0 (pa_cons (pv 0) (pa_cons (pe_lc (own := [("_law_d", 3)]) (g := gName 3) (tt := ttLO K) (te := tVar 3) rfl scLO.nd (pi_list (pe_dget hu (pv 0) pe_str (fun _ _ => rfl))) (blkOk_by (N := NLO) (sc := defScope sLO) (by decide +kernel)) (fun _ _ _ _ _ => pg_name (i := 3) scLO.nd rfl (Or.inl rfl))
      (fun _ _ _ _ _ => by exact pts_one (pt_val (pe_cal cW hr rfl pass0 (pa_cons (pv 0) (pa_cons (pe_cal cT hr1 rfl pass0 (pa_cons (pv 0) (pa_cons (pv 1) (pa_cons (pv 3) pa_nil)))) (pa_cons (pv 2) pa_nil)))))) (fun _ _ _ _ _ => pv 3)) pa_nil)))), ?_⟩
    obtain ⟨kvs, ln, vj, vt, h1, h2, h3, h4, h5, h6, h7, h8, h9⟩ := td.ex
    have z8 := td.gd.z8
    have nm : Ev (tDGet (tVar 0) (tC (.str "names"))) [some (V.ref d), some (V.str x), some (V.str y), none] H (.ref ln) := ev_dget (key := Sum.inr "names") (ev_var rfl) ev_c h1 h2
    refine s_ret (v := .str (onlyF G J T lo x y)) (ev_callNL (K := K) (xs := (G.filter fun d => decide (ap G J (ap G T x d) y = y)).map V.str) (ev_var rfl) (el_filter (g := V.str) (f := V.str) (d := "") (pr := fun d => decide (ap G J (ap G T x d) y = y)) nm h3 (by omega) (fun _ => rfl) (fun z H1 e1 hz => et_B (ev_lwA (ev_var rfl) (td.ext e1) (ap_mem td.gd.wt mx hz) my (ev_ljA (b := true) (ev_var rfl) (td.ext e1) mx hz (ev_var rfl) (ev_var rfl)) (ev_var rfl))) (fun z H1 e1 hz _ => ev_var rfl))
      fun p H1 e1 hp Q' q' => ⟨d, p, _, G, J, T, lo, hi, rfl, td.ext e1, sq_of hp, fun z hz => (List.mem_filter.mp hz).1, q'⟩) fun H2 e2 => q H2 e2
def unBad (A G : List Str) (J1 T1 : List (List Str)) (l1 : Str) (J2 T2 : List (List Str)) (l2 : Str) (φ : Str → Str) (a b : Str) : Bool := !decide ((V.str (φ (onlyF A J1 T1 l1 a b))) = V.str (onlyF G J2 T2 l2 (φ a) (φ b)))
def spUn (K : PySem.W.Frag) (CS CM : Addr) : Sp := fun vs H Q _ => ∃ (d e m s t : Addr) (A G : List Str) (J1 T1 J2 T2 : List (List Str)) (l1 h1 l2 h2 : Str) (φ : Str → Str), vs = [.ref d, .ref e, .ref m] ∧ TolW K H d A J1 T1 l1 h1 ∧ TolW K H e G J2 T2 l2 h2 ∧ MapAt CM H m s t A G φ ∧ ScAt K CS H s A J1 T1 l1 h1 ∧
  ∀ v H', Ex H H' → Dp K H' v (optD (firstP A (unBad A G J1 T1 l1 J2 T2 l2 φ))) → Q v H'
abbrev NUn : List Str := ["_law_source", "_law_target", "_law_m", "_law_a", "_law_b"]
theorem scUn : FnScope NUn ["_law_source", "_law_target", "_law_m"] (defScope sUn) := ⟨rfl, rfl, rfl, by decide +kernel, rfl, by decide +kernel, by decide +kernel⟩
theorem only_memF {G : List Str} {J T : List (List Str)} {lo a b : Str} (w : Wf G J) (hl : lo ∈ G) : onlyF G J T lo a b ∈ G := fold_mem w hl fun y hy => (List.mem_filter.mp hy).1
theorem ok_un (F : FnP K "_law_unkept" sUn f fd) (MC : CallO K CM fC) (hbC : Binds K fdC ["self", "grade"] []) (FC : FnOk P w K mg base CX0 2 fC fdC ["self", "grade"] (spMC K CS CM)) (cO : Cal P w K mg base CX0 3 "_law_only" ["_law_told_here", "_law_a", "_law_b"] (spLO K)) : FnOk P w K mg base CX0 4 f fd ["_law_source", "_law_target", "_law_m"] (spUn K CS CM) := by
  refine F.ok scUn (fun vs H Q E h => ?_) (fun cdv A0 outer s0 H vs Q E hr h => ?_)
  · obtain ⟨d, e, m, s, t, A, G, J1, T1, J2, T2, l1, h1, l2, h2, φ, rfl, _⟩ := h
    rfl
  · obtain ⟨d, e, m, s, t, A, G, J1, T1, J2, T2, l1, h1, l2, h2, φ, rfl, td, te, mm, sl, q⟩ := h
    have hr2 : Room 2 (A0.deeper (envOfC "_law_unkept" (defScope sUn) s0.heap.objs.size f cdv)) := hr.mono (by decide)
    have hu : (A0.deeper (envOfC "_law_unkept" (defScope sUn) s0.heap.objs.size f cdv)).units + 1 < cLine := by
      have := hr.un
      omega
    refine ⟨_, PSs.nox (pss_cons (ps_for PassesOwn.never rfl (pi_list (pe_dget hu (pv 0) pe_str (fun _ _ => rfl))) (pg_name (i := 3) scUn.nd rfl (Or.inl rfl)) (pss_one (ps_for PassesOwn.never rfl (pi_list (pe_dget hu (pv 0) pe_str (fun _ _ => rfl))) (pg_name (i := 4) scUn.nd rfl (Or.inl rfl))
        (pss_one (ps_if (pt_cmpR op_ne (pe_obj (pv 2) MC FC hbC hr2 pass0 (pa_cons (pe_cal cO hr rfl pass0 (pa_cons (pv 0) (pa_cons (pv 3) (pa_cons (pv 4) pa_nil)))) pa_nil)) (pe_cal cO hr rfl pass0 (pa_cons (pv 1) (pa_cons (pe_obj (pv 2) MC FC hbC hr2 pass0 (pa_cons (pv 3) pa_nil)) (pa_cons (pe_obj (pv 2) MC FC hbC hr2 pass0 (pa_cons (pv 4) pa_nil)) pa_nil)))) (nomark _))
          (pss_one (ps_ret (pe_tup (pa_cons (pv 3) (pa_cons (pv 4) pa_nil))))) pss_nil)))))
      (pss_one (ps_ret pe_non))), ?_⟩
    obtain ⟨kvs, ln, vj, vt, k1, k2, k3, _⟩ := td.ex
    have nm : ∀ {σ : L2.St} {H1 : Hp}, σ[0]? = some (some (.ref d)) → Ex H H1 → EvX K (tDGet (tVar 0) (tC (.str "names"))) σ H1 (A.map V.str) := fun h0 e1 => ex_var (ev_dget (key := Sum.inr "names") (ev_var h0) ev_c (e1 _ _ k1) k2) (ex_l e1 k3)
    have im : ∀ x ∈ A, φ x ∈ G := fun x hx => by
      obtain ⟨_, _, _, _, _, _, _, _, _, kk⟩ := mm
      exact (kk x hx).2
    refine q_first (pre := [some (.ref d), some (.ref e), some (.ref m)]) (bad := unBad A G J1 T1 l1 J2 T2 l2 φ) (A := A) rfl rfl (nm rfl (Ex.refl H)) (fun a y H1 e1 ha => nm rfl e1)
      (fun a b H1 e1 ha hb => et_test (ev_op (ev_map (ev_var rfl) (mm.ext e1) (sl.ext e1) (only_memF td.gd.wj td.gd.lo) (ev_loL (ev_var rfl) (td.ext e1) ha hb (ev_var rfl) (ev_var rfl)))
        (ev_loL (ev_var rfl) (te.ext e1) (im a ha) (im b hb) (ev_map (ev_var rfl) (mm.ext e1) (sl.ext e1) ha (ev_var rfl)) (ev_map (ev_var rfl) (mm.ext e1) (sl.ext e1) hb (ev_var rfl))) (rv_ne rfl)))
      (fun a b H1 e1 ha hb fp => ?_) (fun y3 y4 H1 e1 fp => ?_)
    · refine (ed_tup (da_cons (ed_ev (ev_var rfl) (.str a)) (da_cons (ed_ev (ev_var rfl) (.str b)) da_nil)) (by simp) : EvD K _ _ H1 (.tuple [.str a, .str b])) H1 (Ex.refl H1) _ fun v H2 e2 dp => q v H2 (e1.trans e2) (by rw [fp]; exact dp)
    · exact s_ret ev_c fun H2 e2 => q _ _ (e1.trans e2) (by rw [fp]; exact .non)
end
end K06

set_option Elab.async false
set_option linter.all false
set_option maxRecDepth 100000
set_option maxHeartbeats 1000000
/-! Y8: _law_due, by what _law_led promises. -/
namespace K06
open PySem PySem.Spec PyProof.Rows L2 Evl J ClX StX S D
abbrev sDue : Stmt := topS 58
def spLed (K : PySem.W.Frag) : Sp := fun vs H Q _ => ∃ (d e t : Addr) (A G is : List Str) (J1 T1 J2 T2 : List (List Str)) (l1 h1 l2 h2 : Str), vs = [.ref d, .ref e, .ref t] ∧ TolW K H d A J1 T1 l1 h1 ∧ TolW K H e G J2 T2 l2 h2 ∧ SqT K H t (is.map V.str) ∧ is.length = A.length ∧ (∀ x ∈ is, x ∈ G) ∧
  ∀ v H', Ex H H' → (Keeps A J1 T1 l1 h1 G J2 T2 l2 h2 (leadF A is) → v = .non) → (¬ Keeps A J1 T1 l1 h1 G J2 T2 l2 h2 (leadF A is) → ∃ r, v = .ref r) → Q v H'
def spDue (K : PySem.W.Frag) : Sp := fun vs H Q _ => ∃ (d e : Addr) (A G : List Str) (J1 T1 J2 T2 : List (List Str)) (l1 h1 l2 h2 : Str), vs = [.ref d, .ref e] ∧ TolW K H d A J1 T1 l1 h1 ∧ TolW K H e G J2 T2 l2 h2 ∧ A.length ≤ 4 ∧ G.length ≤ 4 ∧
  ∀ v H', Ex H H' → Dp K H' v (rowsL ((tups G A.length).filter (keepsB A J1 T1 l1 h1 G J2 T2 l2 h2))) → Q v H'
abbrev NDue : List Str := ["_law_source", "_law_target", "_law_every", "_law_images"]
theorem scDue : FnScope NDue ["_law_source", "_law_target"] (defScope sDue) := ⟨rfl, rfl, rfl, by decide +kernel, rfl, by decide +kernel, by decide +kernel⟩
theorem Rws.snoc {H : Hp} {rs : List Addr} {Rs : List (List V)} {l : Addr} {r : List V} (h : Rws H rs Rs) (hl : H l = some (.lst r)) : Rws H (rs ++ [l]) (Rs ++ [r]) := by
  refine ⟨by simp [h.len], fun n p r' e1 e2 => ?_⟩
  by_cases hn : n < rs.length
  · rw [List.getElem?_append_left hn] at e1
    rw [List.getElem?_append_left (by rw [← h.len]; exact hn)] at e2
    exact h.at_ n p r' e1 e2
  · have hz : n = rs.length := by
      have k1 := (List.getElem?_eq_some_iff.mp e1).1
      simp at k1
      omega
    subst hz
    rw [List.getElem?_append_right (Nat.le_refl _)] at e1
    rw [List.getElem?_append_right (by rw [h.len]; exact Nat.le_refl _)] at e2
    rw [h.len] at e2
    simp at e1 e2
    subst e1 e2
    exact hl
abbrev teListV (K : PySem.W.Frag) (j : Nat) : TE := tCB (fun xs H Q => ∃ p ys, xs = [.ref p] ∧ (SqL K H p ys ∨ SqT K H p ys) ∧ ∀ l, H l = none → Q (.ref l) (upd H l (.lst ys))) (tCons (tVar j) tNil)
section
variable {K : PySem.W.Frag} {σ : L2.St} {H : Hp} {t1 t2 : TE} {lg : Addr} {G : List Str} {n i : Nat} {tz : TS} {D : Ends}
theorem mk_rows {Q : VK} (he1 : Ev t1 σ H (.ref lg)) (he2 : Ev t2 σ H (.int (n : Int))) (sg : SqL K H lg (G.map V.str)) (hn : n ≤ 4) (hz : G.length ≤ 4) (q : ∀ p H' acc, H p = none → Ex H H' → H' p = some (.lst acc) → RowsAt H' acc (tups G n) → Q (.ref p) H') : tCall (spRo K) [] E0 (tCons t1 (tCons t2 tNil)) σ H Q :=
  he1 H (Ex.refl H) _ fun H1 e1 => he2 H1 e1 _ fun H2 e2 => ⟨lg, G, n, rfl, ex_l (e1.trans e2) sg, hn, hz, fun p H' acc np e h R => q p H' acc (fresh_back (e1.trans e2) np) ((e1.trans e2).trans e) h R⟩
theorem q_rows (he1 : Ev t1 σ H (.ref lg)) (he2 : Ev t2 σ H (.int (n : Int))) (sg : SqL K H lg (G.map V.str)) (hn : n ≤ 4) (hz : G.length ≤ 4) (q : ∀ p H' acc, H p = none → Ex H H' → H' p = some (.lst acc) → RowsAt H' acc (tups G n) → tz D (σ.set i (some (.ref p))) H') : tSeq (tAsg (tCall (spRo K) [] E0 (tCons t1 (tCons t2 tNil))) (gName i)) tz D σ H :=
  mk_rows (Q := fun v H1 => tz D (σ.set i (some v)) H1) he1 he2 sg hn hz q
end
section
variable {P : Program} {w : World} {K : PySem.W.Frag} {mg : Str → Option Value} {base : Heap} {f : Addr} {fd : FuncData}
theorem ok_due (F : FnP K "_law_due" sDue f fd) (T : Bl mg) (cR : Cal P w K mg base CX0 1 "_law_rows_of" ["_law_names", "_law_many"] (spRo K)) (cL : Cal P w K mg base CX0 2 "_law_led" ["_law_source", "_law_target", "_law_images"] (spLed K)) : FnOk P w K mg base CX0 3 f fd ["_law_source", "_law_target"] (spDue K) := by
  refine F.ok scDue (fun vs H Q E h => ?_) (fun cdv A0 outer s0 H vs Q E hr h => ?_)
  · obtain ⟨d, e, A, G, J1, T1, J2, T2, l1, h1, l2, h2, rfl, _⟩ := h
    rfl
  · obtain ⟨d, e, A, G, J1, T1, J2, T2, l1, h1, l2, h2', rfl, td, te, zA, zG, q⟩ := h
    have hr1 : Room 1 (A0.deeper (envOfC "_law_due" (defScope sDue) s0.heap.objs.size f cdv)) := hr.mono (by decide)
    have hu : (A0.deeper (envOfC "_law_due" (defScope sDue) s0.heap.objs.size f cdv)).units + 1 < cLine := by
      have := hr.un
      omega
    refine ⟨_, pss_cons (ps_set (i := 2) scDue.nd rfl (Or.inl rfl) (pe_cal cR hr1 rfl pass0 (pa_cons (pe_dget hu (pv 1) pe_str (fun _ _ => rfl)) (pa_cons (pe_callB call_len_seq (by rfl) T.len boot_len (pa_cons (pe_dget hu (pv 0) pe_str (fun _ _ => rfl)) pa_nil)) pa_nil))))
      (pss_one (ps_ret (pe_lc (own := [("_law_images", 3)]) (g := gName 3) (tt := tB (tIsN (tCall (spLed K) [] E0 (tCons (tVar 0) (tCons (tVar 1) (tCons (tVar 3) tNil)))))) (te := teListV K 3) rfl scDue.nd (pi_list (pv 2)) (blkOk_by (N := NDue) (sc := defScope sDue) (by decide +kernel)) (fun _ _ _ _ _ => pg_name (i := 3) scDue.nd rfl (Or.inl rfl))
        (fun _ _ _ _ _ => by exact pts_one (pt_cmp (pc_isN (pe_cal cL hr rfl pass0 (pa_cons (pv 0) (pa_cons (pv 1) (pa_cons (pv 3) pa_nil))))))) (fun _ _ _ _ _ => by exact pe_callTy call_list_of rfl T.lst Boot.«list» (pa_cons (pv 3) pa_nil))))), ?_⟩
    obtain ⟨kvs, ln, vj, vt, k1, k2, k3, _⟩ := td.ex
    obtain ⟨kvs', ln', vj', vt', m1, m2, m3, _⟩ := te.ex
    have dn : Ev (tDGet (tVar 0) (tC (.str "names"))) [some (.ref d), some (.ref e), none, none] H (.ref ln) := ev_dget (key := Sum.inr "names") (ev_var rfl) ev_c k1 k2
    have en : Ev (tDGet (tVar 1) (tC (.str "names"))) [some (.ref d), some (.ref e), none, none] H (.ref ln') := ev_dget (key := Sum.inr "names") (ev_var rfl) ev_c m1 m2
    refine q_rows (K := K) (G := G) (n := A.length) en (ev_is (ev_lenS dn (.inl k3)) (by rw [List.length_map])) m3 zA zG fun p H2 acc0 n2 e02 h2 R => ?_
    refine ⟨.ref p, rfl, p, rfl, ⟨acc0, sq_of h2⟩, fun D hD => ?_⟩
    refine lc_list (xs := acc0) (fun i H' => Ex H2 H' ∧ ∃ rs, H' D = some (.lst (rs.map V.ref)) ∧ rs.length ≤ i ∧ (∀ l ∈ rs, l ≠ D) ∧ Rws H' rs (strsOf (((tups G A.length).take i).filter (keepsB A J1 T1 l1 h1 G J2 T2 l2 h2')))) ⟨Ex.new hD, [], upd_same, by simp, (fun l hl => nomatch hl), ⟨rfl, fun n p r x1 x2 => by simp at x1⟩⟩ (fun i H' _ y => sq_of (y.1 _ _ h2)) ?_ ?_
    · rintro i x H3 hx ⟨e3, rs, g1, g2, g3, g4⟩
      have lt : i < acc0.length := (List.getElem?_eq_some_iff.mp hx).1
      have hR0 : i < (tups G A.length).length := by rw [← R.1]; exact lt
      have hRn : (tups G A.length)[i]? = some (tups G A.length)[i] := List.getElem?_eq_getElem hR0
      obtain ⟨t, hxt, ht0⟩ := R.2 i _ hRn
      obtain ⟨li, mi⟩ := tups_mem (List.getElem_mem hR0)
      have tkR : (tups G A.length).take (i + 1) = (tups G A.length).take i ++ [(tups G A.length)[i]] := by
        rw [List.take_add_one, hRn]
        rfl
      rw [hx] at hxt
      obtain rfl := Option.some.inj hxt
      generalize (tups G A.length)[i] = is at li mi ht0 tkR
      have zR : (tups G A.length).length ≤ 256 := Nat.le_trans (tups_le zG) (Nat.pow_le_pow_right (n := 4) (by decide) zA)
      have e03 := e02.trans e3
      refine ⟨rfl, ?_⟩
      refine ⟨_, rfl, _, rfl, _, rfl, d, e, t, A, G, is, J1, T1, J2, T2, l1, h1, l2, h2', rfl, td.ext e03, te.ext e03, st_of (e3 _ _ ht0), li, mi, fun v H4 e4 c1 c2 => ⟨_, rfl, ?_⟩⟩
      by_cases kp : Keeps A J1 T1 l1 h1 G J2 T2 l2 h2' (leadF A is)
      · rw [c1 kp]
        dsimp only
        rw [if_pos (by simp)]
        have e34 := e3.trans e4
        refine ⟨_, rfl, t, _, rfl, .inr (st_of (e34 _ _ ht0)), fun l hl => ?_⟩
        have x5 : Ex H4 (upd H4 l (.lst (is.map V.str))) := Ex.new hl
        have l5 : (upd H4 l (.lst (is.map V.str))) l = some (.lst (is.map V.str)) := upd_same
        generalize upd H4 l (.lst (is.map V.str)) = H5 at x5 l5
        have D4 := e4 _ _ g1
        have lD : l ≠ D := fun z => by
          rw [z, D4] at hl
          cases hl
        have D5 := x5 _ _ D4
        refine ⟨_, D5, sz_lt (by rw [List.length_map]; omega), Ex.mut (e34.trans x5) hD, rs ++ [l], by rw [upd_same, List.map_append]; rfl, by simp; omega, fun y hy => ?_, ?_⟩
        · rcases List.mem_append.mp hy with z | z
          · exact g3 y z
          · rw [List.mem_singleton.mp z]
            exact lD
        · rw [tkR, List.filter_append, List.filter_cons, if_pos (keepsB_iff.mpr kp), List.filter_nil]
          unfold strsOf
          rw [List.map_append]
          refine Rws.keep (H := H5) (Rws.snoc ((g4.ext e4).ext x5) l5) fun y hy => ?_
          have yD : y ≠ D := by
            rcases List.mem_append.mp hy with z | z
            · exact g3 y z
            · rw [List.mem_singleton.mp z]
              exact lD
          exact upd_ne yD
      · obtain ⟨r, rfl⟩ := c2 kp
        try dsimp only
        rw [if_neg (by simp)]
        refine ⟨e3.trans e4, rs, e4 _ _ g1, by omega, g3, ?_⟩
        rw [tkR, List.filter_append, List.filter_cons, if_neg (fun z => kp (keepsB_iff.mp z)), List.filter_nil, List.append_nil]
        exact g4.ext e4
    · rintro H3 ⟨e3, rs, g1, g2, g3, g4⟩
      refine q _ H3 (e02.trans e3) (dp_rows g1 ?_)
      rw [R.1, List.take_length] at g4
      exact g4
end
end K06

set_option Elab.async false
set_option linter.all false
set_option maxRecDepth 100000
set_option maxHeartbeats 1000000
/-! Z0: readings for _law_beside: a dict with one list, names side by side. -/
namespace K06
open PySem PySem.Spec PyProof.Rows L2 Evl J ClX StX S D
abbrev teBs : TE := tOp rAdS (tOp rAdS (tVar 3) (tC (.str "/"))) (tVar 9)
theorem pairG_flat {A G : List Str} : pairG A G = A.flatMap fun x => G.map (bes x) := by
  unfold pairG two
  rw [List.map_flatMap]
  simp only [List.map_map]
  rfl
section
variable {K : PySem.W.Frag} {σ : L2.St} {H : Hp} {tl t1 : TE} {tz : TS} {E : Ends} {i : Nat} {G : List Str} {a : Str} {ln : Addr}
theorem q_told1 {x1 : Str} {ys : List V} (h1 : EvL t1 σ H ys) (k : ∀ p l H1, H p = none → l ≠ p → Ex H H1 → H1 p = some (.dK [(Sum.inr x1, .ref l)]) → H1 l = some (.lst ys) → tz E (σ.set i (some (.ref p))) H1) : tSeq (tAsg (tDisp [(tC (.str x1), t1)]) (gName i)) tz E σ H := by
  intro p hp
  have e1 : Ex H (upd H p (.dK [])) := Ex.new hp
  refine h1 _ e1 _ fun l H2 n2 e2 g2 => ?_
  have lp : l ≠ p := fun z => by
    rw [z, upd_same] at n2
    cases n2
  refine ⟨e2 _ _ upd_same, [(Sum.inr x1, .ref l)], rfl, by simp, k p l _ hp lp (fun c o z => ?_) upd_same ?_⟩
  · have ne := ne_of_none z hp
    rw [upd_ne ne]
    exact e2 _ _ (e1 _ _ z)
  · rw [upd_ne lp]
    exact g2
theorem el_bs (h : Ev tl σ H (.ref ln)) (sl : SqL K H ln (G.map V.str)) (hz : G.length ≤ 100) (za : a.length ≤ 1000) (zG : ∀ x ∈ G, x.length ≤ 1000) (hw : ∀ x, wipe ((wipe σ [9]).set 9 (some x)) [9] = wipe σ [9]) (h3 : ∀ x : V, ((wipe σ [9]).set 9 (some x))[3]? = some (some (.str a))) (h9 : ∀ x : V, ((wipe σ [9]).set 9 (some x))[9]? = some (some x)) :
    EvL (tLc (iList K tl) (gName 9) tYes teBs [9]) σ H ((G.map (bes a)).map V.str) := by
  have z := el_map (K := K) (g := V.str) (f := fun b => V.str (bes a b)) (d := "") (te := teBs) h sl (by omega) hw fun b H1 e1 hb => by
    have z1 : ("/" : Str).length = 1 := by decide +kernel
    have z2 : (a ++ ("/" : Str)).length = a.length + 1 := by rw [str_len, z1]
    have z3 := zG b hb
    exact ev_op (ev_op (ev_var (h3 _)) ev_c (rv_adS (x := a) (y := "/") (by omega))) (ev_var (h9 _)) (rv_adS (x := a ++ ("/" : Str)) (y := b) (by omega))
  rw [List.map_map]
  exact z
end
section
variable {K : PySem.W.Frag} {H : Hp} {tz : TS} {E : Ends} {d e r l0 ln ln' : Addr} {kvs kvs' : List (Key × V)} {A G : List Str}
/-- the names, one behind another -/
theorem q_names (hd : H d = some (.dK kvs)) (vd : valV kvs (Sum.inr "names") = some (.ref ln)) (sd : SqL K H ln (A.map V.str)) (he : H e = some (.dK kvs')) (ve : valV kvs' (Sum.inr "names") = some (.ref ln')) (se : SqL K H ln' (G.map V.str)) (hz : A.length * G.length ≤ 8) (zA8 : A.length ≤ 8) (zG8 : G.length ≤ 8)
    (zA : ∀ x ∈ A, x.length ≤ 1000) (zG : ∀ x ∈ G, x.length ≤ 1000) {H1 : Hp} (nr : H r = none) (e1 : Ex H H1) (g1 : H1 r = some (.dK [(Sum.inr "names", .ref l0)])) (g2 : H1 l0 = some (.lst [])) (g3 : l0 ≠ r) {x3 x4 x5 x6 x7 x8 x9 : Option V}
    (k : ∀ y3 l H2, Ex H H2 → H2 r = some (.dK [(Sum.inr "names", .ref l)]) → H2 l = some (.lst ((pairG A G).map V.str)) → l ≠ r → tz E [some (.ref d), some (.ref e), some (.ref r), y3, x4, x5, x6, x7, x8, x9] H2) :
    tSeq (tFor (iList K (tDGet (tVar 0) (tC (.str "names")))) (gName 3) (tAsg (tOp rCat (tDGet (tVar 2) (tC (.str "names"))) (tLc (iList K (tDGet (tVar 1) (tC (.str "names")))) (gName 9) tYes teBs [9])) (gSub (tVar 2) (tC (.str "names")) rSetD))) tz E [some (.ref d), some (.ref e), some (.ref r), x3, x4, x5, x6, x7, x8, x9] H1 := by
  refine q_forLn (xs := A.map V.str) (ev_dget (key := Sum.inr "names") (ev_var rfl) ev_c (e1 _ _ hd) vd) (ex_l e1 sd) (fun i σ' H' => ∃ y3 l, σ' = [some (.ref d), some (.ref e), some (.ref r), y3, x4, x5, x6, x7, x8, x9] ∧ Ex H H' ∧ H' r = some (.dK [(Sum.inr "names", .ref l)]) ∧ l ≠ r ∧ H' l = some (.lst (((A.take i).flatMap fun x => G.map (bes x)).map V.str)))
    (fun H2 e2 => ⟨_, l0, rfl, e1.trans e2, e2 _ _ g1, g3, e2 _ _ g2⟩) (fun i σ' H' _ ⟨_, _, _, e', _⟩ => ex_l e' sd) ?_ ?_
  · rintro i v σ' H2 hv ⟨y3, l, rfl, e2, f1, f2, f3⟩
    rw [List.getElem?_map] at hv
    cases hx : A[i]? with
    | none =>
      rw [hx] at hv
      cases hv
    | some x =>
      rw [hx] at hv
      obtain rfl := Option.some.inj hv
      have mx := List.mem_of_getElem? hx
      refine (ev_dget (key := Sum.inr "names") (ev_var rfl) ev_c f1 rfl : Ev (tDGet (tVar 2) (tC (.str "names"))) _ H2 (.ref l)) H2 (Ex.refl H2) _ fun H3 e3 => ?_
      have e03 := e2.trans e3
      refine (el_bs (K := K) (G := G) (a := x) (ev_dget (key := Sum.inr "names") (ev_var rfl) ev_c (e03 _ _ he) ve) (ex_l e03 se) (by omega) (zA x mx) zG (fun _ => rfl) (fun _ => rfl) (fun _ => rfl)) H3 (Ex.refl H3) _ fun D H4 n4 e4 h4 => ?_
      have e04 := e03.trans e4
      refine ⟨l, D, _, _, rfl, rfl, (e3.trans e4) _ _ f3, h4, sz_of ?_, fun p hp => ?_⟩
      · have n1 : (pairG (A.take i) G).length ≤ 64 := by
          rw [pair_len, List.length_take]
          exact Nat.mul_le_mul (show min i A.length ≤ 8 by omega) zG8
        rw [pairG_flat] at n1
        simp only [List.length_map] at n1 ⊢
        omega
      · have f14 := (e3.trans e4) _ _ f1
        have rp : r ≠ p := fun z => by
          rw [← z, f14] at hp
          cases hp
        have x5 : Ex H4 (upd H4 p (.lst ((((A.take i).flatMap fun x => G.map (bes x)).map V.str) ++ (G.map (bes x)).map V.str))) := Ex.new hp
        have p5 : (upd H4 p (.lst ((((A.take i).flatMap fun x => G.map (bes x)).map V.str) ++ (G.map (bes x)).map V.str))) p = some (.lst (((A.take (i + 1)).flatMap fun x => G.map (bes x)).map V.str)) := by
          rw [upd_same, List.take_add_one, hx, List.flatMap_append, List.map_append]
          simp
        generalize upd H4 p (.lst ((((A.take i).flatMap fun x => G.map (bes x)).map V.str) ++ (G.map (bes x)).map V.str)) = H5 at x5 p5
        refine ⟨.ref r, rfl, ⟨r, _, rfl, DPut.k (k := Sum.inr "names") (x5 _ _ f14) (sz_lt (by simp)), _, p, rfl, Ex.mut (e04.trans x5) nr, ?_, Ne.symm rp, ?_⟩⟩
        · rw [upd_same]
          simp [putK]
        · rw [upd_ne (Ne.symm rp)]
          exact p5
  · rintro σ' H2 ⟨y3, l, rfl, e2, f1, f2, f3⟩
    rw [List.length_map, List.take_length, ← pairG_flat] at f3
    exact k y3 l H2 e2 f1 f3 f2
theorem s_forNT {σ : L2.St} {tl : TE} {xs : List V} {tu : TS} {j : Nat} {D : Ends} (h : EvU tl σ H xs) (Pv : Addr → Nat → L2.St → Hp → Prop) (h0 : ∀ p H1, H p = none → Ex H H1 → H1 p = some (.tup xs) → Pv p 0 σ H1) (hl : ∀ p i σ' H', i ≤ xs.length → Pv p i σ' H' → SqT K H' p xs)
    (hs : ∀ p i x σ' H', xs[i]? = some x → Pv p i σ' H' → tu { D with nx := Pv p (i + 1), ct := Pv p (i + 1), bk := D.nx } (σ'.set j (some x)) H') (hd : ∀ p σ' H', Pv p xs.length σ' H' → D.nx σ' H') : tFor (iTup K tl) (gName j) tu D σ H :=
  h H (Ex.refl H) _ fun p H1 hp e h1 => ⟨p, rfl, ⟨xs, st_of h1⟩, for_tup (Pv p) (h0 p H1 hp e h1) (hl p) (hs p) (hd p)⟩
/-- the two names of their own -/
theorem q_ends {l1 h1 l2 h2 : Str} (hd : H d = some (.dK kvs)) (vl : valV kvs (Sum.inr "low") = some (.str l1)) (vh : valV kvs (Sum.inr "high") = some (.str h1)) (he : H e = some (.dK kvs')) (vl' : valV kvs' (Sum.inr "low") = some (.str l2)) (vh' : valV kvs' (Sum.inr "high") = some (.str h2))
    (z1 : l1.length ≤ 1000) (z2 : h1.length ≤ 1000) (z3 : l2.length ≤ 1000) (z4 : h2.length ≤ 1000) {H1 : Hp} {l : Addr} {ys : List V} (nr : H r = none) (e1 : Ex H H1) (g1 : H1 r = some (.dK [(Sum.inr "names", .ref l)])) (g2 : H1 l = some (.lst ys)) (g3 : l ≠ r) {x3 x4 x5 x6 x7 x8 x9 : Option V}
    (k : ∀ y4 H2, Ex H H2 → H2 r = some (.dK [(Sum.inr "names", .ref l), (Sum.inr "low", .str (bes l1 l2)), (Sum.inr "high", .str (bes h1 h2))]) → H2 l = some (.lst ys) → tz E [some (.ref d), some (.ref e), some (.ref r), x3, y4, x5, x6, x7, x8, x9] H2) :
    tSeq (tFor (iTup K (tTup (tCons (tC (.str "low")) (tCons (tC (.str "high")) tNil)))) (gName 4) (tAsg (tOp rAdS (tOp rAdS (tDGet (tVar 0) (tVar 4)) (tC (.str "/"))) (tDGet (tVar 1) (tVar 4))) (gSub (tVar 2) (tVar 4) rSetD))) tz E [some (.ref d), some (.ref e), some (.ref r), x3, x4, x5, x6, x7, x8, x9] H1 := by
  have sl1 : ("/" : Str).length = 1 := by decide +kernel
  have one : ∀ (key a b : Str) (kv : List (Key × V)) (H2 : Hp) (Dn : Ends), valV kvs (Sum.inr key) = some (.str a) → valV kvs' (Sum.inr key) = some (.str b) → a.length ≤ 1000 → b.length ≤ 1000 → Ex H H2 → H2 r = some (.dK kv) → kv.length ≤ 10 →
      (∀ H3, Ex H2 H3 → Dn.nx [some (.ref d), some (.ref e), some (.ref r), x3, some (.str key), x5, x6, x7, x8, x9] (upd H3 r (.dK (putK kv (Sum.inr key) (.str (bes a b)))))) →
      tAsg (tOp rAdS (tOp rAdS (tDGet (tVar 0) (tVar 4)) (tC (.str "/"))) (tDGet (tVar 1) (tVar 4))) (gSub (tVar 2) (tVar 4) rSetD) Dn [some (.ref d), some (.ref e), some (.ref r), x3, some (.str key), x5, x6, x7, x8, x9] H2 := fun key a b kv H2 Dn v1 v2 za zb e2 hr zk k => by
    have s2 : (a ++ ("/" : Str)).length = a.length + 1 := by rw [str_len, sl1]
    refine (ev_op (ev_op (ev_dget (key := Sum.inr key) (ev_var rfl) (ev_var rfl) (e2 _ _ hd) v1) ev_c (rv_adS (x := a) (y := "/") (by omega))) (ev_dget (key := Sum.inr key) (ev_var rfl) (ev_var rfl) (e2 _ _ he) v2) (rv_adS (x := a ++ ("/" : Str)) (y := b) (by omega)) : Ev _ _ H2 (.str (bes a b))) H2 (Ex.refl H2) _ fun H3 e3 => ?_
    exact ⟨.ref r, rfl, _, rfl, ⟨r, _, rfl, DPut.k (k := Sum.inr key) (e3 _ _ hr) (sz_lt (by omega)), k H3 e3⟩⟩
  refine s_forNT (D := { E with nx := tz E }) (eu_tup (ea_cons ev_c (ea_cons ev_c ea_nil)) (by simp)) (fun p i σ' H' => ∃ y4, σ' = [some (.ref d), some (.ref e), some (.ref r), x3, y4, x5, x6, x7, x8, x9] ∧ Ex H H' ∧ p ≠ r ∧ H' p = some (.tup [.str "low", .str "high"]) ∧ H' l = some (.lst ys) ∧ H' r = some (.dK (List.take (i + 1) ([(Sum.inr "names", .ref l), (Sum.inr "low", .str (bes l1 l2)), (Sum.inr "high", .str (bes h1 h2))] : List (Key × V)))))
    (fun p H2 np e2 h2 => ⟨_, rfl, e1.trans e2, fun z => ?_, h2, e2 _ _ g2, e2 _ _ g1⟩) (fun p i σ' H' _ ⟨_, _, _, _, h, _⟩ => st_of h) ?_ ?_
  · rw [z, g1] at np
    cases np
  · rintro p i v σ' H2 hv ⟨y4, rfl, e2, pr, f1, f2, f3⟩
    have keepR : ∀ {H3 : Hp} {o : HO} {b : Addr} {u : HO}, Ex H2 H3 → b ≠ r → H2 b = some u → (upd H3 r o) b = some u := fun e3 nb hb => by
      rw [upd_ne nb]
      exact e3 _ _ hb
    match i, hv with
    | 0, hv =>
      obtain rfl := Option.some.inj hv
      exact one "low" l1 l2 _ H2 _ vl vl' z1 z3 e2 f3 (by simp) fun H3 e3 => ⟨_, rfl, Ex.mut (e2.trans e3) nr, pr, keepR e3 pr f1, keepR e3 g3 f2, by rw [upd_same]; rfl⟩
    | 1, hv =>
      obtain rfl := Option.some.inj hv
      exact one "high" h1 h2 _ H2 _ vh vh' z2 z4 e2 f3 (by simp) fun H3 e3 => ⟨_, rfl, Ex.mut (e2.trans e3) nr, pr, keepR e3 pr f1, keepR e3 g3 f2, by rw [upd_same]; rfl⟩
    | n + 2, hv => simp at hv
  · rintro p σ' H2 ⟨y4, rfl, e2, pr, f1, f2, f3⟩
    exact k y4 H2 e2 f3 f2
end
end K06

set_option Elab.async false
set_option linter.all false
set_option maxRecDepth 100000
set_option maxHeartbeats 1000000
/-! Z2: rows side by side. -/
namespace K06
open PySem PySem.Spec PyProof.Rows L2 Evl J ClX StX S D
def sideR (r1 r2 : List Str) : List Str := r1.flatMap fun a => r2.map (bes a)
theorem sideR_len {r2 : List Str} : ∀ {r1 : List Str}, (sideR r1 r2).length = r1.length * r2.length
  | [] => by simp [sideR]
  | a :: r => by
    have ih := sideR_len (r1 := r) (r2 := r2)
    unfold sideR at ih ⊢
    rw [List.flatMap_cons, List.length_append, ih, List.length_map, List.length_cons, Nat.succ_mul, Nat.add_comm]
theorem row_of {K : PySem.W.Frag} {H : Hp} {v : V} {J : List (List Str)} {i : Nat} {row : List Str} (dp : Dp K H v (rowsL J)) (h : J[i]? = some row) : ∃ p q ys, v = .ref p ∧ SqL K H p ys ∧ ys[i]? = some (.ref q) ∧ SqL K H q (row.map V.str) := by
  unfold rowsL at dp
  cases dp with
  | @lst p ys _ hs ha =>
    have hl := dpa_len ha
    rw [List.length_map] at hl
    have hi : i < J.length := (List.getElem?_eq_some_iff.mp h).1
    have hv : ys[i]? = some ys[i] := List.getElem?_eq_getElem (by omega)
    obtain ⟨d1, hd1, dp1⟩ := dpa_get ha hv
    rw [List.getElem?_map, h] at hd1
    obtain rfl := Option.some.inj hd1
    generalize ys[i] = u at hv dp1
    cases dp1 with
    | @lst q zs _ hs2 ha2 =>
      have ex := strs_of ha2
      subst ex
      exact ⟨p, q, ys, rfl, hs, hv, hs2⟩
section
variable {K : PySem.W.Frag} {H : Hp} {d e r : Addr} {kvs kvs' : List (Key × V)} {v1 v2 : V} {J1 J2 : List (List Str)} {key : Str}
abbrev tIxR (K : PySem.W.Frag) (n i : Nat) : TE := tOp (rIxL K) (tDGet (tVar n) (tVar 4)) (tVar i)
/-- one row of two, side by side -/
theorem s_row {D : Ends} {i j : Nat} {r1 r2 : List Str} (hd : H d = some (.dK kvs)) (vd : valV kvs (Sum.inr key) = some v1) (dp1 : Dp K H v1 (rowsL J1)) (h1 : J1[i]? = some r1) (he : H e = some (.dK kvs')) (ve : valV kvs' (Sum.inr key) = some v2) (dp2 : Dp K H v2 (rowsL J2)) (h2 : J2[j]? = some r2)
    (z1 : r1.length ≤ 8) (z2 : r2.length ≤ 8) (za : ∀ x ∈ r1, x.length ≤ 1000) (zb : ∀ x ∈ r2, x.length ≤ 1000) {H1 : Hp} {l0 : Addr} (e1 : Ex H H1) (g0 : H l0 = none) (g1 : H1 l0 = some (.lst [])) {x3 x5 x9 : Option V}
    (k : ∀ y3 l H2, H l = none → Ex H H2 → Ex H1 H2 → H2 l = some (.lst ((sideR r1 r2).map V.str)) → D.nx [some (.ref d), some (.ref e), some (.ref r), y3, some (.str key), x5, some (.int (i : Int)), some (.int (j : Int)), some (.ref l), x9] H2) :
    tFor (iList K (tIxR K 0 6)) (gName 3) (tAsg (tOp rCat (tVar 8) (tLc (iList K (tIxR K 1 7)) (gName 9) tYes teBs [9])) (gName 8)) D [some (.ref d), some (.ref e), some (.ref r), x3, some (.str key), x5, some (.int (i : Int)), some (.int (j : Int)), some (.ref l0), x9] H1 := by
  obtain ⟨p1, q1, ys1, rfl, s1, a1, b1⟩ := row_of dp1 h1
  obtain ⟨p2, q2, ys2, rfl, s2, a2, b2⟩ := row_of dp2 h2
  refine s_forLn (xs := r1.map V.str) (ev_op (ev_dget (key := Sum.inr key) (ev_var rfl) (ev_var rfl) (e1 _ _ hd) vd) (ev_var rfl) (rv_ixL (ex_l e1 s1) (atI_nat a1))) (ex_l e1 b1) (fun m σ' H' => ∃ y3 l, σ' = [some (.ref d), some (.ref e), some (.ref r), y3, some (.str key), x5, some (.int (i : Int)), some (.int (j : Int)), some (.ref l), x9] ∧ H l = none ∧ Ex H H' ∧ Ex H1 H' ∧ H' l = some (.lst ((sideR (r1.take m) r2).map V.str)))
    (fun H2 e2 => ⟨_, l0, rfl, g0, e1.trans e2, e2, e2 _ _ g1⟩) (fun m σ' H' _ ⟨_, _, _, _, e', _⟩ => ex_l e' b1) ?_ ?_
  · rintro m v σ' H2 hv ⟨y3, l, rfl, nl, e2, e12, f1⟩
    rw [List.getElem?_map] at hv
    cases hx : r1[m]? with
    | none =>
      rw [hx] at hv
      cases hv
    | some x =>
      rw [hx] at hv
      obtain rfl := Option.some.inj hv
      have mx := List.mem_of_getElem? hx
      refine ⟨_, rfl, ?_⟩
      refine (el_bs (K := K) (G := r2) (a := x) (ev_op (ev_dget (key := Sum.inr key) (ev_var rfl) (ev_var rfl) (e2 _ _ he) ve) (ev_var rfl) (rv_ixL (ex_l e2 s2) (atI_nat a2))) (ex_l e2 b2) (by omega) (za x mx) zb (fun _ => rfl) (fun _ => rfl) (fun _ => rfl)) H2 (Ex.refl H2) _ fun D4 H4 n4 e4 h4 => ?_
      refine ⟨l, D4, _, _, rfl, rfl, e4 _ _ f1, h4, sz_of ?_, fun p hp => ⟨_, p, rfl, fresh_back (e2.trans e4) hp, (e2.trans e4).trans (Ex.new hp), (e12.trans e4).trans (Ex.new hp), ?_⟩⟩
      · have n1 : (sideR (r1.take m) r2).length ≤ 64 := by
          rw [sideR_len, List.length_take]
          exact Nat.mul_le_mul (show min m r1.length ≤ 8 by omega) z2
        simp only [List.length_map]
        omega
      · rw [upd_same, List.take_add_one, hx]
        unfold sideR
        rw [List.flatMap_append, List.map_append]
        simp
  · rintro σ' H2 ⟨y3, l, rfl, nl, e2, e12, f1⟩
    rw [List.length_map, List.take_length] at f1
    exact k y3 l H2 nl e2 e12 f1
end
end K06

set_option Elab.async false
set_option linter.all false
set_option maxRecDepth 100000
set_option maxHeartbeats 1000000
/-! Z3: all rows side by side. -/
namespace K06
open PySem PySem.Spec PyProof.Rows L2 Evl J ClX StX S D
def sideT (J1 J2 : List (List Str)) : List (List Str) := J1.flatMap fun r1 => J2.map (sideR r1)
theorem flatc_len {J2 : List (List Str)} : ∀ {J1 : List (List Str)}, (J1.flatMap fun r1 => J2.map (sideR r1)).length = J1.length * J2.length
  | [] => by simp
  | a :: r => by
    have ih := flatc_len (J1 := r) (J2 := J2)
    rw [List.flatMap_cons, List.length_append, ih, List.length_map, List.length_cons, Nat.succ_mul, Nat.add_comm]
section
variable {K : PySem.W.Frag} {H : Hp} {d e r ln ln' : Addr} {kvs kvs' : List (Key × V)} {v1 v2 : V} {J1 J2 : List (List Str)} {key : Str} {A G : List Str}
abbrev tRow (K : PySem.W.Frag) : TS := tFor (iList K (tIxR K 0 6)) (gName 3) (tAsg (tOp rCat (tVar 8) (tLc (iList K (tIxR K 1 7)) (gName 9) tYes teBs [9])) (gName 8))
abbrev tLenN (K : PySem.W.Frag) (n : Nat) : TE := tCB (fun xs H Q => ∃ p ys, xs = [.ref p] ∧ (SqL K H p ys ∨ SqT K H p ys) ∧ Q (.int ys.length) H) (tCons (tDGet (tVar n) (tC (.str "names"))) tNil)
theorem q_tab {tz : TS} {E : Ends} (hd : H d = some (.dK kvs)) (nm : valV kvs (Sum.inr "names") = some (.ref ln)) (sn : SqL K H ln (A.map V.str)) (vd : valV kvs (Sum.inr key) = some v1) (dp1 : Dp K H v1 (rowsL J1)) (w1 : Wf A J1) (he : H e = some (.dK kvs')) (nm' : valV kvs' (Sum.inr "names") = some (.ref ln')) (sn' : SqL K H ln' (G.map V.str)) (ve : valV kvs' (Sum.inr key) = some v2) (dp2 : Dp K H v2 (rowsL J2)) (w2 : Wf G J2)
    (z1 : A.length ≤ 8) (z2 : G.length ≤ 8) (za : ∀ x ∈ A, x.length ≤ 1000) (zb : ∀ x ∈ G, x.length ≤ 1000) {x3 x5 x6 x7 x8 x9 : Option V}
    (k : ∀ D y3 y6 y7 y8 H2 rs, H D = none → Ex H H2 → H2 D = some (.lst (rs.map V.ref)) → (∀ l ∈ rs, H l = none) → Rws H2 rs (strsOf (sideT J1 J2)) → tz E [some (.ref d), some (.ref e), some (.ref r), y3, some (.str key), some (.ref D), y6, y7, y8, x9] H2) :
    tSeq (tAsg (tLst tNil) (gName 5)) (tSeq (tFor (iRng1 (tCons (tLenN K 0) tNil)) (gName 6) (tFor (iRng1 (tCons (tLenN K 1) tNil)) (gName 7) (tSeq (tAsg (tLst tNil) (gName 8)) (tSeq (tRow K) (tDrop (tBM K "list" rAppend (tVar 5) (tCons (tVar 8) tNil))))))) tz) E [some (.ref d), some (.ref e), some (.ref r), x3, some (.str key), x5, x6, x7, x8, x9] H := by
  refine q_asgL (el_lst ea_nil (by simp)) fun D H1 nD e1 hD => ?_
  refine q_forR1 (n := (A.length : Int)) (ea_cons (ev_is (ev_lenS (ev_dget (key := Sum.inr "names") (ev_var rfl) ev_c (e1 _ _ hd) nm) (.inl (ex_l e1 sn))) (by rw [List.length_map])) ea_nil) (by omega) (fun i σ' H' => ∃ y3 y6 y7 y8 rs, σ' = [some (.ref d), some (.ref e), some (.ref r), y3, some (.str key), some (.ref D), y6, y7, y8, x9] ∧ Ex H H' ∧ H' D = some (.lst (rs.map V.ref)) ∧ (∀ l ∈ rs, l ≠ D ∧ H l = none) ∧ Rws H' rs (strsOf ((J1.take i).flatMap fun r1 => J2.map (sideR r1))))
    (fun H2 e2 => ⟨_, _, _, _, [], rfl, e1.trans e2, e2 _ _ hD, (fun l hl => nomatch hl), ⟨rfl, fun n p r' x1 x2 => by simp at x1⟩⟩) ?_ ?_
  · rintro i σ' H2 hi ⟨y3, y6, y7, y8, rs, rfl, e2, f1, f2, f4⟩
    have hiA : i < J1.length := by rw [w1.len]; omega
    have hr1 : J1[i]? = some J1[i] := List.getElem?_eq_getElem hiA
    have m1 : J1[i] ∈ J1 := List.getElem_mem hiA
    have tk1 : J1.take (i + 1) = J1.take i ++ [J1[i]] := by rw [List.take_add_one, hr1]; rfl
    generalize J1[i] = r1 at hr1 m1 tk1
    have l1 := w1.row r1 m1
    refine s_forR1 (n := (G.length : Int)) (ea_cons (ev_is (ev_lenS (ev_dget (key := Sum.inr "names") (ev_var rfl) ev_c (e2 _ _ he) nm') (.inl (ex_l e2 sn'))) (by rw [List.length_map])) ea_nil) (by omega) (fun j σ' H' => ∃ y7 y8 y3 rs, σ' = [some (.ref d), some (.ref e), some (.ref r), y3, some (.str key), some (.ref D), some (.int (i : Int)), y7, y8, x9] ∧ Ex H H' ∧ H' D = some (.lst (rs.map V.ref)) ∧ (∀ l ∈ rs, l ≠ D ∧ H l = none) ∧ Rws H' rs (strsOf (((J1.take i).flatMap fun r1 => J2.map (sideR r1)) ++ (J2.take j).map (sideR r1))))
      (fun H3 e3 => ⟨_, _, _, rs, rfl, e2.trans e3, e3 _ _ f1, f2, by simpa using f4.ext e3⟩) ?_ ?_
    · rintro j σ' H3 hj ⟨y7, y8, y3, rs3, rfl, e3, g1, g2, g4⟩
      have hjG : j < J2.length := by rw [w2.len]; omega
      have hr2 : J2[j]? = some J2[j] := List.getElem?_eq_getElem hjG
      have m2 : J2[j] ∈ J2 := List.getElem_mem hjG
      have tk2 : J2.take (j + 1) = J2.take j ++ [J2[j]] := by rw [List.take_add_one, hr2]; rfl
      generalize J2[j] = r2 at hr2 m2 tk2
      have l2 := w2.row r2 m2
      have zrs : rs3.length ≤ 1000 := by
        rw [g4.len]
        unfold strsOf
        rw [List.length_map, List.length_append, flatc_len, List.length_map, List.length_take, List.length_take]
        have b1 : min i J1.length * J2.length ≤ 8 * 8 := Nat.mul_le_mul (by rw [w1.len]; omega) (by rw [w2.len]; exact z2)
        have b2 : min j J2.length ≤ 8 := by rw [w2.len]; omega
        omega
      refine q_asgL (el_lst ea_nil (by simp)) fun l0 H4 n4 e4 h4 => ?_
      refine s_row (K := K) (H := H3) (D := _) (e3 _ _ hd) vd (dp_ext e3 dp1) hr1 (e3 _ _ he) ve (dp_ext e3 dp2) hr2 (by omega) (by omega) (fun x hx => za x (w1.at_ r1 m1 x hx)) (fun x hx => zb x (w2.at_ r2 m2 x hx)) e4 n4 h4 fun y3' l H5 nl e35 _ h5 => ?_
      have D5 := e35 _ _ g1
      have lD : l ≠ D := fun z => by
        rw [z, g1] at nl
        cases nl
      refine s_app (D := _) D5 (ev_var rfl) (ev_var rfl) (by rw [List.length_map]; omega) fun H6 e6 => ?_
      refine ⟨_, _, _, rs3 ++ [l], rfl, Ex.mut ((e3.trans e35).trans e6) nD, by rw [upd_same, List.map_append]; rfl, fun y hy => ?_, ?_⟩
      · rcases List.mem_append.mp hy with z | z
        · exact g2 y z
        · rw [List.mem_singleton.mp z]
          exact ⟨lD, fresh_back e3 nl⟩
      · rw [tk2, List.map_append, ← List.append_assoc]
        unfold strsOf
        rw [List.map_append (l₂ := List.map (sideR r1) [r2])]
        refine Rws.keep (H := H6) (Rws.snoc ((g4.ext e35).ext e6) (e6 _ _ h5)) fun y hy => ?_
        have yD : y ≠ D := by
          rcases List.mem_append.mp hy with z | z
          · exact (g2 y z).1
          · rw [List.mem_singleton.mp z]
            exact lD
        exact upd_ne yD
    · rintro σ' H3 ⟨y7, y8, y3, rs3, rfl, e3, g1, g2, g4⟩
      have en : ((G.length : Int)).toNat = J2.length := by rw [Int.toNat_natCast, w2.len]
      rw [en, List.take_length] at g4
      exact ⟨_, _, _, _, rs3, rfl, e3, g1, g2, by rw [tk1, List.flatMap_append, List.flatMap_singleton]; exact g4⟩
  · rintro σ' H2 ⟨y3, y6, y7, y8, rs, rfl, e2, f1, f2, f4⟩
    have en : ((A.length : Int)).toNat = J1.length := by rw [Int.toNat_natCast, w1.len]
    rw [en, List.take_length] at f4
    exact k D _ _ _ _ H2 rs nD e2 f1 (fun l hl => (f2 l hl).2) f4
end
end K06

set_option Elab.async false
set_option linter.all false
set_option maxRecDepth 100000
set_option maxHeartbeats 1000000
/-! Z4: rows side by side are the pair's table; one word of what is told. -/
namespace K06
open PySem PySem.Spec PyProof.Rows L2 Evl J ClX StX S D
theorem nd_idx {A : List Str} (nd : A.Nodup) {n : Nat} (h : n < A.length) : A.idxOf A[n] = n := by
  have m : A[n] ∈ A := List.getElem_mem h
  have h2 := idx_lt m
  have e := idx_get m
  have e2 : A[A.idxOf A[n]]'h2 = A[n] := (List.getElem?_eq_some_iff.mp e).2
  exact (List.getElem_inj nd).mp e2
theorem wf_eq {A : List Str} {J : List (List Str)} (nd : A.Nodup) (w : Wf A J) : J = A.map fun x => A.map (ap A J x) := by
  apply List.ext_getElem
  · rw [List.length_map, w.len]
  · intro n h1 h2
    have hn : n < A.length := by rw [← w.len]; exact h1
    rw [List.getElem_map]
    have lr := w.row _ (List.getElem_mem h1)
    apply List.ext_getElem
    · rw [List.length_map, lr]
    · intro m h3 h4
      have hm : m < A.length := by rw [← lr]; exact h3
      rw [List.getElem_map]
      have e : ap A J A[n] A[m] = J[n][m] := by
        show (J.getD (A.idxOf A[n]) []).getD (A.idxOf A[m]) "" = _
        rw [nd_idx nd hn, nd_idx nd hm, List.getD_eq_getElem?_getD (l := J), List.getElem?_eq_getElem h1]
        show (J[n]).getD m "" = _
        rw [List.getD_eq_getElem?_getD, List.getElem?_eq_getElem h3]
        rfl
      exact e.symm
theorem side_pair {A G : List Str} {J1 J2 : List (List Str)} (n1 : A.Nodup) (n2 : G.Nodup) (w1 : Wf A J1) (w2 : Wf G J2) : sideT J1 J2 = pairT A G J1 J2 := by
  have e1 := wf_eq n1 w1
  have e2 := wf_eq n2 w2
  have l : sideT J1 J2 = A.flatMap fun x => G.map fun y => sideR (A.map (ap A J1 x)) (G.map (ap G J2 y)) := by
    unfold sideT
    conv => lhs; rw [e1]
    rw [List.flatMap_map]
    congr 1
    funext x
    conv => lhs; arg 2; rw [e2]
    rw [List.map_map]
    rfl
  rw [l]
  unfold pairT two
  rw [List.map_flatMap]
  congr 1
  funext x
  rw [List.map_map]
  congr 1
  funext y
  unfold sideR
  show _ = List.map _ (List.flatMap _ A)
  rw [List.map_flatMap, List.flatMap_map]
  congr 1
  funext a
  rw [List.map_map, List.map_map]
  rfl
end K06

set_option Elab.async false
set_option linter.all false
set_option maxRecDepth 100000
set_option maxHeartbeats 1000000
/-! Z5: both tables of what is told side by side. -/
namespace K06
open PySem PySem.Spec PyProof.Rows L2 Evl J ClX StX S D
/-- a table that stands beside r -/
def TabAt (H : Hp) (r D : Addr) (R : List (List Str)) : Prop := ∃ rs, H D = some (.lst (rs.map V.ref)) ∧ Rws H rs (strsOf R) ∧ D ≠ r ∧ ∀ l ∈ rs, l ≠ r
theorem TabAt.but {H H' : Hp} {r D : Addr} {R : List (List Str)} (h : TabAt H r D R) (b : But r H H') : TabAt H' r D R := by
  obtain ⟨rs, h1, h2, h3, h4⟩ := h
  exact ⟨rs, b _ _ h3 h1, ⟨h2.len, fun n p q x1 x2 => b _ _ (h4 p (List.mem_of_getElem? x1)) (h2.at_ n p q x1 x2)⟩, h3, h4⟩
theorem TabAt.dp {K : PySem.W.Frag} {H : Hp} {r D : Addr} {R : List (List Str)} (h : TabAt H r D R) : Dp K H (.ref D) (rowsL R) := by
  obtain ⟨rs, h1, h2, _⟩ := h
  exact dp_rows h1 h2
section
variable {K : PySem.W.Frag} {H : Hp} {d e r ln ln' : Addr} {kvs kvs' : List (Key × V)} {v1 v2 : V} {J1 J2 : List (List Str)} {key : Str} {A G : List Str}
abbrev tWord (K : PySem.W.Frag) : TS := tSeq (tAsg (tLst tNil) (gName 5)) (tSeq (tFor (iRng1 (tCons (tLenN K 0) tNil)) (gName 6) (tFor (iRng1 (tCons (tLenN K 1) tNil)) (gName 7) (tSeq (tAsg (tLst tNil) (gName 8)) (tSeq (tRow K) (tDrop (tBM K "list" rAppend (tVar 5) (tCons (tVar 8) tNil))))))) (tAsg (tVar 5) (gSub (tVar 2) (tVar 4) rSetD)))
theorem s_word {E : Ends} (hd : H d = some (.dK kvs)) (nm : valV kvs (Sum.inr "names") = some (.ref ln)) (sn : SqL K H ln (A.map V.str)) (vd : valV kvs (Sum.inr key) = some v1) (dp1 : Dp K H v1 (rowsL J1)) (w1 : Wf A J1) (he : H e = some (.dK kvs')) (nm' : valV kvs' (Sum.inr "names") = some (.ref ln')) (sn' : SqL K H ln' (G.map V.str)) (ve : valV kvs' (Sum.inr key) = some v2) (dp2 : Dp K H v2 (rowsL J2)) (w2 : Wf G J2)
    (z1 : A.length ≤ 8) (z2 : G.length ≤ 8) (za : ∀ x ∈ A, x.length ≤ 1000) (zb : ∀ x ∈ G, x.length ≤ 1000) {x3 x5 x6 x7 x8 x9 : Option V} {kv : List (Key × V)} (hr : H r = some (.dK kv)) (zk : kv.length ≤ 10)
    (k : ∀ D y3 y6 y7 y8 H2, But r H H2 → H2 r = some (.dK (putK kv (Sum.inr key) (.ref D))) → TabAt H2 r D (sideT J1 J2) → E.nx [some (.ref d), some (.ref e), some (.ref r), y3, some (.str key), some (.ref D), y6, y7, y8, x9] H2) :
    tWord K E [some (.ref d), some (.ref e), some (.ref r), x3, some (.str key), x5, x6, x7, x8, x9] H := by
  refine q_tab (K := K) (A := A) (G := G) (key := key) hd nm sn vd dp1 w1 he nm' sn' ve dp2 w2 z1 z2 za zb fun D y3 y6 y7 y8 H2 rs nD e2 hD lrs R => ?_
  have ne : ∀ b, H b = none → b ≠ r := fun b hb z => by
    rw [z, hr] at hb
    cases hb
  refine ⟨_, rfl, .ref r, rfl, _, rfl, ⟨r, _, rfl, DPut.k (k := Sum.inr key) (e2 _ _ hr) (sz_lt (by omega)), ?_⟩⟩
  exact k D y3 y6 y7 y8 _ ((But.of e2).trans But.upd) upd_same ⟨rs, by rw [upd_ne (ne D nD)]; exact hD, R.keep fun p hp => upd_ne (ne p (lrs p hp)), ne D nD, fun l hl => ne l (lrs l hl)⟩
end
end K06

set_option Elab.async false
set_option linter.all false
set_option maxRecDepth 100000
set_option maxHeartbeats 1000000
/-! Z6: _law_beside. -/
namespace K06
open PySem PySem.Spec PyProof.Rows L2 Evl J ClX StX S D
section
variable {K : PySem.W.Frag} {H : Hp} {d e r ln ln' : Addr} {kvs kvs' : List (Key × V)} {v1 v2 u1 u2 : V} {J1 J2 T1 T2 : List (List Str)} {A G : List Str}
theorem q_tabs {tz : TS} {E : Ends} (hd : H d = some (.dK kvs)) (nm : valV kvs (Sum.inr "names") = some (.ref ln)) (sn : SqL K H ln (A.map V.str)) (vd : valV kvs (Sum.inr "joins") = some v1) (dp1 : Dp K H v1 (rowsL J1)) (w1 : Wf A J1) (ud : valV kvs (Sum.inr "products") = some u1) (du1 : Dp K H u1 (rowsL T1)) (x1 : Wf A T1)
    (he : H e = some (.dK kvs')) (nm' : valV kvs' (Sum.inr "names") = some (.ref ln')) (sn' : SqL K H ln' (G.map V.str)) (ve : valV kvs' (Sum.inr "joins") = some v2) (dp2 : Dp K H v2 (rowsL J2)) (w2 : Wf G J2) (ue : valV kvs' (Sum.inr "products") = some u2) (du2 : Dp K H u2 (rowsL T2)) (x2 : Wf G T2)
    (z1 : A.length ≤ 8) (z2 : G.length ≤ 8) (za : ∀ x ∈ A, x.length ≤ 1000) (zb : ∀ x ∈ G, x.length ≤ 1000) {H1 : Hp} {l : Addr} {ys : List V} {lo hi : Str} (nr : H r = none) (e1 : Ex H H1) (g1 : H1 r = some (.dK [(Sum.inr "names", .ref l), (Sum.inr "low", .str lo), (Sum.inr "high", .str hi)])) (g2 : H1 l = some (.lst ys)) (g3 : l ≠ r) {x3 x4 x5 x6 x7 x8 x9 : Option V}
    (k : ∀ y3 y4 y5 y6 y7 y8 D1 D2 H2, Ex H H2 → H2 l = some (.lst ys) → H2 r = some (.dK [(Sum.inr "names", .ref l), (Sum.inr "low", .str lo), (Sum.inr "high", .str hi), (Sum.inr "joins", .ref D1), (Sum.inr "products", .ref D2)]) → TabAt H2 r D1 (sideT J1 J2) → TabAt H2 r D2 (sideT T1 T2) → tz E [some (.ref d), some (.ref e), some (.ref r), y3, y4, y5, y6, y7, y8, x9] H2) :
    tSeq (tFor (iTup K (tTup (tCons (tC (.str "joins")) (tCons (tC (.str "products")) tNil)))) (gName 4) (tWord K)) tz E [some (.ref d), some (.ref e), some (.ref r), x3, x4, x5, x6, x7, x8, x9] H1 := by
  refine s_forNT (D := { E with nx := tz E }) (eu_tup (ea_cons ev_c (ea_cons ev_c ea_nil)) (by simp)) (fun p i σ' H' => ∃ y3 y4 y5 y6 y7 y8, σ' = [some (.ref d), some (.ref e), some (.ref r), y3, y4, y5, y6, y7, y8, x9] ∧ Ex H H' ∧ p ≠ r ∧ H' p = some (.tup [.str "joins", .str "products"]) ∧ H' l = some (.lst ys) ∧
      (i = 0 → H' r = some (.dK [(Sum.inr "names", .ref l), (Sum.inr "low", .str lo), (Sum.inr "high", .str hi)])) ∧ (i = 1 → ∃ D1, H' r = some (.dK [(Sum.inr "names", .ref l), (Sum.inr "low", .str lo), (Sum.inr "high", .str hi), (Sum.inr "joins", .ref D1)]) ∧ TabAt H' r D1 (sideT J1 J2)) ∧
      (i = 2 → ∃ D1 D2, H' r = some (.dK [(Sum.inr "names", .ref l), (Sum.inr "low", .str lo), (Sum.inr "high", .str hi), (Sum.inr "joins", .ref D1), (Sum.inr "products", .ref D2)]) ∧ TabAt H' r D1 (sideT J1 J2) ∧ TabAt H' r D2 (sideT T1 T2)))
    (fun p H2 np e2 h2 => ⟨_, _, _, _, _, _, rfl, e1.trans e2, fun z => ?_, h2, e2 _ _ g2, fun _ => e2 _ _ g1, (fun z => by omega), (fun z => by omega)⟩) (fun p i σ' H' _ ⟨_, _, _, _, _, _, _, _, _, h, _⟩ => st_of h) ?_ ?_
  · rw [z, g1] at np
    cases np
  · rintro p i v σ' H2 hv ⟨y3, y4, y5, y6, y7, y8, rfl, e2, pr, f1, f2, f30, f31, f32⟩
    match i, hv with
    | 0, hv =>
      obtain rfl := Option.some.inj hv
      refine s_word (K := K) (A := A) (G := G) (key := "joins") (e2 _ _ hd) nm (ex_l e2 sn) vd (dp_ext e2 dp1) w1 (e2 _ _ he) nm' (ex_l e2 sn') ve (dp_ext e2 dp2) w2 z1 z2 za zb (f30 rfl) (by simp) fun D z3 z6 z7 z8 H3 b3 hr3 tb => ?_
      exact ⟨_, _, _, _, _, _, rfl, fun b u hb => b3 b u (fun z => by rw [z, nr] at hb; cases hb) (e2 _ _ hb), pr, b3 _ _ pr f1, b3 _ _ g3 f2, (fun z => by omega), (fun _ => ⟨D, hr3, tb⟩), (fun z => by omega)⟩
    | 1, hv =>
      obtain rfl := Option.some.inj hv
      obtain ⟨D1, hr1, tb1⟩ := f31 rfl
      refine s_word (K := K) (A := A) (G := G) (key := "products") (e2 _ _ hd) nm (ex_l e2 sn) ud (dp_ext e2 du1) x1 (e2 _ _ he) nm' (ex_l e2 sn') ue (dp_ext e2 du2) x2 z1 z2 za zb hr1 (by simp) fun D z3 z6 z7 z8 H3 b3 hr3 tb => ?_
      exact ⟨_, _, _, _, _, _, rfl, fun b u hb => b3 b u (fun z => by rw [z, nr] at hb; cases hb) (e2 _ _ hb), pr, b3 _ _ pr f1, b3 _ _ g3 f2, (fun z => by omega), (fun z => by omega), fun _ => ⟨D1, D, hr3, tb1.but b3, tb⟩⟩
    | n + 2, hv => simp at hv
  · rintro p σ' H2 ⟨y3, y4, y5, y6, y7, y8, rfl, e2, pr, f1, f2, f30, f31, f32⟩
    obtain ⟨D1, D2, h1, h2, h3⟩ := f32 rfl
    exact k _ _ _ _ _ _ D1 D2 H2 e2 f2 h1 h2 h3
end
end K06

set_option Elab.async false
set_option linter.all false
set_option maxRecDepth 100000
set_option maxHeartbeats 1000000
/-! Z1: _law_beside: its text as a term. -/
namespace K06
open PySem PySem.Spec PyProof.Rows L2 Evl J ClX StX S D
abbrev sBs : Stmt := topS 55
abbrev NBs : List Str := ["_law_first", "_law_last", "_law_found", "_law_a", "_law_word", "_law_rows", "_law_i", "_law_j", "_law_row", "_law_b"]
theorem scBs : FnScope NBs ["_law_first", "_law_last"] (defScope sBs) := ⟨rfl, rfl, rfl, by decide +kernel, rfl, by decide +kernel, by decide +kernel⟩
/-- what is told, with all that it stands on by its place -/
structure TolE (H : Hp) (d : Addr) (G : List Str) (J T : List (List Str)) (lo hi : Str) : Prop where
  ex : ∃ (kvs : List (Key × V)) (ln jn tn : Addr) (rj rt : List Addr), H d = some (.dK kvs) ∧ valV kvs (Sum.inr "names") = some (.ref ln) ∧ H ln = some (.lst (G.map V.str)) ∧ valV kvs (Sum.inr "joins") = some (.ref jn) ∧ H jn = some (.lst (rj.map V.ref)) ∧ Rws H rj (strsOf J) ∧ valV kvs (Sum.inr "products") = some (.ref tn) ∧ H tn = some (.lst (rt.map V.ref)) ∧ Rws H rt (strsOf T) ∧
    valV kvs (Sum.inr "low") = some (.str lo) ∧ valV kvs (Sum.inr "high") = some (.str hi)
  gd : GoodW G J T lo hi
theorem TolE.tol {K : PySem.W.Frag} {H : Hp} {d : Addr} {G : List Str} {J T : List (List Str)} {lo hi : Str} (h : TolE H d G J T lo hi) : TolW K H d G J T lo hi := by
  obtain ⟨kvs, ln, jn, tn, rj, rt, h1, h2, h3, h4, h5, h6, h7, h8, h9, h10, h11⟩ := h.ex
  exact ⟨⟨kvs, ln, .ref jn, .ref tn, h1, h2, sq_of h3, h4, dp_rows h5 h6, h7, dp_rows h8 h9, h10, h11⟩, h.gd⟩
theorem TolE.ext {H H' : Hp} {d : Addr} {G : List Str} {J T : List (List Str)} {lo hi : Str} (h : TolE H d G J T lo hi) (e : Ex H H') : TolE H' d G J T lo hi := by
  obtain ⟨kvs, ln, jn, tn, rj, rt, h1, h2, h3, h4, h5, h6, h7, h8, h9, h10, h11⟩ := h.ex
  exact ⟨⟨kvs, ln, jn, tn, rj, rt, e _ _ h1, h2, e _ _ h3, h4, e _ _ h5, h6.ext e, h7, e _ _ h8, h9.ext e, h10, h11⟩, h.gd⟩
/-- a list that is none of its own is written to -/
theorem TolE.off {H H' : Hp} {d D : Addr} {xs : List V} {G : List Str} {J T : List (List Str)} {lo hi : Str} (h : TolE H d G J T lo hi) (hD : H D = some (.lst xs)) (n1 : ∀ ss : List Str, ss ≠ [] → xs ≠ ss.map V.str) (n2 : ∀ rs : List Addr, rs ≠ [] → (∀ r ∈ rs, ∃ ys, H r = some (.lst ys)) → xs ≠ rs.map V.ref) (b : But D H H') : TolE H' d G J T lo hi := by
  obtain ⟨kvs, ln, jn, tn, rj, rt, h1, h2, h3, h4, h5, h6, h7, h8, h9, h10, h11⟩ := h.ex
  have gz : G ≠ [] := fun z => by
    have := h.gd.z1
    rw [z] at this
    cases this
  have rowN : ∀ {U : List (List Str)} {rs : List Addr}, Wf G U → Rws H rs (strsOf U) → rs ≠ [] ∧ (∀ r ∈ rs, ∃ ss : List Str, ss ≠ [] ∧ H r = some (.lst (ss.map V.str))) := fun {U rs} wu r => by
    have l := r.len
    rw [strsOf, List.length_map] at l
    refine ⟨fun z => ?_, fun a ha => ?_⟩
    · have := wu.len
      rw [z] at l
      have g1 := h.gd.z1
      simp at l
      omega
    · obtain ⟨n, hn⟩ := List.getElem?_of_mem ha
      have ln2 : n < U.length := by
        have := (List.getElem?_eq_some_iff.mp hn).1
        omega
      have hr : (strsOf U)[n]? = some (U[n].map V.str) := by
        rw [strsOf, List.getElem?_map, List.getElem?_eq_getElem ln2]
        rfl
      refine ⟨U[n], fun z => ?_, r.at_ n a _ hn hr⟩
      have := wu.row U[n] (List.getElem_mem ln2)
      have g1 := h.gd.z1
      rw [z] at this
      simp at this
      omega
  obtain ⟨j1, j2⟩ := rowN h.gd.wj h6
  obtain ⟨t1, t2⟩ := rowN h.gd.wt h9
  have kd : d ≠ D := fun z => by
    rw [z, hD] at h1
    cases h1
  have kl : ln ≠ D := fun z => by
    rw [z, hD] at h3
    exact n1 G gz (HO.lst.inj (Option.some.inj h3))
  have ki : ∀ {a : Addr} {rs : List Addr}, rs ≠ [] → (∀ r ∈ rs, ∃ ss : List Str, ss ≠ [] ∧ H r = some (.lst (ss.map V.str))) → H a = some (.lst (rs.map V.ref)) → a ≠ D := fun {a rs} hn hr ha z => by
    rw [z, hD] at ha
    exact n2 rs hn (fun r m => let ⟨ss, _, e⟩ := hr r m; ⟨_, e⟩) (HO.lst.inj (Option.some.inj ha))
  have kr : ∀ {rs : List Addr} {U : List (List Str)}, (∀ r ∈ rs, ∃ ss : List Str, ss ≠ [] ∧ H r = some (.lst (ss.map V.str))) → Rws H rs (strsOf U) → Rws H' rs (strsOf U) := fun {rs U} hr r => ⟨r.len, fun n y v x1 x2 => b y _ (fun z => by
    obtain ⟨ss, e1, e2⟩ := hr y (List.mem_of_getElem? x1)
    rw [z, hD] at e2
    exact n1 ss e1 (HO.lst.inj (Option.some.inj e2))) (r.at_ n y v x1 x2)⟩
  exact ⟨⟨kvs, ln, jn, tn, rj, rt, b _ _ kd h1, h2, b _ _ kl h3, h4, b _ _ (ki j1 j2 h5) h5, kr j2 h6, h7, b _ _ (ki t1 t2 h8) h8, kr t2 h9, h10, h11⟩, h.gd⟩
/-- what it tells: the two side by side -/
def spBs (K : PySem.W.Frag) : Sp := fun vs H Q _ => ∃ (d e : Addr) (A G : List Str) (J1 T1 J2 T2 : List (List Str)) (l1 h1 l2 h2 : Str), vs = [.ref d, .ref e] ∧ TolW K H d A J1 T1 l1 h1 ∧ TolW K H e G J2 T2 l2 h2 ∧ A.length * G.length ≤ 8 ∧ Inj A G ∧ (∀ x ∈ A, x.length ≤ 1000) ∧ (∀ x ∈ G, x.length ≤ 1000) ∧
  ∀ r H', H r = none → Ex H H' → TolE H' r (pairG A G) (pairT A G J1 J2) (pairT A G T1 T2) (bes l1 l2) (bes h1 h2) → Q (.ref r) H'
section
variable {P : Program} {w : World} {K : PySem.W.Frag} {mg : Str → Option Value} {base : Heap} {f : Addr} {fd : FuncData}
theorem ok_bs (F : FnP K "_law_beside" sBs f fd) (T : Bl mg) : FnOk P w K mg base CX0 1 f fd ["_law_first", "_law_last"] (spBs K) := by
  refine F.ok scBs (fun vs H Q E h => ?_) (fun cdv A0 outer s0 H vs Q E hr h => ?_)
  · obtain ⟨d, e, A, G, J1, T1, J2, T2, l1, h1, l2, h2, rfl, _⟩ := h
    rfl
  · obtain ⟨d, e, A, G, J1, T1, J2, T2, l1, h1, l2, h2, rfl, td, te, hz, inj, zA, zG, q⟩ := h
    have hu : (A0.deeper (envOfC "_law_beside" (defScope sBs) s0.heap.objs.size f cdv)).units + 1 < cLine := by
      have := hr.un
      omega
    refine ⟨_, PSs.nox (pss_cons (ps_set (i := 2) scBs.nd rfl (Or.inl rfl) (pe_disp (pps_cons pe_str (pe_lst pa_nil) pps_nil) rfl rfl (fun z => nomatch z) (by decide)))
      (pss_cons (ps_for PassesOwn.never rfl (pi_list (pe_dget hu (pv 0) pe_str (fun _ _ => rfl))) (pg_name (i := 3) scBs.nd rfl (Or.inr rfl))
        (pss_one (ps_asg (pe_op op_cat (pe_dget hu (pv 2) pe_str (fun _ _ => rfl)) (pe_lc (own := [("_law_b", 9)]) (g := gName 9) (tt := tYes) (te := teBs) rfl scBs.nd (pi_list (pe_dget hu (pv 1) pe_str (fun _ _ => rfl))) (blkOk_by (N := NBs) (sc := defScope sBs) (by decide +kernel)) (fun _ _ _ _ _ => pg_name (i := 9) scBs.nd rfl (Or.inl rfl)) (fun _ _ _ _ _ => pts_nil) (fun _ _ _ _ _ => by exact pe_op op_add_str (pe_op op_add_str (pv 3) pe_str) (pv 9)))) (pg_sub (pv 2) pe_str (set_dict hu)))))
      (pss_cons (ps_for PassesOwn.never rfl (pi_tup (pe_tup (pa_cons pe_str (pa_cons pe_str pa_nil)))) (pg_name (i := 4) scBs.nd rfl (Or.inl rfl))
        (pss_one (ps_asg (pe_op op_add_str (pe_op op_add_str (pe_dget hu (pv 0) (pv 4) (fun _ _ => rfl)) pe_str) (pe_dget hu (pv 1) (pv 4) (fun _ _ => rfl))) (pg_sub (pv 2) (pv 4) (set_dict hu)))))
      (pss_cons (ps_for PassesOwn.never rfl (pi_tup (pe_tup (pa_cons pe_str (pa_cons pe_str pa_nil)))) (pg_name (i := 4) scBs.nd rfl (Or.inl rfl))
        (pss_cons (ps_set (i := 5) scBs.nd rfl (Or.inl rfl) (pe_lst pa_nil))
        (pss_cons (ps_for PassesOwn.never rfl (pi_range1 rfl T.rng (pa_cons (pe_callB call_len_seq (by rfl) T.len boot_len (pa_cons (pe_dget hu (pv 0) pe_str (fun _ _ => rfl)) pa_nil)) pa_nil)) (pg_name (i := 6) scBs.nd rfl (Or.inl rfl))
          (pss_one (ps_for PassesOwn.never rfl (pi_range1 rfl T.rng (pa_cons (pe_callB call_len_seq (by rfl) T.len boot_len (pa_cons (pe_dget hu (pv 1) pe_str (fun _ _ => rfl)) pa_nil)) pa_nil)) (pg_name (i := 7) scBs.nd rfl (Or.inl rfl))
            (pss_cons (ps_set (i := 8) scBs.nd rfl (Or.inl rfl) (pe_lst pa_nil))
            (pss_cons (ps_for PassesOwn.never rfl (pi_list (pe_ix ix_list (pe_dget hu (pv 0) (pv 4) (fun _ _ => rfl)) (pv 6) (fun _ _ => rfl))) (pg_name (i := 3) scBs.nd rfl (Or.inr rfl))
              (pss_one (ps_set (i := 8) scBs.nd rfl (Or.inl rfl) (pe_op op_cat (pv 8) (pe_lc (own := [("_law_b", 9)]) (g := gName 9) (tt := tYes) (te := teBs) rfl scBs.nd (pi_list (pe_ix ix_list (pe_dget hu (pv 1) (pv 4) (fun _ _ => rfl)) (pv 7) (fun _ _ => rfl))) (blkOk_by (N := NBs) (sc := defScope sBs) (by decide +kernel)) (fun _ _ _ _ _ => pg_name (i := 9) scBs.nd rfl (Or.inl rfl)) (fun _ _ _ _ _ => pts_nil) (fun _ _ _ _ _ => by exact pe_op op_add_str (pe_op op_add_str (pv 3) pe_str) (pv 9)))))))
            (pss_one (ps_expr (pe_bm PySem.F.plainAttrs_list PySem.F.slot_list_append PySem.F.type_list_append mt_append (pv 5) (pa_cons (pv 8) pa_nil)))))))))
        (pss_one (ps_asg (pv 5) (pg_sub (pv 2) (pv 4) (set_dict hu)))))))
      (pss_one (ps_ret (pv 2))))))), ?_⟩
    obtain ⟨kvs, ln, vj, vt, a1, a2, a3, a4, a5, a6, a7, a8, a9⟩ := td.ex
    obtain ⟨kvs', ln', vj', vt', b1, b2, b3, b4, b5, b6, b7, b8, b9⟩ := te.ex
    have ga := td.gd
    have gb := te.gd
    refine q_told1 (el_lst ea_nil (by simp)) fun r l0 H1 nr lr e1 g1 g2 => ?_
    refine q_names (K := K) (A := A) (G := G) a1 a2 a3 b1 b2 b3 hz ga.z8 gb.z8 zA zG nr e1 g1 g2 lr fun y3 l H2 e2 g1 g2 g3 => ?_
    refine q_ends (K := K) a1 a8 a9 b1 b8 b9 (zA _ ga.lo) (zA _ ga.hi) (zG _ gb.lo) (zG _ gb.hi) nr e2 g1 g2 g3 fun y4 H3 e3 g1 g2 => ?_
    refine q_tabs (K := K) (A := A) (G := G) a1 a2 a3 a4 a5 ga.wj a6 a7 ga.wt b1 b2 b3 b4 b5 gb.wj b6 b7 gb.wt ga.z8 gb.z8 zA zG nr e3 g1 g2 g3 fun y3 y4 y5 y6 y7 y8 D1 D2 H4 e4 f1 f2 t1 t2 => ?_
    rw [side_pair ga.nd gb.nd ga.wj gb.wj] at t1
    rw [side_pair ga.nd gb.nd ga.wt gb.wt] at t2
    obtain ⟨rs1, u1, u2, _⟩ := t1
    obtain ⟨rs2, w1, w2, _⟩ := t2
    refine s_ret (ev_var rfl) fun H5 e5 => q r H5 nr (e4.trans e5) (TolE.ext ⟨⟨_, l, D1, D2, rs1, rs2, f2, rfl, f1, rfl, u1, u2, rfl, w1, w2, rfl, rfl⟩, pair_nodup inj ga.nd gb.nd, ?_, ?_, pair_wf ga.wj gb.wj, pair_wf ga.wt gb.wt, pair_mem.mpr ⟨_, _, ga.lo, gb.lo, rfl⟩, pair_mem.mpr ⟨_, _, ga.hi, gb.hi, rfl⟩⟩ e5)
    · rw [pair_len]
      exact Nat.mul_le_mul ga.z1 gb.z1
    · rw [pair_len]
      exact hz
end
end K06

set_option Elab.async false
set_option linter.all false
set_option maxRecDepth 100000
set_option maxHeartbeats 1000000
/-! Z7: a class called by a name of its own (cls(..)); ScaleMap.same. -/
namespace S
open PySem PySem.Spec PyProof.Rows L2 Evl J ClX StX
def tMakeV (C : Addr) (sp : Sp) (dvs : List V) (E : XK) (tf : TE) (t : TA) : TE := fun σ H Q => tf σ H fun y H1 => y = .ref C ∧ tMake C sp dvs E t σ H1 Q
section
variable {X : Cx} {CX : CXT} {k : Nat} {C f : Addr} {fd : FuncData} {ps : List Str} {ds : List Value} {dvs : List V} {sp : Sp} {E : XK} {fe e : Expr} {es : List Expr} {tf : TE} {t : TA} {pos : Pos}
theorem pe_makeV (hf : PE X fe tf) (M : Mk X.K C f) (F : FnOk X.prog X.w X.K X.mg X.base CX k f fd ps sp) (hr : Room (k + 1) X.A) (hb : Binds X.K fd ps ds) (hd : Vals dvs ds) (hx : Passes CX X E) (ha : PA X (e :: es) t)
    (ht : eval (.Call fe (e :: es) [] pos) X.env = (do callWith pos (← eval fe X.env) [] (backTo pos (starEach (e :: es) X.env)) (backToKw pos (keywordEach [] X.env))) := by rfl)
    (hs : starEach (e :: es) X.env = (false, eval e X.env) :: starEach es X.env := by rfl) (hp : (backTo pos (starEach es X.env)).any (·.1) = false := by rfl) : PE X (.Call fe (e :: es) [] pos) (tMakeV C sp dvs E tf t) := by
  refine ⟨fun pins s σ H Q I h => ?_⟩
  refine Call_ (thn (hf.run pins s σ H _ I h) fun u s1 ⟨y, H1, J1, ry, ey, q⟩ => ?_) ht
  subst ey
  obtain rfl : u = Value.ref C := ry
  refine PySem.W.callWith_K (h₀ := X.base) J1.ok.mod.kin M.kp (thn (ha.run pos pins s1 σ H1 _ J1 q) fun us s2 ⟨vs, H2, J2, r, q2⟩ => ⟨J2.kIn, ?_⟩) hs hp
  exact run_make M F hr hb hd hx J2 r q2
end
end S
namespace K06
open PySem PySem.Spec PyProof.Rows L2 Evl J ClX StX S D
abbrev sSm : Stmt := methS 17 1
theorem lead_self {A : List Str} {x : Str} (hx : x ∈ A) : leadF A A x = x := by
  unfold leadF
  rw [List.getD_eq_getElem?_getD, idx_get hx]
  rfl
theorem keeps_self {A : List Str} {J T : List (List Str)} {lo hi : Str} (w : Wf A J) (x : Wf A T) (ml : lo ∈ A) (mh : hi ∈ A) : Keeps A J T lo hi A J T lo hi (leadF A A) where
  lo := lead_self ml
  hi := lead_self mh
  jo a b ha hb := by rw [lead_self (ap_mem w ha hb), lead_self ha, lead_self hb]
  th a b ha hb := by rw [lead_self (ap_mem x ha hb), lead_self ha, lead_self hb]
def spSm (K : PySem.W.Frag) (CS CM : Addr) : Sp := fun vs H Q _ => ∃ (s : Addr) (A : List Str) (J T : List (List Str)) (lo hi : Str), vs = [.ref CM, .ref s] ∧ ScAt K CS H s A J T lo hi ∧ ∀ r H', H r = none → Ex H H' → MapAt CM H' r s s A A (leadF A A) → ImgAt K CM H' r A → Q (.ref r) H'
theorem scSm : FnScope ["cls", "scale"] ["cls", "scale"] (defScope sSm) := ⟨rfl, rfl, rfl, by decide +kernel, rfl, by decide +kernel, by decide +kernel⟩
section
variable {P : Program} {w : World} {K : PySem.W.Frag} {mg : Str → Option Value} {base : Heap} {f fM CS CM : Addr} {fd fdM : FuncData}
theorem ok_same (F : FnM K "same" "ScaleMap.same" sSm f fd) (M : Mk K CM fM) (hb : Binds K fdM ["self", "source", "target", "images"] []) (FM : FnOk P w K mg base CX0 5 fM fdM ["self", "source", "target", "images"] (spMI K CS CS CM)) (cG : MCal P w K mg base CX0 1 CS "grades" ["self"] (spGrades K CS)) : FnOk P w K mg base CX0 7 f fd ["cls", "scale"] (spSm K CS CM) := by
  refine F.ok scSm (fun vs H Q E h => ?_) (fun cdv A0 outer s0 H vs Q E hr h => ?_)
  · obtain ⟨s, A, J, T, lo, hi, rfl, _⟩ := h
    rfl
  · obtain ⟨s, A, J, T, lo, hi, rfl, sc, q⟩ := h
    have hr1 : Room 1 (A0.deeper (envOfC "ScaleMap.same" (defScope sSm) s0.heap.objs.size f cdv)) := hr.mono (by decide)
    refine ⟨_, pss_one (ps_ret (pe_makeV (pv 0) M FM hr hb .nil pass0 (pa_cons (pv 1) (pa_cons (pv 1) (pa_cons (pe_mcal0 cG (pv 1) hr1 pass0) pa_nil))))), ?_⟩
    exact ⟨_, rfl, rfl, mk_map (Q := Q) (ev_var rfl) (ev_var rfl) (el_gradesA (ev_var rfl) sc) sc sc rfl (fun x hx => hx) (keeps_self sc.wj sc.wt sc.lo sc.hi) fun r H' n e mp im => q r H' n e mp im⟩
end
end K06

set_option Elab.async false
set_option linter.all false
set_option maxRecDepth 100000
set_option maxHeartbeats 1000000
/-! Z8 (of no law): dict(zip(xs, ys, strict=True)), xs a list, ys a tuple of the same length, not empty. -/
namespace ZS
open PySem
/-- a strict zip: the tuple that it gave out (or None), whether it is known to be held, the iterators, its own tuple -/
abbrev Zs (h : Heap) (zz pp qq : Addr) (o : Value) (b : Bool) : Prop :=
  h.get? zz = some { cls := .type "zip", dict := none, data := .fields #[o, .bool b, .bool true, .ref pp, .ref qq], slots := #[] }
section
variable {prog : Program} {w : World} {A : Around} {E : Value → Shared → Prop} {s : Shared}
theorem noe {it : Value} {Q : Option Value → Shared → Prop} (h : wpAny (model prog w) A (Builtin.SmallTypes.nextOf it) (fun v s' => Q (some v) s') (fun e s' => ∃ a o, e = .ref a ∧ s'.heap.get? a = some o ∧ o.cls = .type "StopIteration" ∧ Q none s') s) :
    wpAny (model prog w) A (Builtin.SmallTypes.nextOrEnd it) Q E s := by
  unfold Builtin.SmallTypes.nextOrEnd
  refine wpAny_bind (wpAny_attempt (wpAny_mono h (fun v s' q => wpAny_pure q) (fun e s' q => ?_)))
  obtain ⟨a, o, rfl, ho, hc, q⟩ := q
  exact wpAny_bind (wpAny_isInstance (T := "StopIteration") (b := true) ⟨o, ho, hc⟩ isSubtype_stop (wpAny_pure q))
variable {zz pp qq ia ib la lb : Addr} {n : Nat} {xs ys : Array Value}
theorem first_pair {x y a b : Value} {Q : Option Value → Shared → Prop} (D : ZipApart zz pp qq ia ib la lb) (gz : Zs s.heap zz pp qq .none false) (gp : IsPair s.heap pp (.ref ia) (.ref ib)) (gq : IsPair s.heap qq a b)
    (ga : s.heap.IsListIter ia la n) (gb : s.heap.IsTupleIter ib lb n) (gl : s.heap.IsList la xs) (gt : s.heap.IsTuple lb ys) (ex : xs[n]? = some x) (ey : ys[n]? = some y)
    (R : ∀ h', Zs h' zz pp qq (rawInt s.heap.objs.size) false → h'.IsListIter ia la (n + 1) → h'.IsTupleIter ib lb (n + 1) → IsPair h' s.heap.objs.size x y → (∀ c o, c ≠ zz → c ≠ qq → c ≠ ia → c ≠ ib → s.heap.get? c = some o → h'.get? c = some o) → Q (some (.ref s.heap.objs.size)) { s with heap := h' }) :
    wpAny (model prog w) A (pyNext (.ref zz)) Q E s := by
  have ty : s.TypeIs (.ref zz) "zip" := ⟨_, gz, rfl⟩
  unfold pyNext
  refine wpAny_bind (wpAny_attempt (wpAny_callSpecial?_slot (name := Str.ofString "__next__") ty F.slot_zip_next (wpAny_call_entry F.slot_zip_next ty F.entry_zip_next ?_ (F.args_zip_next_1 _))))
  change wpAny _ _ (field (.ref zz) 2 >>= _) _ _ _
  refine wpAny_bind (wpAny_field gz rfl (x := .bool true) rfl ?_)
  change wpAny _ _ (field (.ref zz) 3 >>= _) _ _ _
  refine wpAny_bind (wpAny_field gz rfl (x := .ref pp) rfl (wpAny_bind (wpAny_seqItems gp rfl ?_)))
  change wpAny _ _ (Builtin.SmallTypes.ownedTupleIsFree (.ref zz) >>= _) _ _ _
  refine wpAny_bind ?_
  unfold Builtin.SmallTypes.ownedTupleIsFree
  refine wpAny_bind (wpAny_field gz rfl (x := .none) rfl (wpAny_pure ?_))
  simp only [if_true]
  refine wpAny_bind (wpAny_rule (wpAny_bind (wpAny_field gz rfl (x := .ref qq) rfl (wpAny_bind (wpAny_setField_rec gz (by simp) fun k1 z1 u1 => ?_)))))
  replace z1 : Zs k1 zz pp qq .ellipsis false := z1
  refine wpAny_bind ?_
  simp only [List.zipIdx_cons, List.zipIdx_nil, List.forIn_cons, List.forIn_nil]
  refine wpAny_bind (wpAny_bind (wpAny_onRaise ?_))
  change wpAny _ _ (Builtin.SmallTypes.nextOrEnd (.ref ia)) _ _ _
  refine noe (wpAny_nextOf_list_item (ga.extBut u1.extBut D.i1z) (gl.extBut u1.extBut D.l1z) ex fun k2 a2 u2 => ?_)
  have q2 : IsPair k2 qq a b := u2.extBut _ _ D.TOi1 (u1.extBut _ _ D.TOz gq)
  refine wpAny_bind (wpAny_seqItems q2 rfl (wpAny_bind (wpAny_updateSeq_pair q2 fun k3 q3 u3 => ?_)))
  replace q3 : IsPair k3 qq x b := q3
  refine wpAny_bind (wpAny_letGo (wpAny_pure ?_))
  refine wpAny_bind (wpAny_bind (wpAny_onRaise ?_))
  change wpAny _ _ (Builtin.SmallTypes.nextOrEnd (.ref ib)) _ _ _
  refine noe (RZ.nextOf_tuple_item (((gb.extBut u1.extBut D.i2z).extBut u2.extBut D.i12.symm).extBut u3.extBut D.TOi2.symm) (((gt.extBut u1.extBut D.l2z).extBut u2.extBut D.l2i1).extBut u3.extBut D.l2TO) ey fun k4 b4 u4 => ?_)
  have q4 : IsPair k4 qq x b := u4.extBut _ _ D.TOi2 q3
  refine wpAny_bind (wpAny_seqItems q4 rfl (wpAny_bind (wpAny_updateSeq_pair q4 fun k5 q5 u5 => ?_)))
  replace q5 : IsPair k5 qq x y := q5
  refine wpAny_bind (wpAny_letGo (wpAny_pure (wpAny_pure ?_)))
  refine wpAny_bind (wpAny_seqItems q5 rfl (wpAny_bind (wpAny_newTuple ?_)))
  have z5 : Zs k5 zz pp qq .ellipsis false := u5.extBut _ _ D.TOz.symm (u4.extBut _ _ D.i2z.symm (u3.extBut _ _ D.TOz.symm (u2.extBut _ _ D.i1z.symm z1)))
  have sz : k5.objs.size = s.heap.objs.size := by rw [u5.1, u4.1, u3.1, u2.1, u1.1]
  have up5 : ∀ c o, c ≠ zz → c ≠ qq → c ≠ ia → c ≠ ib → s.heap.get? c = some o → k5.get? c = some o := fun c o c1 c2 c3 c4 e => u5.extBut _ _ c2 (u4.extBut _ _ c4 (u3.extBut _ _ c2 (u2.extBut _ _ c3 (u1.extBut _ _ c1 e))))
  have a5 : k5.IsListIter ia la (n + 1) := ((a2.extBut u3.extBut D.TOi1.symm).extBut u4.extBut D.i12).extBut u5.extBut D.TOi1.symm
  have b5 : k5.IsTupleIter ib lb (n + 1) := b4.extBut u5.extBut D.TOi2.symm
  have lz : zz ≠ k5.objs.size := Nat.ne_of_lt (Heap.lt_size z5)
  change wpAny _ _ (Builtin.SmallTypes.ownedTupleHandOut (.ref zz) (.ref k5.objs.size) >>= _) _ _ _
  refine wpAny_bind ?_
  unfold Builtin.SmallTypes.ownedTupleHandOut
  have z6 : Zs (k5.push { cls := .type "tuple", data := .seq #[x, y] }) zz pp qq .ellipsis false := Heap.get?_push_of_some _ z5
  refine wpAny_bind (wpAny_setField_rec z6 (by simp) fun k7 z7 u7 => ?_)
  replace z7 : Zs k7 zz pp qq (rawInt k5.objs.size) false := z7
  refine wpAny_setField_rec z7 (by simp) fun k8 z8 u8 => ?_
  replace z8 : Zs k8 zz pp qq (rawInt k5.objs.size) false := z8
  have up8 : ∀ c o, c ≠ zz → k5.get? c = some o → k8.get? c = some o := fun c o c1 e => u8.extBut _ _ c1 (u7.extBut _ _ c1 (Heap.get?_push_of_some _ e))
  have t8 : IsPair k8 k5.objs.size x y := u8.extBut _ _ lz.symm (u7.extBut _ _ lz.symm (Heap.get?_push_size _ rfl))
  rw [sz] at z8 t8
  refine wpAny_pure ⟨_, rfl, wpAny_pure ?_⟩
  change Q (some (.ref k5.objs.size)) _
  rw [sz]
  exact R k8 z8 (a5.at fun o e => up8 _ o D.i1z e) (b5.at fun o e => up8 _ o D.i2z e) t8 fun c o c1 c2 c3 c4 e => up8 c o c1 (up5 c o c1 c2 c3 c4 e)
theorem held_known {T : Addr} {f : Bool} {oT : Obj} {Q : Bool → Shared → Prop} (gz : Zs s.heap zz pp qq (rawInt T) f) (gT : s.heap.get? T = some oT) (R : ∀ h', Zs h' zz pp qq (rawInt T) true → Heap.SameBut zz s.heap h' → Q false { s with heap := h' }) :
    wpAny (model prog w) A (Builtin.SmallTypes.ownedTupleIsFree (.ref zz)) Q E s := by
  unfold Builtin.SmallTypes.ownedTupleIsFree
  refine wpAny_bind (wpAny_field gz rfl (x := rawInt T) rfl ?_)
  change wpAny _ _ (loadIfAlive ((T : Int).toNat) >>= _) _ _ _
  rw [Int.toNat_natCast]
  refine wpAny_bind (PySem.W.kdx_alive gT ?_)
  simp only [Option.isNone_some, Bool.false_eq_true, if_false]
  refine wpAny_bind (wpAny_field gz rfl (x := .bool f) rfl ?_)
  cases f with
  | true => exact wpAny_pure (R s.heap gz (Heap.SameBut.refl _ _))
  | false => exact wpAny_bind (wpAny_setField_rec gz (by simp) fun k1 z1 u1 => wpAny_pure (R k1 z1 u1))
theorem next_pair {T : Addr} {f : Bool} {oT : Obj} {x y : Value} {Q : Option Value → Shared → Prop} (D : ZipApart zz pp qq ia ib la lb) (gz : Zs s.heap zz pp qq (rawInt T) f) (gT : s.heap.get? T = some oT) (gp : IsPair s.heap pp (.ref ia) (.ref ib))
    (ga : s.heap.IsListIter ia la n) (gb : s.heap.IsTupleIter ib lb n) (gl : s.heap.IsList la xs) (gt : s.heap.IsTuple lb ys) (ex : xs[n]? = some x) (ey : ys[n]? = some y)
    (R : ∀ h', Zs h' zz pp qq (rawInt T) true → h'.IsListIter ia la (n + 1) → h'.IsTupleIter ib lb (n + 1) → IsPair h' s.heap.objs.size x y → (∀ c o, c ≠ zz → c ≠ ia → c ≠ ib → s.heap.get? c = some o → h'.get? c = some o) → Q (some (.ref s.heap.objs.size)) { s with heap := h' }) :
    wpAny (model prog w) A (pyNext (.ref zz)) Q E s := by
  have ty : s.TypeIs (.ref zz) "zip" := ⟨_, gz, rfl⟩
  unfold pyNext
  refine wpAny_bind (wpAny_attempt (wpAny_callSpecial?_slot (name := Str.ofString "__next__") ty F.slot_zip_next (wpAny_call_entry F.slot_zip_next ty F.entry_zip_next ?_ (F.args_zip_next_1 _))))
  change wpAny _ _ (field (.ref zz) 2 >>= _) _ _ _
  refine wpAny_bind (wpAny_field gz rfl (x := .bool true) rfl ?_)
  change wpAny _ _ (field (.ref zz) 3 >>= _) _ _ _
  refine wpAny_bind (wpAny_field gz rfl (x := .ref pp) rfl (wpAny_bind (wpAny_seqItems gp rfl ?_)))
  change wpAny _ _ (Builtin.SmallTypes.ownedTupleIsFree (.ref zz) >>= _) _ _ _
  refine wpAny_bind (held_known gz gT fun k1 z1 u1 => ?_)
  simp only [Bool.false_eq_true, if_false]
  refine wpAny_bind ?_
  rw [← Array.forIn_toList]
  simp only [List.forIn_cons, List.forIn_nil]
  refine wpAny_bind (wpAny_bind (wpAny_holding ?_))
  change wpAny _ _ (Builtin.SmallTypes.nextOrEnd (.ref ia)) _ _ _
  refine noe (wpAny_nextOf_list_item (s := { s with heap := k1 }) (ga.extBut u1.extBut D.i1z) (gl.extBut u1.extBut D.l1z) ex fun k2 a2 u2 => wpAny_pure ?_)
  refine wpAny_bind (wpAny_bind (wpAny_holding ?_))
  change wpAny _ _ (Builtin.SmallTypes.nextOrEnd (.ref ib)) _ _ _
  refine noe (RZ.nextOf_tuple_item (s := { s with heap := k2 }) ((gb.extBut u1.extBut D.i2z).extBut u2.extBut D.i12.symm) ((gt.extBut u1.extBut D.l2z).extBut u2.extBut D.l2i1) ey fun k3 b3 u3 => wpAny_pure (wpAny_pure ?_))
  change wpAny _ _ (newTuple [x, y] >>= _) _ _ _
  refine wpAny_bind (wpAny_newTuple ?_)
  have sz : k3.objs.size = s.heap.objs.size := by rw [u3.1, u2.1, u1.1]
  have z3 : Zs k3 zz pp qq (rawInt T) true := u3.extBut _ _ D.i2z.symm (u2.extBut _ _ D.i1z.symm z1)
  have up3 : ∀ c o, c ≠ zz → c ≠ ia → c ≠ ib → s.heap.get? c = some o → k3.get? c = some o := fun c o c1 c2 c3 e => u3.extBut _ _ c3 (u2.extBut _ _ c2 (u1.extBut _ _ c1 e))
  refine wpAny_pure ⟨_, rfl, wpAny_pure ?_⟩
  change Q (some (.ref k3.objs.size)) _
  have t4 : IsPair (k3.push { cls := .type "tuple", data := .seq #[x, y] }) k3.objs.size x y := Heap.get?_push_size _ rfl
  rw [sz] at t4 ⊢
  exact R _ (Heap.get?_push_of_some _ z3) ((a2.extBut u3.extBut D.i12).at fun o e => Heap.get?_push_of_some _ e) (b3.at fun o e => Heap.get?_push_of_some _ e) t4 fun c o c1 c2 c3 e => Heap.get?_push_of_some _ (up3 c o c1 c2 c3 e)
end
section
variable {prog : Program} {w : World} {A : Around} {E : Value → Shared → Prop} {s : Shared}
theorem stop_raised {α : Type} {Q : α → Shared → Prop} (hh : A.handled = none) (R : ∀ h' e, (∀ c o, s.heap.get? c = some o → h'.get? c = some o) → (∃ o, h'.get? e = some o ∧ o.cls = .type "StopIteration") → E (.ref e) { s with heap := h' }) :
    wpAny (model prog w) A (Builtin.SmallTypes.stopIteration (α := α)) Q E s := by
  change wpAny _ _ (newExc (.type "StopIteration") [] >>= _) _ _ _
  refine wpAny_bind ?_
  simp only [newExc, newTuple]
  refine wpAny_bind (wpAny_newObj_type ?_ (by size_fits))
  refine wpAny_bind (m := firstArgMember _ _) (wpAny_of_eq (a := Value.none) (by first | rfl | (simp only [firstArgMember]; rfl)) (wpAny_newObj_type ?_ (by size_fits)))
  simp only [raiseNew]
  refine wpAny_bind (wpAny_handled ?_)
  rw [hh]
  exact wpAny_bind (wpAny_pure (wpAny_throw (R _ _ (fun c o e => Heap.get?_push_of_some _ (Heap.get?_push_of_some _ e)) ⟨_, Heap.get?_push_size _ rfl, rfl⟩)))
variable {zz pp qq ia ib la lb : Addr} {n : Nat} {xs ys : Array Value}
theorem last_pair {T : Addr} {f : Bool} {oT : Obj} {Q : Option Value → Shared → Prop} (hh : A.handled = none) (D : ZipApart zz pp qq ia ib la lb) (gz : Zs s.heap zz pp qq (rawInt T) f) (gT : s.heap.get? T = some oT) (gp : IsPair s.heap pp (.ref ia) (.ref ib))
    (ga : s.heap.IsListIter ia la n) (gb : s.heap.IsTupleIter ib lb n) (gl : s.heap.IsList la xs) (gt : s.heap.IsTuple lb ys) (ex : xs[n]? = none) (ey : ys[n]? = none)
    (R : ∀ h', (∀ c o, c ≠ zz → c ≠ ia → c ≠ ib → s.heap.get? c = some o → h'.get? c = some o) → Q none { s with heap := h' }) :
    wpAny (model prog w) A (pyNext (.ref zz)) Q E s := by
  have ty : s.TypeIs (.ref zz) "zip" := ⟨_, gz, rfl⟩
  unfold pyNext
  refine wpAny_bind (wpAny_attempt (wpAny_callSpecial?_slot (name := Str.ofString "__next__") ty F.slot_zip_next (wpAny_call_entry F.slot_zip_next ty F.entry_zip_next ?_ (F.args_zip_next_1 _))))
  change wpAny _ _ (field (.ref zz) 2 >>= _) _ _ _
  refine wpAny_bind (wpAny_field gz rfl (x := .bool true) rfl ?_)
  change wpAny _ _ (field (.ref zz) 3 >>= _) _ _ _
  refine wpAny_bind (wpAny_field gz rfl (x := .ref pp) rfl (wpAny_bind (wpAny_seqItems gp rfl ?_)))
  change wpAny _ _ (Builtin.SmallTypes.ownedTupleIsFree (.ref zz) >>= _) _ _ _
  refine wpAny_bind (held_known gz gT fun k1 z1 u1 => ?_)
  simp only [Bool.false_eq_true, if_false]
  refine wpAny_bind ?_
  rw [← Array.forIn_toList]
  simp only [List.forIn_cons, List.forIn_nil]
  refine wpAny_bind (wpAny_bind (wpAny_holding ?_))
  change wpAny _ _ (Builtin.SmallTypes.nextOrEnd (.ref ia)) _ _ _
  refine noe (wpAny_nextOf_list_end (s := { s with heap := k1 }) hh (ga.extBut u1.extBut D.i1z) (gl.extBut u1.extBut D.l1z) ex fun k2 e u2 he => ⟨e, _, rfl, he.choose_spec.1, he.choose_spec.2, ?_⟩)
  dsimp only
  refine wpAny_bind ?_
  refine wpAny_bind (m := forIn ((List.drop 1 [Value.ref ia, Value.ref ib]).zipIdx 1) PUnit.unit _) ?_
  simp only [List.drop_succ_cons, List.drop_zero, List.zipIdx_cons, List.zipIdx_nil, List.forIn_cons, List.forIn_nil]
  refine wpAny_bind (wpAny_bind (noe (RZ.nextOf_tuple_end (s := { s with heap := k2 }) hh ((gb.extBut u1.extBut D.i2z).extBut u2 D.i12.symm) ((gt.extBut u1.extBut D.l2z).extBut u2 D.l2i1) ey fun k3 e3 u3 he3 => ⟨e3, _, rfl, he3.choose_spec.1, he3.choose_spec.2, ?_⟩)))
  simp only [Option.isSome_none, Bool.false_eq_true, if_false]
  refine wpAny_pure (wpAny_pure (wpAny_bind (wpAny_rule (stop_raised hh fun k4 e4 u4 he4 => ?_))))
  exact wpAny_bind (wpAny_isInstance (T := "StopIteration") (b := true) ⟨_, he4.choose_spec.1, he4.choose_spec.2⟩ isSubtype_stop (wpAny_pure (R k4 fun c o c1 c2 c3 g => u4 _ _ (u3 _ _ c3 (u2 _ _ c2 (u1.extBut _ _ c1 g))))))
end
end ZS

set_option Elab.async false
set_option linter.all false
set_option maxRecDepth 100000
set_option maxHeartbeats 1000000
/-! Z9 (of no law): a strict zip as the argument of dict. -/
namespace ZS
open PySem
theorem stype (la lb : Addr) : checkTypeCall "zip" ⟨[.ref la, .ref lb], [(Str.ofString "strict", .bool true)]⟩ = pure () := by kernel_rfl
theorem snew (la lb : Addr) : checkBuiltinCall "zip.__new__" ⟨[.type "zip", .ref la, .ref lb], [(Str.ofString "strict", .bool true)]⟩ = pure () := by kernel_rfl
theorem sinit (obj : Value) (la lb : Addr) : argsOk "object.__init__" ⟨[obj, .ref la, .ref lb], [(Str.ofString "strict", .bool true)]⟩ := by
  unfold argsOk
  kernel_rfl
/-- the five new objects -/
abbrev n1 (h : Heap) (la : Addr) : Heap := h.push { cls := .type "list_iterator", data := .fields #[.ref la, .int 0 0] }
abbrev n2 (h : Heap) (la lb : Addr) : Heap := (n1 h la).push { cls := .type "tuple_iterator", data := .fields #[.ref lb, .int 0 0] }
abbrev n3 (h : Heap) (la lb : Addr) : Heap := (n2 h la lb).push { cls := .type "tuple", data := .seq #[.ref h.objs.size, .ref (n1 h la).objs.size] }
abbrev n4 (h : Heap) (la lb : Addr) : Heap := (n3 h la lb).push { cls := .type "tuple", data := .seq #[.none, .none] }
abbrev n5 (h : Heap) (la lb : Addr) : Heap := (n4 h la lb).push { cls := .type "zip", data := .fields #[.none, .bool false, .bool true, .ref (n2 h la lb).objs.size, .ref (n3 h la lb).objs.size] }
set_option maxHeartbeats 4000000 in
theorem made (la lb : Addr) (xs ys : Array Value) :
    Meets (Builtin.«zip.__new__» ⟨[.type "zip", .ref la, .ref lb], [(Str.ofString "strict", .bool true)]⟩) (fun _ R s => s.heap.IsList la xs ∧ s.heap.IsTuple lb ys ∧ R (.ok (.ret (.ref (n4 s.heap la lb).objs.size))) { s with heap := n5 s.heap la lb }) :=
  .of_wp fun prog w A R s h => by
    obtain ⟨hp, g, d, tk, os⟩ := s
    obtain ⟨g1, g2, h⟩ := h
    have sub := sub_zip
    have a1 : Heap.IsList (Shared.heap ⟨hp, g, d, tk, os⟩) la xs := g1
    have a2 : Heap.IsTuple (Shared.heap ⟨hp.push { cls := .type "list_iterator", data := .fields #[.ref la, .int 0 0] }, g, d, tk, os⟩) lb ys := g2.at fun o e => Heap.get?_push_of_some _ e
    have e1 : (Str.ofString "strict" != ("strict" : Str)) = false := by decide +kernel
    wp_walk using wpAny_pyIter_list a1, wpAny_pyIter_tuple a2
    exact ⟨_, rfl, h⟩
section
variable {prog : Program} {w : World} {A : Around} {E : Value → Shared → Prop} {s : Shared} {la lb : Addr} {xs ys : Array Value}
theorem call_strict {Q : Value → Shared → Prop} (gl : s.heap.IsList la xs) (gt : s.heap.IsTuple lb ys)
    (R : ∀ h', Zs h' (s.heap.objs.size + 4) (s.heap.objs.size + 2) (s.heap.objs.size + 3) .none false → IsPair h' (s.heap.objs.size + 2) (.ref s.heap.objs.size) (.ref (s.heap.objs.size + 1)) → IsPair h' (s.heap.objs.size + 3) .none .none →
      h'.IsListIter s.heap.objs.size la 0 → h'.IsTupleIter (s.heap.objs.size + 1) lb 0 → (∀ c o, s.heap.get? c = some o → h'.get? c = some o) → Q (.ref (s.heap.objs.size + 4)) { s with heap := h' }) :
    wpAny (model prog w) A (call (.type "zip") [.ref la, .ref lb] [(Str.ofString "strict", .bool true)]) Q E s := by
  refine callType_newKw F.called_zip (by decide) (stype _ _) (snew _ _) (fun obj => sinit obj _ _) F.entry_zip_new (made la lb xs ys) ⟨gl, gt, ?_⟩
  have m1 : (n1 s.heap la).objs.size = s.heap.objs.size + 1 := Heap.size_push ..
  have m2 : (n2 s.heap la lb).objs.size = s.heap.objs.size + 2 := by rw [Heap.size_push, m1]
  have m3 : (n3 s.heap la lb).objs.size = s.heap.objs.size + 3 := by rw [Heap.size_push, m2]
  have m4 : (n4 s.heap la lb).objs.size = s.heap.objs.size + 4 := by rw [Heap.size_push, m3]
  have v5 : (n5 s.heap la lb).get? (n4 s.heap la lb).objs.size = some _ := Heap.get?_push_size _ rfl
  have v4 : (n5 s.heap la lb).get? (n3 s.heap la lb).objs.size = some _ := Heap.get?_push_of_some _ (Heap.get?_push_size _ rfl)
  have v3 : (n5 s.heap la lb).get? (n2 s.heap la lb).objs.size = some _ := Heap.get?_push_of_some _ (Heap.get?_push_of_some _ (Heap.get?_push_size _ rfl))
  have v2 : (n5 s.heap la lb).get? (n1 s.heap la).objs.size = some _ := Heap.get?_push_of_some _ (Heap.get?_push_of_some _ (Heap.get?_push_of_some _ (Heap.get?_push_size _ rfl)))
  have v1 : (n5 s.heap la lb).get? s.heap.objs.size = some _ := Heap.get?_push_of_some _ (Heap.get?_push_of_some _ (Heap.get?_push_of_some _ (Heap.get?_push_of_some _ (Heap.get?_push_size _ rfl))))
  change _ ∧ _
  rw [m2, m3, m4] at v5
  rw [m1, m2] at v3
  rw [m3] at v4
  rw [m1] at v2
  rw [m4]
  exact ⟨⟨_, v5, rfl⟩, R _ v5 v3 v4 ⟨_, v1, rfl, rfl⟩ ⟨_, v2, rfl, rfl⟩ fun c o x => Heap.get?_push_of_some _ (Heap.get?_push_of_some _ (Heap.get?_push_of_some _ (Heap.get?_push_of_some _ (Heap.get?_push_of_some _ x))))⟩
theorem iter_self {zz pp qq : Addr} {o : Value} {b : Bool} {Q : Value → Shared → Prop} (gz : Zs s.heap zz pp qq o b) (h : Q (.ref zz) s) : wpAny (model prog w) A (pyIter (.ref zz)) Q E s := by
  have ty : s.TypeIs (.ref zz) "zip" := ⟨_, gz, rfl⟩
  refine wpAny_pyIter_slot ty F.slot_zip_iter (wpAny_call_entry F.slot_zip_iter ty F.entry_zip_iter ?_ (F.args_zip_iter_1 _))
  change wpAny _ _ (ret (.ref zz)) _ _ s
  exact wpAny_pure ⟨_, rfl, "zip", _, ty, F.slot_zip_next.lookup, h⟩
end
theorem arg {prog : Program} {w : World} (zz pp qq ia ib la lb : Addr) (D : ZipApart zz pp qq ia ib la lb) (xs ys : Array Value) (h1 : 0 < xs.size) (hs : ys.size = xs.size) :
    PairArg prog w "zip" zz [zz, pp, qq, ia, ib, la, lb] [zz, qq, ia, ib] xs.size (fun i k v => xs[i]? = some k ∧ ys[i]? = some v)
      (fun h => Zs h zz pp qq .none false ∧ IsPair h pp (.ref ia) (.ref ib) ∧ (∃ a b, IsPair h qq a b) ∧ h.IsListIter ia la 0 ∧ h.IsTupleIter ib lb 0 ∧ h.IsList la xs ∧ h.IsTuple lb ys) where
  type := fun s ok => ⟨_, ok.1, rfl⟩
  notDict := by decide
  keep := fun h h' ok hk => by
    obtain ⟨gz, gp, ⟨a, b, gq⟩, ga, gb, gl, gt⟩ := ok
    exact ⟨hk _ _ gz, hk _ _ gp, ⟨a, b, hk _ _ gq⟩, ga.at fun o e => hk _ o e, gb.at fun o e => hk _ o e, gl.at fun o e => hk _ o e, gt.at fun o e => hk _ o e⟩
  there := fun h ok b hb => by
    obtain ⟨gz, gp, ⟨a, c, gq⟩, ⟨o1, ga, _⟩, ⟨o2, gb, _⟩, ⟨o3, gl, _⟩, ⟨o4, gt, _⟩⟩ := ok
    simp only [List.mem_cons, List.not_mem_nil, or_false] at hb
    rcases hb with rfl | rfl | rfl | rfl | rfl | rfl | rfl
    · exact ⟨_, gz⟩
    · exact ⟨_, gp⟩
    · exact ⟨_, gq⟩
    · exact ⟨_, ga⟩
    · exact ⟨_, gb⟩
    · exact ⟨_, gl⟩
    · exact ⟨_, gt⟩
  sub := fun b hb => by
    simp only [List.mem_cons, List.not_mem_nil, or_false] at hb ⊢
    rcases hb with rfl | rfl | rfl | rfl <;> simp
  noKeys := fun A s Q E hA ok h => getAttrOr_miss_zip ok.1 rfl rfl rfl zip_no_keys (by decide +kernel) hA h
  iter := fun A s d Q E hA ok hd hdf h => by
    obtain ⟨gz, gp, ⟨a, b, gq⟩, ga, gb, gl, gt⟩ := ok
    simp only [List.mem_cons, List.not_mem_nil, or_false, not_or] at hdf
    obtain ⟨d1, d2, d3, d4, d5, d6, d7⟩ := hdf
    refine iter_self gz (h zz [zz, qq, ia, ib] (fun i h => IsPair h pp (.ref ia) (.ref ib) ∧ h.IsListIter ia la i ∧ h.IsTupleIter ib lb i ∧ h.IsList la xs ∧ h.IsTuple lb ys ∧
      ((i = 0 ∧ Zs h zz pp qq .none false ∧ ∃ a b, IsPair h qq a b) ∨ ∃ (T : Addr) (f : Bool) (oT : Obj), Zs h zz pp qq (rawInt T) f ∧ h.get? T = some oT ∧ T ≠ zz ∧ T ≠ ia ∧ T ≠ ib ∧ T ≠ d)) s.heap s.toks ?_
      ⟨gp, ga, gb, gl, gt, .inl ⟨rfl, gz, a, b, gq⟩⟩ (fun _ _ e => e) fun b hb => .inl hb)
    exact {
      off := fun hm => by
        simp only [List.mem_cons, List.not_mem_nil, or_false] at hm
        rcases hm with e | e | e | e
        · exact d1 e
        · exact d3 e
        · exact d4 e
        · exact d5 e
      frame := fun i k1 k2 st hk => by
        obtain ⟨gp, ga, gb, gl, gt, gz⟩ := st
        refine ⟨hk _ _ (Ne.symm d2) gp, ga.at fun o e => hk _ o (Ne.symm d4) e, gb.at fun o e => hk _ o (Ne.symm d5) e, gl.at fun o e => hk _ o (Ne.symm d6) e, gt.at fun o e => hk _ o (Ne.symm d7) e, ?_⟩
        rcases gz with ⟨i0, gz, a, b, gq⟩ | ⟨T, f, oT, gz, gT, r1, r2, r3, r4⟩
        · exact .inl ⟨i0, hk _ _ (Ne.symm d1) gz, a, b, hk _ _ (Ne.symm d3) gq⟩
        · exact .inr ⟨T, f, oT, hk _ _ (Ne.symm d1) gz, hk _ _ r4 gT, r1, r2, r3, r4⟩
      item := fun i s1 Q1 E1 hi st hds hQ => by
        obtain ⟨gp, ga, gb, gl, gt, gz⟩ := st
        have ex := Array.getElem?_eq_getElem hi
        have ey := Array.getElem?_eq_getElem (show i < ys.size by rw [hs]; exact hi)
        have lt : ∀ {c o}, s1.heap.get? c = some o → s1.heap.objs.size ≠ c := fun e => Nat.ne_of_gt (Heap.lt_size e)
        have na : s1.heap.objs.size ≠ ia := let ⟨_, e, _⟩ := ga; lt e
        have nb : s1.heap.objs.size ≠ ib := let ⟨_, e, _⟩ := gb; lt e
        rcases gz with ⟨i0, gz, a, b, gq⟩ | ⟨T, f, oT, gz, gT, r1, r2, r3, r4⟩
        · refine first_pair D gz gp gq ga gb gl gt ex ey fun h' w1 w2 w3 w4 hk => ?_
          exact hQ s1.heap.objs.size _ _ h' s1.toks ⟨ex, ey⟩ (.inl ⟨_, w4, rfl, _, rfl⟩)
            ⟨hk _ _ D.TIz D.TITO D.TIi1 D.TIi2 gp, w2, w3, gl.at fun o e => hk _ o D.l1z D.l1TO D.l1i1 D.l1i2 e, gt.at fun o e => hk _ o D.l2z D.l2TO D.l2i1 D.l2i2 e, .inr ⟨s1.heap.objs.size, false, _, w1, w4, lt gz, na, nb, Nat.ne_of_gt hds⟩⟩
            fun c o hc e => hk c o (fun x => hc (by simp [x])) (fun x => hc (by simp [x])) (fun x => hc (by simp [x])) (fun x => hc (by simp [x])) e
        · refine next_pair D gz gT gp ga gb gl gt ex ey fun h' w1 w2 w3 w4 hk => ?_
          exact hQ s1.heap.objs.size _ _ h' s1.toks ⟨ex, ey⟩ (.inl ⟨_, w4, rfl, _, rfl⟩)
            ⟨hk _ _ D.TIz D.TIi1 D.TIi2 gp, w2, w3, gl.at fun o e => hk _ o D.l1z D.l1i1 D.l1i2 e, gt.at fun o e => hk _ o D.l2z D.l2i1 D.l2i2 e, .inr ⟨T, true, oT, w1, hk _ _ r1 r2 r3 gT, r1, r2, r3, r4⟩⟩
            fun c o hc e => hk c o (fun x => hc (by simp [x])) (fun x => hc (by simp [x])) (fun x => hc (by simp [x])) e
      done := fun s1 Q1 E1 st hQ => by
        obtain ⟨gp, ga, gb, gl, gt, gz⟩ := st
        have ex : xs[xs.size]? = none := Array.getElem?_eq_none (Nat.le_refl _)
        have ey : ys[xs.size]? = none := Array.getElem?_eq_none (by rw [hs]; exact Nat.le_refl _)
        rcases gz with ⟨i0, _⟩ | ⟨T, f, oT, gz, gT, r1, r2, r3, r4⟩
        · omega
        · exact last_pair hA D gz gT gp ga gb gl gt ex ey fun h' hk => hQ h' s1.toks fun c o hc e => hk c o (fun x => hc (by simp [x])) (fun x => hc (by simp [x])) (fun x => hc (by simp [x])) e }
end ZS

set_option Elab.async false
set_option linter.all false
set_option maxRecDepth 100000
set_option maxHeartbeats 1000000
/-! Z10 (of no law): dict(zip(xs, ys, strict=True)) in an expression. -/
namespace L2
open PySem PySem.Spec PyProof.Rows
open K06 (plv plv_len merge_plv)
theorem ext_str {xs : List Str} {us : List Value} {i : Nat} {u : Value} (r : Vals (xs.map V.str) us) (h : us[i]? = some u) : ∃ x t, xs[i]? = some x ∧ u = .str x t := by
  have hl := r.length
  rw [List.length_map] at hl
  have hi : i < xs.length := by rw [hl]; exact (List.getElem?_eq_some_iff.mp h).1
  obtain ⟨u2, g, t, e⟩ := r.get (i := i) (x := V.str xs[i]) (by simp [List.getElem?_eq_getElem hi])
  rw [h] at g
  obtain rfl := Option.some.inj g
  exact ⟨xs[i], t, List.getElem?_eq_getElem hi, e⟩
/-- keys and values, as the heap has them -/
def prsOf : List Str → List Value → List (Key × Value)
  | x :: xs, u :: us => (Sum.inr x, u) :: prsOf xs us
  | _, _ => []
theorem prs_len : ∀ {xs : List Str} {us : List Value}, us.length = xs.length → (prsOf xs us).length = xs.length
  | [], [], _ => rfl
  | x :: xs, u :: us, h => by
    show (prsOf xs us).length + 1 = xs.length + 1
    rw [prs_len (by simpa using h)]
theorem prs_at : ∀ {xs : List Str} {us : List Value} {i : Nat} {x : Str} {u : Value}, xs[i]? = some x → us[i]? = some u → (prsOf xs us)[i]? = some (Sum.inr x, u)
  | x :: xs, u :: us, 0, _, _, h1, h2 => by
    obtain rfl := Option.some.inj h1
    obtain rfl := Option.some.inj h2
    rfl
  | x :: xs, u :: us, i + 1, _, _, h1, h2 => prs_at (xs := xs) (us := us) (i := i) h1 h2
theorem prs_kv : ∀ {xs ys : List Str} {us : List Value}, Vals (ys.map V.str) us → xs.length = ys.length → KV (plv xs ys) (prsOf xs us)
  | [], [], _, .nil, _ => .nil
  | x :: xs, y :: ys, _, .cons h t, e => .cons ⟨rfl, h⟩ (prs_kv t (by simpa using e))
section
variable {prog : Program} {w : World} {A : Around} {E : Value → Shared → Prop} {s : Shared} {la lb : Addr}
theorem dict_strict {xs ys : List Str} {us vs : List Value} {Q : Value → Shared → Prop} (hh : A.handled = none) (gl : s.heap.IsList la us.toArray) (gt : s.heap.IsTuple lb vs.toArray) (r1 : Vals (xs.map V.str) us) (r2 : Vals (ys.map V.str) vs) (e : ys.length = xs.length) (h1 : 1 ≤ xs.length) (hz : xs.length ≤ sizeLine)
    (R : ∀ d h' tk, s.heap.objs.size ≤ d → h'.DictOf (mixKind prog w) d (merged [] (prsOf xs vs)) → (∀ b o, s.heap.get? b = some o → h'.get? b = some o) → Q (.ref d) { s with heap := h', toks := tk }) :
    wpAny (model prog w) A (call (.type "zip") [.ref la, .ref lb] [(Str.ofString "strict", .bool true)]) (fun v s1 => wpAny (model prog w) A (call (.type "dict") [v]) Q E s1) E s := by
  have l1 : us.length = xs.length := by
    have := r1.length
    rw [List.length_map] at this
    omega
  have l2 : vs.length = xs.length := by
    have := r2.length
    rw [List.length_map] at this
    omega
  have ll : la < s.heap.objs.size := by
    obtain ⟨o, ho, _⟩ := gl
    exact Heap.lt_size ho
  have lt : lb < s.heap.objs.size := by
    obtain ⟨o, ho, _⟩ := gt
    exact Heap.lt_size ho
  refine ZS.call_strict gl gt fun h' c1 c2 c3 c4 c5 k => ?_
  have D : ZipApart (s.heap.objs.size + 4) (s.heap.objs.size + 2) (s.heap.objs.size + 3) s.heap.objs.size (s.heap.objs.size + 1) la lb := by
    constructor <;> exact fun z => by
      have z2 : @Eq Nat _ _ := z
      have l3 : @LT.lt Nat _ la s.heap.objs.size := ll
      have l4 : @LT.lt Nat _ lb s.heap.objs.size := lt
      omega
  have P := ZS.arg (prog := prog) (w := w) _ _ _ _ _ _ _ D us.toArray vs.toArray (by simp; omega) (by simp; omega)
  have big : ∀ {c : Addr} {o : Obj}, s.heap.get? c = some o → c < s.heap.objs.size := fun g => Heap.lt_size g
  refine PySem.call_dict_pairs (s := { s with heap := h' }) (knd := mixKind prog w) (kvs := prsOf xs vs) P hh ⟨c1, c2, ⟨_, _, c3⟩, c4, c5, gl.at fun o g => k _ o g, gt.at fun o g => k _ o g⟩ ⟨?_, ?_⟩ (by simp; omega) fun h2 tk hd hk => ?_
  · rw [prs_len l2]
    simp
    omega
  · rintro i key v ⟨g1, g2⟩
    have g1' : us[i]? = some key := by simpa using g1
    have g2' : vs[i]? = some v := by simpa using g2
    obtain ⟨x, t, hx, rfl⟩ := ext_str r1 g1'
    exact ⟨Sum.inr x, prs_at hx g2', by simp [mixKind, keyIs, Value.isStrOf]⟩
  · have sz : s.heap.objs.size ≤ h'.objs.size := Nat.le_trans (Nat.le_add_right _ 4) (Nat.le_of_lt (Heap.lt_size c1))
    refine R h'.objs.size h2 tk sz hd fun b o g => hk b o ?_ (k b o g)
    have bg : @LT.lt Nat _ b s.heap.objs.size := big g
    simp only [List.mem_cons, List.not_mem_nil, or_false, not_or]
    have no : ∀ j : Nat, ¬ b = s.heap.objs.size + j := fun j z => by
      have z2 : @Eq Nat _ _ := z
      omega
    exact ⟨no 4, no 3, no 0, no 1⟩
end
def tDZip (K : PySem.W.Frag) (ta : TA) : TE := fun σ H Q => ta σ H fun vs H2 => ∃ (la lb : Addr) (A is : List Str), vs = [.ref la, .ref lb] ∧ SqL K H2 la (A.map V.str) ∧ SqT K H2 lb (is.map V.str) ∧ is.length = A.length ∧ 1 ≤ A.length ∧ A.Nodup ∧ ∀ p, H2 p = none → Q (.ref p) (upd H2 p (.dK (plv A is)))
section
variable {X : Cx}
theorem pe_dZip {e : Expr} {es : List Expr} {kws : List Keyword} {ta : TA} {p0 p pos pos2 : Pos} (hc : X.calm = true) (hgs : Gl X "dict") (hms : X.mg "dict" = none) (hbd : bootBuiltins "dict" = some (.type "dict")) (hg : Gl X "zip") (hm : X.mg "zip" = none) (hbz : bootBuiltins "zip" = some (.type "zip")) (ha : PA X (e :: es) ta) (hk : PK X kws (tCons (tC (.bl true)) tNil))
    (hs1 : starEach [.Call (.Name "zip" p) (e :: es) kws pos2] X.env = (false, eval (.Call (.Name "zip" p) (e :: es) kws pos2) X.env) :: starEach [] X.env := by rfl)
    (hp1 : (backTo pos (starEach [] X.env)).any (·.1) = false := by rfl) (hs : starEach (e :: es) X.env = (false, eval e X.env) :: starEach es X.env := by rfl)
    (hall : (backToKw pos2 (keywordEach kws X.env)).all (·.1.isSome) = true := by rfl) (hpl : ((backTo pos2 (starEach (e :: es) X.env)).any (·.1) || (backToKw pos2 (keywordEach kws X.env)).any (·.1.isNone)) = false := by rfl)
    (hks : (backToKw pos2 (keywordEach kws X.env)).filterMap (·.1) = [Str.ofString "strict"] := by rfl) :
    PE X (.Call (.Name "dict" p0) [.Call (.Name "zip" p) (e :: es) kws pos2] [] pos) (tDZip X.K ta) := by
  refine ⟨fun pins s σ H Q I h => ?_⟩
  refine wpAny_Call_Name_kw (ld_blt I hgs hms hbd ?_)
  refine PyProof.Rows.callWith_type1 ?_ hs1 hp1
  rw [hs1]
  change wpAny _ _ (spliced ((false, eval (.Call (.Name "zip" p) (e :: es) kws pos2) X.env) :: backTo pos (starEach [] X.env))) _ _ s
  refine Calls.spliced_cons ?_
  refine wpAny_Call_Name_kw (ld_blt I hg hm hbz ?_)
  refine PySem.W.callWith_of (P := fun _ => True) hpl (fun _ _ => ⟨.machine, .inr (.inl rfl), .now⟩) (PyProof.Rows.evalArgs_kw2 hall ?_ hs)
  refine thn (ha.run pos2 pins s σ H _ I h) fun us s1 ⟨vs, H1, I1, r1, q1⟩ => ?_
  obtain ⟨la, lb, A, is, rfl, sa, sb, e1, e2, nd, q⟩ := q1
  refine thn (hk.run pos2 pins s1 σ H1 (fun zs H2 => zs = [.bl true] ∧ H2 = H1) I1 ⟨rfl, rfl⟩) fun ws s2 ⟨zs, H2, I2, r2, e3, e4⟩ => ⟨True.intro, ?_⟩
  subst e3 e4
  cases r2 with
  | cons b rr =>
    cases rr
    cases b
    cases r1 with
    | cons c1 rr =>
      cases rr with
      | cons c2 rr =>
        cases rr
        cases c1
        cases c2
        rw [hks]
        obtain ⟨its, rv, pl, hsz⟩ := I2.list sa
        obtain ⟨itt, rt, pt, _⟩ := I2.tuple sb
        rw [List.length_map] at hsz
        refine wpAny_mono (dict_strict (Q := EP X pins σ Q) (E := X.xe) (I2.ok.hd hc) pl.isList (let ⟨o, h1, h2, n, h3⟩ := pt; ⟨o, h1, h2, n, h3⟩) rv rt e1 e2 hsz fun d h' tk hd' dk k => ?_) (fun v s4 h4 => Calls.spliced_nil h4) fun _ _ z => z
        have hm' : (d == sysModules) = false := beq_eq_false_iff_ne.mpr (Nat.ne_of_gt (Nat.lt_of_lt_of_le I2.big hd'))
        have hl : (plv A is).length ≤ sizeLine := by
          rw [plv_len, e1, Nat.min_self]
          exact hsz
        have kv : KV (plv A is) (merged [] (prsOf A itt)) := by
          have := KV.merge (prs_kv rt e1.symm) .nil
          rwa [merge_plv nd] at this
        exact ⟨.ref d, upd H2 d (.dK (plv A is)), I2.laid (t' := tk) k hd' (show ObjOk X.prog X.w _ _ _ (.dK (plv A is)) from ⟨hl, hm', merged [] (prsOf A itt), kv, dk⟩), rfl, q _ (I2.hok.fresh hd')⟩
end
end L2

set_option Elab.async false
set_option linter.all false
set_option maxRecDepth 100000
set_option maxHeartbeats 1000000
/-! Z11: _law_led. -/
namespace K06
open PySem PySem.Spec PyProof.Rows L2 Evl J ClX StX S D
abbrev sLed : Stmt := topS 56
abbrev NLed : List Str := ["_law_source", "_law_target", "_law_images", "_law_led_here", "_law_part", "_law_word", "_law_a", "_law_b"]
theorem scLed : FnScope NLed ["_law_source", "_law_target", "_law_images"] (defScope sLed) := ⟨rfl, rfl, rfl, by decide +kernel, rfl, by decide +kernel, by decide +kernel⟩
/-- what is not kept by a table -/
def tabBad (A : List Str) (J1 : List (List Str)) (G : List Str) (J2 : List (List Str)) (φ : Str → Str) (a b : Str) : Bool := !decide ((V.str (φ (ap A J1 a b))) = V.str (ap G J2 (φ a) (φ b)))
theorem tab_ok {A G : List Str} {J1 J2 : List (List Str)} {φ : Str → Str} (h : firstP A (tabBad A J1 G J2 φ) = none) : ∀ a b, a ∈ A → b ∈ A → φ (ap A J1 a b) = ap G J2 (φ a) (φ b) := fun a b ha hb => by
  unfold firstP at h
  rw [List.find?_eq_none] at h
  have := h (a, b) (List.mem_flatMap.mpr ⟨a, ha, List.mem_map.mpr ⟨b, hb, rfl⟩⟩)
  unfold tabBad at this
  simpa using this
theorem tab_no {A G : List Str} {J1 J2 : List (List Str)} {φ : Str → Str} {a b : Str} (h : firstP A (tabBad A J1 G J2 φ) = some (a, b)) : ¬ ∀ a b, a ∈ A → b ∈ A → φ (ap A J1 a b) = ap G J2 (φ a) (φ b) := fun z => by
  unfold firstP at h
  have h1 := List.find?_some h
  have h2 := List.mem_of_find?_eq_some h
  obtain ⟨x, hx, h3⟩ := List.mem_flatMap.mp h2
  obtain ⟨y, hy, h4⟩ := List.mem_map.mp h3
  obtain ⟨rfl, rfl⟩ : x = a ∧ y = b := by simpa using h4
  unfold tabBad at h1
  have := z x y hx hy
  simp [this] at h1
section
variable {K : PySem.W.Frag} {σ : L2.St} {H : Hp} {te tb : TE} {la lb : Addr} {A is : List Str} {i : Nat} {tz : TS} {D : Ends}
theorem q_dz (h1 : Ev te σ H (.ref la)) (h2 : Ev tb σ H (.ref lb)) (sa : SqL K H la (A.map V.str)) (sb : SqT K H lb (is.map V.str)) (e : is.length = A.length) (e1 : 1 ≤ A.length) (nd : A.Nodup) (k : ∀ p H1, Ex H H1 → H1 p = some (.dK (plv A is)) → tz D (σ.set i (some (.ref p))) H1) :
    tSeq (tAsg (tDZip K (tCons te (tCons tb tNil))) (gName i)) tz D σ H :=
  h1 H (Ex.refl H) _ fun H1 x1 => h2 H1 x1 _ fun H2 x2 => ⟨la, lb, A, is, rfl, ex_l (x1.trans x2) sa, ex_t (x1.trans x2) sb, e, e1, nd, fun p np => k p _ ((x1.trans x2).trans (Ex.new np)) upd_same⟩
/-- a loop over two tuples of two texts -/
theorem s_forTT {a1 b1 a2 b2 : Str} {j k : Nat} {tu : TS} {D : Ends} (Pv : Nat → L2.St → Hp → Prop) (h0 : ∀ H1, Ex H H1 → Pv 0 σ H1) 
    (hs1 : ∀ σ' H' N, Pv 0 σ' H' → (∀ σ'' H'', Pv 1 σ'' H'' → Ex H' H'' → N σ'' H'') → tu { D with nx := N, ct := N, bk := D.nx } ((σ'.set j (some (.str a1))).set k (some (.str b1))) H')
    (hs2 : ∀ σ' H' N, Pv 1 σ' H' → (∀ σ'' H'', Pv 2 σ'' H'' → Ex H' H'' → N σ'' H'') → tu { D with nx := N, ct := N, bk := D.nx } ((σ'.set j (some (.str a2))).set k (some (.str b2))) H') (hd : ∀ σ' H', Pv 2 σ' H' → D.nx σ' H') :
    tFor (iTup K (tTup (tCons (tTup (tCons (tC (.str a1)) (tCons (tC (.str b1)) tNil))) (tCons (tTup (tCons (tC (.str a2)) (tCons (tC (.str b2)) tNil))) tNil)))) (gTup K 2 (gCons (gName j) (gCons (gName k) gNil))) tu D σ H := by
  refine ⟨sz_of (by simp), fun t1 n1 => ⟨sz_of (by simp), fun t2 n2 => ⟨sz_of (by simp), fun p np => ⟨p, rfl, ⟨_, st_of upd_same⟩, ?_⟩⟩⟩⟩
  have g1 : (upd (upd (upd H t1 (.tup [.str a1, .str b1])) t2 (.tup [.str a2, .str b2])) p (.tup [.ref t1, .ref t2])) t1 = some (.tup [.str a1, .str b1]) := (Ex.new np) _ _ ((Ex.new n2) _ _ upd_same)
  have g2 : (upd (upd (upd H t1 (.tup [.str a1, .str b1])) t2 (.tup [.str a2, .str b2])) p (.tup [.ref t1, .ref t2])) t2 = some (.tup [.str a2, .str b2]) := (Ex.new np) _ _ upd_same
  have g3 : (upd (upd (upd H t1 (.tup [.str a1, .str b1])) t2 (.tup [.str a2, .str b2])) p (.tup [.ref t1, .ref t2])) p = some (.tup [.ref t1, .ref t2]) := upd_same
  have e0 : Ex H (upd (upd (upd H t1 (.tup [.str a1, .str b1])) t2 (.tup [.str a2, .str b2])) p (.tup [.ref t1, .ref t2])) := ((Ex.new n1).trans (Ex.new n2)).trans (Ex.new np)
  generalize upd (upd (upd H t1 (.tup [.str a1, .str b1])) t2 (.tup [.str a2, .str b2])) p (.tup [.ref t1, .ref t2]) = B at g1 g2 g3 e0
  refine for_tup (xs := [.ref t1, .ref t2]) (fun i σ' H' => Pv i σ' H' ∧ Ex B H') ⟨h0 _ e0, Ex.refl _⟩ (fun i σ' H' _ z => st_of (z.2 _ _ g3)) ?_ (fun σ' H' z => hd σ' H' z.1)
  rintro i x σ' H' hi ⟨pv, eb⟩
  match i, hi with
  | 0, hi =>
    obtain rfl := Option.some.inj hi
    refine g_two (st_of (eb _ _ g1)) ?_
    exact hs1 σ' H' _ pv fun σ2 H2 v2 e2 => ⟨v2, eb.trans e2⟩
  | 1, hi =>
    obtain rfl := Option.some.inj hi
    refine g_two (st_of (eb _ _ g2)) ?_
    exact hs2 σ' H' _ pv fun σ2 H2 v2 e2 => ⟨v2, eb.trans e2⟩
  | n + 2, hi => simp at hi
/-- the loop over the two names of their own -/
theorem q_lows {x0 x1 x2 x3 x4 x5 x6 x7 : Option V} {a1 w1 a2 w2 : Str} {tt : TT} {te : TE} {b1 b2 : Bool} (t1 : ∀ H1, Ex H H1 → EvT tt [x0, x1, x2, x3, some (.str a1), some (.str w1), x6, x7] H1 b1) (t2 : ∀ H1, Ex H H1 → EvT tt [x0, x1, x2, x3, some (.str a2), some (.str w2), x6, x7] H1 b2)
    (hr : ∀ s y5 H1, Ex H H1 → b1 = true ∨ b2 = true → te [x0, x1, x2, x3, some (.str s), y5, x6, x7] H1 D.rt) (k : b1 = false → b2 = false → ∀ y4 y5 H1, Ex H H1 → tz D [x0, x1, x2, x3, y4, y5, x6, x7] H1) :
    tSeq (tFor (iTup K (tTup (tCons (tTup (tCons (tC (.str a1)) (tCons (tC (.str w1)) tNil))) (tCons (tTup (tCons (tC (.str a2)) (tCons (tC (.str w2)) tNil))) tNil)))) (gTup K 2 (gCons (gName 4) (gCons (gName 5) gNil))) (tIfS tt (tRet te) tNext)) tz D [x0, x1, x2, x3, x4, x5, x6, x7] H := by
  refine s_forTT (D := { D with nx := tz D }) (fun i σ' H' => ∃ y4 y5, σ' = [x0, x1, x2, x3, y4, y5, x6, x7] ∧ Ex H H' ∧ (1 ≤ i → b1 = false) ∧ (2 ≤ i → b2 = false)) (fun H1 e1 => ⟨_, _, rfl, e1, (fun z => by omega), (fun z => by omega)⟩) ?_ ?_ ?_
  · rintro σ' H' N ⟨y4, y5, rfl, e1, c1, c2⟩ n
    exact s_when (b := b1) (t1 H' e1) (fun z H2 e2 => hr _ _ H2 (e1.trans e2) (.inl z)) (fun z H2 e2 => n _ _ ⟨_, _, rfl, e1.trans e2, fun _ => z, fun z => by omega⟩ e2)
  · rintro σ' H' N ⟨y4, y5, rfl, e1, c1, c2⟩ n
    exact s_when (b := b2) (t2 H' e1) (fun z H2 e2 => hr _ _ H2 (e1.trans e2) (.inr z)) (fun z H2 e2 => n _ _ ⟨_, _, rfl, e1.trans e2, fun _ => c1 (Nat.le_refl _), fun _ => z⟩ e2)
  · rintro σ' H' ⟨y4, y5, rfl, e1, c1, c2⟩
    exact k (c1 (by omega)) (c2 (by omega)) _ _ _ e1
end
section
variable {P : Program} {w : World} {K : PySem.W.Frag} {mg : Str → Option Value} {base : Heap} {f : Addr} {fd : FuncData}
theorem ok_led (F : FnP K "_law_led" sLed f fd) (T : Bl mg) (Td : mg "dict" = none) (Tz : mg "zip" = none) (cJ : Cal P w K mg base CX0 1 "_law_join" ["_law_told_here", "_law_a", "_law_b"] (spLJw K false)) (cT : Cal P w K mg base CX0 1 "_law_then" ["_law_told_here", "_law_a", "_law_b"] (spLJw K true)) :
    FnOk P w K mg base CX0 2 f fd ["_law_source", "_law_target", "_law_images"] (spLed K) := by
  refine F.ok scLed (fun vs H Q E h => ?_) (fun cdv A0 outer s0 H vs Q E hr h => ?_)
  · obtain ⟨d, e, t, A, G, is, J1, T1, J2, T2, l1, h1, l2, h2, rfl, _⟩ := h
    rfl
  · obtain ⟨d, e, t, A, G, is, J1, T1, J2, T2, l1, h1, l2, h2, rfl, td, te, ti, zi, mi, q⟩ := h
    have hr1 : Room 1 (A0.deeper (envOfC "_law_led" (defScope sLed) s0.heap.objs.size f cdv)) := hr
    have hu : (A0.deeper (envOfC "_law_led" (defScope sLed) s0.heap.objs.size f cdv)).units + 1 < cLine := by
      have := hr.un
      omega
    refine ⟨_, PSs.nox (pss_cons (ps_set (i := 3) scLed.nd rfl (Or.inl rfl) (pe_dZip rfl (by rfl) Td (by decide +kernel) (by rfl) Tz (by decide +kernel) (pa_cons (pe_dget hu (pv 0) pe_str (fun _ _ => rfl)) (pa_cons (pv 2) pa_nil)) (pk_cons pe_bl pk_nil)))
      (pss_cons (ps_for PassesOwn.never rfl (pi_tup (pe_tup (pa_cons (pe_tup (pa_cons pe_str (pa_cons pe_str pa_nil))) (pa_cons (pe_tup (pa_cons pe_str (pa_cons pe_str pa_nil))) pa_nil)))) (pg_tup rfl (pgs_cons (pg_name (i := 4) scLed.nd rfl (Or.inl rfl)) (pgs_cons (pg_name (i := 5) scLed.nd rfl (Or.inl rfl)) pgs_nil)))
        (pss_one (ps_if (pt_cmpR op_ne (pe_dget hu (pv 3) (pe_dget hu (pv 0) (pv 5) (fun _ _ => rfl)) (fun _ _ => rfl)) (pe_dget hu (pv 1) (pv 5) (fun _ _ => rfl)) (nomark _)) (pss_one (ps_ret (pe_tup (pa_cons (pv 4) (pa_cons (pe_tup pa_nil) pa_nil))))) pss_nil)))
      (pss_cons (ps_for PassesOwn.never rfl (pi_list (pe_dget hu (pv 0) pe_str (fun _ _ => rfl))) (pg_name (i := 6) scLed.nd rfl (Or.inl rfl)) (pss_one (ps_for PassesOwn.never rfl (pi_list (pe_dget hu (pv 0) pe_str (fun _ _ => rfl))) (pg_name (i := 7) scLed.nd rfl (Or.inl rfl))
        (pss_one (ps_if (pt_cmpR op_ne (pe_dget hu (pv 3) (pe_cal cJ hr1 rfl pass0 (pa_cons (pv 0) (pa_cons (pv 6) (pa_cons (pv 7) pa_nil)))) (fun _ _ => rfl)) (pe_cal cJ hr1 rfl pass0 (pa_cons (pv 1) (pa_cons (pe_dget hu (pv 3) (pv 6) (fun _ _ => rfl)) (pa_cons (pe_dget hu (pv 3) (pv 7) (fun _ _ => rfl)) pa_nil)))) (nomark _))
          (pss_one (ps_ret (pe_tup (pa_cons pe_str (pa_cons (pe_tup (pa_cons (pv 6) (pa_cons (pv 7) pa_nil))) pa_nil))))) pss_nil)))))
      (pss_cons (ps_for PassesOwn.never rfl (pi_list (pe_dget hu (pv 0) pe_str (fun _ _ => rfl))) (pg_name (i := 6) scLed.nd rfl (Or.inl rfl)) (pss_one (ps_for PassesOwn.never rfl (pi_list (pe_dget hu (pv 0) pe_str (fun _ _ => rfl))) (pg_name (i := 7) scLed.nd rfl (Or.inl rfl))
        (pss_one (ps_if (pt_cmpR op_ne (pe_dget hu (pv 3) (pe_cal cT hr1 rfl pass0 (pa_cons (pv 0) (pa_cons (pv 6) (pa_cons (pv 7) pa_nil)))) (fun _ _ => rfl)) (pe_cal cT hr1 rfl pass0 (pa_cons (pv 1) (pa_cons (pe_dget hu (pv 3) (pv 6) (fun _ _ => rfl)) (pa_cons (pe_dget hu (pv 3) (pv 7) (fun _ _ => rfl)) pa_nil)))) (nomark _))
          (pss_one (ps_ret (pe_tup (pa_cons pe_str (pa_cons (pe_tup (pa_cons (pv 6) (pa_cons (pv 7) pa_nil))) pa_nil))))) pss_nil)))))
      (pss_one (ps_ret pe_non)))))), ?_⟩
    obtain ⟨kvs, ln, vj, vt, k1, k2, k3, k4, k5, k6, k7, k8, k9⟩ := td.ex
    obtain ⟨kvs', ln', vj', vt', m1, m2, m3, m4, m5, m6, m7, m8, m9⟩ := te.ex
    have val : ∀ x ∈ A, valV (plv A is) (Sum.inr x) = some (.str (leadF A is x)) := fun x hx => plv_val zi.symm hx
    have im : ∀ x ∈ A, leadF A is x ∈ G := fun x hx => mi _ (by
      have hi : A.idxOf x < is.length := by rw [zi]; exact List.idxOf_lt_length_of_mem hx
      unfold leadF
      rw [List.getD_eq_getElem?_getD, List.getElem?_eq_getElem hi]
      exact List.getElem_mem hi)
    refine q_dz (K := K) (A := A) (is := is) (ev_dget (key := Sum.inr "names") (ev_var rfl) ev_c k1 k2) (ev_var rfl) k3 ti zi td.gd.z1 td.gd.nd fun p H1 e1 hp => ?_
    have ld : ∀ {tx : TE} {σ : L2.St} {H2 : Hp} {x : Str}, σ[3]? = some (some (.ref p)) → Ex H1 H2 → x ∈ A → Ev tx σ H2 (.str x) → Ev (tDGet (tVar 3) tx) σ H2 (.str (leadF A is x)) := fun h e2 hx hy => ev_dget (key := Sum.inr _) (ev_var h) hy (e2 _ _ hp) (val _ hx)
    have nm : ∀ {σ : L2.St} {H2 : Hp}, σ[0]? = some (some (.ref d)) → Ex H1 H2 → EvX K (tDGet (tVar 0) (tC (.str "names"))) σ H2 (A.map V.str) := fun h0 e2 => ex_var (ev_dget (key := Sum.inr "names") (ev_var h0) ev_c ((e1.trans e2) _ _ k1) k2) (ex_l (e1.trans e2) k3)
    refine q_lows (b1 := !decide (V.str (leadF A is l1) = V.str l2)) (b2 := !decide (V.str (leadF A is h1) = V.str h2))
      (fun H2 e2 => et_test (ev_op (ld rfl e2 td.gd.lo (ev_dget (key := Sum.inr "low") (ev_var rfl) (ev_var rfl) ((e1.trans e2) _ _ k1) k8)) (ev_dget (key := Sum.inr "low") (ev_var rfl) (ev_var rfl) ((e1.trans e2) _ _ m1) m8) (rv_ne rfl)))
      (fun H2 e2 => et_test (ev_op (ld rfl e2 td.gd.hi (ev_dget (key := Sum.inr "high") (ev_var rfl) (ev_var rfl) ((e1.trans e2) _ _ k1) k9)) (ev_dget (key := Sum.inr "high") (ev_var rfl) (ev_var rfl) ((e1.trans e2) _ _ m1) m9) (rv_ne rfl)))
      (fun s y5 H2 e2 hb => ?_) (fun c1 c2 y4 y5 H2 e2 => ?_)
    · refine ⟨_, rfl, sz_of (by simp), fun u1 n1 => ⟨sz_of (by simp), fun u2 n2 => q _ _ ((e1.trans e2).trans ((Ex.new n1).trans (Ex.new n2))) (fun z => ?_) (fun _ => ⟨_, rfl⟩)⟩⟩
      rcases hb with hb | hb
      · simp [z.lo] at hb
      · simp [z.hi] at hb
    · have j0 : leadF A is l1 = l2 := by simpa using c1
      have j1 : leadF A is h1 = h2 := by simpa using c2
      have e12 := e1.trans e2
      refine q_first (pre := [some (.ref d), some (.ref e), some (.ref t), some (.ref p), y4, y5]) (bad := tabBad A J1 G J2 (leadF A is)) (A := A) rfl rfl (nm rfl e2) (fun a y H3 e3 ha => nm rfl (e2.trans e3))
        (fun a b H3 e3 ha hb => et_test (ev_op (ld rfl (e2.trans e3) (ap_mem td.gd.wj ha hb) (ev_ljA (b := false) (ev_var rfl) (td.ext (e12.trans e3)) ha hb (ev_var rfl) (ev_var rfl)))
          (ev_ljA (b := false) (ev_var rfl) (te.ext (e12.trans e3)) (im a ha) (im b hb) (ld rfl (e2.trans e3) ha (ev_var rfl)) (ld rfl (e2.trans e3) hb (ev_var rfl))) (rv_ne rfl)))
        (fun a b H3 e3 ha hb fp => ?_) (fun y6 y7 H3 e3 fp => ?_)
      · exact ⟨_, rfl, _, rfl, sz_of (by simp), fun u1 n1 => ⟨sz_of (by simp), fun u2 n2 => q _ _ ((e12.trans e3).trans ((Ex.new n1).trans (Ex.new n2))) (fun z => (tab_no fp z.jo).elim) (fun _ => ⟨_, rfl⟩)⟩⟩
      · have e23 := e2.trans e3
        have e13 := e12.trans e3
        refine q_first (pre := [some (.ref d), some (.ref e), some (.ref t), some (.ref p), y4, y5]) (bad := tabBad A T1 G T2 (leadF A is)) (A := A) rfl rfl (nm rfl e23) (fun a y H4 e4 ha => nm rfl (e23.trans e4))
          (fun a b H4 e4 ha hb => et_test (ev_op (ld rfl (e23.trans e4) (ap_mem td.gd.wt ha hb) (ev_ljA (b := true) (ev_var rfl) (td.ext (e13.trans e4)) ha hb (ev_var rfl) (ev_var rfl)))
            (ev_ljA (b := true) (ev_var rfl) (te.ext (e13.trans e4)) (im a ha) (im b hb) (ld rfl (e23.trans e4) ha (ev_var rfl)) (ld rfl (e23.trans e4) hb (ev_var rfl))) (rv_ne rfl)))
          (fun a b H4 e4 ha hb fp2 => ?_) (fun z6 z7 H4 e4 fp2 => ?_)
        · exact ⟨_, rfl, _, rfl, sz_of (by simp), fun u1 n1 => ⟨sz_of (by simp), fun u2 n2 => q _ _ ((e13.trans e4).trans ((Ex.new n1).trans (Ex.new n2))) (fun z => (tab_no fp2 z.th).elim) (fun _ => ⟨_, rfl⟩)⟩⟩
        · exact s_ret ev_c fun H5 e5 => q _ _ ((e13.trans e4).trans e5) (fun _ => rfl) (fun nk => (nk ⟨j0, j1, tab_ok fp, tab_ok fp2⟩).elim)
end
end K06

set_option Elab.async false
set_option linter.all false
set_option maxRecDepth 100000
set_option maxHeartbeats 1000000
/-! Z12 (of no law): a list of anything, != []; two classes. -/
namespace S
open PySem PySem.Spec PyProof.Rows L2 Evl J ClX StX
def rNeNil (K : PySem.W.Frag) : R2 := fun x y H Q => ∃ (a b : Addr) (xs : List V), x = .ref a ∧ y = .ref b ∧ SqL K H a xs ∧ SqL K H b [] ∧ Q (.bl (!xs.isEmpty)) H
theorem op_neNil {X : Cx} (hu : X.A.units < cLine) : OpR X (compareOp .NotEq) (rNeNil X.K) := by
  intro pins s σ H x y v u Q I rx ry h
  obtain ⟨a, b, xs, rfl, rfl, ha, hb, q⟩ := h
  cases rx
  cases ry
  obtain ⟨us, r1, p1, _⟩ := I.list ha
  obtain ⟨ws, r2, p2, _⟩ := I.list hb
  cases r2
  cases r1 with
  | nil => exact SeqAt.RcNeAt.lists (e := fun _ => true) p1.isList p2.isList rfl hu (fun j j1 j2 => by simp at j1) _ _ _ _ ⟨.bl _, H, I, rfl, q⟩
  | cons r rr => exact SeqAt.RcNeAt.lists_lengths p1.isList p2.isList (by simp) hu _ _ _ _ ⟨.bl _, H, I, rfl, q⟩
/-- what is told for each of two classes -/
def spC (CT CP : Addr) (f : Addr → Sp) : Sp := fun vs H Q E => f CT vs H Q E ∨ f CP vs H Q E
theorem spC_mk {CT CP C : Addr} {f : Addr → Sp} {vs : List V} {H : Hp} {Q : VK} {E : XK} (h : C = CT ∨ C = CP) (z : f C vs H Q E) : spC CT CP f vs H Q E := by
  rcases h with rfl | rfl
  · exact .inl z
  · exact .inr z
theorem fn_c {P : Program} {w : World} {K : PySem.W.Frag} {mg : Str → Option Value} {base : Heap} {CX : CXT} {k : Nat} {f : Addr} {fd : FuncData} {ps : List Str} {CT CP : Addr} {g : Addr → Sp} (a : FnOk P w K mg base CX k f fd ps (g CT)) (b : FnOk P w K mg base CX k f fd ps (g CP)) : FnOk P w K mg base CX k f fd ps (spC CT CP g) := FnOk.or a b
end S

set_option Elab.async false
set_option linter.all false
set_option maxRecDepth 100000
set_option maxHeartbeats 1000000
/-! V1: what is drawn, read. -/
namespace K06
open PySem PySem.Spec PyProof.Rows L2 Evl J ClX StX S D
theorem noL_tab {J : List (List Str)} : noL (tab J) = true := by
  show noLs (J.map fun r => .tuple (r.map .str)) = true
  induction J with
  | nil => rfl
  | cons r J ih =>
    show (noL (.tuple (r.map .str)) && noLs (J.map fun r => .tuple (r.map .str))) = true
    rw [ih, Bool.and_true]
    exact noLs_strs r
theorem Made.butL {K : PySem.W.Frag} {C D a : Addr} {H H' : Hp} {xs : List V} {G : List Str} {J T : List (List Str)} {lo hi : Str} (h : Made K C H a G J T lo hi) (hD : H D = some (.lst xs)) (b : But D H H') : Made K C H' a G J T lo hi := by
  have e := but_ex b
  obtain ⟨dx, fs, g, d, j, t, h1, h2, h3, h4, h5, h6, h7, h8, h9, h10⟩ := h.sc.ex
  obtain ⟨dx2, fs2, mv, ov, k1, k2, k3, k4, k5⟩ := h.mo
  have nn : ∀ (q : Addr) (o : HO), H q = some o → (∀ xs, o ≠ .lst xs) → H' q = some o := fun q o z n => b q o (fun y => by
    rw [y, hD] at z
    exact n _ (Option.some.inj z).symm) z
  exact ⟨⟨⟨dx, fs, g, d, j, t, nn _ _ h1 (fun _ z => nomatch z), h2, ex_t e (sqt_dlL hD h3), h4, nn _ _ h5 (fun _ z => nomatch z), h6, dp_ext e (dp_noL hD h7 noL_tab), h8, dp_ext e (dp_noL hD h9 noL_tab), h10⟩, h.sc.nd, h.sc.sz, h.sc.wj, h.sc.wt, h.sc.lo, h.sc.hi⟩,
    dx2, fs2, mv, ov, nn _ _ k1 (fun _ z => nomatch z), k2, dp_ext e (dp_noL hD k3 noL_tab), k4, dp_ext e (dp_noL hD k5 noL_tab)⟩
theorem ToldM.tolE {K : PySem.W.Frag} {H : Hp} {d ln jn tn : Addr} {rj rt : List Addr} {G : List Str} {J T : List (List Str)} {lo hi : Str} (m : ToldM K H d ln jn tn rj rt G J T lo hi) : TolE H d G J T lo hi := by
  obtain ⟨kvs, h1, _, h2, h3, h4, h5, h6⟩ := m.dict
  exact ⟨⟨kvs, ln, jn, tn, rj, rt, h1, h2, m.names, h3, m.joins, m.rowj, h4, m.prods, m.rowt, h5, h6⟩, m.gd.nd, m.gd.z1, m.gd.z8, m.gd.wj, m.gd.wt, m.gd.lo, m.gd.hi⟩
/-- told, lawful, small, with the pool's names -/
structure Tld (H : Hp) (d : Addr) (G : List Str) (J T : List (List Str)) (lo hi : Str) : Prop where
  td : TolE H d G J T lo hi
  at_ : Good G J T lo hi
  law : Lawful G J T lo hi
  pl : ∀ x ∈ G, x ∈ pool
  z4 : G.length ≤ 4
section
variable {K : PySem.W.Frag} {CT CP p c a g d : Addr} {m : Nat} {H H' : Hp} {σ : L2.St} {G : List Str} {J T : List (List Str)} {lo hi : Str} {i : Nat}
theorem TolE.pen (h : TolE H d G J T lo hi) (hp : PenC H p c m) (b : But p H H') : TolE H' d G J T lo hi := by
  obtain ⟨ns, i, v, h1, _⟩ := hp
  refine h.off h1 (fun ss hs z => ?_) (fun rs hr hl z => ?_) b
  · cases ss with
    | nil => exact hs rfl
    | cons a r => simp at z
  · match rs, z with
    | [_], z => simp at z
    | _ :: _ :: _, z => simp at z
theorem TolE.refs {D : Addr} {ds : List Addr} (h : TolE H d G J T lo hi) (hD : H D = some (.lst (ds.map V.ref))) (n : ∀ x ∈ ds, ∀ ys, H x ≠ some (.lst ys)) (b : But D H H') : TolE H' d G J T lo hi := by
  refine h.off hD (fun ss hs z => ?_) (fun rs hr hl z => ?_) b
  · cases ss with
    | nil => exact hs rfl
    | cons a r =>
      cases ds with
      | nil => simp at z
      | cons x xs => simp at z
  · cases rs with
    | nil => exact hr rfl
    | cons a r =>
      cases ds with
      | nil => simp at z
      | cons x xs =>
        have : x = a := by simpa using congrArg List.head? z
        subst this
        obtain ⟨ys, e⟩ := hl x (by simp)
        exact n x (by simp) ys e
theorem Tld.ext (h : Tld H d G J T lo hi) (e : Ex H H') : Tld H' d G J T lo hi := ⟨h.td.ext e, h.at_, h.law, h.pl, h.z4⟩
theorem Tld.pen (h : Tld H d G J T lo hi) (hp : PenC H p c m) (b : But p H H') : Tld H' d G J T lo hi := ⟨h.td.pen hp b, h.at_, h.law, h.pl, h.z4⟩
theorem Tld.refs {D : Addr} {ds : List Addr} (h : Tld H d G J T lo hi) (hD : H D = some (.lst (ds.map V.ref))) (n : ∀ x ∈ ds, ∀ ys, H x ≠ some (.lst ys)) (b : But D H H') : Tld H' d G J T lo hi := ⟨h.td.refs hD n b, h.at_, h.law, h.pl, h.z4⟩
theorem Tld.nl (h : Tld H d G J T lo hi) : ∀ ys, H d ≠ some (.lst ys) := fun ys z => by
  obtain ⟨kvs, ln, jn, tn, rj, rt, h1, _⟩ := h.td.ex
  rw [h1] at z
  cases z
theorem pen_newD {D : Addr} {o : HO} (h : PenC H p c m) (h1 : p ≠ D) (h2 : c ≠ D) : PenC (upd H D o) p c m := by
  obtain ⟨ns, i, v, g1, g2, g3⟩ := h
  exact ⟨ns, i, v, by rw [upd_ne h1]; exact g1, by rw [upd_ne h2]; exact g2, g3⟩
theorem pen_ne {D : Addr} (h : PenC H p c m) (hD : H D = none) : p ≠ D ∧ c ≠ D := by
  obtain ⟨ns, i, v, g1, g2, g3⟩ := h
  refine ⟨fun z => ?_, fun z => ?_⟩
  · rw [z, hD] at g1
    cases g1
  · rw [z, hD] at g2
    cases g2
/-- a told one, by data that tell a family's places -/
theorem te_tld {Q : VK} {tp : TE} (hσ : σ[1]? = some (some (.ref p))) (hP : PenC H p c m) (hm : m ≤ 800000)
    (ht : ∀ Q' : VK, (∀ k H1 m1, But p H H1 → PenC H1 p c m1 → m1 ≤ m + 1 → 2 ≤ k → k ≤ 3 → Q' (.int (k : Nat)) H1) → tp σ H Q')
    (q : ∀ d H' G J T lo hi, But p H H' → PenC H' p c (m + 19) → Tld H' d G J T lo hi → Q (.ref d) H') : tCall (spTo K) [] E0 (tCons (tVar 1) (tCons (tCall (spPl K) [] E0 (tCons (tVar 1) (tCons tp tNil))) tNil)) σ H Q := by
  refine ⟨_, hσ, _, hσ, ht _ fun k H1 m1 b1 p1 l1 k2 k3 => ?_⟩
  refine ⟨p, c, m1, k, rfl, p1, k2, by omega, by omega, fun v H2 d b2 p2 dv fm => ?_⟩
  obtain ⟨n, M0, T0, lo, hi, po, hn⟩ := fam_plan fm (by omega)
  refine ⟨p, c, m1 + 2, v, d, n, M0, T0, lo, hi, rfl, p2, by omega, dv, po, fun td H3 ln jn tn rj rt G J T' l h φ O b3 p3 told img mφ => ?_⟩
  have lG : G.length = n := by
    rw [img.g, List.length_map]
    have := img.perm.length_eq
    rwa [List.length_range] at this
  exact q td H3 G J T' l h ((b1.trans b2).trans b3) (p3.up (by omega)) ⟨told.tolE, told.gd, law_img img po.2, fun x hx => let ⟨b, hb, e⟩ := img_lt img hx; e ▸ mφ b hb, by rw [lG]; omega⟩
abbrev tpDr (K : PySem.W.Frag) : TE := tOp (rIxL K) (tLst (tCons (tC (.int 3)) (tCons (tC (.int 3)) (tCons (tC (.int 2)) tNil)))) (tCall spDrawC [] E0 (tCons (tVar 1) (tCons (tC (.int 3)) tNil)))
def TpOk (p c : Addr) (tp : TE) : Prop := ∀ (σ' : L2.St) (H0 : Hp) (m0 : Nat) (Q' : VK), σ'[1]? = some (some (.ref p)) → PenC H0 p c m0 → m0 ≤ 800000 → (∀ (k : Nat) H1 m1, But p H0 H1 → PenC H1 p c m1 → m1 ≤ m0 + 1 → 2 ≤ k → k ≤ 3 → Q' (.int (k : Int)) H1) → tp σ' H0 Q'
theorem tp_two : TpOk p c (tC (.int 2)) := fun σ' H0 m0 Q' _ hP _ k => k 2 H0 m0 (But.of (Ex.refl _)) hP (by omega) (by decide) (by decide)
theorem tp_dr : TpOk p c (tpDr K) := fun σ' H0 m0 Q' hσ hP hm k => by
  refine ⟨sz_of (by simp), fun l hl => ?_⟩
  have e0 : Ex H0 (upd H0 l (.lst [.int 3, .int 3, .int 2])) := Ex.new hl
  have lp : l ≠ p := (pen_ne hP hl).1.symm
  refine ⟨_, hσ, p, c, 3, m0, rfl, by decide, by decide, hP.ext e0, by omega, fun d H1 b1 p1 d0 d1 => ?_⟩
  obtain ⟨n, rfl⟩ : ∃ n : Nat, d = (n : Int) := ⟨d.toNat, by omega⟩
  have hl1 : H1 l = some (.lst [.int 3, .int 3, .int 2]) := b1 _ _ lp upd_same
  have hn : n < 3 := by omega
  match n, hn with
  | 0, _ => exact (rv_ixL (K := K) (v := .int 3) (sq_of hl1) (atI_nat rfl)) H1 (Ex.refl H1) _ fun H2 e2 => k 3 H2 (m0 + 1) (((But.of e0).trans b1).trans (But.of e2)) (p1.ext e2) (by omega) (by decide) (by decide)
  | 1, _ => exact (rv_ixL (K := K) (v := .int 3) (sq_of hl1) (atI_nat rfl)) H1 (Ex.refl H1) _ fun H2 e2 => k 3 H2 (m0 + 1) (((But.of e0).trans b1).trans (But.of e2)) (p1.ext e2) (by omega) (by decide) (by decide)
  | 2, _ => exact (rv_ixL (K := K) (v := .int 2) (sq_of hl1) (atI_nat rfl)) H1 (Ex.refl H1) _ fun H2 e2 => k 2 H2 (m0 + 1) (((But.of e0).trans b1).trans (But.of e2)) (p1.ext e2) (by omega) (by decide) (by decide)
/-- a row of told ones, drawn one behind another -/
theorem te_tlds {Q : VK} (n : Nat) {j : Nat} {ta : TA} {tp : TE} {vs : List Nat} (hn : EvA ta σ H [.int (n : Int)]) (nz : n ≤ 10) (hw : ∀ x, wipe ((wipe σ vs).set j (some x)) vs = wipe σ vs) (hσ : ∀ x : V, ((wipe σ vs).set j (some x))[1]? = some (some (.ref p))) (hP : PenC H p c m) (hm : m ≤ 700000) (ht : TpOk p c tp)
    (q : ∀ D H' (ds : List Addr), H D = none → But p H H' → PenC H' p c (m + 19 * n) → H' D = some (.lst (ds.map V.ref)) → ds.length = n → (∀ d ∈ ds, ∃ G J T lo hi, Tld H' d G J T lo hi) → Q (.ref D) H') :
    tLc (iRng1 ta) (gName j) tYes (tCall (spTo K) [] E0 (tCons (tVar 1) (tCons (tCall (spPl K) [] E0 (tCons (tVar 1) (tCons tp tNil))) tNil))) vs σ H Q := by
  refine lc_rng (n := n) hn (by omega) fun D H1 e1 hD => ?_
  have nD := fresh_back e1 hD
  obtain ⟨pD, cD⟩ := pen_ne hP nD
  refine ⟨fun i H' => But p H H' ∧ PenC H' p c (m + 19 * i) ∧ ∃ ds : List Addr, H' D = some (.lst (ds.map V.ref)) ∧ ds.length = i ∧ ∀ d ∈ ds, ∃ G J T lo hi, Tld H' d G J T lo hi, ⟨But.of (e1.trans (Ex.new hD)), (hP.ext e1).ext (Ex.new hD), [], upd_same, rfl, fun v hv => nomatch hv⟩, fun i H2 hi ⟨b2, p2, ds, h2, l2, ok⟩ => ⟨hw _, ?_⟩, fun H2 ⟨b2, p2, ds, h2, l2, ok⟩ => q D H2 ds nD b2 (p2.up (by omega)) h2 (by omega) ok⟩
  refine te_tld (hσ _) p2 (by omega) (fun Q' k => ht _ _ _ _ (hσ _) p2 (by omega) k) fun d H3 G J T lo hi b3 p3 tl => ?_
  have D3 := b3 _ _ (Ne.symm pD) h2
  have nl : ∀ x ∈ ds, ∀ ys, H3 x ≠ some (.lst ys) := fun x hx => by
    obtain ⟨G', J', T', lo', hi', t'⟩ := ok x hx
    exact (t'.pen p2 b3).nl
  refine ⟨_, D3, sz_lt (by rw [List.length_map]; omega), fun b o hb z => ?_, ?_, ds ++ [d], by rw [upd_same, List.map_append]; rfl, by simp [l2], fun v hv => ?_⟩
  · have bD : b ≠ D := ne_of_none z nD
    rw [upd_ne bD]
    exact b3 _ _ hb (b2 _ _ hb z)
  · have e : m + 19 * i + 19 = m + 19 * (i + 1) := by omega
    rw [← e]
    exact pen_newD p3 pD cD
  · rcases List.mem_append.mp hv with z | z
    · obtain ⟨G', J', T', lo', hi', t'⟩ := ok v z
      exact ⟨G', J', T', lo', hi', (t'.pen p2 b3).refs D3 nl But.upd⟩
    · rw [List.mem_singleton.mp z]
      exact ⟨G, J, T, lo, hi, tl.refs D3 nl But.upd⟩
end
end K06

set_option Elab.async false
set_option linter.all false
set_option maxRecDepth 100000
set_option maxHeartbeats 1000000
/-! V2: scales made of what is drawn; pairs. -/
namespace K06
open PySem PySem.Spec PyProof.Rows L2 Evl J ClX StX S D
theorem strOk_app {x y : Str} (h : PyData.strOk x = true) (h2 : PyData.strOk y = true) : PyData.strOk (x ++ y) = true := by
  unfold PyData.strOk at *
  show (x.cps ++ y.cps).all _ = true
  rw [Array.all_append, h, h2]
  rfl
theorem ok_pool {A : List Str} (h : ∀ x ∈ A, x ∈ pool) : okS A := fun x hx => List.all_eq_true.mp (by decide +kernel : pool.all PyData.strOk = true) x (h x hx)
theorem ok_pair {A C : List Str} (hA : okS A) (hC : okS C) : okS (pairG A C) := fun x hx => by
  obtain ⟨a, b, ha, hb, rfl⟩ := pair_mem.mp hx
  exact strOk_app (strOk_app (hA a ha) (by decide +kernel)) (hC b hb)
abbrev teTo (K : PySem.W.Frag) : TE := tCall (spTo K) [] E0 (tCons (tVar 1) (tCons (tCall (spPl K) [] E0 (tCons (tVar 1) (tCons (tOp (rIxL K) (tLst (tCons (tC (.int 3)) (tCons (tC (.int 3)) (tCons (tC (.int 2)) tNil)))) (tCall spDrawC [] E0 (tCons (tVar 1) (tCons (tC (.int 3)) tNil)))) tNil))) tNil))
abbrev teT2 (K : PySem.W.Frag) : TE := tCall (spTo K) [] E0 (tCons (tVar 1) (tCons (tCall (spPl K) [] E0 (tCons (tVar 1) (tCons (tC (.int 2)) tNil))) tNil))
abbrev teSc (K : PySem.W.Frag) (CT : Addr) (j : Nat) : TE := tCall (spTS K CT) [] E0 (tCons (tVar j) tNil)
abbrev sAmC (K : PySem.W.Frag) (CT CP CM : Addr) : Sp := spC CT CP fun a => spC CT CP fun b => spAm K a b CM
abbrev sKoC (K : PySem.W.Frag) (CT CP CM : Addr) : Sp := spC CT CP fun a => spC CT CP fun b => spKO K a b CM
abbrev sMeC (K : PySem.W.Frag) (CT CP CM : Addr) : Sp := spC CT CP fun a => spC CT CP fun b => spME K a b CM
abbrev sUnC (K : PySem.W.Frag) (CT CP CM : Addr) : Sp := spC CT CP fun a => spUn K a CM
abbrev sMcC (K : PySem.W.Frag) (CT CP CM : Addr) : Sp := spC CT CP fun a => spMC K a CM
abbrev sShC (K : PySem.W.Frag) (CT CP CM : Addr) : Sp := spC CT CP fun a => spSh K a CT CT CM
abbrev sSmC (K : PySem.W.Frag) (CT CP CM : Addr) : Sp := spC CT CP fun a => spSm K a CM
abbrev teIm (K : PySem.W.Frag) (CM : Addr) (j : Nat) : TE := tMeth CM "images" (spImg K CM) [] E0 (tVar j) tNil
abbrev teNM (K : PySem.W.Frag) (CT CP CM : Addr) : TE := tObj CM (sMcC K CT CP CM) E0 (tVar 9) (tCons (tObj CM (sMcC K CT CP CM) E0 (tVar 7) (tCons (tVar 15) tNil)) tNil)
/-- what is told, and the scale of it -/
structure Pr (K : PySem.W.Frag) (C : Addr) (H : Hp) (d s : Addr) (A : List Str) (J T : List (List Str)) (lo hi : Str) : Prop where
  td : TolE H d A J T lo hi
  md : Made K C H s A J T lo hi
  law : Lawful A J T lo hi
  ok : okS A
  z4 : A.length ≤ 4
section
variable {K : PySem.W.Frag} {C CT CP CM p c a g d s : Addr} {m : Nat} {H H' : Hp} {σ : L2.St} {G : List Str} {J T : List (List Str)} {lo hi : Str} {i : Nat} {tz : TS} {E : Ends}
theorem Pr.ext (h : Pr K C H d s G J T lo hi) (e : Ex H H') : Pr K C H' d s G J T lo hi := ⟨h.td.ext e, h.md.ext e, h.law, h.ok, h.z4⟩
theorem Pr.pen (h : Pr K C H d s G J T lo hi) (hp : PenC H p c m) (b : But p H H') : Pr K C H' d s G J T lo hi := ⟨h.td.pen hp b, h.md.but hp b, h.law, h.ok, h.z4⟩
theorem Pr.refs {D : Addr} {ds : List Addr} (h : Pr K C H d s G J T lo hi) (hD : H D = some (.lst (ds.map V.ref))) (n : ∀ x ∈ ds, ∀ ys, H x ≠ some (.lst ys)) (b : But D H H') : Pr K C H' d s G J T lo hi := ⟨h.td.refs hD n b, h.md.butL hD b, h.law, h.ok, h.z4⟩
theorem Made.nl (h : Made K C H s G J T lo hi) : ∀ ys, H s ≠ some (.lst ys) := fun ys z => by
  obtain ⟨dx, fs, g, d, j, t, h1, _⟩ := h.sc.ex
  rw [h1] at z
  cases z
theorem TolE.nl (h : TolE H d G J T lo hi) : ∀ ys, H d ≠ some (.lst ys) := fun ys z => by
  obtain ⟨kvs, ln, jn, tn, rj, rt, h1, _⟩ := h.ex
  rw [h1] at z
  cases z
theorem Tld.at2 {K : PySem.W.Frag} (h : Tld H d G J T lo hi) : ToldAt K H d G J T lo hi := ⟨(h.td.tol (K := K)).ex, h.at_⟩
theorem q_tolds (n : Nat) {j k : Nat} {ta : TA} {tp : TE} {vs : List Nat} (hn : EvA ta σ H [.int (n : Int)]) (nz : n ≤ 10) (hw : ∀ x, wipe ((wipe σ vs).set j (some x)) vs = wipe σ vs) (hσ : ∀ x : V, ((wipe σ vs).set j (some x))[1]? = some (some (.ref p))) (hP : PenC H p c m) (hm : m ≤ 700000) (ht : TpOk p c tp)
    (q : ∀ D H' (ds : List Addr), H D = none → But p H H' → PenC H' p c (m + 19 * n) → H' D = some (.lst (ds.map V.ref)) → ds.length = n → (∀ d ∈ ds, ∃ G J T lo hi, Tld H' d G J T lo hi) → tz E (σ.set k (some (.ref D))) H') :
    tSeq (tAsg (tLc (iRng1 ta) (gName j) tYes (tCall (spTo K) [] E0 (tCons (tVar 1) (tCons (tCall (spPl K) [] E0 (tCons (tVar 1) (tCons tp tNil))) tNil))) vs) (gName k)) tz E σ H :=
  te_tlds (Q := fun v H1 => tz E (σ.set k (some v)) H1) n hn nz hw hσ hP hm ht q
theorem te_sc1 {Q : VK} {tx : TE} (h : Ev tx σ H (.ref d)) (t : Tld H d G J T lo hi) (q : ∀ s H', Ex H H' → Made K CT H' s G J T lo hi → Q (.ref s) H') : tCall (spTS K CT) [] E0 (tCons tx tNil) σ H Q :=
  h H (Ex.refl H) _ fun H1 e1 => ⟨d, G, J, T, lo, hi, rfl, (t.ext e1).at2, fun s H2 _ e2 md => q s H2 (e1.trans e2) md⟩
/-- the scales of three that are told -/
theorem te_scs {Q : VK} {j : Nat} {vs : List Nat} {L d0 d1 d2 : Addr} {G0 G1 G2 : List Str} {J0 T0 J1 T1 J2 T2 : List (List Str)} {l0 h0 l1 h1 l2 h2 : Str} (hL : σ[2]? = some (some (.ref L))) (gL : H L = some (.lst [.ref d0, .ref d1, .ref d2]))
    (t0 : Tld H d0 G0 J0 T0 l0 h0) (t1 : Tld H d1 G1 J1 T1 l1 h1) (t2 : Tld H d2 G2 J2 T2 l2 h2) (hw : ∀ x, wipe ((wipe σ vs).set j (some x)) vs = wipe σ vs) (hσ : ∀ x : V, ((wipe σ vs).set j (some x))[j]? = some (some x))
    (q : ∀ D H' s0 s1 s2, H D = none → Ex H H' → H' D = some (.lst [.ref s0, .ref s1, .ref s2]) → Made K CT H' s0 G0 J0 T0 l0 h0 → Made K CT H' s1 G1 J1 T1 l1 h1 → Made K CT H' s2 G2 J2 T2 l2 h2 → Q (.ref D) H') : tLc (iList K (tVar 2)) (gName j) tYes (teSc K CT j) vs σ H Q := by
  refine ⟨_, hL, L, rfl, ⟨_, sq_of gL⟩, fun D hD => ?_⟩
  refine lc_list (xs := [.ref d0, .ref d1, .ref d2]) (fun i H' => Ex H H' ∧ ∃ ss : List Addr, H' D = some (.lst (ss.map V.ref)) ∧ ss.length = i ∧ (∀ s, ss[0]? = some s → Made K CT H' s G0 J0 T0 l0 h0) ∧ (∀ s, ss[1]? = some s → Made K CT H' s G1 J1 T1 l1 h1) ∧ (∀ s, ss[2]? = some s → Made K CT H' s G2 J2 T2 l2 h2))
    ⟨Ex.new hD, [], upd_same, rfl, (fun s h => by simp at h), (fun s h => by simp at h), (fun s h => by simp at h)⟩ (fun i H' _ y => sq_of (y.1 _ _ gL)) ?_ ?_
  · rintro i x H2 hx ⟨e2, ss, f2, ls, m0, m1, m2⟩
    refine ⟨hw _, ?_⟩
    have go : ∀ (i : Nat) (ss : List Addr) {d : Addr} {G : List Str} {J T : List (List Str)} {lo hi : Str}, H2 D = some (.lst (ss.map V.ref)) → ss.length = i → i < 3 → x = .ref d → Tld H d G J T lo hi → (∀ s H3, Ex H2 H3 → Made K CT H3 s G J T lo hi → ∀ xs, H3 D = some (.lst xs) → (∀ t, (ss ++ [s])[0]? = some t → Made K CT (upd H3 D (.lst (xs ++ [.ref s]))) t G0 J0 T0 l0 h0) ∧ (∀ t, (ss ++ [s])[1]? = some t → Made K CT (upd H3 D (.lst (xs ++ [.ref s]))) t G1 J1 T1 l1 h1) ∧ (∀ t, (ss ++ [s])[2]? = some t → Made K CT (upd H3 D (.lst (xs ++ [.ref s]))) t G2 J2 T2 l2 h2)) →
        teSc K CT j ((wipe σ vs).set j (some x)) H2 fun y H4 => ∃ acc, H4 D = some (.lst acc) ∧ acc.length < sizeLine ∧ Ex H (upd H4 D (.lst (acc ++ [y]))) ∧ ∃ ss : List Addr, (upd H4 D (.lst (acc ++ [y]))) D = some (.lst (ss.map V.ref)) ∧ ss.length = i + 1 ∧ (∀ s, ss[0]? = some s → Made K CT (upd H4 D (.lst (acc ++ [y]))) s G0 J0 T0 l0 h0) ∧ (∀ s, ss[1]? = some s → Made K CT (upd H4 D (.lst (acc ++ [y]))) s G1 J1 T1 l1 h1) ∧ (∀ s, ss[2]? = some s → Made K CT (upd H4 D (.lst (acc ++ [y]))) s G2 J2 T2 l2 h2) := fun i ss {d G J T lo hi} f2 ls i3 ex t k => by
      subst ex
      refine te_sc1 (ev_var (hσ _)) (t.ext e2) fun s H3 e3 md => ⟨_, e3 _ _ f2, sz_lt (by rw [List.length_map]; omega), Ex.mut (e2.trans e3) hD, ss ++ [s], by rw [upd_same, List.map_append]; rfl, by simp [ls], ?_⟩
      exact k s H3 e3 md _ (e3 _ _ f2)
    have old : ∀ {s H3} {G : List Str} {J T : List (List Str)} {lo hi : Str} {xs : List V} {o : HO}, Ex H2 H3 → H3 D = some (.lst xs) → Made K CT H2 s G J T lo hi → Made K CT (upd H3 D o) s G J T lo hi := fun e f md => (md.ext e).butL f But.upd
    match i, hx, ss, ls, f2, m0, m1, m2 with
    | 0, hx, [], ls, f2, m0, m1, m2 =>
      refine go 0 [] f2 rfl (by omega) (Option.some.inj hx).symm t0 fun s H3 e3 md xs f => ⟨fun t ht => ?_, fun t ht => by simp at ht, fun t ht => by simp at ht⟩
      obtain rfl : s = t := by simpa using ht
      exact md.butL f But.upd
    | 1, hx, [u0], ls, f2, m0, m1, m2 =>
      refine go 1 [u0] f2 rfl (by omega) (Option.some.inj hx).symm t1 fun s H3 e3 md xs f => ⟨fun t ht => ?_, fun t ht => ?_, fun t ht => by simp at ht⟩
      · exact old e3 f (m0 t ht)
      · obtain rfl : s = t := by simpa using ht
        exact md.butL f But.upd
    | 2, hx, [u0, u1], ls, f2, m0, m1, m2 =>
      refine go 2 [u0, u1] f2 rfl (by omega) (Option.some.inj hx).symm t2 fun s H3 e3 md xs f => ⟨fun t ht => ?_, fun t ht => ?_, fun t ht => ?_⟩
      · exact old e3 f (m0 t ht)
      · exact old e3 f (m1 t ht)
      · obtain rfl : s = t := by simpa using ht
        exact md.butL f But.upd
    | n + 3, hx, _, _, _, _, _, _ => simp at hx
  · rintro H2 ⟨e2, ss, f2, ls, m0, m1, m2⟩
    match ss, ls, f2, m0, m1, m2 with
    | [u0, u1, u2], ls, f2, m0, m1, m2 => exact q D H2 u0 u1 u2 hD e2 f2 (m0 u0 rfl) (m1 u1 rfl) (m2 u2 rfl)
theorem q_scs {j k : Nat} {vs : List Nat} {L d0 d1 d2 : Addr} {G0 G1 G2 : List Str} {J0 T0 J1 T1 J2 T2 : List (List Str)} {l0 h0 l1 h1 l2 h2 : Str} (hL : σ[2]? = some (some (.ref L))) (gL : H L = some (.lst [.ref d0, .ref d1, .ref d2]))
    (t0 : Tld H d0 G0 J0 T0 l0 h0) (t1 : Tld H d1 G1 J1 T1 l1 h1) (t2 : Tld H d2 G2 J2 T2 l2 h2) (hw : ∀ x, wipe ((wipe σ vs).set j (some x)) vs = wipe σ vs) (hσ : ∀ x : V, ((wipe σ vs).set j (some x))[j]? = some (some x))
    (q : ∀ D H' s0 s1 s2, H D = none → Ex H H' → H' D = some (.lst [.ref s0, .ref s1, .ref s2]) → Made K CT H' s0 G0 J0 T0 l0 h0 → Made K CT H' s1 G1 J1 T1 l1 h1 → Made K CT H' s2 G2 J2 T2 l2 h2 → tz E (σ.set k (some (.ref D))) H') : tSeq (tAsg (tLc (iList K (tVar 2)) (gName j) tYes (teSc K CT j) vs) (gName k)) tz E σ H :=
  te_scs (Q := fun v H1 => tz E (σ.set k (some v)) H1) hL gL t0 t1 t2 hw hσ q
theorem ev_ix {F : Addr} {j k : Nat} {xs : List V} {v : V} (hσ : σ[j]? = some (some (.ref F))) (hF : H F = some (.lst xs)) (hx : xs[k]? = some v) : Ev (tOp (rIxL K) (tVar j) (tC (.int (k : Int)))) σ H v := ev_op (ev_var hσ) ev_c (rv_ixL (sq_of hF) (atI_nat hx))
/-- tolds[2] = [tolds[0], tolds[2]][..] -/
theorem s_pick2 {L : Addr} {x0 x1 x2 : V} (hL : σ[2]? = some (some (.ref L))) (hσ : σ[1]? = some (some (.ref p))) (gL : H L = some (.lst [x0, x1, x2])) (pL : p ≠ L) (hP : PenC H p c m) (hm : m ≤ 800000)
    (q : ∀ x H1, But p H H1 → PenC H1 p c (m + 1) → x = x0 ∨ x = x2 → E.nx σ (upd H1 L (.lst [x0, x1, x]))) :
    tAsg (tOp (rIxL K) (tLst (tCons (tOp (rIxL K) (tVar 2) (tC (.int 0))) (tCons (tOp (rIxL K) (tVar 2) (tC (.int 2))) tNil))) (tCall spDrawC [] E0 (tCons (tVar 1) (tCons (tC (.int 2)) tNil)))) (gSub (tVar 2) (tC (.int 2)) rSetL) E σ H := by
  refine (ev_ix (K := K) (k := 0) hL gL rfl) H (Ex.refl H) _ fun H1 e1 => (ev_ix (K := K) (k := 2) hL (e1 _ _ gL) rfl) H1 (Ex.refl H1) _ fun H2 e2 => ⟨sz_of (by simp), fun l hl => ?_⟩
  have e3 : Ex H (upd H2 l (.lst [x0, x2])) := (e1.trans e2).trans (Ex.new hl)
  have l3 : (upd H2 l (.lst [x0, x2])) l = some (.lst [x0, x2]) := upd_same
  have P3 := hP.ext e3
  have lp : l ≠ p := fun z => by
    have := (pen_ne (hP.ext (e1.trans e2)) hl).1
    exact this z.symm
  generalize upd H2 l (.lst [x0, x2]) = H3 at e3 l3 P3
  refine ⟨_, hσ, p, c, 2, m, rfl, by decide, by decide, P3, by omega, fun d H4 b4 p4 d0 d1 => ?_⟩
  obtain ⟨n, rfl⟩ : ∃ n : Nat, d = (n : Int) := ⟨d.toNat, by omega⟩
  have hl4 : H4 l = some (.lst [x0, x2]) := b4 _ _ lp l3
  have L4 : H4 L = some (.lst [x0, x1, x2]) := b4 _ _ (Ne.symm pL) (e3 _ _ gL)
  have fin : ∀ x, x = x0 ∨ x = x2 → ∀ H5, Ex H4 H5 → (gSub (tVar 2) (tC (.int 2)) rSetL) x σ H5 fun σ2 H2 => E.nx σ2 H2 := fun x hx H5 e5 =>
    ⟨_, hL, L, [x0, x1, x2], ((2 : Nat) : Int), 2, rfl, rfl, e5 _ _ L4, ixN_nat (by simp), q x H5 (((But.of e3).trans b4).trans (But.of e5)) (p4.ext e5) hx⟩
  have hn : n < 2 := by omega
  match n, hn with
  | 0, _ => exact (rv_ixL (K := K) (v := x0) (sq_of hl4) (atI_nat rfl)) H4 (Ex.refl H4) _ fun H5 e5 => fin x0 (.inl rfl) H5 e5
  | 1, _ => exact (rv_ixL (K := K) (v := x2) (sq_of hl4) (atI_nat rfl)) H4 (Ex.refl H4) _ fun H5 e5 => fin x2 (.inr rfl) H5 e5
/-- tolds[0] = the two side by side -/
theorem q_bes {L F e0 e1 x0 x1 x2 : Addr} {G0 G1 : List Str} {J0 T0 J1 T1 : List (List Str)} {l0 h0 l1 h1 : Str} (hL : σ[2]? = some (some (.ref L))) (hF : σ[4]? = some (some (.ref F))) (gL : H L = some (.lst [.ref x0, .ref x1, .ref x2])) (gF : H F = some (.lst [.ref e0, .ref e1])) (t0 : Tld H e0 G0 J0 T0 l0 h0) (t1 : Tld H e1 G1 J1 T1 l1 h1) (hz : G0.length * G1.length ≤ 8)
    (q : ∀ r H1, Ex H H1 → TolE H1 r (pairG G0 G1) (pairT G0 G1 J0 J1) (pairT G0 G1 T0 T1) (bes l0 l1) (bes h0 h1) → tz E σ (upd H1 L (.lst [.ref r, .ref x1, .ref x2]))) :
    tSeq (tAsg (tCall (spBs K) [] E0 (tCons (tOp (rIxL K) (tVar 4) (tC (.int 0))) (tCons (tOp (rIxL K) (tVar 4) (tC (.int 1))) tNil))) (gSub (tVar 2) (tC (.int 0)) rSetL)) tz E σ H :=
  (ev_ix (K := K) (k := 0) hF gF rfl) H (Ex.refl H) _ fun H1 y1 => (ev_ix (K := K) (k := 1) hF (y1 _ _ gF) rfl) H1 (Ex.refl H1) _ fun H2 y2 =>
    ⟨e0, e1, G0, G1, J0, T0, J1, T1, l0, h0, l1, h1, rfl, ((t0.ext (y1.trans y2)).td.tol), ((t1.ext (y1.trans y2)).td.tol), hz, pool_inj t0.pl t1.pl, fun x hx => Nat.le_trans (pool_len (t0.pl x hx)) (by decide), fun x hx => Nat.le_trans (pool_len (t1.pl x hx)) (by decide), fun r H3 n3 y3 te =>
      ⟨_, hL, L, _, ((0 : Nat) : Int), 0, rfl, rfl, ((y1.trans y2).trans y3) _ _ gL, ixN_nat (by simp), q r H3 ((y1.trans y2).trans y3) te⟩⟩
/-- scales[0] = the pair of the two -/
theorem s_mkp {L F e0 e1 x0 x1 x2 : Addr} {G0 G1 : List Str} {J0 T0 J1 T1 : List (List Str)} {l0 h0 l1 h1 : Str} (hL : σ[3]? = some (some (.ref L))) (hF : σ[4]? = some (some (.ref F))) (gL : H L = some (.lst [.ref x0, .ref x1, .ref x2])) (gF : H F = some (.lst [.ref e0, .ref e1])) (t0 : Tld H e0 G0 J0 T0 l0 h0) (t1 : Tld H e1 G1 J1 T1 l1 h1) (hz : G0.length * G1.length ≤ 8)
    (q : ∀ r H1, Ex H H1 → Made K CP H1 r (pairG G0 G1) (pairT G0 G1 J0 J1) (pairT G0 G1 T0 T1) (bes l0 l1) (bes h0 h1) → E.nx σ (upd H1 L (.lst [.ref r, .ref x1, .ref x2]))) :
    tAsg (tMake CP (spPI K CT CP) [] E0 (tCons (tCall (spTS K CT) [] E0 (tCons (tOp (rIxL K) (tVar 4) (tC (.int 0))) tNil)) (tCons (tCall (spTS K CT) [] E0 (tCons (tOp (rIxL K) (tVar 4) (tC (.int 1))) tNil)) tNil))) (gSub (tVar 3) (tC (.int 0)) rSetL) E σ H :=
  te_sc1 (ev_ix (K := K) (k := 0) hF gF rfl) t0 fun a1 H6 e6 d1 => te_sc1 (ev_ix (K := K) (k := 1) hF (e6 _ _ gF) rfl) (t1.ext e6) fun a2 H7 e67 d2 => fun mm dx hm hdx ne => by
    have e7 := e6.trans e67
    have e45 : Ex H7 (upd (upd H7 dx (.own mm)) mm (.ins CP dx [])) := (Ex.new hdx).trans (Ex.new (by rw [upd_ne (Ne.symm ne)]; exact hm))
    have eD : Ex H7 (dl mm (upd (upd H7 dx (.own mm)) mm (.ins CP dx []))) := dl_of e45 hm
    refine ⟨mm, dx, a1, a2, G0, G1, J0, T0, J1, T1, l0, h0, l1, h1, rfl, upd_same, (d1.sc.ext e67).ext eD, d2.sc.ext eD, by omega, pool_inj t0.pl t1.pl, fun x hx => Nat.le_trans (pool_len (t0.pl x hx)) (by decide), fun x hx => Nat.le_trans (pool_len (t1.pl x hx)) (by decide), fun H8 b8 mp => ⟨rfl, ?_⟩⟩
    have e8 : Ex H H8 := e7.trans (But.ex b8 e45 hm)
    exact ⟨_, hL, L, _, ((0 : Nat) : Int), 0, rfl, rfl, e8 _ _ gL, ixN_nat (by simp), q mm H8 e8 mp⟩
end
end K06

set_option Elab.async false
set_option linter.all false
set_option maxRecDepth 100000
set_option maxHeartbeats 1000000
/-! V3: maps, their images; what they tell. -/
namespace K06
open PySem PySem.Spec PyProof.Rows L2 Evl J ClX StX S D
open K13 (EvD ed_ev ed_var da_cons da_nil ed_tup)
/-! ### of rows -/
noncomputable abbrev rws (A : List Str) (J1 T1 : List (List Str)) (l1 h1 : Str) (G : List Str) (J2 T2 : List (List Str)) (l2 h2 : Str) : List (List Str) := (tups G A.length).filter (keepsB A J1 T1 l1 h1 G J2 T2 l2 h2)
theorem snoc_cases {α : Type} {r : List α} {n : Nat} (h : r.length = n + 1) : ∃ s x, r = s ++ [x] ∧ s.length = n := by
  have ne : r ≠ [] := fun z => by simp [z] at h
  refine ⟨r.dropLast, r.getLast ne, (List.dropLast_concat_getLast ne).symm, ?_⟩
  rw [List.length_dropLast]
  omega
theorem tups_of {G : List Str} : ∀ {n : Nat} {r : List Str}, r.length = n → (∀ x ∈ r, x ∈ G) → r ∈ tups G n
  | 0, r, h, _ => by
    obtain rfl := List.length_eq_zero_iff.mp h
    exact List.mem_singleton.mpr rfl
  | n + 1, r, h, m => by
    obtain ⟨s, x, rfl, hs⟩ := snoc_cases h
    exact List.mem_flatMap.mpr ⟨s, tups_of hs fun y hy => m y (List.mem_append_left _ hy), List.mem_map.mpr ⟨x, m x (by simp), rfl⟩⟩
theorem rws_iff {A G is : List Str} {J1 T1 J2 T2 : List (List Str)} {l1 h1 l2 h2 : Str} : is ∈ rws A J1 T1 l1 h1 G J2 T2 l2 h2 ↔ (is.length = A.length ∧ ∀ x ∈ is, x ∈ G) ∧ Keeps A J1 T1 l1 h1 G J2 T2 l2 h2 (leadF A is) := by
  unfold rws
  rw [List.mem_filter, keepsB_iff]
  exact ⟨fun h => ⟨tups_mem h.1, h.2⟩, fun h => ⟨tups_of h.1.1 h.1.2, h.2⟩⟩
theorem lead_in {A G is : List Str} (h : is.length = A.length) (m : ∀ x ∈ is, x ∈ G) {x : Str} (hx : x ∈ A) : leadF A is x ∈ G := by
  have hi : A.idxOf x < is.length := by
    rw [h]
    exact List.idxOf_lt_length_of_mem hx
  unfold leadF
  rw [List.getD_eq_getElem?_getD, List.getElem?_eq_getElem hi]
  exact m _ (List.getElem_mem hi)
theorem map_lead {A is : List Str} (nd : A.Nodup) (h : is.length = A.length) : A.map (leadF A is) = is := by
  refine List.ext_getElem (by rw [List.length_map, h]) fun i h1 h2 => ?_
  rw [List.getElem_map]
  unfold leadF
  rw [List.Nodup.idxOf_getElem nd i (by rw [← h]; exact h2), List.getD_eq_getElem?_getD, List.getElem?_eq_getElem h2]
  rfl
theorem rws_len {A G : List Str} {J1 T1 J2 T2 : List (List Str)} {l1 h1 l2 h2 : Str} (zA : A.length ≤ 4) (zG : G.length ≤ 4) : (rws A J1 T1 l1 h1 G J2 T2 l2 h2).length ≤ 256 :=
  Nat.le_trans (List.length_filter_le _ _) (Nat.le_trans (tups_le zG) (Nat.pow_le_pow_right (n := 4) (by decide) zA))
theorem rws_ok {A G : List Str} {J1 T1 J2 T2 : List (List Str)} {l1 h1 l2 h2 : Str} (o : okS G) : ∀ r ∈ rws A J1 T1 l1 h1 G J2 T2 l2 h2, okS r := fun r hr x hx => o x ((rws_iff.mp hr).1.2 x hx)
theorem rws_self {A : List Str} {J1 T1 : List (List Str)} {l1 h1 : Str} (wj : Wf A J1) (wt : Wf A T1) (ml : l1 ∈ A) (mh : h1 ∈ A) : A ∈ rws A J1 T1 l1 h1 A J1 T1 l1 h1 := rws_iff.mpr ⟨⟨rfl, fun x hx => hx⟩, keeps_self wj wt ml mh⟩
theorem rws_comp {A G U is js : List Str} {J1 T1 J2 T2 J3 T3 : List (List Str)} {l1 h1 l2 h2 l3 h3 : Str} (hi : is ∈ rws A J1 T1 l1 h1 G J2 T2 l2 h2) (hj : js ∈ rws G J2 T2 l2 h2 U J3 T3 l3 h3) (wj : Wf A J1) (wt : Wf A T1) (ml : l1 ∈ A) (mh : h1 ∈ A) : is.map (leadF G js) ∈ rws A J1 T1 l1 h1 U J3 T3 l3 h3 := by
  obtain ⟨⟨a1, a2⟩, a3⟩ := rws_iff.mp hi
  obtain ⟨⟨b1, b2⟩, b3⟩ := rws_iff.mp hj
  refine rws_iff.mpr ⟨⟨by rw [List.length_map, a1], fun x hx => ?_⟩, keeps_comp a1 a3 b3 (fun x hx => lead_in a1 a2 hx) wj wt ml mh⟩
  obtain ⟨y, hy, rfl⟩ := List.mem_map.mp hx
  exact lead_in b1 b2 (a2 y hy)
/-- from and to one grade alone -/
theorem one_of {A : List Str} {J T : List (List Str)} {lo hi : Str} (L : Lawful A J T lo hi) (h : A.length = 1) : A = [lo] ∧ hi = lo := by
  match A, h with
  | [x], _ =>
    have e1 : lo = x := List.mem_singleton.mp L.pl
    have e2 : hi = x := List.mem_singleton.mp L.ph
    exact ⟨by rw [e1], by rw [e1, e2]⟩
theorem all_one {A : List Str} {J T : List (List Str)} {lo hi : Str} (L : Lawful A J T lo hi) (nd : A.Nodup) (h : hi = lo) : A.length = 1 := by
  have e : ∀ x ∈ A, x = lo := fun x hx => by
    have h1 := L.jh x hx
    have h2 := L.jl x hx
    rw [h] at h1
    exact h2.symm.trans h1
  match A, L.pl, nd, e with
  | [x], _, _, _ => rfl
  | x :: y :: r, _, nd, e =>
    have e1 := e x (by simp)
    have e2 := e y (by simp)
    exact absurd (e1.trans e2.symm) (by
      have := (List.nodup_cons.mp nd).1
      intro z
      exact this (by simp [z]))
theorem lead_const {A is : List Str} {g : Str} (h : is.length = A.length) (m : ∀ x ∈ is, x = g) {x : Str} (hx : x ∈ A) : leadF A is x = g := by
  have := lead_in (G := [g]) h (fun y hy => List.mem_singleton.mpr (m y hy)) hx
  exact List.mem_singleton.mp this
theorem rws_to_one {A : List Str} {J1 T1 : List (List Str)} {l1 h1 g : Str} {J2 T2 : List (List Str)} (L1 : Lawful A J1 T1 l1 h1) (L : Lawful [g] J2 T2 g g) : (rws A J1 T1 l1 h1 [g] J2 T2 g g).length = 1 := by
  have kp : ∀ r ∈ tups [g] A.length, keepsB A J1 T1 l1 h1 [g] J2 T2 g g r = true := fun r hr => by
    obtain ⟨a, b⟩ := tups_mem hr
    have c : ∀ x ∈ A, leadF A r x = g := fun x hx => lead_const a (fun y hy => List.mem_singleton.mp (b y hy)) hx
    refine keepsB_iff.mpr ⟨c _ L1.pl, c _ L1.ph, fun x y hx hy => ?_, fun x y hx hy => ?_⟩
    · rw [c _ (L1.jm x y hx hy), c x hx, c y hy]
      exact (L.ji g List.mem_cons_self).symm
    · rw [c _ (L1.tm x y hx hy), c x hx, c y hy]
      exact (L.th g List.mem_cons_self).symm
  unfold rws
  rw [List.filter_eq_self.mpr kp, tups_len]
  simp
theorem rws_from_one {A : List Str} {J1 T1 : List (List Str)} {l1 h1 g : Str} {J2 T2 : List (List Str)} (L1 : Lawful A J1 T1 l1 h1) (nd : A.Nodup) (L : Lawful [g] J2 T2 g g) : (rws [g] J2 T2 g g A J1 T1 l1 h1).isEmpty = !decide (A.length = 1) := by
  by_cases h : A.length = 1
  · obtain ⟨rfl, rfl⟩ := one_of L1 h
    have m : [h1] ∈ rws [g] J2 T2 g g [h1] J1 T1 h1 h1 := by
      have e : ∀ x ∈ [g], leadF [g] [h1] x = h1 := fun x hx => lead_const (by simp) (fun y hy => List.mem_singleton.mp hy) hx
      refine rws_iff.mpr ⟨⟨rfl, fun x hx => hx⟩, e g (by simp), e g (by simp), fun a b ha hb => ?_, fun a b ha hb => ?_⟩
      · rw [e _ (L.jm a b ha hb), e a ha, e b hb]
        exact (L1.ji h1 List.mem_cons_self).symm
      · rw [e _ (L.tm a b ha hb), e a ha, e b hb]
        exact (L1.th h1 List.mem_cons_self).symm
    rw [decide_eq_true h]
    cases hr : rws [g] J2 T2 g g [h1] J1 T1 h1 h1 with
    | nil =>
      rw [hr] at m
      cases m
    | cons a r => rfl
  · rw [decide_eq_false h]
    cases hr : rws [g] J2 T2 g g A J1 T1 l1 h1 with
    | nil => rfl
    | cons a r =>
      have m : a ∈ rws [g] J2 T2 g g A J1 T1 l1 h1 := by rw [hr]; exact List.mem_cons_self
      obtain ⟨_, k⟩ := rws_iff.mp m
      exact absurd (all_one L1 nd (k.hi.symm.trans k.lo)) h
/-- what one grade leaves of another: two ways to work it out -/
theorem put_fold {A : List Str} {J T : List (List Str)} {lo hi : Str} (L : Lawful A J T lo hi) {xs : List Str} (h : ∀ x ∈ xs, x ∈ A) : put A J lo xs = xs.foldl (ap A J) lo := by
  cases xs with
  | nil => rfl
  | cons x r =>
    show r.foldl (ap A J) x = r.foldl (ap A J) (ap A J lo x)
    rw [L.jl x (h x (by simp))]
theorem only_same {A : List Str} {J T : List (List Str)} {lo hi a b : Str} (L : Lawful A J T lo hi) (ha : a ∈ A) : onlyOf A J T lo a b = onlyF A J T lo a b := by
  unfold onlyOf onlyF
  have e : (A.filter fun d => decide (ap A T a d ∈ lowerOf A J b)) = A.filter fun d => decide (ap A J (ap A T a d) b = b) := by
    refine List.filter_congr fun d hd => decide_eq_decide.mpr ⟨fun z => (low_mem.mp z).2, fun z => low_mem.mpr ⟨L.tm a d ha hd, z⟩⟩
  rw [e]
  exact put_fold L fun x hx => (List.mem_filter.mp hx).1
theorem firstP_congr {A : List Str} {f g : Str → Str → Bool} (h : ∀ a ∈ A, ∀ b ∈ A, f a b = g a b) : firstP A f = firstP A g := by
  unfold firstP
  have e : ∀ (l : List (Str × Str)), (∀ p ∈ l, p.1 ∈ A ∧ p.2 ∈ A) → l.find? (fun p => f p.1 p.2) = l.find? (fun p => g p.1 p.2) := fun l hl => by
    induction l with
    | nil => rfl
    | cons p r ih =>
      obtain ⟨h1, h2⟩ := hl p (by simp)
      rw [List.find?_cons, List.find?_cons, h _ h1 _ h2, ih fun q hq => hl q (List.mem_cons_of_mem _ hq)]
  refine e _ fun p hp => ?_
  obtain ⟨a, ha, h1⟩ := List.mem_flatMap.mp hp
  obtain ⟨b, hb, rfl⟩ := List.mem_map.mp h1
  exact ⟨ha, hb⟩
theorem ko_un {A G : List Str} {J1 T1 J2 T2 : List (List Str)} {l1 h1 l2 h2 : Str} {φ : Str → Str} (L1 : Lawful A J1 T1 l1 h1) (L2 : Lawful G J2 T2 l2 h2) (im : ∀ x ∈ A, φ x ∈ G) : firstP A (koBad A G J1 T1 l1 J2 T2 l2 φ) = firstP A (unBad A G J1 T1 l1 J2 T2 l2 φ) :=
  firstP_congr fun a ha b hb => by
    unfold koBad unBad
    rw [only_same L1 ha, only_same L2 (im a ha)]
theorem ko_self {A : List Str} {J1 T1 : List (List Str)} {l1 h1 : Str} (wj : Wf A J1) (hl : l1 ∈ A) : firstP A (koBad A A J1 T1 l1 J1 T1 l1 (leadF A A)) = none :=
  firstP_none fun a ha b hb => by
    unfold koBad
    rw [lead_self (only_in wj hl), lead_self ha, lead_self hb]
    simp
theorem sh_optD {A : List Str} {f : Str → Str → Bool} (o : okS A) : SeqAt.shaped (optD (firstP A f)) = true := by
  cases h : firstP A f with
  | none => rfl
  | some p =>
    obtain ⟨a, b⟩ := p
    unfold firstP at h
    have h2 := List.mem_of_find?_eq_some h
    obtain ⟨x, hx, h3⟩ := List.mem_flatMap.mp h2
    obtain ⟨y, hy, h4⟩ := List.mem_map.mp h3
    obtain ⟨rfl, rfl⟩ : x = a ∧ y = b := by simpa using h4
    have z := sh_strs (A := [x, y]) (fun u hu => by
      rcases List.mem_cons.mp hu with e | e
      · rw [e]; exact o _ hx
      · rw [List.mem_singleton.mp e]; exact o _ hy)
    exact z
theorem canLay_rows : ∀ {J : List (List Str)}, (∀ r ∈ J, okS r) → PyData.canLayAll0 (J.map fun r => .list (r.map .str)) = true
  | [], _ => rfl
  | r :: J, hJ => by
    have ih := canLay_rows (J := J) fun x hx => hJ x (List.mem_cons_of_mem _ hx)
    have h := canLay_strs (hJ r List.mem_cons_self)
    simp only [List.map_cons, PyData.canLayAll0, PyData.canLay0, h, ih, Bool.and_self]
theorem depth_rows : ∀ J : List (List Str), PyData.depthAll (J.map fun r => .list (r.map .str)) ≤ 3
  | [] => by simp [PyData.depthAll]
  | r :: J => by
    have ih := depth_rows J
    have h := depth_strs r
    simp only [List.map_cons, PyData.depthAll, PyData.depth]
    omega
theorem sh_rowsL {J : List (List Str)} (h : ∀ r ∈ J, okS r) : SeqAt.shaped (rowsL J) = true := by
  unfold SeqAt.shaped rowsL
  have h1 : (PyData.list (J.map fun r => .list (r.map .str))).canLay0 = true := by
    simp only [PyData.canLay0, canLay_rows h]
  have h2 : (PyData.list (J.map fun r => .list (r.map .str))).depth ≤ 64 := by
    have := depth_rows J
    simp only [PyData.depth]
    omega
  rw [h1, decide_eq_true h2]
  rfl
theorem sh_strL {A : List Str} (h : okS A) : SeqAt.shaped (.list (A.map .str)) = true := by
  unfold SeqAt.shaped
  have h1 : (PyData.list (A.map .str)).canLay0 = true := by
    simp only [PyData.canLay0, canLay_strs h]
  have h2 : (PyData.list (A.map .str)).depth ≤ 64 := by
    have := depth_strs A
    simp only [PyData.depth]
    omega
  rw [h1, decide_eq_true h2]
  rfl
end K06

set_option Elab.async false
set_option linter.all false
set_option maxRecDepth 100000
set_option maxHeartbeats 1000000
/-! V4: readings of maps. -/
namespace K06
open PySem PySem.Spec PyProof.Rows L2 Evl J ClX StX S D
open K13 (EvD ed_ev ed_var da_cons da_nil ed_tup)
section
variable {K : PySem.W.Frag} {C Cs Ct CT CP CM p c a b g d e s t u l m n : Addr} {H H' : Hp} {σ : L2.St} {A G U B is js : List Str} {J1 T1 J2 T2 J3 T3 : List (List Str)} {l1 h1 l2 h2 l3 h3 : Str} {tz : TS} {E : Ends} {ta tb tx ty te tl : TE}
theorem ev_neDs {D : PyData} (x1 : EvD K ta σ H D) (x2 : EvD K tb σ H D) (sh : SeqAt.shaped D = true) : Ev (tOp (rNeD K) ta tb) σ H (.bl false) := fun H1 x Q q =>
  x1 H1 x _ fun v H2 e2 dp => x2 H2 (x.trans e2) _ fun u H3 e3 dq => ⟨D, D, dp_ext e3 dp, dq, sh, sh, by rw [SeqAt.eqv_refl _ (SeqAt.canLay_of_shaped sh)]; exact q H3 (e2.trans e3)⟩
theorem ed_ofL (h : EvL te σ H (B.map V.str)) : EvD K te σ H (.list (B.map .str)) := fun H1 x Q q => h H1 x _ fun p H2 _ e2 h2 => q _ H2 e2 (.lst (sq_of h2) (dpa_strs B))
theorem el_img (h : Ev tx σ H (.ref m)) (im : ImgAt K CM H m B) : EvL (tMeth CM "images" (spImg K CM) [] E0 tx tNil) σ H (B.map V.str) := fun H1 x Q q =>
  h H1 x _ fun H2 e2 => by
    have im2 := im.ext (x.trans e2)
    obtain ⟨dx, fs, v, k1, ⟨k2, k3⟩, k4⟩ := im2
    exact ⟨m, dx, fs, rfl, k1, k3, m, B, rfl, im.ext (x.trans e2), fun p H3 n3 e3 h3 => q p H3 (fresh_back e2 n3) (e2.trans e3) h3⟩
/-- the images of each of some maps -/
theorem ed_imgs {j : Nat} {vs : List Nat} {acc : List V} {R : List (List Str)} (h : Ev tl σ H (.ref l)) (hl : SqL K H l acc) (mo : MapsAt K CM s t A G H acc R) (hz : R.length ≤ 1000) (hw : ∀ x, wipe ((wipe σ vs).set j (some x)) vs = wipe σ vs) (hσ : ∀ x : V, ((wipe σ vs).set j (some x))[j]? = some (some x)) :
    EvD K (tLc (iList K tl) (gName j) tYes (tMeth CM "images" (spImg K CM) [] E0 (tVar j) tNil) vs) σ H (rowsL R) := fun H1 x Q q => h H1 x _ fun H2 e2 => ⟨l, rfl, ⟨_, ex_l (x.trans e2) hl⟩, fun D hD => by
  have e02 := x.trans e2
  refine lc_list (xs := acc) (fun i H' => Ex H2 H' ∧ ∃ rs : List Addr, H' D = some (.lst (rs.map V.ref)) ∧ rs.length = i ∧ (∀ l ∈ rs, l ≠ D) ∧ Rws H' rs (strsOf (R.take i))) ⟨Ex.new hD, [], upd_same, rfl, (fun l hl => nomatch hl), ⟨rfl, fun n p r x1 x2 => by simp at x1⟩⟩ (fun i H' _ y => ex_l (e02.trans y.1) hl) ?_ ?_
  · rintro i z H3 hx ⟨e3, rs, g1, g2, g3, g4⟩
    refine ⟨hw _, ?_⟩
    have lt : i < R.length := by
      rw [← mo.1]
      exact (List.getElem?_eq_some_iff.mp hx).1
    have hRn : R[i]? = some R[i] := List.getElem?_eq_getElem lt
    obtain ⟨m, hm, _, im⟩ := mo.2 i _ hRn
    rw [hx] at hm
    obtain rfl := Option.some.inj hm
    have e03 := e02.trans e3
    refine (el_img (ev_var (hσ _)) (im.ext e03)) H3 (Ex.refl H3) _ fun r H4 n4 e4 h4 => ?_
    have D4 := e4 _ _ g1
    have rD : r ≠ D := fun z => by
      rw [z, g1] at n4
      cases n4
    refine ⟨_, D4, sz_lt (by rw [List.length_map]; omega), Ex.mut (e3.trans e4) hD, rs ++ [r], by rw [upd_same, List.map_append]; rfl, by simp [g2], fun y hy => ?_, ?_⟩
    · rcases List.mem_append.mp hy with w | w
      · exact g3 y w
      · rw [List.mem_singleton.mp w]
        exact rD
    · rw [List.take_add_one, hRn]
      unfold strsOf
      rw [List.map_append]
      refine Rws.keep (H := H4) (Rws.snoc (g4.ext e4) h4) fun y hy => upd_ne ?_
      rcases List.mem_append.mp hy with w | w
      · exact g3 y w
      · rw [List.mem_singleton.mp w]
        exact rD
  · rintro H3 ⟨e3, rs, g1, g2, g3, g4⟩
    rw [mo.1, List.take_length] at g4
    exact q _ H3 (e2.trans e3) (dp_rows g1 g4)⟩
theorem ed_due (x1 : Ev ta σ H (.ref d)) (x2 : Ev tb σ H (.ref e)) (td : TolE H d A J1 T1 l1 h1) (te : TolE H e G J2 T2 l2 h2) (zA : A.length ≤ 4) (zG : G.length ≤ 4) : EvD K (tCall (spDue K) [] E0 (tCons ta (tCons tb tNil))) σ H (rowsL (rws A J1 T1 l1 h1 G J2 T2 l2 h2)) := fun H1 x Q q =>
  x1 H1 x _ fun H2 e2 => x2 H2 (x.trans e2) _ fun H3 e3 => ⟨d, e, A, G, J1, T1, J2, T2, l1, h1, l2, h2, rfl, (td.ext ((x.trans e2).trans e3)).tol, (te.ext ((x.trans e2).trans e3)).tol, zA, zG, fun v H4 e4 dp => q v H4 ((e2.trans e3).trans e4) dp⟩
/-- all_maps -/
theorem te_am {Q : VK} (x1 : Ev ta σ H (.ref s)) (x2 : Ev tb σ H (.ref t)) (hs : Cs = CT ∨ Cs = CP) (ht : Ct = CT ∨ Ct = CP) (S1 : ScAt K Cs H s A J1 T1 l1 h1) (S2 : ScAt K Ct H t G J2 T2 l2 h2) (zA : A.length ≤ 4) (zG : G.length ≤ 4)
    (q : ∀ p H' acc, H p = none → Ex H H' → H' p = some (.lst acc) → MapsAt K CM s t A G H' acc (rws A J1 T1 l1 h1 G J2 T2 l2 h2) → Q (.ref p) H') : tCall (sAmC K CT CP CM) [] E0 (tCons ta (tCons tb tNil)) σ H Q :=
  x1 H (Ex.refl H) _ fun H1 e1 => x2 H1 e1 _ fun H2 e2 => (show sAmC K CT CP CM [.ref s, .ref t] H2 Q E0 from spC_mk hs (spC_mk (f := fun b => spAm K Cs b CM) ht ⟨s, t, A, G, J1, T1, J2, T2, l1, h1, l2, h2, rfl, S1.ext (e1.trans e2), S2.ext (e1.trans e2), zA, zG, fun p H3 acc n3 e3 h3 mo => q p H3 acc (fresh_back (e1.trans e2) n3) ((e1.trans e2).trans e3) h3 mo⟩))
theorem q_am {i : Nat} (x1 : Ev ta σ H (.ref s)) (x2 : Ev tb σ H (.ref t)) (hs : Cs = CT ∨ Cs = CP) (ht : Ct = CT ∨ Ct = CP) (S1 : ScAt K Cs H s A J1 T1 l1 h1) (S2 : ScAt K Ct H t G J2 T2 l2 h2) (zA : A.length ≤ 4) (zG : G.length ≤ 4)
    (q : ∀ p H' acc, H p = none → Ex H H' → H' p = some (.lst acc) → MapsAt K CM s t A G H' acc (rws A J1 T1 l1 h1 G J2 T2 l2 h2) → tz E (σ.set i (some (.ref p))) H') : tSeq (tAsg (tCall (sAmC K CT CP CM) [] E0 (tCons ta (tCons tb tNil))) (gName i)) tz E σ H :=
  te_am (Q := fun v H1 => tz E (σ.set i (some v)) H1) x1 x2 hs ht S1 S2 zA zG q
theorem q_two {i j : Nat} {tc td : TE} {s2 t2 : Addr} {A2 G2 : List Str} {J4 T4 J5 T5 : List (List Str)} {l4 h4 l5 h5 : Str} {Cs2 Ct2 : Addr} (x1 : Ev ta σ H (.ref s)) (x2 : Ev tb σ H (.ref t)) (x3 : ∀ H1, Ex H H1 → Ev tc σ H1 (.ref s2)) (x4 : ∀ H1, Ex H H1 → Ev td σ H1 (.ref t2)) (hs : Cs = CT ∨ Cs = CP) (ht : Ct = CT ∨ Ct = CP) (hs2 : Cs2 = CT ∨ Cs2 = CP) (ht2 : Ct2 = CT ∨ Ct2 = CP)
    (S1 : ScAt K Cs H s A J1 T1 l1 h1) (S2 : ScAt K Ct H t G J2 T2 l2 h2) (S3 : ScAt K Cs2 H s2 A2 J4 T4 l4 h4) (S4 : ScAt K Ct2 H t2 G2 J5 T5 l5 h5) (zA : A.length ≤ 4) (zG : G.length ≤ 4) (zA2 : A2.length ≤ 4) (zG2 : G2.length ≤ 4)
    (q : ∀ p1 p2 H' acc1 acc2, H p1 = none → H p2 = none → Ex H H' → H' p1 = some (.lst acc1) → MapsAt K CM s t A G H' acc1 (rws A J1 T1 l1 h1 G J2 T2 l2 h2) → H' p2 = some (.lst acc2) → MapsAt K CM s2 t2 A2 G2 H' acc2 (rws A2 J4 T4 l4 h4 G2 J5 T5 l5 h5) → tz E ((σ.set i (some (.ref p1))).set j (some (.ref p2))) H') :
    tSeq (tPar i j (tCons (tCall (sAmC K CT CP CM) [] E0 (tCons ta (tCons tb tNil))) (tCons (tCall (sAmC K CT CP CM) [] E0 (tCons tc (tCons td tNil))) tNil))) tz E σ H :=
  te_am x1 x2 hs ht S1 S2 zA zG fun p1 H1 acc1 n1 e1 f1 m1 => te_am (x3 H1 e1) (x4 H1 e1) hs2 ht2 (S3.ext e1) (S4.ext e1) zA2 zG2 fun p2 H2 acc2 n2 e2 f2 m2 =>
    ⟨_, _, rfl, q p1 p2 H2 acc1 acc2 n1 (fresh_back e1 n2) (e1.trans e2) (e2 _ _ f1) (m1.keep fun m φ is k1 k2 => ⟨k1.ext e2, k2.ext e2⟩) f2 m2⟩
theorem MapsAt.ext {acc : List V} {R : List (List Str)} (mo : MapsAt K CM s t A G H acc R) (x : Ex H H') : MapsAt K CM s t A G H' acc R := mo.keep fun m φ is k1 k2 => ⟨k1.ext x, k2.ext x⟩
/-- what is not kept, told twice -/
theorem ed_ko {φ : Str → Str} (h : Ev tx σ H (.ref m)) (hs : Cs = CT ∨ Cs = CP) (ht : Ct = CT ∨ Ct = CP) (mm : MapAt CM H m s t A G φ) (S1 : Made K Cs H s A J1 T1 l1 h1) (S2 : Made K Ct H t G J2 T2 l2 h2) : EvD K (tCall (sKoC K CT CP CM) [] E0 (tCons tx tNil)) σ H (optD (firstP A (koBad A G J1 T1 l1 J2 T2 l2 φ))) := fun H1 x Q q =>
  h H1 x _ fun H2 e2 => (show sKoC K CT CP CM [.ref m] H2 Q E0 from spC_mk hs (spC_mk (f := fun b => spKO K Cs b CM) ht ⟨m, s, t, A, G, J1, T1, J2, T2, l1, h1, l2, h2, φ, rfl, mm.ext (x.trans e2), S1.ext (x.trans e2), S2.ext (x.trans e2), fun v H3 e3 dp => q v H3 (e2.trans e3) dp⟩))
theorem ed_un {φ : Str → Str} (x1 : Ev ta σ H (.ref d)) (x2 : Ev tb σ H (.ref e)) (h : Ev tx σ H (.ref m)) (hs : Cs = CT ∨ Cs = CP) (td : TolE H d A J1 T1 l1 h1) (te : TolE H e G J2 T2 l2 h2) (mm : MapAt CM H m s t A G φ) (S1 : ScAt K Cs H s A J1 T1 l1 h1) : EvD K (tCall (sUnC K CT CP CM) [] E0 (tCons ta (tCons tb (tCons tx tNil)))) σ H (optD (firstP A (unBad A G J1 T1 l1 J2 T2 l2 φ))) := fun H1 x Q q =>
  x1 H1 x _ fun H2 e2 => x2 H2 (x.trans e2) _ fun H3 e3 => h H3 ((x.trans e2).trans e3) _ fun H4 e4 => by
    have e04 := ((x.trans e2).trans e3).trans e4
    show sUnC K CT CP CM [.ref d, .ref e, .ref m] H4 Q E0
    exact spC_mk hs ⟨d, e, m, s, t, A, G, J1, T1, J2, T2, l1, h1, l2, h2, φ, rfl, (td.ext e04).tol, (te.ext e04).tol, mm.ext e04, S1.ext e04, fun v H5 e5 dp => q v H5 (((e2.trans e3).trans e4).trans e5) dp⟩
theorem ev_mapC {φ : Str → Str} {x : Str} (h : Ev te σ H (.ref m)) (hs : Cs = CT ∨ Cs = CP) (ma : MapAt CM H m s t A G φ) (sc : ScAt K Cs H s A J1 T1 l1 h1) (mx : x ∈ A) (hx : Ev tx σ H (.str x)) : Ev (tObj CM (sMcC K CT CP CM) E0 te (tCons tx tNil)) σ H (.str (φ x)) := fun H1 e Q q =>
  h H1 e _ fun H2 e2 => ⟨m, rfl, hx H2 (e.trans e2) _ fun H3 e3 => by
    have e03 := (e.trans e2).trans e3
    have ma3 := ma.ext e03
    obtain ⟨dx, dd, fs, k1, k2⟩ := ma3
    exact ⟨⟨dx, fs, k1⟩, spC_mk hs ⟨m, s, t, x, A, G, J1, T1, l1, h1, φ, rfl, ma.ext e03, sc.ext e03, mx, fun H4 e4 => q H4 ((e2.trans e3).trans e4)⟩⟩⟩
/-- one map behind another one -/
theorem q_shr {i : Nat} (x1 : Ev ta σ H (.ref m)) (x2 : Ev tb σ H (.ref n)) (hs : Cs = CT ∨ Cs = CP) (mm : MapAt CM H m s t A G (leadF A is)) (im : ImgAt K CM H m is) (mn : MapAt CM H n t u G U (leadF G js)) (S1 : ScAt K Cs H s A J1 T1 l1 h1) (S2 : ScAt K CT H t G J2 T2 l2 h2) (S3 : ScAt K CT H u U J3 T3 l3 h3) (ri : is ∈ rws A J1 T1 l1 h1 G J2 T2 l2 h2) (rj : js ∈ rws G J2 T2 l2 h2 U J3 T3 l3 h3) (oG : okS G)
    (q : ∀ r H', H r = none → Ex H H' → MapAt CM H' r s u A U (leadF A (is.map (leadF G js))) → ImgAt K CM H' r (is.map (leadF G js)) → tz E (σ.set i (some (.ref r))) H') : tSeq (tAsg (tOp (rOwnBin CM (sShC K CT CP CM)) ta tb) (gName i)) tz E σ H :=
  x1 H (Ex.refl H) _ fun H1 e1 => x2 H1 e1 _ fun H2 e2 => by
    have e02 := e1.trans e2
    obtain ⟨⟨a1, a2⟩, a3⟩ := rws_iff.mp ri
    obtain ⟨_, b3⟩ := rws_iff.mp rj
    have mm2 := mm.ext e02
    have mn2 := mn.ext e02
    obtain ⟨dx, dd, fs, k1, _⟩ := mm2
    obtain ⟨dy, de, gs, k2, _⟩ := mn2
    exact ⟨m, n, dx, dy, fs, gs, rfl, rfl, k1, k2, spC_mk hs ⟨m, n, s, t, u, A, G, U, is, J1, T1, J2, T2, J3, T3, l1, h1, l2, h2, l3, h3, leadF G js, rfl, mm.ext e02, im.ext e02, mn.ext e02, S1.ext e02, S2.ext e02, S3.ext e02, a1, a2, a3, b3, oG, fun r H3 n3 e3 mr ir => ⟨r, rfl, q r H3 (fresh_back e02 n3) (e02.trans e3) mr ir⟩⟩⟩
/-- a map is among some -/
theorem rv_notIn {acc : List V} {R : List (List Str)} (hs : Cs = CT ∨ Cs = CP) (ht : Ct = CT ∨ Ct = CP) (hb : MapAt CM H b s t A G (leadF A is)) (ib : ImgAt K CM H b is) (hp : H p = some (.lst acc)) (mo : MapsAt K CM s t A G H acc R) (S1 : ScAt K Cs H s A J1 T1 l1 h1) (S2 : ScAt K Ct H t G J2 T2 l2 h2) (oA : okS A) (oG : okS G) (oR : ∀ r ∈ R, okS r) (mi : is ∈ R) {Q : VK} (q : ∀ H', Ex H H' → Q (.bl false) H') : rInObj K CM (sMeC K CT CP CM) true (.ref b) (.ref p) H Q := by
  obtain ⟨dy, dd, gs, k2, _⟩ := id hb
  refine ⟨b, dy, gs, p, acc, fun i => decide (acc[i]? = some (.ref b)) || PyData.eqv (tupS (R.getD i [])) (tupS is), rfl, k2, rfl, hp, fun i z hz => ?_, fun tt H1 e1 y1 y2 => ?_⟩
  · have lt : i < R.length := by
      rw [← mo.1]
      exact (List.getElem?_eq_some_iff.mp hz).1
    have hR : R[i]? = some R[i] := List.getElem?_eq_getElem lt
    obtain ⟨m, hm, mm, im⟩ := mo.2 i _ hR
    rw [hz] at hm
    obtain rfl := Option.some.inj hm
    obtain ⟨dx, _, fs, k1, _⟩ := id mm
    have gd : R.getD i [] = R[i] := by rw [List.getD_eq_getElem?_getD, hR]; rfl
    refine ⟨m, dx, fs, rfl, k1, fun e => by simp [hz, e], fun H1 e1 Q' q' => ?_⟩
    by_cases e : m = b
    · subst e
      refine spC_mk hs (spC_mk ht ⟨m, m, s, t, A, G, R[i], R[i], J1, T1, J2, T2, l1, h1, l2, h2, _, _, rfl, mm.ext e1, im.ext e1, mm.ext e1, im.ext e1, S1.ext e1, S2.ext e1, oA, oG, oR _ (List.getElem_mem lt), oR _ (List.getElem_mem lt), fun H2 e2 => ?_⟩)
      have z := q' H2 e2
      simp only [hz, decide_true, Bool.true_or] at z
      rw [SeqAt.eqv_refl _ (SeqAt.canLay_of_shaped (sh_strs (oR _ (List.getElem_mem lt))))]
      exact z
    · refine spC_mk hs (spC_mk ht ⟨m, b, s, t, A, G, R[i], is, J1, T1, J2, T2, l1, h1, l2, h2, _, _, rfl, mm.ext e1, im.ext e1, hb.ext e1, ib.ext e1, S1.ext e1, S2.ext e1, oA, oG, oR _ (List.getElem_mem lt), oR _ mi, fun H2 e2 => ?_⟩)
      have z := q' H2 e2
      dsimp only at z
      rw [gd, hz] at z
      have ne : decide ((some (V.ref m) : Option V) = some (.ref b)) = false := decide_eq_false fun w => e (V.ref.inj (Option.some.inj w))
      rw [ne, Bool.false_or] at z
      exact z
  · cases tt with
    | true => exact q H1 e1
    | false =>
      obtain ⟨i, hi⟩ := List.getElem?_of_mem mi
      have lt : i < acc.length := by
        rw [mo.1]
        exact (List.getElem?_eq_some_iff.mp hi).1
      have z := y2 rfl i lt
      dsimp only at z
      have gd : R.getD i [] = is := by rw [List.getD_eq_getElem?_getD, hi]; rfl
      rw [gd, SeqAt.eqv_refl _ (SeqAt.canLay_of_shaped (sh_strs (oR _ mi))), Bool.or_true] at z
      cases z
theorem ev_notIn {acc : List V} {R : List (List Str)} (x1 : Ev tx σ H (.ref b)) (x2 : Ev ty σ H (.ref p)) (hs : Cs = CT ∨ Cs = CP) (ht : Ct = CT ∨ Ct = CP) (hb : MapAt CM H b s t A G (leadF A is)) (ib : ImgAt K CM H b is) (hp : H p = some (.lst acc)) (mo : MapsAt K CM s t A G H acc R) (S1 : ScAt K Cs H s A J1 T1 l1 h1) (S2 : ScAt K Ct H t G J2 T2 l2 h2) (oA : okS A) (oG : okS G) (oR : ∀ r ∈ R, okS r) (mi : is ∈ R) : Ev (tOp (rInObj K CM (sMeC K CT CP CM) true) tx ty) σ H (.bl false) := fun H1 e Q q =>
  x1 H1 e _ fun H2 e2 => x2 H2 (e.trans e2) _ fun H3 e3 => by
    have e03 := (e.trans e2).trans e3
    exact rv_notIn hs ht (hb.ext e03) (ib.ext e03) (e03 _ _ hp) (mo.ext e03) (S1.ext e03) (S2.ext e03) oA oG oR mi fun H4 e4 => q H4 ((e2.trans e3).trans e4)
end
end K06

set_option Elab.async false
set_option linter.all false
set_option maxRecDepth 100000
set_option maxHeartbeats 1000000
/-! V5: the same, one grade alone, lengths. -/
namespace K06
open PySem PySem.Spec PyProof.Rows L2 Evl J ClX StX S D
open K13 (EvD ed_ev ed_var da_cons da_nil ed_tup)
theorem empty_len {α β : Type} {x : List α} {y : List β} (h : x.length = y.length) : x.isEmpty = y.isEmpty := by
  cases x <;> cases y <;> simp_all
section
variable {K : PySem.W.Frag} {C Cs Ct CT CP CM p c a b g d e s t u l m : Addr} {k : Nat} {H H' : Hp} {σ : L2.St} {A G U B is js : List Str} {J1 T1 J2 T2 J3 T3 : List (List Str)} {l1 h1 l2 h2 l3 h3 : Str} {tz : TS} {E : Ends} {ta tb tx ty te tl : TE}
theorem q_same {i : Nat} (x1 : Ev tx σ H (.ref s)) (hs : Cs = CT ∨ Cs = CP) (S1 : ScAt K Cs H s A J1 T1 l1 h1) (q : ∀ r H', H r = none → Ex H H' → MapAt CM H' r s s A A (leadF A A) → ImgAt K CM H' r A → tz E (σ.set i (some (.ref r))) H') :
    tSeq (tAsg (tCMeth CM (sSmC K CT CP CM) E0 (tC (.ref CM)) (tCons tx tNil)) (gName i)) tz E σ H :=
  ⟨rfl, x1 H (Ex.refl H) _ fun H1 e1 => (show sSmC K CT CP CM [.ref CM, .ref s] H1 (fun v H2 => tz E (σ.set i (some v)) H2) E0 from spC_mk hs ⟨s, A, J1, T1, l1, h1, rfl, S1.ext e1, fun r H2 n2 e2 mp ip => q r H2 (fresh_back e1 n2) (e1.trans e2) mp ip⟩)⟩
/-- a map is among all maps -/
theorem ev_notAm (x1 : Ev tx σ H (.ref b)) (x2 : ∀ H1, Ex H H1 → Ev ta σ H1 (.ref s)) (x3 : ∀ H1, Ex H H1 → Ev tb σ H1 (.ref t)) (hs : Cs = CT ∨ Cs = CP) (ht : Ct = CT ∨ Ct = CP) (hb : MapAt CM H b s t A G (leadF A is)) (ib : ImgAt K CM H b is) (S1 : ScAt K Cs H s A J1 T1 l1 h1) (S2 : ScAt K Ct H t G J2 T2 l2 h2) (zA : A.length ≤ 4) (zG : G.length ≤ 4) (oA : okS A) (oG : okS G) (mi : is ∈ rws A J1 T1 l1 h1 G J2 T2 l2 h2) :
    Ev (tOp (rInObj K CM (sMeC K CT CP CM) true) tx (tCall (sAmC K CT CP CM) [] E0 (tCons ta (tCons tb tNil)))) σ H (.bl false) := fun H1 e Q q =>
  x1 H1 e _ fun H2 e2 => by
    have e02 := e.trans e2
    refine te_am (x2 H2 e02) (x3 H2 e02) hs ht (S1.ext e02) (S2.ext e02) zA zG fun pl H3 acc n3 e3 f3 m3 => ?_
    have e03 := e02.trans e3
    exact rv_notIn hs ht (hb.ext e03) (ib.ext e03) f3 m3 (S1.ext e03) (S2.ext e03) oA oG (rws_ok oG) mi fun H4 e4 => q H4 ((e2.trans e3).trans e4)
/-- the same keeps what one grade leaves of another -/
theorem et_koN (h : Ev tx σ H (.ref m)) (hs : Cs = CT ∨ Cs = CP) (mm : MapAt CM H m s s A A (leadF A A)) (S1 : Made K Cs H s A J1 T1 l1 h1) : EvT (tB (tNotN (tCall (sKoC K CT CP CM) [] E0 (tCons tx tNil)))) σ H false := fun H1 x Q q => by
  have z := ed_ko (CT := CT) (CP := CP) h hs hs mm S1 S1
  rw [ko_self (h1 := h1) S1.sc.wj S1.sc.lo] at z
  exact z H1 x _ fun v H2 e2 dp => by
    cases dp
    exact ⟨false, rfl, q H2 e2⟩
/-- how many maps there are -/
theorem ev_lenAm (x1 : Ev ta σ H (.ref s)) (x2 : Ev tb σ H (.ref t)) (hs : Cs = CT ∨ Cs = CP) (ht : Ct = CT ∨ Ct = CP) (S1 : ScAt K Cs H s A J1 T1 l1 h1) (S2 : ScAt K Ct H t G J2 T2 l2 h2) (zA : A.length ≤ 4) (zG : G.length ≤ 4) :
    Ev (tCB (fun xs H Q => ∃ p ys, xs = [.ref p] ∧ (SqL K H p ys ∨ SqT K H p ys) ∧ Q (.int ys.length) H) (tCons (tCall (sAmC K CT CP CM) [] E0 (tCons ta (tCons tb tNil))) tNil)) σ H (.int ((rws A J1 T1 l1 h1 G J2 T2 l2 h2).length : Int)) := fun H1 e Q q =>
  te_am (CT := CT) (CP := CP) (fun H2 e2 => x1 H2 (e.trans e2)) (fun H2 e2 => x2 H2 (e.trans e2)) hs ht (S1.ext e) (S2.ext e) zA zG fun pl H2 acc n2 e2 f2 m2 => ⟨pl, acc, rfl, .inl (sq_of f2), by rw [m2.1]; exact q H2 e2⟩
theorem ev_nilAm (x1 : Ev ta σ H (.ref s)) (x2 : Ev tb σ H (.ref t)) (hs : Cs = CT ∨ Cs = CP) (ht : Ct = CT ∨ Ct = CP) (S1 : ScAt K Cs H s A J1 T1 l1 h1) (S2 : ScAt K Ct H t G J2 T2 l2 h2) (zA : A.length ≤ 4) (zG : G.length ≤ 4) :
    Ev (tOp (rNeNil K) (tCall (sAmC K CT CP CM) [] E0 (tCons ta (tCons tb tNil))) (tLst tNil)) σ H (.bl (!(rws A J1 T1 l1 h1 G J2 T2 l2 h2).isEmpty)) := fun H1 e Q q =>
  te_am (CT := CT) (CP := CP) (fun H2 e2 => x1 H2 (e.trans e2)) (fun H2 e2 => x2 H2 (e.trans e2)) hs ht (S1.ext e) (S2.ext e) zA zG fun pl H2 acc n2 e2 f2 m2 => ⟨sz_of (by simp), fun r nr => ⟨pl, r, acc, rfl, rfl, sq_of ((Ex.new nr) _ _ f2), sq_of upd_same, by
    have eq : acc.isEmpty = (rws A J1 T1 l1 h1 G J2 T2 l2 h2).isEmpty := empty_len m2.1
    rw [eq]
    exact q _ (e2.trans (Ex.new nr))⟩⟩
theorem ev_lenC (h : Ev te σ H (.ref a)) (hs : C = CT ∨ C = CP) (sc : ScAt K C H a A J1 T1 l1 h1) : Ev (tAlt (tCB (rLenO CT (spLen K CT)) (tCons te tNil)) (tCB (rLenO CP (spLen K CP)) (tCons te tNil))) σ H (.int (A.length : Int)) := fun H1 e Q q => by
  rcases hs with rfl | rfl
  · exact .inl (ev_lenO h sc H1 e Q q)
  · exact .inr (ev_lenO h sc H1 e Q q)
theorem el_gradesC (h : Ev te σ H (.ref a)) (hs : C = CT ∨ C = CP) (sc : ScAt K C H a A J1 T1 l1 h1) : EvL (tAlt (tMeth CT "grades" (spGrades K CT) [] E0 te tNil) (tMeth CP "grades" (spGrades K CP) [] E0 te tNil)) σ H (A.map V.str) := fun H1 e Q q => by
  rcases hs with rfl | rfl
  · exact .inl (el_gradesA h sc H1 e Q q)
  · exact .inr (el_gradesA h sc H1 e Q q)
/-- the scale of one grade alone -/
theorem q_single {i : Nat} (hσ : σ[1]? = some (some (.ref p))) (hP : PenC H p c k) (hk : k ≤ 800000)
    (q : ∀ s H' g J T, But p H H' → PenC H' p c (k + 16) → Made K CT H' s [g] J T g g → Lawful [g] J T g g → okS [g] → tz E (σ.set i (some (.ref s))) H') :
    tSeq (tAsg (tCall (spTS K CT) [] E0 (tCons (tCall (spTo K) [] E0 (tCons (tVar 1) (tCons (tCall (spOd K) [] E0 (tCons (tC (.int 2)) tNil)) tNil))) tNil)) (gName i)) tz E σ H := by
  refine ⟨_, hσ, ⟨2, rfl, by decide, fun v H1 e1 dv => ?_⟩⟩
  have hP1 := hP.ext e1
  obtain ⟨ns, i0, v0, g1, g2⟩ := id hP1
  have dv2 : Dp K (dl p H1) v (oddD 2) := dp_dlP g1 dv rfl
  refine ⟨p, c, k, v, oddD 2, 1, [[0]], [[0]], 0, 0, rfl, hP1, by omega, dv2, ⟨rfl, by decide +kernel⟩, fun td H2 ln jn tn rj rt G J T l h φ O b2 p2 told img mφ => ?_⟩
  refine ⟨td, G, J, T, l, h, rfl, told.at_, fun a H3 na e3 md => ?_⟩
  have hO : O = [0] := by
    have := img.perm
    exact List.perm_singleton.mp (by simpa using this)
  have hG : G = [φ 0] := by rw [img.g, hO]; rfl
  have L : Lawful G J T l h := law_img img (by decide +kernel)
  have e1' := img.l
  have e2' := img.h
  subst e1' e2' hG
  exact q a H3 (φ 0) J T (((But.of e1).trans b2).trans (But.of e3)) (p2.ext e3) md L (ok_pool fun x hx => by
    rw [List.mem_singleton.mp hx]
    exact mφ 0 (by decide))
end
end K06

set_option Elab.async false
set_option linter.all false
set_option maxRecDepth 100000
set_option maxHeartbeats 1000000
/-! V6: the rest of what the law reads. -/
namespace K06
open PySem PySem.Spec PyProof.Rows L2 Evl J ClX StX S D
open K13 (EvD ed_ev ed_var da_cons da_nil ed_tup)
section
variable {K : PySem.W.Frag} {C Cs CT CP CM p c a b s t u l m n : Addr} {k : Nat} {H H' : Hp} {σ : L2.St} {A G U B is js : List Str} {J1 T1 J2 T2 J3 T3 : List (List Str)} {l1 h1 l2 h2 l3 h3 : Str} {tz : TS} {E : Ends} {ta tb tx ty te tl : TE}
theorem ed_cast {D D' : PyData} (h : D = D') (x : EvD K te σ H D) : EvD K te σ H D' := h ▸ x
theorem q_app {xs : List V} {v : V} (hl : H l = some (.lst xs)) (ha : Ev ta σ H (.ref l)) (hv : Ev te σ H v) (hz : xs.length < 100000) (q : ∀ H1, Ex H H1 → tz E σ (upd H1 l (.lst (xs ++ [v])))) : tSeq (tDrop (tBM K "list" rAppend ta (tCons te tNil))) tz E σ H :=
  ha H (Ex.refl H) _ fun H1 e1 => ⟨Or.inl ⟨rfl, xs, sq_of (e1 l _ hl)⟩, hv H1 e1 _ fun H2 e2 => ⟨l, xs, v, rfl, rfl, e2 l _ (e1 l _ hl), sz_lt hz, q H2 (e1.trans e2)⟩⟩
/-- [n(m(x)) for x in grades] -/
theorem el_nm {vs : List Nat} (x9 : ∀ x : V, ((wipe σ vs).set 15 (some x))[9]? = some (some (.ref n))) (x7 : ∀ x : V, ((wipe σ vs).set 15 (some x))[7]? = some (some (.ref m))) (x15 : ∀ x : V, ((wipe σ vs).set 15 (some x))[15]? = some (some x)) (hw : ∀ x, wipe ((wipe σ vs).set 15 (some x)) vs = wipe σ vs)
    (h : Ev te σ H (.ref s)) (hs : Cs = CT ∨ Cs = CP) (mm : MapAt CM H m s t A G (leadF A is)) (mn : MapAt CM H n t u G U (leadF G js)) (S1 : ScAt K Cs H s A J1 T1 l1 h1) (S2 : ScAt K CT H t G J2 T2 l2 h2) (li : is.length = A.length) (mi : ∀ x ∈ is, x ∈ G) :
    EvL (tLc (iList K (tAlt (tMeth CT "grades" (spGrades K CT) [] E0 te tNil) (tMeth CP "grades" (spGrades K CP) [] E0 te tNil))) (gName 15) tYes (teNM K CT CP CM) vs) σ H ((is.map (leadF G js)).map V.str) := by
  have z := S1.sz
  have w := el_mapN (K := K) (j := 15) (vs := vs) (te := teNM K CT CP CM) (g := V.str) (f := fun x => V.str (leadF G js (leadF A is x))) (d := "") (xs := A) (el_gradesC (CT := CT) (CP := CP) h hs S1) (by omega) hw
    (fun x H1 e1 hx => ev_mapC (CT := CT) (CP := CP) (ev_var (x9 _)) (.inl rfl) (mn.ext e1) (S2.ext e1) (lead_in li mi hx) (ev_mapC (CT := CT) (CP := CP) (ev_var (x7 _)) hs (mm.ext e1) (S1.ext e1) hx (ev_var (x15 _))))
  have e : A.map (fun x => V.str (leadF G js (leadF A is x))) = (is.map (leadF G js)).map V.str := by
    conv => rhs; rw [← map_lead (is := is) S1.nd li]
    rw [List.map_map, List.map_map]
    rfl
  rw [e] at w
  exact w
end
end K06

set_option Elab.async false
set_option linter.all false
set_option maxRecDepth 100000
set_option maxHeartbeats 4000000
/-! Z13: the law's def as a term. -/
namespace K06
open PySem PySem.Spec PyProof.Rows L2 Evl J ClX StX S D
abbrev sLaw : Stmt := topS 60
def spLaw (K : PySem.W.Frag) : Sp := fun vs H Q _ => ∃ (a : Addr) (ns : List Int), vs = [.ref a] ∧ SqL K H a (ns.map V.int) ∧ ∀ H', Q (.bl true) H'
def spPenC (K : PySem.W.Frag) : Sp := fun vs H Q _ => ∃ (a : Addr) (ns : List Int), vs = [.ref a] ∧ SqL K H a (ns.map V.int) ∧ ∀ p c H', Ex H H' → PenC H' p c 0 → Q (.ref p) H'
abbrev NLaw : List Str := ["_law_script", "_law_pen_here", "_law_tolds", "_law_scales", "_law_sides", "_law_first", "_law_last", "_law_m", "_law_through", "_law_n", "_law_both", "_law_same", "_law_single", "_law_again", "_law_told_here", "_law_grade"]
theorem scLaw : FnScope NLaw ["_law_script"] (defScope sLaw) := ⟨rfl, rfl, rfl, by decide +kernel, rfl, by decide +kernel, by decide +kernel⟩
theorem fn_raw0 {P : Program} {w : World} {K : PySem.W.Frag} {mg : Str → Option Value} {base : Heap} {CX : CXT} {k : Nat} {f : Addr} {fd : FuncData} {ps : List Str} {sp : Sp} (F : FnOk P w K mg base CX k f fd ps sp) (hb : Binds K fd ps []) : FnR P w K mg base CX k f sp :=
  (F.raw hb .nil).imp fun vs H Q E h => by simpa using h
section
variable {P : Program} {w : World} {K : PySem.W.Frag} {mg : Str → Option Value} {base : Heap} {f : Addr} {fd : FuncData}
theorem ok_penC (F : FnP K "_law_pen" sPen f fd) (T : Bl mg) : FnOk P w K mg base CX0 1 f fd ["_law_script"] (spPenC K) := by
  refine F.ok scPen (fun vs H Q E h => ?_) (fun cdv A outer s H vs Q E hr h => ?_)
  · obtain ⟨a, ns, rfl, _⟩ := h
    rfl
  · obtain ⟨a, ns, rfl, hS, q⟩ := h
    obtain ⟨ms, e1, e2⟩ := cut_ints ns
    refine ⟨_, pss_one (ps_ret (pe_lst (pa_cons (pe_callTy call_list_of rfl T.lst Boot.«list» (pa_cons (pe_slice sl_list (pv 0) po_none (po_some pe_int)) pa_nil)) (pa_cons pe_int (pa_cons pe_int pa_nil))))), ?_⟩
    refine ⟨.ref a, rfl, 60, rfl, a, _, rfl, hS, fun p hp => ?_⟩
    refine ⟨p, _, rfl, .inl (sq_of upd_same), fun l hl => ⟨sz_of (by simp), fun r hr => ?_⟩⟩
    have x1 : Ex H (upd H p (.lst (cutV (ns.map V.int) none (some 60)))) := Ex.new hp
    have x2 := x1.trans (Ex.new (o := .lst (cutV (ns.map V.int) none (some 60))) hl)
    refine q r l _ (x2.trans (Ex.new hr)) ⟨ms, 0, 0, upd_same, ?_, ?_, e2, by omega, by omega⟩
    · rw [upd_ne (fun z => ?_), upd_same, e1]
      subst z
      rw [upd_same] at hr
      cases hr
    · intro z
      subst z
      rw [upd_same] at hr
      cases hr
end
section
variable {P : Program} {w : World} {K : PySem.W.Frag} {mg : Str → Option Value} {base : Heap} {f fP CT CP CM fC fS fSm pS : Addr} {fd fdP fdC fdS fdSm : FuncData} {mcM : Value}
theorem ok_law (F : FnP K "law" sLaw f fd) (T : Bl mg) (MP : Mk K CP fP) (gP : mg "PairScale" = some (.ref CP)) (gM : mg "ScaleMap" = some (.ref CM)) (hbP : Binds K fdP ["self", "left", "right"] []) (FP : FnOk P w K mg base CX0 8 fP fdP ["self", "left", "right"] (spPI K CT CP))
    (MC : CallO K CM fC) (hbC : Binds K fdC ["self", "grade"] []) (FC : FnOk P w K mg base CX0 2 fC fdC ["self", "grade"] (sMcC K CT CP CM))
    (cPen : Cal P w K mg base CX0 1 "_law_pen" ["_law_script"] (spPenC K)) (cD : Cal P w K mg base CX0 2 "_law_draw" ["_law_pen_here", "_law_under"] spDrawC) (cPl : Cal P w K mg base CX0 3 "_law_places" ["_law_pen_here", "_law_most"] (spPl K)) (cTo : Cal P w K mg base CX0 4 "_law_told" ["_law_pen_here", "_law_places_here"] (spTo K)) (cOd : Cal P w K mg base CX0 1 "_law_odd" ["_law_k"] (spOd K))
    (cTS : Cal P w K mg base CX0 10 "_law_table_scale" ["_law_told_here"] (spTS K CT)) (cBs : Cal P w K mg base CX0 1 "_law_beside" ["_law_first", "_law_last"] (spBs K)) (cL : MCal P w K mg base CX0 1 CT "__len__" ["self"] (spLen K CT)) (cLP : MCal P w K mg base CX0 1 CP "__len__" ["self"] (spLen K CP)) (cG : MCal P w K mg base CX0 1 CT "grades" ["self"] (spGrades K CT)) (cGP : MCal P w K mg base CX0 1 CP "grades" ["self"] (spGrades K CP))
    (cAm : Cal P w K mg base CX0 7 "all_maps" ["source", "target"] (sAmC K CT CP CM)) (cIm : MCal P w K mg base CX0 1 CM "images" ["self"] (spImg K CM)) (cDue : Cal P w K mg base CX0 3 "_law_due" ["_law_source", "_law_target"] (spDue K)) (cKO : Cal P w K mg base CX0 4 "keeps_only" ["m"] (sKoC K CT CP CM)) (cUn : Cal P w K mg base CX0 4 "_law_unkept" ["_law_source", "_law_target", "_law_m"] (sUnC K CT CP CM))
    (FS : FnOk P w K mg base CX0 7 fS fdS ["self", "other"] (sShC K CT CP CM)) (sfM : PySem.W.selfFirst K CM = true) (fiS : PySem.W.findIn K (.ref CM) (PySem.dunder Operator.RShift.info.2) = some (some (.ref fS))) (isS : PySem.W.isFn K (.ref fS) = true) (hbS : Binds K fdS ["self", "other"] [])
    (oM : OwnE P w K mg base 2 CM (sMeC K CT CP CM)) (rdM : CRead K CM mcM) (cmS : CMet K CM mcM "same" pS fSm) (hbSm : Binds K fdSm ["cls", "scale"] []) (FSm : FnOk P w K mg base CX0 7 fSm fdSm ["cls", "scale"] (sSmC K CT CP CM)) : FnOk P w K mg base CX0 11 f fd ["_law_script"] (spLaw K) := by
  refine F.ok scLaw (fun vs H Q E h => ?_) (fun cdv A outer s H vs Q E hr10 h => ?_)
  · obtain ⟨a, ns, rfl, _⟩ := h
    rfl
  · obtain ⟨a, ns, rfl, hS, q⟩ := h
    have hr1 : Room 1 (A.deeper (envOfC "law" (defScope sLaw) s.heap.objs.size f cdv)) := hr10.mono (by decide)
    have hr2 : Room 2 (A.deeper (envOfC "law" (defScope sLaw) s.heap.objs.size f cdv)) := hr10.mono (by decide)
    have hr3 : Room 3 (A.deeper (envOfC "law" (defScope sLaw) s.heap.objs.size f cdv)) := hr10.mono (by decide)
    have hr4 : Room 4 (A.deeper (envOfC "law" (defScope sLaw) s.heap.objs.size f cdv)) := hr10.mono (by decide)
    have hr7 : Room 7 (A.deeper (envOfC "law" (defScope sLaw) s.heap.objs.size f cdv)) := hr10.mono (by decide)
    have hr9 : Room 9 (A.deeper (envOfC "law" (defScope sLaw) s.heap.objs.size f cdv)) := hr10.mono (by decide)
    have hu64 : (A.deeper (envOfC "law" (defScope sLaw) s.heap.objs.size f cdv)).units + 64 < cLine := by
      have := hr10.un
      omega
    have hu : (A.deeper (envOfC "law" (defScope sLaw) s.heap.objs.size f cdv)).units + 1 < cLine := by omega
    have hu0 : (A.deeper (envOfC "law" (defScope sLaw) s.heap.objs.size f cdv)).units < cLine := by omega
    refine ⟨_, PSs.nox (pss_cons (ps_set (i := 1) scLaw.nd rfl (Or.inr rfl) (pe_cal cPen hr1 rfl pass0 (pa_cons (pv 0) pa_nil)))
      (pss_cons (ps_setLc (i := 2) (own := [("_law_again", 13)]) (g := gName 13) (tt := tYes) (te := teTo K) rfl scLaw.nd rfl rfl rfl (pi_range1 rfl T.rng (pa_cons pe_int pa_nil)) (blkOk_by (N := NLaw) (sc := defScope sLaw) (by decide +kernel)) (fun _ _ _ _ _ => pg_name (i := 13) scLaw.nd rfl (Or.inl rfl)) (fun _ _ _ _ _ => pts_nil)
          (fun _ _ _ _ _ => by exact pe_cal cTo hr4 rfl pass0 (pa_cons (pv 1) (pa_cons (pe_cal cPl hr3 rfl pass0 (pa_cons (pv 1) (pa_cons (pe_ix ix_list (pe_lst (pa_cons pe_int (pa_cons pe_int (pa_cons pe_int pa_nil)))) (pe_cal cD hr2 rfl pass0 (pa_cons (pv 1) (pa_cons pe_int pa_nil))) (fun _ _ => rfl)) pa_nil))) pa_nil))))
      (pss_cut (ps_if (pt_cmpR op_eq (pe_cal cD hr2 rfl pass0 (pa_cons (pv 1) (pa_cons pe_int pa_nil))) pe_int (nomark _))
        (pss_cons (ps_asg (pe_ix ix_list (pv 2) pe_int (fun _ _ => rfl)) (pg_sub (pv 2) pe_int set_list))
        (pss_one (ps_asg (pe_ix ix_list (pe_lst (pa_cons (pe_ix ix_list (pv 2) pe_int (fun _ _ => rfl)) (pa_cons (pe_ix ix_list (pv 2) pe_int (fun _ _ => rfl)) pa_nil))) (pe_cal cD hr2 rfl pass0 (pa_cons (pv 1) (pa_cons pe_int pa_nil))) (fun _ _ => rfl)) (pg_sub (pv 2) pe_int set_list)))) pss_nil)
      (pss_cons (ps_setLc (i := 3) (own := [("_law_told_here", 14)]) (g := gName 14) (tt := tYes) (te := teSc K CT 14) rfl scLaw.nd rfl rfl rfl (pi_list (pv 2)) (blkOk_by (N := NLaw) (sc := defScope sLaw) (by decide +kernel)) (fun _ _ _ _ _ => pg_name (i := 14) scLaw.nd rfl (Or.inl rfl)) (fun _ _ _ _ _ => pts_nil)
          (fun _ _ _ _ _ => by exact pe_cal cTS hr10 rfl pass0 (pa_cons (pv 14) pa_nil)))
      (pss_cut (ps_if (pt_cmpR op_eq (pe_cal cD hr2 rfl pass0 (pa_cons (pv 1) (pa_cons pe_int pa_nil))) pe_int (nomark _))
        (pss_cons (ps_setLc (i := 4) (own := [("_law_again", 13)]) (g := gName 13) (tt := tYes) (te := teT2 K) rfl scLaw.nd rfl rfl rfl (pi_range1 rfl T.rng (pa_cons pe_int pa_nil)) (blkOk_by (N := NLaw) (sc := defScope sLaw) (by decide +kernel)) (fun _ _ _ _ _ => pg_name (i := 13) scLaw.nd rfl (Or.inl rfl)) (fun _ _ _ _ _ => pts_nil)
          (fun _ _ _ _ _ => by exact pe_cal cTo hr4 rfl pass0 (pa_cons (pv 1) (pa_cons (pe_cal cPl hr3 rfl pass0 (pa_cons (pv 1) (pa_cons pe_int pa_nil))) pa_nil))))
        (pss_one (ps_if (pt_cmpR op_lt (pe_op op_mul (pe_callB call_len_seq (by rfl) T.len boot_len (pa_cons (pe_dget hu (pe_ix ix_list (pv 4) pe_int (fun _ _ => rfl)) pe_str (fun _ _ => rfl)) pa_nil)) (pe_callB call_len_seq (by rfl) T.len boot_len (pa_cons (pe_dget hu (pe_ix ix_list (pv 4) pe_int (fun _ _ => rfl)) pe_str (fun _ _ => rfl)) pa_nil))) pe_int (nomark _))
          (pss_cons (ps_asg (pe_cal cBs hr1 rfl pass0 (pa_cons (pe_ix ix_list (pv 4) pe_int (fun _ _ => rfl)) (pa_cons (pe_ix ix_list (pv 4) pe_int (fun _ _ => rfl)) pa_nil))) (pg_sub (pv 2) pe_int set_list))
          (pss_one (ps_asg (pe_make MP FP hr9 rfl gP hbP .nil pass0 (pa_cons (pe_cal cTS hr10 rfl pass0 (pa_cons (pe_ix ix_list (pv 4) pe_int (fun _ _ => rfl)) pa_nil)) (pa_cons (pe_cal cTS hr10 rfl pass0 (pa_cons (pe_ix ix_list (pv 4) pe_int (fun _ _ => rfl)) pa_nil)) pa_nil))) (pg_sub (pv 3) pe_int set_list)))) pss_nil))) pss_nil)
      (pss_cons (ps_par (i := 5) (j := 6) rfl scLaw.nd rfl rfl (by decide) rfl rfl (pa_cons (pe_cal cAm hr7 rfl pass0 (pa_cons (pe_ix ix_list (pv 3) pe_int (fun _ _ => rfl)) (pa_cons (pe_ix ix_list (pv 3) pe_int (fun _ _ => rfl)) pa_nil))) (pa_cons (pe_cal cAm hr7 rfl pass0 (pa_cons (pe_ix ix_list (pv 3) pe_int (fun _ _ => rfl)) (pa_cons (pe_ix ix_list (pv 3) pe_int (fun _ _ => rfl)) pa_nil))) pa_nil)) rfl)
      (pss_cons (ps_if (pt_cmpR (op_neD hu64) (pe_lc (own := [("_law_m", 7)]) (g := gName 7) (tt := tYes) (te := teIm K CM 7) rfl scLaw.nd (pi_list (pv 5)) (blkOk_by (N := NLaw) (sc := defScope sLaw) (by decide +kernel)) (fun _ _ _ _ _ => pg_name (i := 7) scLaw.nd rfl (Or.inl rfl)) (fun _ _ _ _ _ => pts_nil) (fun _ _ _ _ _ => by exact pe_mcal0 cIm (pv 7) hr1 pass0))
          (pe_cal cDue hr3 rfl pass0 (pa_cons (pe_ix ix_list (pv 2) pe_int (fun _ _ => rfl)) (pa_cons (pe_ix ix_list (pv 2) pe_int (fun _ _ => rfl)) pa_nil))) (nomark _)) (pss_one (ps_ret pe_bl)) pss_nil)
      (pss_cons (ps_if (pt_cmpR (op_neD hu64) (pe_lc (own := [("_law_m", 7)]) (g := gName 7) (tt := tYes) (te := teIm K CM 7) rfl scLaw.nd (pi_list (pv 6)) (blkOk_by (N := NLaw) (sc := defScope sLaw) (by decide +kernel)) (fun _ _ _ _ _ => pg_name (i := 7) scLaw.nd rfl (Or.inl rfl)) (fun _ _ _ _ _ => pts_nil) (fun _ _ _ _ _ => by exact pe_mcal0 cIm (pv 7) hr1 pass0))
          (pe_cal cDue hr3 rfl pass0 (pa_cons (pe_ix ix_list (pv 2) pe_int (fun _ _ => rfl)) (pa_cons (pe_ix ix_list (pv 2) pe_int (fun _ _ => rfl)) pa_nil))) (nomark _)) (pss_one (ps_ret pe_bl)) pss_nil)
      (pss_cons (ps_set (i := 8) scLaw.nd rfl (Or.inl rfl) (pe_cal cAm hr7 rfl pass0 (pa_cons (pe_ix ix_list (pv 3) pe_int (fun _ _ => rfl)) (pa_cons (pe_ix ix_list (pv 3) pe_int (fun _ _ => rfl)) pa_nil))))
      (pss_cons (ps_for PassesOwn.never rfl (pi_list (pv 5)) (pg_name (i := 7) scLaw.nd rfl (Or.inr rfl))
        (pss_cons (ps_if (pt_cmpR (op_neD hu64) (pe_cal cKO hr4 rfl pass0 (pa_cons (pv 7) pa_nil)) (pe_cal cUn hr4 rfl pass0 (pa_cons (pe_ix ix_list (pv 2) pe_int (fun _ _ => rfl)) (pa_cons (pe_ix ix_list (pv 2) pe_int (fun _ _ => rfl)) (pa_cons (pv 7) pa_nil)))) (nomark _)) (pss_one (ps_ret pe_bl)) pss_nil)
        (pss_one (ps_for PassesOwn.never rfl (pi_list (pv 6)) (pg_name (i := 9) scLaw.nd rfl (Or.inr rfl))
          (pss_cons (ps_set (i := 10) scLaw.nd rfl (Or.inl rfl) (pe_op (op_ownBin FS hr7 sfM fiS isS hbS pass0) (pv 7) (pv 9)))
          (pss_one (ps_if (PW.pt (pw_or (pt_cmpR (op_neD hu64) (pe_mcal0 cIm (pv 10) hr1 pass0) (pe_lc (own := [("_law_grade", 15)]) (g := gName 15) (tt := tYes) (te := teNM K CT CP CM) rfl scLaw.nd (pi_list (pe_alt (pe_mcal0 cG (pe_ix ix_list (pv 3) pe_int (fun _ _ => rfl)) hr1 pass0) (pe_mcal0 cGP (pe_ix ix_list (pv 3) pe_int (fun _ _ => rfl)) hr1 pass0))) (blkOk_by (N := NLaw) (sc := defScope sLaw) (by decide +kernel)) (fun _ _ _ _ _ => pg_name (i := 15) scLaw.nd rfl (Or.inl rfl)) (fun _ _ _ _ _ => pts_nil)
              (fun _ _ _ _ _ => by exact pe_obj (pv 9) MC FC hbC hr2 pass0 (pa_cons (pe_obj (pv 7) MC FC hbC hr2 pass0 (pa_cons (pv 15) pa_nil)) pa_nil))) (nomark _)) (pw_or1 (pt_cmpR (op_oNotIn oM hr3 pass0) (pv 10) (pv 8) rfl)))) (pss_one (ps_ret pe_bl)) pss_nil)))))))
      (pss_cons (ps_set (i := 11) scLaw.nd rfl (Or.inl rfl) (pe_cmeth (pe_glob (v := .ref CM) rfl gM rfl) rdM cmS (fn_raw0 FSm hbSm) hr7 pass0 (pa_cons (pe_ix ix_list (pv 3) pe_int (fun _ _ => rfl)) pa_nil)))
      (pss_cons (ps_if (PW.pt (pw_or (pt_cmpR (op_oNotIn oM hr3 pass0) (pv 11) (pe_cal cAm hr7 rfl pass0 (pa_cons (pe_ix ix_list (pv 3) pe_int (fun _ _ => rfl)) (pa_cons (pe_ix ix_list (pv 3) pe_int (fun _ _ => rfl)) pa_nil))) rfl) (pw_or1 (pt_cmp (pc_notN (pe_cal cKO hr4 rfl pass0 (pa_cons (pv 11) pa_nil))))))) (pss_one (ps_ret pe_bl)) pss_nil)
      (pss_cons (ps_set (i := 12) scLaw.nd rfl (Or.inl rfl) (pe_cal cTS hr10 rfl pass0 (pa_cons (pe_cal cTo hr4 rfl pass0 (pa_cons (pv 1) (pa_cons (pe_cal cOd hr1 rfl pass0 (pa_cons pe_int pa_nil)) pa_nil))) pa_nil)))
      (pss_cons (ps_if (PW.pt (pw_or (pt_cmpR op_ne (pe_callB call_len_seq (by rfl) T.len boot_len (pa_cons (pe_cal cAm hr7 rfl pass0 (pa_cons (pe_ix ix_list (pv 3) pe_int (fun _ _ => rfl)) (pa_cons (pv 12) pa_nil))) pa_nil)) pe_int (nomark _))
          (pw_or1 (pt_cmpR op_ne (pe_cmpR (op_neNil hu0) (pe_cal cAm hr7 rfl pass0 (pa_cons (pv 12) (pa_cons (pe_ix ix_list (pv 3) pe_int (fun _ _ => rfl)) pa_nil))) (pe_lst pa_nil) (nomark _)) (pe_cmpR op_eq (pe_alt (pe_callB (call_lenM cL hr2 pass0) (by rfl) T.len boot_len (pa_cons (pe_ix ix_list (pv 3) pe_int (fun _ _ => rfl)) pa_nil)) (pe_callB (call_lenM cLP hr2 pass0) (by rfl) T.len boot_len (pa_cons (pe_ix ix_list (pv 3) pe_int (fun _ _ => rfl)) pa_nil))) pe_int (nomark _)) (nomark _))))) (pss_one (ps_ret pe_bl)) pss_nil)
      (pss_cons (ps_expr (pe_bm PySem.F.plainAttrs_list PySem.F.slot_list_append PySem.F.type_list_append mt_append (pv 5) (pa_cons pe_non pa_nil)))
      (pss_one (ps_ret (pe_cmpR op_eq (pe_callB call_len_seq (by rfl) T.len boot_len (pa_cons (pe_cal cAm hr7 rfl pass0 (pa_cons (pe_ix ix_list (pv 3) pe_int (fun _ _ => rfl)) (pa_cons (pe_ix ix_list (pv 3) pe_int (fun _ _ => rfl)) pa_nil))) pa_nil)) (pe_op op_sub (pe_callB call_len_seq (by rfl) T.len boot_len (pa_cons (pv 5) pa_nil)) pe_int) (nomark _))))))))))))))))))), ?_⟩
    refine ⟨_, rfl, a, ns, rfl, hS, fun p c H1 e1 pen1 => ?_⟩
    refine q_tolds (K := K) 3 (ea_cons ev_c ea_nil) (by decide) (fun _ => by rfl) (fun _ => by rfl) pen1 (by omega) tp_dr fun TL H2 ds nT b2 p2 hT lz ok => ?_
    obtain ⟨d0, d1, d2, rfl⟩ : ∃ d0 d1 d2, ds = [d0, d1, d2] := by
      match ds, lz with
      | [x, y, z], _ => exact ⟨x, y, z, rfl⟩
    obtain ⟨pT, cT⟩ := pen_ne pen1 nT
    refine q_cut (M := fun σ' H' => σ' = [some (.ref a), some (.ref p), some (.ref TL), none, none, none, none, none, none, none, none, none, none, none, none, none] ∧ ∃ e0 e1 e2, PenC H' p c 200 ∧ H' TL = some (.lst [.ref e0, .ref e1, .ref e2]) ∧ (∃ G J T lo hi, Tld H' e0 G J T lo hi) ∧ (∃ G J T lo hi, Tld H' e1 G J T lo hi) ∧ (∃ G J T lo hi, Tld H' e2 G J T lo hi)) ?_ ?_
    · refine ⟨_, rfl, p, c, 3, 0 + 19 * 3, rfl, by decide, by decide, p2, by omega, fun d H3 b3 p3 dz dy => ?_⟩
      refine ⟨rfl, _, rfl, ?_⟩
      have T3 : H3 TL = some (.lst [.ref d0, .ref d1, .ref d2]) := b3 _ _ (Ne.symm pT) hT
      have ok3 : ∀ x ∈ [d0, d1, d2], ∃ G J T lo hi, Tld H3 x G J T lo hi := fun x hx => by
        obtain ⟨G, J, T', lo, hi, t⟩ := ok x hx
        exact ⟨G, J, T', lo, hi, t.pen p2 b3⟩
      by_cases hd : d = 0
      · dsimp only
        rw [if_pos (by simp [hd])]
        refine q_setL (l := TL) (j := 1) T3 (ev_ix (K := K) (k := 0) rfl T3 rfl) (ev_var rfl) ev_c (by simp) fun H4 e4 => ?_
        have T4 := e4 _ _ T3
        have nl4 : ∀ x ∈ [d0, d1, d2], ∀ ys, H4 x ≠ some (.lst ys) := fun x hx => by
          obtain ⟨G, J, T', lo, hi, t⟩ := ok3 x hx
          exact (t.ext e4).nl
        have ok5 : ∀ x ∈ [d0, d1, d2], ∃ G J T lo hi, Tld (upd H4 TL (.lst [.ref d0, .ref d0, .ref d2])) x G J T lo hi := fun x hx => by
          obtain ⟨G, J, T', lo, hi, t⟩ := ok3 x hx
          exact ⟨G, J, T', lo, hi, (t.ext e4).refs (ds := [d0, d1, d2]) T4 nl4 But.upd⟩
        have T5 : (upd H4 TL (.lst [.ref d0, .ref d0, .ref d2])) TL = some (.lst [.ref d0, .ref d0, .ref d2]) := upd_same
        have p5 : PenC (upd H4 TL (.lst [.ref d0, .ref d0, .ref d2])) p c (0 + 19 * 3 + 1) := pen_newD (p3.ext e4) pT cT
        show tAsg _ _ _ _ (upd H4 TL (.lst [.ref d0, .ref d0, .ref d2]))
        generalize upd H4 TL (.lst [.ref d0, .ref d0, .ref d2]) = H5 at ok5 T5 p5
        refine s_pick2 (K := K) rfl rfl T5 pT p5 (by omega) fun x H6 b6 p6 hx => ?_
        obtain ⟨y, hy, rfl⟩ : ∃ y, y ∈ [d0, d1, d2] ∧ x = .ref y := by
          rcases hx with e | e
          · exact ⟨d0, by simp, e⟩
          · exact ⟨d2, by simp, e⟩
        have T6 : H6 TL = some (.lst [.ref d0, .ref d0, .ref d2]) := b6 _ _ (Ne.symm pT) T5
        have nl6 : ∀ x ∈ [d0, d0, d2], ∀ ys, H6 x ≠ some (.lst ys) := fun x hx => by
          obtain ⟨G, J, T', lo, hi, t⟩ := ok5 x (by
            rcases List.mem_cons.mp hx with e | e
            · simp [e]
            · rcases List.mem_cons.mp e with e | e
              · simp [e]
              · simp [List.mem_singleton.mp e])
          exact (t.pen p5 b6).nl
        have ok7 : ∀ x ∈ [d0, d1, d2], ∃ G J T lo hi, Tld (upd H6 TL (.lst [.ref d0, .ref d0, .ref y])) x G J T lo hi := fun x hx => by
          obtain ⟨G, J, T', lo, hi, t⟩ := ok5 x hx
          exact ⟨G, J, T', lo, hi, (t.pen p5 b6).refs (ds := [d0, d0, d2]) T6 nl6 But.upd⟩
        exact ⟨rfl, d0, d0, y, (pen_newD p6 pT cT).up (by omega), upd_same, ok7 d0 (by simp), ok7 d0 (by simp), ok7 y hy⟩
      · dsimp only
        rw [if_neg (by simpa using hd)]
        exact ⟨rfl, d0, d1, d2, p3.up (by omega), T3, ok3 d0 (by simp), ok3 d1 (by simp), ok3 d2 (by simp)⟩
    · rintro σ' H3 ⟨rfl, e0, e1', e2', p3, T3, ⟨G0, J0, T0, l0, h0, t0⟩, ⟨G1, J1, T1, l1, h1, t1⟩, ⟨G2, J2, T2, l2, h2, t2⟩⟩
      refine q_scs (K := K) (CT := CT) rfl T3 t0 t1 t2 (fun _ => by rfl) (fun _ => by rfl) fun SL H4 s0 s1 s2 nS e4 S4 m0 m1 m2 => ?_
      have T4 := e4 _ _ T3
      have p4 := p3.ext e4
      obtain ⟨pS', cS'⟩ := pen_ne p3 nS
      have TS : TL ≠ SL := fun z => by
        rw [z, nS] at T3
        cases T3
      have P0 : Pr K CT H4 e0 s0 G0 J0 T0 l0 h0 := ⟨t0.td.ext e4, m0, t0.law, ok_pool t0.pl, t0.z4⟩
      have P1 : Pr K CT H4 e1' s1 G1 J1 T1 l1 h1 := ⟨t1.td.ext e4, m1, t1.law, ok_pool t1.pl, t1.z4⟩
      have P2 : Pr K CT H4 e2' s2 G2 J2 T2 l2 h2 := ⟨t2.td.ext e4, m2, t2.law, ok_pool t2.pl, t2.z4⟩
      refine q_cut (M := fun σ' H' => ∃ x4 C0 dd ss A J T lo hi, σ' = [some (.ref a), some (.ref p), some (.ref TL), some (.ref SL), x4, none, none, none, none, none, none, none, none, none, none, none] ∧ (C0 = CT ∨ C0 = CP) ∧ PenC H' p c 400 ∧ H' TL = some (.lst [.ref dd, .ref e1', .ref e2']) ∧ H' SL = some (.lst [.ref ss, .ref s1, .ref s2]) ∧
        Pr K C0 H' dd ss A J T lo hi ∧ Pr K CT H' e1' s1 G1 J1 T1 l1 h1 ∧ Pr K CT H' e2' s2 G2 J2 T2 l2 h2) ?_ ?_
      · refine ⟨_, rfl, p, c, 3, 200, rfl, by decide, by decide, p4, by omega, fun d H5 b5 p5 dz dy => ?_⟩
        refine ⟨rfl, _, rfl, ?_⟩
        have T5 := b5 _ _ (Ne.symm pT) T4
        have S5 := b5 _ _ (Ne.symm pS') S4
        have Q0 := P0.pen p4 b5
        have Q1 := P1.pen p4 b5
        have Q2 := P2.pen p4 b5
        by_cases hd : d = 0
        · dsimp only
          rw [if_pos (by simp [hd])]
          refine q_tolds (K := K) 2 (ea_cons ev_c ea_nil) (by decide) (fun _ => by rfl) (fun _ => by rfl) p5 (by omega) tp_two fun F H6 es nF b6 p6 hF lz6 ok6 => ?_
          obtain ⟨u0, u1, rfl⟩ : ∃ u0 u1, es = [u0, u1] := by
            match es, lz6 with
            | [x, y], _ => exact ⟨x, y, rfl⟩
          obtain ⟨A0, J3, T3', l3, h3, v0⟩ := ok6 u0 (by simp)
          obtain ⟨A1, J4, T4', l4, h4, v1⟩ := ok6 u1 (by simp)
          have z0 := v0.z4
          have z1 := v1.z4
          have T6 := b6 _ _ (Ne.symm pT) T5
          have S6 := b6 _ _ (Ne.symm pS') S5
          have R0 := Q0.pen p5 b6
          have R1 := Q1.pen p5 b6
          have R2 := Q2.pen p5 b6
          obtain ⟨kv0, ln0, jn0, tn0, rj0, rt0, y1, y2, y3, _⟩ := v0.td.ex
          obtain ⟨kv1, ln1, jn1, tn1, rj1, rt1, w1, w2, w3, _⟩ := v1.td.ex
          have len0 := ev_lenS (K := K) (ev_dget (key := Sum.inr "names") (ev_ix (K := K) (σ := [some (.ref a), some (.ref p), some (.ref TL), some (.ref SL), some (.ref F), none, none, none, none, none, none, none, none, none, none, none]) (j := 4) (k := 0) rfl hF rfl) ev_c y1 y2) (.inl (sq_of y3))
          have len1 := ev_lenS (K := K) (ev_dget (key := Sum.inr "names") (ev_ix (K := K) (σ := [some (.ref a), some (.ref p), some (.ref TL), some (.ref SL), some (.ref F), none, none, none, none, none, none, none, none, none, none, none]) (j := 4) (k := 1) rfl hF rfl) ev_c w1 w2) (.inl (sq_of w3))
          rw [List.length_map] at len0 len1
          refine s_when (b := decide ((A0.length : Int) * (A1.length : Int) < 5)) (et_test (ev_op (ev_op len0 len1 (rv_I (.inl ⟨by omega, by omega⟩))) ev_c rv_I0)) (fun hb H7 e7 => ?_) (fun hb H7 e7 => ?_)
          · have hb2 : (A0.length : Int) * (A1.length : Int) < 5 := of_decide_eq_true hb
            have hb3 : A0.length * A1.length ≤ 4 := by
              have : ((A0.length * A1.length : Nat) : Int) < 5 := by
                rw [Int.natCast_mul]
                exact hb2
              omega
            have T7 := e7 _ _ T6
            have S7 := e7 _ _ S6
            have F7 := e7 _ _ hF
            refine q_bes (K := K) rfl rfl T7 F7 (v0.ext e7) (v1.ext e7) (by omega) fun r H8 e8 tr => ?_
            have T8 := e8 _ _ T7
            have S8 := e8 _ _ S7
            have F8 := e8 _ _ F7
            have e68 := e7.trans e8
            have nl8 : ∀ x ∈ [e0, e1', e2'], ∀ ys, H8 x ≠ some (.lst ys) := fun x hx => by
              rcases List.mem_cons.mp hx with e | e
              · rw [e]; exact (R0.td.ext e68).nl
              · rcases List.mem_cons.mp e with e | e
                · rw [e]; exact (R1.td.ext e68).nl
                · rw [List.mem_singleton.mp e]; exact (R2.td.ext e68).nl
            have hTF : TL ≠ F := fun z => by
              rw [z, nF] at T5
              cases T5
            have tr9 := tr.refs (ds := [e0, e1', e2']) (H' := upd H8 TL (.lst [.ref r, .ref e1', .ref e2'])) T8 nl8 But.upd
            have R19 := (R1.ext e68).refs (ds := [e0, e1', e2']) (H' := upd H8 TL (.lst [.ref r, .ref e1', .ref e2'])) T8 nl8 But.upd
            have R29 := (R2.ext e68).refs (ds := [e0, e1', e2']) (H' := upd H8 TL (.lst [.ref r, .ref e1', .ref e2'])) T8 nl8 But.upd
            have V09 := (v0.ext e68).refs (ds := [e0, e1', e2']) (H' := upd H8 TL (.lst [.ref r, .ref e1', .ref e2'])) T8 nl8 But.upd
            have V19 := (v1.ext e68).refs (ds := [e0, e1', e2']) (H' := upd H8 TL (.lst [.ref r, .ref e1', .ref e2'])) T8 nl8 But.upd
            have R09 := (R0.md.ext e68).butL (H' := upd H8 TL (.lst [.ref r, .ref e1', .ref e2'])) T8 But.upd
            have T9 : (upd H8 TL (.lst [.ref r, .ref e1', .ref e2'])) TL = some (.lst [.ref r, .ref e1', .ref e2']) := upd_same
            have S9 : (upd H8 TL (.lst [.ref r, .ref e1', .ref e2'])) SL = some (.lst [.ref s0, .ref s1, .ref s2]) := by rw [upd_ne (Ne.symm TS)]; exact S8
            have F9 : (upd H8 TL (.lst [.ref r, .ref e1', .ref e2'])) F = some (.lst [.ref u0, .ref u1]) := by rw [upd_ne (Ne.symm hTF)]; exact F8
            have p9 : PenC (upd H8 TL (.lst [.ref r, .ref e1', .ref e2'])) p c (200 + 1 + 19 * 2) := pen_newD (p6.ext e68) pT cT
            show tAsg _ _ _ _ (upd H8 TL (.lst [.ref r, .ref e1', .ref e2']))
            generalize upd H8 TL (.lst [.ref r, .ref e1', .ref e2']) = H9 at tr9 R19 R29 V09 V19 R09 T9 S9 F9 p9
            refine s_mkp (K := K) (CT := CT) (CP := CP) rfl rfl S9 F9 V09 V19 (by omega) fun mm H10 e10 mk => ?_
            have S10 := e10 _ _ S9
            have nl10 : ∀ x ∈ [s0, s1, s2], ∀ ys, H10 x ≠ some (.lst ys) := fun x hx => by
              rcases List.mem_cons.mp hx with e | e
              · rw [e]; exact (R09.ext e10).nl
              · rcases List.mem_cons.mp e with e | e
                · rw [e]; exact (R19.md.ext e10).nl
                · rw [List.mem_singleton.mp e]; exact (R29.md.ext e10).nl
            refine ⟨_, CP, r, mm, _, _, _, _, _, rfl, .inr rfl, (pen_newD (p9.ext e10) pS' cS').up (by omega), by rw [upd_ne TS]; exact e10 _ _ T9, upd_same, ⟨(tr9.ext e10).refs (ds := [s0, s1, s2]) S10 nl10 But.upd, mk.butL S10 But.upd, pair_law (pool_inj v0.pl v1.pl) v0.law v1.law, ok_pair (ok_pool v0.pl) (ok_pool v1.pl), by rw [pair_len]; exact hb3⟩,
              (R19.ext e10).refs (ds := [s0, s1, s2]) S10 nl10 But.upd, (R29.ext e10).refs (ds := [s0, s1, s2]) S10 nl10 But.upd⟩
          · exact ⟨_, CT, e0, s0, _, _, _, _, _, rfl, .inl rfl, (p6.ext e7).up (by omega), e7 _ _ T6, e7 _ _ S6, R0.ext e7, R1.ext e7, R2.ext e7⟩
        · dsimp only
          rw [if_neg (by simpa using hd)]
          exact ⟨_, CT, e0, s0, _, _, _, _, _, rfl, .inl rfl, p5.up (by omega), T5, S5, Q0, Q1, Q2⟩
      · rintro σ' H5 ⟨x4, C0, dd, ss, A', J, T', lo, hi, rfl, hC, p5, T5, S5, P0, P1, P2⟩
        have sx : ∀ {σ : L2.St} {H' : Hp} {k : Nat} {v : V}, σ[3]? = some (some (.ref SL)) → Ex H5 H' → ([.ref ss, .ref s1, .ref s2] : List V)[k]? = some v → Ev (tOp (rIxL K) (tVar 3) (tC (.int (k : Int)))) σ H' v := fun h e hk => ev_ix h (e _ _ S5) hk
        have tx : ∀ {σ : L2.St} {H' : Hp} {k : Nat} {v : V}, σ[2]? = some (some (.ref TL)) → Ex H5 H' → ([.ref dd, .ref e1', .ref e2'] : List V)[k]? = some v → Ev (tOp (rIxL K) (tVar 2) (tC (.int (k : Int)))) σ H' v := fun h e hk => ev_ix h (e _ _ T5) hk
        have CTl : CT = CT ∨ CT = CP := .inl rfl
        refine q_two (K := K) (CT := CT) (CP := CP) (CM := CM) (sx (k := 0) rfl (Ex.refl _) rfl) (sx (k := 1) rfl (Ex.refl _) rfl) (fun H1 e1 => sx (k := 1) rfl e1 rfl) (fun H1 e1 => sx (k := 2) rfl e1 rfl) hC CTl CTl CTl P0.md.sc P1.md.sc P1.md.sc P2.md.sc P0.z4 P1.z4 P1.z4 P2.z4 fun f1 f2 H6 acc1 acc2 n1 n2 e6 F1 M1 F2 M2 => ?_
        refine q_when (b := false) (et_test (ev_neDs (ed_imgs (K := K) (ev_var rfl) (sq_of F1) M1 (Nat.le_trans (rws_len P0.z4 P1.z4) (by decide)) (fun _ => by rfl) (fun _ => by rfl)) (ed_due (tx (k := 0) rfl e6 rfl) (tx (k := 1) rfl e6 rfl) (P0.td.ext e6) (P1.td.ext e6) P0.z4 P1.z4) (sh_rowsL (rws_ok P1.ok)))) (fun z => nomatch z) (fun _ H7 e7 => ?_)
        have e57 := e6.trans e7
        refine q_when (b := false) (et_test (ev_neDs (ed_imgs (K := K) (ev_var rfl) (sq_of (e7 _ _ F2)) (M2.ext e7) (Nat.le_trans (rws_len P1.z4 P2.z4) (by decide)) (fun _ => by rfl) (fun _ => by rfl)) (ed_due (tx (k := 1) rfl e57 rfl) (tx (k := 2) rfl e57 rfl) (P1.td.ext e57) (P2.td.ext e57) P1.z4 P2.z4) (sh_rowsL (rws_ok P2.ok)))) (fun z => nomatch z) (fun _ H8 e8 => ?_)
        have e58 := e57.trans e8
        refine q_am (K := K) (CT := CT) (CP := CP) (CM := CM) (sx (k := 0) rfl e58 rfl) (sx (k := 2) rfl e58 rfl) hC CTl (P0.md.sc.ext e58) (P2.md.sc.ext e58) P0.z4 P2.z4 fun f3 H9 acc3 n3 e9 F3 M3 => ?_
        have e59 := e58.trans e9
        have e69 := (e7.trans e8).trans e9
        have F19 := e69 _ _ F1
        have F29 := e69 _ _ F2
        have M19 := M1.ext e69
        have M29 := M2.ext e69
        refine q_forLn (xs := acc1) (ev_var rfl) (sq_of F19) (fun i σ' H' => ∃ x7 x9 x10, σ' = [some (.ref a), some (.ref p), some (.ref TL), some (.ref SL), x4, some (.ref f1), some (.ref f2), x7, some (.ref f3), x9, x10, none, none, none, none, none] ∧ Ex H9 H') (fun H' e => ⟨_, _, _, rfl, e⟩) (fun i σ' H' _ ⟨_, _, _, _, e⟩ => sq_of (e _ _ F19)) ?_ ?_
        · rintro i v σ' H10 hv ⟨x7, x9, x10, rfl, e10⟩
          obtain ⟨is, hR, m, hm, mm, im⟩ : ∃ is, is ∈ rws A' J T' lo hi G1 J1 T1 l1 h1 ∧ ∃ m, v = .ref m ∧ MapAt CM H9 m ss s1 A' G1 (leadF A' is) ∧ ImgAt K CM H9 m is := by
            have lt : i < (rws A' J T' lo hi G1 J1 T1 l1 h1).length := by
              rw [← M19.1]
              exact (List.getElem?_eq_some_iff.mp hv).1
            obtain ⟨m, hm, mm, im⟩ := M19.2 i _ (List.getElem?_eq_getElem lt)
            rw [hv] at hm
            exact ⟨_, List.getElem_mem lt, m, Option.some.inj hm, mm, im⟩
          subst hm
          obtain ⟨⟨i1, i2⟩, i3⟩ := rws_iff.mp hR
          have e510 := e59.trans e10
          have mm10 := mm.ext e10
          have im10 := im.ext e10
          refine q_when (b := false) (et_test (ev_neDs (ed_cast (congrArg optD (ko_un P0.law P1.law (fun x hx => lead_in i1 i2 hx))) (ed_ko (CT := CT) (CP := CP) (ev_var rfl) hC CTl mm10 (P0.md.ext e510) (P1.md.ext e510))) (ed_un (CT := CT) (CP := CP) (tx (k := 0) rfl e510 rfl) (tx (k := 1) rfl e510 rfl) (ev_var rfl) hC (P0.td.ext e510) (P1.td.ext e510) mm10 (P0.md.sc.ext e510)) (sh_optD P0.ok))) (fun z => nomatch z) (fun _ H11 e11 => ?_)
          have e911 := e10.trans e11
          have e511 := e59.trans e911
          have F2' := e911 _ _ F29
          refine s_forLn (xs := acc2) (ev_var rfl) (sq_of F2') (fun j σ' H' => ∃ x9 x10, σ' = [some (.ref a), some (.ref p), some (.ref TL), some (.ref SL), x4, some (.ref f1), some (.ref f2), some (.ref m), some (.ref f3), x9, x10, none, none, none, none, none] ∧ Ex H11 H') (fun H' e => ⟨_, _, rfl, e⟩) (fun i σ' H' _ ⟨_, _, _, e⟩ => sq_of (e _ _ F2')) ?_ ?_
          · rintro j w σ' H12 hw ⟨y9, y10, rfl, e12⟩
            obtain ⟨js, hS', n, hn, mn, jn⟩ : ∃ js, js ∈ rws G1 J1 T1 l1 h1 G2 J2 T2 l2 h2 ∧ ∃ n, w = .ref n ∧ MapAt CM H9 n s1 s2 G1 G2 (leadF G1 js) ∧ ImgAt K CM H9 n js := by
              have lt : j < (rws G1 J1 T1 l1 h1 G2 J2 T2 l2 h2).length := by
                rw [← M29.1]
                exact (List.getElem?_eq_some_iff.mp hw).1
              obtain ⟨m, hm, mm, im⟩ := M29.2 j _ (List.getElem?_eq_getElem lt)
              rw [hw] at hm
              exact ⟨_, List.getElem_mem lt, m, Option.some.inj hm, mm, im⟩
            subst hn
            have e912 := e911.trans e12
            have e512 := e59.trans e912
            refine q_shr (K := K) (CT := CT) (CP := CP) (CM := CM) (i := 10) (ev_var rfl) (ev_var rfl) hC (mm.ext e912) (im.ext e912) (mn.ext e912) (P0.md.sc.ext e512) (P1.md.sc.ext e512) (P2.md.sc.ext e512) hR hS' P1.ok fun r H13 n13 e13 mr ir => ?_
            have rc := rws_comp hR hS' P0.md.sc.wj P0.md.sc.wt P0.md.sc.lo P0.md.sc.hi
            have e913 := e912.trans e13
            have e513 := e59.trans e913
            refine s_when (b := false) (et_is (et_or (et_test (ev_neDs (ed_ofL (el_img (ev_var rfl) ir)) (ed_ofL (el_nm (CT := CT) (CP := CP) (fun _ => by rfl) (fun _ => by rfl) (fun _ => by rfl) (fun _ => by rfl) (sx (k := 0) rfl e513 rfl) hC (mm.ext e913) (mn.ext e913) (P0.md.sc.ext e513) (P1.md.sc.ext e513) i1 i2)) (sh_strL (rws_ok P2.ok _ rc)))) (fun _ => et_test (ev_notIn (CT := CT) (CP := CP) (ev_var rfl) (ev_var rfl) hC CTl mr ir (e913 _ _ F3) (M3.ext e913) (P0.md.sc.ext e513) (P2.md.sc.ext e513) P0.ok P2.ok (rws_ok P2.ok) rc))) (by simp)) (fun z => nomatch z) (fun _ H14 e14 => ⟨_, _, rfl, (e12.trans e13).trans e14⟩)
          · rintro σ' H12 ⟨y9, y10, rfl, e12⟩
            exact ⟨_, _, _, rfl, e911.trans e12⟩
        · rintro σ' H10 ⟨x7, x9, x10, rfl, e10⟩
          have e510 := e59.trans e10
          refine q_same (K := K) (CT := CT) (CP := CP) (CM := CM) (Cs := C0) (i := 11) (sx (k := 0) rfl e510 rfl) hC (P0.md.sc.ext e510) fun r H11 n11 e11 mr ir => ?_
          have e511 := e510.trans e11
          refine q_when (b := false) (et_is (et_or (et_test (ev_notAm (CT := CT) (CP := CP) (ev_var rfl) (fun H1 e => sx (k := 0) rfl (e511.trans e) rfl) (fun H1 e => sx (k := 0) rfl (e511.trans e) rfl) hC hC mr ir (P0.md.sc.ext e511) (P0.md.sc.ext e511) P0.z4 P0.z4 P0.ok P0.ok (rws_self P0.md.sc.wj P0.md.sc.wt P0.md.sc.lo P0.md.sc.hi))) (fun _ => et_koN (CT := CT) (CP := CP) (ev_var rfl) hC mr (P0.md.ext e511))) (by simp)) (fun z => nomatch z) (fun _ H12 e12 => ?_)
          have e512 := e511.trans e12
          have p12 := p5.ext e512
          have F112 := ((e10.trans e11).trans e12) _ _ F19
          refine q_single (K := K) (CT := CT) (i := 12) rfl p12 (by omega) fun sg H13 g Jg Tg b13 p13 mg Lg og => ?_
          have pf1 := (pen_ne p5 n1).1
          have S13 := b13 _ _ (Ne.symm pS') (e512 _ _ S5)
          have F13 := b13 _ _ (Ne.symm pf1) F112
          have W0 := (P0.ext e512).pen p12 b13
          have W1 := (P1.ext e512).pen p12 b13
          have sx3 : ∀ {σ : L2.St} {H' : Hp} {k : Nat} {v : V}, σ[3]? = some (some (.ref SL)) → Ex H13 H' → ([.ref ss, .ref s1, .ref s2] : List V)[k]? = some v → Ev (tOp (rIxL K) (tVar 3) (tC (.int (k : Int)))) σ H' v := fun h e hk => ev_ix h (e _ _ S13) hk
          refine q_when (b := false) (et_is (et_or (et_test (ev_op (ev_lenAm (CT := CT) (CP := CP) (sx3 (k := 0) rfl (Ex.refl _) rfl) (ev_var rfl) hC CTl W0.md.sc mg.sc W0.z4 (by simp)) ev_c (rv_ne rfl))) (fun _ => et_test (ev_op (ev_nilAm (CT := CT) (CP := CP) (ev_var rfl) (sx3 (k := 0) rfl (Ex.refl _) rfl) CTl hC mg.sc W0.md.sc (by simp) W0.z4) (ev_op (ev_lenC (CT := CT) (CP := CP) (sx3 (k := 0) rfl (Ex.refl _) rfl) hC W0.md.sc) ev_c (rv_eq rfl)) (rv_ne rfl)))) ?_) (fun z => nomatch z) (fun _ H14 e14 => ?_)
          · rw [rws_to_one W0.law Lg, rws_from_one W0.law W0.md.sc.nd Lg]
            by_cases h1 : A'.length = 1
            · simp [h1]
            · have h2 : ¬ ((A'.length : Nat) : Int) = 1 := by omega
              simp [h1, h2]
          · have F14 := e14 _ _ F13
            have lz : acc1.length < 100000 := by
              have q1 := M1.1
              have q2 := rws_len (A := A') (G := G1) (J1 := J) (T1 := T') (l1 := lo) (h1 := hi) (J2 := J1) (T2 := T1) (l2 := l1) (h2 := h1) P0.z4 P1.z4
              omega
            refine q_app (l := f1) F14 (ev_var rfl) ev_c lz fun H15 e15 => ?_
            have e1315 := e14.trans e15
            have F15 := e15 _ _ F14
            have fS : f1 ≠ SL := fun z => by
              rw [z, S5] at n1
              cases n1
            have S16 : (upd H15 f1 (.lst (acc1 ++ [.non]))) SL = some (.lst [.ref ss, .ref s1, .ref s2]) := by rw [upd_ne (Ne.symm fS)]; exact e1315 _ _ S13
            have Y0 := (W0.md.ext e1315).butL (H' := upd H15 f1 (.lst (acc1 ++ [.non]))) F15 But.upd
            have Y1 := (W1.md.ext e1315).butL (H' := upd H15 f1 (.lst (acc1 ++ [.non]))) F15 But.upd
            have F16 : (upd H15 f1 (.lst (acc1 ++ [.non]))) f1 = some (.lst (acc1 ++ [.non])) := upd_same
            show tRet _ _ _ (upd H15 f1 (.lst (acc1 ++ [.non])))
            generalize upd H15 f1 (.lst (acc1 ++ [.non])) = H16 at S16 Y0 Y1 F16
            refine s_ret (ev_is (w := .bl true) (ev_op (ev_lenAm (CT := CT) (CP := CP) (ev_ix (K := K) (k := 0) rfl S16 rfl) (ev_ix (K := K) (k := 1) rfl S16 rfl) hC CTl Y0.sc Y1.sc W0.z4 W1.z4) (ev_op (ev_lenS (ev_var rfl) (.inl (sq_of F16))) ev_c rv_I0) (rv_eq rfl)) ?_) fun H17 e17 => q H17
            rw [List.length_append, M1.1]
            simp
end
end K06

set_option Elab.async false
set_option linter.all false
set_option maxRecDepth 100000
set_option maxHeartbeats 4000000
/-! H1: what the head is asked. -/
namespace K06
open PySem PySem.Spec PyProof.Rows L2 J S
/-- Scale.__init__ by the class's name -/
def ownB (K : PySem.W.Frag) : Bool := PySem.W.readsIn K (He.ga K "Scale") (.type "type") && (decide (PySem.W.specialIn K (.ref (He.ga K "Scale")) "__getattribute__" = some (some (.builtin "type.__getattribute__"))) && (match PySem.W.findCls K (.ref (He.ga K "Scale")) (.type "type") "__init__" with
  | some (.val (.ref a)) => decide (a = He.fAd K ("Scale", some "__init__"))
  | _ => false))
/-- isinstance of own objects -/
def insC (K : PySem.W.Frag) (x : Str) : Bool := decide (PySem.W.findIn K (.ref (He.ga K x)) "__class__" = some (some (.builtin "object.__class__"))) && decide (PySem.W.mroIn K (He.ga K x) (.type "object") = some true)
def insB (K : PySem.W.Frag) : Bool := decide (PySem.W.specialIn K (.builtin "object.__class__") "__get__" = some (some (.builtin "getset_descriptor.__get__"))) && (decide (PySem.W.takesIn K (.builtin "object.__class__") = some true) && (insC K "TableScale" && (insC K "PairScale" && (insC K "ScaleMap" &&
  (decide (PySem.W.kitOne K (.ref (He.ga K "TableScale")) (.ref (He.ga K "Scale")) = some true) && (decide (PySem.W.kitOne K (.ref (He.ga K "PairScale")) (.ref (He.ga K "Scale")) = some true) && PySem.W.fnIn K (He.ma K (He.ga K "ScaleMap") "__call__")))))))
/-- own operations; the classmethod -/
def opsB (K : PySem.W.Frag) : Bool := decide (PySem.W.findIn K (.ref (He.ga K "TableScale")) "__ne__" = some (some (.builtin "object.__ne__"))) && (PySem.W.selfFirst K (He.ga K "ScaleMap") && (PySem.W.readsIn K (He.ga K "ScaleMap") (.type "type") && (decide (PySem.W.specialIn K (.ref (He.ga K "ScaleMap")) "__getattribute__" = some (some (.builtin "type.__getattribute__"))) &&
  (He5.wrapB K (He.ga K "ScaleMap") "classmethod" "classmethod.__get__" "same" && PySem.W.fnIn K (He5.wf K (He.ga K "ScaleMap") "classmethod" "same")))))
def mthsC : List Str := ["__contains__", "__len__", "__eq__", "grades", "join", "then", "joined", "only", "_place", "_put_together"]
def mthsM : List Str := ["__call__", "images", "__rshift__", "__eq__"]
def lrN : List Str := ["left", "right"]
def fas : List He.Fa := [.cls "TableScale", .mkr "TableScale", .str "SIGNS" signS, .int "LONGEST" 12, .int "MOST_GRADES" 8, .int "MOST_PAIRS" 12, .glo "Scale", .glo "TableScale", .glo "PairScale", .glo "ScaleMap", .cls "PairScale", .mkr "PairScale", .cls "ScaleMap", .mkr "ScaleMap"]
def frees : List Str := ["isinstance", "str", "list", "tuple", "int", "len", "range", "all", "max", "min", "sum", "dict", "zip"]
def gloA : List Str := ["within", "is_row", "is_run", "_grades_below", "_meet_rows", "_only_rows", "_check_grades", "_are_unlike", "_check_rows", "_check_entries", "_first_not_kept", "_choices", "all_maps", "keeps_only", "_beside"]
def gloB : List Str := ["_law_pen", "_law_next", "_law_draw", "_law_shuffled", "_law_costs", "_law_levels", "_law_sets", "_law_odd", "_law_places", "_law_told", "_law_table_scale", "_law_join", "_law_then", "_law_within", "_law_joined", "_law_only", "_law_beside", "_law_led", "_law_rows_of", "_law_due", "_law_unkept", "law"]
def gloS : List Str := gloA ++ gloB
def mkD (x : Str) (i : Nat) : He.DefD := ⟨(x, none), x, x, defArgs (topS i), defBody (topS i), defScope (topS i), [], []⟩
def mkM (C x : Str) (B : Str) (i j : Nat) : He.DefD := ⟨(C, some x), x, B ++ "." ++ x, defArgs (methS i j), defBody (methS i j), defScope (methS i j), [], []⟩
def fnD : List He.DefD := [mkD "within" 23, mkD "is_row" 14, mkD "is_run" 15, mkD "_grades_below" 28, mkD "_meet_rows" 29, mkD "_only_rows" 30, mkD "_check_grades" 32, mkD "_are_unlike" 33, mkD "_check_rows" 34, mkD "_check_entries" 35, mkD "_first_not_kept" 18, mkD "_choices" 19, mkD "all_maps" 20, mkD "keeps_only" 21, mkD "_beside" 37, mkD "_law_pen" 39, mkD "_law_next" 40, mkD "_law_draw" 41, mkD "_law_shuffled" 42, mkD "_law_costs" 43, mkD "_law_levels" 44, mkD "_law_sets" 45, mkD "_law_odd" 46, mkD "_law_places" 47, mkD "_law_told" 48, mkD "_law_table_scale" 49, mkD "_law_join" 50, mkD "_law_then" 51, mkD "_law_within" 52, mkD "_law_joined" 53, mkD "_law_only" 54, mkD "_law_beside" 55, mkD "_law_led" 56, mkD "_law_rows_of" 57, mkD "_law_due" 58, mkD "_law_unkept" 59, mkD "law" 60, mkM "TableScale" "__contains__" "Scale" 27 1, mkM "TableScale" "__len__" "Scale" 27 2, mkM "TableScale" "__eq__" "Scale" 27 3, mkM "TableScale" "grades" "Scale" 27 4, mkM "TableScale" "join" "Scale" 27 5, mkM "TableScale" "then" "Scale" 27 6, mkM "TableScale" "joined" "Scale" 27 7, mkM "TableScale" "only" "Scale" 27 10, mkM "TableScale" "_place" "Scale" 27 11, mkM "TableScale" "_put_together" "Scale" 27 12, mkM "PairScale" "__contains__" "Scale" 27 1, mkM "PairScale" "__len__" "Scale" 27 2, mkM "PairScale" "__eq__" "Scale" 27 3, mkM "PairScale" "grades" "Scale" 27 4, mkM "PairScale" "join" "Scale" 27 5, mkM "PairScale" "then" "Scale" 27 6, mkM "PairScale" "joined" "Scale" 27 7, mkM "PairScale" "only" "Scale" 27 10, mkM "PairScale" "_place" "Scale" 27 11, mkM "PairScale" "_put_together" "Scale" 27 12, mkM "TableScale" "__init__" "TableScale" 31 0, mkM "PairScale" "__init__" "PairScale" 36 0, mkM "Scale" "__init__" "Scale" 27 0, mkM "ScaleMap" "__init__" "ScaleMap" 17 0, mkM "ScaleMap" "__call__" "ScaleMap" 17 2, mkM "ScaleMap" "images" "ScaleMap" 17 3, mkM "ScaleMap" "__rshift__" "ScaleMap" 17 4, mkM "ScaleMap" "__eq__" "ScaleMap" 17 5]
def allB (K : PySem.W.Frag) : Bool := (fas.all fun f => f.ok K) && ((frees.all fun x => (He.Fa.free x).ok K) && ((gloS.all fun x => (He.Fa.glo x).ok K) && ((mthsC.all fun m => (He.Fa.meth "TableScale" m).ok K) && ((mthsC.all fun m => (He.Fa.meth "PairScale" m).ok K) && ((fldN.all fun f => (He.Fa.noat "TableScale" f).ok K) && ((fldN.all fun f => (He.Fa.noat "PairScale" f).ok K) &&
  ((lrN.all fun f => (He.Fa.noat "PairScale" f).ok K) && ((fldM.all fun f => (He.Fa.noat "ScaleMap" f).ok K) && (insB K && (ownB K && (opsB K && ((mthsM.all fun m => (He.Fa.meth "ScaleMap" m).ok K) && (fnD.all fun d => d.ok K)))))))))))))
/-- the classmethod's def -/
def sameA (K : PySem.W.Frag) : Addr := He5.wf K (He.ga K "ScaleMap") "classmethod" "same"
def sameD : He5.DefA := ⟨sameA, "same", "ScaleMap.same", defArgs (methS 17 1), defBody (methS 17 1), defScope (methS 17 1), [], []⟩
abbrev AlK : Type := Bool × List He.FnW × He.FnW
def obsK (K : PySem.W.Frag) : AlK := (allB K && sameD.ok K, fnD.map (fun d => He.fnW K d.at_), He5.fnA K (sameA K))
def valK : AlK := (true, fnD.map He.DefD.val, sameD.val)
def SaysK (K : PySem.W.Frag) : Prop := obsK K = valK
/-- its code stands one step further -/
def exA (g : Addr → Option Obj) (as : List Addr) : List Addr := match g (sameA (He.frG g as)) with
  | some o => He.refsD o
  | none => []
def frK (g : Addr → Option Obj) : PySem.W.Frag := He.frG g (exA g (cStatics :: He.asD g 4) ++ (cStatics :: He.asD g 4))
def hkK : PySem.W.Hook where
  α := AlK
  obs := fun s => obsK (frK s.heap.get?)
  val := fun _ => valK
  says := fun _ h => ∃ K : PySem.W.Frag, K.In h ∧ SaysK K
  of := fun _ _ e => ⟨_, He.frG_in, e⟩
  keeps := fun _ _ _ ⟨K, hK, c⟩ k => ⟨K, PySem.W.Frag.In.keeps hK k, c⟩
def obK (s : PySem.W.SharedT) : AlK := obsK (frK (HandSHeadRun.getT s))
theorem obK_eq (s : PySem.W.SharedT) : obK s = hkK.obs s.abs := by
  have e : HandSHeadRun.getT s = s.abs.heap.get? := funext fun a => HandSHeadRun.getT_eq s a
  unfold obK
  rw [e] <;> rfl
end K06

set_option Elab.async false
set_option linter.all false
set_option maxRecDepth 100000
set_option maxHeartbeats 0
/-! H2: the run of the top. -/
namespace K06
open PySem PySem.Spec PyProof.Rows L2 J
abbrev RK : PySem.W.OpenRow := PySem.W.OpenLaw.row PySem.Challenge.rw_neargrades_k06_all_maps
def loose1 : List Str := ["BadImages", "BadScale", "LONGEST", "MOST_GRADES", "MOST_PAIRS", "MixedScales", "NameMissing", "NeargradesError", "NotKept", "PairScale", "SIGNS", "Scale", "ScaleMap", "TableScale", "UnknownGrade", "__name__", "_are_unlike", "_beside", "_check_entries", "_check_grades", "_check_rows", "_choices", "_first_not_kept", "_grades_below", "_kept", "_kept_row", "_law_beside"]
def loose2 : List Str := ["_law_costs", "_law_draw", "_law_due", "_law_join", "_law_joined", "_law_led", "_law_levels", "_law_next", "_law_odd", "_law_only", "_law_pen", "_law_places", "_law_rows_of", "_law_sets", "_law_shuffled", "_law_table_scale", "_law_then", "_law_told", "_law_unkept", "_law_within", "_meet_rows", "_only_rows", "_wall", "all_maps", "is_row", "is_run", "keeps_only", "within"]
def loose : List Str := loose1 ++ loose2
theorem run (w : World) : HandSHeadRun.RunEq RK (PySem.W.view RK.prog [60]) hkK obK 14000 loose w := by
  intro os
  kernel_rfl
end K06

set_option Elab.async false
set_option linter.all false
set_option maxRecDepth 100000
set_option maxHeartbeats 8000000
/-! H3: from what the head is asked to facts. -/
namespace K06
open PySem PySem.Spec PyProof.Rows L2 Evl J ClX StX S
section
variable {P : Program} {w : World} {K : PySem.W.Frag} {mg : Str → Option Value} {h base : Heap}
abbrev cT (K : PySem.W.Frag) : Addr := He.ga K "TableScale"
abbrev cP (K : PySem.W.Frag) : Addr := He.ga K "PairScale"
abbrev cM (K : PySem.W.Frag) : Addr := He.ga K "ScaleMap"
abbrev cS (K : PySem.W.Frag) : Addr := He.ga K "Scale"
structure EnvK (K : PySem.W.Frag) (mg : Str → Option Value) : Prop where
  fre : ∀ x ∈ frees, mg x = none
  glo : ∀ x ∈ gloS, mg x = some (.ref (He.ga K x))
  met : ∀ m ∈ mthsC, Meth K (cT K) m (He.ma K (cT K) m)
  meP : ∀ m ∈ mthsC, Meth K (cP K) m (He.ma K (cP K) m)
  meM : ∀ m ∈ mthsM, Meth K (cM K) m (He.ma K (cM K) m)
  clf : ClsF K (cT K) fldN
  clP : ClsF K (cP K) fldN
  clL : ClsF K (cP K) ["left", "right"]
  clM : ClsF K (cM K) fldM
  mkr : Mk K (cT K) (He.ma K (cT K) "__init__")
  mkP : Mk K (cP K) (He.ma K (cP K) "__init__")
  mkM : Mk K (cM K) (He.ma K (cM K) "__init__")
  cal : CallO K (cM K) (He.ma K (cM K) "__call__")
  sgn : ∃ t, mg "SIGNS" = some (.str signS t)
  lng : ∃ t, mg "LONGEST" = some (.int 12 t)
  mst : ∃ t, mg "MOST_GRADES" = some (.int 8 t)
  msp : ∃ t, mg "MOST_PAIRS" = some (.int 12 t)
  gS : mg "Scale" = some (.ref (cS K))
  gT : mg "TableScale" = some (.ref (cT K))
  gP : mg "PairScale" = some (.ref (cP K))
  gM : mg "ScaleMap" = some (.ref (cM K))
  ins : InsT K (cT K)
  insP : InsT K (cP K)
  insM : InsT K (cM K)
  kit : PySem.W.kitOne K (.ref (cT K)) (.ref (cS K)) = some true
  kitP : PySem.W.kitOne K (.ref (cP K)) (.ref (cS K)) = some true
  neT : PySem.W.findIn K (.ref (cT K)) "__ne__" = some (some (.builtin "object.__ne__"))
  sfM : PySem.W.selfFirst K (cM K) = true
  rd : CRead K (cS K) (.type "type")
  rdM : CRead K (cM K) (.type "type")
  cmS : CMet K (cM K) (.type "type") "same" (He.ma K (cM K) "same") (sameA K)
  ini : PySem.W.findCls K (.ref (cS K)) (.type "type") "__init__" = some (.val (.ref (He.fAd K ("Scale", some "__init__"))))
  fn : ∀ (i : Nat) (d : He.DefD), fnD[i]? = some d → ∃ fd, FunD K d.name d.qual d.params d.body d.scope (d.dvs K) (d.kws K) (He.fAd K d.at_) fd
  fnS : ∃ fd, FunD K sameD.name sameD.qual sameD.params sameD.body sameD.scope (sameD.dvs K) (sameD.kws K) (sameA K) fd
theorem env_of (X : K.In h) (G : h.Ns mainGlobals mg) (c : SaysK K) : EnvK K mg := by
  have c00 : (allB K && sameD.ok K) = true := congrArg (fun z : AlK => z.1) c
  have e1 : fnD.map (fun d => He.fnW K d.at_) = fnD.map He.DefD.val := congrArg (fun z : AlK => z.2.1) c
  have e2 : He5.fnA K (sameA K) = sameD.val := congrArg (fun z : AlK => z.2.2) c
  obtain ⟨c0, cs⟩ := He.ba c00
  obtain ⟨a1, c1⟩ := He.ba c0
  obtain ⟨a2, c2⟩ := He.ba c1
  obtain ⟨a3, c3⟩ := He.ba c2
  obtain ⟨a4, c4⟩ := He.ba c3
  obtain ⟨a5, c5⟩ := He.ba c4
  obtain ⟨a6, c6⟩ := He.ba c5
  obtain ⟨a7, c7⟩ := He.ba c6
  obtain ⟨a8, c8⟩ := He.ba c7
  obtain ⟨a9, c9⟩ := He.ba c8
  obtain ⟨a10, c10⟩ := He.ba c9
  obtain ⟨a11, c11⟩ := He.ba c10
  obtain ⟨ao, c12⟩ := He.ba c11
  obtain ⟨am, a12⟩ := He.ba c12
  have fa : ∀ (i : Nat) (f : He.Fa), fas[i]? = some f → f.ok K = true := fun i f hf => List.all_eq_true.mp a1 f (List.mem_of_getElem? hf)
  obtain ⟨i1, j1⟩ := He.ba a10
  obtain ⟨i2, j2⟩ := He.ba j1
  obtain ⟨i3, j3⟩ := He.ba j2
  obtain ⟨i4, j4⟩ := He.ba j3
  obtain ⟨i5, j5⟩ := He.ba j4
  obtain ⟨i6, j6⟩ := He.ba j5
  obtain ⟨i7, i8⟩ := He.ba j6
  obtain ⟨t1, t2⟩ := He.ba i3
  obtain ⟨p1, p2⟩ := He.ba i4
  obtain ⟨m1, m2⟩ := He.ba i5
  obtain ⟨o1, o2⟩ := He.ba a11
  obtain ⟨o2, o3⟩ := He.ba o2
  obtain ⟨n1, n2⟩ := He.ba ao
  obtain ⟨n2, n3⟩ := He.ba n2
  obtain ⟨n3, n4⟩ := He.ba n3
  obtain ⟨n4, n5⟩ := He.ba n4
  obtain ⟨n5, n6⟩ := He.ba n5
  have mM : ∀ m ∈ mthsM, Meth K (cM K) m (He.ma K (cM K) m) := fun m hm => He.meth_ok (List.all_eq_true.mp am m hm)
  have mc := mM "__call__" (by decide)
  have cc := He.cls_ok (fa 0 _ rfl)
  have ccP := He.cls_ok (fa 10 _ rfl)
  have ccM := He.cls_ok (fa 12 _ rfl)
  refine ⟨fun x hx => He.free_ok X G (List.all_eq_true.mp a2 x hx), fun x hx => He.glo_ok X G (List.all_eq_true.mp a3 x hx), fun m hm => He.meth_ok (List.all_eq_true.mp a4 m hm), fun m hm => He.meth_ok (List.all_eq_true.mp a5 m hm), mM,
    ⟨cc, fun f hf => He.noat_ok (List.all_eq_true.mp a6 f hf)⟩, ⟨ccP, fun f hf => He.noat_ok (List.all_eq_true.mp a7 f hf)⟩, ⟨ccP, fun f hf => He.noat_ok (List.all_eq_true.mp a8 f hf)⟩, ⟨ccM, fun f hf => He.noat_ok (List.all_eq_true.mp a9 f hf)⟩,
    He.mkr_ok (fa 1 _ rfl), He.mkr_ok (fa 11 _ rfl), He.mkr_ok (fa 13 _ rfl), ⟨mc.at_, mc.fn, i8⟩, He.str_ok X G (fa 2 _ rfl), He.int_ok X G (fa 3 _ rfl), He.int_ok X G (fa 4 _ rfl), He.int_ok X G (fa 5 _ rfl),
    He.glo_ok X G (fa 6 _ rfl), He.glo_ok X G (fa 7 _ rfl), He.glo_ok X G (fa 8 _ rfl), He.glo_ok X G (fa 9 _ rfl), ⟨cc, of_decide_eq_true t1, of_decide_eq_true i1, of_decide_eq_true i2, of_decide_eq_true t2⟩, ⟨ccP, of_decide_eq_true p1, of_decide_eq_true i1, of_decide_eq_true i2, of_decide_eq_true p2⟩, ⟨ccM, of_decide_eq_true m1, of_decide_eq_true i1, of_decide_eq_true i2, of_decide_eq_true m2⟩,
    of_decide_eq_true i6, of_decide_eq_true i7, of_decide_eq_true n1, n2, ⟨o1, of_decide_eq_true o2⟩, ⟨n3, of_decide_eq_true n4⟩, He5.cmet_of n5 n6, ?_, fun i d hd => ?_, He5.DefA.funD e2 cs⟩
  · split at o3
    · rename_i a ea
      rw [ea, of_decide_eq_true o3]
    · cases o3
  · have q : (fnD.map fun d => He.fnW K d.at_)[i]? = (fnD.map He.DefD.val)[i]? := by rw [e1]
    rw [List.getElem?_map, List.getElem?_map, hd] at q
    exact He.DefD.funD (Option.some.inj q) (List.all_eq_true.mp a12 d (List.mem_of_getElem? hd))
end
end K06

set_option Elab.async false
set_option linter.all false
set_option maxRecDepth 100000
set_option maxHeartbeats 8000000
/-! H4: what the head says makes each def's promise. -/
namespace K06
open PySem PySem.Spec PyProof.Rows L2 Evl J ClX StX S D
section
variable {P : Program} {w : World} {K : PySem.W.Frag} {mg : Str → Option Value} {h base : Heap}
theorem factsK {f : Addr} (X : K.In h) (G : h.Ns mainGlobals mg) (hfa : mg ("law" : Str) = some (.ref f)) (c : SaysK K) :
    ∃ fd : FuncData, (∀ (s : Shared) (v : Value), BindsTo s fd ⟨[v], []⟩ [("_law_script", v)]) ∧ ∀ base : Heap, FnOk P w K mg base CX0 11 f fd ["_law_script"] (spLaw K) := by
  have V : EnvK K mg := env_of X G c
  have T : Bl mg := ⟨V.fre _ (by decide), V.fre _ (by decide), V.fre _ (by decide), V.fre _ (by decide), V.fre _ (by decide), V.fre _ (by decide), V.fre _ (by decide)⟩
  have T2 : Bl2 mg := ⟨V.fre _ (by decide), V.sgn, V.lng, V.mst⟩
  have T3 : Bl3 mg := ⟨V.fre _ (by decide), V.fre _ (by decide), V.fre _ (by decide)⟩
  have cf : ClsF K (cT K) fldN := V.clf
  have cfP : ClsF K (cP K) fldN := V.clP
  obtain ⟨fd0, F0⟩ := V.fn 0 _ rfl
  obtain ⟨fd1, F1⟩ := V.fn 1 _ rfl
  obtain ⟨fd2, F2⟩ := V.fn 2 _ rfl
  obtain ⟨fd3, F3⟩ := V.fn 3 _ rfl
  obtain ⟨fd4, F4⟩ := V.fn 4 _ rfl
  obtain ⟨fd5, F5⟩ := V.fn 5 _ rfl
  obtain ⟨fd6, F6⟩ := V.fn 6 _ rfl
  obtain ⟨fd7, F7⟩ := V.fn 7 _ rfl
  obtain ⟨fd8, F8⟩ := V.fn 8 _ rfl
  obtain ⟨fd9, F9⟩ := V.fn 9 _ rfl
  obtain ⟨fd10, F10⟩ := V.fn 10 _ rfl
  obtain ⟨fd11, F11⟩ := V.fn 11 _ rfl
  obtain ⟨fd12, F12⟩ := V.fn 12 _ rfl
  obtain ⟨fd13, F13⟩ := V.fn 13 _ rfl
  obtain ⟨fd14, F14⟩ := V.fn 14 _ rfl
  obtain ⟨fd15, F15⟩ := V.fn 15 _ rfl
  obtain ⟨fd16, F16⟩ := V.fn 16 _ rfl
  obtain ⟨fd17, F17⟩ := V.fn 17 _ rfl
  obtain ⟨fd18, F18⟩ := V.fn 18 _ rfl
  obtain ⟨fd19, F19⟩ := V.fn 19 _ rfl
  obtain ⟨fd20, F20⟩ := V.fn 20 _ rfl
  obtain ⟨fd21, F21⟩ := V.fn 21 _ rfl
  obtain ⟨fd22, F22⟩ := V.fn 22 _ rfl
  obtain ⟨fd23, F23⟩ := V.fn 23 _ rfl
  obtain ⟨fd24, F24⟩ := V.fn 24 _ rfl
  obtain ⟨fd25, F25⟩ := V.fn 25 _ rfl
  obtain ⟨fd26, F26⟩ := V.fn 26 _ rfl
  obtain ⟨fd27, F27⟩ := V.fn 27 _ rfl
  obtain ⟨fd28, F28⟩ := V.fn 28 _ rfl
  obtain ⟨fd29, F29⟩ := V.fn 29 _ rfl
  obtain ⟨fd30, F30⟩ := V.fn 30 _ rfl
  obtain ⟨fd31, F31⟩ := V.fn 31 _ rfl
  obtain ⟨fd32, F32⟩ := V.fn 32 _ rfl
  obtain ⟨fd33, F33⟩ := V.fn 33 _ rfl
  obtain ⟨fd34, F34⟩ := V.fn 34 _ rfl
  obtain ⟨fd35, F35⟩ := V.fn 35 _ rfl
  obtain ⟨fd36, F36⟩ := V.fn 36 _ rfl
  obtain ⟨fd37, F37⟩ := V.fn 37 _ rfl
  obtain ⟨fd38, F38⟩ := V.fn 38 _ rfl
  obtain ⟨fd39, F39⟩ := V.fn 39 _ rfl
  obtain ⟨fd40, F40⟩ := V.fn 40 _ rfl
  obtain ⟨fd41, F41⟩ := V.fn 41 _ rfl
  obtain ⟨fd42, F42⟩ := V.fn 42 _ rfl
  obtain ⟨fd43, F43⟩ := V.fn 43 _ rfl
  obtain ⟨fd44, F44⟩ := V.fn 44 _ rfl
  obtain ⟨fd45, F45⟩ := V.fn 45 _ rfl
  obtain ⟨fd46, F46⟩ := V.fn 46 _ rfl
  obtain ⟨fd47, F47⟩ := V.fn 47 _ rfl
  obtain ⟨fd48, F48⟩ := V.fn 48 _ rfl
  obtain ⟨fd49, F49⟩ := V.fn 49 _ rfl
  obtain ⟨fd50, F50⟩ := V.fn 50 _ rfl
  obtain ⟨fd51, F51⟩ := V.fn 51 _ rfl
  obtain ⟨fd52, F52⟩ := V.fn 52 _ rfl
  obtain ⟨fd53, F53⟩ := V.fn 53 _ rfl
  obtain ⟨fd54, F54⟩ := V.fn 54 _ rfl
  obtain ⟨fd55, F55⟩ := V.fn 55 _ rfl
  obtain ⟨fd56, F56⟩ := V.fn 56 _ rfl
  obtain ⟨fd57, F57⟩ := V.fn 57 _ rfl
  obtain ⟨fd58, F58⟩ := V.fn 58 _ rfl
  obtain ⟨fd59, F59⟩ := V.fn 59 _ rfl
  obtain ⟨fd60, F60⟩ := V.fn 60 _ rfl
  obtain ⟨fd61, F61⟩ := V.fn 61 _ rfl
  obtain ⟨fd62, F62⟩ := V.fn 62 _ rfl
  obtain ⟨fd63, F63⟩ := V.fn 63 _ rfl
  obtain ⟨fd64, F64⟩ := V.fn 64 _ rfl
  obtain ⟨fdS, FSm⟩ := V.fnS
  have e := hfa.symm.trans (V.glo "law" (by decide))
  cases e
  have b := FunD.bindsA (ps := ["_law_script"]) F36 fun _ _ _ _ _ _ us hl => match us, hl with | [_], _ => rfl
  refine ⟨fd36, fun s v => b s [v] rfl, fun base => ?_⟩
  have mHas : MCal P w K mg base CX0 1 (cT K) "__contains__" ["self", "x"] (spHas K (cT K)) := ⟨_, _, cf.cl, V.met _ (by decide), FunD.bindsN F37 fun _ _ _ _ _ _ us hl => match us, hl with | [_, _], _ => rfl, ok_has F37 T cf⟩
  have mPl : MCal P w K mg base CX0 2 (cT K) "_place" ["self", "grade"] (spPlace K (cT K)) := ⟨_, _, cf.cl, V.met _ (by decide), FunD.bindsN F45 fun _ _ _ _ _ _ us hl => match us, hl with | [_, _], _ => rfl, ok_place F45 cf mHas⟩
  have mJ : MCal P w K mg base CX0 3 (cT K) "join" ["self", "a", "b"] (spJoin K (cT K) false) := ⟨_, _, cf.cl, V.met _ (by decide), FunD.bindsN F41 fun _ _ _ _ _ _ us hl => match us, hl with | [_, _, _], _ => rfl, ok_join F41 cf mPl⟩
  have mT : MCal P w K mg base CX0 3 (cT K) "then" ["self", "a", "b"] (spJoin K (cT K) true) := ⟨_, _, cf.cl, V.met _ (by decide), FunD.bindsN F42 fun _ _ _ _ _ _ us hl => match us, hl with | [_, _, _], _ => rfl, ok_then F42 cf mPl⟩
  have mG : MCal P w K mg base CX0 1 (cT K) "grades" ["self"] (spGrades K (cT K)) := ⟨_, _, cf.cl, V.met _ (by decide), FunD.bindsN F40 fun _ _ _ _ _ _ us hl => match us, hl with | [_], _ => rfl, ok_grades F40 T cf⟩
  have mU : MCal P w K mg base CX0 3 (cT K) "_put_together" ["self", "table", "row", "empty"] (spPut K (cT K)) := ⟨_, _, cf.cl, V.met _ (by decide), FunD.bindsN F46 fun _ _ _ _ _ _ us hl => match us, hl with | [_, _, _, _], _ => rfl, ok_put F46 cf mPl⟩
  have mJd : MCal P w K mg base CX0 4 (cT K) "joined" ["self", "row"] (spJoined K (cT K)) := ⟨_, _, cf.cl, V.met _ (by decide), FunD.bindsN F43 fun _ _ _ _ _ _ us hl => match us, hl with | [_, _], _ => rfl, ok_joined F43 cf mU⟩
  have mO : MCal P w K mg base CX0 3 (cT K) "only" ["self", "a", "b"] (spRes K (cT K) true) := ⟨_, _, cf.cl, V.met _ (by decide), FunD.bindsN F44 fun _ _ _ _ _ _ us hl => match us, hl with | [_, _, _], _ => rfl, ok_only F44 cf mPl⟩
  have mL : MCal P w K mg base CX0 1 (cT K) "__len__" ["self"] (spLen K (cT K)) := ⟨_, _, cf.cl, V.met _ (by decide), FunD.bindsN F38 fun _ _ _ _ _ _ us hl => match us, hl with | [_], _ => rfl, ok_len F38 T cf⟩
  have cW : Cal P w K mg base CX0 4 "within" ["scale", "a", "b"] (spWithin K (cT K)) := ⟨_, _, V.glo _ (by decide), F0.kp, FunD.bindsN F0 fun _ _ _ _ _ _ us hl => match us, hl with | [_, _, _], _ => rfl, ok_within F0 mJ⟩
  have cB : Cal P w K mg base CX0 5 "_grades_below" ["scale"] (spBelow K (cT K)) := ⟨_, _, V.glo _ (by decide), F3.kp, FunD.bindsN F3 fun _ _ _ _ _ _ us hl => match us, hl with | [_], _ => rfl, ok_below F3 mG cW⟩
  have cMr : Cal P w K mg base CX0 6 "_meet_rows" ["scale"] (spRowsOf K (cT K) false) := ⟨_, _, V.glo _ (by decide), F4.kp, FunD.bindsN F4 fun _ _ _ _ _ _ us hl => match us, hl with | [_], _ => rfl, ok_meetR F4 T mG cB mJd⟩
  have cOr : Cal P w K mg base CX0 6 "_only_rows" ["scale"] (spRowsOf K (cT K) true) := ⟨_, _, V.glo _ (by decide), F5.kp, FunD.bindsN F5 fun _ _ _ _ _ _ us hl => match us, hl with | [_], _ => rfl, ok_onlyR F5 T mG cB mT mJd⟩
  have FI := ok_init (P := P) (w := w) (base := base) F59 T cf cMr cOr
  have oE : OwnE P w K mg base 1 (cT K) (spSE K (cT K) (cT K)) := ⟨_, _, ok_se2 F39 T cf cf V.ins V.kit V.gS, (V.met "__eq__" (by decide)).at_, (V.met "__eq__" (by decide)).fn, FunD.bindsN F39 fun _ _ _ _ _ _ us hl => match us, hl with | [_, _], _ => rfl⟩
  have mHasp : MCal P w K mg base CX0 1 (cP K) "__contains__" ["self", "x"] (spHas K (cP K)) := ⟨_, _, cfP.cl, V.meP _ (by decide), FunD.bindsN F47 fun _ _ _ _ _ _ us hl => match us, hl with | [_, _], _ => rfl, ok_has F47 T cfP⟩
  have mPlp : MCal P w K mg base CX0 2 (cP K) "_place" ["self", "grade"] (spPlace K (cP K)) := ⟨_, _, cfP.cl, V.meP _ (by decide), FunD.bindsN F55 fun _ _ _ _ _ _ us hl => match us, hl with | [_, _], _ => rfl, ok_place F55 cfP mHasp⟩
  have mJp : MCal P w K mg base CX0 3 (cP K) "join" ["self", "a", "b"] (spJoin K (cP K) false) := ⟨_, _, cfP.cl, V.meP _ (by decide), FunD.bindsN F51 fun _ _ _ _ _ _ us hl => match us, hl with | [_, _, _], _ => rfl, ok_join F51 cfP mPlp⟩
  have mTp : MCal P w K mg base CX0 3 (cP K) "then" ["self", "a", "b"] (spJoin K (cP K) true) := ⟨_, _, cfP.cl, V.meP _ (by decide), FunD.bindsN F52 fun _ _ _ _ _ _ us hl => match us, hl with | [_, _, _], _ => rfl, ok_then F52 cfP mPlp⟩
  have mGp : MCal P w K mg base CX0 1 (cP K) "grades" ["self"] (spGrades K (cP K)) := ⟨_, _, cfP.cl, V.meP _ (by decide), FunD.bindsN F50 fun _ _ _ _ _ _ us hl => match us, hl with | [_], _ => rfl, ok_grades F50 T cfP⟩
  have mUp : MCal P w K mg base CX0 3 (cP K) "_put_together" ["self", "table", "row", "empty"] (spPut K (cP K)) := ⟨_, _, cfP.cl, V.meP _ (by decide), FunD.bindsN F56 fun _ _ _ _ _ _ us hl => match us, hl with | [_, _, _, _], _ => rfl, ok_put F56 cfP mPlp⟩
  have mJdp : MCal P w K mg base CX0 4 (cP K) "joined" ["self", "row"] (spJoined K (cP K)) := ⟨_, _, cfP.cl, V.meP _ (by decide), FunD.bindsN F53 fun _ _ _ _ _ _ us hl => match us, hl with | [_, _], _ => rfl, ok_joined F53 cfP mUp⟩
  have mOp : MCal P w K mg base CX0 3 (cP K) "only" ["self", "a", "b"] (spRes K (cP K) true) := ⟨_, _, cfP.cl, V.meP _ (by decide), FunD.bindsN F54 fun _ _ _ _ _ _ us hl => match us, hl with | [_, _, _], _ => rfl, ok_only F54 cfP mPlp⟩
  have mLp : MCal P w K mg base CX0 1 (cP K) "__len__" ["self"] (spLen K (cP K)) := ⟨_, _, cfP.cl, V.meP _ (by decide), FunD.bindsN F48 fun _ _ _ _ _ _ us hl => match us, hl with | [_], _ => rfl, ok_len F48 T cfP⟩
  have cWp : Cal P w K mg base CX0 4 "within" ["scale", "a", "b"] (spWithin K (cP K)) := ⟨_, _, V.glo _ (by decide), F0.kp, FunD.bindsN F0 fun _ _ _ _ _ _ us hl => match us, hl with | [_, _, _], _ => rfl, ok_within F0 mJp⟩
  have cBp : Cal P w K mg base CX0 5 "_grades_below" ["scale"] (spBelow K (cP K)) := ⟨_, _, V.glo _ (by decide), F3.kp, FunD.bindsN F3 fun _ _ _ _ _ _ us hl => match us, hl with | [_], _ => rfl, ok_below F3 mGp cWp⟩
  have cMrp : Cal P w K mg base CX0 6 "_meet_rows" ["scale"] (spRowsOf K (cP K) false) := ⟨_, _, V.glo _ (by decide), F4.kp, FunD.bindsN F4 fun _ _ _ _ _ _ us hl => match us, hl with | [_], _ => rfl, ok_meetR F4 T mGp cBp mJdp⟩
  have cOrp : Cal P w K mg base CX0 6 "_only_rows" ["scale"] (spRowsOf K (cP K) true) := ⟨_, _, V.glo _ (by decide), F5.kp, FunD.bindsN F5 fun _ _ _ _ _ _ us hl => match us, hl with | [_], _ => rfl, ok_onlyR F5 T mGp cBp mTp mJdp⟩
  have FIp := ok_init (P := P) (w := w) (base := base) F59 T cfP cMrp cOrp
  have oEp : OwnE P w K mg base 1 (cP K) (spSE K (cP K) (cP K)) := ⟨_, _, ok_se2 F49 T cfP cfP V.insP V.kitP V.gS, (V.meP "__eq__" (by decide)).at_, (V.meP "__eq__" (by decide)).fn, FunD.bindsN F49 fun _ _ _ _ _ _ us hl => match us, hl with | [_, _], _ => rfl⟩
  have bI : Binds K fd59 ["self", "grades", "joins", "products", "none", "nearest"] [] := FunD.bindsN F59 fun _ _ _ _ _ _ us hl => match us, hl with | [_, _, _, _, _, _], _ => rfl
  have cR : Cal P w K mg base CX0 1 "is_row" ["value"] (spIsRow K) := ⟨_, _, V.glo _ (by decide), F1.kp, FunD.bindsN F1 fun _ _ _ _ _ _ us hl => match us, hl with | [_], _ => rfl, ok_isRow F1 T⟩
  have cN : Cal P w K mg base CX0 1 "is_run" ["value"] spIsRun := ⟨_, _, V.glo _ (by decide), F2.kp, FunD.bindsN F2 fun _ _ _ _ _ _ us hl => match us, hl with | [_], _ => rfl, ok_isRun F2 T T2⟩
  have cU : Cal P w K mg base CX0 1 "_are_unlike" ["strings"] (spUnlike K) := ⟨_, _, V.glo _ (by decide), F7.kp, FunD.bindsN F7 fun _ _ _ _ _ _ us hl => match us, hl with | [_], _ => rfl, ok_unlike F7 T⟩
  have cCG : Cal P w K mg base CX0 2 "_check_grades" ["grades"] (spChG K) := ⟨_, _, V.glo _ (by decide), F6.kp, FunD.bindsN F6 fun _ _ _ _ _ _ us hl => match us, hl with | [_], _ => rfl, ok_chG F6 T T2 cR cN cU⟩
  have cCE : Cal P w K mg base CX0 1 "_check_entries" ["grades", "entries"] (spChE K) := ⟨_, _, V.glo _ (by decide), F9.kp, FunD.bindsN F9 fun _ _ _ _ _ _ us hl => match us, hl with | [_, _], _ => rfl, ok_chE F9⟩
  have cCR : Cal P w K mg base CX0 2 "_check_rows" ["grades", "rows"] (spChR K) := ⟨_, _, V.glo _ (by decide), F8.kp, FunD.bindsN F8 fun _ _ _ _ _ _ us hl => match us, hl with | [_, _], _ => rfl, ok_chR F8 T cR cCE⟩
  have FT := ok_tinit (P := P) (w := w) (base := base) F57 cCG cCR cCE V.gS V.rd V.ini F59.kp bI FI
  have hb : KBn K fd57 ["self", "grades", "joins", "products", "none", "nearest"] 4 ["none", "nearest"] (fun us ws => us ++ ws) (fun vs zs => vs ++ zs) := kbn0 F57 fun _ _ _ _ _ _ us ws h1 h2 => match us, ws, h1, h2 with | [_, _, _, _], [_, _], _, _ => rfl
  have cBe : Cal P w K mg base CX0 1 "_beside" ["a", "b"] spBes := ⟨_, _, V.glo _ (by decide), F14.kp, FunD.bindsN F14 fun _ _ _ _ _ _ us hl => match us, hl with | [_, _], _ => rfl, ok_bes F14⟩
  have FP := ok_pinit (P := P) (w := w) (base := base) F58 T cf cfP V.clL V.ins V.kit V.msp mL mG mJ mT cBe V.gS V.rd V.ini F59.kp bI FIp
  have hbP : Binds K fd58 ["self", "left", "right"] [] := FunD.bindsN F58 fun _ _ _ _ _ _ us hl => match us, hl with | [_, _, _], _ => rfl
  have hbM : Binds K fd60 ["self", "source", "target", "images"] [] := FunD.bindsN F60 fun _ _ _ _ _ _ us hl => match us, hl with | [_, _, _, _], _ => rfl
  have hbC : Binds K fd61 ["self", "grade"] [] := FunD.bindsN F61 fun _ _ _ _ _ _ us hl => match us, hl with | [_, _], _ => rfl
  have hbS : Binds K fd63 ["self", "other"] [] := FunD.bindsN F63 fun _ _ _ _ _ _ us hl => match us, hl with | [_, _], _ => rfl
  have hbE : Binds K fd64 ["self", "other"] [] := FunD.bindsN F64 fun _ _ _ _ _ _ us hl => match us, hl with | [_, _], _ => rfl
  have hbSm : Binds K fdS ["cls", "scale"] [] := FunD.bindsN FSm fun _ _ _ _ _ _ us hl => match us, hl with | [_, _], _ => rfl
  have FCt := ok_mc (P := P) (w := w) (base := base) F61 V.clM mHas
  have cFktt : Cal P w K mg base CX0 4 "_first_not_kept" ["source", "target", "leads"] (spFnk K (cT K) (cT K)) := ⟨_, _, V.glo _ (by decide), F10.kp, FunD.bindsN F10 fun _ _ _ _ _ _ us hl => match us, hl with | [_, _, _], _ => rfl, ok_fnk F10 cf cf mG mJ mT mJ mT⟩
  have cChtt : Cal P w K mg base CX0 2 "_choices" ["source", "target"] (spCh K (cT K) (cT K)) := ⟨_, _, V.glo _ (by decide), F11.kp, FunD.bindsN F11 fun _ _ _ _ _ _ us hl => match us, hl with | [_, _], _ => rfl, ok_ch F11 mG mG⟩
  have FMtt := ok_mi (P := P) (w := w) (base := base) F60 T V.clM cR mL mHas mG cFktt
  have cFktp : Cal P w K mg base CX0 4 "_first_not_kept" ["source", "target", "leads"] (spFnk K (cT K) (cP K)) := ⟨_, _, V.glo _ (by decide), F10.kp, FunD.bindsN F10 fun _ _ _ _ _ _ us hl => match us, hl with | [_, _, _], _ => rfl, ok_fnk F10 cf cfP mG mJ mT mJp mTp⟩
  have cChtp : Cal P w K mg base CX0 2 "_choices" ["source", "target"] (spCh K (cT K) (cP K)) := ⟨_, _, V.glo _ (by decide), F11.kp, FunD.bindsN F11 fun _ _ _ _ _ _ us hl => match us, hl with | [_, _], _ => rfl, ok_ch F11 mG mGp⟩
  have FMtp := ok_mi (P := P) (w := w) (base := base) F60 T V.clM cR mL mHasp mG cFktp
  have FCp := ok_mc (P := P) (w := w) (base := base) F61 V.clM mHasp
  have cFkpt : Cal P w K mg base CX0 4 "_first_not_kept" ["source", "target", "leads"] (spFnk K (cP K) (cT K)) := ⟨_, _, V.glo _ (by decide), F10.kp, FunD.bindsN F10 fun _ _ _ _ _ _ us hl => match us, hl with | [_, _, _], _ => rfl, ok_fnk F10 cfP cf mGp mJp mTp mJ mT⟩
  have cChpt : Cal P w K mg base CX0 2 "_choices" ["source", "target"] (spCh K (cP K) (cT K)) := ⟨_, _, V.glo _ (by decide), F11.kp, FunD.bindsN F11 fun _ _ _ _ _ _ us hl => match us, hl with | [_, _], _ => rfl, ok_ch F11 mGp mG⟩
  have FMpt := ok_mi (P := P) (w := w) (base := base) F60 T V.clM cR mLp mHas mGp cFkpt
  have cFkpp : Cal P w K mg base CX0 4 "_first_not_kept" ["source", "target", "leads"] (spFnk K (cP K) (cP K)) := ⟨_, _, V.glo _ (by decide), F10.kp, FunD.bindsN F10 fun _ _ _ _ _ _ us hl => match us, hl with | [_, _, _], _ => rfl, ok_fnk F10 cfP cfP mGp mJp mTp mJp mTp⟩
  have cChpp : Cal P w K mg base CX0 2 "_choices" ["source", "target"] (spCh K (cP K) (cP K)) := ⟨_, _, V.glo _ (by decide), F11.kp, FunD.bindsN F11 fun _ _ _ _ _ _ us hl => match us, hl with | [_, _], _ => rfl, ok_ch F11 mGp mGp⟩
  have FMpp := ok_mi (P := P) (w := w) (base := base) F60 T V.clM cR mLp mHasp mGp cFkpp
  have cAm : Cal P w K mg base CX0 7 "all_maps" ["source", "target"] (sAmC K (cT K) (cP K) (cM K)) := ⟨_, _, V.glo _ (by decide), F12.kp, FunD.bindsN F12 fun _ _ _ _ _ _ us hl => match us, hl with | [_, _], _ => rfl, fn_c (g := fun a => spC (cT K) (cP K) fun b => spAm K a b (cM K)) (fn_c (g := fun b => spAm K (cT K) b (cM K)) (ok_am F12 T V.mkM V.gM hbM FMtt cChtt cFktt) (ok_am F12 T V.mkM V.gM hbM FMtp cChtp cFktp)) (fn_c (g := fun b => spAm K (cP K) b (cM K)) (ok_am F12 T V.mkM V.gM hbM FMpt cChpt cFkpt) (ok_am F12 T V.mkM V.gM hbM FMpp cChpp cFkpp))⟩
  have FC := fn_c (g := fun a => spMC K a (cM K)) (FCt) (FCp)
  have mIm : MCal P w K mg base CX0 1 (cM K) "images" ["self"] (spImg K (cM K)) := ⟨_, _, V.clM.cl, V.meM _ (by decide), FunD.bindsN F62 fun _ _ _ _ _ _ us hl => match us, hl with | [_], _ => rfl, ok_img F62 T V.clM⟩
  have cKO : Cal P w K mg base CX0 4 "keeps_only" ["m"] (sKoC K (cT K) (cP K) (cM K)) := ⟨_, _, V.glo _ (by decide), F13.kp, FunD.bindsN F13 fun _ _ _ _ _ _ us hl => match us, hl with | [_], _ => rfl, fn_c (g := fun a => spC (cT K) (cP K) fun b => spKO K a b (cM K)) (fn_c (g := fun b => spKO K (cT K) b (cM K)) (ok_ko F13 V.clM V.cal hbC FCt mG mO mO) (ok_ko F13 V.clM V.cal hbC FCt mG mO mOp)) (fn_c (g := fun b => spKO K (cP K) b (cM K)) (ok_ko F13 V.clM V.cal hbC FCp mGp mOp mO) (ok_ko F13 V.clM V.cal hbC FCp mGp mOp mOp))⟩
  have oM : OwnE P w K mg base 2 (cM K) (sMeC K (cT K) (cP K) (cM K)) := ⟨_, _, fn_c (g := fun a => spC (cT K) (cP K) fun b => spME K a b (cM K)) (fn_c (g := fun b => spME K (cT K) b (cM K)) (ok_me F64 T V.clM V.insM V.gM oE oE) (ok_me F64 T V.clM V.insM V.gM oE oEp)) (fn_c (g := fun b => spME K (cP K) b (cM K)) (ok_me F64 T V.clM V.insM V.gM oEp oE) (ok_me F64 T V.clM V.insM V.gM oEp oEp)), (V.meM "__eq__" (by decide)).at_, (V.meM "__eq__" (by decide)).fn, hbE⟩
  have FSh := fn_c (g := fun a => spSh K a (cT K) (cT K) (cM K)) (ok_shr F63 T V.clM V.insM V.gM oE V.neT V.ins.hm V.mkM hbM FMtt) (ok_shr F63 T V.clM V.insM V.gM oE V.neT V.ins.hm V.mkM hbM FMpt)
  have FSa := fn_c (g := fun a => spSm K a (cM K)) (ok_same (P := P) (w := w) (mg := mg) (base := base) FSm V.mkM hbM FMtt mG) (ok_same (P := P) (w := w) (mg := mg) (base := base) FSm V.mkM hbM FMpp mGp)
  have cPen : Cal P w K mg base CX0 1 "_law_pen" ["_law_script"] (spPenC K) := ⟨_, _, V.glo _ (by decide), F15.kp, FunD.bindsN F15 fun _ _ _ _ _ _ us hl => match us, hl with | [_], _ => rfl, ok_penC F15 T⟩
  have cNx : Cal P w K mg base CX0 1 "_law_next" ["_law_pen_here"] spNext := ⟨_, _, V.glo _ (by decide), F16.kp, FunD.bindsN F16 fun _ _ _ _ _ _ us hl => match us, hl with | [_], _ => rfl, ok_next F16 T⟩
  have cDr : Cal P w K mg base CX0 2 "_law_draw" ["_law_pen_here", "_law_under"] spDrawC := ⟨_, _, V.glo _ (by decide), F17.kp, FunD.bindsN F17 fun _ _ _ _ _ _ us hl => match us, hl with | [_, _], _ => rfl, ok_draw F17 T cNx⟩
  have cSh : Cal P w K mg base CX0 3 "_law_shuffled" ["_law_pen_here", "_law_items"] (spShuf K) := ⟨_, _, V.glo _ (by decide), F18.kp, FunD.bindsN F18 fun _ _ _ _ _ _ us hl => match us, hl with | [_, _], _ => rfl, ok_shuf F18 T cDr⟩
  have cTS : Cal P w K mg base CX0 10 "_law_table_scale" ["_law_told_here"] (spTS K (cT K)) := ⟨_, _, V.glo _ (by decide), F25.kp, FunD.bindsN F25 fun _ _ _ _ _ _ us hl => match us, hl with | [_], _ => rfl, ok_ts F25 V.mkr V.gT hb FT⟩
  have cLv : Cal P w K mg base CX0 1 "_law_levels" ["_law_top"] (spLv K) := ⟨_, _, V.glo _ (by decide), F20.kp, FunD.bindsN F20 fun _ _ _ _ _ _ us hl => match us, hl with | [_], _ => rfl, ok_lv F20 T T3⟩
  have cOd : Cal P w K mg base CX0 1 "_law_odd" ["_law_k"] (spOd K) := ⟨_, _, V.glo _ (by decide), F22.kp, FunD.bindsN F22 fun _ _ _ _ _ _ us hl => match us, hl with | [_], _ => rfl, ok_od F22 T T3⟩
  have cCo : Cal P w K mg base CX0 1 "_law_costs" ["_law_top", "_law_stops"] (spCo K) := ⟨_, _, V.glo _ (by decide), F19.kp, FunD.bindsN F19 fun _ _ _ _ _ _ us hl => match us, hl with | [_, _], _ => rfl, ok_co F19 T T3⟩
  have cSe : Cal P w K mg base CX0 1 "_law_sets" ["_law_many"] (spSe K) := ⟨_, _, V.glo _ (by decide), F21.kp, FunD.bindsN F21 fun _ _ _ _ _ _ us hl => match us, hl with | [_], _ => rfl, ok_se F21 T T3⟩
  have cPl : Cal P w K mg base CX0 3 "_law_places" ["_law_pen_here", "_law_most"] (spPl K) := ⟨_, _, V.glo _ (by decide), F23.kp, FunD.bindsN F23 fun _ _ _ _ _ _ us hl => match us, hl with | [_, _], _ => rfl, ok_pl F23 cDr cOd cCo cLv cSe⟩
  have cTo : Cal P w K mg base CX0 4 "_law_told" ["_law_pen_here", "_law_places_here"] (spTo K) := ⟨_, _, V.glo _ (by decide), F24.kp, FunD.bindsN F24 fun _ _ _ _ _ _ us hl => match us, hl with | [_, _], _ => rfl, ok_to F24 T cSh⟩
  have cLj : Cal P w K mg base CX0 1 "_law_join" ["_law_told_here", "_law_a", "_law_b"] (spLJw K false) := ⟨_, _, V.glo _ (by decide), F26.kp, FunD.bindsN F26 fun _ _ _ _ _ _ us hl => match us, hl with | [_, _, _], _ => rfl, ok_lj F26⟩
  have cLt : Cal P w K mg base CX0 1 "_law_then" ["_law_told_here", "_law_a", "_law_b"] (spLJw K true) := ⟨_, _, V.glo _ (by decide), F27.kp, FunD.bindsN F27 fun _ _ _ _ _ _ us hl => match us, hl with | [_, _, _], _ => rfl, ok_lt F27⟩
  have cLw : Cal P w K mg base CX0 2 "_law_within" ["_law_told_here", "_law_a", "_law_b"] (spLW K) := ⟨_, _, V.glo _ (by decide), F28.kp, FunD.bindsN F28 fun _ _ _ _ _ _ us hl => match us, hl with | [_, _, _], _ => rfl, ok_lw F28 cLj⟩
  have cLd : Cal P w K mg base CX0 2 "_law_joined" ["_law_told_here", "_law_row"] (spLJd K) := ⟨_, _, V.glo _ (by decide), F29.kp, FunD.bindsN F29 fun _ _ _ _ _ _ us hl => match us, hl with | [_, _], _ => rfl, ok_ljd F29 cLj⟩
  have cLo : Cal P w K mg base CX0 3 "_law_only" ["_law_told_here", "_law_a", "_law_b"] (spLO K) := ⟨_, _, V.glo _ (by decide), F30.kp, FunD.bindsN F30 fun _ _ _ _ _ _ us hl => match us, hl with | [_, _, _], _ => rfl, ok_lo F30 cLt cLw cLd⟩
  have cBs : Cal P w K mg base CX0 1 "_law_beside" ["_law_first", "_law_last"] (spBs K) := ⟨_, _, V.glo _ (by decide), F31.kp, FunD.bindsN F31 fun _ _ _ _ _ _ us hl => match us, hl with | [_, _], _ => rfl, ok_bs F31 T⟩
  have cLe : Cal P w K mg base CX0 2 "_law_led" ["_law_source", "_law_target", "_law_images"] (spLed K) := ⟨_, _, V.glo _ (by decide), F32.kp, FunD.bindsN F32 fun _ _ _ _ _ _ us hl => match us, hl with | [_, _, _], _ => rfl, ok_led F32 T (V.fre _ (by decide)) (V.fre _ (by decide)) cLj cLt⟩
  have cRo : Cal P w K mg base CX0 1 "_law_rows_of" ["_law_names", "_law_many"] (spRo K) := ⟨_, _, V.glo _ (by decide), F33.kp, FunD.bindsN F33 fun _ _ _ _ _ _ us hl => match us, hl with | [_, _], _ => rfl, ok_ro F33 T⟩
  have cDu : Cal P w K mg base CX0 3 "_law_due" ["_law_source", "_law_target"] (spDue K) := ⟨_, _, V.glo _ (by decide), F34.kp, FunD.bindsN F34 fun _ _ _ _ _ _ us hl => match us, hl with | [_, _], _ => rfl, ok_due F34 T cRo cLe⟩
  have cUn : Cal P w K mg base CX0 4 "_law_unkept" ["_law_source", "_law_target", "_law_m"] (sUnC K (cT K) (cP K) (cM K)) := ⟨_, _, V.glo _ (by decide), F35.kp, FunD.bindsN F35 fun _ _ _ _ _ _ us hl => match us, hl with | [_, _, _], _ => rfl, fn_c (g := fun a => spUn K a (cM K)) (ok_un F35 V.cal hbC FCt cLo) (ok_un F35 V.cal hbC FCp cLo)⟩
  have ed : PySem.dunder Operator.RShift.info.2 = ("__rshift__" : Str) := by decide +kernel
  exact ok_law F36 T V.mkP V.gP V.gM hbP FP V.cal hbC FC cPen cDr cPl cTo cOd cTS cBs mL mLp mG mGp cAm mIm cDu cKO cUn FSh V.sfM (by rw [ed]; exact (V.meM "__rshift__" (by decide)).at_) (V.meM "__rshift__" (by decide)).fn hbS oM V.rdM V.cmS hbSm FSa
end
end K06

set_option Elab.async false
set_option linter.all false
set_option maxRecDepth 100000
set_option maxHeartbeats 8000000
open PySem PySem.W PySem.Calls PyProof.Rows
theorem PySem.Challenge.cw_neargrades_k06_all_maps_holds : PySem.Challenge.rw_neargrades_k06_all_maps.Holds := by
  w_on; o_law
  refine HandSHeadRun.head_any (r := K06.RK) (q := view K06.RK.prog [60]) (H := K06.hkK) (ob := K06.obK) (M := 14000) (loose := K06.loose) (d := HandSHeadRun.topDef K06.RK.prog 60) (kwd := []) K06.obK_eq
    (by kernel_rfl) (fun s => by kernel_rfl) K06.run (by kernel_rfl) (by kernel_rfl) (by kernel_rfl) (by rfl) (by first | assumption | decide +kernel) (by decide +kernel) ⟨rfl, rfl, rfl, rfl, rfl, by decide +kernel⟩ ?hw ?hc
  case hw => w_witness2
  case hc =>
    refine J.walk_G (l := PySem.Challenge.rw_neargrades_k06_all_maps) (n := 63) (k := 11) (x := "_law_script") (CX := L2.CX0) rfl (by decide) (by kernel_rfl) ⟨rfl, by decide, by decide⟩ ?F (fun _ _ _ _ z => z)
    intro w mg fa h Y G hmg0
    obtain ⟨K, KX, c⟩ := Y
    have hmg : mg ("law" : PySem.Str) = some (.ref fa) := by
      have e : (HandSHeadRun.topDef K06.RK.prog 60).name = ("law" : PySem.Str) := by kernel_rfl
      rw [← e]
      exact hmg0
    obtain ⟨fd, hb, hF⟩ := K06.factsK (P := PySem.Challenge.rw_neargrades_k06_all_maps.prog) (w := w) KX G hmg c
    exact ⟨K, fd, K06.spLaw K, KX, hb, fun H a ns hl _ hS => ⟨a, ns, rfl, hS, fun _ => rfl⟩, fun base _ _ => J.FnG.of (hF base)⟩


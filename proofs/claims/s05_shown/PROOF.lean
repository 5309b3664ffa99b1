import PyProof.Rows.All
import Wide.All
import OpenK.AllK
import Wide.FinOn
import PyProof.EqAt
import PyProof.EqKinds
import PyProof.TupleCall
import Open.SpecLaws
import KE.OsGo
import HandS.ForSpec
import HandS.ExcInit
import HandS.ExcField
import HandS.ClsMeth
import HandS.Wide
import HandS.WideBits
import HandS.Comp
import HandS.Iter
import HandS.Text
import HandS.Codes
import HandS.StrMore
import HandS.Walk
import PySem.Challenge.RW_outward_s05_shown
set_option Elab.async false
set_option linter.all false
set_option maxRecDepth 100000
set_option maxHeartbeats 4000000
namespace L2.NX
open PySem PySem.Spec PyProof.Rows
open PySem.Builtin PySem.Builtin.ObjectAttr

/-! ### own exception classes over Exception, one over another -/
abbrev exTl : List Value := [.type "Exception", .type "BaseException", .type "object"]
abbrev mroX (cs : List Addr) : List Value := cs.map Value.ref ++ exTl
theorem mroX_has (n : String) (cs : List Addr) : (mroX cs).contains (.type n) = exTl.contains (.type n) := by
  induction cs with
  | nil => rfl
  | cons c r ih => exact (show ((Value.ref c :: mroX r).contains (.type n)) = _ by rw [List.contains_cons, ih]; rfl)
theorem mroX_pass (me : Value) (cs : List Addr) : refuseLoop me "__setattr__" (mroX cs) = pure () := by
  induction cs with
  | nil => exact F.store_Exception.passes me
  | cons c r ih => exact (refuseLoop_ref me _ c (mroX r)).trans ih

section
variable {prog : Program} {w : World} {A : Around} {R : Result → Shared → Prop} {hp : Heap} {g : Array GenState} {d : Drawn} {t : Nat} {os : OsState}
/-- the first value that's stored on such an exception: its dict is made -/
theorem first_store {K : W.Frag} {nm : Str} {tk : Tok} {v : Value} {x C : Addr} {fv : Array Value} {cd : ClassData} {cs : List Addr}
    (KH : K.In hp) (at_x : hp.get? x = some { cls := .ref C, data := .fields fv }) (isC : W.clsIn K C = some cd) (mro : cd.mro = mroX cs) (hasD : cd.hasDict = true)
    (no : W.findIn K (.ref C) nm = some none)
    (fin : ∀ hq tk' dx, (∀ b o, b ≠ x → hp.get? b = some o → hq.get? b = some o) → hp.objs.size ≤ dx → dx ≠ x →
      hq.get? x = some { cls := .ref C, dict := some dx, data := .fields fv } → hq.Ns1 dx (fun y => if y = nm then some v else none) →
      R (.ok (.ret .none)) ⟨hq, g, d, tk', os⟩) :
    codeAny (model prog w) A (.call (.builtin "object.__setattr__") ⟨[.ref x, .str nm tk, v], []⟩) R ⟨hp, g, d, t, os⟩ := by
  have IA : W.InstAt hp x { cls := .ref C, data := .fields fv } C none := ⟨at_x, rfl, rfl, trivial⟩
  have SO := F.store_object
  have some_ : cd.mro.isEmpty = false := by rw [mro]; cases cs <;> rfl
  have over : cd.mro.contains (.type "object") = true := by
    rw [mro, mroX_has]
    decide +kernel
  have apart : x ≠ hp.objs.size := Nat.ne_of_lt (Heap.lt_size at_x)
  have inst : W.Looks (model prog w) hp (isInstance (.ref x) (.type "object")) true :=
    IA.type.andThen (W.looks_mroIn KH (show W.mroIn K C (.type "object") = some true from by
      unfold W.mroIn
      rw [isC, Option.bind_some, if_neg (by rw [some_]; decide), over]))
  refine codeAny_call_builtin SO.slot.plain SO.entry
    (@W.check_slot (model prog w) _ _ ⟨hp, g, d, t, os⟩ "object.__setattr__" "object" "__setattr__" (.ref x) [.str nm tk, v] [] _ SO.kind SO.split inst (SO.args (.ref x) (.str nm tk) v) ?_)
  have LM : W.Looks (model prog w) hp (mroOf (.ref C)) cd.mro := (W.looks_clsIn KH isC).andThen .now
  have LT : W.Looks (model prog w) hp (storeTaker? none) none := .now
  have LC : W.Looks (model prog w) hp (classData C) cd := W.looks_clsIn KH isC
  rw [W.osa_eq, refuse_eq]
  refine wpAny_bind (wpAny_bind (IA.type.at (wpAny_bind (LM.at ?_))))
  have pass_ : refuseLoop (.ref x) "__setattr__" cd.mro = pure () := by rw [mro]; exact mroX_pass _ cs
  rw [pass_]
  refine wpAny_pure (wpAny_bind (IA.type.at (wpAny_bind ((W.looks_findIn KH no).at (wpAny_bind (LT.at ?_))))))
  show wpAny _ _ (storeInOwnDict (.ref x) (.ref C) (.str nm tk) nm v false) _ _ _
  obtain ⟨c1, c2, c3, c4, c5, c6, c7, c8, c9, c10, c11⟩ := cd
  dsimp only at hasD
  subst hasD
  unfold storeInOwnDict ownDictForStores
  repeat (first
    | with_reducible refine HandSPX.store_in_new ?_ ?_
    | with_reducible refine wpAny_loadPart_at at_x ?_
    | with_reducible refine LC.at ?_
    | wp_step)
  · refine ⟨_, #[], _, (Heap.get?_update_ne _ _ _ _ apart.symm).trans (Heap.get?_push_at rfl rfl), rfl, ?_, fun _ => rfl⟩
    intro e he
    exact absurd he (by simp)
  · intro hq tk' nsq same
    have at_x' : (hp.push { cls := .type "dict", data := .dict #[] }).get? x = some { cls := .ref C, data := .fields fv } := Heap.get?_push_of_some _ at_x
    refine fin hq tk' hp.objs.size (fun b o hb ho => ?_) (Nat.le_refl _) apart.symm ?_ nsq
    · refine (same.2 b (Nat.ne_of_lt (Heap.lt_size ho))).trans ?_
      exact (Heap.get?_update_ne _ _ _ _ hb).trans (Heap.get?_push_of_some _ ho)
    · exact (same.2 x apart).trans (Heap.get?_update_self _ at_x' rfl)
end
end L2.NX
namespace L2.NX
open PySem PySem.Spec PyProof.Rows

/-- what the text says of the class at C, which is the refusal's class at R or stands under it -/
structure ExK (K : PySem.W.Frag) (R C : Addr) : Prop where
  cls : ∃ (nm q : Str) (N : Addr) (bs : List Value) (cs : List Addr) (sn : List Str) (sub : List Value) (ab : Bool) (col : Option Bool) (dd : Option Addr) (m0 m1 m2 m3 m5 : Option Value),
    K.lookup C = some (excClassObj nm q C N bs (mroX cs) true sn sub ab col dd m0 m1 m2 m3 m5 "Exception.__new__")
  sa : PySem.W.findIn K (.ref C) "__setattr__" = some (some (.builtin "object.__setattr__"))
  tyC : PySem.W.typeIn K (.ref C) = some (.type "type")
  kC : PySem.W.keepIn K (.ref C) = true
  na : PySem.W.findIn K (.ref C) "answer" = some none
  xf : XfC K C
  te : PySem.W.exmOne K (.ref C) (.ref R) = some true

section
variable {X : Cx} {pins : List (Addr × Obj)} {σ : St} {H : Hp} {s : Shared} {a R C : Addr} {f : Str} {y : V} {u : Value} {Q : Unit → Shared → Prop} {E : Value → Shared → Prop} {A : Around}
theorem put_first (T : ExK X.K R C) (I : Inv X pins σ H s) (at_a : H a = some (exo a C none)) (no : PySem.W.findIn X.K (.ref C) f = some none) (ry : RelV y u)
    (fin : ∀ dx s', H dx = none → dx ≠ a → Inv X pins σ (upd (upd H dx (exd dx [(f, y)])) a (exo a C (some dx))) s' → Q () s') :
    wpAny (model X.prog X.w) A (setAttr (.ref a) f u) Q E s := by
  obtain ⟨nm, q, N, bs, cs, sn, sub, ab, col, dd, m0, m1, m2, m3, m5, hC⟩ := T.cls
  have isC : PySem.W.clsIn X.K C = some { name := nm, bases := bs, mro := mroX (C :: cs), ns := N, qualname := q, hasDict := true, slotNames := sn, subclasses := sub, abstract := ab, collection := col, hasDel := false } := by
    unfold PySem.W.clsIn
    rw [hC]
    rfl
  obtain ⟨t1, obj⟩ := exo_at I.hok at_a
  obtain ⟨hp, g, d, t, os⟩ := s
  have IA : PySem.W.InstAt hp a { cls := .ref C, dict := none, data := .fields #[.ref t1, .none, .none, .none, .bool false, .none] } C none := ⟨obj, rfl, rfl, trivial⟩
  refine PySem.W.set_plain I.kIn IA T.sa ?_
  refine first_store I.kIn obj isC rfl rfl no (fun hq tk' dx kept big dne at_x nsq => ?_)
  have free_d : H dx = none := I.hok.fresh big
  have not_d : ∀ {b : Addr} {o : Obj}, hp.get? b = some o → b ≠ dx := fun z => Nat.ne_of_lt (Nat.lt_of_lt_of_le (Heap.lt_size z) big)
  have not_a : ∀ {b : Addr}, H b = none → b ≠ a := by
    intro b n z
    subst z
    rw [at_a] at n
    cases n
  have U : Un X.fs [] H (upd (upd H dx (exd dx [(f, y)])) a (exo a C (some dx))) hp hq :=
    { keep := fun b o z n _ _ => kept b o (not_a n) z
      slot := fun b o z n _ _ => ⟨o.slots, kept b o (not_a n) z⟩
      free := fun b o z n _ => by
        rw [upd_ne (not_a n), upd_ne (not_d z)]
        exact n
      there := fun b o z _ => by
        by_cases hb : b = a
        · subst hb
          exact ⟨_, at_x⟩
        · exact ⟨o, kept b o hb z⟩
      tups := fun b xs z => by
        rw [upd_ne (at_ne at_a z exo_tup), upd_ne (ne_of_none z free_d)]
        exact z
      frzs := fun b o v z => by
        rw [upd_ne (at_ne at_a z exo_frz), upd_ne (ne_of_none z free_d)]
        exact z
      tbls := fun b ps z => ⟨#[], by
        rw [upd_ne (at_ne at_a z exo_tbl), upd_ne (ne_of_none z free_d), z]
        simp⟩ }
  refine fin dx _ free_d dne (I.un (t' := tk') U fun b o z => ?_)
  by_cases hb : b = a
  · subst hb
    rw [upd_same] at z
    cases z
    exact exo_ok at_x
  rw [upd_ne hb] at z
  by_cases hd : b = dx
  · subst hd
    rw [upd_same] at z
    cases z
    exact exd_ok nsq (relO_put (fs := []) ry fun _ => True.intro)
  rw [upd_ne hd] at z
  refine (I.hok b o z).stay (fun c v hc k => kept c v ?_ k) (fun c hc => ?_) (fun c xs hc => ?_)
  · rcases hc with hc | hc
    · subst hc
      exact hb
    · exact at_ne at_a hc exo_own
  · rw [upd_ne (at_ne at_a hc exo_own), upd_ne (ne_of_none hc free_d)]
    exact hc
  · rw [upd_ne (at_ne at_a hc exo_tup), upd_ne (ne_of_none hc free_d)]
    exact hc
end

/-! ### the rules -/
/-- self.f = e, self an exception that is being made, the first value -/
def tPut (K : PySem.W.Frag) (R : Addr) (f : Str) (to te : TE) : TS := fun D σ H => te σ H fun y H1 => to σ H1 fun x H2 =>
  ∃ a C : Addr, x = .ref a ∧ ExK K R C ∧ PySem.W.findIn K (.ref C) f = some none ∧ H2 a = some (exo a C none) ∧
    ∀ dx, H2 dx = none → dx ≠ a → D.nx σ (upd (upd H2 dx (exd dx [(f, y)])) a (exo a C (some dx)))
/-- C(..), an exception's class, by its own __init__ -/
def tMkX (C : Addr) (sp : Sp) (ta : TA) : St → Hp → XK → Prop := fun σ H Q => ta σ H fun vs H1 => vs.length ≤ 1000 ∧ ∀ a, H1 a = none → sp (.ref a :: vs) (upd H1 a (exo a C none))
  (fun v H2 => v = .non ∧ ∃ (d : Addr) (fs : List (Str × V)), H2 a = some (exo a C (some d)) ∧ H2 d = some (exd d fs) ∧ H1 d = none ∧ Q (.ref C) (some d) (upd (del H2 a) d (.xd fs))) (fun _ _ _ => False)
section
variable {X : Cx} {o e : Expr} {es : List Expr} {to te : TE} {ta : TA} {f : Str} {p p' p1 p2 pos : Pos} {R : Addr}
theorem ps_put (ho : PE X o to) (he : PE X e te) (hs : swapsWith e (some (.Attribute o f p')) pos.line X.env = pure false := by rfl) : PS X (.Assign [.Attribute o f p'] e pos) (tPut X.K R f to te) := by
  refine ⟨fun pins s σ H D I h => ?_⟩
  refine plainObj_wpAny_Assign_Attribute (thn (he.run pins s σ H _ I h) fun v s1 x1 => ?_) hs
  obtain ⟨y, H1, I1, r1, q1⟩ := x1
  refine thn (ho.run pins s1 σ H1 _ I1 q1) fun u s2 x2 => ?_
  obtain ⟨x, H2, I2, r2, a, C, ex, T, hno, ea, q⟩ := x2
  subst ex
  obtain rfl : u = Value.ref a := r2
  exact put_first T I2 ea hno r1 fun dx s' n ne J => ⟨σ, _, J, q dx n ne⟩

variable {CX : CXT} {C fI : Addr} {k : Nat} {fd : FuncData} {ps : List Str} {sp : Sp}
theorem run_mkX {pins : List (Addr × Obj)} {σ : St} {H1 : Hp} {s1 : Shared} {Q : XK} {us : List Value} {vs : List V} (T : ExK X.K R C) (iC : PySem.W.findIn X.K (.ref C) "__init__" = some (some (.ref fI))) (tI : PySem.W.typeIn X.K (.ref fI) = some (.type "function"))
    (F1 : FnOk X.prog X.w X.K X.mg X.base CX k fI fd ps sp) (hr : Room (k + 1) X.A) (hb : Binds X.K fd ps []) (hx : Passes CX X (fun _ _ _ => False)) (I1 : Inv X pins σ H1 s1) (r1 : Vals vs us) (few : vs.length ≤ 1000)
    (q1 : ∀ a, H1 a = none → sp (.ref a :: vs) (upd H1 a (exo a C none))
      (fun v H2 => v = .non ∧ ∃ (d : Addr) (fs : List (Str × V)), H2 a = some (exo a C (some d)) ∧ H2 d = some (exd d fs) ∧ H1 d = none ∧ Q (.ref C) (some d) (upd (del H2 a) d (.xd fs))) (fun _ _ _ => False)) :
    wpAny (model X.prog X.w) X.A (call (.ref C) us) (MkP X pins σ Q) X.xe s1 := by
  obtain ⟨nm, q, N, bs, cs, sn, sub, ab, col, dd, m0, m1, m2, m3, m5, hC⟩ := T.cls
  obtain ⟨hp, g, dr, tk, os⟩ := s1
  have big : hp.objs.size ≤ hp.objs.size + 1 := Nat.le_succ _
  have new := q1 (hp.objs.size + 1) (I1.hok.fresh big)
  have kept : ∀ b o, hp.get? b = some o → ((hp.push (PySem.W.kdv_tup us)).push (PySem.HandSPX.excO C hp.objs.size)).get? b = some o :=
    fun b o e => Heap.get?_push_of_some _ (Heap.get?_push_of_some _ e)
  have there : ((hp.push (PySem.W.kdv_tup us)).push (PySem.HandSPX.excO C hp.objs.size)).get? (hp.objs.size + 1) = some (PySem.HandSPX.excO C hp.objs.size) := by heap_get
  have I2 := I1.laid (t' := tk) (a := hp.objs.size + 1) (o := exo (hp.objs.size + 1) C none) (h' := (hp.push (PySem.W.kdv_tup us)).push (PySem.HandSPX.excO C hp.objs.size)) kept big (exo_ok there)
  have r2 : Vals (V.ref (hp.objs.size + 1) :: vs) (Value.ref (hp.objs.size + 1) :: us) := .cons rfl r1
  have len2 : (Value.ref (hp.objs.size + 1) :: us ++ []).length = ps.length := by
    have z := r2.length
    rw [F1.len _ _ _ _ new] at z
    rw [List.append_nil]
    exact z.symm
  have short : us.length ≤ sizeLine := by
    rw [← Paired.length r1, sizeLine_eq]
    omega
  have bound := hb _ (Value.ref (hp.objs.size + 1) :: us) I2.kIn len2
  rw [List.append_nil] at bound
  have ran := F1.run _ X.stack _ _ ⟨Value.ref (hp.objs.size + 1) :: us, []⟩ (Value.ref (hp.objs.size + 1) :: us) _ _ (fun _ _ _ => False) (hr.make C us []) (I2.env0.make C us []) bound r2 new
  refine wpAny_call (PySem.HandSPX.call_own F.excBase_Exception (fun n => mroX_has n cs) (I1.kIn _ _ hC) (PySem.W.looks_findIn I1.kIn iC) (fun self => PySem.W.bind_fn I1.kIn self tI) short (codeAny_mono ran fun r s' hq => ?_))
  cases r with
  | error er => exact hx pins σ _ _ er s' I2 hq
  | ok fl =>
    cases fl with
    | next => exact False.elim hq
    | brk => exact False.elim hq
    | cont => exact False.elim hq
    | ret u =>
      obtain ⟨v, H2, os2, bare2, un2, hok2, rv, ev, d, fs, ea, ed, hd1, q2⟩ := hq
      subst ev
      obtain ⟨h2, g2, d2, t2, os'⟩ := s'
      exact ⟨rv, mk_end (raises_own T.xf.exC T.tyC) I1 big kept un2 hok2 os2 bare2 ea ed hd1 q2⟩
theorem pmk_x {x : Str} (T : ExK X.K R C) (iC : PySem.W.findIn X.K (.ref C) "__init__" = some (some (.ref fI))) (tI : PySem.W.typeIn X.K (.ref fI) = some (.type "function"))
    (F1 : FnOk X.prog X.w X.K X.mg X.base CX k fI fd ps sp) (hr : Room (k + 1) X.A) (hb : Binds X.K fd ps []) (hx : Passes CX X (fun _ _ _ => False)) (hg : Gl X x) (hm : X.mg x = some (.ref C)) (ha : PA X (e :: es) ta)
    (hdb : (x == ("__debug__" : Str)) = false := by decide) (he : starEach (e :: es) X.env = (false, eval e X.env) :: starEach es X.env := by rfl) (hpl : (backTo pos (starEach es X.env)).any (·.1) = false := by rfl) :
    PMk X (.Call (.Name x p) (e :: es) [] pos) (tMkX C sp ta) := by
  intro pins s σ H Q I h
  refine wpAny_Call_Name_kw (ld_glob I hg hm ?_ hdb)
  refine PySem.W.callWith_K (h₀ := X.base) I.ok.mod.kin T.kC (thn (ha.run pos pins s σ H _ I h) fun us s1 z => ?_) he hpl
  obtain ⟨vs, H1, I1, r1, few, q1⟩ := z
  exact ⟨I1.kIn, run_mkX T iC tI F1 hr hb hx I1 r1 few q1⟩
theorem pmk_x0 {x : Str} (T : ExK X.K R C) (iC : PySem.W.findIn X.K (.ref C) "__init__" = some (some (.ref fI))) (tI : PySem.W.typeIn X.K (.ref fI) = some (.type "function"))
    (F1 : FnOk X.prog X.w X.K X.mg X.base CX k fI fd ps sp) (hr : Room (k + 1) X.A) (hb : Binds X.K fd ps []) (hx : Passes CX X (fun _ _ _ => False)) (hg : Gl X x) (hm : X.mg x = some (.ref C))
    (hdb : (x == ("__debug__" : Str)) = false := by decide) : PMk X (.Call (.Name x p) [] [] pos) (tMkX C sp tNil) := by
  intro pins s σ H Q I h
  refine wpAny_Call_Name_kw (ld_glob I hg hm ?_ hdb)
  obtain ⟨few, q1⟩ := h
  exact PySem.W.callWith_K0 I.kIn T.kC (run_mkX (us := []) T iC tI F1 hr hb hx I .nil few q1)

/-- C.m(..), C a class of one's own, m a plain def of it -/
theorem pe_own {x m : Str} {f : Addr} {mc : Value} {E : XK} {pl : Sem Bool} (hg : Gl X x) (hm : X.mg x = some (.ref C)) (rd : ClX.CRead X.K C mc) (cv : ClX.CVal X.K C mc m (.ref f) (.ref f)) (kf : PySem.W.keepIn X.K (.ref f) = true)
    (F : FnOk X.prog X.w X.K X.mg X.base CX k f fd ps sp) (hr : Room k X.A) (hb : Binds X.K fd ps []) (hx : Passes CX X E) (ha : PA X (e :: es) ta) (hdb : (x == ("__debug__" : Str)) = false := by decide)
    (hst : starEach (e :: es) X.env = (false, eval e X.env) :: starEach es X.env := by rfl) (hpl : (backTo pos (starEach es X.env)).any (·.1) = false := by rfl)
    (ht : eval (.Call (.Attribute (.Name x p1) m p2) (e :: es) [] pos) X.env = (do
      let ov ← eval (.Name x p1) X.env
      standAt p2.atName
      let (f, first) ← holding [ov] (getMethod ov m pl)
      callWith pos f first (backTo pos (starEach (e :: es) X.env)) (backToKw pos (keywordEach [] X.env))) := by rfl) :
    PE X (.Call (.Attribute (.Name x p1) m p2) (e :: es) [] pos) (tCall sp [] E ta) := by
  refine ⟨fun pins s σ H Q I h => ?_⟩
  refine PySem.W.methodCall_KW (pl := pl) (ld_glob I hg hm ?_ hdb) ht
  refine PySem.W.method_cls I.kIn rd.ga (ClX.getcval_ok I rd cv fun s1 I1 => ?_)
  refine PySem.W.callWith_K (first := []) (h₀ := X.base) I.ok.mod.kin kf (thn (ha.run pos pins s1 σ H _ I1 h) fun us s2 z => ?_) hst hpl
  obtain ⟨vs, H2, I2, r, q⟩ := z
  exact ⟨I2.kIn, run_fn (dvs := []) (ds := []) F hr hb .nil hx I2 r q⟩
end
/-- err.f in an except suite, whichever class it is of -/
def tXfA (K : PySem.W.Frag) (a : Addr) (cls : Value) (d : Option Addr) (f : Str) (te : TE) : TE := fun σ H Q => te σ H fun x H1 => x = .ref a ∧
  ∃ (C : Addr), cls = .ref C ∧ XfC K C ∧ PySem.W.findIn K (.ref C) f = some none ∧ ∃ (dd : Addr) (fs : List (Str × V)) (v : V), d = some dd ∧ H1 dd = some (.xd fs) ∧ fs.lookup f = some v ∧ Q v H1
theorem pe_xfA {X : Cx} {a : Addr} {oe : Obj} {cls : Value} {d : Option Addr} {pn : List (Addr × Obj)} {e : Expr} {te : TE} {pos : Pos} {n : Str}
    (hz : Zc cls d oe) (hf : ∃ vs, oe.data = .fields vs) (he : PE (X.suite a ((a, oe) :: pn)) e te) (hb : attributeBase e n X.env (eval e X.env) = eval e X.env := by rfl) :
    PE (X.suite a ((a, oe) :: pn)) (.Attribute e n pos) (tXfA X.K a cls d n te) := by
  refine ⟨fun pins s σ H Q I h => ?_⟩
  refine attr_of hb (thn (he.run pins s σ H _ I h) fun u s1 z => ?_)
  obtain ⟨x, H1, I1, rx, ex, C, ec, T, hno, dd, fs, v, ed, ea, l, q⟩ := z
  subst ex ec ed
  obtain rfl : u = Value.ref a := rx
  obtain ⟨pinned, _⟩ := I1.pin (a, oe) (List.mem_append_left _ List.mem_cons_self)
  obtain ⟨vs, hd⟩ := hf
  obtain ⟨mA, hns, rel⟩ := (show ObjOk X.prog X.w H1 s1.heap dd (.xd fs) from I1.hok dd _ ea)
  obtain ⟨od, at_d, look⟩ := lookIn_ns hns
  have found := rel n
  rw [l] at found
  obtain ⟨u, hu, ru⟩ := RelO.some_of (v := v) (o := mA n) found
  have J : PySem.W.InstAt s1.heap a oe C (some od) := ⟨pinned, hz.1, by unfold PySem.W.notCls; rw [hd] <;> rfl, by rw [hz.2]; exact at_d⟩
  have own : PySem.W.findObj X.K C (some od) n = some (.value u) := PySem.W.findObj_own T.hdC hno rfl (by rw [look, hu])
  exact HandSPX.exc_get I1.kIn J T.ga T.gg T.exC own (handed_of ru) ⟨v, H1, I1.tok _, ru, q⟩
end L2.NX
namespace L2.NX
open PySem PySem.Spec PyProof.Rows

/-- the statics don't set a limit on an int's digits -/
def NoDig (K : PySem.W.Frag) : Prop := PySem.W.nsIn K cStatics "sys.int_max_str_digits" = some none
theorem noDig_of {K : PySem.W.Frag} {h : Heap} (KH : K.In h) (st : h.NoLimit) (e : NoDig K) : h.NoDigits := by
  obtain ⟨mc, hns, _⟩ := st
  refine ⟨mc, hns, ?_⟩
  obtain ⟨o, es, ep, at_o, isD, _, finds⟩ := hns
  unfold NoDig PySem.W.nsIn at e
  split at e
  · rename_i c2 d2 es2 n2 sl2 look
    have same := KH _ _ look
    rw [at_o] at same
    cases same
    cases isD
    split at e
    · cases e
    · rename_i hq
      rw [← finds]
      unfold nsFind findBy
      rw [← Array.find?_toList, hq]
      rfl
  · cases e
section
variable {X : Cx}
/-- str(n), n of fewer than 4,300 digits -/
theorem call_strB (nd : NoDig X.K) (hh : X.A.handled = none) : CallR X (.type "str") (fun xs H Q => ∃ i : Int, xs = [.int i] ∧ i.natAbs < 10 ^ 4300 ∧ Q (.str (toString i)) H) := by
  intro pins s σ H xs us Q I r h
  obtain ⟨i, rfl, small, q⟩ := h
  obtain ⟨u, rfl, t, rfl⟩ := vals1 r
  exact str_of_int_or hh (noDig_of I.kIn I.nolimit nd) (fun _ => ⟨.str _, H, I.tok _, ⟨_, rfl⟩, q⟩) (fun z => absurd small (Nat.not_lt.mpr z))
end
end L2.NX
namespace NXM
open EbNum
/-! Mathematics of reading: digits, numbers, parts. Plain Lean over the specification. -/
theorem number_app (a b : List UInt8) : number (a ++ b) = number a * 10 ^ b.length + number b := by
  unfold number
  rw [List.foldl_append]
  generalize List.foldl (fun (n : Nat) (c : UInt8) => 10 * n + (c.toNat - 48)) 0 a = x
  have key : ∀ (b : List UInt8) (x : Nat), b.foldl (fun (n : Nat) (c : UInt8) => 10 * n + (c.toNat - 48)) x = x * 10 ^ b.length + b.foldl (fun (n : Nat) (c : UInt8) => 10 * n + (c.toNat - 48)) 0 := by
    intro b
    induction b with
    | nil => intro x; simp
    | cons c r ih =>
      intro x
      rw [List.foldl_cons, List.foldl_cons, ih, ih (10 * 0 + (c.toNat - 48)), List.length_cons, Nat.pow_succ]
      rw [Nat.add_mul, Nat.add_mul, Nat.add_assoc]
      congr 1
      · rw [Nat.mul_comm 10 x, Nat.mul_assoc, Nat.mul_comm 10]
      · simp
  exact key b x
theorem number_one (c : UInt8) : number [c] = c.toNat - 48 := by simp [number]
theorem number_snoc (a : List UInt8) (c : UInt8) : number (a ++ [c]) = number a * 10 + (c.toNat - 48) := by
  rw [number_app, number_one]
  simp
theorem number_lt : ∀ (a : List UInt8), (∀ c ∈ a, isDigit c = true) → number a < 10 ^ a.length := by
  intro a
  suffices h : ∀ n, a.length = n → (∀ c ∈ a, isDigit c = true) → number a < 10 ^ n from h _ rfl
  intro n
  induction n generalizing a with
  | zero =>
    intro h _
    have : a = [] := List.eq_nil_of_length_eq_zero h
    subst this
    decide
  | succ n ih =>
    intro h d
    have ne : a ≠ [] := by intro z; subst z; simp at h
    obtain ⟨b, c, rfl⟩ : ∃ b c, a = b ++ [c] := ⟨a.dropLast, a.getLast ne, (List.dropLast_concat_getLast ne).symm⟩
    have hb : b.length = n := by simpa using h
    have x := ih b hb (fun y hy => d y (List.mem_append_left _ hy))
    have dc := d c (List.mem_append_right _ (List.mem_singleton.mpr rfl))
    rw [number_snoc, Nat.pow_succ]
    unfold isDigit at dc
    simp at dc
    omega
theorem takeWhile_digits (s : List UInt8) : ∀ c ∈ s.takeWhile isDigit, isDigit c = true := by
  induction s with
  | nil => simp
  | cons c r ih =>
    intro x hx
    rw [List.takeWhile_cons] at hx
    split at hx
    · rename_i h
      rcases List.mem_cons.mp hx with e | m
      · subst e; exact h
      · exact ih x m
    · simp at hx
/-- the digits that stand at p -/
def dig (t : List UInt8) (p : Nat) : List UInt8 := (t.drop p).takeWhile isDigit
theorem dig_get {t : List UInt8} {p i : Nat} (h : i < (dig t p).length) : ∃ c, t[p + i]? = some c ∧ (dig t p)[i]? = some c ∧ isDigit c = true := by
  have pre : (dig t p) <+: t.drop p := List.takeWhile_prefix _
  have e : (dig t p)[i]? = some (dig t p)[i] := List.getElem?_eq_getElem h
  refine ⟨(dig t p)[i], ?_, e, takeWhile_digits _ _ (List.getElem_mem h)⟩
  have := List.prefix_iff_getElem?.mp pre i h
  rw [List.getElem?_drop] at this
  exact this
theorem dig_end {t : List UInt8} {p : Nat} : match t[p + (dig t p).length]? with | some c => isDigit c = false | none => True := by
  have key : ∀ (u : List UInt8), match u[(u.takeWhile isDigit).length]? with | some c => isDigit c = false | none => True := by
    intro u
    induction u with
    | nil => simp
    | cons c r ih =>
      rw [List.takeWhile_cons]
      by_cases h : isDigit c = true
      · rw [if_pos h]
        simpa using ih
      · rw [if_neg h]
        simpa using h
  have := key (t.drop p)
  rw [List.getElem?_drop] at this
  exact this
theorem dig_len {t : List UInt8} {p : Nat} : (dig t p).length ≤ t.length - p := by
  have pre : (dig t p) <+: t.drop p := List.takeWhile_prefix _
  have := pre.length_le
  rwa [List.length_drop] at this
theorem number_take {t : List UInt8} {p i : Nat} {c : UInt8} (h : (dig t p)[i]? = some c) : number ((dig t p).take (i + 1)) = number ((dig t p).take i) * 10 + (c.toNat - 48) := by
  rw [List.take_add_one, h]
  exact number_snoc _ _
theorem num_small {t : List UInt8} {p i : Nat} (h : i ≤ 1300) : number ((dig t p).take i) < 10 ^ 1300 := by
  have z := number_lt ((dig t p).take i) (fun c hc => takeWhile_digits _ c (List.mem_of_mem_take hc))
  refine Nat.lt_of_lt_of_le z (Nat.pow_le_pow_right (by decide) ?_)
  rw [List.length_take]
  omega
set_option exponentiation.threshold 5000 in
theorem ten1300 : 10 ^ 1300 < 2 ^ 4320 := by decide +kernel
end NXM
set_option exponentiation.threshold 5000
namespace NXM
open EbNum
theorem rat_mk (n d : Nat) : ((n : Nat) : Rat) / ((d : Nat) : Rat) = mkRat n d := by
  rw [Rat.mkRat_eq_div, Rat.intCast_natCast]
theorem rat_num (n : Nat) : ((n : Nat) : Rat).num = n := by simp
theorem rat_den (n : Nat) : ((n : Nat) : Rat).den = 1 := by simp
section
variable {t : List UInt8} {p : Nat}
theorem part_eq : partAt p (t.drop p) =
    if dig t p = [] then .error p
    else if DIGITS < (dig t p).length then .error (p + DIGITS)
    else match t.drop (p + (dig t p).length) with
      | 46 :: u =>
        if u.takeWhile isDigit = [] then .error (p + (dig t p).length + 1)
        else if DIGITS < (u.takeWhile isDigit).length then .error (p + (dig t p).length + 1 + DIGITS)
        else .ok (((number (dig t p ++ u.takeWhile isDigit) : Nat) : Rat) / ((10 ^ (u.takeWhile isDigit).length : Nat) : Rat), u.drop (u.takeWhile isDigit).length)
      | 47 :: u =>
        if u.takeWhile isDigit = [] then .error (p + (dig t p).length + 1)
        else if DIGITS < (u.takeWhile isDigit).length then .error (p + (dig t p).length + 1 + DIGITS)
        else if number (u.takeWhile isDigit) = 0 then .error (p + (dig t p).length + 1)
        else .ok (((number (dig t p) : Nat) : Rat) / ((number (u.takeWhile isDigit) : Nat) : Rat), u.drop (u.takeWhile isDigit).length)
      | _ => .ok (((number (dig t p) : Nat) : Rat), t.drop (p + (dig t p).length)) := by
  rw [← List.drop_drop]
  rfl
theorem drop_at {k : Nat} {c : UInt8} (h : t[k]? = some c) : t.drop k = c :: t.drop (k + 1) := by
  obtain ⟨lt, e⟩ := List.getElem?_eq_some_iff.mp h
  rw [List.drop_eq_getElem_cons lt, e]
theorem part_none (h : dig t p = []) : partAt p (t.drop p) = .error p := by
  rw [part_eq, if_pos h]
theorem part_many (h : 1300 < (dig t p).length) : partAt p (t.drop p) = .error (p + 1300) := by
  rw [part_eq, if_neg (fun z => by rw [z] at h; simp at h), if_pos (show DIGITS < _ from h)]
  rfl
variable (h0 : dig t p ≠ []) (h1 : (dig t p).length ≤ 1300)
include h0 h1
theorem part_pt_none (h : t[p + (dig t p).length]? = some 46) (b0 : dig t (p + (dig t p).length + 1) = []) : partAt p (t.drop p) = .error (p + (dig t p).length + 1) := by
  rw [part_eq, if_neg h0, if_neg (by unfold DIGITS; omega), drop_at h]
  exact if_pos b0
theorem part_pt_many (h : t[p + (dig t p).length]? = some 46) (b1 : 1300 < (dig t (p + (dig t p).length + 1)).length) : partAt p (t.drop p) = .error (p + (dig t p).length + 1 + 1300) := by
  rw [part_eq, if_neg h0, if_neg (by unfold DIGITS; omega), drop_at h]
  exact (if_neg (fun z => by rw [show dig t (p + (dig t p).length + 1) = [] from z] at b1; simp at b1)).trans (if_pos b1)
theorem part_pt (h : t[p + (dig t p).length]? = some 46) (b0 : dig t (p + (dig t p).length + 1) ≠ []) (b1 : (dig t (p + (dig t p).length + 1)).length ≤ 1300) :
    partAt p (t.drop p) = .ok (mkRat ((number (dig t p) * 10 ^ (dig t (p + (dig t p).length + 1)).length + number (dig t (p + (dig t p).length + 1)) : Nat) : Int) (10 ^ (dig t (p + (dig t p).length + 1)).length), t.drop (p + (dig t p).length + 1 + (dig t (p + (dig t p).length + 1)).length)) := by
  rw [part_eq, if_neg h0, if_neg (by unfold DIGITS; omega), drop_at h]
  refine (if_neg b0).trans ((if_neg (by unfold DIGITS; exact Nat.not_lt.mpr b1)).trans ?_)
  have e : t.drop (p + (dig t p).length + 1 + (dig t (p + (dig t p).length + 1)).length) = (t.drop (p + (dig t p).length + 1)).drop (dig t (p + (dig t p).length + 1)).length := by rw [List.drop_drop]
  rw [← number_app, ← rat_mk, e]
  rfl
theorem part_st_none (h : t[p + (dig t p).length]? = some 47) (b0 : dig t (p + (dig t p).length + 1) = []) : partAt p (t.drop p) = .error (p + (dig t p).length + 1) := by
  rw [part_eq, if_neg h0, if_neg (by unfold DIGITS; omega), drop_at h]
  exact if_pos b0
theorem part_st_many (h : t[p + (dig t p).length]? = some 47) (b1 : 1300 < (dig t (p + (dig t p).length + 1)).length) : partAt p (t.drop p) = .error (p + (dig t p).length + 1 + 1300) := by
  rw [part_eq, if_neg h0, if_neg (by unfold DIGITS; omega), drop_at h]
  exact (if_neg (fun z => by rw [show dig t (p + (dig t p).length + 1) = [] from z] at b1; simp at b1)).trans (if_pos b1)
theorem part_st_zero (h : t[p + (dig t p).length]? = some 47) (b0 : dig t (p + (dig t p).length + 1) ≠ []) (b1 : (dig t (p + (dig t p).length + 1)).length ≤ 1300) (z : number (dig t (p + (dig t p).length + 1)) = 0) :
    partAt p (t.drop p) = .error (p + (dig t p).length + 1) := by
  rw [part_eq, if_neg h0, if_neg (by unfold DIGITS; omega), drop_at h]
  exact (if_neg b0).trans ((if_neg (by unfold DIGITS; exact Nat.not_lt.mpr b1)).trans (if_pos z))
theorem part_st (h : t[p + (dig t p).length]? = some 47) (b0 : dig t (p + (dig t p).length + 1) ≠ []) (b1 : (dig t (p + (dig t p).length + 1)).length ≤ 1300) (z : number (dig t (p + (dig t p).length + 1)) ≠ 0) :
    partAt p (t.drop p) = .ok (mkRat ((number (dig t p) : Nat) : Int) (number (dig t (p + (dig t p).length + 1))), t.drop (p + (dig t p).length + 1 + (dig t (p + (dig t p).length + 1)).length)) := by
  rw [part_eq, if_neg h0, if_neg (by unfold DIGITS; omega), drop_at h]
  refine (if_neg b0).trans ((if_neg (by unfold DIGITS; exact Nat.not_lt.mpr b1)).trans ((if_neg z).trans ?_))
  have e : t.drop (p + (dig t p).length + 1 + (dig t (p + (dig t p).length + 1)).length) = (t.drop (p + (dig t p).length + 1)).drop (dig t (p + (dig t p).length + 1)).length := by rw [List.drop_drop]
  rw [← rat_mk, e]
  rfl
theorem part_whole (h46 : t[p + (dig t p).length]? ≠ some 46) (h47 : t[p + (dig t p).length]? ≠ some 47) : partAt p (t.drop p) = .ok (((number (dig t p) : Nat) : Rat), t.drop (p + (dig t p).length)) := by
  rw [part_eq, if_neg h0, if_neg (by unfold DIGITS; omega)]
  cases e : t.drop (p + (dig t p).length) with
  | nil => rfl
  | cons c r =>
    have hc : t[p + (dig t p).length]? = some c := by
      have z : (t.drop (p + (dig t p).length))[0]? = some c := by rw [e]; rfl
      rw [List.getElem?_drop] at z
      exact z
    split
    · rename_i x y
      cases y
      exact absurd hc h46
    · rename_i x y
      cases y
      exact absurd hc h47
    · rfl
end
/-- what is left behind a part stands at the text's end -/
theorem part_rest {t : List UInt8} {p : Nat} (hp : p ≤ t.length) {q : Rat} {rest : List UInt8} (h : partAt p (t.drop p) = .ok (q, rest)) : ∃ k, p ≤ k ∧ k ≤ t.length ∧ rest = t.drop k := by
  have la : p + (dig t p).length ≤ t.length := by have := dig_len (t := t) (p := p); omega
  by_cases h0 : dig t p = []
  · rw [part_none h0] at h; cases h
  by_cases h1 : 1300 < (dig t p).length
  · rw [part_many h1] at h; cases h
  have h1' : (dig t p).length ≤ 1300 := by omega
  have lb : ∀ c, t[p + (dig t p).length]? = some c → p + (dig t p).length + 1 + (dig t (p + (dig t p).length + 1)).length ≤ t.length := by
    intro c hc
    have := (List.getElem?_eq_some_iff.mp hc).1
    have := dig_len (t := t) (p := p + (dig t p).length + 1)
    omega
  by_cases h46 : t[p + (dig t p).length]? = some 46
  · by_cases b0 : dig t (p + (dig t p).length + 1) = []
    · rw [part_pt_none h0 h1' h46 b0] at h; cases h
    by_cases b1 : 1300 < (dig t (p + (dig t p).length + 1)).length
    · rw [part_pt_many h0 h1' h46 b1] at h; cases h
    rw [part_pt h0 h1' h46 b0 (by omega)] at h
    injection h with h
    injection h with h2 h3
    exact ⟨_, by omega, lb _ h46, h3.symm⟩
  by_cases h47 : t[p + (dig t p).length]? = some 47
  · by_cases b0 : dig t (p + (dig t p).length + 1) = []
    · rw [part_st_none h0 h1' h47 b0] at h; cases h
    by_cases b1 : 1300 < (dig t (p + (dig t p).length + 1)).length
    · rw [part_st_many h0 h1' h47 b1] at h; cases h
    by_cases z : number (dig t (p + (dig t p).length + 1)) = 0
    · rw [part_st_zero h0 h1' h47 b0 (by omega) z] at h; cases h
    rw [part_st h0 h1' h47 b0 (by omega) z] at h
    injection h with h
    injection h with h2 h3
    exact ⟨_, by omega, lb _ h47, h3.symm⟩
  rw [part_whole h0 h1' h46 h47] at h
  injection h with h
  injection h with h2 h3
  exact ⟨_, by omega, la, h3.symm⟩
theorem signed_minus {t : List UInt8} {p : Nat} (h : t[p]? = some 45) : signedAt p (t.drop p) = (partAt (p + 1) (t.drop (p + 1))).map fun (x : Rat × List UInt8) => (-x.1, x.2) := by
  rw [drop_at h]
  rfl
theorem signed_plain {t : List UInt8} {p : Nat} (h : t[p]? ≠ some 45) : signedAt p (t.drop p) = partAt p (t.drop p) := by
  cases e : t.drop p with
  | nil => rfl
  | cons c r =>
    have hc : t[p]? = some c := by
      have z : (t.drop p)[0]? = some c := by rw [e]; rfl
      rw [List.getElem?_drop] at z
      exact z
    unfold signedAt
    split
    · rename_i x
      cases x
      exact absurd hc h
    · rfl
theorem signed_rest {t : List UInt8} {p : Nat} (hp : p ≤ t.length) {q : Rat} {rest : List UInt8} (h : signedAt p (t.drop p) = .ok (q, rest)) : ∃ k, p ≤ k ∧ k ≤ t.length ∧ rest = t.drop k := by
  by_cases m : t[p]? = some 45
  · rw [signed_minus m] at h
    have lt := (List.getElem?_eq_some_iff.mp m).1
    cases e : partAt (p + 1) (t.drop (p + 1)) with
    | error k =>
      rw [e] at h
      cases h
    | ok x =>
      obtain ⟨q1, r1⟩ := x
      rw [e] at h
      injection h with h
      injection h with h1 h2
      subst h2
      obtain ⟨k, a, b, c⟩ := part_rest (show p + 1 ≤ t.length by omega) e
      exact ⟨k, by omega, b, c⟩
  · rw [signed_plain m] at h
    exact part_rest hp h
theorem neg_num (q : Rat) : (-q).num = -q.num := by simp
theorem neg_den (q : Rat) : (-q).den = q.den := by simp
open EvenA in
theorem num_long {n : Nat} {t : List UInt8} (h : 4096 < t.length) : numOf n t = .error (says (-1)) := by
  unfold numOf
  exact if_pos h
open EvenA in
theorem num_fault {n k : Nat} {t : List UInt8} (h : ¬ 4096 < t.length) (e : signedAt 0 t = .error k) : numOf n t = .error (wrong n k) := by
  unfold numOf readNum
  rw [if_neg (show ¬ LONG < t.length from h), e]
open EvenA in
theorem num_more {n k : Nat} {t : List UInt8} {q : Rat} (h : ¬ 4096 < t.length) (e : signedAt 0 t = .ok (q, t.drop k)) (lt : k < t.length) : numOf n t = .error (wrong n k) := by
  unfold numOf readNum
  rw [if_neg (show ¬ LONG < t.length from h), e]
  have ne : t.drop k ≠ [] := fun z => by
    have := List.drop_eq_nil_iff.mp z
    omega
  have el : t.length - (t.drop k).length = k := by
    rw [List.length_drop]
    omega
  simp only [if_neg ne, el]
open EvenA in
theorem num_ok {n k : Nat} {t : List UInt8} {q : Rat} (h : ¬ 4096 < t.length) (e : signedAt 0 t = .ok (q, t.drop k)) (lt : ¬ k < t.length) : numOf n t = if fits q = true then .ok q else .error (says (-6)) := by
  unfold numOf readNum
  rw [if_neg (show ¬ LONG < t.length from h), e]
  have nil : t.drop k = [] := List.drop_eq_nil_iff.mpr (by omega)
  simp only [nil, if_true]
theorem shown_wrong (n k : Nat) : EvenANeutral.shown (EvenA.wrong n k) = [-3, (n : Int), (k : Int)] := rfl
theorem shown_says (z : Int) : EvenANeutral.shown (EvenA.says z) = [z] := rfl
open EvenA in
theorem num_fits {n : Nat} {t : List UInt8} {q : Rat} (h : numOf n t = .ok q) : fits q = true := by
  unfold numOf at h
  split at h
  · cases h
  · split at h
    · cases h
    · split at h
      · injection h with h
        subst h
        assumption
      · cases h
theorem fits_num {q : Rat} (h : fits q = true) : q.num.natAbs < 2 ^ 4096 := by
  unfold fits at h
  exact of_decide_eq_true (Bool.and_eq_true_iff.mp h).1
theorem fits_den {q : Rat} (h : fits q = true) : q.den < 2 ^ 4096 := by
  unfold fits at h
  exact of_decide_eq_true (Bool.and_eq_true_iff.mp h).2
open EvenA in
theorem exact_error {t : List UInt8} {e : Answer} (h : numOf 0 t = .error e) : answer (.exact t) = e := by
  show (match numOf 0 t with
    | .error e => e
    | .ok q => exactGiven q) = e
  rw [h]
open EvenA in
theorem exact_ok {t : List UInt8} {q : Rat} (h : numOf 0 t = .ok q) : answer (.exact t) = wholeB (exactText q) := by
  show (match numOf 0 t with
    | .error e => e
    | .ok q => exactGiven q) = _
  rw [h]
  exact if_pos (num_fits h)
theorem shown_whole (b : List UInt8) : EvenANeutral.shown (EvenA.wholeB b) = (b.length : Int) :: b.map fun (c : UInt8) => (c.toNat : Int) := rfl
end NXM
set_option exponentiation.threshold 20000
namespace NXM
open EbNum
theorem digit_char : ∀ d, d < 10 → (Nat.digitChar d).toNat = 48 + d := by decide
theorem byte_nat {d : Nat} (h : d < 256) : (UInt8.ofNat d).toNat = d := by
  rw [UInt8.toNat_ofNat']
  exact Nat.mod_eq_of_lt h
theorem digits_same : ∀ (k n : Nat), n < 2 ^ k → 0 < k → (digitsIn k n).map UInt8.toNat = (Nat.toDigits 10 n).map Char.toNat := by
  intro k
  induction k with
  | zero => intro n _ h; omega
  | succ k ih =>
    intro n hn _
    rw [Nat.toDigits_eq_if (by decide)]
    unfold digitsIn
    have last : (UInt8.ofNat (48 + n % 10)).toNat = 48 + n % 10 := byte_nat (by omega)
    by_cases lt : n < 10
    · rw [if_pos lt, if_pos lt]
      simp only [List.nil_append, List.map_cons, List.map_nil]
      rw [last, digit_char _ lt, Nat.mod_eq_of_lt lt]
    · rw [if_neg lt, if_neg lt, List.map_append, List.map_append]
      have k0 : 0 < k := by
        rcases Nat.eq_zero_or_pos k with z | z
        · subst z
          simp at hn
          omega
        · exact z
      rw [ih (n / 10) (by rw [Nat.pow_succ] at hn; omega) k0]
      simp only [List.map_cons, List.map_nil]
      rw [last, digit_char _ (by omega)]
theorem dec_repr (n : Nat) : (Nat.repr n).toList.map Char.toNat = (decimal n).map UInt8.toNat := by
  unfold decimal
  rw [digits_same _ _ Nat.lt_log2_self (by omega), Nat.toList_repr]
theorem dec_len {n k : Nat} (h : n < 10 ^ k) (h0 : 0 < k) : (decimal n).length ≤ k := by
  have e : (decimal n).length = (Nat.toDigits 10 n).length := by
    have z := congrArg List.length (dec_repr n)
    rw [List.length_map, List.length_map, Nat.toList_repr] at z
    exact z.symm
  rw [e]
  exact (Nat.length_toDigits_le_iff (by decide) h0).mpr h
/-- an int's signs -/
def intBytes (i : Int) : List UInt8 := (if i < 0 then ascii "-" else []) ++ decimal i.natAbs
theorem int_repr (i : Int) : (toString i).toList.map Char.toNat = (intBytes i).map UInt8.toNat := by
  unfold intBytes
  rw [List.map_append]
  cases i with
  | ofNat n =>
    rw [if_neg (by simp)]
    show (Nat.repr n).toList.map Char.toNat = [].map UInt8.toNat ++ (decimal n).map UInt8.toNat
    rw [dec_repr]
    rfl
  | negSucc n =>
    rw [if_pos (by exact Int.negSucc_lt_zero n)]
    show ("-" ++ Nat.repr (n + 1)).toList.map Char.toNat = _
    rw [String.toList_append, List.map_append, dec_repr]
    rfl
theorem small4096 : 2 ^ 4096 < 10 ^ 1300 := by decide +kernel
theorem int_len {i : Int} (h : i.natAbs < 10 ^ 1300) : (intBytes i).length ≤ 1301 := by
  unfold intBytes
  have a := dec_len h (by decide)
  rw [List.length_append]
  split
  · have : (ascii "-").length = 1 := rfl
    omega
  · simp
    omega
theorem rat_neg (q : Rat) : (q < 0) ↔ (q.num < 0) := by
  have a := Rat.num_nonneg (q := q)
  rw [← Rat.not_le, ← a]
  omega
theorem exact_text (q : Rat) : exactText q = intBytes q.num ++ (if q.den = 1 then [] else ascii "/" ++ intBytes (q.den : Nat)) := by
  unfold exactText intBytes
  have e : (q < 0) ↔ (q.num < 0) := rat_neg q
  have f : ¬ ((q.den : Nat) : Int) < 0 := by omega
  by_cases h : q.num < 0
  · rw [if_pos (e.mpr h), if_pos h, if_neg f, List.append_assoc]
    rfl
  · rw [if_neg (fun z => h (e.mp z)), if_neg h, if_neg f, List.append_assoc]
    rfl
end NXM
namespace L2.NX
open PySem PySem.Spec PyProof.Rows

/-! ### fields by name -/
theorem look_hd {f : Str} {v : V} {r : List (Str × V)} : List.lookup f ((f, v) :: r) = some v := by simp [List.lookup]
theorem look_tl {f g : Str} {v : V} {r : List (Str × V)} (h : (f == g) = false) : List.lookup f ((g, v) :: r) = List.lookup f r := by simp [List.lookup, h]
theorem putF_hd {f : Str} {v x : V} {r : List (Str × V)} : putF f v ((f, x) :: r) = (f, v) :: r := by
  show (if f = f then _ else _) = _
  rw [if_pos rfl]
theorem putF_tl {f g : Str} {v x : V} {r : List (Str × V)} (h : ¬ g = f) : putF f v ((g, x) :: r) = (g, x) :: putF f v r := by
  show (if g = f then _ else _) = _
  rw [if_neg h]

/-! ### what a reader looks like between two calls -/
abbrev rdF (a : Addr) (w p : Int) : List (Str × V) := [("text", .ref a), ("which", .int w), ("place", .int p)]
theorem rd_text {a : Addr} {w p : Int} : (rdF a w p).lookup ("text" : Str) = some (.ref a) := look_hd
theorem rd_which {a : Addr} {w p : Int} : (rdF a w p).lookup ("which" : Str) = some (.int w) := (look_tl (by decide +kernel)).trans look_hd
theorem rd_place {a : Addr} {w p : Int} : (rdF a w p).lookup ("place" : Str) = some (.int p) := (look_tl (by decide +kernel)).trans ((look_tl (by decide +kernel)).trans look_hd)
theorem rd_no {a : Addr} {w p : Int} {m : Str} (h1 : (m == ("text" : Str)) = false) (h2 : (m == ("which" : Str)) = false) (h3 : (m == ("place" : Str)) = false) : (rdF a w p).lookup m = none :=
  (look_tl h1).trans ((look_tl h2).trans ((look_tl h3).trans rfl))
theorem rd_put {a : Addr} {w p q : Int} : putF ("place" : Str) (.int q) (rdF a w p) = rdF a w q :=
  (putF_tl (by decide +kernel)).trans (congrArg _ ((putF_tl (by decide +kernel)).trans (congrArg _ putF_hd)))
theorem rd_make {a : Addr} {w p : Int} : putF ("place" : Str) (.int p) (putF ("which" : Str) (.int w) (putF ("text" : Str) (.ref a) [])) = rdF a w p := by
  show putF ("place" : Str) (.int p) (putF ("which" : Str) (.int w) [("text", .ref a)]) = _
  rw [putF_tl (by decide +kernel)]
  show putF ("place" : Str) (.int p) [("text", .ref a), ("which", .int w)] = _
  rw [putF_tl (by decide +kernel), putF_tl (by decide +kernel)]
  rfl
abbrev rtF (n d : Int) : List (Str × V) := [("top", .int n), ("bottom", .int d)]
theorem rt_top {n d : Int} : (rtF n d).lookup ("top" : Str) = some (.int n) := look_hd
theorem rt_bot {n d : Int} : (rtF n d).lookup ("bottom" : Str) = some (.int d) := (look_tl (by decide +kernel)).trans look_hd
theorem rt_make {n d : Int} : putF ("bottom" : Str) (.int d) (putF ("top" : Str) (.int n) []) = rtF n d := by
  show putF ("bottom" : Str) (.int d) [("top", .int n)] = _
  rw [putF_tl (by decide +kernel)]
  rfl

/-! ### the words of the promises -/
/-- bytes as values -/
abbrev ofB (s : List UInt8) : List V := s.map fun c => V.int (c.toNat : Int)
theorem ofB_get {s : List UInt8} {i : Nat} {c : UInt8} (h : s[i]? = some c) : (ofB s)[i]? = some (V.int (c.toNat : Int)) := by
  rw [List.getElem?_map, h]
  rfl
/-- a refusal that is let out: its class, its own dict, the answer that it bears -/
def Ref (K : PySem.W.Frag) (R : Addr) (E : XK) (ans : List Int) : Prop :=
  ∀ (C d l : Addr) (H' : Hp), ExK K R C → H' d = some (.xd [(("answer" : Str), V.ref l)]) → H' l = some (.lst (ans.map V.int)) → E (.ref C) (some d) H'
/-- the instance of the class at C at x, with these fields -/
def Ins (C : Addr) (H : Hp) (x : Addr) (fs : List (Str × V)) : Prop := ∃ dx, H x = some (.ins C dx fs)
/-- all that's tracked stands but r -/
def Upto (r : Addr) (H H' : Hp) : Prop := ∀ b o, H b = some o → b ≠ r → H' b = some o
theorem Upto.trans {r : Addr} {H H1 H2 : Hp} (a : Upto r H H1) (b : Upto r H1 H2) : Upto r H H2 := fun c o h n => b c o (a c o h n) n
theorem Same.upto {r : Addr} {H H' : Hp} (a : Same H H') : Upto r H H' := fun c o h _ => a c o h
theorem Upto.seq {K : PySem.W.Frag} {r a : Addr} {H H' : Hp} {xs fs} {C : Addr} (u : Upto r H H') (ri : Ins C H r fs) (h : SqL K H a xs) : SqL K H' a xs := by
  obtain ⟨dx, e⟩ := ri
  have ne : ∀ {o : HO}, H a = some o → (∀ C dx fs, o ≠ .ins C dx fs) → a ≠ r := fun h1 n z => by
    subst z
    rw [e] at h1
    exact n _ _ _ (Option.some.inj h1).symm
  rcases h with (h | ⟨o, h⟩) | h
  · exact .inl (.inl (u _ _ h (ne h (fun _ _ _ z => nomatch z))))
  · exact .inl (.inr ⟨o, u _ _ h (ne h (fun _ _ _ z => nomatch z))⟩)
  · exact .inr h
theorem Ins.same {C x : Addr} {H H' : Hp} {fs} (i : Ins C H x fs) (a : Same H H') : Ins C H' x fs := let ⟨dx, e⟩ := i; ⟨dx, a _ _ e⟩
theorem Ins.upto {C x r : Addr} {H H' : Hp} {fs} (i : Ins C H x fs) (a : Upto r H H') (n : x ≠ r) : Ins C H' x fs := let ⟨dx, e⟩ := i; ⟨dx, a _ _ e n⟩

/-! ### callees, packed -/
section
variable (P : Program) (w : World) (K : PySem.W.Frag) (mg : Str → Option Value) (base : Heap)
/-- the module's def x keeps sp -/
def FnX (CX : CXT) (k : Nat) (x : Str) (ps : List Str) (sp : Sp) : Prop := ∃ (f : Addr) (fd : FuncData), FnOk P w K mg base CX k f fd ps sp ∧ mg x = some (.ref f) ∧ PySem.W.keepIn K (.ref f) = true ∧ Binds K fd ps []
/-- the method m of the class at C keeps sp -/
def MtX (C : Addr) (CX : CXT) (k : Nat) (m : Str) (ps : List Str) (sp : Sp) : Prop := ∃ (f : Addr) (fd : FuncData), FnOk P w K mg base CX k f fd ps sp ∧ Meth K C m f ∧ Binds K fd ps []
/-- the class x at C is made by an __init__ that keeps sp -/
def MkX (C : Addr) (CX : CXT) (k : Nat) (x : Str) (ps : List Str) (sp : Sp) : Prop := ∃ (f : Addr) (fd : FuncData), FnOk P w K mg base CX k f fd ps sp ∧ Mk K C f ∧ mg x = some (.ref C) ∧ Binds K fd ps []
/-- the error's class x at C is made by an __init__ that keeps sp -/
def ErX (R C : Addr) (CX : CXT) (k : Nat) (x : Str) (ps : List Str) (sp : Sp) : Prop := ∃ (f : Addr) (fd : FuncData), FnOk P w K mg base CX k f fd ps sp ∧ ExK K R C ∧ PySem.W.findIn K (.ref C) "__init__" = some (some (.ref f)) ∧
  PySem.W.typeIn K (.ref f) = some (.type "function") ∧ mg x = some (.ref C) ∧ Binds K fd ps []
/-- the plain def m of the class x at C, called as x.m(..) -/
def OwX (C : Addr) (CX : CXT) (k : Nat) (x m : Str) (ps : List Str) (sp : Sp) : Prop := ∃ (f : Addr) (fd : FuncData) (mc : Value), FnOk P w K mg base CX k f fd ps sp ∧ mg x = some (.ref C) ∧ ClX.CRead K C mc ∧ ClX.CVal K C mc m (.ref f) (.ref f) ∧
  PySem.W.keepIn K (.ref f) = true ∧ Binds K fd ps []
end

/-! ### a while by an invariant that bears its measure -/
theorem wh_by {c : TT} {tb : TS} {D : Ends} {σ : St} {H : Hp} (Pv : Nat → St → Hp → Prop) (m0 : Nat) (h0 : Pv m0 σ H)
    (hs : ∀ n σ H, Pv n σ H → c σ H fun b H1 => if b = true then tb { D with nx := fun σ' H' => ∃ m, m < n ∧ Pv m σ' H', ct := fun σ' H' => ∃ m, m < n ∧ Pv m σ' H', bk := D.nx } σ H1 else D.nx σ H1)
    (mono : ∀ σ H (Q Q' : Bool → Hp → Prop), (∀ b H1, Q b H1 → Q' b H1) → c σ H Q → c σ H Q') : tWhile c tb D σ H := by
  refine ⟨Pv, ⟨m0, h0⟩, fun n σ1 H1 p => mono _ _ _ _ (fun b H2 q => ?_) (hs n σ1 H1 p)⟩
  cases b with
  | true =>
    rw [if_pos rfl] at q ⊢
    exact ⟨_, fun σ' H' z => z, q⟩
  | false => exact q

/-- .. whose end is told apart -/
theorem wh_ex {c : TT} {tb : TS} {D : Ends} {σ : St} {H : Hp} (Pv : Nat → St → Hp → Prop) (Ex : St → Hp → Prop) (m0 : Nat) (h0 : Pv m0 σ H)
    (mono : ∀ σ H (Q Q' : Bool → Hp → Prop), (∀ b H1, Q b H1 → Q' b H1) → c σ H Q → c σ H Q')
    (hs : ∀ n σ H, Pv n σ H → c σ H fun b H1 => if b = true then tb { D with nx := fun σ' H' => ∃ m, m < n ∧ Pv m σ' H', ct := fun σ' H' => ∃ m, m < n ∧ Pv m σ' H', bk := D.nx } σ H1 else Ex σ H1)
    (fin : ∀ σ H, Ex σ H → D.nx σ H) : tWhile c tb D σ H := by
  refine wh_by Pv m0 h0 (fun n σ1 H1 p => mono _ _ _ _ (fun b H2 q => ?_) (hs n σ1 H1 p)) mono
  cases b with
  | true =>
    rw [if_pos rfl] at q ⊢
    exact q
  | false => exact fin _ _ q

/-! ### the promises -/
open EbNum
/-- Refused.__init__ -/
def spRefI (K : PySem.W.Frag) (R : Addr) : Sp := fun vs H Q _ => ∃ (a C : Addr) (v : V), vs = [.ref a, v] ∧ ExK K R C ∧ H a = some (exo a C none) ∧
  ∀ d, H d = none → d ≠ a → Q .non (upd (upd H d (exd d [(("answer" : Str), v)])) a (exo a C (some d)))
/-- the __init__ of a refusal's class: what it's called with, what it answers -/
def spErr (K : PySem.W.Frag) (R : Addr) (args : List Int → Prop) (ans : List Int → List Int) : Sp := fun vs H Q _ => ∃ (a C : Addr) (ns : List Int), vs = .ref a :: ns.map V.int ∧ args ns ∧ ExK K R C ∧ H a = some (exo a C none) ∧
  ∀ d l, H d = none → H l = none → d ≠ a → l ≠ a → d ≠ l → Q .non (upd (upd (upd H l (.lst ((ans ns).map V.int))) d (exd d [(("answer" : Str), .ref l)])) a (exo a C (some d)))
/-- a refusal's making, in a raise: its end -/
theorem err_end {K : PySem.W.Frag} {R C : Addr} {E : XK} {H : Hp} {args : List Int → Prop} {ans : List Int → List Int} {ns : List Int} (T : ExK K R C) (ok : args ns) (r : Ref K R E (ans ns)) :
    ∀ a, H a = none → spErr K R args ans (.ref a :: ns.map V.int) (upd H a (exo a C none))
      (fun v H2 => v = .non ∧ ∃ (d : Addr) (fs : List (Str × V)), H2 a = some (exo a C (some d)) ∧ H2 d = some (exd d fs) ∧ H d = none ∧ E (.ref C) (some d) (upd (del H2 a) d (.xd fs))) (fun _ _ _ => False) := by
  intro a ha
  refine ⟨a, C, ns, rfl, ok, T, upd_same, fun d l hd hl da la dl => ⟨rfl, d, [(("answer" : Str), .ref l)], upd_same, ?_, ?_, ?_⟩⟩
  · rw [upd_ne da, upd_same]
  · rw [upd_ne da] at hd
    exact hd
  · refine r C d l _ T upd_same ?_
    rw [upd_ne dl.symm, del_ne la, upd_ne la, upd_ne dl.symm, upd_same]
/-! ### the reader's and the numbers' promises -/
theorem if_pos_of {c : Bool} {A B : Prop} (h : c = true) (a : A) : if c = true then A else B := by
  rw [if_pos h]
  exact a
theorem if_neg_of {c : Bool} {A B : Prop} (h : c = false) (b : B) : if c = true then A else B := by
  rw [if_neg (by rw [h]; exact Bool.false_ne_true)]
  exact b
/-- a module's name for an int -/
def GlI (mg : Str → Option Value) (x : Str) (i : Int) : Prop := ∃ t, mg x = some (.int i t)
theorem pe_gi {X : Cx} {x : Str} {i : Int} {pos : Pos} (hg : Gl X x) (h : GlI X.mg x i) (hd : (x == ("__debug__" : Str)) = false := by decide) : PE X (.Name x pos) (tC (.int i)) := by
  obtain ⟨t, e⟩ := h
  exact pe_glob hg e (v := .int i) ⟨t, rfl⟩ hd
def seesB (t : List UInt8) (p : Nat) (b : Int) : Bool := match t[p]? with
  | some c => decide ((c.toNat : Int) = b)
  | none => false
def digB (t : List UInt8) (p : Nat) : Bool := match t[p]? with
  | some c => isDigit c
  | none => false
theorem digB_in {t : List UInt8} {p i : Nat} (h : i < (NXM.dig t p).length) : digB t (p + i) = true := by
  obtain ⟨c, e, _, d⟩ := NXM.dig_get h
  unfold digB
  rw [e]
  exact d
theorem digB_out {t : List UInt8} {p : Nat} : digB t (p + (NXM.dig t p).length) = false := by
  have z := NXM.dig_end (t := t) (p := p)
  unfold digB
  cases e : t[p + (NXM.dig t p).length]? with
  | none => rfl
  | some c =>
    rw [e] at z
    exact z
def spRatI (C : Addr) : Sp := fun vs H Q _ => ∃ (x dx : Addr) (n d : Int), vs = [.ref x, .int n, .int d] ∧ H x = some (.ins C dx []) ∧ Q .non (upd H x (.ins C dx (rtF n d)))
def spRdI (C : Addr) : Sp := fun vs H Q _ => ∃ (x dx a : Addr) (n : Int), vs = [.ref x, .ref a, .int n] ∧ H x = some (.ins C dx []) ∧ Q .non (upd H x (.ins C dx (rdF a n 0)))
def spSees (K : PySem.W.Frag) (C : Addr) : Sp := fun vs H Q _ => ∃ (r a : Addr) (n : Int) (p : Nat) (t : List UInt8) (b : Int), vs = [.ref r, .int b] ∧ Ins C H r (rdF a n p) ∧ SqL K H a (ofB t) ∧ Q (.bl (seesB t p b)) H
def spSeesD (K : PySem.W.Frag) (C : Addr) : Sp := fun vs H Q _ => ∃ (r a : Addr) (n : Int) (p : Nat) (t : List UInt8), vs = [.ref r] ∧ Ins C H r (rdF a n p) ∧ SqL K H a (ofB t) ∧ Q (.bl (digB t p)) H
/-- digits: how many there are tells what comes -/
def spDigits (K : PySem.W.Frag) (R C : Addr) : Sp := fun vs H Q E => ∃ (r a : Addr) (n p : Nat) (t : List UInt8), vs = [.ref r] ∧ Ins C H r (rdF a n p) ∧ SqL K H a (ofB t) ∧ t.length ≤ 5000 ∧
  (NXM.dig t p = [] → Ref K R E [-3, n, p]) ∧ (1300 < (NXM.dig t p).length → Ref K R E [-3, n, p + 1300]) ∧
  (NXM.dig t p ≠ [] → (NXM.dig t p).length ≤ 1300 → ∀ H', Ins C H' r (rdF a n ((p + (NXM.dig t p).length : Nat) : Int)) → Upto r H H' → Q (.int (number (NXM.dig t p) : Nat)) H')
def spGcd : Sp := fun vs H Q _ => ∃ x y : Nat, vs = [.int x, .int y] ∧ Q (.int (Nat.gcd x y : Nat)) H
def spTen : Sp := fun vs H Q _ => ∃ n : Nat, vs = [.int n] ∧ n ≤ 10000 ∧ Q (.int ((10 ^ n : Nat) : Int)) H
def spLeast (C : Addr) : Sp := fun vs H Q _ => ∃ (n : Int) (d : Nat), vs = [.int n, .int d] ∧ 0 < d ∧ d < 2 ^ 9000 ∧ ∀ x H', Ins C H' x (rtF (mkRat n d).num (mkRat n d).den) → Same H H' → Q (.ref x) H'
def spFits (C : Addr) : Sp := fun vs H Q _ => ∃ (x : Addr) (q : Rat), vs = [.ref x] ∧ Ins C H x (rtF q.num q.den) ∧ Q (.bl (EbNum.fits q)) H
theorem bits_le {i : Int} {n : Nat} : Builtin.Int.intBits i ≤ n ↔ i.natAbs < 2 ^ n := by
  unfold Builtin.Int.intBits
  by_cases z : i = 0
  · subst z
    simp
    exact Nat.two_pow_pos n
  · have nz : i.natAbs ≠ 0 := by omega
    rw [if_neg (by simpa using z)]
    exact Nat.log2_lt nz
/-- behind a point, behind a stroke (p: where it stands); wh: what stood ahead -/
def spPoint (K : PySem.W.Frag) (R C CR : Addr) : Sp := fun vs H Q E => ∃ (r a : Addr) (n p : Nat) (t : List UInt8) (wh : Nat), vs = [.ref r, .int wh] ∧ wh < 10 ^ 1300 ∧ Ins C H r (rdF a n p) ∧ SqL K H a (ofB t) ∧ t.length ≤ 5000 ∧
  (NXM.dig t (p + 1) = [] → Ref K R E [-3, n, (p + 1 : Nat)]) ∧ (1300 < (NXM.dig t (p + 1)).length → Ref K R E [-3, n, (p + 1 : Nat) + 1300]) ∧
  (NXM.dig t (p + 1) ≠ [] → (NXM.dig t (p + 1)).length ≤ 1300 → ∀ x H',
    Ins CR H' x (rtF (mkRat ((wh * 10 ^ (NXM.dig t (p + 1)).length + number (NXM.dig t (p + 1)) : Nat) : Int) (10 ^ (NXM.dig t (p + 1)).length)).num (mkRat ((wh * 10 ^ (NXM.dig t (p + 1)).length + number (NXM.dig t (p + 1)) : Nat) : Int) (10 ^ (NXM.dig t (p + 1)).length)).den) →
    Ins C H' r (rdF a n ((p + 1 + (NXM.dig t (p + 1)).length : Nat) : Int)) → Upto r H H' → Q (.ref x) H')
def spStroke (K : PySem.W.Frag) (R C CR : Addr) : Sp := fun vs H Q E => ∃ (r a : Addr) (n p : Nat) (t : List UInt8) (wh : Nat), vs = [.ref r, .int wh] ∧ Ins C H r (rdF a n p) ∧ SqL K H a (ofB t) ∧ t.length ≤ 5000 ∧
  (NXM.dig t (p + 1) = [] → Ref K R E [-3, n, (p + 1 : Nat)]) ∧ (1300 < (NXM.dig t (p + 1)).length → Ref K R E [-3, n, (p + 1 : Nat) + 1300]) ∧
  (NXM.dig t (p + 1) ≠ [] → (NXM.dig t (p + 1)).length ≤ 1300 → number (NXM.dig t (p + 1)) = 0 → Ref K R E [-3, n, (p + 1 : Nat)]) ∧
  (NXM.dig t (p + 1) ≠ [] → (NXM.dig t (p + 1)).length ≤ 1300 → number (NXM.dig t (p + 1)) ≠ 0 → ∀ x H',
    Ins CR H' x (rtF (mkRat (wh : Nat) (number (NXM.dig t (p + 1)))).num (mkRat (wh : Nat) (number (NXM.dig t (p + 1)))).den) →
    Ins C H' r (rdF a n ((p + 1 + (NXM.dig t (p + 1)).length : Nat) : Int)) → Upto r H H' → Q (.ref x) H')
/-- a part of a text: what the specification says of it -/
def spPart (K : PySem.W.Frag) (R C CR : Addr) (part : Nat → List UInt8 → Except Nat (Rat × List UInt8)) : Sp := fun vs H Q E => ∃ (r a : Addr) (n p : Nat) (t : List UInt8), vs = [.ref r] ∧ p ≤ t.length ∧ Ins C H r (rdF a n p) ∧ SqL K H a (ofB t) ∧ t.length ≤ 5000 ∧
  (∀ k, part p (t.drop p) = .error k → Ref K R E [-3, n, k]) ∧
  (∀ q k, part p (t.drop p) = .ok (q, t.drop k) → k ≤ t.length → ∀ x H', Ins CR H' x (rtF q.num q.den) → Ins C H' r (rdF a n k) → Upto r H H' → Q (.ref x) H')
def spFinish (K : PySem.W.Frag) (R C : Addr) : Sp := fun vs H Q E => ∃ (r a : Addr) (n p : Nat) (t : List UInt8), vs = [.ref r] ∧ Ins C H r (rdF a n p) ∧ SqL K H a (ofB t) ∧ (p < t.length → Ref K R E [-3, n, p]) ∧ (¬ p < t.length → Q .non H)
/-- a text that's handed over: what the specification says of it -/
def spRead (K : PySem.W.Frag) (R CR : Addr) : Sp := fun vs H Q E => ∃ (a : Addr) (n : Nat) (t : List UInt8), vs = [.ref a, .int n] ∧ SqL K H a (ofB t) ∧ t.length ≤ 5000 ∧
  (∀ e, EvenA.numOf n t = .error e → Ref K R E (EvenANeutral.shown e)) ∧ (∀ q, EvenA.numOf n t = .ok q → ∀ x H', Ins CR H' x (rtF q.num q.den) → Same H H' → Q (.ref x) H')
/-! ### texts -/
/-- the text z is written of these bytes -/
def IsTxt (z : Str) (b : List UInt8) : Prop := z.cps.toList = b.map UInt8.toNat
theorem IsTxt.len {z : Str} {b : List UInt8} (h : IsTxt z b) : z.length = b.length := by
  have e := congrArg List.length h
  rw [List.length_map] at e
  show z.cps.size = _
  simpa using e
theorem IsTxt.get {z : Str} {b : List UInt8} (h : IsTxt z b) {i : Nat} {c : Nat} (e : z.cps[i]? = some c) : ∃ y, b[i]? = some y ∧ y.toNat = c := by
  have q : z.cps.toList[i]? = some c := by rw [Array.getElem?_toList]; exact e
  rw [h, List.getElem?_map] at q
  cases r : b[i]? with
  | none => rw [r] at q; cases q
  | some y =>
    rw [r] at q
    exact ⟨y, rfl, Option.some.inj q⟩
theorem IsTxt.app {z y : Str} {b c : List UInt8} (h : IsTxt z b) (g : IsTxt y c) : IsTxt (z ++ y) (b ++ c) := by
  show (z.cps ++ y.cps).toList = _
  rw [Array.toList_append, List.map_append, h, g]
theorem IsTxt.of {s : String} {b : List UInt8} (h : s.toList.map Char.toNat = b.map UInt8.toNat) : IsTxt (Str.ofString s) b := by
  unfold IsTxt
  rw [Str.ofString_eq_toList]
  exact h
theorem IsTxt.int (i : Int) : IsTxt (Str.ofString (toString i)) (NXM.intBytes i) := .of (NXM.int_repr i)
def spTold : Sp := fun vs H Q _ => ∃ (z : Str) (b : List UInt8), vs = [.str z] ∧ IsTxt z b ∧ b.length ≤ 100000 ∧ ∀ p H', H' p = some (.lst (.int b.length :: ofB b)) → Same H H' → Q (.ref p) H'
def spExactT (CR : Addr) : Sp := fun vs H Q _ => ∃ (x : Addr) (q : Rat), vs = [.ref x] ∧ Ins CR H x (rtF q.num q.den) ∧ q.num.natAbs < 10 ^ 1300 ∧ q.den < 10 ^ 1300 ∧ ∀ z, IsTxt z (exactText q) → Q (.str z) H
/-! ### what the top has written -/
/-- the module's def x -/
def FnFact (K : PySem.W.Frag) (mg : Str → Option Value) (x : Str) (st : Stmt) : Prop := ∃ (f : Addr) (fd : FuncData), Fun K x x st f fd ∧ mg x = some (.ref f)
/-- the def m of the class at C -/
def MtFact (K : PySem.W.Frag) (C : Addr) (m qual : Str) (st : Stmt) : Prop := ∃ (f : Addr) (fd : FuncData), Fun K m qual st f fd ∧ Meth K C m f
theorem fn_fact {K : PySem.W.Frag} {h : Heap} {mg : Str → Option Value} {x : Str} {st : Stmt} {f : Addr} {oc : Value} {od an : Option Addr} {osl : Array (Option Value)} {kV doc pm cdv ct : Value} (X : K.In h) (G : h.Ns mainGlobals mg)
    (a : PySem.W.nsIn K mainGlobals x = some (some (.ref f))) (l : K.lookup f = some ⟨oc, od, .func (PySem.W.fnOf x x (defArgs st) (defBody st) (defScope st) .none kV doc pm an cdv ct), osl⟩)
    (c : PySem.W.codeIn K cdv x = true) (k : PySem.W.keepIn K (.ref f) = true) : FnFact K mg x st := ⟨f, _, fun_mk l c k, PySem.W.mg_of X G a⟩
theorem mt_fact {K : PySem.W.Frag} {C : Addr} {m qual : Str} {st : Stmt} {f : Addr} {oc : Value} {od an : Option Addr} {osl : Array (Option Value)} {kV doc pm cdv ct : Value}
    (a : PySem.W.findIn K (.ref C) m = some (some (.ref f))) (i : PySem.W.isFn K (.ref f) = true) (l : K.lookup f = some ⟨oc, od, .func (PySem.W.fnOf m qual (defArgs st) (defBody st) (defScope st) .none kV doc pm an cdv ct), osl⟩)
    (c : PySem.W.codeIn K cdv qual = true) (k : PySem.W.keepIn K (.ref f) = true) : MtFact K C m qual st := ⟨f, _, fun_mk l c k, a, i, k⟩
/-- a plain class -/
theorem cls_fact {K : PySem.W.Frag} {C : Addr} (pg : PySem.W.plainGet K C Str.empty = true) (hd : PySem.W.hasDictIn K C = true) (po : PySem.W.plainOver K C = true) (sa : PySem.W.findIn K (.ref C) "__setattr__" = some (some (.builtin "object.__setattr__"))) : Cls K C := ⟨pg, hd, po, sa⟩
/-- an error's class -/
theorem err_fact {K : PySem.W.Frag} {R C : Addr} {nm q : Str} {N : Addr} {bs : List Value} {cs : List Addr} {sn : List Str} {sub : List Value} {ab : Bool} {col : Option Bool} {dd : Option Addr} {m0 m1 m2 m3 m5 : Option Value}
    (l : K.lookup C = some (excClassObj nm q C N bs (mroX cs) true sn sub ab col dd m0 m1 m2 m3 m5 "Exception.__new__"))
    (sa : PySem.W.findIn K (.ref C) "__setattr__" = some (some (.builtin "object.__setattr__"))) (tyC : PySem.W.typeIn K (.ref C) = some (.type "type")) (kC : PySem.W.keepIn K (.ref C) = true) (na : PySem.W.findIn K (.ref C) "answer" = some none)
    (ga : PySem.W.findIn K (.ref C) "__getattribute__" = some (some (.builtin "BaseException.__getattribute__"))) (gg : PySem.W.findIn K (.ref C) "__getattr__" = some none) (exC : PySem.W.subIn K (.ref C) (.type "BaseException") = some true) (hdC : PySem.W.hasDictIn K C = true)
    (eR : PySem.W.subIn K (.ref R) (.type "BaseException") = some true) (iR : PySem.W.isClsIn K R = true) (tR : PySem.W.typeIn K (.ref R) = some (.type "type")) (sR : PySem.W.subIn K (.ref C) (.ref R) = some true) : ExK K R C := by
  refine ⟨⟨nm, q, N, bs, cs, sn, sub, ab, col, dd, m0, m1, m2, m3, m5, l⟩, sa, tyC, kC, na, ⟨ga, gg, exC, hdC⟩, ?_⟩
  have e1 : (PySem.W.subIn K (.ref R) (.type "BaseException") == some true) = true := by rw [eR]; rfl
  have e2 : ((PySem.W.clsIn K R).isSome && PySem.W.typeIn K (.ref R) == some (.type "type")) = true := by
    rw [show (PySem.W.clsIn K R).isSome = true from iR, tR]
    rfl
  exact (if_pos e1).trans ((if_pos e2).trans sR)
section
variable {P : Program} {w : World} {K : PySem.W.Frag} {mg : Str → Option Value} {base : Heap}
theorem gli_of {h : Heap} {x : Str} {i : Int} {t : Tok} (X : K.In h) (G : h.Ns mainGlobals mg) (a : PySem.W.nsIn K mainGlobals x = some (some (.int i t))) : GlI mg x i := ⟨t, PySem.W.mg_of X G a⟩
theorem fnX {CX : CXT} {k : Nat} {x : Str} {ps : List Str} {sp : Sp} {st : Stmt} (T : FnFact K mg x st)
    (b : ∀ (kV doc pm : Value) (an : Option Addr) (cdv ct : Value) (us : List Value), us.length = ps.length → bindArgs (PySem.W.fnOf x x (defArgs st) (defBody st) (defScope st) .none kV doc pm an cdv ct) ⟨us, []⟩ = pure (ps.zip us))
    (ok : ∀ {f fd}, Fun K x x st f fd → FnOk P w K mg base CX k f fd ps sp) : FnX P w K mg base CX k x ps sp := by
  obtain ⟨f, fd, F, g⟩ := T
  exact ⟨f, fd, ok F, g, F.kp, F.binds b⟩
theorem mtX {C : Addr} {CX : CXT} {k : Nat} {m qual : Str} {ps : List Str} {sp : Sp} {st : Stmt} (T : MtFact K C m qual st)
    (b : ∀ (kV doc pm : Value) (an : Option Addr) (cdv ct : Value) (us : List Value), us.length = ps.length → bindArgs (PySem.W.fnOf m qual (defArgs st) (defBody st) (defScope st) .none kV doc pm an cdv ct) ⟨us, []⟩ = pure (ps.zip us))
    (ok : ∀ {f fd}, Fun K m qual st f fd → FnOk P w K mg base CX k f fd ps sp) : MtX P w K mg base C CX k m ps sp := by
  obtain ⟨f, fd, F, g⟩ := T
  exact ⟨f, fd, ok F, g, F.binds b⟩
theorem mkX {C : Addr} {CX : CXT} {k : Nat} {x qual : Str} {ps : List Str} {sp : Sp} {st : Stmt} (T : MtFact K C "__init__" qual st) (mk : PySem.W.makesIn K C = true) (kc : PySem.W.keepIn K (.ref C) = true) (g : mg x = some (.ref C))
    (b : ∀ (kV doc pm : Value) (an : Option Addr) (cdv ct : Value) (us : List Value), us.length = ps.length → bindArgs (PySem.W.fnOf "__init__" qual (defArgs st) (defBody st) (defScope st) .none kV doc pm an cdv ct) ⟨us, []⟩ = pure (ps.zip us))
    (ok : ∀ {f fd}, Fun K "__init__" qual st f fd → FnOk P w K mg base CX k f fd ps sp) : MkX P w K mg base C CX k x ps sp := by
  obtain ⟨f, fd, F, m⟩ := T
  exact ⟨f, fd, ok F, ⟨mk, m.at_, m.fn, kc⟩, g, F.binds b⟩
theorem erX {R C : Addr} {CX : CXT} {k : Nat} {x qual : Str} {ps : List Str} {sp : Sp} {st : Stmt} (T : MtFact K C "__init__" qual st) (e : ExK K R C) (g : mg x = some (.ref C))
    (b : ∀ (kV doc pm : Value) (an : Option Addr) (cdv ct : Value) (us : List Value), us.length = ps.length → bindArgs (PySem.W.fnOf "__init__" qual (defArgs st) (defBody st) (defScope st) .none kV doc pm an cdv ct) ⟨us, []⟩ = pure (ps.zip us))
    (ok : ∀ {f fd}, Fun K "__init__" qual st f fd → FnOk P w K mg base CX k f fd ps sp) : ErX P w K mg base R C CX k x ps sp := by
  obtain ⟨f, fd, F, m⟩ := T
  exact ⟨f, fd, ok F, e, m.at_, beq_iff_eq.mp m.fn, g, F.binds b⟩
/-- .. and called as a plain def of its class -/
def OwFact (K : PySem.W.Frag) (C : Addr) (m qual : Str) (st : Stmt) : Prop := ∃ (f : Addr) (fd : FuncData) (mc : Value), Fun K m qual st f fd ∧ ClX.CRead K C mc ∧ ClX.CVal K C mc m (.ref f) (.ref f)
theorem ow_fact {C : Addr} {m qual : Str} {st : Stmt} {f : Addr} {mc oc : Value} {od an : Option Addr} {osl : Array (Option Value)} {kV doc pm cdv ct : Value} (rd : PySem.W.readsIn K C mc = true) (ga : PySem.W.specialIn K (.ref C) "__getattribute__" = some (some (.builtin "type.__getattribute__")))
    (at_ : PySem.W.findCls K (.ref C) mc m = some (.val (.ref f))) (l : K.lookup f = some ⟨oc, od, .func (PySem.W.fnOf m qual (defArgs st) (defBody st) (defScope st) .none kV doc pm an cdv ct), osl⟩)
    (c : PySem.W.codeIn K cdv qual = true) (k : PySem.W.keepIn K (.ref f) = true) : OwFact K C m qual st := ⟨f, _, mc, fun_mk l c k, ⟨rd, ga⟩, ⟨at_, rfl⟩⟩
theorem owX {C : Addr} {CX : CXT} {k : Nat} {x m qual : Str} {ps : List Str} {sp : Sp} {st : Stmt} (T : OwFact K C m qual st) (g : mg x = some (.ref C))
    (b : ∀ (kV doc pm : Value) (an : Option Addr) (cdv ct : Value) (us : List Value), us.length = ps.length → bindArgs (PySem.W.fnOf m qual (defArgs st) (defBody st) (defScope st) .none kV doc pm an cdv ct) ⟨us, []⟩ = pure (ps.zip us))
    (ok : ∀ {f fd}, Fun K m qual st f fd → FnOk P w K mg base CX k f fd ps sp) : OwX P w K mg base C CX k x m ps sp := by
  obtain ⟨f, fd, mc, F, rd, cv⟩ := T
  exact ⟨f, fd, mc, ok F, g, rd, cv, F.kp, F.binds b⟩
end
/-- exact, told: what its end wants -/
def spExact (K : PySem.W.Frag) : Sp := fun vs H Q _ => ∃ (a : Addr) (t : List UInt8), vs = [.ref a] ∧ SqL K H a (ofB t) ∧ t.length ≤ 5000 ∧ ∀ p H', H' p = some (.lst ((EvenANeutral.shown (EvenA.answer (.exact t))).map V.int)) → Q (.ref p) H'
/-- what is handed in: bytes -/
theorem bytes_in {ns : List Int} (h : (PySem.W.Codec.list 0 5000 (.int 0 255)).within ns = true) : (EvenANeutral.text ns).length ≤ 5000 ∧ ofB (EvenANeutral.text ns) = ns.map V.int := by
  obtain ⟨h1, h2⟩ := Bool.and_eq_true_iff.mp (show (PySem.W.Codec.inLen 0 5000 ns && ns.all (PySem.W.Codec.inInt 0 255)) = true from h)
  have h3 : ns.length ≤ 5000 := of_decide_eq_true (Bool.and_eq_true_iff.mp (show (decide (0 ≤ ns.length) && decide (ns.length ≤ 5000)) = true from h1)).2
  refine ⟨by unfold EvenANeutral.text EvenANeutral.nats; rw [List.length_map, List.length_map]; exact h3, ?_⟩
  unfold EvenANeutral.text EvenANeutral.nats ofB
  rw [List.map_map, List.map_map]
  refine List.map_congr_left fun n hn => ?_
  have q := List.all_eq_true.mp h2 n hn
  obtain ⟨q1, q2⟩ := Bool.and_eq_true_iff.mp q
  have q3 : 0 ≤ n := of_decide_eq_true q1
  have q4 : n ≤ 255 := of_decide_eq_true q2
  show V.int (((UInt8.ofNat n.toNat).toNat : Nat) : Int) = V.int n
  rw [NXM.byte_nat (by omega)]
  congr 1
  omega
/-- a text's length -/
def spChkL (K : PySem.W.Frag) (R : Addr) : Sp := fun vs H Q E => ∃ (a : Addr) (t : List UInt8), vs = [.ref a] ∧ SqL K H a (ofB t) ∧ (4096 < t.length → Ref K R E [-1]) ∧ (¬ 4096 < t.length → Q .non H)
/-- a module's name for a text -/
def GlS (mg : Str → Option Value) (x : Str) (z : Str) : Prop := ∃ t, mg x = some (.str z t)
theorem pe_gs {X : Cx} {x : Str} {z : Str} {pos : Pos} (hg : Gl X x) (h : GlS X.mg x z) (hd : (x == ("__debug__" : Str)) = false := by decide) : PE X (.Name x pos) (tC (.str z)) := by
  obtain ⟨t, e⟩ := h
  exact pe_glob hg e (v := .str z) ⟨t, rfl⟩ hd
theorem gls_of {K : PySem.W.Frag} {mg : Str → Option Value} {h : Heap} {x : Str} {z : Str} {t : Tok} (X : K.In h) (G : h.Ns mainGlobals mg) (a : PySem.W.nsIn K mainGlobals x = some (some (.str z t))) : GlS mg x z := ⟨t, PySem.W.mg_of X G a⟩
end L2.NX
namespace L2.NX
open PySem PySem.Spec PyProof.Rows
/-! ### the text by places -/
def top (i : Nat) : Stmt := PySem.Challenge.pw_outward_s05_shown.main.body.getD i (.Pass ⟨0, 0, 0, 0⟩)
abbrev sRefI : Stmt := inClass (top 17) 0
abbrev sOutI : Stmt := inClass (top 18) 0
abbrev sFltI : Stmt := inClass (top 19) 0
abbrev sBigI : Stmt := inClass (top 20) 0
abbrev sRatI : Stmt := inClass (top 24) 0
abbrev sRdI : Stmt := inClass (top 26) 0
abbrev sSees : Stmt := inClass (top 26) 1
abbrev sSeesD : Stmt := inClass (top 26) 2
abbrev sDigits : Stmt := inClass (top 26) 3
abbrev sNumber : Stmt := inClass (top 26) 4
abbrev sUnsig : Stmt := inClass (top 26) 5
abbrev sPoint : Stmt := inClass (top 26) 6
abbrev sStroke : Stmt := inClass (top 26) 7
abbrev sFinish : Stmt := inClass (top 26) 9
abbrev sRead : Stmt := top 30
abbrev sFits : Stmt := top 31
abbrev sLeast : Stmt := top 32
abbrev sGcd : Stmt := top 33
abbrev sTen : Stmt := top 34
abbrev sTold : Stmt := top 39
abbrev sRound : Stmt := top 35
abbrev sGoes : Stmt := top 36
abbrev sUnits : Stmt := top 38
abbrev sDnfI : Stmt := inClass (top 23) 0
abbrev sChkL : Stmt := top 27
abbrev sChkF : Stmt := top 29
abbrev sChkN : Stmt := top 28
abbrev sBelI : Stmt := inClass (top 21) 0
abbrev sNoPI : Stmt := inClass (top 22) 0
abbrev sBdI : Stmt := inClass (top 25) 0
abbrev sLow : Stmt := inClass (top 25) 1
abbrev sHigh : Stmt := inClass (top 25) 2
abbrev sBounded : Stmt := inClass (top 26) 8
abbrev sGiven : Stmt := top 43
abbrev sShown : Stmt := top 42
abbrev sShownT : Stmt := top 44
abbrev sPlace : Stmt := top 45
abbrev sBoundU : Stmt := top 46
abbrev sNumU : Stmt := top 37
end L2.NX
namespace L2.NX
open PySem PySem.Spec PyProof.Rows
open EbNum
section
variable {P : Program} {w : World} {K : PySem.W.Frag} {mg : Str → Option Value} {base : Heap} {R C CF CR f : Addr} {fd : FuncData}
/-! ### the refusals -/
theorem scRefI : FnScope ["self", "answer"] ["self", "answer"] (defScope sRefI) := ⟨rfl, rfl, rfl, by decide +kernel, rfl, by decide +kernel, by decide +kernel⟩
theorem ok_refI (F : Fun K "__init__" "Refused.__init__" sRefI f fd) : FnOk P w K mg base CX0 1 f fd ["self", "answer"] (spRefI K R) := by
  refine F.ok scRefI (fun vs H Q E h => ?_) (fun cdv A outer s H vs Q E hr h => ?_)
  · obtain ⟨a, C, v, rfl, _⟩ := h
    rfl
  · obtain ⟨a, C, v, rfl, T, ha, k⟩ := h
    refine ⟨_, pss_one (ps_put (R := R) (pv 0) (pv 1)), ?_⟩
    exact ⟨_, rfl, _, rfl, a, C, rfl, T, T.na, ha, k⟩
theorem scOutI : FnScope ["self"] ["self"] (defScope sOutI) := ⟨rfl, rfl, rfl, by decide +kernel, rfl, by decide +kernel, by decide +kernel⟩
theorem ok_outI (F : Fun K "__init__" "OutOfRange.__init__" sOutI f fd) (B : OwX P w K mg base R CX0 1 "Refused" "__init__" ["self", "answer"] (spRefI K R)) :
    FnOk P w K mg base CX0 2 f fd ["self"] (spErr K R (fun ns => ns = []) (fun _ => [-1])) := by
  obtain ⟨f1, fd1, mc, F1, g1, rd1, cv1, k1, b1⟩ := B
  refine F.ok scOutI (fun vs H Q E h => ?_) (fun cdv A outer s H vs Q E hr h => ?_)
  · obtain ⟨a, C, ns, rfl, rfl, _⟩ := h
    rfl
  · obtain ⟨a, C, ns, rfl, rfl, T, ha, k⟩ := h
    refine ⟨_, pss_one (ps_expr (pe_own rfl g1 rd1 cv1 k1 F1 hr b1 pass0 (pa_cons (pv 0) (pa_cons (pe_lst (pa_cons (pe_un un_neg pe_int) pa_nil)) pa_nil)))), ?_⟩
    refine ⟨_, rfl, _, rfl, (by show 1 ≤ sizeLine; decide), fun l hl => ?_⟩
    have al : a ≠ l := ne_of_none ha hl
    refine ⟨a, C, _, rfl, T, (by rw [upd_ne al]; exact ha), fun d hd da => ?_⟩
    have dl : d ≠ l := fun z => by
      rw [z, upd_same] at hd
      cases hd
    rw [upd_ne dl] at hd
    exact k d l hd hl da al.symm dl
theorem scFltI : FnScope ["self", "which", "place"] ["self", "which", "place"] (defScope sFltI) := ⟨rfl, rfl, rfl, by decide +kernel, rfl, by decide +kernel, by decide +kernel⟩
theorem ok_fltI (F : Fun K "__init__" "AtFault.__init__" sFltI f fd) (B : OwX P w K mg base R CX0 1 "Refused" "__init__" ["self", "answer"] (spRefI K R)) :
    FnOk P w K mg base CX0 2 f fd ["self", "which", "place"] (spErr K R (fun ns => ns.length = 2) (fun ns => -3 :: ns)) := by
  obtain ⟨f1, fd1, mc, F1, g1, rd1, cv1, k1, b1⟩ := B
  refine F.ok scFltI (fun vs H Q E h => ?_) (fun cdv A outer s H vs Q E hr h => ?_)
  · obtain ⟨a, C, ns, rfl, e, _⟩ := h
    simp [e]
  · obtain ⟨a, C, ns, rfl, e, T, ha, k⟩ := h
    obtain ⟨x, y, rfl⟩ : ∃ x y, ns = [x, y] := by
      match ns, e with
      | [x, y], _ => exact ⟨x, y, rfl⟩
    refine ⟨_, pss_one (ps_expr (pe_own rfl g1 rd1 cv1 k1 F1 hr b1 pass0 (pa_cons (pv 0) (pa_cons (pe_lst (pa_cons (pe_un un_neg pe_int) (pa_cons (pv 1) (pa_cons (pv 2) pa_nil)))) pa_nil)))), ?_⟩
    refine ⟨_, rfl, _, rfl, _, rfl, _, rfl, (by show 3 ≤ sizeLine; decide), fun l hl => ?_⟩
    have al : a ≠ l := ne_of_none ha hl
    refine ⟨a, C, _, rfl, T, (by rw [upd_ne al]; exact ha), fun d hd da => ?_⟩
    have dl : d ≠ l := fun z => by
      rw [z, upd_same] at hd
      cases hd
    rw [upd_ne dl] at hd
    exact k d l hd hl da al.symm dl
/-! ### the two classes' making -/
theorem scRatI : FnScope ["self", "top", "bottom"] ["self", "top", "bottom"] (defScope sRatI) := ⟨rfl, rfl, rfl, by decide +kernel, rfl, by decide +kernel, by decide +kernel⟩
theorem ok_ratI (F : Fun K "__init__" "Ratio.__init__" sRatI f fd) (c : Cls K CR) (n1 : NoAttr K CR "top") (n2 : NoAttr K CR "bottom") :
    FnOk P w K mg base CX0 1 f fd ["self", "top", "bottom"] (spRatI CR) := by
  refine F.ok scRatI (fun vs H Q E h => ?_) (fun cdv A outer s H vs Q E hr h => ?_)
  · obtain ⟨x, dx, n, d, rfl, _⟩ := h
    rfl
  · obtain ⟨x, dx, n, d, rfl, hx, k⟩ := h
    refine ⟨_, pss_cons (ps_fld (pv 0) (pv 1) rfl) (pss_one (ps_fld (pv 0) (pv 2) rfl)), ?_⟩
    refine ⟨_, rfl, _, rfl, x, CR, dx, [], rfl, hx, c, n1, (by show 0 < 1000; decide), _, rfl, _, rfl, x, CR, dx, _, rfl, upd_same, c, n2, (by show 1 < 1000; decide), ?_⟩
    rw [rt_make, upd_upd]
    exact k
theorem scRdI : FnScope ["self", "text", "which"] ["self", "text", "which"] (defScope sRdI) := ⟨rfl, rfl, rfl, by decide +kernel, rfl, by decide +kernel, by decide +kernel⟩
theorem ok_rdI (F : Fun K "__init__" "Reader.__init__" sRdI f fd) (c : Cls K CF) (n1 : NoAttr K CF "text") (n2 : NoAttr K CF "which") (n3 : NoAttr K CF "place") :
    FnOk P w K mg base CX0 1 f fd ["self", "text", "which"] (spRdI CF) := by
  refine F.ok scRdI (fun vs H Q E h => ?_) (fun cdv A outer s H vs Q E hr h => ?_)
  · obtain ⟨x, dx, a, n, rfl, _⟩ := h
    rfl
  · obtain ⟨x, dx, a, n, rfl, hx, k⟩ := h
    refine ⟨_, pss_cons (ps_fld (pv 0) (pv 1) rfl) (pss_cons (ps_fld (pv 0) (pv 2) rfl) (pss_one (ps_fld (pv 0) pe_int rfl))), ?_⟩
    refine ⟨_, rfl, _, rfl, x, CF, dx, [], rfl, hx, c, n1, (by show 0 < 1000; decide), _, rfl, _, rfl, x, CF, dx, _, rfl, upd_same, c, n2, (by show 1 < 1000; decide), ?_⟩
    refine ⟨_, rfl, x, CF, dx, _, rfl, upd_same, c, n3, (by show 2 < 1000; decide), ?_⟩
    rw [rd_make, upd_upd, upd_upd]
    exact k
/-! ### the reader's tests -/
theorem scSees : FnScope ["self", "byte"] ["self", "byte"] (defScope sSees) := ⟨rfl, rfl, rfl, by decide +kernel, rfl, by decide +kernel, by decide +kernel⟩
theorem ok_sees (F : Fun K "sees" "Reader.sees" sSees f fd) (c : Cls K CF) (n1 : NoAttr K CF "text") (n3 : NoAttr K CF "place") (len : mg "len" = none) :
    FnOk P w K mg base CX0 1 f fd ["self", "byte"] (spSees K CF) := by
  refine F.ok scSees (fun vs H Q E h => ?_) (fun cdv A outer s H vs Q E hr h => ?_)
  · obtain ⟨r, a, n, p, t, b, rfl, _⟩ := h
    rfl
  · obtain ⟨r, a, n, p, t, b, rfl, ⟨dx, hi⟩, hs, k⟩ := h
    refine ⟨_, pss_one (ps_ret (pe_and (pe_cmpR op_lt (pe_fld (pv 0) rfl) (pe_callB call_len_seq (by rfl) len PySem.boot_len (pa_cons (pe_fld (pv 0) rfl) pa_nil)) (nomark _))
      (pe_one (pe_cmpR op_eq (pe_ix ix_list (pe_fld (pv 0) rfl) (pe_fld (pv 0) rfl) (fun _ _ => rfl)) (pv 1) (nomark _))))), ?_⟩
    refine ⟨_, rfl, r, CF, dx, _, _, rfl, hi, c, n3, rd_place, _, rfl, r, CF, dx, _, _, rfl, hi, c, n1, rd_text, a, _, rfl, .inl hs, _, _, rfl, rfl, _, rfl, ?_⟩
    rw [List.length_map]
    by_cases lt : p < t.length
    · have e : t[p]? = some t[p] := List.getElem?_eq_getElem lt
      refine if_pos_of (decide_eq_true (by omega)) ?_
      refine ⟨_, rfl, r, CF, dx, _, _, rfl, hi, c, n1, rd_text, _, rfl, r, CF, dx, _, _, rfl, hi, c, n3, rd_place, a, _, _, _, rfl, rfl, hs, atI_nat (ofB_get e), _, rfl, rfl, ?_⟩
      have z : decide (V.int ((t[p].toNat : Nat) : Int) = V.int b) = seesB t p b := by
        unfold seesB
        rw [e]
        show _ = decide ((t[p].toNat : Int) = b)
        by_cases q : ((t[p].toNat : Nat) : Int) = b
        · rw [decide_eq_true q, decide_eq_true (congrArg V.int q)]
        · rw [decide_eq_false q, decide_eq_false (fun y => q (V.int.inj y))]
      rw [z]
      exact k
    · have e : t[p]? = none := List.getElem?_eq_none (by omega)
      refine if_neg_of (decide_eq_false (by omega)) ?_
      have z : false = seesB t p b := by
        unfold seesB
        rw [e]
      rw [z]
      exact k
theorem scSeesD : FnScope ["self"] ["self"] (defScope sSeesD) := ⟨rfl, rfl, rfl, by decide +kernel, rfl, by decide +kernel, by decide +kernel⟩
theorem ok_seesD (F : Fun K "sees_digit" "Reader.sees_digit" sSeesD f fd) (c : Cls K CF) (n1 : NoAttr K CF "text") (n3 : NoAttr K CF "place") (len : mg "len" = none) (g1 : GlI mg "NOUGHT" 48) (g2 : GlI mg "NINE" 57) :
    FnOk P w K mg base CX0 1 f fd ["self"] (spSeesD K CF) := by
  refine F.ok scSeesD (fun vs H Q E h => ?_) (fun cdv A outer s H vs Q E hr h => ?_)
  · obtain ⟨r, a, n, p, t, rfl, _⟩ := h
    rfl
  · obtain ⟨r, a, n, p, t, rfl, ⟨dx, hi⟩, hs, k⟩ := h
    refine ⟨_, pss_one (ps_ret (pe_and (pe_cmpR op_lt (pe_fld (pv 0) rfl) (pe_callB call_len_seq (by rfl) len PySem.boot_len (pa_cons (pe_fld (pv 0) rfl) pa_nil)) (nomark _))
      (pe_one (pe_chain op_le op_le (pe_gi rfl g1) (pe_ix ix_list (pe_fld (pv 0) rfl) (pe_fld (pv 0) rfl) (fun _ _ => rfl)) (pe_gi rfl g2))))), ?_⟩
    refine ⟨_, rfl, r, CF, dx, _, _, rfl, hi, c, n3, rd_place, _, rfl, r, CF, dx, _, _, rfl, hi, c, n1, rd_text, a, _, rfl, .inl hs, _, _, rfl, rfl, _, rfl, ?_⟩
    rw [List.length_map]
    by_cases lt : p < t.length
    · have e : t[p]? = some t[p] := List.getElem?_eq_getElem lt
      refine if_pos_of (decide_eq_true (by omega)) ?_
      refine ⟨_, rfl, r, CF, dx, _, _, rfl, hi, c, n1, rd_text, _, rfl, r, CF, dx, _, _, rfl, hi, c, n3, rd_place, a, _, _, _, rfl, rfl, hs, atI_nat (ofB_get e), _, _, rfl, rfl, _, rfl, ?_⟩
      have dg : digB t p = (decide (48 ≤ t[p].toNat) && decide (t[p].toNat ≤ 57)) := by
        unfold digB
        rw [e]
        rfl
      by_cases q : (48 : Int) ≤ (t[p].toNat : Int)
      · refine if_pos_of (decide_eq_true q) ?_
        refine ⟨_, _, rfl, rfl, ?_⟩
        have z : decide (((t[p].toNat : Nat) : Int) ≤ 57) = digB t p := by
          rw [dg, decide_eq_true (show 48 ≤ t[p].toNat by omega), Bool.true_and]
          exact decide_eq_decide.mpr (by omega)
        show Q (.bl (decide (((t[p].toNat : Nat) : Int) ≤ 57))) H
        rw [z]
        exact k
      · refine if_neg_of (decide_eq_false q) ?_
        have z : false = digB t p := by
          rw [dg, decide_eq_false (show ¬ 48 ≤ t[p].toNat by omega), Bool.false_and]
        rw [z]
        exact k
    · have e : t[p]? = none := List.getElem?_eq_none (by omega)
      refine if_neg_of (decide_eq_false (by omega)) ?_
      have z : false = digB t p := by
        unfold digB
        rw [e]
      rw [z]
      exact k
theorem scDigits : FnScope ["self", "start", "value"] ["self"] (defScope sDigits) := ⟨rfl, rfl, rfl, by decide +kernel, rfl, by decide +kernel, by decide +kernel⟩
theorem ok_digits (F : Fun K "digits" "Reader.digits" sDigits f fd) (c : Cls K CF) (n1 : NoAttr K CF "text") (n2 : NoAttr K CF "which") (n3 : NoAttr K CF "place")
    (g1 : GlI mg "NOUGHT" 48) (g2 : GlI mg "MOST_DIGITS" 1300) (S : MtX P w K mg base CF CX0 1 "sees_digit" ["self"] (spSeesD K CF))
    (B : ErX P w K mg base R C CX0 2 "AtFault" ["self", "which", "place"] (spErr K R (fun ns => ns.length = 2) (fun ns => -3 :: ns))) :
    FnOk P w K mg base (L2.CX P w) 4 f fd ["self"] (spDigits K R CF) := by
  obtain ⟨fS, fdS, FS, mS, bS⟩ := S
  obtain ⟨fB, fdB, FB, TB, iB, tB, gB, bB⟩ := B
  refine F.okX scDigits (fun vs H Q E h => ?_) (fun cdv A outer s H vs Q E hr h => ?_)
  · obtain ⟨r, a, n, p, t, rfl, _⟩ := h
    rfl
  · obtain ⟨r, a, n, p, t, rfl, hi, hs, hl, kE1, kE2, kQ⟩ := h
    have hr1 : Room 1 _ := hr.mono (by decide)
    refine ⟨_, pss_cons (ps_set (i := 1) scDigits.nd rfl (Or.inl rfl) (pe_fld (pv 0) rfl))
      (pss_cons (ps_set (i := 2) scDigits.nd rfl (Or.inl rfl) pe_int)
      (pss_cons (ps_while (passes_of rfl) (PW.pt (pw_and (pt_val (pe_meth0 (pv 0) c mS FS hr1 bS .nil pass0)) (pw_and1 (pt_cmpR op_lt (pe_fld (pv 0) rfl) (pe_op op_add (pv 1) (pe_gi rfl g2)) (nomark _)))))
        (pss_cons (ps_set (i := 2) scDigits.nd rfl (Or.inl rfl) (pe_op op_sub (pe_op op_add (pe_op op_mulW (pv 2) pe_int) (pe_ix ix_list (pe_fld (pv 0) rfl) (pe_fld (pv 0) rfl) (fun _ _ => rfl))) (pe_gi rfl g1)))
        (pss_one (ps_fldaug (pv 0) pe_int in_add))))
      (pss_cons (ps_if (PW.pt (pw_or (pt_cmpR op_eq (pe_fld (pv 0) rfl) (pv 1) (nomark _)) (pw_or1 (pt_val (pe_meth0 (pv 0) c mS FS hr1 bS .nil pass0)))))
        (pss_one (ps_raise rfl (W := fun cls d _ H => E cls d H) (takes_of rfl rfl rfl rfl) (pmk_x TB iB tB FB (by exact hr) bB pass0 rfl gB (by exact (pa_cons (pe_fld (pv 0) rfl) (pa_cons (pe_fld (pv 0) rfl) pa_nil)))))) pss_nil)
      (pss_one (ps_ret (pv 2)))))), ?_⟩
    obtain ⟨dx, hi⟩ := hi
    refine ⟨_, rfl, r, CF, dx, _, _, rfl, hi, c, n3, rd_place, ?_⟩
    -- the loop: i digits are read
    refine wh_ex (fun m σ H' => ∃ i : Nat, m + i = (NXM.dig t p).length ∧ i ≤ 1300 ∧ σ = [some (.ref r), some (.int p), some (.int (number ((NXM.dig t p).take i) : Nat))] ∧ Ins CF H' r (rdF a n ((p + i : Nat) : Int)) ∧ Upto r H H')
      (fun σ H' => ∃ i : Nat, i ≤ (NXM.dig t p).length ∧ i ≤ 1300 ∧ (i = (NXM.dig t p).length ∨ i = 1300) ∧ σ = [some (.ref r), some (.int p), some (.int (number ((NXM.dig t p).take i) : Nat))] ∧ Ins CF H' r (rdF a n ((p + i : Nat) : Int)) ∧ Upto r H H')
      (NXM.dig t p).length ⟨0, rfl, Nat.zero_le _, rfl, ⟨dx, hi⟩, fun _ _ e _ => e⟩ ?_ ?_ ?_
    · rintro σ1 H1 Q1 Q2 imp ⟨v, e, q⟩
      refine ⟨v, e, ?_⟩
      obtain ⟨a1, dx1, fs1, e1, e2, e3, r1, a2, n2, p2, t2, e4, e5, e6, c2, e7, q⟩ := q
      refine ⟨a1, dx1, fs1, e1, e2, e3, r1, a2, n2, p2, t2, e4, e5, e6, c2, e7, ?_⟩
      cases c2 with
      | false => exact imp _ _ q
      | true =>
        obtain ⟨v3, e8, x3, C3, dx3, fs3, v4, e9, e10, e11, e12, e13, v5, e14, i5, j5, e15, e16, i6, j6, e17, e18, k6, e19, q⟩ := q
        exact ⟨v3, e8, x3, C3, dx3, fs3, v4, e9, e10, e11, e12, e13, v5, e14, i5, j5, e15, e16, i6, j6, e17, e18, k6, e19, imp _ _ q⟩
    · rintro m σ1 H1 ⟨i, hm, hi3, rfl, ⟨dx1, h1⟩, u1⟩
      have hs1 : SqL K H1 a (ofB t) := u1.seq ⟨dx, hi⟩ hs
      refine ⟨_, rfl, r, dx1, _, rfl, h1, rd_no (by decide +kernel) (by decide +kernel) (by decide +kernel), r, a, n, p + i, t, rfl, ⟨dx1, h1⟩, hs1, _, rfl, ?_⟩
      by_cases more : i < (NXM.dig t p).length
      · refine if_pos_of (digB_in more) ?_
        refine ⟨_, rfl, r, CF, dx1, _, _, rfl, h1, c, n3, rd_place, _, rfl, _, _, rfl, rfl, _, _, rfl, rfl, _, rfl, ?_⟩
        by_cases room : i < 1300
        · refine if_pos_of (decide_eq_true (by omega)) ?_
          obtain ⟨b, e1, e2, e3⟩ := NXM.dig_get more
          refine ⟨_, rfl, _, _, rfl, rfl, wide_mul (a := 4320) (b := 4) ?_ (by decide) (by decide) (by decide) (by decide), _, rfl, r, CF, dx1, _, _, rfl, h1, c, n1, rd_text, _, rfl, r, CF, dx1, _, _, rfl, h1, c, n3, rd_place, a, _, _, _, rfl, rfl, hs1, atI_nat (ofB_get e1), _, _, rfl, rfl, _, _, rfl, rfl, ?_⟩
          · exact Nat.lt_trans (NXM.num_small hi3) NXM.ten1300
          refine ⟨_, rfl, r, CF, dx1, _, _, rfl, h1, c, n3, rd_place, _, _, rfl, rfl, dx1, _, h1, (by show 3 < 1000; decide), ?_⟩
          refine ⟨m - 1, by omega, i + 1, by omega, by omega, ?_, ⟨dx1, ?_⟩, fun b o e ne => ?_⟩
          · have b48 : 48 ≤ b.toNat := by
              unfold isDigit at e3
              simp at e3
              exact e3.1
            have e4 : ((number ((NXM.dig t p).take i) : Nat) : Int) * 10 + (b.toNat : Int) - 48 = ((number ((NXM.dig t p).take (i + 1)) : Nat) : Int) := by
              rw [NXM.number_take e2]
              omega
            show [some (V.ref r), some (V.int p), some (V.int (((number ((NXM.dig t p).take i) : Nat) : Int) * 10 + (b.toNat : Int) - 48))] = _
            rw [e4]
          · rw [upd_same, rd_put]
            have e5 : ((p + i : Nat) : Int) + 1 = ((p + (i + 1) : Nat) : Int) := by omega
            rw [e5]
          · rw [upd_ne ne]
            exact u1 b o e ne
        · refine if_neg_of (decide_eq_false (by omega)) ?_
          exact ⟨i, by omega, hi3, .inr (by omega), rfl, ⟨dx1, h1⟩, u1⟩
      · have full : i = (NXM.dig t p).length := by omega
        refine if_neg_of (by rw [full]; exact digB_out) ?_
        exact ⟨i, by omega, hi3, .inl full, rfl, ⟨dx1, h1⟩, u1⟩
    · rintro σ1 H1 ⟨i, hil, hi3, hor, rfl, ⟨dx1, h1⟩, u1⟩
      have hs1 : SqL K H1 a (ofB t) := u1.seq ⟨dx, hi⟩ hs
      refine ⟨_, rfl, r, CF, dx1, _, _, rfl, h1, c, n3, rd_place, _, rfl, rfl, _, rfl, ?_⟩
      by_cases none : i = 0
      · have e0 : ((p + i : Nat) : Int) = p := by omega
        refine if_pos_of (decide_eq_true (congrArg V.int e0)) (iteT ?_)
        refine ⟨_, rfl, r, CF, dx1, _, _, rfl, h1, c, n2, rd_which, _, rfl, r, CF, dx1, _, _, rfl, h1, c, n3, rd_place, (by show 2 ≤ 1000; decide), ?_⟩
        refine err_end (ns := [(n : Int), ((p + i : Nat) : Int)]) TB rfl ?_
        rw [e0]
        exact kE1 (List.eq_nil_of_length_eq_zero (by omega))
      · refine if_neg_of (decide_eq_false (fun z => none (by have := V.int.inj z; omega))) ?_
        refine ⟨_, rfl, r, dx1, _, rfl, h1, rd_no (by decide +kernel) (by decide +kernel) (by decide +kernel), r, a, n, p + i, t, rfl, ⟨dx1, h1⟩, hs1, _, rfl, ?_⟩
        by_cases full : i = (NXM.dig t p).length
        · rw [full, digB_out]
          refine iteF ?_
          refine ⟨_, rfl, ?_⟩
          rw [List.take_length]
          rw [full] at h1 hi3
          exact kQ (fun z => none (by rw [full, z]; rfl)) hi3 H1 ⟨dx1, h1⟩ u1
        · have i1300 : i = 1300 := by omega
          rw [digB_in (show i < (NXM.dig t p).length by omega)]
          refine iteT ?_
          refine ⟨_, rfl, r, CF, dx1, _, _, rfl, h1, c, n2, rd_which, _, rfl, r, CF, dx1, _, _, rfl, h1, c, n3, rd_place, (by show 2 ≤ 1000; decide), ?_⟩
          refine err_end (ns := [(n : Int), ((p + i : Nat) : Int)]) TB rfl ?_
          have e0 : ((p + i : Nat) : Int) = (p : Int) + 1300 := by omega
          rw [e0]
          exact kE2 (by omega)
/-! ### whole numbers -/
theorem scGcd : FnScope ["a", "b", "rest"] ["a", "b"] (defScope sGcd) := ⟨rfl, rfl, rfl, by decide +kernel, rfl, by decide +kernel, by decide +kernel⟩
theorem ok_gcd (F : Fun K "common_divisor" "common_divisor" sGcd f fd) : FnOk P w K mg base CX0 1 f fd ["a", "b"] spGcd := by
  refine F.ok scGcd (fun vs H Q E h => ?_) (fun cdv A outer s H vs Q E hr h => ?_)
  · obtain ⟨x, y, rfl, _⟩ := h
    rfl
  · obtain ⟨x, y, rfl, k⟩ := h
    refine ⟨_, pss_cons (ps_while PassesOwn.never (pt_cmpR op_gt (pv 1) pe_int (nomark _))
        (pss_cons (ps_set (i := 2) scGcd.nd rfl (Or.inl rfl) (pe_op op_mod (pv 0) (pv 1)))
        (pss_cons (ps_set (i := 0) scGcd.nd rfl (Or.inl rfl) (pv 1))
        (pss_one (ps_set (i := 1) scGcd.nd rfl (Or.inl rfl) (pv 2))))))
      (pss_one (ps_ret (pv 0))), ?_⟩
    refine ⟨fun m σ H' => ∃ (x1 : Nat) (v : Option V), σ = [some (.int x1), some (.int m), v] ∧ Nat.gcd x1 m = Nat.gcd x y ∧ H' = H, ⟨y, x, none, rfl, rfl, rfl⟩, ?_⟩
    rintro m σ1 H1 ⟨x1, v, rfl, e, rfl⟩
    refine ⟨_, rfl, _, _, rfl, rfl, _, rfl, ?_⟩
    by_cases z : m = 0
    · subst z
      refine if_neg_of (decide_eq_false (by omega)) ?_
      refine ⟨_, rfl, ?_⟩
      rw [Nat.gcd_zero_right] at e
      subst e
      exact k
    · refine if_pos_of (decide_eq_true (by omega)) ?_
      refine ⟨_, fun _ _ z => z, _, rfl, _, rfl, _, _, rfl, rfl, (by show (0 : Int) < (m : Int); omega), _, rfl, _, rfl, x1 % m, Nat.mod_lt _ (by omega), m, some (.int ((x1 : Int) % (m : Int))), ?_, ?_, rfl⟩
      · show [some (V.int m), some (V.int ((x1 : Int) % (m : Int))), some (V.int ((x1 : Int) % (m : Int)))] = _
        rw [← Int.natCast_emod]
      · rw [← e, Nat.gcd_comm m, ← Nat.gcd_rec, Nat.gcd_comm]
theorem scTen : FnScope ["count", "power", "step"] ["count"] (defScope sTen) := ⟨rfl, rfl, rfl, by decide +kernel, rfl, by decide +kernel, by decide +kernel⟩
theorem ok_ten (F : Fun K "power_of_ten" "power_of_ten" sTen f fd) (rg : mg "range" = none) : FnOk P w K mg base CX0 1 f fd ["count"] spTen := by
  refine F.ok scTen (fun vs H Q E h => ?_) (fun cdv A outer s H vs Q E hr h => ?_)
  · obtain ⟨n, rfl, _⟩ := h
    rfl
  · obtain ⟨n, rfl, small, k⟩ := h
    refine ⟨_, pss_cons (ps_set (i := 1) scTen.nd rfl (Or.inl rfl) pe_int)
      (pss_cons (ps_for PassesOwn.never rfl (pi_range1 rfl rg (pa_cons (pv 0) pa_nil)) (pg_name (i := 2) scTen.nd rfl (Or.inl rfl))
        (pss_one (ps_set (i := 1) scTen.nd rfl (Or.inl rfl) (pe_op op_mul (pv 1) pe_int))))
      (pss_one (ps_ret (pv 1)))), ?_⟩
    refine ⟨_, rfl, (n : Int), rfl, by omega, by omega, ?_⟩
    refine for_range (n := n) (fun i σ H' => ∃ v : Option V, σ = [some (.int n), some (.int ((10 ^ i : Nat) : Int)), v] ∧ H' = H) ⟨none, rfl, rfl⟩ ?_ ?_
    · rintro i σ1 H1 hi ⟨v, rfl, rfl⟩
      refine ⟨_, rfl, _, _, rfl, rfl, .inr ⟨by decide, by decide⟩, some (.int (0 + (i : Int))), ?_, rfl⟩
      show [some (V.int n), some (V.int (((10 ^ i : Nat) : Int) * 10)), _] = _
      rw [Nat.pow_succ]
      rfl
    · rintro σ1 H1 ⟨v, rfl, rfl⟩
      exact ⟨_, rfl, k⟩
theorem scLeast : FnScope ["top", "bottom", "common"] ["top", "bottom"] (defScope sLeast) := ⟨rfl, rfl, rfl, by decide +kernel, rfl, by decide +kernel, by decide +kernel⟩
theorem ok_least (F : Fun K "least_terms" "least_terms" sLeast f fd) (ab : mg "abs" = none) (G : FnX P w K mg base CX0 1 "common_divisor" ["a", "b"] spGcd) (M : MkX P w K mg base CR CX0 1 "Ratio" ["self", "top", "bottom"] (spRatI CR)) :
    FnOk P w K mg base CX0 3 f fd ["top", "bottom"] (spLeast CR) := by
  obtain ⟨fG, fdG, FG, gG, kG, bG⟩ := G
  obtain ⟨fM, fdM, FM, mM, gM, bM⟩ := M
  refine F.ok scLeast (fun vs H Q E h => ?_) (fun cdv A outer s H vs Q E hr h => ?_)
  · obtain ⟨n, d, rfl, _⟩ := h
    rfl
  · obtain ⟨n, d, rfl, d0, small, k⟩ := h
    refine ⟨_, pss_cons (ps_set (i := 2) scLeast.nd rfl (Or.inl rfl) (pe_call FG (hr.mono (by decide)) rfl gG kG bG .nil pass0 (by exact (pa_cons (pe_callB call_abs (by rfl) ab (by decide +kernel) (pa_cons (pv 0) pa_nil)) (pa_cons (pv 1) pa_nil)))))
      (pss_one (ps_ret (pe_make mM FM hr rfl gM bM .nil pass0 (by exact (pa_cons (pe_op op_fdivW (pv 0) (pv 2)) (pa_cons (pe_op op_fdivW (pv 1) (pv 2)) pa_nil)))))), ?_⟩
    have eabs : (if n < 0 then -n else n) = ((n.natAbs : Nat) : Int) := by
      by_cases z : n < 0
      · rw [if_pos z]
        omega
      · rw [if_neg z]
        omega
    refine ⟨_, rfl, n, rfl, _, rfl, n.natAbs, d, (by rw [eabs]; rfl), ?_⟩
    have gpos : 0 < Nat.gcd n.natAbs d := Nat.gcd_pos_of_pos_right _ d0
    have gle : Nat.gcd n.natAbs d ≤ d := Nat.le_of_dvd d0 (Nat.gcd_dvd_right _ _)
    have cd : CDivW n ((Nat.gcd n.natAbs d : Nat) : Int) := wide_div (b := 9000) (by omega) (Nat.lt_of_le_of_lt gle small) (by decide) (by decide)
    refine ⟨_, rfl, _, rfl, _, _, rfl, rfl, cd, _, rfl, _, rfl, _, _, rfl, rfl, cd, fun x dx nx ndx ne => ?_⟩
    refine ⟨x, dx, _, _, rfl, upd_same, rfl, ?_⟩
    have e1 : n / ((Nat.gcd n.natAbs d : Nat) : Int) = (mkRat n d).num := by
      rw [Rat.num_mkRat, if_neg (by omega), Nat.gcd_comm]
    have e2 : (d : Int) / ((Nat.gcd n.natAbs d : Nat) : Int) = (((mkRat n d).den : Nat) : Int) := by
      rw [Rat.den_mkRat, if_neg (by omega), Nat.gcd_comm, Int.natCast_ediv]
    rw [e1, e2, upd_upd]
    refine k x _ ⟨dx, upd_same⟩ fun b o z => ?_
    rw [upd_ne (ne_of_none z nx), upd_ne (ne_of_none z ndx)]
    exact z
theorem scFits : FnScope ["number"] ["number"] (defScope sFits) := ⟨rfl, rfl, rfl, by decide +kernel, rfl, by decide +kernel, by decide +kernel⟩
theorem ok_fits (F : Fun K "fits" "fits" sFits f fd) (ab : mg "abs" = none) (g : GlI mg "MOST_BITS" 4096) (c : Cls K CR) (n1 : NoAttr K CR "top") (n2 : NoAttr K CR "bottom") :
    FnOk P w K mg base CX0 1 f fd ["number"] (spFits CR) := by
  refine F.ok scFits (fun vs H Q E h => ?_) (fun cdv A outer s H vs Q E hr h => ?_)
  · obtain ⟨x, q, rfl, _⟩ := h
    rfl
  · obtain ⟨x, q, rfl, ⟨dx, hx⟩, k⟩ := h
    refine ⟨_, pss_one (ps_ret (pe_and (pe_cmpR op_le (pe_bits (pe_callB call_abs (by rfl) ab (by decide +kernel) (pa_cons (pe_fld (pv 0) rfl) pa_nil))) (pe_gi rfl g) (nomark _))
      (pe_one (pe_cmpR op_le (pe_bits (pe_fld (pv 0) rfl)) (pe_gi rfl g) (nomark _))))), ?_⟩
    refine ⟨_, rfl, x, CR, dx, _, _, rfl, hx, c, n1, rt_top, q.num, rfl, _, rfl, _, _, rfl, rfl, _, rfl, ?_⟩
    have e1 : (if q.num < 0 then -q.num else q.num).natAbs = q.num.natAbs := by
      by_cases z : q.num < 0
      · rw [if_pos z]
        omega
      · rw [if_neg z]
    have t1 := NX.bits_le (i := if q.num < 0 then -q.num else q.num) (n := 4096) 
    rw [e1] at t1
    have t2 := NX.bits_le (i := (q.den : Int)) (n := 4096) 
    by_cases z : q.num.natAbs < 2 ^ 4096
    · refine if_pos_of (decide_eq_true (by have := t1.mpr z; omega)) ?_
      refine ⟨_, rfl, x, CR, dx, _, _, rfl, hx, c, n2, rt_bot, _, rfl, _, _, rfl, rfl, ?_⟩
      have e : decide (((Builtin.Int.intBits (q.den : Int) : Nat) : Int) ≤ 4096) = EbNum.fits q := by
        unfold EbNum.fits
        rw [decide_eq_true z, Bool.true_and]
        exact decide_eq_decide.mpr ⟨fun h => by have := t2.mp (by omega); exact this, fun h => by have := t2.mpr h; omega⟩
      show Q (.bl (decide (((Builtin.Int.intBits (q.den : Int) : Nat) : Int) ≤ 4096))) H
      rw [e]
      exact k
    · refine if_neg_of (decide_eq_false (fun y => z (t1.mp (by omega)))) ?_
      have e : false = EbNum.fits q := by
        unfold EbNum.fits
        rw [decide_eq_false z, Bool.false_and]
      rw [e]
      exact k
end
end L2.NX
namespace L2.NX
open PySem PySem.Spec PyProof.Rows
open EbNum
section
variable {P : Program} {w : World} {K : PySem.W.Frag} {mg : Str → Option Value} {base : Heap} {R C CF CR f : Addr} {fd : FuncData}
theorem scBigI : FnScope ["self"] ["self"] (defScope sBigI) := ⟨rfl, rfl, rfl, by decide +kernel, rfl, by decide +kernel, by decide +kernel⟩
theorem ok_bigI (F : Fun K "__init__" "TooLarge.__init__" sBigI f fd) (B : OwX P w K mg base R CX0 1 "Refused" "__init__" ["self", "answer"] (spRefI K R)) :
    FnOk P w K mg base CX0 2 f fd ["self"] (spErr K R (fun ns => ns = []) (fun _ => [-6])) := by
  obtain ⟨f1, fd1, mc, F1, g1, rd1, cv1, k1, b1⟩ := B
  refine F.ok scBigI (fun vs H Q E h => ?_) (fun cdv A outer s H vs Q E hr h => ?_)
  · obtain ⟨a, C, ns, rfl, rfl, _⟩ := h
    rfl
  · obtain ⟨a, C, ns, rfl, rfl, T, ha, k⟩ := h
    refine ⟨_, pss_one (ps_expr (pe_own rfl g1 rd1 cv1 k1 F1 hr b1 pass0 (pa_cons (pv 0) (pa_cons (pe_lst (pa_cons (pe_un un_neg pe_int) pa_nil)) pa_nil)))), ?_⟩
    refine ⟨_, rfl, _, rfl, (by show 1 ≤ sizeLine; decide), fun l hl => ?_⟩
    have al : a ≠ l := ne_of_none ha hl
    refine ⟨a, C, _, rfl, T, (by rw [upd_ne al]; exact ha), fun d hd da => ?_⟩
    have dl : d ≠ l := fun z => by
      rw [z, upd_same] at hd
      cases hd
    rw [upd_ne dl] at hd
    exact k d l hd hl da al.symm dl
end
end L2.NX
set_option exponentiation.threshold 10000
namespace L2.NX
open PySem PySem.Spec PyProof.Rows
open EbNum
section
variable {P : Program} {w : World} {K : PySem.W.Frag} {mg : Str → Option Value} {base : Heap} {R C CF CR f : Addr} {fd : FuncData}
theorem scPoint : FnScope ["self", "whole", "start", "part", "bottom"] ["self", "whole"] (defScope sPoint) := ⟨rfl, rfl, rfl, by decide +kernel, rfl, by decide +kernel, by decide +kernel⟩
theorem ok_point (F : Fun K "behind_point" "Reader.behind_point" sPoint f fd) (c : Cls K CF) (n3 : NoAttr K CF "place")
    (D : MtX P w K mg base CF (L2.CX P w) 4 "digits" ["self"] (spDigits K R CF)) (T : FnX P w K mg base CX0 1 "power_of_ten" ["count"] spTen) (L : FnX P w K mg base CX0 3 "least_terms" ["top", "bottom"] (spLeast CR)) :
    FnOk P w K mg base (L2.CX P w) 5 f fd ["self", "whole"] (spPoint K R CF CR) := by
  obtain ⟨fD, fdD, FD, mD, bD⟩ := D
  obtain ⟨fT, fdT, FT, gT, kT, bT⟩ := T
  obtain ⟨fL, fdL, FL, gL, kL, bL⟩ := L
  refine F.okX scPoint (fun vs H Q E h => ?_) (fun cdv A outer s H vs Q E hr h => ?_)
  · obtain ⟨r, a, n, p, t, wh, rfl, _⟩ := h
    rfl
  · obtain ⟨r, a, n, p, t, wh, rfl, hw, ⟨dx, hi⟩, hs, hl, kE1, kE2, kQ⟩ := h
    refine ⟨_, pss_cons (ps_fldaug (pv 0) pe_int in_add)
      (pss_cons (ps_set (i := 2) scPoint.nd rfl (Or.inl rfl) (pe_fld (pv 0) rfl))
      (pss_cons (ps_set (i := 3) scPoint.nd rfl (Or.inl rfl) (pe_meth0 (pv 0) c mD FD hr bD .nil (passes_call (W := fun cls d _ H => E cls d H) (takes_of rfl rfl rfl rfl) (fun _ _ _ _ z => z))))
      (pss_cons (ps_set (i := 4) scPoint.nd rfl (Or.inl rfl) (pe_call FT (hr.mono (by decide)) rfl gT kT bT .nil pass0 (by exact (pa_cons (pe_op op_sub (pe_fld (pv 0) rfl) (pv 2)) pa_nil))))
      (pss_one (ps_ret (pe_call FL (hr.mono (by decide)) rfl gL kL bL .nil pass0 (by exact (pa_cons (pe_op op_add (pe_op op_mulW (pv 1) (pv 4)) (pv 3)) (pa_cons (pv 4) pa_nil))))))))), ?_⟩
    refine ⟨_, rfl, r, CF, dx, _, _, rfl, hi, c, n3, rd_place, _, _, rfl, rfl, dx, _, hi, (by show 3 < 1000; decide), ?_⟩
    rw [rd_put]
    have i1 : Ins CF (upd H r (.ins CF dx (rdF a n ((p : Int) + 1)))) r (rdF a n ((p + 1 : Nat) : Int)) := ⟨dx, by rw [upd_same]; rfl⟩
    have u1 : Upto r H (upd H r (.ins CF dx (rdF a n ((p : Int) + 1)))) := fun b o e ne => by
      rw [upd_ne ne]
      exact e
    have s1 := u1.seq ⟨dx, hi⟩ hs
    generalize upd H r (.ins CF dx (rdF a n ((p : Int) + 1))) = H1 at i1 u1 s1
    obtain ⟨dx1, e1⟩ := i1
    refine ⟨_, rfl, r, CF, dx1, _, _, rfl, e1, c, n3, rd_place, _, rfl, r, dx1, _, rfl, e1, rd_no (by decide +kernel) (by decide +kernel) (by decide +kernel), ?_⟩
    refine ⟨r, a, n, p + 1, t, rfl, ⟨dx1, e1⟩, s1, hl, ?_, ?_, fun b0 b1 H2 i2 u2 => ?_⟩
    · intro z
      exact kE1 z
    · intro z
      exact kE2 z
    obtain ⟨dx2, e2⟩ := i2
    refine ⟨_, rfl, r, CF, dx2, _, _, rfl, e2, c, n3, rd_place, _, rfl, _, _, rfl, rfl, (NXM.dig t (p + 1)).length, ?_, by omega, ?_⟩
    · have e : ((p + 1 + (NXM.dig t (p + 1)).length : Nat) : Int) - ((p + 1 : Nat) : Int) = ((NXM.dig t (p + 1)).length : Int) := by omega
      show [V.int (((p + 1 + (NXM.dig t (p + 1)).length : Nat) : Int) - ((p + 1 : Nat) : Int))] = _
      rw [e]
    have lt10 : 10 ^ (NXM.dig t (p + 1)).length ≤ 10 ^ 1300 := Nat.pow_le_pow_right (by decide) b1
    refine ⟨_, rfl, _, rfl, _, _, rfl, rfl, wide_mul (a := 4320) (b := 4320) ?_ ?_ (by decide) (by decide) (by decide), _, rfl, _, _, rfl, rfl, _, rfl, ?_⟩
    · exact Nat.lt_trans hw NXM.ten1300
    · exact Nat.lt_of_le_of_lt lt10 NXM.ten1300
    refine ⟨_, 10 ^ (NXM.dig t (p + 1)).length, rfl, Nat.pow_pos (by decide), ?_, fun x H3 i3 s3 => ?_⟩
    · exact Nat.lt_of_le_of_lt lt10 (Nat.lt_trans NXM.ten1300 (by decide +kernel))
    refine kQ b0 b1 x H3 ?_ (Ins.same ⟨dx2, e2⟩ s3) ((u1.trans u2).trans (Same.upto s3))
    have e : ((wh : Nat) : Int) * ((10 ^ (NXM.dig t (p + 1)).length : Nat) : Int) + ((number (NXM.dig t (p + 1)) : Nat) : Int) = ((wh * 10 ^ (NXM.dig t (p + 1)).length + number (NXM.dig t (p + 1)) : Nat) : Int) := by
      rw [Int.natCast_add, Int.natCast_mul]
    rw [← e]
    exact i3
theorem scStroke : FnScope ["self", "top", "start", "bottom"] ["self", "top"] (defScope sStroke) := ⟨rfl, rfl, rfl, by decide +kernel, rfl, by decide +kernel, by decide +kernel⟩
theorem ok_stroke (F : Fun K "behind_stroke" "Reader.behind_stroke" sStroke f fd) (c : Cls K CF) (n2 : NoAttr K CF "which") (n3 : NoAttr K CF "place")
    (D : MtX P w K mg base CF (L2.CX P w) 4 "digits" ["self"] (spDigits K R CF)) (L : FnX P w K mg base CX0 3 "least_terms" ["top", "bottom"] (spLeast CR))
    (B : ErX P w K mg base R C CX0 2 "AtFault" ["self", "which", "place"] (spErr K R (fun ns => ns.length = 2) (fun ns => -3 :: ns))) :
    FnOk P w K mg base (L2.CX P w) 5 f fd ["self", "top"] (spStroke K R CF CR) := by
  obtain ⟨fD, fdD, FD, mD, bD⟩ := D
  obtain ⟨fL, fdL, FL, gL, kL, bL⟩ := L
  obtain ⟨fB, fdB, FB, TB, iB, tB, gB, bB⟩ := B
  refine F.okX scStroke (fun vs H Q E h => ?_) (fun cdv A outer s H vs Q E hr h => ?_)
  · obtain ⟨r, a, n, p, t, wh, rfl, _⟩ := h
    rfl
  · obtain ⟨r, a, n, p, t, wh, rfl, ⟨dx, hi⟩, hs, hl, kE1, kE2, kE3, kQ⟩ := h
    refine ⟨_, pss_cons (ps_fldaug (pv 0) pe_int in_add)
      (pss_cons (ps_set (i := 2) scStroke.nd rfl (Or.inl rfl) (pe_fld (pv 0) rfl))
      (pss_cons (ps_set (i := 3) scStroke.nd rfl (Or.inl rfl) (pe_meth0 (pv 0) c mD FD hr bD .nil (passes_call (W := fun cls d _ H => E cls d H) (takes_of rfl rfl rfl rfl) (fun _ _ _ _ z => z))))
      (pss_cons (ps_if (pt_cmpR op_eq (pv 3) pe_int (nomark _))
        (pss_one (ps_raise rfl (W := fun cls d _ H => E cls d H) (takes_of rfl rfl rfl rfl) (pmk_x TB iB tB FB (hr.mono (by decide)) bB pass0 rfl gB (by exact (pa_cons (pe_fld (pv 0) rfl) (pa_cons (pv 2) pa_nil)))))) pss_nil)
      (pss_one (ps_ret (pe_call FL (hr.mono (by decide)) rfl gL kL bL .nil pass0 (by exact (pa_cons (pv 1) (pa_cons (pv 3) pa_nil))))))))), ?_⟩
    refine ⟨_, rfl, r, CF, dx, _, _, rfl, hi, c, n3, rd_place, _, _, rfl, rfl, dx, _, hi, (by show 3 < 1000; decide), ?_⟩
    rw [rd_put]
    have i1 : Ins CF (upd H r (.ins CF dx (rdF a n ((p : Int) + 1)))) r (rdF a n ((p + 1 : Nat) : Int)) := ⟨dx, by rw [upd_same]; rfl⟩
    have u1 : Upto r H (upd H r (.ins CF dx (rdF a n ((p : Int) + 1)))) := fun b o e ne => by
      rw [upd_ne ne]
      exact e
    have s1 := u1.seq ⟨dx, hi⟩ hs
    generalize upd H r (.ins CF dx (rdF a n ((p : Int) + 1))) = H1 at i1 u1 s1
    obtain ⟨dx1, e1⟩ := i1
    refine ⟨_, rfl, r, CF, dx1, _, _, rfl, e1, c, n3, rd_place, _, rfl, r, dx1, _, rfl, e1, rd_no (by decide +kernel) (by decide +kernel) (by decide +kernel), ?_⟩
    refine ⟨r, a, n, p + 1, t, rfl, ⟨dx1, e1⟩, s1, hl, kE1, kE2, fun b0 b1 H2 i2 u2 => ?_⟩
    obtain ⟨dx2, e2⟩ := i2
    refine ⟨_, rfl, rfl, _, rfl, ?_⟩
    by_cases z : number (NXM.dig t (p + 1)) = 0
    · refine if_pos_of (decide_eq_true (by rw [z]; rfl)) ?_
      refine ⟨_, rfl, r, CF, dx2, _, _, rfl, e2, c, n2, rd_which, _, rfl, (by show 2 ≤ 1000; decide), ?_⟩
      refine err_end (ns := [(n : Int), ((p + 1 : Nat) : Int)]) TB rfl ?_
      exact kE3 b0 b1 z
    · refine if_neg_of (decide_eq_false (fun y => z (by have := V.int.inj y; omega))) ?_
      refine ⟨_, rfl, _, rfl, _, number (NXM.dig t (p + 1)), rfl, by omega, ?_, fun x H3 i3 s3 => ?_⟩
      · refine Nat.lt_of_lt_of_le (NXM.number_lt _ (NXM.takeWhile_digits _)) (Nat.le_trans (Nat.pow_le_pow_right (by decide) b1) (Nat.le_of_lt (Nat.lt_trans NXM.ten1300 (by decide +kernel))))
      exact kQ b0 b1 z x H3 i3 (Ins.same ⟨dx2, e2⟩ s3) ((u1.trans u2).trans (Same.upto s3))
end
end L2.NX
namespace L2.NX
open PySem PySem.Spec PyProof.Rows
open EbNum
theorem sees_yes {t : List UInt8} {p : Nat} {b : UInt8} (h : t[p]? = some b) : seesB t p (b.toNat : Int) = true := by
  unfold seesB
  rw [h]
  exact decide_eq_true rfl
theorem sees_no {t : List UInt8} {p : Nat} {b : UInt8} (h : t[p]? ≠ some b) : seesB t p (b.toNat : Int) = false := by
  unfold seesB
  cases e : t[p]? with
  | none => rfl
  | some c =>
    refine decide_eq_false fun z => h ?_
    rw [e]
    exact congrArg some (UInt8.toNat_inj.mp (by omega))
section
variable {P : Program} {w : World} {K : PySem.W.Frag} {mg : Str → Option Value} {base : Heap} {R C CF CR f : Addr} {fd : FuncData}
theorem scUnsig : FnScope ["self", "whole"] ["self"] (defScope sUnsig) := ⟨rfl, rfl, rfl, by decide +kernel, rfl, by decide +kernel, by decide +kernel⟩
theorem ok_unsig (F : Fun K "unsigned" "Reader.unsigned" sUnsig f fd) (c : Cls K CF) (g1 : GlI mg "POINT" 46) (g2 : GlI mg "STROKE" 47)
    (D : MtX P w K mg base CF (L2.CX P w) 4 "digits" ["self"] (spDigits K R CF)) (S : MtX P w K mg base CF CX0 1 "sees" ["self", "byte"] (spSees K CF))
    (B1 : MtX P w K mg base CF (L2.CX P w) 5 "behind_point" ["self", "whole"] (spPoint K R CF CR)) (B2 : MtX P w K mg base CF (L2.CX P w) 5 "behind_stroke" ["self", "top"] (spStroke K R CF CR))
    (M : MkX P w K mg base CR CX0 1 "Ratio" ["self", "top", "bottom"] (spRatI CR)) :
    FnOk P w K mg base (L2.CX P w) 6 f fd ["self"] (spPart K R CF CR partAt) := by
  obtain ⟨fD, fdD, FD, mD, bD⟩ := D
  obtain ⟨fS, fdS, FS, mS, bS⟩ := S
  obtain ⟨f1, fd1, F1, m1, b1⟩ := B1
  obtain ⟨f2, fd2, F2, m2, b2⟩ := B2
  obtain ⟨fM, fdM, FM, mM, gM, bM⟩ := M
  refine F.okX scUnsig (fun vs H Q E h => ?_) (fun cdv A outer s H vs Q E hr h => ?_)
  · obtain ⟨r, a, n, p, t, rfl, _⟩ := h
    rfl
  · obtain ⟨r, a, n, p, t, rfl, hp, ⟨dx, hi⟩, hs, hl, kE, kQ⟩ := h
    refine ⟨_, pss_cons (ps_set (i := 1) scUnsig.nd rfl (Or.inl rfl) (pe_meth0 (pv 0) c mD FD (hr.mono (by decide)) bD .nil (passes_call (W := fun cls d _ H => E cls d H) (takes_of rfl rfl rfl rfl) (fun _ _ _ _ z => z))))
      (pss_cons (ps_if (pt_val (pe_meth (pv 0) c mS FS (hr.mono (by decide)) bS .nil pass0 (by exact (pa_cons (pe_gi rfl g1) pa_nil))))
        (pss_one (ps_ret (pe_meth (pv 0) c m1 F1 hr b1 .nil (passes_call (W := fun cls d _ H => E cls d H) (takes_of rfl rfl rfl rfl) (fun _ _ _ _ z => z)) (by exact (pa_cons (pv 1) pa_nil))))) pss_nil)
      (pss_cons (ps_if (pt_val (pe_meth (pv 0) c mS FS (hr.mono (by decide)) bS .nil pass0 (by exact (pa_cons (pe_gi rfl g2) pa_nil))))
        (pss_one (ps_ret (pe_meth (pv 0) c m2 F2 hr b2 .nil (passes_call (W := fun cls d _ H => E cls d H) (takes_of rfl rfl rfl rfl) (fun _ _ _ _ z => z)) (by exact (pa_cons (pv 1) pa_nil))))) pss_nil)
      (pss_one (ps_ret (pe_make mM FM (hr.mono (by decide)) rfl gM bM .nil pass0 (by exact (pa_cons (pv 1) (pa_cons pe_int pa_nil)))))))), ?_⟩
    have no : ∀ {n p : Int} {m : Str}, (m == ("text" : Str)) = false → (m == ("which" : Str)) = false → (m == ("place" : Str)) = false → (rdF a n p).lookup m = none := fun h1 h2 h3 => rd_no h1 h2 h3
    refine ⟨_, rfl, r, dx, _, rfl, hi, rd_no (by decide +kernel) (by decide +kernel) (by decide +kernel), r, a, n, p, t, rfl, ⟨dx, hi⟩, hs, hl, ?_, ?_, fun h0 h1 H1 i1 u1 => ?_⟩
    · intro z
      exact kE p (NXM.part_none z)
    · intro z
      exact kE (p + 1300) (NXM.part_many z)
    have s1 := u1.seq ⟨dx, hi⟩ hs
    obtain ⟨dx1, e1⟩ := i1
    have la : p + (NXM.dig t p).length ≤ t.length := by
      have := NXM.dig_len (t := t) (p := p)
      omega
    have wh : number (NXM.dig t p) < 10 ^ 1300 := Nat.lt_of_lt_of_le (NXM.number_lt _ (NXM.takeWhile_digits _)) (Nat.pow_le_pow_right (by decide) h1)
    refine ⟨_, rfl, r, dx1, _, rfl, e1, rd_no (by decide +kernel) (by decide +kernel) (by decide +kernel), r, a, n, p + (NXM.dig t p).length, t, 46, rfl, ⟨dx1, e1⟩, s1, _, rfl, ?_⟩
    by_cases h46 : t[p + (NXM.dig t p).length]? = some 46
    · refine if_pos_of (sees_yes h46) ?_
      refine ⟨_, rfl, r, dx1, _, rfl, e1, rd_no (by decide +kernel) (by decide +kernel) (by decide +kernel), _, rfl, r, a, n, p + (NXM.dig t p).length, t, number (NXM.dig t p), rfl, wh, ⟨dx1, e1⟩, s1, hl, ?_, ?_, fun b0 b1 x H2 i2 j2 u2 => ?_⟩
      · intro z
        exact kE _ (NXM.part_pt_none h0 h1 h46 z)
      · intro z
        exact kE _ (NXM.part_pt_many h0 h1 h46 z)
      · refine kQ _ _ (NXM.part_pt h0 h1 h46 b0 b1) ?_ x H2 i2 j2 (u1.trans u2)
        have := (List.getElem?_eq_some_iff.mp h46).1
        have := NXM.dig_len (t := t) (p := p + (NXM.dig t p).length + 1)
        omega
    · refine if_neg_of (sees_no h46) ?_
      refine ⟨_, rfl, r, dx1, _, rfl, e1, rd_no (by decide +kernel) (by decide +kernel) (by decide +kernel), r, a, n, p + (NXM.dig t p).length, t, 47, rfl, ⟨dx1, e1⟩, s1, _, rfl, ?_⟩
      by_cases h47 : t[p + (NXM.dig t p).length]? = some 47
      · refine if_pos_of (sees_yes h47) ?_
        refine ⟨_, rfl, r, dx1, _, rfl, e1, rd_no (by decide +kernel) (by decide +kernel) (by decide +kernel), _, rfl, r, a, n, p + (NXM.dig t p).length, t, number (NXM.dig t p), rfl, ⟨dx1, e1⟩, s1, hl, ?_, ?_, ?_, fun b0 b1 z x H2 i2 j2 u2 => ?_⟩
        · intro z
          exact kE _ (NXM.part_st_none h0 h1 h47 z)
        · intro z
          exact kE _ (NXM.part_st_many h0 h1 h47 z)
        · intro b0 b1 z
          exact kE _ (NXM.part_st_zero h0 h1 h47 b0 b1 z)
        · refine kQ _ _ (NXM.part_st h0 h1 h47 b0 b1 z) ?_ x H2 i2 j2 (u1.trans u2)
          have := (List.getElem?_eq_some_iff.mp h47).1
          have := NXM.dig_len (t := t) (p := p + (NXM.dig t p).length + 1)
          omega
      · refine if_neg_of (sees_no h47) ?_
        refine ⟨_, rfl, fun x dx2 nx ndx ne => ⟨x, dx2, _, _, rfl, upd_same, rfl, ?_⟩⟩
        have s2 : Same H1 (upd (upd (upd H1 dx2 (.own x)) x (.ins CR dx2 [])) x (.ins CR dx2 (rtF ((number (NXM.dig t p) : Nat) : Int) 1))) := fun b o e => by
          rw [upd_ne (ne_of_none e nx), upd_ne (ne_of_none e nx), upd_ne (ne_of_none e ndx)]
          exact e
        refine kQ _ _ (NXM.part_whole h0 h1 h46 h47) la x _ ⟨dx2, ?_⟩ (Ins.same ⟨dx1, e1⟩ s2) (u1.trans (Same.upto s2))
        rw [upd_same, NXM.rat_num, NXM.rat_den]
        rfl
end
end L2.NX
namespace L2.NX
open PySem PySem.Spec PyProof.Rows
open EbNum
section
variable {P : Program} {w : World} {K : PySem.W.Frag} {mg : Str → Option Value} {base : Heap} {R C C2 CF CR f : Addr} {fd : FuncData}
theorem scNumber : FnScope ["self", "size"] ["self"] (defScope sNumber) := ⟨rfl, rfl, rfl, by decide +kernel, rfl, by decide +kernel, by decide +kernel⟩
theorem ok_number (F : Fun K "number" "Reader.number" sNumber f fd) (c : Cls K CF) (n3 : NoAttr K CF "place") (cr : Cls K CR) (q1 : NoAttr K CR "top") (q2 : NoAttr K CR "bottom") (g1 : GlI mg "MINUS" 45)
    (S : MtX P w K mg base CF CX0 1 "sees" ["self", "byte"] (spSees K CF)) (U : MtX P w K mg base CF (L2.CX P w) 6 "unsigned" ["self"] (spPart K R CF CR partAt))
    (M : MkX P w K mg base CR CX0 1 "Ratio" ["self", "top", "bottom"] (spRatI CR)) :
    FnOk P w K mg base (L2.CX P w) 7 f fd ["self"] (spPart K R CF CR signedAt) := by
  obtain ⟨fS, fdS, FS, mS, bS⟩ := S
  obtain ⟨fU, fdU, FU, mU, bU⟩ := U
  obtain ⟨fM, fdM, FM, mM, gM, bM⟩ := M
  refine F.okX scNumber (fun vs H Q E h => ?_) (fun cdv A outer s H vs Q E hr h => ?_)
  · obtain ⟨r, a, n, p, t, rfl, _⟩ := h
    rfl
  · obtain ⟨r, a, n, p, t, rfl, hp, ⟨dx, hi⟩, hs, hl, kE, kQ⟩ := h
    refine ⟨_, pss_cons (ps_if (pt_not (pt_val (pe_meth (pv 0) c mS FS (hr.mono (by decide)) bS .nil pass0 (by exact (pa_cons (pe_gi rfl g1) pa_nil)))))
        (pss_one (ps_ret (pe_meth0 (pv 0) c mU FU hr bU .nil (passes_call (W := fun cls d _ H => E cls d H) (takes_of rfl rfl rfl rfl) (fun _ _ _ _ z => z))))) pss_nil)
      (pss_cons (ps_fldaug (pv 0) pe_int in_add)
      (pss_cons (ps_set (i := 1) scNumber.nd rfl (Or.inl rfl) (pe_meth0 (pv 0) c mU FU hr bU .nil (passes_call (W := fun cls d _ H => E cls d H) (takes_of rfl rfl rfl rfl) (fun _ _ _ _ z => z))))
      (pss_one (ps_ret (pe_make mM FM (hr.mono (by decide)) rfl gM bM .nil pass0 (by exact (pa_cons (pe_un un_neg (pe_fld (pv 1) rfl)) (pa_cons (pe_fld (pv 1) rfl) pa_nil)))))))), ?_⟩
    refine ⟨_, rfl, r, dx, _, rfl, hi, rd_no (by decide +kernel) (by decide +kernel) (by decide +kernel), r, a, n, p, t, 45, rfl, ⟨dx, hi⟩, hs, _, rfl, ?_⟩
    by_cases h45 : t[p]? = some 45
    · rw [show seesB t p 45 = true from sees_yes h45]
      refine iteF ?_
      have lt := (List.getElem?_eq_some_iff.mp h45).1
      refine ⟨_, rfl, r, CF, dx, _, _, rfl, hi, c, n3, rd_place, _, _, rfl, rfl, dx, _, hi, (by show 3 < 1000; decide), ?_⟩
      rw [rd_put]
      have i1 : Ins CF (upd H r (.ins CF dx (rdF a n ((p : Int) + 1)))) r (rdF a n ((p + 1 : Nat) : Int)) := ⟨dx, by rw [upd_same]; rfl⟩
      have u1 : Upto r H (upd H r (.ins CF dx (rdF a n ((p : Int) + 1)))) := fun b o e ne => by
        rw [upd_ne ne]
        exact e
      have s1 := u1.seq ⟨dx, hi⟩ hs
      generalize upd H r (.ins CF dx (rdF a n ((p : Int) + 1))) = H1 at i1 u1 s1
      obtain ⟨dx1, e1⟩ := i1
      refine ⟨_, rfl, r, dx1, _, rfl, e1, rd_no (by decide +kernel) (by decide +kernel) (by decide +kernel), r, a, n, p + 1, t, rfl, by omega, ⟨dx1, e1⟩, s1, hl, fun k z => ?_, fun q k z hk x H2 i2 j2 u2 => ?_⟩
      · refine kE k ?_
        rw [NXM.signed_minus h45, z]
        rfl
      · obtain ⟨dq, eq⟩ := i2
        refine ⟨_, rfl, x, CR, dq, _, _, rfl, eq, cr, q1, rt_top, q.num, rfl, _, rfl, x, CR, dq, _, _, rfl, eq, cr, q2, rt_bot, fun y dy ny ndy ne => ?_⟩
        refine ⟨y, dy, _, _, rfl, upd_same, rfl, ?_⟩
        have s2 : Same H2 (upd (upd (upd H2 dy (.own y)) y (.ins CR dy [])) y (.ins CR dy (rtF (-q.num) (q.den : Nat)))) := fun b o e => by
          rw [upd_ne (ne_of_none e ny), upd_ne (ne_of_none e ny), upd_ne (ne_of_none e ndy)]
          exact e
        refine kQ (-q) k ?_ hk y _ ⟨dy, ?_⟩ (Ins.same j2 s2) ((u1.trans u2).trans (Same.upto s2))
        · rw [NXM.signed_minus h45, z]
          rfl
        · rw [upd_same, NXM.neg_num, NXM.neg_den]
    · rw [show seesB t p 45 = false from sees_no h45]
      refine iteT ?_
      refine ⟨_, rfl, r, dx, _, rfl, hi, rd_no (by decide +kernel) (by decide +kernel) (by decide +kernel), r, a, n, p, t, rfl, hp, ⟨dx, hi⟩, hs, hl, fun k z => ?_, fun q k z => ?_⟩
      · exact kE k (by rw [NXM.signed_plain h45]; exact z)
      · exact kQ q k (by rw [NXM.signed_plain h45]; exact z)
theorem scFinish : FnScope ["self"] ["self"] (defScope sFinish) := ⟨rfl, rfl, rfl, by decide +kernel, rfl, by decide +kernel, by decide +kernel⟩
theorem ok_finish (F : Fun K "finish" "Reader.finish" sFinish f fd) (c : Cls K CF) (n1 : NoAttr K CF "text") (n2 : NoAttr K CF "which") (n3 : NoAttr K CF "place") (len : mg "len" = none)
    (B : ErX P w K mg base R C CX0 2 "AtFault" ["self", "which", "place"] (spErr K R (fun ns => ns.length = 2) (fun ns => -3 :: ns))) :
    FnOk P w K mg base (L2.CX P w) 4 f fd ["self"] (spFinish K R CF) := by
  obtain ⟨fB, fdB, FB, TB, iB, tB, gB, bB⟩ := B
  refine F.okX scFinish (fun vs H Q E h => ?_) (fun cdv A outer s H vs Q E hr h => ?_)
  · obtain ⟨r, a, n, p, t, rfl, _⟩ := h
    rfl
  · obtain ⟨r, a, n, p, t, rfl, ⟨dx, hi⟩, hs, kE, kQ⟩ := h
    refine ⟨_, pss_one (ps_if (pt_cmpR op_lt (pe_fld (pv 0) rfl) (pe_callB call_len_seq (by rfl) len PySem.boot_len (pa_cons (pe_fld (pv 0) rfl) pa_nil)) (nomark _))
        (pss_one (ps_raise rfl (W := fun cls d _ H => E cls d H) (takes_of rfl rfl rfl rfl) (pmk_x TB iB tB FB hr bB pass0 rfl gB (by exact (pa_cons (pe_fld (pv 0) rfl) (pa_cons (pe_fld (pv 0) rfl) pa_nil)))))) pss_nil), ?_⟩
    refine ⟨_, rfl, r, CF, dx, _, _, rfl, hi, c, n3, rd_place, _, rfl, r, CF, dx, _, _, rfl, hi, c, n1, rd_text, a, _, rfl, .inl hs, _, _, rfl, rfl, _, rfl, ?_⟩
    rw [List.length_map]
    by_cases lt : p < t.length
    · refine if_pos_of (decide_eq_true (by omega)) ?_
      refine ⟨_, rfl, r, CF, dx, _, _, rfl, hi, c, n2, rd_which, _, rfl, r, CF, dx, _, _, rfl, hi, c, n3, rd_place, (by show 2 ≤ 1000; decide), ?_⟩
      exact err_end (ns := [(n : Int), (p : Int)]) TB rfl (kE lt)
    · refine if_neg_of (decide_eq_false (by omega)) ?_
      exact kQ lt
end
end L2.NX
set_option exponentiation.threshold 20000
namespace L2.NX
open PySem PySem.Spec PyProof.Rows
open EbNum
/-- return refused.answer -/
def tSuite (K : PySem.W.Frag) (i : Nat) : Addr → Value → Option Addr → TS := fun a cls d => tRet (tXfA K a cls d "answer" (tVar i))
end L2.NX
namespace NXM
open EbNum
/-! Rounding. -/
theorem cast_pos {B : Nat} (h : 0 < B) : (0 : Rat) < (B : Rat) := Rat.natCast_pos.mpr h
theorem cast_mul (n : Int) (B : Nat) : (n : Rat) * (B : Rat) = ((n * (B : Int) : Int) : Rat) := by
  rw [Rat.intCast_mul, Rat.intCast_natCast]
theorem mk_lt_int {T n : Int} {B : Nat} (h : 0 < B) : mkRat T B < (n : Rat) ↔ T < n * B := by
  rw [Rat.mkRat_eq_div, Rat.div_lt_iff (cast_pos h), cast_mul, Rat.intCast_lt_intCast]
theorem int_lt_mk {T n : Int} {B : Nat} (h : 0 < B) : (n : Rat) < mkRat T B ↔ n * B < T := by
  rw [Rat.mkRat_eq_div, Rat.lt_div_iff (cast_pos h), cast_mul, Rat.intCast_lt_intCast]
theorem int_le_mk {T n : Int} {B : Nat} (h : 0 < B) : (n : Rat) ≤ mkRat T B ↔ n * B ≤ T := by
  rw [← Rat.not_lt, mk_lt_int h]
  omega
theorem mk_mul_nat (T : Int) {B : Nat} (h : 0 < B) (c : Nat) : mkRat T B * (c : Rat) = mkRat (T * c) B := by
  have e : ((c : Nat) : Rat) = mkRat (c : Int) 1 := Rat.mk_eq_mkRat (c : Int) 1 (by decide) (by simp)
  rw [e, Rat.mkRat_mul_mkRat, Nat.mul_one]
theorem mk_lt_mk {T U : Int} {B D : Nat} (h : 0 < B) (g : 0 < D) : mkRat T B < mkRat U D ↔ T * D < U * B := by
  rw [Rat.mkRat_eq_div T B, Rat.div_lt_iff (cast_pos h), mk_mul_nat U g, int_lt_mk g]
theorem mk_floor {T : Int} {B : Nat} (h : 0 < B) : (mkRat T B).floor = T / (B : Int) := by
  have key : ∀ n : Int, n ≤ (mkRat T B).floor ↔ n ≤ T / (B : Int) := fun n => by
    rw [Rat.le_floor_iff, int_le_mk h, Int.le_ediv_iff_mul_le (by omega)]
  exact Int.le_antisymm ((key _).mp (Int.le_refl _)) ((key _).mpr (Int.le_refl _))
theorem mk_up {T : Int} {B : Nat} (h : 0 < B) : up (mkRat T B) = if T - T / (B : Int) * B = 0 then T / (B : Int) else T / (B : Int) + 1 := by
  unfold up
  rw [Rat.neg_mkRat, mk_floor h]
  have b : (0 : Int) < B := by omega
  have e1 := Int.mul_ediv_add_emod T B
  have e2 := Int.emod_nonneg T (show (B : Int) ≠ 0 by omega)
  have e3 := Int.emod_lt_of_pos T b
  generalize hq : T / (B : Int) = q at *
  generalize hr : T % (B : Int) = r at *
  have e4 : T - q * B = r := by rw [Int.mul_comm q]; omega
  rw [e4]
  by_cases z : r = 0
  · rw [if_pos z]
    have : -T = (B : Int) * (-q) := by rw [Int.mul_neg]; omega
    rw [this, Int.mul_ediv_cancel_left _ (by omega)]
    omega
  · rw [if_neg z]
    have : -T = (B - r) + (B : Int) * (-q - 1) := by
      rw [Int.mul_sub, Int.mul_neg]
      omega
    rw [this, Int.add_mul_ediv_left _ _ (by omega), Int.ediv_eq_zero_of_lt (by omega) (by omega)]
    omega
theorem mk_rest {T : Int} {B : Nat} (h : 0 < B) : mkRat T B - ((T / (B : Int) : Int) : Rat) = mkRat (T - T / (B : Int) * B) B := by
  have e : ((T / (B : Int) : Int) : Rat) = mkRat (T / (B : Int) * B) B := by
    have z := Rat.mkRat_mul_right (n := T / (B : Int)) (d := 1) (a := B) (by omega)
    rw [Nat.one_mul] at z
    rw [z]
    exact Rat.mk_eq_mkRat (T / (B : Int)) 1 (by decide) (by simp)
  rw [e, Rat.sub_eq_add_neg, Rat.neg_mkRat, Rat.mkRat_add_mkRat _ _ (by omega) (by omega)]
  have z := Rat.mkRat_mul_right (n := T - T / (B : Int) * B) (d := B) (a := B) (by omega)
  rw [← z, ← Int.add_mul]
  rfl
/-- whether it goes up -/
def goes (rest bottom below way : Int) : Bool :=
  if rest = 0 ∨ way = 2 then false
  else if way = 1 then true
  else if way = 0 then (decide (bottom < 2 * rest) || (decide (2 * rest = bottom) && decide (below % 2 = 1)))
  else if way = 3 then decide (0 ≤ below)
  else decide (below < 0)
theorem whole_eq {T : Int} {B : Nat} (h : 0 < B) {way : Nat} (hw : way < 5) :
    whole way (mkRat T B) = if goes (T - T / (B : Int) * B) B (T / (B : Int)) way = true then T / (B : Int) + 1 else T / (B : Int) := by
  have half : (1 / 2 : Rat) = mkRat 1 2 := by
    rw [Rat.mkRat_eq_div]
    rfl
  have nn : (0 : Rat) ≤ mkRat T B ↔ 0 ≤ T / (B : Int) := by
    rw [← mk_floor h, Rat.le_floor_iff]
    rfl
  have r1 : mkRat T B - ((T / (B : Int) : Int) : Rat) < 1 / 2 ↔ 2 * (T - T / (B : Int) * B) < B := by
    rw [mk_rest h, half, mk_lt_mk h (by decide)]
    omega
  have r2 : 1 / 2 < mkRat T B - ((T / (B : Int) : Int) : Rat) ↔ (B : Int) < 2 * (T - T / (B : Int) * B) := by
    rw [mk_rest h, half, mk_lt_mk (by decide) h]
    omega
  unfold whole
  simp only [mk_up h, mk_floor h, nn, r1, r2]
  have m0 : T / (B : Int) % 2 = 0 ∨ T / (B : Int) % 2 = 1 := by omega
  generalize T - T / (B : Int) * B = r
  generalize T / (B : Int) = q at *
  unfold goes
  have hb : (0 : Int) < B := by omega
  have cases_ : way = 0 ∨ way = 1 ∨ way = 2 ∨ way = 3 ∨ way = 4 := by omega
  rcases cases_ with e | e | e | e | e <;> subst e
  · by_cases z : r = 0
    · subst z
      have : ¬ B = 0 := by omega
      have : ¬ (B : Int) < 0 := by omega
      simp [*]
    · by_cases a : 2 * r < B
      · have : ¬ (B : Int) < 2 * r := by omega
        have : ¬ 2 * r = (B : Int) := by omega
        simp [*]
      · by_cases c : (B : Int) < 2 * r
        · simp [*]
        · have : 2 * r = (B : Int) := by omega
          rcases m0 with m | m <;> simp [*]
  · by_cases z : r = 0 <;> simp [z]
  · simp
  · by_cases z : r = 0 <;> by_cases y : 0 ≤ q <;> simp [z, y]
  · by_cases z : r = 0 <;> by_cases y : 0 ≤ q <;> simp [z, y] <;> omega
theorem place_eq (q : Rat) (d : Int) : q * ten d = mkRat (q.num * ((10 ^ d.toNat : Nat) : Int)) (q.den * 10 ^ (-d).toNat) := by
  have den0 : 0 < q.den := Nat.pos_of_ne_zero q.den_nz
  have me : q = mkRat q.num q.den := (Rat.mkRat_self q).symm
  unfold ten
  by_cases h : 0 ≤ d
  · rw [if_pos h]
    have e2 : (-d).toNat = 0 := by omega
    rw [e2, Nat.pow_zero, Nat.mul_one]
    conv => lhs; rw [me]
    rw [mk_mul_nat _ den0]
  · rw [if_neg h]
    have e1 : d.toNat = 0 := by omega
    rw [e1]
    have t : (1 : Rat) / ((10 ^ (-d).toNat : Nat) : Rat) = mkRat 1 (10 ^ (-d).toNat) := by
      rw [Rat.mkRat_eq_div]
      rfl
    conv => lhs; rw [me]
    rw [t, Rat.mkRat_mul_mkRat]
    simp
theorem units_at {q : Rat} {d : Int} {way : Nat} (hw : way < 5) : unitsAt way d q =
    (if goes (q.num * ((10 ^ d.toNat : Nat) : Int) - q.num * ((10 ^ d.toNat : Nat) : Int) / ((q.den * 10 ^ (-d).toNat : Nat) : Int) * ((q.den * 10 ^ (-d).toNat : Nat) : Int)) ((q.den * 10 ^ (-d).toNat : Nat) : Int) (q.num * ((10 ^ d.toNat : Nat) : Int) / ((q.den * 10 ^ (-d).toNat : Nat) : Int)) way = true
      then q.num * ((10 ^ d.toNat : Nat) : Int) / ((q.den * 10 ^ (-d).toNat : Nat) : Int) + 1 else q.num * ((10 ^ d.toNat : Nat) : Int) / ((q.den * 10 ^ (-d).toNat : Nat) : Int)) := by
  unfold unitsAt
  rw [place_eq]
  exact whole_eq (Nat.mul_pos (Nat.pos_of_ne_zero q.den_nz) (Nat.pow_pos (by decide))) hw
end NXM
namespace NXM
open EbNum EvenA
/-! ### two numbers -/
theorem fits_of {q : Rat} (h1 : q.num.natAbs < 2 ^ 4096) (h2 : q.den < 2 ^ 4096) : fits q = true := by
  unfold fits
  exact Bool.and_eq_true_iff.mpr ⟨decide_eq_true h1, decide_eq_true h2⟩
theorem inv_num {q : Rat} (h : 0 < q.num) : (q⁻¹).num = (q.den : Int) := by
  rw [Rat.num_inv, Int.sign_eq_one_of_pos h, Int.one_mul]
theorem inv_num_neg {q : Rat} (h : q.num < 0) : (q⁻¹).num = -(q.den : Int) := by
  rw [Rat.num_inv, Int.sign_eq_neg_one_of_neg h, Int.neg_mul, Int.one_mul]
theorem inv_den {q : Rat} (h : q.num ≠ 0) : (q⁻¹).den = q.num.natAbs := by
  rw [Rat.den_inv, if_neg h]
theorem fits_inv {q : Rat} (h : q.num ≠ 0) (f : fits q = true) : fits q⁻¹ = true := by
  have n := fits_num f
  have d := fits_den f
  refine fits_of ?_ (by rw [inv_den h]; exact n)
  rcases Int.lt_or_gt_of_ne h with z | z
  · rw [inv_num_neg z, Int.natAbs_neg]
    exact d
  · rw [inv_num z]
    exact d
theorem fits_neg {q : Rat} (f : fits q = true) : fits (-q) = true := by
  refine fits_of ?_ (by rw [neg_den]; exact fits_den f)
  rw [neg_num, Int.natAbs_neg]
  exact fits_num f
theorem num_zero {q : Rat} : q.num = 0 ↔ q = 0 := Rat.num_eq_zero
theorem op_sum (p q : Rat) : opOf 0 p q = p + q := rfl
theorem op_dif (p q : Rat) : opOf 1 p q = p + -q := Rat.sub_eq_add_neg p q
theorem op_pro (p q : Rat) : opOf 2 p q = p * q := rfl
theorem op_quo (p q : Rat) : opOf 3 p q = p * q⁻¹ := Rat.div_def p q
theorem order_lt {p q : Rat} (h : p.num * q.den < q.num * p.den) : (if p < q then 0 else if p = q then 1 else 2 : Int) = 0 := if_pos ((Rat.lt_iff p q).mpr h)
theorem order_gt {p q : Rat} (h : q.num * p.den < p.num * q.den) : (if p < q then 0 else if p = q then 1 else 2 : Int) = 2 := by
  rw [if_neg (fun z => by have := (Rat.lt_iff p q).mp z; omega), if_neg (fun z => by subst z; omega)]
theorem order_eq {p q : Rat} (h1 : ¬ p.num * q.den < q.num * p.den) (h2 : ¬ q.num * p.den < p.num * q.den) : (if p < q then 0 else if p = q then 1 else 2 : Int) = 1 := by
  have a1 : ¬ p < q := fun z => h1 ((Rat.lt_iff p q).mp z)
  have a2 : ¬ q < p := fun z => h2 ((Rat.lt_iff q p).mp z)
  rw [if_neg a1, if_pos (Rat.le_antisymm (Rat.not_lt.mp a2) (Rat.not_lt.mp a1))]
section
variable {a b : List UInt8} {op : Nat} {e : Answer} {p q : Rat}
theorem two_refused (h : 3 < op) : answer (.two op a b) = says (-1) := if_pos h
theorem two_err1 (h : ¬ 3 < op) (h1 : numOf 0 a = .error e) : answer (.two op a b) = e := by
  refine (if_neg h).trans ?_
  rw [h1]
theorem two_err2 (h : ¬ 3 < op) (h1 : numOf 0 a = .ok p) (h2 : numOf 1 b = .error e) : answer (.two op a b) = e := by
  refine (if_neg h).trans ?_
  rw [h1, h2]
theorem two_zero (h : ¬ 3 < op) (h1 : numOf 0 a = .ok p) (h2 : numOf 1 b = .ok q) (z : op = 3 ∧ q = 0) : answer (.two op a b) = says (-5) := by
  refine (if_neg h).trans ?_
  rw [h1, h2]
  exact if_pos z
theorem two_ok (h : ¬ 3 < op) (h1 : numOf 0 a = .ok p) (h2 : numOf 1 b = .ok q) (z : ¬ (op = 3 ∧ q = 0)) : answer (.two op a b) = exactGiven (opOf op p q) := by
  refine (if_neg h).trans ?_
  rw [h1, h2]
  exact if_neg z
theorem given_ok (h : fits q = true) : exactGiven q = wholeB (exactText q) := if_pos h
theorem given_no (h : fits q = false) : exactGiven q = says (-6) := if_neg (by rw [h]; exact Bool.false_ne_true)
theorem order_err1 (h1 : numOf 0 a = .error e) : answer (.order a b) = e := by
  show (match numOf 0 a, numOf 1 b with
    | .error e, _ => e
    | _, .error e => e
    | .ok p, .ok q => says (if p < q then 0 else if p = q then 1 else 2)) = e
  rw [h1]
theorem order_err2 (h1 : numOf 0 a = .ok p) (h2 : numOf 1 b = .error e) : answer (.order a b) = e := by
  show (match numOf 0 a, numOf 1 b with
    | .error e, _ => e
    | _, .error e => e
    | .ok p, .ok q => says (if p < q then 0 else if p = q then 1 else 2)) = e
  rw [h1, h2]
theorem order_ok (h1 : numOf 0 a = .ok p) (h2 : numOf 1 b = .ok q) : answer (.order a b) = says (if p < q then 0 else if p = q then 1 else 2) := by
  show (match numOf 0 a, numOf 1 b with
    | .error e, _ => e
    | _, .error e => e
    | .ok p, .ok q => says (if p < q then 0 else if p = q then 1 else 2)) = _
  rw [h1, h2]
end
end NXM
namespace NXM
open EbNum EvenA
/-! ### how wide numbers get -/
/-- numerator below 2^a, denominator below 2^b -/
def Wd (a b : Nat) (q : Rat) : Prop := q.num.natAbs < 2 ^ a ∧ q.den < 2 ^ b
theorem Wd.le {a b c d : Nat} {q : Rat} (h : Wd a b q) (h1 : a ≤ c) (h2 : b ≤ d) : Wd c d q :=
  ⟨Nat.lt_of_lt_of_le h.1 (Nat.pow_le_pow_right (by decide) h1), Nat.lt_of_lt_of_le h.2 (Nat.pow_le_pow_right (by decide) h2)⟩
theorem Wd.fit {q : Rat} (h : fits q = true) : Wd 4096 4096 q := ⟨fits_num h, fits_den h⟩
theorem Wd.of_fits {q : Rat} (h : fits q = true) : Wd 8700 4400 q := (Wd.fit h).le (by decide) (by decide)
theorem Wd.neg {a b : Nat} {q : Rat} (h : Wd a b q) : Wd a b (-q) := ⟨by rw [neg_num, Int.natAbs_neg]; exact h.1, by rw [neg_den]; exact h.2⟩
theorem div_le_abs (n : Int) (g : Nat) : (n / (g : Int)).natAbs ≤ n.natAbs := by
  rcases Nat.eq_zero_or_pos g with z | z
  · subst z
    simp
  · rcases Int.le_total 0 n with c | c
    · obtain ⟨m, rfl⟩ := Int.eq_ofNat_of_zero_le c
      rw [← Int.natCast_ediv]
      exact Nat.div_le_self _ _
    · have e1 := Int.mul_ediv_add_emod n (g : Int)
      have e2 := Int.emod_nonneg n (show (g : Int) ≠ 0 by omega)
      have e3 := Int.emod_lt_of_pos n (show (0 : Int) < g by omega)
      generalize n / (g : Int) = q at *
      generalize n % (g : Int) = r at *
      by_cases y : 0 ≤ q
      · have : 0 ≤ (g : Int) * q := Int.mul_nonneg (by omega) y
        have : q ≤ (g : Int) * q := by
          have := Int.mul_le_mul_of_nonneg_right (show (1 : Int) ≤ g by omega) y
          omega
        omega
      · have : 0 ≤ ((g : Int) - 1) * (-q - 1) := Int.mul_nonneg (by omega) (by omega)
        have e : ((g : Int) - 1) * (-q - 1) = -((g : Int) * q) + q - g + 1 := by
          rw [Int.sub_mul, Int.mul_sub, Int.mul_neg]
          omega
        omega
theorem mk_num_le {n : Int} {d : Nat} (h : 0 < d) : (mkRat n d).num.natAbs ≤ n.natAbs := by
  rw [Rat.num_mkRat, if_neg (by omega)]
  exact div_le_abs _ _
theorem mk_den_le {n : Int} {d : Nat} (h : 0 < d) : (mkRat n d).den ≤ d := by
  rw [Rat.den_mkRat, if_neg (by omega)]
  exact Nat.div_le_self _ _
theorem mk_wide {a b : Nat} {n : Int} {d : Nat} (h : 0 < d) (h1 : n.natAbs < 2 ^ a) (h2 : d < 2 ^ b) : Wd a b (mkRat n d) :=
  ⟨Nat.lt_of_le_of_lt (mk_num_le h) h1, Nat.lt_of_le_of_lt (mk_den_le h) h2⟩
theorem mul_lt2 {x y a b : Nat} (h1 : x < 2 ^ a) (h2 : y < 2 ^ b) : x * y < 2 ^ (a + b) := by
  rw [Nat.pow_add]
  exact Nat.mul_lt_mul_of_lt_of_lt h1 h2
theorem two_twice (n : Nat) : 2 ^ n + 2 ^ n = 2 ^ (n + 1) := by rw [Nat.pow_succ]; omega
theorem Wd.den_pos (q : Rat) : 0 < q.den := Nat.pos_of_ne_zero q.den_nz
theorem Wd.sum {a b c d : Nat} {p q : Rat} (h1 : Wd a b p) (h2 : Wd c d q) : (p.num * (q.den : Int) + q.num * (p.den : Int)).natAbs < 2 ^ (a + b + c + d) ∧ p.den * q.den < 2 ^ (b + d) := by
  have x := mul_lt2 h1.1 h2.2
  have y := mul_lt2 h2.1 h1.2
  have z := mul_lt2 h1.2 h2.2
  refine ⟨?_, z⟩
  have e := Int.natAbs_add_le (p.num * (q.den : Int)) (q.num * (p.den : Int))
  rw [Int.natAbs_mul, Int.natAbs_mul, Int.natAbs_natCast, Int.natAbs_natCast] at e
  have pn := Wd.den_pos p
  have qn := Wd.den_pos q
  have b0 : 0 < b := by
    rcases Nat.eq_zero_or_pos b with w | w
    · have := h1.2
      rw [w] at this
      omega
    · exact w
  have d0 : 0 < d := by
    rcases Nat.eq_zero_or_pos d with w | w
    · have := h2.2
      rw [w] at this
      omega
    · exact w
  have x1 : 2 ^ (a + d) ≤ 2 ^ (a + b + c + d - 1) := Nat.pow_le_pow_right (by decide) (by omega)
  have y1 : 2 ^ (c + b) ≤ 2 ^ (a + b + c + d - 1) := Nat.pow_le_pow_right (by decide) (by omega)
  have t := two_twice (a + b + c + d - 1)
  rw [show a + b + c + d - 1 + 1 = a + b + c + d by omega] at t
  omega
theorem Wd.add {a b c d : Nat} {p q : Rat} (h1 : Wd a b p) (h2 : Wd c d q) : Wd (a + b + c + d) (b + d) (p + q) := by
  rw [Rat.add_def']
  exact mk_wide (Nat.mul_pos (Wd.den_pos p) (Wd.den_pos q)) (h1.sum h2).1 (h1.sum h2).2
theorem dig_wide {t : List UInt8} {p : Nat} (h : (dig t p).length ≤ 1300) : number (dig t p) < 2 ^ 4320 :=
  Nat.lt_trans (Nat.lt_of_lt_of_le (number_lt _ (takeWhile_digits _)) (Nat.pow_le_pow_right (by decide) h)) ten1300
theorem ten_wide {n : Nat} (h : n ≤ 1300) : 10 ^ n < 2 ^ 4320 := Nat.lt_of_le_of_lt (Nat.pow_le_pow_right (by decide) h) ten1300
/-- what a part tells isn't wider than its digits -/
theorem part_wide {t : List UInt8} {p : Nat} {q : Rat} {rest : List UInt8} (h : partAt p (t.drop p) = .ok (q, rest)) : Wd 8700 4400 q := by
  by_cases h0 : dig t p = []
  · rw [part_none h0] at h; cases h
  by_cases h1 : 1300 < (dig t p).length
  · rw [part_many h1] at h; cases h
  have h1' : (dig t p).length ≤ 1300 := by omega
  have wn := dig_wide h1'
  by_cases h46 : t[p + (dig t p).length]? = some 46
  · by_cases b0 : dig t (p + (dig t p).length + 1) = []
    · rw [part_pt_none h0 h1' h46 b0] at h; cases h
    by_cases b1 : 1300 < (dig t (p + (dig t p).length + 1)).length
    · rw [part_pt_many h0 h1' h46 b1] at h; cases h
    have b1' : (dig t (p + (dig t p).length + 1)).length ≤ 1300 := by omega
    rw [part_pt h0 h1' h46 b0 b1'] at h
    injection h with h
    injection h with h2 h3
    subst h2
    have wm := dig_wide b1'
    have wt := ten_wide b1'
    refine mk_wide (Nat.pow_pos (by decide)) ?_ (Nat.lt_of_lt_of_le wt (Nat.pow_le_pow_right (by decide) (by decide)))
    rw [Int.natAbs_natCast]
    have m := mul_lt2 wn wt
    have e : 2 ^ 4320 ≤ 2 ^ 8640 := Nat.pow_le_pow_right (by decide) (by decide)
    have e2 : 2 ^ 8640 + 2 ^ 8640 = 2 ^ 8641 := two_twice 8640
    have e3 : 2 ^ 8641 ≤ 2 ^ 8700 := Nat.pow_le_pow_right (by decide) (by decide)
    have m' : number (dig t p) * 10 ^ (dig t (p + (dig t p).length + 1)).length < 2 ^ 8640 := m
    omega
  by_cases h47 : t[p + (dig t p).length]? = some 47
  · by_cases b0 : dig t (p + (dig t p).length + 1) = []
    · rw [part_st_none h0 h1' h47 b0] at h; cases h
    by_cases b1 : 1300 < (dig t (p + (dig t p).length + 1)).length
    · rw [part_st_many h0 h1' h47 b1] at h; cases h
    have b1' : (dig t (p + (dig t p).length + 1)).length ≤ 1300 := by omega
    by_cases z : number (dig t (p + (dig t p).length + 1)) = 0
    · rw [part_st_zero h0 h1' h47 b0 b1' z] at h; cases h
    rw [part_st h0 h1' h47 b0 b1' z] at h
    injection h with h
    injection h with h2 h3
    subst h2
    refine mk_wide (by omega) ?_ (Nat.lt_of_lt_of_le (dig_wide b1') (Nat.pow_le_pow_right (by decide) (by decide)))
    rw [Int.natAbs_natCast]
    exact Nat.lt_of_lt_of_le wn (Nat.pow_le_pow_right (by decide) (by decide))
  rw [part_whole h0 h1' h46 h47] at h
  injection h with h
  injection h with h2 h3
  subst h2
  refine ⟨?_, ?_⟩
  · rw [rat_num, Int.natAbs_natCast]
    exact Nat.lt_of_lt_of_le wn (Nat.pow_le_pow_right (by decide) (by decide))
  · rw [rat_den]
    exact Nat.one_lt_two_pow (by decide)
theorem signed_wide {t : List UInt8} {p : Nat} {q : Rat} {rest : List UInt8} (h : signedAt p (t.drop p) = .ok (q, rest)) : Wd 8700 4400 q := by
  by_cases m : t[p]? = some 45
  · rw [signed_minus m] at h
    cases e : partAt (p + 1) (t.drop (p + 1)) with
    | error k =>
      rw [e] at h
      cases h
    | ok x =>
      obtain ⟨q1, r1⟩ := x
      rw [e] at h
      injection h with h
      injection h with h1 h2
      subst h1
      exact (part_wide e).neg
  · rw [signed_plain m] at h
    exact part_wide h
/-! holds, by what two comparisons say -/
theorem order_ne2 {p q : Rat} : ((if p < q then 0 else if p = q then 1 else 2 : Int) = 2) ↔ ¬ p ≤ q := by
  by_cases a : p < q
  · rw [if_pos a]
    exact ⟨fun z => absurd z (by decide), fun z => absurd (Rat.le_of_lt a) z⟩
  · rw [if_neg a]
    by_cases b : p = q
    · rw [if_pos b]
      exact ⟨fun z => absurd z (by decide), fun z => absurd (by rw [b]; exact Rat.le_refl) z⟩
    · rw [if_neg b]
      refine ⟨fun _ z => b (Rat.le_antisymm z (Rat.not_lt.mp a)), fun _ => rfl⟩
end NXM
namespace L2.NX
open PySem PySem.Spec PyProof.Rows
open EbNum
/-! ### two numbers -/
def spChkO (K : PySem.W.Frag) (R : Addr) : Sp := fun vs H Q E => ∃ w : Int, vs = [.int w] ∧ (3 < w → Ref K R E [-1]) ∧ (w ≤ 3 → Q .non H)
def spComp (CR : Addr) : Sp := fun vs H Q _ => ∃ (x y : Addr) (p q : Rat), vs = [.ref x, .ref y] ∧ Ins CR H x (rtF p.num p.den) ∧ Ins CR H y (rtF q.num q.den) ∧ NXM.Wd 26200 8900 p ∧ NXM.Wd 26200 8900 q ∧ Q (.int (if p < q then 0 else if p = q then 1 else 2)) H
def spPair (CR : Addr) (g : Rat → Rat → Rat) : Sp := fun vs H Q _ => ∃ (x y : Addr) (p q : Rat), vs = [.ref x, .ref y] ∧ Ins CR H x (rtF p.num p.den) ∧ Ins CR H y (rtF q.num q.den) ∧ NXM.Wd 8700 4400 p ∧ NXM.Wd 8700 4400 q ∧
  ∀ z H', Ins CR H' z (rtF (g p q).num (g p q).den) → Same H H' → Q (.ref z) H'
def spChkF (K : PySem.W.Frag) (R CR : Addr) : Sp := fun vs H Q E => ∃ (x : Addr) (q : Rat), vs = [.ref x] ∧ Ins CR H x (rtF q.num q.den) ∧ (fits q = false → Ref K R E [-6]) ∧ (fits q = true → Q .non H)
def spInv (K : PySem.W.Frag) (R CR : Addr) : Sp := fun vs H Q E => ∃ (x : Addr) (q : Rat), vs = [.ref x] ∧ Ins CR H x (rtF q.num q.den) ∧ (q = 0 → Ref K R E [-5]) ∧
  (q ≠ 0 → ∀ z H', Ins CR H' z (rtF (q⁻¹).num (q⁻¹).den) → Same H H' → Q (.ref z) H')
def spMade (K : PySem.W.Frag) (R CR : Addr) : Sp := fun vs H Q E => ∃ (x y : Addr) (p q : Rat) (op : Nat), vs = [.int op, .ref x, .ref y] ∧ op ≤ 3 ∧ Ins CR H x (rtF p.num p.den) ∧ Ins CR H y (rtF q.num q.den) ∧ fits p = true ∧ fits q = true ∧
  (op = 3 ∧ q = 0 → Ref K R E [-5]) ∧ (¬ (op = 3 ∧ q = 0) → fits (EvenA.opOf op p q) = false → Ref K R E [-6]) ∧
  (¬ (op = 3 ∧ q = 0) → fits (EvenA.opOf op p q) = true → ∀ z H', Ins CR H' z (rtF (EvenA.opOf op p q).num (EvenA.opOf op p q).den) → Same H H' → Q (.ref z) H')
def spTwo (K : PySem.W.Frag) : Sp := fun vs H Q _ => ∃ (a b : Addr) (t u : List UInt8) (op : Nat), vs = [.int op, .ref a, .ref b] ∧ SqL K H a (ofB t) ∧ t.length ≤ 5000 ∧ SqL K H b (ofB u) ∧ u.length ≤ 5000 ∧
  ∀ p H', H' p = some (.lst ((EvenANeutral.shown (EvenA.answer (.two op t u))).map V.int)) → Q (.ref p) H'
def spOrder (K : PySem.W.Frag) : Sp := fun vs H Q _ => ∃ (a b : Addr) (t u : List UInt8), vs = [.ref a, .ref b] ∧ SqL K H a (ofB t) ∧ t.length ≤ 5000 ∧ SqL K H b (ofB u) ∧ u.length ≤ 5000 ∧
  ∀ p H', H' p = some (.lst ((EvenANeutral.shown (EvenA.answer (.order t u))).map V.int)) → Q (.ref p) H'
theorem nat_in3 {n : Int} (h : (PySem.W.Codec.int 0 4294967295).within n = true) : ((n.toNat : Nat) : Int) = n := by
  obtain ⟨q1, _⟩ := Bool.and_eq_true_iff.mp h
  have q3 : 0 ≤ n := of_decide_eq_true q1
  omega
end L2.NX
namespace L2.NX
open PySem PySem.Spec PyProof.Rows
open EbNum
section
variable {P : Program} {w : World} {K : PySem.W.Frag} {mg : Str → Option Value} {base : Heap} {R C C2 CF CR f : Addr} {fd : FuncData}
theorem scDnfI : FnScope ["self"] ["self"] (defScope sDnfI) := ⟨rfl, rfl, rfl, by decide +kernel, rfl, by decide +kernel, by decide +kernel⟩
theorem ok_dnfI (F : Fun K "__init__" "DoesNotFit.__init__" sDnfI f fd) (B : OwX P w K mg base R CX0 1 "Refused" "__init__" ["self", "answer"] (spRefI K R)) :
    FnOk P w K mg base CX0 2 f fd ["self"] (spErr K R (fun ns => ns = []) (fun _ => [-6])) := by
  obtain ⟨f1, fd1, mc, F1, g1, rd1, cv1, k1, b1⟩ := B
  refine F.ok scDnfI (fun vs H Q E h => ?_) (fun cdv A outer s H vs Q E hr h => ?_)
  · obtain ⟨a, C, ns, rfl, rfl, _⟩ := h
    rfl
  · obtain ⟨a, C, ns, rfl, rfl, T, ha, k⟩ := h
    refine ⟨_, pss_one (ps_expr (pe_own rfl g1 rd1 cv1 k1 F1 hr b1 pass0 (pa_cons (pv 0) (pa_cons (pe_lst (pa_cons (pe_un un_neg pe_int) pa_nil)) pa_nil)))), ?_⟩
    refine ⟨_, rfl, _, rfl, (by show 1 ≤ sizeLine; decide), fun l hl => ?_⟩
    have al : a ≠ l := ne_of_none ha hl
    refine ⟨a, C, _, rfl, T, (by rw [upd_ne al]; exact ha), fun d hd da => ?_⟩
    have dl : d ≠ l := fun z => by
      rw [z, upd_same] at hd
      cases hd
    rw [upd_ne dl] at hd
    exact k d l hd hl da al.symm dl
theorem scChkF : FnScope ["number"] ["number"] (defScope sChkF) := ⟨rfl, rfl, rfl, by decide +kernel, rfl, by decide +kernel, by decide +kernel⟩
theorem ok_chkF (F : Fun K "check_fits" "check_fits" sChkF f fd) (T : FnX P w K mg base CX0 1 "fits" ["number"] (spFits CR))
    (B : ErX P w K mg base R C CX0 2 "DoesNotFit" ["self"] (spErr K R (fun ns => ns = []) (fun _ => [-6]))) : FnOk P w K mg base (L2.CX P w) 4 f fd ["number"] (spChkF K R CR) := by
  obtain ⟨fT, fdT, FT, gT, kT, bT⟩ := T
  obtain ⟨fB, fdB, FB, TB, iB, tB, gB, bB⟩ := B
  refine F.okX scChkF (fun vs H Q E h => ?_) (fun cdv A outer s H vs Q E hr h => ?_)
  · obtain ⟨x, q, rfl, _⟩ := h
    rfl
  · obtain ⟨x, q, rfl, ix, kE, kQ⟩ := h
    refine ⟨_, pss_one (ps_if (pt_not (pt_val (pe_call FT (hr.mono (by decide)) rfl gT kT bT .nil pass0 (by exact (pa_cons (pv 0) pa_nil)))))
        (pss_one (ps_raise rfl (W := fun cls d _ H => E cls d H) (takes_of rfl rfl rfl rfl) (pmk_x0 TB iB tB FB hr bB pass0 rfl gB))) pss_nil), ?_⟩
    refine ⟨_, rfl, x, q, rfl, ix, _, rfl, ?_⟩
    cases ft : fits q with
    | true =>
      refine iteF ?_
      exact kQ ft
    | false =>
      refine iteT ?_
      exact ⟨(by show 0 ≤ 1000; decide), err_end (ns := []) TB rfl (kE ft)⟩
end
end L2.NX
namespace NXM
open EbNum EvenA
/-! ### a value with its bound, read -/
theorem want_eq {t : List UInt8} {p : Nat} {c : UInt8} {r : List UInt8} : wantAt p (c :: r) (t.drop p) = if t[p]? = some c then wantAt (p + 1) r (t.drop (p + 1)) else .error p := by
  cases h : t[p]? with
  | none =>
    have e : t.drop p = [] := List.drop_eq_nil_iff.mpr (List.getElem?_eq_none_iff.mp h)
    rw [e, if_neg (by intro z; cases z)]
    rfl
  | some x =>
    rw [drop_at h]
    show (if c = x then wantAt (p + 1) r (t.drop (p + 1)) else .error p) = _
    by_cases z : c = x
    · rw [if_pos z, if_pos (by rw [z])]
    · rw [if_neg z, if_neg (fun y => z (Option.some.inj y).symm)]
theorem want_err {t : List UInt8} {l : List UInt8} {p j : Nat} {c : UInt8} (hj : l[j]? = some c) (h1 : ∀ i, i < j → t[p + i]? = l[i]?) (h2 : t[p + j]? ≠ some c) : wantAt p l (t.drop p) = .error (p + j) := by
  induction l generalizing p j with
  | nil => cases hj
  | cons x r ih =>
    rw [want_eq]
    cases j with
    | zero =>
      cases hj
      rw [if_neg (show ¬ t[p]? = some c from h2)]
      rfl
    | succ j =>
      have a : t[p]? = some x := h1 0 (by omega)
      rw [if_pos a]
      rw [ih (p := p + 1) (j := j) hj (fun i hi => ?_) (by rw [show p + 1 + j = p + (j + 1) by omega]; exact h2)]
      · congr 1
        omega
      · have := h1 (i + 1) (by omega)
        rw [show p + 1 + i = p + (i + 1) by omega]
        exact this
theorem want_ok {t : List UInt8} {l : List UInt8} {p : Nat} (h : ∀ i, i < l.length → t[p + i]? = l[i]?) : wantAt p l (t.drop p) = .ok (t.drop (p + l.length)) := by
  induction l generalizing p with
  | nil => rfl
  | cons x r ih =>
    have a : t[p]? = some x := h 0 (by simp)
    rw [want_eq, if_pos a, ih (p := p + 1) (fun i hi => ?_)]
    · rw [show p + 1 + r.length = p + (x :: r).length by simp; omega]
    · have := h (i + 1) (by simp; omega)
      rw [show p + 1 + i = p + (i + 1) by omega]
      exact this
theorem pm_eq : PM = [32, 43, 45, 32] := by decide +kernel
section
variable {t : List UInt8} {q r : Rat} {k j m : Nat} {e : Answer}
theorem shown_long (h : 4096 < t.length) : shownOf t = .error (says (-1)) := if_pos h
theorem len_drop (h : k ≤ t.length) : t.length - (t.drop k).length = k := by
  rw [List.length_drop]
  omega
theorem shown_e1 (h : ¬ 4096 < t.length) (h1 : signedAt 0 t = .error k) : shownOf t = .error (wrong 0 k) := by
  unfold shownOf readShown
  rw [if_neg (show ¬ LONG < t.length from h), h1]
theorem shown_e2 (h : ¬ 4096 < t.length) (h1 : signedAt 0 t = .ok (q, t.drop k)) (hk : k ≤ t.length) (h2 : wantAt k PM (t.drop k) = .error j) : shownOf t = .error (wrong 0 j) := by
  unfold shownOf readShown
  rw [if_neg (show ¬ LONG < t.length from h), h1]
  simp only [len_drop hk, h2]
theorem shown_e3 (h : ¬ 4096 < t.length) (h1 : signedAt 0 t = .ok (q, t.drop k)) (hk : k + 4 ≤ t.length) (h2 : wantAt k PM (t.drop k) = .ok (t.drop (k + 4))) (h3 : partAt (k + 4) (t.drop (k + 4)) = .error j) : shownOf t = .error (wrong 0 j) := by
  unfold shownOf readShown
  rw [if_neg (show ¬ LONG < t.length from h), h1]
  simp only [len_drop (show k ≤ t.length by omega), h2, len_drop hk, h3]
theorem shown_e4 (h : ¬ 4096 < t.length) (h1 : signedAt 0 t = .ok (q, t.drop k)) (hk : k + 4 ≤ t.length) (h2 : wantAt k PM (t.drop k) = .ok (t.drop (k + 4))) (h3 : partAt (k + 4) (t.drop (k + 4)) = .ok (r, t.drop m)) (lt : m < t.length) : shownOf t = .error (wrong 0 m) := by
  unfold shownOf readShown
  rw [if_neg (show ¬ LONG < t.length from h), h1]
  have ne : t.drop m ≠ [] := fun z => by
    have := List.drop_eq_nil_iff.mp z
    omega
  simp only [len_drop (show k ≤ t.length by omega), h2, len_drop hk, h3, if_neg ne, len_drop (show m ≤ t.length by omega)]
theorem shown_ok (h : ¬ 4096 < t.length) (h1 : signedAt 0 t = .ok (q, t.drop k)) (hk : k + 4 ≤ t.length) (h2 : wantAt k PM (t.drop k) = .ok (t.drop (k + 4))) (h3 : partAt (k + 4) (t.drop (k + 4)) = .ok (r, t.drop m)) (full : ¬ m < t.length) : shownOf t = .ok (q, r) := by
  unfold shownOf readShown
  rw [if_neg (show ¬ LONG < t.length from h), h1]
  have nil : t.drop m = [] := List.drop_eq_nil_iff.mpr (by omega)
  simp only [len_drop (show k ≤ t.length by omega), h2, len_drop hk, h3, nil, if_true]
theorem split_err (h : shownOf t = .error e) : answer (.split t) = e := by
  show (match shownOf t with
    | .error e => e
    | .ok x => if (fits x.1 && fits x.2) = true then wholeB (exactText x.1 ++ (32 :: exactText x.2)) else says (-6)) = e
  rw [h]
theorem split_eq (h : shownOf t = .ok (q, r)) : answer (.split t) = if (fits q && fits r) = true then wholeB (exactText q ++ (32 :: exactText r)) else says (-6) := by
  show (match shownOf t with
    | .error e => e
    | .ok x => if (fits x.1 && fits x.2) = true then wholeB (exactText x.1 ++ (32 :: exactText x.2)) else says (-6)) = _
  rw [h]
theorem split_ok (h : shownOf t = .ok (q, r)) (f1 : fits q = true) (f2 : fits r = true) : answer (.split t) = wholeB (exactText q ++ (32 :: exactText r)) := by
  rw [split_eq h, if_pos (by rw [f1, f2]; rfl)]
theorem split_no1 (h : shownOf t = .ok (q, r)) (f1 : fits q = false) : answer (.split t) = says (-6) := by
  rw [split_eq h, if_neg (by rw [f1, Bool.false_and]; exact Bool.false_ne_true)]
theorem split_no2 (h : shownOf t = .ok (q, r)) (f2 : fits r = false) : answer (.split t) = says (-6) := by
  rw [split_eq h, if_neg (by rw [f2, Bool.and_false]; exact Bool.false_ne_true)]
variable {v b : List UInt8} {x : Rat × Rat} {p : Rat}
theorem holds_err0 (h : shownOf t = .error e) : answer (.holds t v b) = e := by
  show (match shownOf t, numOf 1 v, numOf 2 b with
    | .error e, _, _ => e
    | _, .error e, _ => e
    | _, _, .error e => e
    | .ok x, .ok p, .ok q => if q < 0 then says (-2) else says (if x.1 - x.2 ≤ p - q ∧ p + q ≤ x.1 + x.2 then 1 else 0)) = _
  rw [h]
theorem holds_err1 (h : shownOf t = .ok x) (h1 : numOf 1 v = .error e) : answer (.holds t v b) = e := by
  show (match shownOf t, numOf 1 v, numOf 2 b with
    | .error e, _, _ => e
    | _, .error e, _ => e
    | _, _, .error e => e
    | .ok x, .ok p, .ok q => if q < 0 then says (-2) else says (if x.1 - x.2 ≤ p - q ∧ p + q ≤ x.1 + x.2 then 1 else 0)) = _
  rw [h, h1]
theorem holds_err2 (h : shownOf t = .ok x) (h1 : numOf 1 v = .ok p) (h2 : numOf 2 b = .error e) : answer (.holds t v b) = e := by
  show (match shownOf t, numOf 1 v, numOf 2 b with
    | .error e, _, _ => e
    | _, .error e, _ => e
    | _, _, .error e => e
    | .ok x, .ok p, .ok q => if q < 0 then says (-2) else says (if x.1 - x.2 ≤ p - q ∧ p + q ≤ x.1 + x.2 then 1 else 0)) = _
  rw [h, h1, h2]
theorem holds_eq (h : shownOf t = .ok x) (h1 : numOf 1 v = .ok p) (h2 : numOf 2 b = .ok q) : answer (.holds t v b) = if q < 0 then says (-2) else says (if x.1 - x.2 ≤ p - q ∧ p + q ≤ x.1 + x.2 then 1 else 0) := by
  show (match shownOf t, numOf 1 v, numOf 2 b with
    | .error e, _, _ => e
    | _, .error e, _ => e
    | _, _, .error e => e
    | .ok x, .ok p, .ok q => if q < 0 then says (-2) else says (if x.1 - x.2 ≤ p - q ∧ p + q ≤ x.1 + x.2 then 1 else 0)) = _
  rw [h, h1, h2]
theorem holds_neg (h : shownOf t = .ok x) (h1 : numOf 1 v = .ok p) (h2 : numOf 2 b = .ok q) (n : q < 0) : answer (.holds t v b) = says (-2) := by
  rw [holds_eq h h1 h2, if_pos n]
theorem holds_ok (h : shownOf t = .ok x) (h1 : numOf 1 v = .ok p) (h2 : numOf 2 b = .ok q) (n : ¬ q < 0) : answer (.holds t v b) = says (if x.1 - x.2 ≤ p - q ∧ p + q ≤ x.1 + x.2 then 1 else 0) := by
  rw [holds_eq h h1 h2, if_neg n]
end
theorem neg_iff {q : Rat} : q < 0 ↔ q.num < 0 := by
  rw [← Rat.not_le, ← Rat.num_nonneg]
  omega
end NXM
namespace L2.NX
open PySem PySem.Spec PyProof.Rows
open EbNum
/-! ### a value with its bound -/
abbrev bdF (x y : Addr) : List (Str × V) := [("value", .ref x), ("bound", .ref y)]
theorem bd_val {x y : Addr} : (bdF x y).lookup ("value" : Str) = some (.ref x) := look_hd
theorem bd_bnd {x y : Addr} : (bdF x y).lookup ("bound" : Str) = some (.ref y) := (look_tl (by decide +kernel)).trans look_hd
theorem bd_no {x y : Addr} {m : Str} (h1 : (m == ("value" : Str)) = false) (h2 : (m == ("bound" : Str)) = false) : (bdF x y).lookup m = none := (look_tl h1).trans ((look_tl h2).trans rfl)
theorem bd_make {x y : Addr} : putF ("bound" : Str) (.ref y) (putF ("value" : Str) (.ref x) []) = bdF x y := by
  show putF ("bound" : Str) (.ref y) [("value", .ref x)] = _
  rw [putF_tl (by decide +kernel)]
  rfl
/-- a value with its bound stands at g -/
def Bnd (CB CR : Addr) (H : Hp) (g : Addr) (p q : Rat) : Prop := ∃ x y, Ins CB H g (bdF x y) ∧ Ins CR H x (rtF p.num p.den) ∧ Ins CR H y (rtF q.num q.den)
theorem Bnd.same {CB CR : Addr} {H H' : Hp} {g : Addr} {p q : Rat} (b : Bnd CB CR H g p q) (s : Same H H') : Bnd CB CR H' g p q := by
  obtain ⟨x, y, h1, h2, h3⟩ := b
  exact ⟨x, y, h1.same s, h2.same s, h3.same s⟩
theorem Same.trans {H H1 H2 : Hp} (a : Same H H1) (b : Same H1 H2) : Same H H2 := fun c o e => b c o (a c o e)
/-- a number isn't a reader -/
theorem rt_not_rd {CR CF : Addr} {H : Hp} {x r : Addr} {n d : Int} {a : Addr} {u p : Int} (h1 : Ins CR H x (rtF n d)) (h2 : Ins CF H r (rdF a u p)) : x ≠ r := by
  intro e
  subst e
  obtain ⟨d1, e1⟩ := h1
  obtain ⟨d2, e2⟩ := h2
  rw [e1] at e2
  injection e2 with e2
  injection e2 with _ _ e3
  exact absurd (congrArg List.length e3) (by show ¬ 2 = 3; decide)
def spBdI (C : Addr) : Sp := fun vs H Q _ => ∃ (g dx x y : Addr), vs = [.ref g, .ref x, .ref y] ∧ H g = some (.ins C dx []) ∧ Q .non (upd H g (.ins C dx (bdF x y)))
def spChkN (K : PySem.W.Frag) (R CR : Addr) : Sp := fun vs H Q E => ∃ (x : Addr) (q : Rat), vs = [.ref x] ∧ Ins CR H x (rtF q.num q.den) ∧ (q < 0 → Ref K R E [-2]) ∧ (¬ q < 0 → Q .non H)
/-- read, up to m -/
def PartB (t : List UInt8) (q r : Rat) (m : Nat) : Prop := ∃ k, signedAt 0 t = .ok (q, t.drop k) ∧ k + 4 ≤ t.length ∧ wantAt k PM (t.drop k) = .ok (t.drop (k + 4)) ∧ partAt (k + 4) (t.drop (k + 4)) = .ok (r, t.drop m) ∧ m ≤ t.length
def spBounded (K : PySem.W.Frag) (R CF CR CB : Addr) : Sp := fun vs H Q E => ∃ (r a : Addr) (t : List UInt8), vs = [.ref r] ∧ Ins CF H r (rdF a ((0 : Nat) : Int) ((0 : Nat) : Int)) ∧ SqL K H a (ofB t) ∧ t.length ≤ 5000 ∧ ¬ 4096 < t.length ∧
  (∀ k : Nat, EvenA.shownOf t = .error (EvenA.wrong 0 k) → Ref K R E [-3, 0, k]) ∧
  (∀ q s m, PartB t q s m → ∀ g H', Bnd CB CR H' g q s → Ins CF H' r (rdF a ((0 : Nat) : Int) ((m : Nat) : Int)) → Upto r H H' → Q (.ref g) H')
def spReadB (K : PySem.W.Frag) (R CR CB : Addr) : Sp := fun vs H Q E => ∃ (a : Addr) (t : List UInt8), vs = [.ref a, .int 0] ∧ SqL K H a (ofB t) ∧ t.length ≤ 5000 ∧
  (∀ e, EvenA.shownOf t = .error e → Ref K R E (EvenANeutral.shown e)) ∧
  (∀ q s, EvenA.shownOf t = .ok (q, s) → NXM.Wd 8700 4400 q → NXM.Wd 8700 4400 s → ∀ g H', Bnd CB CR H' g q s → Same H H' → Q (.ref g) H')
def spGiven (K : PySem.W.Frag) (R CR CB : Addr) : Sp := fun vs H Q E => ∃ (a b : Addr) (n : Nat) (t u : List UInt8), vs = [.ref a, .ref b, .int n] ∧ SqL K H a (ofB t) ∧ t.length ≤ 5000 ∧ SqL K H b (ofB u) ∧ u.length ≤ 5000 ∧
  (∀ e, EvenA.numOf n t = .error e → Ref K R E (EvenANeutral.shown e)) ∧
  (∀ p, EvenA.numOf n t = .ok p → ∀ e, EvenA.numOf (n + 1) u = .error e → Ref K R E (EvenANeutral.shown e)) ∧
  (∀ p q, EvenA.numOf n t = .ok p → EvenA.numOf (n + 1) u = .ok q → q < 0 → Ref K R E [-2]) ∧
  (∀ p q, EvenA.numOf n t = .ok p → EvenA.numOf (n + 1) u = .ok q → ¬ q < 0 → ∀ g H', Bnd CB CR H' g p q → Same H H' → Q (.ref g) H')
def spEnd (CB CR : Addr) (f : Rat → Rat → Rat) : Sp := fun vs H Q _ => ∃ (g : Addr) (p q : Rat), vs = [.ref g] ∧ Bnd CB CR H g p q ∧ NXM.Wd 8700 4400 p ∧ NXM.Wd 8700 4400 q ∧ ∀ z H', Ins CR H' z (rtF (f p q).num (f p q).den) → Same H H' → Q (.ref z) H'
def spWithin (CB CR : Addr) : Sp := fun vs H Q _ => ∃ (g1 g2 : Addr) (p q v b : Rat), vs = [.ref g1, .ref g2] ∧ Bnd CB CR H g1 p q ∧ Bnd CB CR H g2 v b ∧ NXM.Wd 8700 4400 p ∧ NXM.Wd 8700 4400 q ∧ NXM.Wd 8700 4400 v ∧ NXM.Wd 8700 4400 b ∧
  ∀ H', Q (.bl (decide (v - b ≤ p - q ∧ p + q ≤ v + b))) H'
def spSplit (K : PySem.W.Frag) : Sp := fun vs H Q _ => ∃ (a : Addr) (t : List UInt8), vs = [.ref a] ∧ SqL K H a (ofB t) ∧ t.length ≤ 5000 ∧
  ∀ p H', H' p = some (.lst ((EvenANeutral.shown (EvenA.answer (.split t))).map V.int)) → Q (.ref p) H'
def spHolds (K : PySem.W.Frag) : Sp := fun vs H Q _ => ∃ (a b c : Addr) (t u s : List UInt8), vs = [.ref a, .ref b, .ref c] ∧ SqL K H a (ofB t) ∧ t.length ≤ 5000 ∧ SqL K H b (ofB u) ∧ u.length ≤ 5000 ∧ SqL K H c (ofB s) ∧ s.length ≤ 5000 ∧
  ∀ p H', H' p = some (.lst ((EvenANeutral.shown (EvenA.answer (.holds t u s))).map V.int)) → Q (.ref p) H'
/-- the four bytes -/
theorem pm_txt : IsTxt (Str.ofString " +- ") PM := .of rfl
theorem pm_len : (Str.ofString " +- ").cps.size = 4 := by decide +kernel
theorem want_len : PM.length = 4 := by rw [NXM.pm_eq]; rfl
theorem PartB.wide {t : List UInt8} {q r : Rat} {m : Nat} (h : PartB t q r m) : NXM.Wd 8700 4400 q ∧ NXM.Wd 8700 4400 r := by
  obtain ⟨k, h1, _, _, h2, _⟩ := h
  exact ⟨NXM.signed_wide (p := 0) h1, NXM.part_wide h2⟩
end L2.NX
namespace L2.NX
open PySem PySem.Spec PyProof.Rows
open EbNum
section
variable {P : Program} {w : World} {K : PySem.W.Frag} {mg : Str → Option Value} {base : Heap} {R C C2 CF CR f : Addr} {fd : FuncData}
theorem scBelI : FnScope ["self"] ["self"] (defScope sBelI) := ⟨rfl, rfl, rfl, by decide +kernel, rfl, by decide +kernel, by decide +kernel⟩
theorem ok_belI (F : Fun K "__init__" "BelowNought.__init__" sBelI f fd) (B : OwX P w K mg base R CX0 1 "Refused" "__init__" ["self", "answer"] (spRefI K R)) :
    FnOk P w K mg base CX0 2 f fd ["self"] (spErr K R (fun ns => ns = []) (fun _ => [-2])) := by
  obtain ⟨f1, fd1, mc, F1, g1, rd1, cv1, k1, b1⟩ := B
  refine F.ok scBelI (fun vs H Q E h => ?_) (fun cdv A outer s H vs Q E hr h => ?_)
  · obtain ⟨a, C, ns, rfl, rfl, _⟩ := h
    rfl
  · obtain ⟨a, C, ns, rfl, rfl, T, ha, k⟩ := h
    refine ⟨_, pss_one (ps_expr (pe_own rfl g1 rd1 cv1 k1 F1 hr b1 pass0 (pa_cons (pv 0) (pa_cons (pe_lst (pa_cons (pe_un un_neg pe_int) pa_nil)) pa_nil)))), ?_⟩
    refine ⟨_, rfl, _, rfl, (by show 1 ≤ sizeLine; decide), fun l hl => ?_⟩
    have al : a ≠ l := ne_of_none ha hl
    refine ⟨a, C, _, rfl, T, (by rw [upd_ne al]; exact ha), fun d hd da => ?_⟩
    have dl : d ≠ l := fun z => by
      rw [z, upd_same] at hd
      cases hd
    rw [upd_ne dl] at hd
    exact k d l hd hl da al.symm dl
theorem scChkN : FnScope ["number"] ["number"] (defScope sChkN) := ⟨rfl, rfl, rfl, by decide +kernel, rfl, by decide +kernel, by decide +kernel⟩
theorem below_iff (q : Rat) : q < 0 ↔ q.num < 0 := by
  rw [← Rat.not_le, ← Rat.num_nonneg]
  omega
theorem ok_chkN (F : Fun K "check_not_below" "check_not_below" sChkN f fd) (c : Cls K CR) (n1 : NoAttr K CR "top")
    (B : ErX P w K mg base R C CX0 2 "BelowNought" ["self"] (spErr K R (fun ns => ns = []) (fun _ => [-2]))) : FnOk P w K mg base (L2.CX P w) 4 f fd ["number"] (spChkN K R CR) := by
  obtain ⟨fB, fdB, FB, TB, iB, tB, gB, bB⟩ := B
  refine F.okX scChkN (fun vs H Q E h => ?_) (fun cdv A outer s H vs Q E hr h => ?_)
  · obtain ⟨x, q, rfl, _⟩ := h
    rfl
  · obtain ⟨x, q, rfl, ⟨dx, hx⟩, kE, kQ⟩ := h
    refine ⟨_, pss_one (ps_if (pt_cmpR op_lt (pe_fld (pv 0) rfl) pe_int (nomark _))
        (pss_one (ps_raise rfl (W := fun cls d _ H => E cls d H) (takes_of rfl rfl rfl rfl) (pmk_x0 TB iB tB FB hr bB pass0 rfl gB))) pss_nil), ?_⟩
    refine ⟨_, rfl, x, CR, dx, _, _, rfl, hx, c, n1, rt_top, _, _, rfl, rfl, _, rfl, ?_⟩
    by_cases neg : q.num < 0
    · refine if_pos_of (decide_eq_true neg) ?_
      exact ⟨(by show 0 ≤ 1000; decide), err_end (ns := []) TB rfl (kE ((below_iff q).mpr neg))⟩
    · refine if_neg_of (decide_eq_false neg) ?_
      exact kQ (fun z => neg ((below_iff q).mp z))
end
end L2.NX
namespace L2.NX
open PySem PySem.Spec PyProof.Rows
open EbNum
section
variable {P : Program} {w : World} {K : PySem.W.Frag} {mg : Str → Option Value} {base : Heap} {R C C2 CF CR f : Addr} {fd : FuncData}
theorem scTold : FnScope ["text", "sign"] ["text"] (defScope sTold) := ⟨rfl, rfl, rfl, by decide +kernel, rfl, by decide +kernel, by decide +kernel⟩
theorem ok_told (F : Fun K "told_text" "told_text" sTold f fd) (len : mg "len" = none) (ord : mg "ord" = none) : FnOk P w K mg base CX0 1 f fd ["text"] spTold := by
  refine F.ok scTold (fun vs H Q E h => ?_) (fun cdv A outer s H vs Q E hr h => ?_)
  · obtain ⟨z, b, rfl, _⟩ := h
    rfl
  · obtain ⟨z, b, rfl, hz, hl, k⟩ := h
    refine ⟨_, pss_one (ps_ret (pe_op op_cat (pe_lst (pa_cons (pe_callB call_len_str (by rfl) len PySem.boot_len (pa_cons (pv 0) pa_nil)) pa_nil))
      (pe_lc (own := [("sign", 1)]) (g := gName 1) (tt := tYes) rfl scTold.nd (pi_str (pv 0)) (blkOk_by (N := ["text", "sign"]) (sc := defScope sTold) (by decide +kernel)) (fun _ _ _ _ _ => pg_name (i := 1) scTold.nd rfl (Or.inl rfl)) (fun _ _ _ _ _ => pts_nil)
        (fun _ _ _ _ _ => pe_callB call_ord (by rfl) ord (by decide +kernel) (pa_cons (pv 1) pa_nil))))), ?_⟩
    have zl : z.length ≤ sizeLine := by
      rw [hz.len, sizeLine_eq]
      omega
    refine ⟨_, rfl, z, rfl, zl, (by show 1 ≤ sizeLine; decide), fun l hl0 => ?_⟩
    refine ⟨_, rfl, z, rfl, fun D hD => ?_⟩
    have lD : l ≠ D := fun e => by
      rw [← e, upd_same] at hD
      cases hD
    rw [upd_ne lD.symm] at hD
    refine lc_it walk_str (fun i H' => H' D = some (.lst (ofB (b.take i))) ∧ H' l = some (.lst [.int b.length]) ∧ Same H H') ?_ (fun _ _ _ _ => True.intro) ?_ ?_
    · refine ⟨upd_same, ?_, fun c o e => ?_⟩
      · rw [upd_ne lD, upd_same]
        show some (HO.lst [V.int (z.length : Nat)]) = _
        rw [hz.len]
      · rw [upd_ne (ne_of_none e hD), upd_ne (ne_of_none e hl0)]
        exact e
    · rintro i x H1 H2 hi ⟨hD1, hl1, s1⟩ ⟨rfl, c, hc, rfl⟩
      obtain ⟨y, hy, rfl⟩ := hz.get hc
      refine ⟨rfl, ?_⟩
      refine ⟨_, rfl, _, rfl, rfl, _, hD1, ?_, ?_, ?_, fun c o e => ?_⟩
      · rw [List.length_map, List.length_take, sizeLine_eq]
        omega
      · rw [upd_same, List.take_add_one, hy]
        have e : ofB (b.take i ++ [y]) = ofB (b.take i) ++ [V.int (y.toNat : Int)] := List.map_append
        show some (HO.lst (ofB (b.take i) ++ [V.int (y.toNat : Int)])) = some (HO.lst (ofB (b.take i ++ [y])))
        rw [e]
      · rw [upd_ne lD]
        exact hl1
      · rw [upd_ne (ne_of_none e hD)]
        exact s1 c o e
    · rintro H1 ⟨hD1, hl1, s1⟩
      have full : b.take z.cps.size = b := List.take_of_length_le (by have := hz.len; show b.length ≤ z.length; omega)
      rw [full] at hD1
      refine ⟨l, D, _, _, rfl, rfl, hl1, hD1, ?_, fun p hp => ?_⟩
      · rw [List.length_map, sizeLine_eq]
        show 1 + b.length ≤ _
        omega
      · refine k p _ upd_same fun c o e => ?_
        rw [upd_ne (ne_of_none (s1 c o e) hp)]
        exact s1 c o e
end
end L2.NX
namespace L2.NX
open PySem PySem.Spec PyProof.Rows
theorem rep_list (c : Nat) : ∀ (n : Nat) (acc : Array Nat), ((List.replicate n (#[c] : Array Nat)).foldl (· ++ ·) acc).toList = acc.toList ++ List.replicate n c
  | 0, acc => by simp
  | n + 1, acc => by
    rw [List.replicate_succ, List.foldl_cons, rep_list c n, Array.toList_append, List.replicate_succ, List.append_assoc]
    rfl
section
variable {X : Cx}
/-- one sign, n times -/
theorem op_rep1 : OpR X (binaryOp .Mult) (fun x y H Q => ∃ (c : Nat) (n : Nat), x = .str ⟨#[c]⟩ ∧ y = .int n ∧ n ≤ 1000 ∧ ∀ z : Str, z.cps.toList = List.replicate n c → Q (.str z) H) := by
  intro pins s σ H x y v u Q I rx ry h
  obtain ⟨c, n, rfl, rfl, small, q⟩ := h
  obtain ⟨t, rfl⟩ := rx
  obtain ⟨t', rfl⟩ := ry
  by_cases n0 : (n : Int) < 1
  · refine PySem.P.mul_str_none n0 (by omega) ⟨.str Str.empty, H, I.tok _, ⟨_, rfl⟩, q _ ?_⟩
    have : n = 0 := by omega
    subst this
    rfl
  · refine PySem.P.mul_str ?_ ?_ ?_ ?_
    · have h1 : ¬ (n : Int) < -(2 ^ 63 : Int) := by omega
      have h2 : ¬ (n : Int) ≥ 2 ^ 63 := by omega
      rw [decide_eq_false h1, decide_eq_false h2]
      rfl
    · intro _ _ big
      have h1 : ((Str.mk #[c]).length : Int) = 1 := rfl
      rw [h1] at big
      have h2 : (1 : Int) ≤ (2 ^ 63 - 1) / (n : Int) := by
        rw [Int.le_ediv_iff_mul_le (by omega)]
        omega
      omega
    · intro _ _
      have h1 : (Str.mk #[c]).length = 1 := rfl
      unfold Builtin.Str.tooLong
      rw [h1, sizeLine_eq]
      exact decide_eq_false (by simp; omega)
    · rw [if_neg n0]
      by_cases one : ((n : Int) == 1 || (Str.mk #[c]).length == 0) = true
      · rw [if_pos one]
        have n1 : n = 1 := by
          have h1 : ((Str.mk #[c]).length == 0) = false := rfl
          rw [h1, Bool.or_false] at one
          have := beq_iff_eq.mp one
          omega
        subst n1
        exact ⟨.str ⟨#[c]⟩, H, I, ⟨_, rfl⟩, q _ rfl⟩
      · rw [if_neg one]
        have e := rep_list c n #[]
        have e2 : ((List.replicate n (#[c] : Array Nat)).foldl (· ++ ·) #[]).toList = List.replicate n c := by simpa using e
        refine ⟨?_, .str _, H, I.tok _, ⟨_, rfl⟩, q _ ?_⟩
        · have l := congrArg List.length e2
          rw [List.length_replicate, Array.length_toList] at l
          show ((List.replicate n (#[c] : Array Nat)).foldl (· ++ ·) #[]).size ≤ _
          rw [l, sizeLine_eq]
          omega
        · exact e2
end
end L2.NX
namespace NXM
open EbNum
/-! Decimal texts. -/
theorem map_inj {a b : List UInt8} (h : a.map UInt8.toNat = b.map UInt8.toNat) : a = b := by
  induction a generalizing b with
  | nil =>
    cases b with
    | nil => rfl
    | cons => simp at h
  | cons x r ih =>
    cases b with
    | nil => simp at h
    | cons y s =>
      simp only [List.map_cons, List.cons.injEq] at h
      rw [UInt8.toNat_inj.mp h.1, ih h.2]
theorem dec_digits (n : Nat) : (decimal n).map UInt8.toNat = (Nat.toDigits 10 n).map Char.toNat := digits_same _ _ Nat.lt_log2_self (by omega)
theorem dec_low {n : Nat} (h : n < 10) : decimal n = [UInt8.ofNat (48 + n)] := by
  apply map_inj
  rw [dec_digits, Nat.toDigits_of_lt_base h]
  simp only [List.map_cons, List.map_nil]
  rw [digit_char _ h, byte_nat (by omega)]
theorem dec_step {n : Nat} (h : 10 ≤ n) : decimal n = decimal (n / 10) ++ [UInt8.ofNat (48 + n % 10)] := by
  apply map_inj
  rw [List.map_append, dec_digits, dec_digits, Nat.toDigits_of_base_le (by decide) h, List.map_append]
  simp only [List.map_cons, List.map_nil]
  rw [digit_char _ (by omega), byte_nat (by omega)]
theorem dec_zero : decimal 0 = [48] := dec_low (by decide)
theorem padded_len : ∀ (d n : Nat), (padded d n).length = d
  | 0, _ => rfl
  | d + 1, n => by
    unfold padded
    rw [List.length_append, padded_len d]
    rfl
theorem ten_succ (d : Nat) : 10 ^ (d + 1) = 10 * 10 ^ d := by rw [Nat.pow_succ, Nat.mul_comm]
theorem dec_split : ∀ (d m : Nat), 10 ^ d ≤ m → decimal m = decimal (m / 10 ^ d) ++ padded d (m % 10 ^ d)
  | 0, m, _ => by
    rw [Nat.pow_zero, Nat.div_one]
    exact (List.append_nil _).symm
  | d + 1, m, h => by
    have p : 0 < 10 ^ d := Nat.pow_pos (by decide)
    rw [ten_succ] at h ⊢
    have h10 : 10 ≤ m := by omega
    have hd : 10 ^ d ≤ m / 10 := by
      rw [Nat.le_div_iff_mul_le (by decide)]
      omega
    rw [dec_step h10, dec_split d (m / 10) hd, Nat.div_div_eq_div_mul, List.append_assoc]
    congr 1
    show _ = padded d (m % (10 * 10 ^ d) / 10) ++ [UInt8.ofNat (48 + m % (10 * 10 ^ d) % 10)]
    rw [Nat.mod_mul_right_div_self, Nat.mod_mod_of_dvd _ (Nat.dvd_mul_right 10 _)]
theorem dec_pos_len (n : Nat) : 0 < (decimal n).length := by
  by_cases h : n < 10
  · rw [dec_low h]
    simp
  · rw [dec_step (by omega), List.length_append]
    simp
theorem pad_small : ∀ (d m : Nat), 0 < d → m < 10 ^ d → List.replicate (d - (decimal m).length) 48 ++ decimal m = padded d m
  | 0, _, h, _ => absurd h (by decide)
  | d + 1, m, _, h => by
    show _ = padded d (m / 10) ++ [UInt8.ofNat (48 + m % 10)]
    by_cases low : m < 10
    · rw [dec_low low, Nat.mod_eq_of_lt low, Nat.div_eq_of_lt low]
      have z : padded d 0 = List.replicate d 48 := by
        by_cases d0 : d = 0
        · subst d0
          rfl
        · rw [← pad_small d 0 (by omega) (Nat.pow_pos (by decide)), dec_zero]
          have e : d = (d - 1) + 1 := by omega
          conv => rhs; rw [e, List.replicate_succ']
          rfl
      rw [z]
      rfl
    · have d0 : 0 < d := by
        rcases Nat.eq_zero_or_pos d with e | e
        · subst e
          simp at h
          omega
        · exact e
      rw [ten_succ] at h
      rw [dec_step (by omega), ← pad_small d (m / 10) d0 (by omega), List.length_append]
      have e : d + 1 - ((decimal (m / 10)).length + [UInt8.ofNat (48 + m % 10)].length) = d - (decimal (m / 10)).length := by
        show d + 1 - (_ + 1) = _
        omega
      rw [e, List.append_assoc]
/-- noughts in front to d + 1 signs -/
def zf (d m : Nat) : List UInt8 := if d + 1 ≤ (decimal m).length then decimal m else List.replicate (d + 1 - (decimal m).length) 48 ++ decimal m
theorem zf_split {d m : Nat} (hd : 0 < d) : zf d m = decimal (m / 10 ^ d) ++ padded d (m % 10 ^ d) := by
  have p : 0 < 10 ^ d := Nat.pow_pos (by decide)
  by_cases big : 10 ^ d ≤ m
  · have l : d + 1 ≤ (decimal m).length := by
      rw [dec_split d m big, List.length_append, padded_len]
      have := dec_pos_len (m / 10 ^ d)
      omega
    unfold zf
    rw [if_pos l, dec_split d m big]
  · have lt : m < 10 ^ d := by omega
    have l : (decimal m).length ≤ d := dec_len lt hd
    unfold zf
    rw [if_neg (by omega), Nat.div_eq_of_lt lt, Nat.mod_eq_of_lt lt, dec_zero, ← pad_small d m hd lt]
    have e : d + 1 - (decimal m).length = (d - (decimal m).length) + 1 := by omega
    rw [e, List.replicate_succ]
    rfl
theorem dec_shift : ∀ (j m : Nat), 0 < m → decimal (m * 10 ^ j) = decimal m ++ List.replicate j 48
  | 0, m, _ => by simp
  | j + 1, m, h => by
    have p : 0 < m * 10 ^ j := Nat.mul_pos h (Nat.pow_pos (by decide))
    have e : m * 10 ^ (j + 1) = (m * 10 ^ j) * 10 := by rw [Nat.pow_succ, Nat.mul_assoc]
    rw [e, dec_step (by omega), Nat.mul_div_cancel _ (by decide), Nat.mul_mod_left, dec_shift j m h, List.append_assoc, List.replicate_succ']
    rfl
/-- units of a place, as they are written -/
theorem units_front {d n : Int} (hd : 0 < d) : unitsText d n = (if n < 0 then ascii "-" else []) ++ (decimal (n.natAbs / 10 ^ d.toNat) ++ (ascii "." ++ padded d.toNat (n.natAbs % 10 ^ d.toNat))) := by
  unfold unitsText
  simp only [if_neg (show ¬ d ≤ 0 by omega)]
theorem units_zero {d : Int} (hd : d ≤ 0) : unitsText d 0 = decimal 0 := by
  unfold unitsText
  simp only [if_pos hd]
  simp
theorem units_back {d n : Int} (hd : d ≤ 0) (h : n ≠ 0) : unitsText d n = (if n < 0 then ascii "-" else []) ++ (decimal n.natAbs ++ List.replicate (-d).toNat 48) := by
  unfold unitsText
  simp only [if_pos hd]
  rw [dec_shift _ _ (by omega)]
end NXM
namespace L2.NX
open PySem PySem.Spec PyProof.Rows
open EbNum
/-! ### places, rounding, units as texts -/
def spChkP (K : PySem.W.Frag) (R : Addr) : Sp := fun vs H Q E => ∃ d : Int, vs = [.int d] ∧ (isPlace d = false → Ref K R E [-1]) ∧ (isPlace d = true → Q .non H)
def spChkW (K : PySem.W.Frag) (R : Addr) : Sp := fun vs H Q E => ∃ w : Int, vs = [.int w] ∧ (4 < w → Ref K R E [-1]) ∧ (w ≤ 4 → Q .non H)
def spGoes : Sp := fun vs H Q _ => ∃ r b n w : Int, vs = [.int r, .int b, .int n, .int w] ∧ Q (.bl (NXM.goes r b n w)) H
def spRound (CR : Addr) : Sp := fun vs H Q _ => ∃ (x : Addr) (q : Rat) (d : Int) (w : Nat), vs = [.ref x, .int d, .int w] ∧ Ins CR H x (rtF q.num q.den) ∧ fits q = true ∧ isPlace d = true ∧ w < 5 ∧ Q (.int (unitsAt w d q)) H
def spUnits : Sp := fun vs H Q _ => ∃ n d : Int, vs = [.int n, .int d] ∧ isPlace d = true ∧ n.natAbs < 10 ^ 1300 ∧ ∀ z, IsTxt z (unitsText d n) → Q (.str z) H
def spAt (K : PySem.W.Frag) : Sp := fun vs H Q _ => ∃ (a : Addr) (t : List UInt8) (d : Int) (w : Nat), vs = [.int d, .int w, .ref a] ∧ SqL K H a (ofB t) ∧ t.length ≤ 5000 ∧ ∀ p H', H' p = some (.lst ((EvenANeutral.shown (EvenA.answer (.at_ t d w))).map V.int)) → Q (.ref p) H'
theorem place_in {d : Int} (h : isPlace d = true) : -60 ≤ d ∧ d ≤ 60 := by
  unfold isPlace at h
  obtain ⟨a, b⟩ := Bool.and_eq_true_iff.mp h
  exact ⟨of_decide_eq_true a, of_decide_eq_true b⟩
theorem place_is {d : Int} (h : -60 ≤ d) (g : d ≤ 60) : isPlace d = true := by
  unfold isPlace
  rw [decide_eq_true (show LOW ≤ d from h), decide_eq_true (show d ≤ HIGH from g)]
  rfl
theorem place_low {d : Int} (h : d < -60) : isPlace d = false := by
  unfold isPlace
  rw [decide_eq_false (show ¬ LOW ≤ d by unfold LOW; omega)]
  rfl
theorem place_high {d : Int} (h : 60 < d) : isPlace d = false := by
  unfold isPlace
  rw [decide_eq_false (show ¬ d ≤ HIGH by unfold HIGH; omega), Bool.and_false]
theorem max0 (d : Int) : (if (0 : Int) > d then 0 else d) = ((d.toNat : Nat) : Int) := by
  by_cases h : (0 : Int) > d
  · rw [if_pos h]
    omega
  · rw [if_neg h]
    omega
theorem div_small {T B : Int} (h : 0 < B) : (T / B).natAbs ≤ T.natAbs := by
  have e1 := Int.mul_ediv_add_emod T B
  have e2 := Int.emod_nonneg T (show B ≠ 0 by omega)
  have e3 := Int.emod_lt_of_pos T h
  generalize T / B = q at *
  generalize T % B = r at *
  by_cases z : 0 ≤ q
  · have : q ≤ B * q := by
      have := Int.mul_le_mul_of_nonneg_right (show (1 : Int) ≤ B by omega) z
      omega
    omega
  · have : B * (-q) - (-q) - B + 1 ≥ 0 := by
      have := Int.mul_nonneg (show 0 ≤ B - 1 by omega) (show 0 ≤ -q - 1 by omega)
      have e : (B - 1) * (-q - 1) = B * (-q) - (-q) - B + 1 := by
        rw [Int.sub_mul, Int.mul_sub]
        omega
      omega
    have : B * (-q) = -(B * q) := Int.mul_neg B q
    omega
theorem ten60 {d : Int} (h : d ≤ 60) : 10 ^ d.toNat < 2 ^ 200 := by
  refine Nat.lt_of_le_of_lt (Nat.pow_le_pow_right (by decide) (show d.toNat ≤ 60 by omega)) ?_
  decide +kernel
theorem pad_ok {i : Int} (h : 0 ≤ i) (g : i ≤ 1000) : PadOk i = true := by
  unfold PadOk fitsSsize Builtin.Str.tooLong
  rw [sizeLine_eq]
  have h1 : ¬ i < -(2 ^ 63 : Int) := by omega
  have h2 : ¬ i ≥ 2 ^ 63 := by omega
  have h3 : ¬ i.toNat > 16777216 := by omega
  rw [decide_eq_false h1, decide_eq_false h2]
  simp only [Bool.or_false, Bool.not_false, Bool.true_and]
  rw [decide_eq_false h3]
  rfl
/-- zfill of digits -/
theorem IsTxt.zfill {z : Str} {m d : Nat} (h : IsTxt z (decimal m)) : IsTxt (Txt.zfill z ((d : Int) + 1)) (NXM.zf d m) := by
  have l := h.len
  unfold Txt.zfill NXM.zf
  by_cases c : d + 1 ≤ (decimal m).length
  · rw [if_pos (by rw [l]; omega), if_pos c]
    exact h
  · rw [if_neg (by rw [l]; omega), if_neg c]
    have nosign : ∀ x, z.cps[0]? = some x → x ≠ 43 ∧ x ≠ 45 := by
      intro x e
      obtain ⟨y, hy, rfl⟩ := h.get e
      have dg : 48 ≤ y.toNat := by
        have z := NXM.dec_digits m
        have m0 : (decimal m).map UInt8.toNat = (Nat.toDigits 10 m).map Char.toNat := z
        have e2 : ((Nat.toDigits 10 m).map Char.toNat)[0]? = some y.toNat := by
          rw [← m0, List.getElem?_map, hy]
          rfl
        rw [List.getElem?_map] at e2
        cases e3 : (Nat.toDigits 10 m)[0]? with
        | none => rw [e3] at e2; cases e2
        | some ch =>
          rw [e3] at e2
          have e4 : ch.toNat = y.toNat := Option.some.inj e2
          have dd := Nat.isDigit_of_mem_toDigits (b := 10) (by decide) (by decide) (List.mem_of_getElem? e3)
          rw [← e4]
          unfold Char.isDigit at dd
          simp at dd
          exact dd.1
      omega
    have e : PySem.zfilled z (((d : Int) + 1).toNat - z.length) = Builtin.Str.padded z (((d : Int) + 1).toNat - z.length) 0 48 := by
      unfold PySem.zfilled
      split
      · rename_i x
        exact absurd rfl (nosign _ x).1
      · rename_i x
        exact absurd rfl (nosign _ x).2
      · rfl
    rw [e]
    unfold IsTxt Builtin.Str.padded
    have k : ((d : Int) + 1).toNat - z.length = d + 1 - (decimal m).length := by omega
    rw [k]
    simp only [Array.toList_append, Array.toList_replicate, List.replicate_zero, List.append_nil]
    rw [h, List.map_append, List.map_replicate]
    rfl
/-- a text's ends -/
theorem IsTxt.front {z : Str} {b c : List UInt8} (h : IsTxt z (b ++ c)) (l : 0 < c.length) : IsTxt (cutS z none (some (-(c.length : Int)))) b := by
  unfold IsTxt cutS
  have n := h.len
  rw [List.length_append] at n
  have e1 : HT.sIx z.length 0 none = 0 := rfl
  have e2 : HT.sIx z.length z.length (some (-(c.length : Int))) = b.length := by
    show (if (-(c.length : Int)) < 0 then ((-(c.length : Int)) + (z.length : Int)).toNat else _) = _
    rw [if_pos (by omega)]
    omega
  rw [e1, e2, h]
  simp
theorem IsTxt.back {z : Str} {b c : List UInt8} (h : IsTxt z (b ++ c)) (l : 0 < c.length) : IsTxt (cutS z (some (-(c.length : Int))) none) c := by
  unfold IsTxt cutS
  have n := h.len
  rw [List.length_append] at n
  have e2 : HT.sIx z.length 0 (some (-(c.length : Int))) = b.length := by
    show (if (-(c.length : Int)) < 0 then ((-(c.length : Int)) + (z.length : Int)).toNat else _) = _
    rw [if_pos (by omega)]
    omega
  have e1 : HT.sIx z.length z.length none = z.length := rfl
  rw [e1, e2, h, n]
  simp
  exact List.take_of_length_le (by simp)
/-- a number handed in, from 0 on -/
theorem nat_in {n : Int} (h : (PySem.W.Codec.int 0 4294967295).within n = true) : ((n.toNat : Nat) : Int) = n := by
  obtain ⟨q1, _⟩ := Bool.and_eq_true_iff.mp h
  have q3 : 0 ≤ n := of_decide_eq_true q1
  omega
end L2.NX
namespace L2.NX
open PySem PySem.Spec PyProof.Rows
open EbNum
theorem units_small {q : Rat} {d : Int} {w : Nat} (h1 : isPlace d = true) (h2 : w < 5) (hf : fits q = true) : (unitsAt w d q).natAbs < 10 ^ 1300 := by
  have pl := place_in h1
  have fn := NXM.fits_num hf
  have p1 := ten60 pl.2
  have den0 : 0 < q.den := Nat.pos_of_ne_zero q.den_nz
  have b0 : 0 < ((q.den * 10 ^ (-d).toNat : Nat) : Int) := by
    have := Nat.mul_pos den0 (Nat.pow_pos (n := (-d).toNat) (show 0 < 10 by decide))
    omega
  have tl : (q.num * ((10 ^ d.toNat : Nat) : Int)).natAbs < 2 ^ 4296 := wide_lt (a := 4096) (b := 200) fn p1
  have nl := div_small (T := q.num * ((10 ^ d.toNat : Nat) : Int)) b0
  rw [NXM.units_at h2]
  have top : 2 ^ 4296 + 1 < 10 ^ 1300 := by decide +kernel
  split <;> omega
theorem units_len {n d : Int} (h1 : isPlace d = true) (h : n.natAbs < 10 ^ 1300) : (unitsText d n).length ≤ 3000 := by
  have pl := place_in h1
  have sl : ((if n < 0 then ascii "-" else []) : List UInt8).length ≤ 1 := by
    split
    · exact Nat.le_refl _
    · exact Nat.zero_le _
  by_cases d0 : 0 < d
  · rw [NXM.units_front d0, List.length_append, List.length_append, List.length_append, NXM.padded_len]
    have := NXM.dec_len (n := n.natAbs / 10 ^ d.toNat) (k := 1300) (Nat.lt_of_le_of_lt (Nat.div_le_self _ _) h) (by decide)
    have a1 : (ascii ".").length = 1 := rfl
    omega
  · by_cases n0 : n = 0
    · subst n0
      rw [NXM.units_zero (by omega), NXM.dec_zero]
      decide
    · rw [NXM.units_back (by omega) n0, List.length_append, List.length_append, List.length_replicate]
      have := NXM.dec_len (n := n.natAbs) (k := 1300) h (by decide)
      omega
section
variable {P : Program} {w : World} {K : PySem.W.Frag} {mg : Str → Option Value} {base : Heap} {R C C2 CF CR f : Addr} {fd : FuncData}
theorem scUnits : FnScope ["units", "d", "sign", "figures"] ["units", "d"] (defScope sUnits) := ⟨rfl, rfl, rfl, by decide +kernel, rfl, by decide +kernel, by decide +kernel⟩
theorem ok_units (F : Fun K "units_text" "units_text" sUnits f fd) (ab : mg "abs" = none) (st : mg "str" = none) (nd : NoDig K) : FnOk P w K mg base CX0 1 f fd ["units", "d"] spUnits := by
  refine F.ok scUnits (fun vs H Q E h => ?_) (fun cdv A outer s H vs Q E hr h => ?_)
  · obtain ⟨n, d, rfl, _⟩ := h
    rfl
  · obtain ⟨n, d, rfl, hd, hn, k⟩ := h
    refine ⟨_, pss_cons (ps_set (i := 2) scUnits.nd rfl (Or.inl rfl) (pe_ifExp (pt_cmpR op_lt (pv 0) pe_int (nomark _)) pe_str pe_str))
      (pss_cons (ps_set (i := 3) scUnits.nd rfl (Or.inl rfl) (pe_callTy (call_strB nd hr.hd) (by rfl) st (by decide +kernel) (by exact (pa_cons (pe_callB call_abs (by rfl) ab (by decide +kernel) (pa_cons (pv 0) pa_nil)) pa_nil))))
      (pss_cons (ps_if (pt_cmpR op_gt (pv 1) pe_int (nomark _))
        (pss_cons (ps_set (i := 3) scUnits.nd rfl (Or.inl rfl) (pe_bm PySem.F.plainAttrs_str PySem.F.slot_str_zfill PySem.F.type_str_zfill mt_zfill (pv 3) (pa_cons (pe_op op_add (pv 1) pe_int) pa_nil)))
        (pss_one (ps_ret (pe_op op_add_str (pe_op op_add_str (pe_op op_add_str (pv 2) (pe_slice sl_str (pv 3) po_none (po_some (pe_un un_neg (pv 1))))) pe_str) (pe_slice sl_str (pv 3) (po_some (pe_un un_neg (pv 1))) po_none))))) pss_nil)
      (pss_cons (ps_if (pt_cmpR op_eq (pv 0) pe_int (nomark _)) (pss_one (ps_ret (pv 3))) pss_nil)
      (pss_one (ps_ret (pe_op op_add_str (pe_op op_add_str (pv 2) (pv 3)) (pe_op op_rep1 pe_str (pe_un un_neg (pv 1))))))))), ?_⟩
    have pl := place_in hd
    have big : 10 ^ 1300 < 10 ^ 4300 := Nat.pow_lt_pow_right (by decide) (by decide)
    have eabs : (if n < 0 then -n else n) = ((n.natAbs : Nat) : Int) := by
      by_cases z : n < 0
      · rw [if_pos z]
        omega
      · rw [if_neg z]
        omega
    -- the sign
    refine ⟨_, rfl, _, _, rfl, rfl, _, rfl, ?_⟩
    have sg : IsTxt (if n < 0 then Str.ofString "-" else Str.ofString "") (if n < 0 then ascii "-" else []) := by
      split
      · exact .of rfl
      · exact .of rfl
    have sl : ((if n < 0 then ascii "-" else []) : List UInt8).length ≤ 1 := by
      split
      · exact Nat.le_refl _
      · exact Nat.zero_le _
    suffices tail : ∀ y : Str, IsTxt y (if n < 0 then ascii "-" else []) → tSeq (tAsg (tCB (fun xs H Q => ∃ i : Int, xs = [.int i] ∧ i.natAbs < 10 ^ 4300 ∧ Q (.str (toString i)) H) (tCons (tCB (fun xs H Q => ∃ i, xs = [.int i] ∧ Q (.int (if i < 0 then -i else i)) H) (tCons (tVar 0) tNil)) tNil)) (gName 3)) _ { nx := fun _ H' => Q .non H', rt := Q } [some (.int n), some (.int d), some (.str y), none] H by
      by_cases z : n < 0
      · rw [if_pos z] at sg
        refine if_pos_of (decide_eq_true z) ?_
        exact tail _ sg
      · rw [if_neg z] at sg
        refine if_neg_of (decide_eq_false z) ?_
        exact tail _ sg
    intro y hy
    have ft : IsTxt (Str.ofString (toString (if n < 0 then -n else n))) (decimal n.natAbs) := by
      rw [eabs]
      have z := IsTxt.int ((n.natAbs : Nat) : Int)
      unfold NXM.intBytes at z
      rw [if_neg (by omega)] at z
      exact z
    have fl : (decimal n.natAbs).length ≤ 1300 := NXM.dec_len hn (by decide)
    have yl := hy.len
    refine ⟨_, rfl, n, rfl, _, rfl, (by rw [eabs]; exact Nat.lt_trans hn big), ?_⟩
    show tSeq _ _ _ [some (V.int n), some (V.int d), some (V.str y), some (V.str (Str.ofString (toString (if n < 0 then -n else n))))] H
    generalize Str.ofString (toString (if n < 0 then -n else n)) = z at ft ⊢
    have zl := ft.len
    refine ⟨_, rfl, _, _, rfl, rfl, _, rfl, ?_⟩
    by_cases d0 : 0 < d
    · refine if_pos_of (decide_eq_true d0) ?_
      have dn : ((d.toNat : Nat) : Int) = d := by omega
      have t1 : IsTxt (Txt.zfill z (d + 1)) (NXM.zf d.toNat n.natAbs) := by
        have q := IsTxt.zfill (d := d.toNat) ft
        rw [dn] at q
        exact q
      have dp : 0 < d.toNat := by omega
      rw [NXM.zf_split dp] at t1
      have pd := NXM.padded_len d.toNat (n.natAbs % 10 ^ d.toNat)
      have lq : (decimal (n.natAbs / 10 ^ d.toNat)).length ≤ 1300 := NXM.dec_len (Nat.lt_of_le_of_lt (Nat.div_le_self _ _) hn) (by decide)
      have t2 := IsTxt.front t1 (by omega)
      have t3 := IsTxt.back t1 (by omega)
      rw [pd, dn] at t2 t3
      have tl := t1.len
      rw [List.length_append, pd] at tl
      have t4 : IsTxt (Str.ofString ".") (ascii ".") := .of rfl
      have a1 : (ascii ".").length = 1 := rfl
      refine ⟨_, rfl, rfl, _, rfl, _, _, rfl, rfl, z, d + 1, rfl, rfl, pad_ok (by omega) (by omega), ?_⟩
      refine ⟨_, rfl, _, rfl, _, rfl, _, rfl, _, rfl, _, rfl, ?_, _, _, rfl, rfl, ?_, _, _, rfl, rfl, ?_, _, rfl, _, rfl, _, rfl, _, rfl, _, rfl, ?_, _, _, rfl, rfl, ?_, ?_⟩
      · rw [tl, sizeLine_eq]
        omega
      · rw [yl, t2.len, sizeLine_eq]
        omega
      · rw [(hy.app t2).len, t4.len, List.length_append, sizeLine_eq]
        omega
      · rw [tl, sizeLine_eq]
        omega
      · rw [((hy.app t2).app t4).len, t3.len, List.length_append, List.length_append, sizeLine_eq]
        omega
      · refine k _ ?_
        rw [NXM.units_front d0, ← List.append_assoc, ← List.append_assoc]
        exact ((hy.app t2).app t4).app t3
    · refine if_neg_of (decide_eq_false d0) ?_
      refine ⟨_, rfl, rfl, _, rfl, ?_⟩
      by_cases n0 : n = 0
      · refine if_pos_of (decide_eq_true (congrArg V.int n0)) ?_
        refine ⟨_, rfl, k z ?_⟩
        subst n0
        rw [NXM.units_zero (by omega)]
        exact ft
      · refine if_neg_of (decide_eq_false (fun e => n0 (V.int.inj e))) ?_
        have jn : -d = (((-d).toNat : Nat) : Int) := by omega
        refine ⟨_, rfl, _, rfl, _, _, rfl, rfl, ?_, _, rfl, _, rfl, 48, (-d).toNat, rfl, congrArg V.int jn, by omega, fun o ho => ⟨_, _, rfl, rfl, ?_, ?_⟩⟩
        · rw [yl, zl, sizeLine_eq]
          omega
        · have ol : o.length = (-d).toNat := by
            have q := congrArg List.length ho
            rw [List.length_replicate] at q
            exact q
          rw [(hy.app ft).len, ol, List.length_append, sizeLine_eq]
          omega
        · have t5 : IsTxt o (List.replicate (-d).toNat 48) := by
            unfold IsTxt
            rw [ho, List.map_replicate]
            rfl
          refine k _ ?_
          rw [NXM.units_back (by omega) n0, ← List.append_assoc]
          exact (hy.app ft).app t5
end
end L2.NX
namespace L2.NX
open PySem PySem.Spec PyProof.Rows
open EbNum
section
variable {P : Program} {w : World} {K : PySem.W.Frag} {mg : Str → Option Value} {base : Heap} {R C C2 CF CR CB f : Addr} {fd : FuncData}
theorem scBdI : FnScope ["self", "value", "bound"] ["self", "value", "bound"] (defScope sBdI) := ⟨rfl, rfl, rfl, by decide +kernel, rfl, by decide +kernel, by decide +kernel⟩
theorem ok_bdI (F : Fun K "__init__" "Bounded.__init__" sBdI f fd) (c : Cls K CB) (n1 : NoAttr K CB "value") (n2 : NoAttr K CB "bound") :
    FnOk P w K mg base CX0 1 f fd ["self", "value", "bound"] (spBdI CB) := by
  refine F.ok scBdI (fun vs H Q E h => ?_) (fun cdv A outer s H vs Q E hr h => ?_)
  · obtain ⟨g, dx, x, y, rfl, _⟩ := h
    rfl
  · obtain ⟨g, dx, x, y, rfl, hx, k⟩ := h
    refine ⟨_, pss_cons (ps_fld (pv 0) (pv 1) rfl) (pss_one (ps_fld (pv 0) (pv 2) rfl)), ?_⟩
    refine ⟨_, rfl, _, rfl, g, CB, dx, [], rfl, hx, c, n1, (by show 0 < 1000; decide), _, rfl, _, rfl, g, CB, dx, _, rfl, upd_same, c, n2, (by show 1 < 1000; decide), ?_⟩
    rw [bd_make, upd_upd]
    exact k
end
end L2.NX
namespace NXM
open EbNum EvenA
/-! ### roots -/
theorem sq_mono {a b : Nat} (h : a ≤ b) : a * a ≤ b * b := Nat.mul_le_mul h h
theorem sq_lt {a b : Nat} (h : a < b) : a * a < b * b := Nat.mul_self_lt_mul_self h
theorem sq_uniq {v r s : Nat} (h1 : r * r ≤ v) (h2 : v < (r + 1) * (r + 1)) (h3 : s * s ≤ v) (h4 : v < (s + 1) * (s + 1)) : r = s := by
  rcases Nat.lt_trichotomy r s with z | z | z
  · have := sq_mono (show r + 1 ≤ s from z)
    omega
  · exact z
  · have := sq_mono (show s + 1 ≤ r from z)
    omega
theorem rootNat_spec (v : Nat) : ∀ k r : Nat, r * r ≤ v → v < (r + 2 ^ k) * (r + 2 ^ k) → rootNat v k r * rootNat v k r ≤ v ∧ v < (rootNat v k r + 1) * (rootNat v k r + 1)
  | 0, r, h1, h2 => ⟨h1, h2⟩
  | k + 1, r, h1, h2 => by
    unfold rootNat
    by_cases z : (r + 2 ^ k) * (r + 2 ^ k) ≤ v
    · rw [if_pos z]
      refine rootNat_spec v k (r + 2 ^ k) z ?_
      rw [show r + 2 ^ k + 2 ^ k = r + 2 ^ (k + 1) by rw [Nat.pow_succ]; omega]
      exact h2
    · rw [if_neg z]
      exact rootNat_spec v k r h1 (by omega)
theorem rootNat_top (v : Nat) : v < (0 + 2 ^ (Nat.log2 v / 2 + 1)) * (0 + 2 ^ (Nat.log2 v / 2 + 1)) := by
  rw [Nat.zero_add, ← Nat.pow_add]
  have h : v < 2 ^ (Nat.log2 v + 1) := Nat.lt_log2_self
  exact Nat.lt_of_lt_of_le h (Nat.pow_le_pow_right (by decide) (by omega))
theorem rootNat_is {v r : Nat} (h1 : r * r ≤ v) (h2 : v < (r + 1) * (r + 1)) : rootNat v (Nat.log2 v / 2 + 1) 0 = r := by
  have z := rootNat_spec v (Nat.log2 v / 2 + 1) 0 (by simp) (rootNat_top v)
  exact sq_uniq z.1 z.2 h1 h2
/-- top by bottom, neither below nought: the greatest whole number with square not above -/
theorem rootDown_is {T B r : Nat} (hB : 0 < B) (h1 : r * r * B ≤ T) (h2 : T < (r + 1) * (r + 1) * B) : rootDown (mkRat (T : Int) B) = r := by
  unfold rootDown
  rw [mk_floor hB, ← Int.natCast_ediv, Int.toNat_natCast]
  exact rootNat_is ((Nat.le_div_iff_mul_le hB).mpr h1) ((Nat.div_lt_iff_lt_mul hB).mpr h2)
theorem nat_eq_mk {n T B : Nat} (hB : 0 < B) : ((n : Nat) : Rat) = mkRat (T : Int) B ↔ n * B = T := by
  have e : ((n : Nat) : Rat) = ((n : Int) : Rat) := (Rat.intCast_natCast n).symm
  rw [e]
  constructor
  · intro h
    have a : ¬ ((n : Int) : Rat) < mkRat (T : Int) B := by rw [h]; exact Rat.lt_irrefl
    have b : ¬ mkRat (T : Int) B < ((n : Int) : Rat) := by rw [h]; exact Rat.lt_irrefl
    rw [int_lt_mk hB] at a
    rw [mk_lt_int hB] at b
    have : (n : Int) * B = T := by omega
    exact_mod_cast this
  · intro h
    have h' : (n : Int) * B = T := by exact_mod_cast h
    have a : ¬ ((n : Int) : Rat) < mkRat (T : Int) B := by rw [int_lt_mk hB]; omega
    have b : ¬ mkRat (T : Int) B < ((n : Int) : Rat) := by rw [mk_lt_int hB]; omega
    exact Rat.le_antisymm (Rat.not_lt.mp b) (Rat.not_lt.mp a)
theorem rootUp_eq {T B r : Nat} (hB : 0 < B) (h : r * r * B = T) : rootUp (mkRat (T : Int) B) = r := by
  have d : rootDown (mkRat (T : Int) B) = r := rootDown_is hB (by omega) (by rw [← h]; exact Nat.mul_lt_mul_of_pos_right (sq_lt (by omega)) hB)
  unfold rootUp
  rw [d, if_pos ((nat_eq_mk hB).mpr h)]
theorem rootUp_ne {T B r : Nat} (hB : 0 < B) (h1 : r * r * B < T) (h2 : T < (r + 1) * (r + 1) * B) : rootUp (mkRat (T : Int) B) = r + 1 := by
  have d : rootDown (mkRat (T : Int) B) = r := rootDown_is hB (by omega) h2
  unfold rootUp
  rw [d, if_neg (fun z => by have := (nat_eq_mk hB).mp z; omega)]
/-- .. the least whole number whose square isn't below -/
theorem rootUp_is {T B s : Nat} (hB : 0 < B) (h1 : T ≤ s * s * B) (h2 : s = 0 ∨ (s - 1) * (s - 1) * B < T) : rootUp (mkRat (T : Int) B) = s := by
  by_cases e : s * s * B = T
  · exact rootUp_eq hB e
  · rcases h2 with z | z
    · subst z
      omega
    · cases s with
      | zero => omega
      | succ r =>
        rw [Nat.add_sub_cancel] at z
        exact rootUp_ne hB z (by omega)
/-! a root by halving steps -/
theorem newton_ge {v x : Nat} (hx : 0 < x) : v < ((x + v / x) / 2 + 1) * ((x + v / x) / 2 + 1) := by
  have h1 : v < x * (v / x + 1) := by
    have := Nat.div_add_mod v x
    have := Nat.mod_lt v hx
    rw [Nat.mul_add, Nat.mul_one]
    omega
  generalize hs : v / x = s at *
  generalize hy : (x + s) / 2 = y at *
  have h2 : x + (s + 1) ≤ 2 * (y + 1) := by omega
  have h3 : (x + (s + 1)) * (x + (s + 1)) ≤ (2 * (y + 1)) * (2 * (y + 1)) := sq_mono h2
  have h4 : 4 * (x * (s + 1)) ≤ (x + (s + 1)) * (x + (s + 1)) := by
    generalize s + 1 = z
    rcases Nat.le_total x z with c | c
    · obtain ⟨k, rfl⟩ := Nat.exists_eq_add_of_le c
      have e : (x + (x + k)) * (x + (x + k)) = 4 * (x * (x + k)) + k * k := by
        simp only [Nat.add_mul, Nat.mul_add, Nat.mul_comm k x]
        omega
      omega
    · obtain ⟨k, rfl⟩ := Nat.exists_eq_add_of_le c
      have e : (z + k + z) * (z + k + z) = 4 * ((z + k) * z) + k * k := by
        simp only [Nat.add_mul, Nat.mul_add, Nat.mul_comm k z]
        omega
      omega
  have e : (2 * (y + 1)) * (2 * (y + 1)) = 4 * ((y + 1) * (y + 1)) := by
    rw [Nat.mul_mul_mul_comm]
  omega
theorem newton_lt {v x : Nat} (hx : 0 < x) (h : v < x * x) : (x + v / x) / 2 < x := by
  have : v / x < x := (Nat.div_lt_iff_lt_mul hx).mpr h
  omega
theorem mk_place {T : Int} {B : Nat} (d : Int) (hB : 0 < B) : mkRat T B * ten d = mkRat (T * ((10 ^ d.toNat : Nat) : Int)) (B * 10 ^ (-d).toNat) := by
  unfold ten
  by_cases h : 0 ≤ d
  · rw [if_pos h]
    have e2 : (-d).toNat = 0 := by omega
    rw [e2, Nat.pow_zero, Nat.mul_one, mk_mul_nat _ hB]
  · rw [if_neg h]
    have e1 : d.toNat = 0 := by omega
    rw [e1]
    have t : (1 : Rat) / ((10 ^ (-d).toNat : Nat) : Rat) = mkRat 1 (10 ^ (-d).toNat) := by
      rw [Rat.mkRat_eq_div]
      rfl
    rw [t, Rat.mkRat_mul_mkRat]
    simp
theorem pow10_pos (n : Nat) : 0 < 10 ^ n := Nat.pow_pos (by decide)
theorem den_pos (q : Rat) : 0 < q.den := Nat.pos_of_ne_zero q.den_nz
theorem root_scaled {q : Rat} {d : Int} (h : 0 ≤ q.num) : q * ten d * ten d = mkRat ((q.num.toNat * (10 ^ d.toNat * 10 ^ d.toNat) : Nat) : Int) (q.den * (10 ^ (-d).toNat * 10 ^ (-d).toNat)) := by
  rw [place_eq q d, mk_place d (Nat.mul_pos (den_pos q) (pow10_pos _)), Nat.mul_assoc, Int.mul_assoc, ← Int.natCast_mul, Int.natCast_mul (q.num.toNat), Int.toNat_of_nonneg h]
section
variable {t : List UInt8} {d : Int} {a : Nat} {q : Rat} {e : Answer}
theorem root_refused (h : isPlace d = false ∨ 1 < a) : answer (.root t d a) = says (-1) := if_pos h
theorem root_body (h1 : isPlace d = true) (h2 : ¬ 1 < a) : answer (.root t d a) = (match numOf 0 t with
    | .error e => e
    | .ok q => if q < 0 then says (-2) else wholeB (unitsText d (rootAt (a == 1) d q : Nat))) := by
  refine if_neg (c := isPlace d = false ∨ 1 < a) (fun z => ?_)
  rcases z with z | z
  · rw [h1] at z
    cases z
  · exact h2 z
theorem root_err (h1 : isPlace d = true) (h2 : ¬ 1 < a) (h : numOf 0 t = .error e) : answer (.root t d a) = e := by
  rw [root_body h1 h2, h]
theorem root_neg (h1 : isPlace d = true) (h2 : ¬ 1 < a) (h : numOf 0 t = .ok q) (n : q < 0) : answer (.root t d a) = says (-2) := by
  rw [root_body h1 h2, h]
  exact if_pos n
theorem root_ok (h1 : isPlace d = true) (h2 : ¬ 1 < a) (h : numOf 0 t = .ok q) (n : ¬ q < 0) : answer (.root t d a) = wholeB (unitsText d (rootAt (a == 1) d q : Nat)) := by
  rw [root_body h1 h2, h]
  exact if_neg n
end
end NXM
namespace NXM
open EbNum EvenA
/-! ### a value with its bound, shown -/
theorem ten_pos (d : Int) : 0 < ten d := by
  unfold ten
  by_cases h : 0 ≤ d
  · rw [if_pos h]
    exact cast_pos (pow10_pos _)
  · rw [if_neg h, Rat.div_def, Rat.one_mul]
    exact Rat.inv_pos.mpr (cast_pos (pow10_pos _))
theorem ten_ne (d : Int) : ten d ≠ 0 := fun z => by
  have := ten_pos d
  rw [z] at this
  exact absurd this Rat.lt_irrefl
theorem worth_ten (d n : Int) : worth d n * ten d = (n : Rat) := by
  unfold worth
  exact Rat.div_mul_cancel (ten_ne d)
theorem worth_mk (d n : Int) : worth d n = mkRat (n * ((10 ^ (-d).toNat : Nat) : Int)) (10 ^ d.toNat) := by
  have e : mkRat (n * ((10 ^ (-d).toNat : Nat) : Int)) (10 ^ d.toNat) * ten d = (n : Rat) := by
    rw [mk_place d (pow10_pos _)]
    have p := pow10_pos d.toNat
    have p' := pow10_pos (-d).toNat
    rw [Int.mul_assoc, ← Int.natCast_mul, Nat.mul_comm (10 ^ (-d).toNat)]
    have z := Rat.mkRat_mul_right (n := n) (d := 1) (a := 10 ^ d.toNat * 10 ^ (-d).toNat) (Nat.mul_ne_zero (by omega) (by omega))
    rw [Nat.one_mul] at z
    rw [z]
    exact (Rat.mk_eq_mkRat n 1 (by decide) (by simp)).symm
  have e2 := worth_ten d n
  have : (worth d n * ten d) * (ten d)⁻¹ = (mkRat (n * ((10 ^ (-d).toNat : Nat) : Int)) (10 ^ d.toNat) * ten d) * (ten d)⁻¹ := by rw [e, e2]
  rw [Rat.mul_assoc, Rat.mul_assoc, Rat.mul_inv_cancel _ (ten_ne d), Rat.mul_one, Rat.mul_one] at this
  exact this
theorem bound_units (d : Int) (v b : Rat) : boundAt d v b = unitsAt 1 d (b + size (worth d (valueAt d v) - v)) := by
  unfold boundAt unitsAt whole
  rw [if_pos rfl]
theorem size_mk (n : Int) (B : Nat) (hB : 0 < B) : size (mkRat n B) = mkRat (n.natAbs : Int) B := by
  have e0 : ((0 : Int) : Rat) = 0 := rfl
  have z := mk_lt_int (T := n) (n := 0) hB
  rw [e0] at z
  unfold size
  by_cases h : n < 0
  · rw [if_pos (z.mpr (by omega)), Rat.neg_mkRat]
    congr 1
    omega
  · rw [if_neg (fun y => h (by have := z.mp y; omega))]
    congr 1
    omega
theorem neg_iff' (q : Rat) : q < 0 ↔ q.num < 0 := by
  rw [← Rat.not_le, ← Rat.num_nonneg]
  omega
theorem size_num (q : Rat) : (size q).num = q.num.natAbs := by
  unfold size
  by_cases h : q < 0
  · rw [if_pos h, neg_num]
    have := (neg_iff' q).mp h
    omega
  · rw [if_neg h]
    have : ¬ q.num < 0 := fun z => h ((neg_iff' q).mpr z)
    omega
theorem size_den (q : Rat) : (size q).den = q.den := by
  unfold size
  split
  · exact neg_den q
  · rfl
/-- the bound's units by whole numbers: v at the place T by B, b at the place U by D -/
theorem bound_scaled {d : Int} {v b : Rat} {T U : Int} {B D : Nat} (hB : 0 < B) (hD : 0 < D) (hv : v * ten d = mkRat T B) (hb : b * ten d = mkRat U D) :
    boundAt d v b = up (mkRat (U * B + ((valueAt d v * B - T).natAbs : Int) * D) (B * D)) := by
  unfold boundAt
  congr 1
  have tp := ten_pos d
  have key : size (worth d (valueAt d v) - v) * ten d = mkRat ((valueAt d v * B - T).natAbs : Int) B := by
    have e1 : (worth d (valueAt d v) - v) * ten d = mkRat (valueAt d v * B - T) B := by
      rw [Rat.sub_eq_add_neg, Rat.add_mul, worth_ten, Rat.neg_mul, hv, Rat.neg_mkRat]
      have e2 : ((valueAt d v : Int) : Rat) = mkRat (valueAt d v * B) B := by
        have z := Rat.mkRat_mul_right (n := valueAt d v) (d := 1) (a := B) (by omega)
        rw [Nat.one_mul] at z
        rw [z]
        exact Rat.mk_eq_mkRat (valueAt d v) 1 (by decide) (by simp)
      rw [e2, Rat.mkRat_add_mkRat _ _ (by omega) (by omega)]
      have z := Rat.mkRat_mul_right (n := valueAt d v * B - T) (d := B) (a := B) (by omega)
      rw [← z, Int.sub_mul, Int.neg_mul, ← Int.sub_eq_add_neg]
    rw [← size_mk _ _ hB, ← e1]
    unfold size
    by_cases h : worth d (valueAt d v) - v < 0
    · have h2 : (worth d (valueAt d v) - v) * ten d < 0 := by
        have := (Rat.mul_lt_mul_right tp (a := worth d (valueAt d v) - v) (b := 0)).mpr h
        rw [Rat.zero_mul] at this
        exact this
      rw [if_pos h, if_pos h2, Rat.neg_mul]
    · have h2 : ¬ (worth d (valueAt d v) - v) * ten d < 0 := fun z => h (by
        refine (Rat.mul_lt_mul_right tp (a := worth d (valueAt d v) - v) (b := 0)).mp ?_
        rw [Rat.zero_mul]
        exact z)
      rw [if_neg h, if_neg h2]
  rw [Rat.add_mul, key, hb, Rat.mkRat_add_mkRat _ _ (by omega) (by omega), Nat.mul_comm D B]
/-! the place that's told -/
theorem find_at {α : Type} {f : Nat → α} {p : α → Bool} {n i : Nat} (hi : i < n) (h1 : ∀ k, k < i → p (f k) = false) (h2 : p (f i) = true) : ((List.range n).map f).find? p = some (f i) := by
  rw [List.find?_map]
  have : (List.range n).find? (p ∘ f) = some i := by
    rw [List.find?_range_eq_some]
    refine ⟨h2, List.mem_range.mpr hi, fun j hj => ?_⟩
    show (!p (f j)) = true
    rw [h1 j hj]
    rfl
  rw [this]
  rfl
theorem find_none {α : Type} {f : Nat → α} {p : α → Bool} {n : Nat} (h : ∀ k, k < n → p (f k) = false) : ((List.range n).map f).find? p = none := by
  rw [List.find?_map]
  have : (List.range n).find? (p ∘ f) = none := by
    rw [List.find?_range_eq_none]
    intro j hj
    show (!p (f j)) = true
    rw [h j hj]
    rfl
  rw [this]
  rfl
theorem exact_at {v b : Rat} {i : Nat} (hi : i < 121) (h1 : ∀ k : Nat, k < i → boundAt (-60 + k) v b ≠ 0) (h2 : boundAt (-60 + i) v b = 0) : exactPlace v b = some ((-60 : Int) + (i : Int)) :=
  find_at (f := fun k : Nat => LOW + (k : Int)) (p := fun d : Int => boundAt d v b == 0) hi (fun k hk => beq_eq_false_iff_ne.mpr (h1 k hk)) (beq_iff_eq.mpr h2)
theorem exact_none {v b : Rat} (h : ∀ k : Nat, k < 121 → boundAt (-60 + k) v b ≠ 0) : exactPlace v b = none :=
  find_none (f := fun k : Nat => LOW + (k : Int)) (p := fun d : Int => boundAt d v b == 0) (fun k hk => beq_eq_false_iff_ne.mpr (h k hk))
theorem figure_at {v b : Rat} {i : Nat} (hi : i < 121) (h1 : ∀ k : Nat, k < i → ¬ boundAt (60 - k) v b ≤ 99) (h2 : boundAt (60 - i) v b ≤ 99) : figurePlace v b = some ((60 : Int) - (i : Int)) :=
  find_at (f := fun k : Nat => HIGH - (k : Int)) (p := fun d : Int => decide (boundAt d v b ≤ FIGURES)) hi (fun k hk => decide_eq_false (h1 k hk)) (decide_eq_true h2)
theorem figure_none {v b : Rat} (h : ∀ k : Nat, k < 121 → ¬ boundAt (60 - k) v b ≤ 99) : figurePlace v b = none :=
  find_none (f := fun k : Nat => HIGH - (k : Int)) (p := fun d : Int => decide (boundAt d v b ≤ FIGURES)) (fun k hk => decide_eq_false (h k hk))
theorem place_exact {v b : Rat} {d : Int} (h : exactPlace v b = some d) : place v b = some (if d < 0 then 0 else d) := by
  unfold place
  rw [h]
theorem place_figure {v b : Rat} (h : exactPlace v b = none) : place v b = figurePlace v b := by
  unfold place
  rw [h]
section
variable {v b : List UInt8} {p q : Rat} {d : Int} {e : Answer}
theorem show_err1 (h : numOf 0 v = .error e) : answer (.shown v b) = e := by
  show (match numOf 0 v, numOf 1 b with
    | .error e, _ => e
    | _, .error e => e
    | .ok p, .ok q => if q < 0 then says (-2) else match place p q with
      | none => says (-5)
      | some d => if (fits (worth d (valueAt d p)) && fits (worth d (boundAt d p q))) = true then wholeB (shownText d p q) else says (-6)) = _
  rw [h]
theorem show_err2 (h : numOf 0 v = .ok p) (h2 : numOf 1 b = .error e) : answer (.shown v b) = e := by
  show (match numOf 0 v, numOf 1 b with
    | .error e, _ => e
    | _, .error e => e
    | .ok p, .ok q => if q < 0 then says (-2) else match place p q with
      | none => says (-5)
      | some d => if (fits (worth d (valueAt d p)) && fits (worth d (boundAt d p q))) = true then wholeB (shownText d p q) else says (-6)) = _
  rw [h, h2]
theorem show_eq (h : numOf 0 v = .ok p) (h2 : numOf 1 b = .ok q) : answer (.shown v b) = if q < 0 then says (-2) else match place p q with
      | none => says (-5)
      | some d => if (fits (worth d (valueAt d p)) && fits (worth d (boundAt d p q))) = true then wholeB (shownText d p q) else says (-6) := by
  show (match numOf 0 v, numOf 1 b with
    | .error e, _ => e
    | _, .error e => e
    | .ok p, .ok q => if q < 0 then says (-2) else match place p q with
      | none => says (-5)
      | some d => if (fits (worth d (valueAt d p)) && fits (worth d (boundAt d p q))) = true then wholeB (shownText d p q) else says (-6)) = _
  rw [h, h2]
theorem show_neg (h : numOf 0 v = .ok p) (h2 : numOf 1 b = .ok q) (n : q < 0) : answer (.shown v b) = says (-2) := by
  rw [show_eq h h2, if_pos n]
theorem show_none (h : numOf 0 v = .ok p) (h2 : numOf 1 b = .ok q) (n : ¬ q < 0) (z : place p q = none) : answer (.shown v b) = says (-5) := by
  rw [show_eq h h2, if_neg n, z]
theorem show_some (h : numOf 0 v = .ok p) (h2 : numOf 1 b = .ok q) (n : ¬ q < 0) (z : place p q = some d) : answer (.shown v b) = if (fits (worth d (valueAt d p)) && fits (worth d (boundAt d p q))) = true then wholeB (shownText d p q) else says (-6) := by
  rw [show_eq h h2, if_neg n, z]
end
end NXM
namespace NXM
open EbNum EvenA
/-! ### a value with its bound, shown, as it is reckoned -/
/-- parts of a unit; what's to be held, in parts -/
def bParts (d : Int) (v b : Rat) : Int := (v.den : Int) * (b.den : Int) * ((10 ^ (-d).toNat : Nat) : Int)
def bLost (d : Int) (v b : Rat) : Int := valueAt d v * bParts d v b - v.num * (b.den : Int) * ((10 ^ d.toNat : Nat) : Int)
def bHeld (d : Int) (v b : Rat) : Int := b.num * (v.den : Int) * ((10 ^ d.toNat : Nat) : Int) + (bLost d v b).natAbs
theorem parts_nat (d : Int) (v b : Rat) : bParts d v b = ((v.den * b.den * 10 ^ (-d).toNat : Nat) : Int) := by
  unfold bParts
  rw [Int.natCast_mul, Int.natCast_mul]
theorem parts_pos (d : Int) (v b : Rat) : 0 < bParts d v b := by
  rw [parts_nat]
  have := Nat.mul_pos (Nat.mul_pos (den_pos v) (den_pos b)) (pow10_pos (-d).toNat)
  omega
theorem up_mk {T : Int} {B : Nat} (h : 0 < B) : up (mkRat T B) = -(-T / (B : Int)) := by
  unfold up
  rw [Rat.neg_mkRat, mk_floor h]
/-- one of the two powers is 1 -/
theorem one_power (d : Int) : 10 ^ d.toNat = 1 ∨ 10 ^ (-d).toNat = 1 := by
  rcases Int.le_total 0 d with c | c
  · right
    rw [show (-d).toNat = 0 by omega]
  · left
    rw [show d.toNat = 0 by omega]
theorem bound_code (d : Int) (v b : Rat) : boundAt d v b = -(-bHeld d v b / bParts d v b) := by
  have p10 := pow10_pos (-d).toNat
  have hB : 0 < v.den * 10 ^ (-d).toNat := Nat.mul_pos (den_pos v) p10
  have hD : 0 < b.den * 10 ^ (-d).toNat := Nat.mul_pos (den_pos b) p10
  rw [bound_scaled hB hD (place_eq v d) (place_eq b d), parts_nat]
  have key : mkRat (b.num * ((10 ^ d.toNat : Nat) : Int) * ((v.den * 10 ^ (-d).toNat : Nat) : Int) + ((valueAt d v * ((v.den * 10 ^ (-d).toNat : Nat) : Int) - v.num * ((10 ^ d.toNat : Nat) : Int)).natAbs : Int) * ((b.den * 10 ^ (-d).toNat : Nat) : Int)) (v.den * 10 ^ (-d).toNat * (b.den * 10 ^ (-d).toNat)) = mkRat (bHeld d v b) (v.den * b.den * 10 ^ (-d).toNat) := by
    rw [← Rat.mkRat_mul_right (n := bHeld d v b) (d := v.den * b.den * 10 ^ (-d).toNat) (a := 10 ^ (-d).toNat) (by omega)]
    have e1 : v.den * 10 ^ (-d).toNat * (b.den * 10 ^ (-d).toNat) = v.den * b.den * 10 ^ (-d).toNat * 10 ^ (-d).toNat := by
      rw [Nat.mul_assoc, Nat.mul_assoc, Nat.mul_assoc, Nat.mul_left_comm (10 ^ (-d).toNat) b.den]
    rw [e1]
    congr 1
    unfold bHeld bLost
    rw [parts_nat]
    generalize hs : 10 ^ (-d).toNat = s at *
    generalize hl : 10 ^ d.toNat = l at *
    generalize valueAt d v = u
    rw [Int.add_mul]
    congr 1
    · rw [Int.natCast_mul v.den s]
      simp only [Int.mul_assoc]
      congr 1
      rw [Int.mul_left_comm]
    · have e2 : u * ((v.den * b.den * s : Nat) : Int) - v.num * (b.den : Int) * (l : Int) = (u * ((v.den * s : Nat) : Int) - v.num * (l : Int)) * (b.den : Int) := by
        rw [Int.sub_mul]
        congr 1
        · simp only [Int.natCast_mul, Int.mul_assoc]
          congr 2
          rw [Int.mul_comm]
        · rw [Int.mul_assoc, Int.mul_assoc, Int.mul_comm (b.den : Int)]
      rw [e2, Int.natAbs_mul, Int.natAbs_natCast, Int.natCast_mul b.den s, ← Int.mul_assoc, Int.natCast_mul _ b.den]
  rw [key, up_mk (Nat.mul_pos (Nat.mul_pos (den_pos v) (den_pos b)) p10)]
theorem held_nn {d : Int} {v b : Rat} (h : 0 ≤ b.num) : 0 ≤ bHeld d v b := by
  unfold bHeld
  have : 0 ≤ b.num * (v.den : Int) * ((10 ^ d.toNat : Nat) : Int) := Int.mul_nonneg (Int.mul_nonneg h (Int.natCast_nonneg _)) (Int.natCast_nonneg _)
  omega
theorem bound_nn {d : Int} {v b : Rat} (h : 0 ≤ b.num) : 0 ≤ boundAt d v b := by
  rw [bound_code]
  have h1 := held_nn (d := d) (v := v) h
  have h2 := parts_pos d v b
  have h3 : -bHeld d v b / bParts d v b ≤ 0 := by
    have := Int.ediv_le_ediv h2 (show -bHeld d v b ≤ 0 by omega)
    rwa [Int.zero_ediv] at this
  omega
/-- nothing is lost at a place, and the bound is nought: then at any later place, too -/
theorem bound_zero_iff {d : Int} {v b : Rat} (h : 0 ≤ b.num) : boundAt d v b = 0 ↔ bHeld d v b = 0 := by
  rw [bound_code]
  have h1 := held_nn (d := d) (v := v) h
  have h2 := parts_pos d v b
  constructor
  · intro z
    have e : -bHeld d v b / bParts d v b = 0 := by omega
    have := Int.mul_ediv_add_emod (-bHeld d v b) (bParts d v b)
    have := Int.emod_nonneg (-bHeld d v b) (show bParts d v b ≠ 0 by omega)
    rw [e, Int.mul_zero] at *
    omega
  · intro z
    rw [z]
    simp
theorem held_zero {d : Int} {v b : Rat} (h : 0 ≤ b.num) : bHeld d v b = 0 ↔ b.num = 0 ∧ bLost d v b = 0 := by
  unfold bHeld
  have p : 0 < (v.den : Int) * ((10 ^ d.toNat : Nat) : Int) := by
    have := den_pos v
    have := pow10_pos d.toNat
    exact Int.mul_pos (by omega) (by omega)
  have n : 0 ≤ b.num * (v.den : Int) * ((10 ^ d.toNat : Nat) : Int) := Int.mul_nonneg (Int.mul_nonneg h (Int.natCast_nonneg _)) (Int.natCast_nonneg _)
  constructor
  · intro z
    have e : b.num * (v.den : Int) * ((10 ^ d.toNat : Nat) : Int) = 0 := by omega
    rw [Int.mul_assoc] at e
    refine ⟨?_, by omega⟩
    rcases Int.mul_eq_zero.mp e with y | y
    · exact y
    · omega
  · rintro ⟨z, y⟩
    rw [z, y]
    simp
/-- what's lost is nought: the rounded value is the value -/
theorem lost_zero {d : Int} {v b : Rat} (h : bLost d v b = 0) : v * ten d = ((valueAt d v : Int) : Rat) := by
  rw [place_eq]
  have hB : 0 < v.den * 10 ^ (-d).toNat := Nat.mul_pos (den_pos v) (pow10_pos _)
  have bd := den_pos b
  have e : valueAt d v * ((v.den * 10 ^ (-d).toNat : Nat) : Int) = v.num * ((10 ^ d.toNat : Nat) : Int) := by
    unfold bLost at h
    rw [parts_nat] at h
    have f1 : valueAt d v * ((v.den * b.den * 10 ^ (-d).toNat : Nat) : Int) = valueAt d v * ((v.den * 10 ^ (-d).toNat : Nat) : Int) * (b.den : Int) := by
      simp only [Int.natCast_mul, Int.mul_assoc]
      congr 2
      rw [Int.mul_comm]
    have f2 : v.num * (b.den : Int) * ((10 ^ d.toNat : Nat) : Int) = v.num * ((10 ^ d.toNat : Nat) : Int) * (b.den : Int) := by
      rw [Int.mul_assoc, Int.mul_assoc, Int.mul_comm (b.den : Int)]
    rw [f1, f2] at h
    exact Int.eq_of_mul_eq_mul_right (show (b.den : Int) ≠ 0 by omega) (by omega)
  rw [← e]
  have a1 : ¬ mkRat (valueAt d v * ((v.den * 10 ^ (-d).toNat : Nat) : Int)) (v.den * 10 ^ (-d).toNat) < ((valueAt d v : Int) : Rat) := by
    rw [mk_lt_int hB]
    omega
  have a2 : ¬ ((valueAt d v : Int) : Rat) < mkRat (valueAt d v * ((v.den * 10 ^ (-d).toNat : Nat) : Int)) (v.den * 10 ^ (-d).toNat) := by
    rw [int_lt_mk hB]
    omega
  exact Rat.le_antisymm (Rat.not_lt.mp a2) (Rat.not_lt.mp a1)
theorem whole_int (way : Nat) (n : Int) : whole way (n : Rat) = n := by
  have f : ((n : Int) : Rat).floor = n := Rat.floor_intCast n
  have u : up ((n : Int) : Rat) = n := by
    unfold up
    rw [← Rat.intCast_neg, Rat.floor_intCast]
    omega
  unfold whole
  simp only [f, u]
  have z : ((n : Int) : Rat) - ((n : Int) : Rat) = 0 := Rat.sub_self
  have hl : (0 : Rat) < 1 / 2 := by decide +kernel
  simp only [z, hl, if_true]
  repeat' split
  all_goals rfl
theorem ten_zero : ten 0 = 1 := by
  unfold ten
  simp
theorem valueAt_int (n : Int) : valueAt 0 (n : Rat) = n := by
  unfold valueAt unitsAt
  rw [ten_zero, Rat.mul_one]
  exact whole_int 0 n
theorem lost_int (n : Int) (b : Rat) : bLost 0 (n : Rat) b = 0 := by
  unfold bLost
  rw [parts_nat, valueAt_int]
  simp
/-- where nothing is lost in front of the point, nothing is lost at 0 -/
theorem bound_at_zero {d : Int} {v b : Rat} (h : 0 ≤ b.num) (hd : d ≤ 0) (z : boundAt d v b = 0) : boundAt 0 v b = 0 := by
  obtain ⟨b0, l0⟩ := (held_zero h).mp ((bound_zero_iff h).mp z)
  refine (bound_zero_iff h).mpr ((held_zero h).mpr ⟨b0, ?_⟩)
  have e := lost_zero l0
  have p10 := pow10_pos (-d).toNat
  have e2 : v = ((valueAt d v * ((10 ^ (-d).toNat : Nat) : Int) : Int) : Rat) := by
    have w := worth_mk d (valueAt d v)
    have w2 : worth d (valueAt d v) = v := by
      unfold worth
      rw [← e]
      rw [Rat.div_def, Rat.mul_assoc, Rat.mul_inv_cancel _ (ten_ne d), Rat.mul_one]
    rw [w2, show d.toNat = 0 by omega, Nat.pow_zero] at w
    generalize valueAt d v * ((10 ^ (-d).toNat : Nat) : Int) = n at w ⊢
    rw [w]
    exact (Rat.mk_eq_mkRat n 1 (by decide) (by simp)).symm
  rw [e2]
  exact lost_int _ b
/-- units of a place, few of them, fit -/
theorem worth_fits {d n : Int} (h1 : -60 ≤ d) (h2 : d ≤ 60) (h : n.natAbs ≤ 99) : fits (worth d n) = true := by
  rw [worth_mk]
  have p := pow10_pos d.toNat
  have x1 : 10 ^ d.toNat ≤ 10 ^ 60 := Nat.pow_le_pow_right (by decide) (by omega)
  have x2 : 10 ^ (-d).toNat ≤ 10 ^ 60 := Nat.pow_le_pow_right (by decide) (by omega)
  have big : 99 * 10 ^ 60 < 2 ^ 4096 := by decide +kernel
  refine fits_of ?_ (Nat.lt_of_le_of_lt (mk_den_le p) ?_)
  · refine Nat.lt_of_le_of_lt (mk_num_le p) ?_
    rw [Int.natAbs_mul, Int.natAbs_natCast]
    exact Nat.lt_of_le_of_lt (Nat.mul_le_mul h x2) big
  · omega
/-- a place told: it is one, and the bound's units there are few -/
theorem place_few {v b : Rat} {d : Int} (h : 0 ≤ b.num) (e : place v b = some d) : -60 ≤ d ∧ d ≤ 60 ∧ 0 ≤ boundAt d v b ∧ boundAt d v b ≤ 99 := by
  cases x : exactPlace v b with
  | some y =>
    rw [place_exact x] at e
    have m := List.find?_some x
    have m0 : boundAt y v b = 0 := beq_iff_eq.mp m
    have i := List.mem_of_find?_eq_some x
    rw [List.mem_map] at i
    obtain ⟨k, hk, rfl⟩ := i
    have hk := List.mem_range.mp hk
    have hlow : LOW = -60 := rfl
    rw [hlow] at e m0
    injection e with e
    by_cases c : (-60 : Int) + (k : Int) < 0
    · rw [if_pos c] at e
      subst e
      have z := bound_at_zero h (by omega) m0
      exact ⟨by decide, by decide, by omega, by omega⟩
    · rw [if_neg c] at e
      subst e
      exact ⟨by omega, by omega, by omega, by omega⟩
  | none =>
    rw [place_figure x] at e
    have m := List.find?_some e
    have m0 : boundAt d v b ≤ FIGURES := of_decide_eq_true m
    have i := List.mem_of_find?_eq_some e
    rw [List.mem_map] at i
    obtain ⟨k, hk, rfl⟩ := i
    have hk := List.mem_range.mp hk
    have hh : HIGH = 60 := rfl
    have hf : FIGURES = 99 := rfl
    rw [hf] at m0
    rw [hh] at m0 ⊢
    exact ⟨by omega, by omega, bound_nn h, m0⟩
/-- the first units of nought, told at nought at least -/
theorem place_first {v b : Rat} {i : Nat} (hi : i < 121) (h1 : ∀ k : Nat, k < i → boundAt (-60 + k) v b ≠ 0) (h2 : boundAt (-60 + i) v b = 0) : place v b = some (if (0 : Int) > -60 + (i : Int) then 0 else -60 + (i : Int)) := place_exact (exact_at hi h1 h2)
theorem place_last {v b : Rat} {i : Nat} (h0 : ∀ k : Nat, k < 121 → boundAt (-60 + k) v b ≠ 0) (hi : i < 121) (h1 : ∀ k : Nat, k < i → ¬ boundAt (60 - k) v b ≤ 99) (h2 : boundAt (60 - i) v b ≤ 99) : place v b = some ((60 : Int) - (i : Int)) := by
  rw [place_figure (exact_none h0)]
  exact figure_at hi h1 h2
theorem place_no {v b : Rat} (h0 : ∀ k : Nat, k < 121 → boundAt (-60 + k) v b ≠ 0) (h1 : ∀ k : Nat, k < 121 → ¬ boundAt (60 - k) v b ≤ 99) : place v b = none := by
  rw [place_figure (exact_none h0)]
  exact figure_none h1
end NXM
namespace L2.NX
open PySem PySem.Spec PyProof.Rows
open EbNum
/-! ### a value with its bound, shown -/
def spBoundU (CB CR : Addr) : Sp := fun vs H Q _ => ∃ (g : Addr) (p q : Rat) (d : Int), vs = [.ref g, .int d] ∧ Bnd CB CR H g p q ∧ fits p = true ∧ fits q = true ∧ isPlace d = true ∧ Q (.int (boundAt d p q)) H
def spPlace (K : PySem.W.Frag) (R CB CR : Addr) : Sp := fun vs H Q E => ∃ (g : Addr) (p q : Rat), vs = [.ref g] ∧ Bnd CB CR H g p q ∧ fits p = true ∧ fits q = true ∧ (place p q = none → Ref K R E [-5]) ∧ (∀ d, place p q = some d → Q (.int d) H)
def spNumU (CR : Addr) : Sp := fun vs H Q _ => ∃ n d : Int, vs = [.int n, .int d] ∧ isPlace d = true ∧ n.natAbs < 10 ^ 1300 ∧ ∀ x H', Ins CR H' x (rtF (worth d n).num (worth d n).den) → Same H H' → Q (.ref x) H'
def spShownT (K : PySem.W.Frag) (R CB CR : Addr) : Sp := fun vs H Q E => ∃ (g : Addr) (p q : Rat), vs = [.ref g] ∧ Bnd CB CR H g p q ∧ fits p = true ∧ fits q = true ∧ 0 ≤ q.num ∧ (place p q = none → Ref K R E [-5]) ∧
  (∀ d, place p q = some d → fits (worth d (valueAt d p)) = false → Ref K R E [-6]) ∧
  (∀ d, place p q = some d → fits (worth d (valueAt d p)) = true → ∀ z H', IsTxt z (shownText d p q) → Q (.str z) H')
def spShown (K : PySem.W.Frag) : Sp := fun vs H Q _ => ∃ (a b : Addr) (t u : List UInt8), vs = [.ref a, .ref b] ∧ SqL K H a (ofB t) ∧ t.length ≤ 5000 ∧ SqL K H b (ofB u) ∧ u.length ≤ 5000 ∧
  ∀ p H', H' p = some (.lst ((EvenANeutral.shown (EvenA.answer (.shown t u))).map V.int)) → Q (.ref p) H'
end L2.NX
namespace L2.NX
open PySem PySem.Spec PyProof.Rows
open EbNum
section
variable {P : Program} {w : World} {K : PySem.W.Frag} {mg : Str → Option Value} {base : Heap} {R C C2 CF CR CB f : Addr} {fd : FuncData}
theorem scNoPI : FnScope ["self"] ["self"] (defScope sNoPI) := ⟨rfl, rfl, rfl, by decide +kernel, rfl, by decide +kernel, by decide +kernel⟩
theorem ok_noPI (F : Fun K "__init__" "NoPlace.__init__" sNoPI f fd) (B : OwX P w K mg base R CX0 1 "Refused" "__init__" ["self", "answer"] (spRefI K R)) :
    FnOk P w K mg base CX0 2 f fd ["self"] (spErr K R (fun ns => ns = []) (fun _ => [-5])) := by
  obtain ⟨f1, fd1, mc, F1, g1, rd1, cv1, k1, b1⟩ := B
  refine F.ok scNoPI (fun vs H Q E h => ?_) (fun cdv A outer s H vs Q E hr h => ?_)
  · obtain ⟨a, C, ns, rfl, rfl, _⟩ := h
    rfl
  · obtain ⟨a, C, ns, rfl, rfl, T, ha, k⟩ := h
    refine ⟨_, pss_one (ps_expr (pe_own rfl g1 rd1 cv1 k1 F1 hr b1 pass0 (pa_cons (pv 0) (pa_cons (pe_lst (pa_cons (pe_un un_neg pe_int) pa_nil)) pa_nil)))), ?_⟩
    refine ⟨_, rfl, _, rfl, (by show 1 ≤ sizeLine; decide), fun l hl => ?_⟩
    have al : a ≠ l := ne_of_none ha hl
    refine ⟨a, C, _, rfl, T, (by rw [upd_ne al]; exact ha), fun d hd da => ?_⟩
    have dl : d ≠ l := fun z => by
      rw [z, upd_same] at hd
      cases hd
    rw [upd_ne dl] at hd
    exact k d l hd hl da al.symm dl
theorem scBoundU : FnScope ["given", "d", "value", "bound", "larger", "smaller", "parts", "lost", "held"] ["given", "d"] (defScope sBoundU) := ⟨rfl, rfl, rfl, by decide +kernel, rfl, by decide +kernel, by decide +kernel⟩
theorem abs_if (n : Int) : (if n < 0 then -n else n) = ((n.natAbs : Nat) : Int) := by
  by_cases z : n < 0
  · rw [if_pos z]
    omega
  · rw [if_neg z]
    omega
theorem ok_boundU (F : Fun K "bound_units" "bound_units" sBoundU f fd) (cb : Cls K CB) (nv : NoAttr K CB "value") (nb : NoAttr K CB "bound") (c : Cls K CR) (n1 : NoAttr K CR "top") (n2 : NoAttr K CR "bottom") (mx : mg "max" = none) (ab : mg "abs" = none) (g0 : GlI mg "NEAREST" 0)
    (T : FnX P w K mg base CX0 1 "power_of_ten" ["count"] spTen) (U : FnX P w K mg base CX0 2 "rounded_units" ["number", "d", "way"] (spRound CR)) : FnOk P w K mg base CX0 3 f fd ["given", "d"] (spBoundU CB CR) := by
  obtain ⟨fT, fdT, FT, gT, kT, bT⟩ := T
  obtain ⟨fU, fdU, FU, gU, kU, bU⟩ := U
  refine F.ok scBoundU (fun vs H Q E h => ?_) (fun cdv A outer s H vs Q E hr h => ?_)
  · obtain ⟨g, p, q, d, rfl, _⟩ := h
    rfl
  · obtain ⟨g, p, q, d, rfl, ⟨x, y, ⟨dg, eg⟩, ⟨dx, ex⟩, ⟨dy, ey⟩⟩, fp, fq, hd, k⟩ := h
    refine ⟨_, pss_cons (ps_set (i := 2) scBoundU.nd rfl (Or.inl rfl) (pe_fld (pv 0) rfl))
      (pss_cons (ps_set (i := 3) scBoundU.nd rfl (Or.inl rfl) (pe_fld (pv 0) rfl))
      (pss_cons (ps_set (i := 4) scBoundU.nd rfl (Or.inl rfl) (pe_call FT (hr.mono (by decide)) rfl gT kT bT .nil pass0 (by exact (pa_cons (pe_callB (call_max2 rfl) (by rfl) mx (by decide +kernel) (pa_cons (pv 1) (pa_cons pe_int pa_nil))) pa_nil))))
      (pss_cons (ps_set (i := 5) scBoundU.nd rfl (Or.inl rfl) (pe_call FT (hr.mono (by decide)) rfl gT kT bT .nil pass0 (by exact (pa_cons (pe_callB (call_max2 rfl) (by rfl) mx (by decide +kernel) (pa_cons (pe_un un_neg (pv 1)) (pa_cons pe_int pa_nil))) pa_nil))))
      (pss_cons (ps_set (i := 6) scBoundU.nd rfl (Or.inl rfl) (pe_op op_mulW (pe_op op_mulW (pe_fld (pv 2) rfl) (pe_fld (pv 3) rfl)) (pv 5)))
      (pss_cons (ps_set (i := 7) scBoundU.nd rfl (Or.inl rfl) (pe_callB call_abs (by rfl) ab (by decide +kernel) (pa_cons (pe_op op_sub
          (pe_op op_mulW (pe_call FU hr rfl gU kU bU .nil pass0 (by exact (pa_cons (pv 2) (pa_cons (pv 1) (pa_cons (pe_gi rfl g0) pa_nil))))) (pv 6))
          (pe_op op_mulW (pe_op op_mulW (pe_fld (pv 2) rfl) (pe_fld (pv 3) rfl)) (pv 4))) pa_nil)))
      (pss_cons (ps_set (i := 8) scBoundU.nd rfl (Or.inl rfl) (pe_op op_add (pe_op op_mulW (pe_op op_mulW (pe_fld (pv 3) rfl) (pe_fld (pv 2) rfl)) (pv 4)) (pv 7)))
      (pss_one (ps_ret (pe_un un_neg (pe_op op_fdivW (pe_un un_neg (pv 8)) (pv 6))))))))))), ?_⟩
    have pl := place_in hd
    have p1 := ten60 pl.2
    have p2 := ten60 (show -d ≤ 60 by omega)
    have w1 : (((10 ^ d.toNat : Nat) : Int)).natAbs < 2 ^ 200 := p1
    have w2 : (((10 ^ (-d).toNat : Nat) : Int)).natAbs < 2 ^ 200 := p2
    have pn := NXM.fits_num fp
    have qn := NXM.fits_num fq
    have pd : ((p.den : Int)).natAbs < 2 ^ 4096 := NXM.fits_den fp
    have qd : ((q.den : Int)).natAbs < 2 ^ 4096 := NXM.fits_den fq
    have us : (valueAt d p).natAbs < 2 ^ 4320 := Nat.lt_trans (units_small hd (by decide) fp) NXM.ten1300
    refine ⟨_, rfl, g, CB, dg, _, _, rfl, eg, cb, nv, bd_val, ?_⟩
    refine ⟨_, rfl, g, CB, dg, _, _, rfl, eg, cb, nb, bd_bnd, ?_⟩
    refine ⟨_, rfl, d, 0, rfl, d.toNat, (by rw [max0]; rfl), by omega, ?_⟩
    refine ⟨_, rfl, _, rfl, -d, 0, rfl, (-d).toNat, (by rw [max0]; rfl), by omega, ?_⟩
    refine ⟨_, rfl, x, CR, dx, _, _, rfl, ex, c, n2, rt_bot, _, rfl, y, CR, dy, _, _, rfl, ey, c, n2, rt_bot, _, _, rfl, rfl, wide_mul (a := 4096) (b := 4096) pd qd (by decide) (by decide) (by decide), _, rfl, _, _, rfl, rfl, wide_mul (a := 8192) (b := 200) (wide_lt (a := 4096) (b := 4096) pd qd) w2 (by decide) (by decide) (by decide), ?_⟩
    have wp : (NXM.bParts d p q).natAbs < 2 ^ 8392 := wide_lt (a := 8192) (b := 200) (wide_lt (a := 4096) (b := 4096) pd qd) w2
    show tSeq _ _ _ [some (V.ref g), some (V.int d), some (V.ref x), some (V.ref y), some (V.int ((10 ^ d.toNat : Nat) : Int)), some (V.int ((10 ^ (-d).toNat : Nat) : Int)), some (V.int (NXM.bParts d p q)), none, none] H
    refine ⟨_, rfl, _, rfl, x, p, d, 0, rfl, ⟨dx, ex⟩, fp, hd, by decide, _, rfl, _, _, rfl, rfl, wide_mul (a := 4320) (b := 8392) us wp (by decide) (by decide) (by decide), ?_⟩
    refine ⟨_, rfl, x, CR, dx, _, _, rfl, ex, c, n1, rt_top, _, rfl, y, CR, dy, _, _, rfl, ey, c, n2, rt_bot, _, _, rfl, rfl, wide_mul (a := 4096) (b := 4096) pn qd (by decide) (by decide) (by decide), _, rfl, _, _, rfl, rfl, wide_mul (a := 8192) (b := 200) (wide_lt (a := 4096) (b := 4096) pn qd) w1 (by decide) (by decide) (by decide), _, _, rfl, rfl, NXM.bLost d p q, rfl, ?_⟩
    rw [abs_if]
    refine ⟨_, rfl, y, CR, dy, _, _, rfl, ey, c, n1, rt_top, _, rfl, x, CR, dx, _, _, rfl, ex, c, n2, rt_bot, _, _, rfl, rfl, wide_mul (a := 4096) (b := 4096) qn pd (by decide) (by decide) (by decide), _, rfl, _, _, rfl, rfl, wide_mul (a := 8192) (b := 200) (wide_lt (a := 4096) (b := 4096) qn pd) w1 (by decide) (by decide) (by decide), _, rfl, _, _, rfl, rfl, ?_⟩
    refine ⟨_, rfl, NXM.bHeld d p q, rfl, _, rfl, _, _, rfl, rfl, wide_div (b := 8392) (NXM.parts_pos d p q) wp (by decide) (by decide), _, rfl, ?_⟩
    rw [NXM.bound_code] at k
    exact k
theorem scPlace : FnScope ["given", "d"] ["given"] (defScope sPlace) := ⟨rfl, rfl, rfl, by decide +kernel, rfl, by decide +kernel, by decide +kernel⟩
theorem ok_place (F : Fun K "told_place" "told_place" sPlace f fd) (rg : mg "range" = none) (mx : mg "max" = none) (g1 : GlI mg "FIRST_PLACE" (-60)) (g2 : GlI mg "LAST_PLACE" 60) (g3 : GlI mg "MOST_UNITS" 99)
    (U : FnX P w K mg base CX0 3 "bound_units" ["given", "d"] (spBoundU CB CR)) (B : ErX P w K mg base R C CX0 2 "NoPlace" ["self"] (spErr K R (fun ns => ns = []) (fun _ => [-5]))) :
    FnOk P w K mg base (L2.CX P w) 4 f fd ["given"] (spPlace K R CB CR) := by
  obtain ⟨fU, fdU, FU, gU, kU, bU⟩ := U
  obtain ⟨fB, fdB, FB, TB, iB, tB, gB, bB⟩ := B
  refine F.okX scPlace (fun vs H Q E h => ?_) (fun cdv A outer s H vs Q E hr h => ?_)
  · obtain ⟨g, p, q, rfl, _⟩ := h
    rfl
  · obtain ⟨g, p, q, rfl, bn, fp, fq, kE, kQ⟩ := h
    refine ⟨_, pss_cons (ps_for (passes_of rfl) rfl (pi_range2 (by rfl) rg (pa_cons (pe_gi rfl g1) (pa_cons (pe_op op_add (pe_gi rfl g2) pe_int) pa_nil))) (pg_name (i := 1) scPlace.nd rfl (Or.inl rfl))
        (pss_one (ps_if (pt_cmpR op_eq (pe_call FU hr rfl gU kU bU .nil pass0 (by exact (pa_cons (pv 0) (pa_cons (pv 1) pa_nil)))) pe_int (nomark _))
          (pss_one (ps_ret (pe_callB (call_max2 rfl) (by rfl) mx (by decide +kernel) (pa_cons (pv 1) (pa_cons pe_int pa_nil))))) pss_nil)))
      (pss_cons (ps_for (passes_of rfl) rfl (pi_range3 (by rfl) rg (pa_cons (pe_gi rfl g2) (pa_cons (pe_op op_sub (pe_gi rfl g1) pe_int) (pa_cons (pe_un un_neg pe_int) pa_nil)))) (pg_name (i := 1) scPlace.nd rfl (Or.inl rfl))
        (pss_one (ps_if (pt_cmpR op_le (pe_call FU hr rfl gU kU bU .nil pass0 (by exact (pa_cons (pv 0) (pa_cons (pv 1) pa_nil)))) (pe_gi rfl g3) (nomark _))
          (pss_one (ps_ret (pv 1))) pss_nil)))
      (pss_one (ps_raise rfl (W := fun cls d _ H => E cls d H) (takes_of rfl rfl rfl rfl) (pmk_x0 TB iB tB FB (hr.mono (by decide)) bB pass0 rfl gB)))), ?_⟩
    have eqI : ∀ {i j : Int}, decide (V.int i = V.int j) = decide (i = j) := fun {i j} => decide_eq_decide.mpr ⟨fun e => V.int.inj e, fun e => congrArg V.int e⟩
    refine ⟨_, _, rfl, rfl, -60, 61, rfl, ⟨by decide, by decide, by decide, by decide⟩, ?_⟩
    refine for_range (lo := -60) (n := 121) (fun i σ H' => ∃ v : Option V, σ = [some (.ref g), v] ∧ H' = H ∧ ∀ k : Nat, k < i → boundAt (-60 + k) p q ≠ 0) ⟨none, rfl, rfl, fun k hk => absurd hk (Nat.not_lt_zero _)⟩ ?_ ?_
    · rintro i σ1 H1 hi ⟨v, rfl, rfl, hz⟩
      refine ⟨_, rfl, _, rfl, g, p, q, (-60 : Int) + (i : Int), rfl, bn, fp, fq, place_is (by omega) (by omega), rfl, _, rfl, ?_⟩
      rw [eqI]
      by_cases z : boundAt (-60 + (i : Int)) p q = 0
      · refine if_pos_of (decide_eq_true z) ?_
        exact ⟨_, rfl, _, 0, rfl, kQ _ (NXM.place_first hi hz z)⟩
      · refine if_neg_of (decide_eq_false z) ?_
        refine ⟨_, rfl, rfl, fun k hk => ?_⟩
        by_cases e : k = i
        · subst e
          exact z
        · exact hz k (by omega)
    · rintro σ1 H1 ⟨v, rfl, rfl, h0⟩
      refine ⟨_, _, rfl, rfl, _, rfl, 60, -61, -1, 121, rfl, RgC.neg (by decide) (by decide) (by decide) (by decide), ?_⟩
      refine for_rangeC (lo := 60) (c := -1) (n := 121) (fun i σ H' => ∃ v : Option V, σ = [some (.ref g), v] ∧ H' = H1 ∧ ∀ k : Nat, k < i → ¬ boundAt (60 - k) p q ≤ 99) ⟨v, rfl, rfl, fun k hk => absurd hk (Nat.not_lt_zero _)⟩ ?_ ?_
      · rintro i σ1 H2 hi ⟨v, rfl, rfl, hz⟩
        have e0 : (60 : Int) + (i : Int) * -1 = 60 - (i : Int) := by omega
        rw [e0]
        refine ⟨_, rfl, _, rfl, g, p, q, (60 : Int) - (i : Int), rfl, bn, fp, fq, place_is (by omega) (by omega), _, _, rfl, rfl, _, rfl, ?_⟩
        by_cases z : boundAt (60 - (i : Int)) p q ≤ 99
        · refine if_pos_of (decide_eq_true z) ?_
          exact ⟨_, rfl, kQ _ (NXM.place_last h0 hi hz z)⟩
        · refine if_neg_of (decide_eq_false z) ?_
          refine ⟨_, rfl, rfl, fun k hk => ?_⟩
          by_cases e : k = i
          · subst e
            exact z
          · exact hz k (by omega)
      · rintro σ1 H2 ⟨v, rfl, rfl, h1⟩
        exact ⟨(by show 0 ≤ 1000; decide), err_end (ns := []) TB rfl (kE (NXM.place_no h0 h1))⟩
theorem scNumU : FnScope ["units", "d"] ["units", "d"] (defScope sNumU) := ⟨rfl, rfl, rfl, by decide +kernel, rfl, by decide +kernel, by decide +kernel⟩
theorem ok_numU (F : Fun K "number_of_units" "number_of_units" sNumU f fd) (mx : mg "max" = none) (T : FnX P w K mg base CX0 1 "power_of_ten" ["count"] spTen) (L : FnX P w K mg base CX0 3 "least_terms" ["top", "bottom"] (spLeast CR)) :
    FnOk P w K mg base CX0 4 f fd ["units", "d"] (spNumU CR) := by
  obtain ⟨fT, fdT, FT, gT, kT, bT⟩ := T
  obtain ⟨fL, fdL, FL, gL, kL, bL⟩ := L
  refine F.ok scNumU (fun vs H Q E h => ?_) (fun cdv A outer s H vs Q E hr h => ?_)
  · obtain ⟨n, d, rfl, _⟩ := h
    rfl
  · obtain ⟨n, d, rfl, hd, hn, k⟩ := h
    refine ⟨_, pss_one (ps_ret (pe_call FL hr rfl gL kL bL .nil pass0 (by exact (pa_cons (pe_op op_mulW (pv 0) (pe_call FT (hr.mono (by decide)) rfl gT kT bT .nil pass0 (by exact (pa_cons (pe_callB (call_max2 rfl) (by rfl) mx (by decide +kernel) (pa_cons (pe_un un_neg (pv 1)) (pa_cons pe_int pa_nil))) pa_nil))))
      (pa_cons (pe_call FT (hr.mono (by decide)) rfl gT kT bT .nil pass0 (by exact (pa_cons (pe_callB (call_max2 rfl) (by rfl) mx (by decide +kernel) (pa_cons (pv 1) (pa_cons pe_int pa_nil))) pa_nil))) pa_nil))))), ?_⟩
    have pl := place_in hd
    have p1 := ten60 pl.2
    have p2 := ten60 (show -d ≤ 60 by omega)
    refine ⟨_, rfl, _, rfl, _, rfl, -d, 0, rfl, (-d).toNat, (by rw [max0]; rfl), by omega, _, _, rfl, rfl, wide_mul (a := 4320) (b := 200) (Nat.lt_trans hn NXM.ten1300) (by exact p2) (by decide) (by decide) (by decide), ?_⟩
    refine ⟨_, rfl, d, 0, rfl, d.toNat, (by rw [max0]; rfl), by omega, _, 10 ^ d.toNat, rfl, NXM.pow10_pos _, Nat.lt_trans p1 (Nat.pow_lt_pow_right (by decide) (by decide)), fun x H' ix s => k x H' ?_ s⟩
    rw [NXM.worth_mk]
    exact ix
theorem scShownT : FnScope ["given", "d", "units"] ["given"] (defScope sShownT) := ⟨rfl, rfl, rfl, by decide +kernel, rfl, by decide +kernel, by decide +kernel⟩
theorem ok_shownT (F : Fun K "shown_text" "shown_text" sShownT f fd) (cb : Cls K CB) (nv : NoAttr K CB "value") (g0 : GlI mg "NEAREST" 0) (gP : GlS mg "PLUS_MINUS" " +- ")
    (A : FnX P w K mg base (L2.CX P w) 4 "told_place" ["given"] (spPlace K R CB CR)) (U : FnX P w K mg base CX0 2 "rounded_units" ["number", "d", "way"] (spRound CR)) (N : FnX P w K mg base CX0 4 "number_of_units" ["units", "d"] (spNumU CR))
    (D : FnX P w K mg base (L2.CX P w) 4 "check_fits" ["number"] (spChkF K R CR)) (V_ : FnX P w K mg base CX0 1 "units_text" ["units", "d"] spUnits) (B : FnX P w K mg base CX0 3 "bound_units" ["given", "d"] (spBoundU CB CR)) :
    FnOk P w K mg base (L2.CX P w) 5 f fd ["given"] (spShownT K R CB CR) := by
  obtain ⟨fA, fdA, FA, gA, kA, bA⟩ := A
  obtain ⟨fU, fdU, FU, gU, kU, bU⟩ := U
  obtain ⟨fN, fdN, FN, gN, kN, bN⟩ := N
  obtain ⟨fD, fdD, FD, gD, kD, bD⟩ := D
  obtain ⟨fV, fdV, FV, gV, kV, bV⟩ := V_
  obtain ⟨fB, fdB, FB, gB, kB, bB⟩ := B
  refine F.okX scShownT (fun vs H Q E h => ?_) (fun cdv A outer s H vs Q E hr h => ?_)
  · obtain ⟨g, p, q, rfl, _⟩ := h
    rfl
  · obtain ⟨g, p, q, rfl, bn, fp, fq, q0, kE5, kE6, kQ⟩ := h
    refine ⟨_, pss_cons (ps_set (i := 1) scShownT.nd rfl (Or.inl rfl) (pe_call FA hr rfl gA kA bA .nil (passes_call (W := fun cls d _ H => E cls d H) (takes_of rfl rfl rfl rfl) (fun _ _ _ _ z => z)) (by exact (pa_cons (pv 0) pa_nil))))
      (pss_cons (ps_set (i := 2) scShownT.nd rfl (Or.inl rfl) (pe_call FU (hr.mono (by decide)) rfl gU kU bU .nil pass0 (by exact (pa_cons (pe_fld (pv 0) rfl) (pa_cons (pv 1) (pa_cons (pe_gi rfl g0) pa_nil))))))
      (pss_cons (ps_expr (pe_call FD hr rfl gD kD bD .nil (passes_call (W := fun cls d _ H => E cls d H) (takes_of rfl rfl rfl rfl) (fun _ _ _ _ z => z)) (by exact (pa_cons (pe_call FN hr rfl gN kN bN .nil pass0 (by exact (pa_cons (pv 2) (pa_cons (pv 1) pa_nil)))) pa_nil))))
      (pss_one (ps_ret (pe_op op_add_str (pe_op op_add_str (pe_call FV (hr.mono (by decide)) rfl gV kV bV .nil pass0 (by exact (pa_cons (pv 2) (pa_cons (pv 1) pa_nil)))) (pe_gs rfl gP))
        (pe_call FV (hr.mono (by decide)) rfl gV kV bV .nil pass0 (by exact (pa_cons (pe_call FB (hr.mono (by decide)) rfl gB kB bB .nil pass0 (by exact (pa_cons (pv 0) (pa_cons (pv 1) pa_nil)))) (pa_cons (pv 1) pa_nil))))))))), ?_⟩
    have bn' := bn
    obtain ⟨x, y, ⟨dg, eg⟩, ix, iy⟩ := bn
    refine ⟨_, rfl, g, p, q, rfl, bn', fp, fq, kE5, fun d hd => ?_⟩
    have few := NXM.place_few q0 hd
    have okd := place_is few.1 few.2.1
    have us := units_small (q := p) (d := d) (w := 0) okd (by decide) fp
    refine ⟨_, rfl, g, CB, dg, _, _, rfl, eg, cb, nv, bd_val, _, rfl, x, p, d, 0, rfl, ix, fp, okd, by decide, ?_⟩
    refine ⟨_, rfl, _, rfl, _, d, rfl, okd, us, fun z H1 iz s1 => ?_⟩
    refine ⟨z, _, rfl, iz, fun no => kE6 d hd no, fun ft => ?_⟩
    have bs : (boundAt d p q).natAbs < 10 ^ 1300 := by
      have big : 99 < 10 ^ 1300 := by decide +kernel
      omega
    refine ⟨_, rfl, _, rfl, _, d, rfl, okd, us, fun t1 h1 => ⟨_, _, rfl, rfl, ?_, ?_⟩⟩
    · have := units_len okd us
      rw [h1.len, pm_txt.len, sizeLine_eq]
      have := want_len
      omega
    refine ⟨_, rfl, _, rfl, g, p, q, d, rfl, bn'.same s1, fp, fq, okd, _, rfl, _, d, rfl, okd, bs, fun t2 h2 => ⟨_, _, rfl, rfl, ?_, ?_⟩⟩
    · have l1 := units_len okd us
      have l2 := units_len okd bs
      rw [(h1.app pm_txt).len, h2.len, List.length_append, sizeLine_eq]
      have := want_len
      omega
    · refine kQ d hd ft _ H1 ?_
      have := (h1.app pm_txt).app h2
      rw [List.append_assoc] at this
      exact this
theorem scShown : FnScope ["v", "b", "text", "refused"] ["v", "b"] (defScope sShown) := ⟨rfl, rfl, rfl, by decide +kernel, rfl, by decide +kernel, by decide +kernel⟩
theorem ok_shown (F : Fun K "shown" "shown" sShown f fd) (gR : mg "Refused" = some (.ref R)) (A : FnX P w K mg base (L2.CX P w) 9 "read_given" ["v", "b", "which"] (spGiven K R CR CB))
    (B : FnX P w K mg base (L2.CX P w) 5 "shown_text" ["given"] (spShownT K R CB CR)) (U : FnX P w K mg base CX0 1 "told_text" ["text"] spTold) :
    FnOk P w K mg base CX0 10 f fd ["v", "b"] (spShown K) := by
  obtain ⟨fA, fdA, FA, gA, kA, bA⟩ := A
  obtain ⟨fB, fdB, FB, gB, kB, bB⟩ := B
  obtain ⟨fU, fdU, FU, gU, kU, bU⟩ := U
  refine F.ok scShown (fun vs H Q E h => ?_) (fun cdv A outer s H vs Q E hr h => ?_)
  · obtain ⟨a, b, t, u, rfl, _⟩ := h
    rfl
  · obtain ⟨a, b, t, u, rfl, hs, hl, hs2, hl2, k⟩ := h
    refine ⟨_, pss_cons (ps_try_as (i := 3) (tb := fun W => tAsg (tCallS (spShownT K R CB CR) (WE W) (tCons (tCallS (spGiven K R CR CB) (WE W) (tCons (tVar 0) (tCons (tVar 1) (tCons (tC (.int 0)) tNil)))) tNil)) (gName 2))
        (ts := tSuite K 3) (Wout := fun _ _ _ _ => False) rfl rfl scShown.nd rfl rfl ⟨rfl, by decide, Or.inl gR⟩ takes0
        (fun W pn xe tk _ => pss_one (ps_set (i := 2) scShown.nd rfl (Or.inl rfl) (by exact (pe_callS FB (hr.mono (by decide)) rfl gB kB bB (fun σ => passAt tk σ) (by exact (pa_cons (pe_callS FA hr rfl gA kA bA (fun σ => passAt tk σ) (by exact (pa_cons (pv 0) (pa_cons (pv 1) (pa_cons pe_int pa_nil))))) pa_nil))))))
        (fun a oe cls d pn hz hf => pss_one (ps_ret (pe_xfA hz hf (pv 3)))))
      (pss_one (ps_ret (pe_call FU (hr.mono (by decide)) rfl gU kU bU .nil pass0 (by exact (pa_cons (pv 2) pa_nil))))), ?_⟩
    refine ⟨_, rfl, _, rfl, a, b, 0, t, u, rfl, hs, hl, hs2, hl2, fun e he C d l H2 X1 hd hl1 => ?_, fun p hp e he C d l H2 X1 hd hl1 => ?_, fun p q hp hq neg C d l H2 X1 hd hl1 => ?_, fun p q hp hq nn g H1 ig s1 => ?_⟩
    · refine ⟨true, X1.te, fun _ ae hae => ?_, fun z => Bool.noConfusion z⟩
      refine ⟨_, rfl, rfl, C, rfl, X1.xf, X1.na, d, _, _, rfl, hd, look_hd, ?_⟩
      refine k l H2 ?_
      rw [NXM.show_err1 he]
      exact hl1
    · refine ⟨true, X1.te, fun _ ae hae => ?_, fun z => Bool.noConfusion z⟩
      refine ⟨_, rfl, rfl, C, rfl, X1.xf, X1.na, d, _, _, rfl, hd, look_hd, ?_⟩
      refine k l H2 ?_
      rw [NXM.show_err2 hp he]
      exact hl1
    · refine ⟨true, X1.te, fun _ ae hae => ?_, fun z => Bool.noConfusion z⟩
      refine ⟨_, rfl, rfl, C, rfl, X1.xf, X1.na, d, _, _, rfl, hd, look_hd, ?_⟩
      refine k l H2 ?_
      rw [NXM.show_neg hp hq neg, NXM.shown_says]
      exact hl1
    have q0 : 0 ≤ q.num := by
      have : ¬ q.num < 0 := fun z => nn ((below_iff q).mpr z)
      omega
    refine ⟨g, p, q, rfl, ig, NXM.num_fits hp, NXM.num_fits hq, q0, fun no C d l H2 X1 hd hl1 => ?_, fun d hd no C d' l H2 X1 hd' hl1 => ?_, fun d hd ft z H2 hz => ?_⟩
    · refine ⟨true, X1.te, fun _ ae hae => ?_, fun z => Bool.noConfusion z⟩
      refine ⟨_, rfl, rfl, C, rfl, X1.xf, X1.na, d, _, _, rfl, hd, look_hd, ?_⟩
      refine k l H2 ?_
      rw [NXM.show_none hp hq nn no, NXM.shown_says]
      exact hl1
    · refine ⟨true, X1.te, fun _ ae hae => ?_, fun z => Bool.noConfusion z⟩
      refine ⟨_, rfl, rfl, C, rfl, X1.xf, X1.na, d', _, _, rfl, hd', look_hd, ?_⟩
      refine k l H2 ?_
      rw [NXM.show_some hp hq nn hd, if_neg (by rw [no, Bool.false_and]; exact Bool.false_ne_true), NXM.shown_says]
      exact hl1
    have few := NXM.place_few q0 hd
    have okd := place_is few.1 few.2.1
    have us := units_small (q := p) (d := d) (w := 0) okd (by decide) (NXM.num_fits hp)
    have bs : (boundAt d p q).natAbs < 10 ^ 1300 := by
      have big : 99 < 10 ^ 1300 := by decide +kernel
      omega
    have l1 : (unitsText d (valueAt d p)).length ≤ 3000 := units_len okd us
    have l2 := units_len okd bs
    have l3 := want_len
    have fb : fits (worth d (boundAt d p q)) = true := NXM.worth_fits few.1 few.2.1 (by omega)
    refine ⟨_, rfl, z, _, rfl, hz, ?_, fun g2 H3 hg s3 => ?_⟩
    · unfold shownText
      rw [List.length_append, List.length_append]
      omega
    · refine k g2 H3 ?_
      rw [hg, NXM.show_some hp hq nn hd, if_pos (by rw [ft, fb]; rfl), NXM.shown_whole, List.map_cons, List.map_map]
      rfl
end
end L2.NX
set_option exponentiation.threshold 10000
namespace L2.NX
open PySem PySem.Spec PyProof.Rows
open EbNum
section
variable {P : Program} {w : World} {K : PySem.W.Frag} {mg : Str → Option Value} {base : Heap} {R C C2 CF CR f : Addr} {fd : FuncData}
theorem scChkL : FnScope ["text"] ["text"] (defScope sChkL) := ⟨rfl, rfl, rfl, by decide +kernel, rfl, by decide +kernel, by decide +kernel⟩
theorem ok_chkL (F : Fun K "check_length" "check_length" sChkL f fd) (len : mg "len" = none) (g1 : GlI mg "MOST_BYTES" 4096)
    (B : ErX P w K mg base R C CX0 2 "OutOfRange" ["self"] (spErr K R (fun ns => ns = []) (fun _ => [-1]))) : FnOk P w K mg base (L2.CX P w) 4 f fd ["text"] (spChkL K R) := by
  obtain ⟨fB, fdB, FB, TB, iB, tB, gB, bB⟩ := B
  refine F.okX scChkL (fun vs H Q E h => ?_) (fun cdv A outer s H vs Q E hr h => ?_)
  · obtain ⟨a, t, rfl, _⟩ := h
    rfl
  · obtain ⟨a, t, rfl, hs, kE, kQ⟩ := h
    refine ⟨_, pss_one (ps_if (pt_cmpR op_gt (pe_callB call_len_seq (by rfl) len PySem.boot_len (pa_cons (pv 0) pa_nil)) (pe_gi rfl g1) (nomark _))
        (pss_one (ps_raise rfl (W := fun cls d _ H => E cls d H) (takes_of rfl rfl rfl rfl) (pmk_x0 TB iB tB FB hr bB pass0 rfl gB))) pss_nil), ?_⟩
    refine ⟨_, rfl, a, _, rfl, .inl hs, _, _, rfl, rfl, _, rfl, ?_⟩
    rw [List.length_map]
    by_cases long : 4096 < t.length
    · refine if_pos_of (decide_eq_true (by omega)) ?_
      exact ⟨(by show 0 ≤ 1000; decide), err_end (ns := []) TB rfl (kE long)⟩
    · refine if_neg_of (decide_eq_false (by omega)) ?_
      exact kQ long
end
end L2.NX
namespace L2.NX
open PySem PySem.Spec PyProof.Rows
open EbNum
section
variable {P : Program} {w : World} {K : PySem.W.Frag} {mg : Str → Option Value} {base : Heap} {R C C2 CF CR f : Addr} {fd : FuncData}
theorem scRead : FnScope ["text", "which", "reader", "number"] ["text", "which"] (defScope sRead) := ⟨rfl, rfl, rfl, by decide +kernel, rfl, by decide +kernel, by decide +kernel⟩
theorem ok_read (F : Fun K "read_number" "read_number" sRead f fd) (c : Cls K CF) (LN : FnX P w K mg base (L2.CX P w) 4 "check_length" ["text"] (spChkL K R))
    (M : MkX P w K mg base CF CX0 1 "Reader" ["self", "text", "which"] (spRdI CF)) (N : MtX P w K mg base CF (L2.CX P w) 7 "number" ["self"] (spPart K R CF CR signedAt))
    (Z : MtX P w K mg base CF (L2.CX P w) 4 "finish" ["self"] (spFinish K R CF)) (T : FnX P w K mg base CX0 1 "fits" ["number"] (spFits CR))
    (B2 : ErX P w K mg base R C2 CX0 2 "TooLarge" ["self"] (spErr K R (fun ns => ns = []) (fun _ => [-6]))) :
    FnOk P w K mg base (L2.CX P w) 8 f fd ["text", "which"] (spRead K R CR) := by
  obtain ⟨fM, fdM, FM, mM, gM, bM⟩ := M
  obtain ⟨fN, fdN, FN, mN, bN⟩ := N
  obtain ⟨fZ, fdZ, FZ, mZ, bZ⟩ := Z
  obtain ⟨fT, fdT, FT, gT, kT, bT⟩ := T
  obtain ⟨f1, fd1, F1, g1, k1, b1⟩ := LN
  obtain ⟨f2, fd2, F2, T2, i2, t2, g3, b2⟩ := B2
  refine F.okX scRead (fun vs H Q E h => ?_) (fun cdv A outer s H vs Q E hr h => ?_)
  · obtain ⟨a, n, t, rfl, _⟩ := h
    rfl
  · obtain ⟨a, n, t, rfl, hs, hl, kE, kQ⟩ := h
    refine ⟨_, pss_cons (ps_expr (pe_call F1 (hr.mono (by decide)) rfl g1 k1 b1 .nil (passes_call (W := fun cls d _ H => E cls d H) (takes_of rfl rfl rfl rfl) (fun _ _ _ _ z => z)) (by exact (pa_cons (pv 0) pa_nil))))
      (pss_cons (ps_set (i := 2) scRead.nd rfl (Or.inl rfl) (pe_make mM FM (hr.mono (by decide)) rfl gM bM .nil pass0 (by exact (pa_cons (pv 0) (pa_cons (pv 1) pa_nil)))))
      (pss_cons (ps_set (i := 3) scRead.nd rfl (Or.inl rfl) (pe_meth0 (pv 2) c mN FN hr bN .nil (passes_call (W := fun cls d _ H => E cls d H) (takes_of rfl rfl rfl rfl) (fun _ _ _ _ z => z))))
      (pss_cons (ps_expr (pe_meth0 (pv 2) c mZ FZ (hr.mono (by decide)) bZ .nil (passes_call (W := fun cls d _ H => E cls d H) (takes_of rfl rfl rfl rfl) (fun _ _ _ _ z => z))))
      (pss_cons (ps_if (pt_not (pt_val (pe_call FT (hr.mono (by decide)) rfl gT kT bT .nil pass0 (by exact (pa_cons (pv 3) pa_nil)))))
        (pss_one (ps_raise rfl (W := fun cls d _ H => E cls d H) (takes_of rfl rfl rfl rfl) (pmk_x0 T2 i2 t2 F2 (hr.mono (by decide)) b2 pass0 rfl g3))) pss_nil)
      (pss_one (ps_ret (pv 3))))))), ?_⟩
    refine ⟨_, rfl, a, t, rfl, hs, fun long => ?_, fun long => ?_⟩
    · have z := kE _ (NXM.num_long long)
      rw [NXM.shown_says] at z
      exact z
    refine ⟨_, rfl, _, rfl, fun r dx nr ndx ne => ⟨r, dx, _, _, rfl, upd_same, rfl, ?_⟩⟩
    have s0 : Same H (upd (upd (upd H dx (.own r)) r (.ins CF dx [])) r (.ins CF dx (rdF a n 0))) := fun b o e => by
      rw [upd_ne (ne_of_none e nr), upd_ne (ne_of_none e nr), upd_ne (ne_of_none e ndx)]
      exact e
    have i0 : Ins CF (upd (upd (upd H dx (.own r)) r (.ins CF dx [])) r (.ins CF dx (rdF a n 0))) r (rdF a n ((0 : Nat) : Int)) := ⟨dx, by rw [upd_same]; rfl⟩
    generalize upd (upd (upd H dx (.own r)) r (.ins CF dx [])) r (.ins CF dx (rdF a n 0)) = H1 at s0 i0
    have up : ∀ {H2 : Hp}, Upto r H1 H2 → Same H H2 := fun u b o e => u b o (s0 b o e) (ne_of_none e nr)
    obtain ⟨dx1, e1⟩ := i0
    refine ⟨_, rfl, r, dx1, _, rfl, e1, rd_no (by decide +kernel) (by decide +kernel) (by decide +kernel), r, a, n, 0, t, rfl, Nat.zero_le _, ⟨dx1, e1⟩, s0.seq hs, hl, fun k z => ?_, fun q k z hk x H2 ix ir u2 => ?_⟩
    · have y := kE _ (NXM.num_fault (n := n) long (k := k) z)
      rw [NXM.shown_wrong] at y
      exact y
    obtain ⟨dr, er⟩ := ir
    have s2 := up u2
    refine ⟨_, rfl, r, dr, _, rfl, er, rd_no (by decide +kernel) (by decide +kernel) (by decide +kernel), r, a, n, k, t, rfl, ⟨dr, er⟩, s2.seq hs, fun lt => ?_, fun full => ?_⟩
    · have y := kE _ (NXM.num_more (n := n) long z lt)
      rw [NXM.shown_wrong] at y
      exact y
    have val := NXM.num_ok (n := n) long z full
    refine ⟨_, rfl, x, q, rfl, ix, _, rfl, ?_⟩
    cases ft : EbNum.fits q with
    | true =>
      rw [if_pos ft] at val
      refine iteF ?_
      exact ⟨_, rfl, kQ q val x H2 ix s2⟩
    | false =>
      rw [if_neg (by rw [ft]; exact Bool.false_ne_true)] at val
      refine iteT ?_
      refine ⟨(by show 0 ≤ 1000; decide), ?_⟩
      refine err_end (ns := []) T2 rfl ?_
      have y := kE _ val
      rw [NXM.shown_says] at y
      exact y
end
end L2.NX
set_option exponentiation.threshold 20000
namespace L2.NX
open PySem PySem.Spec PyProof.Rows
open EbNum
section
variable {P : Program} {w : World} {K : PySem.W.Frag} {mg : Str → Option Value} {base : Heap} {R C C2 CF CR f : Addr} {fd : FuncData}
theorem scGoes : FnScope ["rest", "bottom", "below", "way"] ["rest", "bottom", "below", "way"] (defScope sGoes) := ⟨rfl, rfl, rfl, by decide +kernel, rfl, by decide +kernel, by decide +kernel⟩
theorem ok_goes (F : Fun K "goes_up" "goes_up" sGoes f fd) (g0 : GlI mg "NEAREST" 0) (g1 : GlI mg "UP" 1) (g2 : GlI mg "DOWN" 2) (g3 : GlI mg "AWAY" 3) : FnOk P w K mg base CX0 1 f fd ["rest", "bottom", "below", "way"] spGoes := by
  refine F.ok scGoes (fun vs H Q E h => ?_) (fun cdv A outer s H vs Q E hr h => ?_)
  · obtain ⟨r, b, n, y, rfl, _⟩ := h
    rfl
  · obtain ⟨r, b, n, y, rfl, k⟩ := h
    refine ⟨_, pss_cons (ps_if (PW.pt (pw_or (pt_cmpR op_eq (pv 0) pe_int (nomark _)) (pw_or1 (pt_cmpR op_eq (pv 3) (pe_gi rfl g2) (nomark _))))) (pss_one (ps_ret pe_bl)) pss_nil)
      (pss_cons (ps_if (pt_cmpR op_eq (pv 3) (pe_gi rfl g1) (nomark _)) (pss_one (ps_ret pe_bl)) pss_nil)
      (pss_cons (ps_if (pt_cmpR op_eq (pv 3) (pe_gi rfl g0) (nomark _))
        (pss_one (ps_ret (pe_or (pe_cmpR op_gt (pe_op op_mul pe_int (pv 0)) (pv 1) (nomark _)) (pe_one (pe_and (pe_cmpR op_eq (pe_op op_mul pe_int (pv 0)) (pv 1) (nomark _)) (pe_one (pe_cmpR op_eq (pe_op op_mod (pv 2) pe_int) pe_int (nomark _)))))))) pss_nil)
      (pss_cons (ps_if (pt_cmpR op_eq (pv 3) (pe_gi rfl g3) (nomark _)) (pss_one (ps_ret (pe_cmpR op_ge (pv 2) pe_int (nomark _)))) pss_nil)
      (pss_one (ps_ret (pe_cmpR op_lt (pv 2) pe_int (nomark _))))))), ?_⟩
    have eqI : ∀ {i j : Int}, decide (V.int i = V.int j) = decide (i = j) := fun {i j} => decide_eq_decide.mpr ⟨fun e => V.int.inj e, fun e => congrArg V.int e⟩
    have key : ∀ z : Bool, z = NXM.goes r b n y → Q (.bl z) H := fun z e => by
      rw [e]
      exact k
    unfold NXM.goes at key
    refine ⟨_, rfl, rfl, _, rfl, ?_⟩
    rw [eqI]
    by_cases r0 : r = 0
    · refine if_pos_of (decide_eq_true r0) (iteT ?_)
      exact key false (by rw [if_pos (.inl r0)])
    refine if_neg_of (decide_eq_false r0) ?_
    refine ⟨_, rfl, rfl, _, rfl, ?_⟩
    rw [eqI]
    by_cases y2 : y = 2
    · refine if_pos_of (decide_eq_true y2) ?_
      exact key false (by rw [if_pos (.inr y2)])
    refine if_neg_of (decide_eq_false y2) ?_
    rw [if_neg (fun z => z.elim r0 y2)] at key
    refine ⟨_, rfl, rfl, _, rfl, ?_⟩
    rw [eqI]
    by_cases y1 : y = 1
    · refine if_pos_of (decide_eq_true y1) ?_
      exact key true (by rw [if_pos y1])
    refine if_neg_of (decide_eq_false y1) ?_
    rw [if_neg y1] at key
    refine ⟨_, rfl, rfl, _, rfl, ?_⟩
    rw [eqI]
    by_cases y0 : y = 0
    · refine if_pos_of (decide_eq_true y0) ?_
      rw [if_pos y0] at key
      refine ⟨_, rfl, _, _, rfl, rfl, .inl ⟨by decide, by decide⟩, _, rfl, _, _, rfl, rfl, _, rfl, ?_⟩
      by_cases more : b < 2 * r
      · refine if_pos_of (decide_eq_true more) ?_
        exact key true (by rw [decide_eq_true more, Bool.true_or])
      refine if_neg_of (decide_eq_false more) ?_
      rw [decide_eq_false more, Bool.false_or] at key
      refine ⟨_, rfl, _, _, rfl, rfl, .inl ⟨by decide, by decide⟩, _, rfl, rfl, _, rfl, ?_⟩
      rw [eqI]
      by_cases tie : 2 * r = b
      · refine if_pos_of (decide_eq_true tie) ?_
        refine ⟨_, rfl, _, _, rfl, rfl, (by show (0 : Int) < 2; decide), rfl, ?_⟩
        exact key _ (by rw [decide_eq_true tie, Bool.true_and]; exact eqI)
      · refine if_neg_of (decide_eq_false tie) ?_
        exact key false (by rw [decide_eq_false tie, Bool.false_and])
    refine if_neg_of (decide_eq_false y0) ?_
    rw [if_neg y0] at key
    refine ⟨_, rfl, rfl, _, rfl, ?_⟩
    rw [eqI]
    by_cases y3 : y = 3
    · refine if_pos_of (decide_eq_true y3) ?_
      rw [if_pos y3] at key
      exact ⟨_, rfl, _, _, rfl, rfl, key _ rfl⟩
    · refine if_neg_of (decide_eq_false y3) ?_
      rw [if_neg y3] at key
      exact ⟨_, rfl, _, _, rfl, rfl, key _ rfl⟩
theorem scRound : FnScope ["number", "d", "way", "top", "bottom", "below"] ["number", "d", "way"] (defScope sRound) := ⟨rfl, rfl, rfl, by decide +kernel, rfl, by decide +kernel, by decide +kernel⟩
theorem ok_round (F : Fun K "rounded_units" "rounded_units" sRound f fd) (c : Cls K CR) (n1 : NoAttr K CR "top") (n2 : NoAttr K CR "bottom") (mx : mg "max" = none)
    (T : FnX P w K mg base CX0 1 "power_of_ten" ["count"] spTen) (G : FnX P w K mg base CX0 1 "goes_up" ["rest", "bottom", "below", "way"] spGoes) : FnOk P w K mg base CX0 2 f fd ["number", "d", "way"] (spRound CR) := by
  obtain ⟨fT, fdT, FT, gT, kT, bT⟩ := T
  obtain ⟨fG, fdG, FG, gG, kG, bG⟩ := G
  refine F.ok scRound (fun vs H Q E h => ?_) (fun cdv A outer s H vs Q E hr h => ?_)
  · obtain ⟨x, q, d, y, rfl, _⟩ := h
    rfl
  · obtain ⟨x, q, d, y, rfl, ⟨dx, hx⟩, hf, hd, hy, k⟩ := h
    refine ⟨_, pss_cons (ps_set (i := 3) scRound.nd rfl (Or.inl rfl) (pe_op op_mulW (pe_fld (pv 0) rfl) (pe_call FT hr rfl gT kT bT .nil pass0 (by exact (pa_cons (pe_callB (call_max2 rfl) (by rfl) mx (by decide +kernel) (pa_cons (pv 1) (pa_cons pe_int pa_nil))) pa_nil)))))
      (pss_cons (ps_set (i := 4) scRound.nd rfl (Or.inl rfl) (pe_op op_mulW (pe_fld (pv 0) rfl) (pe_call FT hr rfl gT kT bT .nil pass0 (by exact (pa_cons (pe_callB (call_max2 rfl) (by rfl) mx (by decide +kernel) (pa_cons (pe_un un_neg (pv 1)) (pa_cons pe_int pa_nil))) pa_nil)))))
      (pss_cons (ps_set (i := 5) scRound.nd rfl (Or.inl rfl) (pe_op op_fdivW (pv 3) (pv 4)))
      (pss_cons (ps_if (pt_val (pe_call FG hr rfl gG kG bG .nil pass0 (by exact (pa_cons (pe_op op_sub (pv 3) (pe_op op_mulW (pv 5) (pv 4))) (pa_cons (pv 4) (pa_cons (pv 5) (pa_cons (pv 2) pa_nil)))))))
        (pss_one (ps_ret (pe_op op_add (pv 5) pe_int))) pss_nil)
      (pss_one (ps_ret (pv 5)))))), ?_⟩
    have pl := place_in hd
    have fn := NXM.fits_num hf
    have fd_ := NXM.fits_den hf
    have p1 := ten60 pl.2
    have p2 := ten60 (show -d ≤ 60 by omega)
    have den0 : 0 < q.den := Nat.pos_of_ne_zero q.den_nz
    have q0 : 0 < 10 ^ (-d).toNat := Nat.pow_pos (by decide)
    have ua := NXM.units_at (q := q) (d := d) hy
    refine ⟨_, rfl, x, CR, dx, _, _, rfl, hx, c, n1, rt_top, _, rfl, d, 0, rfl, d.toNat, (by rw [max0]; rfl), by omega, _, _, rfl, rfl, wide_mul (a := 4096) (b := 200) fn (by exact p1) (by decide) (by decide) (by decide), ?_⟩
    refine ⟨_, rfl, x, CR, dx, _, _, rfl, hx, c, n2, rt_bot, _, rfl, _, rfl, -d, 0, rfl, (-d).toNat, (by rw [max0]; rfl), by omega, _, _, rfl, rfl, wide_mul (a := 4096) (b := 200) (by exact fd_) (by exact p2) (by decide) (by decide) (by decide), ?_⟩
    have tl : (q.num * ((10 ^ d.toNat : Nat) : Int)).natAbs < 2 ^ 4296 := wide_lt (a := 4096) (b := 200) fn p1
    have bl : ((q.den : Int) * ((10 ^ (-d).toNat : Nat) : Int)).natAbs < 2 ^ 4296 := wide_lt (a := 4096) (b := 200) fd_ p2
    have be : (q.den : Int) * ((10 ^ (-d).toNat : Nat) : Int) = ((q.den * 10 ^ (-d).toNat : Nat) : Int) := (Int.natCast_mul _ _).symm
    have b0 : 0 < ((q.den * 10 ^ (-d).toNat : Nat) : Int) := by
      have := Nat.mul_pos den0 q0
      omega
    show tSeq _ _ _ [some (V.ref x), some (V.int d), some (V.int y), some (V.int (q.num * ((10 ^ d.toNat : Nat) : Int))), some (V.int ((q.den : Int) * ((10 ^ (-d).toNat : Nat) : Int))), none] H
    rw [be] at bl ⊢
    generalize hT : q.num * ((10 ^ d.toNat : Nat) : Int) = T at tl ua ⊢
    generalize hB : ((q.den * 10 ^ (-d).toNat : Nat) : Int) = B at bl b0 ua ⊢
    have nl : (T / B).natAbs ≤ T.natAbs := div_small b0
    refine ⟨_, rfl, _, rfl, _, _, rfl, rfl, wide_div (b := 4296) b0 bl (by decide) (by decide), ?_⟩
    refine ⟨_, rfl, _, rfl, _, rfl, _, _, rfl, rfl, wide_mul (a := 4296) (b := 4296) (Nat.lt_of_le_of_lt nl tl) bl (by decide) (by decide) (by decide), _, _, rfl, rfl, _, rfl, _, rfl, _, rfl, _, _, _, _, rfl, _, rfl, ?_⟩
    cases up : NXM.goes (T - T / B * B) B (T / B) y with
    | true =>
      rw [if_pos up] at ua
      rw [ua] at k
      exact iteT ⟨_, rfl, _, _, rfl, rfl, k⟩
    | false =>
      rw [if_neg (by rw [up]; exact Bool.false_ne_true)] at ua
      rw [ua] at k
      exact iteF ⟨_, rfl, k⟩
end
end L2.NX
namespace L2.NX
open PySem PySem.Spec PyProof.Rows
open EbNum
section
variable {P : Program} {w : World} {K : PySem.W.Frag} {mg : Str → Option Value} {base : Heap} {R C C2 CF CR CB f : Addr} {fd : FuncData}
theorem scGiven : FnScope ["v", "b", "which", "value", "bound"] ["v", "b", "which"] (defScope sGiven) := ⟨rfl, rfl, rfl, by decide +kernel, rfl, by decide +kernel, by decide +kernel⟩
theorem ok_given (F : Fun K "read_given" "read_given" sGiven f fd)
    (B : FnX P w K mg base (L2.CX P w) 8 "read_number" ["text", "which"] (spRead K R CR)) (A : FnX P w K mg base (L2.CX P w) 4 "check_not_below" ["number"] (spChkN K R CR))
    (M : MkX P w K mg base CB CX0 1 "Bounded" ["self", "value", "bound"] (spBdI CB)) : FnOk P w K mg base (L2.CX P w) 9 f fd ["v", "b", "which"] (spGiven K R CR CB) := by
  obtain ⟨fB, fdB, FB, gB, kB, bB⟩ := B
  obtain ⟨fA, fdA, FA, gA, kA, bA⟩ := A
  obtain ⟨fM, fdM, FM, mM, gM, bM⟩ := M
  refine F.okX scGiven (fun vs H Q E h => ?_) (fun cdv A outer s H vs Q E hr h => ?_)
  · obtain ⟨a, b, n, t, u, rfl, _⟩ := h
    rfl
  · obtain ⟨a, b, n, t, u, rfl, hs, hl, hs2, hl2, kE1, kE2, kN, kQ⟩ := h
    refine ⟨_, pss_cons (ps_set (i := 3) scGiven.nd rfl (Or.inl rfl) (pe_call FB hr rfl gB kB bB .nil (passes_call (W := fun cls d _ H => E cls d H) (takes_of rfl rfl rfl rfl) (fun _ _ _ _ z => z)) (by exact (pa_cons (pv 0) (pa_cons (pv 2) pa_nil)))))
      (pss_cons (ps_set (i := 4) scGiven.nd rfl (Or.inl rfl) (pe_call FB hr rfl gB kB bB .nil (passes_call (W := fun cls d _ H => E cls d H) (takes_of rfl rfl rfl rfl) (fun _ _ _ _ z => z)) (by exact (pa_cons (pv 1) (pa_cons (pe_op op_add (pv 2) pe_int) pa_nil)))))
      (pss_cons (ps_expr (pe_call FA (hr.mono (by decide)) rfl gA kA bA .nil (passes_call (W := fun cls d _ H => E cls d H) (takes_of rfl rfl rfl rfl) (fun _ _ _ _ z => z)) (by exact (pa_cons (pv 4) pa_nil))))
      (pss_one (ps_ret (pe_make mM FM (hr.mono (by decide)) rfl gM bM .nil pass0 (by exact (pa_cons (pv 3) (pa_cons (pv 4) pa_nil)))))))), ?_⟩
    refine ⟨_, rfl, _, rfl, a, n, t, rfl, hs, hl, fun e he => kE1 e he, fun p hp x H1 ix s1 => ?_⟩
    refine ⟨_, rfl, _, rfl, _, _, rfl, rfl, b, n + 1, u, rfl, s1.seq hs2, hl2, fun e he => kE2 p hp e he, fun q hq y H2 iy s2 => ?_⟩
    refine ⟨_, rfl, y, q, rfl, iy, fun neg => kN p q hp hq neg, fun nn => ?_⟩
    refine ⟨_, rfl, _, rfl, fun g dg ng ndg neg => ⟨g, dg, x, y, rfl, upd_same, rfl, ?_⟩⟩
    have s3 : Same H2 (upd (upd (upd H2 dg (.own g)) g (.ins CB dg [])) g (.ins CB dg (bdF x y))) := fun b o e => by
      rw [upd_ne (ne_of_none e ng), upd_ne (ne_of_none e ng), upd_ne (ne_of_none e ndg)]
      exact e
    exact kQ p q hp hq nn g _ ⟨x, y, ⟨dg, upd_same⟩, (ix.same s2).same s3, iy.same s3⟩ (Same.trans (Same.trans s1 s2) s3)
end
end L2.NX
namespace L2.NX
open PySem PySem.Spec PyProof.Rows
open EbNum
theorem nat_in0 {n : Int} (h : (PySem.W.Codec.int 0 4294967295).within n = true) : ((n.toNat : Nat) : Int) = n := by
  obtain ⟨q1, _⟩ := Bool.and_eq_true_iff.mp h
  have q3 : 0 ≤ n := of_decide_eq_true q1
  omega
/-- all that the top has written -/
structure Facts (K : PySem.W.Frag) (mg : Str → Option Value) (R C1 C2 C3 C5 C6 C7 CR CF CB : Addr) : Prop where
  gR : mg "Refused" = some (.ref R)
  gC1 : mg "OutOfRange" = some (.ref C1)
  gC2 : mg "AtFault" = some (.ref C2)
  gC3 : mg "TooLarge" = some (.ref C3)
  gC5 : mg "DoesNotFit" = some (.ref C5)
  gC6 : mg "BelowNought" = some (.ref C6)
  gC7 : mg "NoPlace" = some (.ref C7)
  gCR : mg "Ratio" = some (.ref CR)
  gCF : mg "Reader" = some (.ref CF)
  gCB : mg "Bounded" = some (.ref CB)
  ow : OwFact K R "__init__" "Refused.__init__" sRefI
  eC1 : ExK K R C1
  eC2 : ExK K R C2
  eC3 : ExK K R C3
  eC5 : ExK K R C5
  eC6 : ExK K R C6
  eC7 : ExK K R C7
  cCR : Cls K CR
  mCR : PySem.W.makesIn K CR = true
  kCR : PySem.W.keepIn K (.ref CR) = true
  cCF : Cls K CF
  mCF : PySem.W.makesIn K CF = true
  kCF : PySem.W.keepIn K (.ref CF) = true
  cCB : Cls K CB
  mCB : PySem.W.makesIn K CB = true
  kCB : PySem.W.keepIn K (.ref CB) = true
  nTop : NoAttr K CR "top"
  nBot : NoAttr K CR "bottom"
  nText : NoAttr K CF "text"
  nWhich : NoAttr K CF "which"
  nPlace : NoAttr K CF "place"
  nValue : NoAttr K CB "value"
  nBound : NoAttr K CB "bound"
  iC1 : MtFact K C1 "__init__" "OutOfRange.__init__" sOutI
  iC2 : MtFact K C2 "__init__" "AtFault.__init__" sFltI
  iC3 : MtFact K C3 "__init__" "TooLarge.__init__" sBigI
  iC5 : MtFact K C5 "__init__" "DoesNotFit.__init__" sDnfI
  iC6 : MtFact K C6 "__init__" "BelowNought.__init__" sBelI
  iC7 : MtFact K C7 "__init__" "NoPlace.__init__" sNoPI
  iCR : MtFact K CR "__init__" "Ratio.__init__" sRatI
  iCF : MtFact K CF "__init__" "Reader.__init__" sRdI
  iCB : MtFact K CB "__init__" "Bounded.__init__" sBdI
  m_sees : MtFact K CF "sees" "Reader.sees" sSees
  m_sees_digit : MtFact K CF "sees_digit" "Reader.sees_digit" sSeesD
  m_digits : MtFact K CF "digits" "Reader.digits" sDigits
  m_number : MtFact K CF "number" "Reader.number" sNumber
  m_unsigned : MtFact K CF "unsigned" "Reader.unsigned" sUnsig
  m_behind_point : MtFact K CF "behind_point" "Reader.behind_point" sPoint
  m_behind_stroke : MtFact K CF "behind_stroke" "Reader.behind_stroke" sStroke
  m_finish : MtFact K CF "finish" "Reader.finish" sFinish
  f_check_length : FnFact K mg "check_length" sChkL
  f_check_not_below : FnFact K mg "check_not_below" sChkN
  f_check_fits : FnFact K mg "check_fits" sChkF
  f_read_number : FnFact K mg "read_number" sRead
  f_fits : FnFact K mg "fits" sFits
  f_least_terms : FnFact K mg "least_terms" sLeast
  f_common_divisor : FnFact K mg "common_divisor" sGcd
  f_power_of_ten : FnFact K mg "power_of_ten" sTen
  f_rounded_units : FnFact K mg "rounded_units" sRound
  f_goes_up : FnFact K mg "goes_up" sGoes
  f_number_of_units : FnFact K mg "number_of_units" sNumU
  f_units_text : FnFact K mg "units_text" sUnits
  f_told_text : FnFact K mg "told_text" sTold
  f_read_given : FnFact K mg "read_given" sGiven
  f_shown_text : FnFact K mg "shown_text" sShownT
  f_told_place : FnFact K mg "told_place" sPlace
  f_bound_units : FnFact K mg "bound_units" sBoundU
  z_MOST_BYTES : GlI mg "MOST_BYTES" 4096
  z_MOST_DIGITS : GlI mg "MOST_DIGITS" 1300
  z_MOST_BITS : GlI mg "MOST_BITS" 4096
  z_FIRST_PLACE : GlI mg "FIRST_PLACE" (-60)
  z_LAST_PLACE : GlI mg "LAST_PLACE" 60
  z_NEAREST : GlI mg "NEAREST" 0
  z_UP : GlI mg "UP" 1
  z_DOWN : GlI mg "DOWN" 2
  z_AWAY : GlI mg "AWAY" 3
  z_MINUS : GlI mg "MINUS" 45
  z_POINT : GlI mg "POINT" 46
  z_STROKE : GlI mg "STROKE" 47
  z_NOUGHT : GlI mg "NOUGHT" 48
  z_NINE : GlI mg "NINE" 57
  z_MOST_UNITS : GlI mg "MOST_UNITS" 99
  s_PLUS_MINUS : GlS mg "PLUS_MINUS" " +- "
  b_len : mg "len" = none
  b_abs : mg "abs" = none
  b_range : mg "range" = none
  b_str : mg "str" = none
  b_ord : mg "ord" = none
  b_max : mg "max" = none
  nd : NoDig K
theorem facts_mk {K : PySem.W.Frag} {h : Heap} {mg : Str → Option Value} (X : K.In h) (G : h.Ns mainGlobals mg)
    {R C1 C2 C3 C5 C6 C7 CR CF CB : Addr}
    {fo : Addr} {odo ano : Option Addr} {slo : Array (Option Value)} {oco kVo dco pmo cdo cto : Value}
    {nmC1 qC1 : Str} {NC1 : Addr} {bsC1 : List Value} {snC1 : List Str} {subC1 : List Value} {abC1 : Bool} {colC1 : Option Bool} {ddC1 : Option Addr} {x0C1 x1C1 x2C1 x3C1 x5C1 : Option Value}
    {nmC2 qC2 : Str} {NC2 : Addr} {bsC2 : List Value} {snC2 : List Str} {subC2 : List Value} {abC2 : Bool} {colC2 : Option Bool} {ddC2 : Option Addr} {x0C2 x1C2 x2C2 x3C2 x5C2 : Option Value}
    {nmC3 qC3 : Str} {NC3 : Addr} {bsC3 : List Value} {snC3 : List Str} {subC3 : List Value} {abC3 : Bool} {colC3 : Option Bool} {ddC3 : Option Addr} {x0C3 x1C3 x2C3 x3C3 x5C3 : Option Value}
    {nmC5 qC5 : Str} {NC5 : Addr} {bsC5 : List Value} {snC5 : List Str} {subC5 : List Value} {abC5 : Bool} {colC5 : Option Bool} {ddC5 : Option Addr} {x0C5 x1C5 x2C5 x3C5 x5C5 : Option Value}
    {nmC6 qC6 : Str} {NC6 : Addr} {bsC6 : List Value} {snC6 : List Str} {subC6 : List Value} {abC6 : Bool} {colC6 : Option Bool} {ddC6 : Option Addr} {x0C6 x1C6 x2C6 x3C6 x5C6 : Option Value}
    {nmC7 qC7 : Str} {NC7 : Addr} {bsC7 : List Value} {snC7 : List Str} {subC7 : List Value} {abC7 : Bool} {colC7 : Option Bool} {ddC7 : Option Addr} {x0C7 x1C7 x2C7 x3C7 x5C7 : Option Value}
    {fiC1 : Addr} {odiC1 aniC1 : Option Addr} {sliC1 : Array (Option Value)} {ociC1 kViC1 dciC1 pmiC1 cdiC1 ctiC1 : Value}
    {fiC2 : Addr} {odiC2 aniC2 : Option Addr} {sliC2 : Array (Option Value)} {ociC2 kViC2 dciC2 pmiC2 cdiC2 ctiC2 : Value}
    {fiC3 : Addr} {odiC3 aniC3 : Option Addr} {sliC3 : Array (Option Value)} {ociC3 kViC3 dciC3 pmiC3 cdiC3 ctiC3 : Value}
    {fiC5 : Addr} {odiC5 aniC5 : Option Addr} {sliC5 : Array (Option Value)} {ociC5 kViC5 dciC5 pmiC5 cdiC5 ctiC5 : Value}
    {fiC6 : Addr} {odiC6 aniC6 : Option Addr} {sliC6 : Array (Option Value)} {ociC6 kViC6 dciC6 pmiC6 cdiC6 ctiC6 : Value}
    {fiC7 : Addr} {odiC7 aniC7 : Option Addr} {sliC7 : Array (Option Value)} {ociC7 kViC7 dciC7 pmiC7 cdiC7 ctiC7 : Value}
    {fiCR : Addr} {odiCR aniCR : Option Addr} {sliCR : Array (Option Value)} {ociCR kViCR dciCR pmiCR cdiCR ctiCR : Value}
    {fiCF : Addr} {odiCF aniCF : Option Addr} {sliCF : Array (Option Value)} {ociCF kViCF dciCF pmiCF cdiCF ctiCF : Value}
    {fiCB : Addr} {odiCB aniCB : Option Addr} {sliCB : Array (Option Value)} {ociCB kViCB dciCB pmiCB cdiCB ctiCB : Value}
    {fm_sees : Addr} {odm_sees anm_sees : Option Addr} {slm_sees : Array (Option Value)} {ocm_sees kVm_sees dcm_sees pmm_sees cdm_sees ctm_sees : Value}
    {fm_sees_digit : Addr} {odm_sees_digit anm_sees_digit : Option Addr} {slm_sees_digit : Array (Option Value)} {ocm_sees_digit kVm_sees_digit dcm_sees_digit pmm_sees_digit cdm_sees_digit ctm_sees_digit : Value}
    {fm_digits : Addr} {odm_digits anm_digits : Option Addr} {slm_digits : Array (Option Value)} {ocm_digits kVm_digits dcm_digits pmm_digits cdm_digits ctm_digits : Value}
    {fm_number : Addr} {odm_number anm_number : Option Addr} {slm_number : Array (Option Value)} {ocm_number kVm_number dcm_number pmm_number cdm_number ctm_number : Value}
    {fm_unsigned : Addr} {odm_unsigned anm_unsigned : Option Addr} {slm_unsigned : Array (Option Value)} {ocm_unsigned kVm_unsigned dcm_unsigned pmm_unsigned cdm_unsigned ctm_unsigned : Value}
    {fm_behind_point : Addr} {odm_behind_point anm_behind_point : Option Addr} {slm_behind_point : Array (Option Value)} {ocm_behind_point kVm_behind_point dcm_behind_point pmm_behind_point cdm_behind_point ctm_behind_point : Value}
    {fm_behind_stroke : Addr} {odm_behind_stroke anm_behind_stroke : Option Addr} {slm_behind_stroke : Array (Option Value)} {ocm_behind_stroke kVm_behind_stroke dcm_behind_stroke pmm_behind_stroke cdm_behind_stroke ctm_behind_stroke : Value}
    {fm_finish : Addr} {odm_finish anm_finish : Option Addr} {slm_finish : Array (Option Value)} {ocm_finish kVm_finish dcm_finish pmm_finish cdm_finish ctm_finish : Value}
    {ff_check_length : Addr} {odf_check_length anf_check_length : Option Addr} {slf_check_length : Array (Option Value)} {ocf_check_length kVf_check_length dcf_check_length pmf_check_length cdf_check_length ctf_check_length : Value}
    {ff_check_not_below : Addr} {odf_check_not_below anf_check_not_below : Option Addr} {slf_check_not_below : Array (Option Value)} {ocf_check_not_below kVf_check_not_below dcf_check_not_below pmf_check_not_below cdf_check_not_below ctf_check_not_below : Value}
    {ff_check_fits : Addr} {odf_check_fits anf_check_fits : Option Addr} {slf_check_fits : Array (Option Value)} {ocf_check_fits kVf_check_fits dcf_check_fits pmf_check_fits cdf_check_fits ctf_check_fits : Value}
    {ff_read_number : Addr} {odf_read_number anf_read_number : Option Addr} {slf_read_number : Array (Option Value)} {ocf_read_number kVf_read_number dcf_read_number pmf_read_number cdf_read_number ctf_read_number : Value}
    {ff_fits : Addr} {odf_fits anf_fits : Option Addr} {slf_fits : Array (Option Value)} {ocf_fits kVf_fits dcf_fits pmf_fits cdf_fits ctf_fits : Value}
    {ff_least_terms : Addr} {odf_least_terms anf_least_terms : Option Addr} {slf_least_terms : Array (Option Value)} {ocf_least_terms kVf_least_terms dcf_least_terms pmf_least_terms cdf_least_terms ctf_least_terms : Value}
    {ff_common_divisor : Addr} {odf_common_divisor anf_common_divisor : Option Addr} {slf_common_divisor : Array (Option Value)} {ocf_common_divisor kVf_common_divisor dcf_common_divisor pmf_common_divisor cdf_common_divisor ctf_common_divisor : Value}
    {ff_power_of_ten : Addr} {odf_power_of_ten anf_power_of_ten : Option Addr} {slf_power_of_ten : Array (Option Value)} {ocf_power_of_ten kVf_power_of_ten dcf_power_of_ten pmf_power_of_ten cdf_power_of_ten ctf_power_of_ten : Value}
    {ff_rounded_units : Addr} {odf_rounded_units anf_rounded_units : Option Addr} {slf_rounded_units : Array (Option Value)} {ocf_rounded_units kVf_rounded_units dcf_rounded_units pmf_rounded_units cdf_rounded_units ctf_rounded_units : Value}
    {ff_goes_up : Addr} {odf_goes_up anf_goes_up : Option Addr} {slf_goes_up : Array (Option Value)} {ocf_goes_up kVf_goes_up dcf_goes_up pmf_goes_up cdf_goes_up ctf_goes_up : Value}
    {ff_number_of_units : Addr} {odf_number_of_units anf_number_of_units : Option Addr} {slf_number_of_units : Array (Option Value)} {ocf_number_of_units kVf_number_of_units dcf_number_of_units pmf_number_of_units cdf_number_of_units ctf_number_of_units : Value}
    {ff_units_text : Addr} {odf_units_text anf_units_text : Option Addr} {slf_units_text : Array (Option Value)} {ocf_units_text kVf_units_text dcf_units_text pmf_units_text cdf_units_text ctf_units_text : Value}
    {ff_told_text : Addr} {odf_told_text anf_told_text : Option Addr} {slf_told_text : Array (Option Value)} {ocf_told_text kVf_told_text dcf_told_text pmf_told_text cdf_told_text ctf_told_text : Value}
    {ff_read_given : Addr} {odf_read_given anf_read_given : Option Addr} {slf_read_given : Array (Option Value)} {ocf_read_given kVf_read_given dcf_read_given pmf_read_given cdf_read_given ctf_read_given : Value}
    {ff_shown_text : Addr} {odf_shown_text anf_shown_text : Option Addr} {slf_shown_text : Array (Option Value)} {ocf_shown_text kVf_shown_text dcf_shown_text pmf_shown_text cdf_shown_text ctf_shown_text : Value}
    {ff_told_place : Addr} {odf_told_place anf_told_place : Option Addr} {slf_told_place : Array (Option Value)} {ocf_told_place kVf_told_place dcf_told_place pmf_told_place cdf_told_place ctf_told_place : Value}
    {ff_bound_units : Addr} {odf_bound_units anf_bound_units : Option Addr} {slf_bound_units : Array (Option Value)} {ocf_bound_units kVf_bound_units dcf_bound_units pmf_bound_units cdf_bound_units ctf_bound_units : Value}
    {tz_MOST_BYTES : Tok}
    {tz_MOST_DIGITS : Tok}
    {tz_MOST_BITS : Tok}
    {tz_FIRST_PLACE : Tok}
    {tz_LAST_PLACE : Tok}
    {tz_NEAREST : Tok}
    {tz_UP : Tok}
    {tz_DOWN : Tok}
    {tz_AWAY : Tok}
    {tz_MINUS : Tok}
    {tz_POINT : Tok}
    {tz_STROKE : Tok}
    {tz_NOUGHT : Tok}
    {tz_NINE : Tok}
    {tz_MOST_UNITS : Tok}
    {ts_PLUS_MINUS : Tok}
    (gR : PySem.W.nsIn K mainGlobals "Refused" = some (some (.ref R)))
    (gC1 : PySem.W.nsIn K mainGlobals "OutOfRange" = some (some (.ref C1)))
    (gC2 : PySem.W.nsIn K mainGlobals "AtFault" = some (some (.ref C2)))
    (gC3 : PySem.W.nsIn K mainGlobals "TooLarge" = some (some (.ref C3)))
    (gC5 : PySem.W.nsIn K mainGlobals "DoesNotFit" = some (some (.ref C5)))
    (gC6 : PySem.W.nsIn K mainGlobals "BelowNought" = some (some (.ref C6)))
    (gC7 : PySem.W.nsIn K mainGlobals "NoPlace" = some (some (.ref C7)))
    (gCR : PySem.W.nsIn K mainGlobals "Ratio" = some (some (.ref CR)))
    (gCF : PySem.W.nsIn K mainGlobals "Reader" = some (some (.ref CF)))
    (gCB : PySem.W.nsIn K mainGlobals "Bounded" = some (some (.ref CB)))
    (eR : PySem.W.subIn K (.ref R) (.type "BaseException") = some true)
    (iR : PySem.W.isClsIn K R = true)
    (tR : PySem.W.typeIn K (.ref R) = some (.type "type"))
    (ord : PySem.W.readsIn K R (.type "type") = true)
    (oga : PySem.W.specialIn K (.ref R) "__getattribute__" = some (some (.builtin "type.__getattribute__")))
    (oat : PySem.W.findCls K (.ref R) (.type "type") "__init__" = some (.val (.ref fo)))
    (lo : K.lookup fo = some ⟨oco, odo, .func (PySem.W.fnOf "__init__" "Refused.__init__" (defArgs sRefI) (defBody sRefI) (defScope sRefI) .none kVo dco pmo ano cdo cto), slo⟩)
    (co : PySem.W.codeIn K cdo "Refused.__init__" = true)
    (ko : PySem.W.keepIn K (.ref fo) = true)
    (xlC1 : K.lookup C1 = some (excClassObj nmC1 qC1 C1 NC1 bsC1 [.ref R, .type "Exception", .type "BaseException", .type "object"] true snC1 subC1 abC1 colC1 ddC1 x0C1 x1C1 x2C1 x3C1 x5C1 "Exception.__new__"))
    (xsC1 : PySem.W.findIn K (.ref C1) "__setattr__" = some (some (.builtin "object.__setattr__")))
    (xtC1 : PySem.W.typeIn K (.ref C1) = some (.type "type"))
    (xkC1 : PySem.W.keepIn K (.ref C1) = true)
    (xnC1 : PySem.W.findIn K (.ref C1) "answer" = some none)
    (xgC1 : PySem.W.findIn K (.ref C1) "__getattribute__" = some (some (.builtin "BaseException.__getattribute__")))
    (xhC1 : PySem.W.findIn K (.ref C1) "__getattr__" = some none)
    (xeC1 : PySem.W.subIn K (.ref C1) (.type "BaseException") = some true)
    (xdC1 : PySem.W.hasDictIn K C1 = true)
    (xrC1 : PySem.W.subIn K (.ref C1) (.ref R) = some true)
    (xlC2 : K.lookup C2 = some (excClassObj nmC2 qC2 C2 NC2 bsC2 [.ref R, .type "Exception", .type "BaseException", .type "object"] true snC2 subC2 abC2 colC2 ddC2 x0C2 x1C2 x2C2 x3C2 x5C2 "Exception.__new__"))
    (xsC2 : PySem.W.findIn K (.ref C2) "__setattr__" = some (some (.builtin "object.__setattr__")))
    (xtC2 : PySem.W.typeIn K (.ref C2) = some (.type "type"))
    (xkC2 : PySem.W.keepIn K (.ref C2) = true)
    (xnC2 : PySem.W.findIn K (.ref C2) "answer" = some none)
    (xgC2 : PySem.W.findIn K (.ref C2) "__getattribute__" = some (some (.builtin "BaseException.__getattribute__")))
    (xhC2 : PySem.W.findIn K (.ref C2) "__getattr__" = some none)
    (xeC2 : PySem.W.subIn K (.ref C2) (.type "BaseException") = some true)
    (xdC2 : PySem.W.hasDictIn K C2 = true)
    (xrC2 : PySem.W.subIn K (.ref C2) (.ref R) = some true)
    (xlC3 : K.lookup C3 = some (excClassObj nmC3 qC3 C3 NC3 bsC3 [.ref R, .type "Exception", .type "BaseException", .type "object"] true snC3 subC3 abC3 colC3 ddC3 x0C3 x1C3 x2C3 x3C3 x5C3 "Exception.__new__"))
    (xsC3 : PySem.W.findIn K (.ref C3) "__setattr__" = some (some (.builtin "object.__setattr__")))
    (xtC3 : PySem.W.typeIn K (.ref C3) = some (.type "type"))
    (xkC3 : PySem.W.keepIn K (.ref C3) = true)
    (xnC3 : PySem.W.findIn K (.ref C3) "answer" = some none)
    (xgC3 : PySem.W.findIn K (.ref C3) "__getattribute__" = some (some (.builtin "BaseException.__getattribute__")))
    (xhC3 : PySem.W.findIn K (.ref C3) "__getattr__" = some none)
    (xeC3 : PySem.W.subIn K (.ref C3) (.type "BaseException") = some true)
    (xdC3 : PySem.W.hasDictIn K C3 = true)
    (xrC3 : PySem.W.subIn K (.ref C3) (.ref R) = some true)
    (xlC5 : K.lookup C5 = some (excClassObj nmC5 qC5 C5 NC5 bsC5 [.ref R, .type "Exception", .type "BaseException", .type "object"] true snC5 subC5 abC5 colC5 ddC5 x0C5 x1C5 x2C5 x3C5 x5C5 "Exception.__new__"))
    (xsC5 : PySem.W.findIn K (.ref C5) "__setattr__" = some (some (.builtin "object.__setattr__")))
    (xtC5 : PySem.W.typeIn K (.ref C5) = some (.type "type"))
    (xkC5 : PySem.W.keepIn K (.ref C5) = true)
    (xnC5 : PySem.W.findIn K (.ref C5) "answer" = some none)
    (xgC5 : PySem.W.findIn K (.ref C5) "__getattribute__" = some (some (.builtin "BaseException.__getattribute__")))
    (xhC5 : PySem.W.findIn K (.ref C5) "__getattr__" = some none)
    (xeC5 : PySem.W.subIn K (.ref C5) (.type "BaseException") = some true)
    (xdC5 : PySem.W.hasDictIn K C5 = true)
    (xrC5 : PySem.W.subIn K (.ref C5) (.ref R) = some true)
    (xlC6 : K.lookup C6 = some (excClassObj nmC6 qC6 C6 NC6 bsC6 [.ref R, .type "Exception", .type "BaseException", .type "object"] true snC6 subC6 abC6 colC6 ddC6 x0C6 x1C6 x2C6 x3C6 x5C6 "Exception.__new__"))
    (xsC6 : PySem.W.findIn K (.ref C6) "__setattr__" = some (some (.builtin "object.__setattr__")))
    (xtC6 : PySem.W.typeIn K (.ref C6) = some (.type "type"))
    (xkC6 : PySem.W.keepIn K (.ref C6) = true)
    (xnC6 : PySem.W.findIn K (.ref C6) "answer" = some none)
    (xgC6 : PySem.W.findIn K (.ref C6) "__getattribute__" = some (some (.builtin "BaseException.__getattribute__")))
    (xhC6 : PySem.W.findIn K (.ref C6) "__getattr__" = some none)
    (xeC6 : PySem.W.subIn K (.ref C6) (.type "BaseException") = some true)
    (xdC6 : PySem.W.hasDictIn K C6 = true)
    (xrC6 : PySem.W.subIn K (.ref C6) (.ref R) = some true)
    (xlC7 : K.lookup C7 = some (excClassObj nmC7 qC7 C7 NC7 bsC7 [.ref R, .type "Exception", .type "BaseException", .type "object"] true snC7 subC7 abC7 colC7 ddC7 x0C7 x1C7 x2C7 x3C7 x5C7 "Exception.__new__"))
    (xsC7 : PySem.W.findIn K (.ref C7) "__setattr__" = some (some (.builtin "object.__setattr__")))
    (xtC7 : PySem.W.typeIn K (.ref C7) = some (.type "type"))
    (xkC7 : PySem.W.keepIn K (.ref C7) = true)
    (xnC7 : PySem.W.findIn K (.ref C7) "answer" = some none)
    (xgC7 : PySem.W.findIn K (.ref C7) "__getattribute__" = some (some (.builtin "BaseException.__getattribute__")))
    (xhC7 : PySem.W.findIn K (.ref C7) "__getattr__" = some none)
    (xeC7 : PySem.W.subIn K (.ref C7) (.type "BaseException") = some true)
    (xdC7 : PySem.W.hasDictIn K C7 = true)
    (xrC7 : PySem.W.subIn K (.ref C7) (.ref R) = some true)
    (pgCR : PySem.W.plainGet K CR Str.empty = true)
    (hdCR : PySem.W.hasDictIn K CR = true)
    (poCR : PySem.W.plainOver K CR = true)
    (saCR : PySem.W.findIn K (.ref CR) "__setattr__" = some (some (.builtin "object.__setattr__")))
    (mkCR : PySem.W.makesIn K CR = true)
    (kcCR : PySem.W.keepIn K (.ref CR) = true)
    (pgCF : PySem.W.plainGet K CF Str.empty = true)
    (hdCF : PySem.W.hasDictIn K CF = true)
    (poCF : PySem.W.plainOver K CF = true)
    (saCF : PySem.W.findIn K (.ref CF) "__setattr__" = some (some (.builtin "object.__setattr__")))
    (mkCF : PySem.W.makesIn K CF = true)
    (kcCF : PySem.W.keepIn K (.ref CF) = true)
    (pgCB : PySem.W.plainGet K CB Str.empty = true)
    (hdCB : PySem.W.hasDictIn K CB = true)
    (poCB : PySem.W.plainOver K CB = true)
    (saCB : PySem.W.findIn K (.ref CB) "__setattr__" = some (some (.builtin "object.__setattr__")))
    (mkCB : PySem.W.makesIn K CB = true)
    (kcCB : PySem.W.keepIn K (.ref CB) = true)
    (nTop : PySem.W.findIn K (.ref CR) "top" = some none)
    (nBot : PySem.W.findIn K (.ref CR) "bottom" = some none)
    (nText : PySem.W.findIn K (.ref CF) "text" = some none)
    (nWhich : PySem.W.findIn K (.ref CF) "which" = some none)
    (nPlace : PySem.W.findIn K (.ref CF) "place" = some none)
    (nValue : PySem.W.findIn K (.ref CB) "value" = some none)
    (nBound : PySem.W.findIn K (.ref CB) "bound" = some none)
    (aiC1 : PySem.W.findIn K (.ref C1) "__init__" = some (some (.ref fiC1)))
    (iiC1 : PySem.W.isFn K (.ref fiC1) = true)
    (liC1 : K.lookup fiC1 = some ⟨ociC1, odiC1, .func (PySem.W.fnOf "__init__" "OutOfRange.__init__" (defArgs sOutI) (defBody sOutI) (defScope sOutI) .none kViC1 dciC1 pmiC1 aniC1 cdiC1 ctiC1), sliC1⟩)
    (ciC1 : PySem.W.codeIn K cdiC1 "OutOfRange.__init__" = true)
    (kiC1 : PySem.W.keepIn K (.ref fiC1) = true)
    (aiC2 : PySem.W.findIn K (.ref C2) "__init__" = some (some (.ref fiC2)))
    (iiC2 : PySem.W.isFn K (.ref fiC2) = true)
    (liC2 : K.lookup fiC2 = some ⟨ociC2, odiC2, .func (PySem.W.fnOf "__init__" "AtFault.__init__" (defArgs sFltI) (defBody sFltI) (defScope sFltI) .none kViC2 dciC2 pmiC2 aniC2 cdiC2 ctiC2), sliC2⟩)
    (ciC2 : PySem.W.codeIn K cdiC2 "AtFault.__init__" = true)
    (kiC2 : PySem.W.keepIn K (.ref fiC2) = true)
    (aiC3 : PySem.W.findIn K (.ref C3) "__init__" = some (some (.ref fiC3)))
    (iiC3 : PySem.W.isFn K (.ref fiC3) = true)
    (liC3 : K.lookup fiC3 = some ⟨ociC3, odiC3, .func (PySem.W.fnOf "__init__" "TooLarge.__init__" (defArgs sBigI) (defBody sBigI) (defScope sBigI) .none kViC3 dciC3 pmiC3 aniC3 cdiC3 ctiC3), sliC3⟩)
    (ciC3 : PySem.W.codeIn K cdiC3 "TooLarge.__init__" = true)
    (kiC3 : PySem.W.keepIn K (.ref fiC3) = true)
    (aiC5 : PySem.W.findIn K (.ref C5) "__init__" = some (some (.ref fiC5)))
    (iiC5 : PySem.W.isFn K (.ref fiC5) = true)
    (liC5 : K.lookup fiC5 = some ⟨ociC5, odiC5, .func (PySem.W.fnOf "__init__" "DoesNotFit.__init__" (defArgs sDnfI) (defBody sDnfI) (defScope sDnfI) .none kViC5 dciC5 pmiC5 aniC5 cdiC5 ctiC5), sliC5⟩)
    (ciC5 : PySem.W.codeIn K cdiC5 "DoesNotFit.__init__" = true)
    (kiC5 : PySem.W.keepIn K (.ref fiC5) = true)
    (aiC6 : PySem.W.findIn K (.ref C6) "__init__" = some (some (.ref fiC6)))
    (iiC6 : PySem.W.isFn K (.ref fiC6) = true)
    (liC6 : K.lookup fiC6 = some ⟨ociC6, odiC6, .func (PySem.W.fnOf "__init__" "BelowNought.__init__" (defArgs sBelI) (defBody sBelI) (defScope sBelI) .none kViC6 dciC6 pmiC6 aniC6 cdiC6 ctiC6), sliC6⟩)
    (ciC6 : PySem.W.codeIn K cdiC6 "BelowNought.__init__" = true)
    (kiC6 : PySem.W.keepIn K (.ref fiC6) = true)
    (aiC7 : PySem.W.findIn K (.ref C7) "__init__" = some (some (.ref fiC7)))
    (iiC7 : PySem.W.isFn K (.ref fiC7) = true)
    (liC7 : K.lookup fiC7 = some ⟨ociC7, odiC7, .func (PySem.W.fnOf "__init__" "NoPlace.__init__" (defArgs sNoPI) (defBody sNoPI) (defScope sNoPI) .none kViC7 dciC7 pmiC7 aniC7 cdiC7 ctiC7), sliC7⟩)
    (ciC7 : PySem.W.codeIn K cdiC7 "NoPlace.__init__" = true)
    (kiC7 : PySem.W.keepIn K (.ref fiC7) = true)
    (aiCR : PySem.W.findIn K (.ref CR) "__init__" = some (some (.ref fiCR)))
    (iiCR : PySem.W.isFn K (.ref fiCR) = true)
    (liCR : K.lookup fiCR = some ⟨ociCR, odiCR, .func (PySem.W.fnOf "__init__" "Ratio.__init__" (defArgs sRatI) (defBody sRatI) (defScope sRatI) .none kViCR dciCR pmiCR aniCR cdiCR ctiCR), sliCR⟩)
    (ciCR : PySem.W.codeIn K cdiCR "Ratio.__init__" = true)
    (kiCR : PySem.W.keepIn K (.ref fiCR) = true)
    (aiCF : PySem.W.findIn K (.ref CF) "__init__" = some (some (.ref fiCF)))
    (iiCF : PySem.W.isFn K (.ref fiCF) = true)
    (liCF : K.lookup fiCF = some ⟨ociCF, odiCF, .func (PySem.W.fnOf "__init__" "Reader.__init__" (defArgs sRdI) (defBody sRdI) (defScope sRdI) .none kViCF dciCF pmiCF aniCF cdiCF ctiCF), sliCF⟩)
    (ciCF : PySem.W.codeIn K cdiCF "Reader.__init__" = true)
    (kiCF : PySem.W.keepIn K (.ref fiCF) = true)
    (aiCB : PySem.W.findIn K (.ref CB) "__init__" = some (some (.ref fiCB)))
    (iiCB : PySem.W.isFn K (.ref fiCB) = true)
    (liCB : K.lookup fiCB = some ⟨ociCB, odiCB, .func (PySem.W.fnOf "__init__" "Bounded.__init__" (defArgs sBdI) (defBody sBdI) (defScope sBdI) .none kViCB dciCB pmiCB aniCB cdiCB ctiCB), sliCB⟩)
    (ciCB : PySem.W.codeIn K cdiCB "Bounded.__init__" = true)
    (kiCB : PySem.W.keepIn K (.ref fiCB) = true)
    (am_sees : PySem.W.findIn K (.ref CF) "sees" = some (some (.ref fm_sees)))
    (im_sees : PySem.W.isFn K (.ref fm_sees) = true)
    (lm_sees : K.lookup fm_sees = some ⟨ocm_sees, odm_sees, .func (PySem.W.fnOf "sees" "Reader.sees" (defArgs sSees) (defBody sSees) (defScope sSees) .none kVm_sees dcm_sees pmm_sees anm_sees cdm_sees ctm_sees), slm_sees⟩)
    (cm_sees : PySem.W.codeIn K cdm_sees "Reader.sees" = true)
    (km_sees : PySem.W.keepIn K (.ref fm_sees) = true)
    (am_sees_digit : PySem.W.findIn K (.ref CF) "sees_digit" = some (some (.ref fm_sees_digit)))
    (im_sees_digit : PySem.W.isFn K (.ref fm_sees_digit) = true)
    (lm_sees_digit : K.lookup fm_sees_digit = some ⟨ocm_sees_digit, odm_sees_digit, .func (PySem.W.fnOf "sees_digit" "Reader.sees_digit" (defArgs sSeesD) (defBody sSeesD) (defScope sSeesD) .none kVm_sees_digit dcm_sees_digit pmm_sees_digit anm_sees_digit cdm_sees_digit ctm_sees_digit), slm_sees_digit⟩)
    (cm_sees_digit : PySem.W.codeIn K cdm_sees_digit "Reader.sees_digit" = true)
    (km_sees_digit : PySem.W.keepIn K (.ref fm_sees_digit) = true)
    (am_digits : PySem.W.findIn K (.ref CF) "digits" = some (some (.ref fm_digits)))
    (im_digits : PySem.W.isFn K (.ref fm_digits) = true)
    (lm_digits : K.lookup fm_digits = some ⟨ocm_digits, odm_digits, .func (PySem.W.fnOf "digits" "Reader.digits" (defArgs sDigits) (defBody sDigits) (defScope sDigits) .none kVm_digits dcm_digits pmm_digits anm_digits cdm_digits ctm_digits), slm_digits⟩)
    (cm_digits : PySem.W.codeIn K cdm_digits "Reader.digits" = true)
    (km_digits : PySem.W.keepIn K (.ref fm_digits) = true)
    (am_number : PySem.W.findIn K (.ref CF) "number" = some (some (.ref fm_number)))
    (im_number : PySem.W.isFn K (.ref fm_number) = true)
    (lm_number : K.lookup fm_number = some ⟨ocm_number, odm_number, .func (PySem.W.fnOf "number" "Reader.number" (defArgs sNumber) (defBody sNumber) (defScope sNumber) .none kVm_number dcm_number pmm_number anm_number cdm_number ctm_number), slm_number⟩)
    (cm_number : PySem.W.codeIn K cdm_number "Reader.number" = true)
    (km_number : PySem.W.keepIn K (.ref fm_number) = true)
    (am_unsigned : PySem.W.findIn K (.ref CF) "unsigned" = some (some (.ref fm_unsigned)))
    (im_unsigned : PySem.W.isFn K (.ref fm_unsigned) = true)
    (lm_unsigned : K.lookup fm_unsigned = some ⟨ocm_unsigned, odm_unsigned, .func (PySem.W.fnOf "unsigned" "Reader.unsigned" (defArgs sUnsig) (defBody sUnsig) (defScope sUnsig) .none kVm_unsigned dcm_unsigned pmm_unsigned anm_unsigned cdm_unsigned ctm_unsigned), slm_unsigned⟩)
    (cm_unsigned : PySem.W.codeIn K cdm_unsigned "Reader.unsigned" = true)
    (km_unsigned : PySem.W.keepIn K (.ref fm_unsigned) = true)
    (am_behind_point : PySem.W.findIn K (.ref CF) "behind_point" = some (some (.ref fm_behind_point)))
    (im_behind_point : PySem.W.isFn K (.ref fm_behind_point) = true)
    (lm_behind_point : K.lookup fm_behind_point = some ⟨ocm_behind_point, odm_behind_point, .func (PySem.W.fnOf "behind_point" "Reader.behind_point" (defArgs sPoint) (defBody sPoint) (defScope sPoint) .none kVm_behind_point dcm_behind_point pmm_behind_point anm_behind_point cdm_behind_point ctm_behind_point), slm_behind_point⟩)
    (cm_behind_point : PySem.W.codeIn K cdm_behind_point "Reader.behind_point" = true)
    (km_behind_point : PySem.W.keepIn K (.ref fm_behind_point) = true)
    (am_behind_stroke : PySem.W.findIn K (.ref CF) "behind_stroke" = some (some (.ref fm_behind_stroke)))
    (im_behind_stroke : PySem.W.isFn K (.ref fm_behind_stroke) = true)
    (lm_behind_stroke : K.lookup fm_behind_stroke = some ⟨ocm_behind_stroke, odm_behind_stroke, .func (PySem.W.fnOf "behind_stroke" "Reader.behind_stroke" (defArgs sStroke) (defBody sStroke) (defScope sStroke) .none kVm_behind_stroke dcm_behind_stroke pmm_behind_stroke anm_behind_stroke cdm_behind_stroke ctm_behind_stroke), slm_behind_stroke⟩)
    (cm_behind_stroke : PySem.W.codeIn K cdm_behind_stroke "Reader.behind_stroke" = true)
    (km_behind_stroke : PySem.W.keepIn K (.ref fm_behind_stroke) = true)
    (am_finish : PySem.W.findIn K (.ref CF) "finish" = some (some (.ref fm_finish)))
    (im_finish : PySem.W.isFn K (.ref fm_finish) = true)
    (lm_finish : K.lookup fm_finish = some ⟨ocm_finish, odm_finish, .func (PySem.W.fnOf "finish" "Reader.finish" (defArgs sFinish) (defBody sFinish) (defScope sFinish) .none kVm_finish dcm_finish pmm_finish anm_finish cdm_finish ctm_finish), slm_finish⟩)
    (cm_finish : PySem.W.codeIn K cdm_finish "Reader.finish" = true)
    (km_finish : PySem.W.keepIn K (.ref fm_finish) = true)
    (af_check_length : PySem.W.nsIn K mainGlobals "check_length" = some (some (.ref ff_check_length)))
    (lf_check_length : K.lookup ff_check_length = some ⟨ocf_check_length, odf_check_length, .func (PySem.W.fnOf "check_length" "check_length" (defArgs sChkL) (defBody sChkL) (defScope sChkL) .none kVf_check_length dcf_check_length pmf_check_length anf_check_length cdf_check_length ctf_check_length), slf_check_length⟩)
    (cf_check_length : PySem.W.codeIn K cdf_check_length "check_length" = true)
    (kf_check_length : PySem.W.keepIn K (.ref ff_check_length) = true)
    (af_check_not_below : PySem.W.nsIn K mainGlobals "check_not_below" = some (some (.ref ff_check_not_below)))
    (lf_check_not_below : K.lookup ff_check_not_below = some ⟨ocf_check_not_below, odf_check_not_below, .func (PySem.W.fnOf "check_not_below" "check_not_below" (defArgs sChkN) (defBody sChkN) (defScope sChkN) .none kVf_check_not_below dcf_check_not_below pmf_check_not_below anf_check_not_below cdf_check_not_below ctf_check_not_below), slf_check_not_below⟩)
    (cf_check_not_below : PySem.W.codeIn K cdf_check_not_below "check_not_below" = true)
    (kf_check_not_below : PySem.W.keepIn K (.ref ff_check_not_below) = true)
    (af_check_fits : PySem.W.nsIn K mainGlobals "check_fits" = some (some (.ref ff_check_fits)))
    (lf_check_fits : K.lookup ff_check_fits = some ⟨ocf_check_fits, odf_check_fits, .func (PySem.W.fnOf "check_fits" "check_fits" (defArgs sChkF) (defBody sChkF) (defScope sChkF) .none kVf_check_fits dcf_check_fits pmf_check_fits anf_check_fits cdf_check_fits ctf_check_fits), slf_check_fits⟩)
    (cf_check_fits : PySem.W.codeIn K cdf_check_fits "check_fits" = true)
    (kf_check_fits : PySem.W.keepIn K (.ref ff_check_fits) = true)
    (af_read_number : PySem.W.nsIn K mainGlobals "read_number" = some (some (.ref ff_read_number)))
    (lf_read_number : K.lookup ff_read_number = some ⟨ocf_read_number, odf_read_number, .func (PySem.W.fnOf "read_number" "read_number" (defArgs sRead) (defBody sRead) (defScope sRead) .none kVf_read_number dcf_read_number pmf_read_number anf_read_number cdf_read_number ctf_read_number), slf_read_number⟩)
    (cf_read_number : PySem.W.codeIn K cdf_read_number "read_number" = true)
    (kf_read_number : PySem.W.keepIn K (.ref ff_read_number) = true)
    (af_fits : PySem.W.nsIn K mainGlobals "fits" = some (some (.ref ff_fits)))
    (lf_fits : K.lookup ff_fits = some ⟨ocf_fits, odf_fits, .func (PySem.W.fnOf "fits" "fits" (defArgs sFits) (defBody sFits) (defScope sFits) .none kVf_fits dcf_fits pmf_fits anf_fits cdf_fits ctf_fits), slf_fits⟩)
    (cf_fits : PySem.W.codeIn K cdf_fits "fits" = true)
    (kf_fits : PySem.W.keepIn K (.ref ff_fits) = true)
    (af_least_terms : PySem.W.nsIn K mainGlobals "least_terms" = some (some (.ref ff_least_terms)))
    (lf_least_terms : K.lookup ff_least_terms = some ⟨ocf_least_terms, odf_least_terms, .func (PySem.W.fnOf "least_terms" "least_terms" (defArgs sLeast) (defBody sLeast) (defScope sLeast) .none kVf_least_terms dcf_least_terms pmf_least_terms anf_least_terms cdf_least_terms ctf_least_terms), slf_least_terms⟩)
    (cf_least_terms : PySem.W.codeIn K cdf_least_terms "least_terms" = true)
    (kf_least_terms : PySem.W.keepIn K (.ref ff_least_terms) = true)
    (af_common_divisor : PySem.W.nsIn K mainGlobals "common_divisor" = some (some (.ref ff_common_divisor)))
    (lf_common_divisor : K.lookup ff_common_divisor = some ⟨ocf_common_divisor, odf_common_divisor, .func (PySem.W.fnOf "common_divisor" "common_divisor" (defArgs sGcd) (defBody sGcd) (defScope sGcd) .none kVf_common_divisor dcf_common_divisor pmf_common_divisor anf_common_divisor cdf_common_divisor ctf_common_divisor), slf_common_divisor⟩)
    (cf_common_divisor : PySem.W.codeIn K cdf_common_divisor "common_divisor" = true)
    (kf_common_divisor : PySem.W.keepIn K (.ref ff_common_divisor) = true)
    (af_power_of_ten : PySem.W.nsIn K mainGlobals "power_of_ten" = some (some (.ref ff_power_of_ten)))
    (lf_power_of_ten : K.lookup ff_power_of_ten = some ⟨ocf_power_of_ten, odf_power_of_ten, .func (PySem.W.fnOf "power_of_ten" "power_of_ten" (defArgs sTen) (defBody sTen) (defScope sTen) .none kVf_power_of_ten dcf_power_of_ten pmf_power_of_ten anf_power_of_ten cdf_power_of_ten ctf_power_of_ten), slf_power_of_ten⟩)
    (cf_power_of_ten : PySem.W.codeIn K cdf_power_of_ten "power_of_ten" = true)
    (kf_power_of_ten : PySem.W.keepIn K (.ref ff_power_of_ten) = true)
    (af_rounded_units : PySem.W.nsIn K mainGlobals "rounded_units" = some (some (.ref ff_rounded_units)))
    (lf_rounded_units : K.lookup ff_rounded_units = some ⟨ocf_rounded_units, odf_rounded_units, .func (PySem.W.fnOf "rounded_units" "rounded_units" (defArgs sRound) (defBody sRound) (defScope sRound) .none kVf_rounded_units dcf_rounded_units pmf_rounded_units anf_rounded_units cdf_rounded_units ctf_rounded_units), slf_rounded_units⟩)
    (cf_rounded_units : PySem.W.codeIn K cdf_rounded_units "rounded_units" = true)
    (kf_rounded_units : PySem.W.keepIn K (.ref ff_rounded_units) = true)
    (af_goes_up : PySem.W.nsIn K mainGlobals "goes_up" = some (some (.ref ff_goes_up)))
    (lf_goes_up : K.lookup ff_goes_up = some ⟨ocf_goes_up, odf_goes_up, .func (PySem.W.fnOf "goes_up" "goes_up" (defArgs sGoes) (defBody sGoes) (defScope sGoes) .none kVf_goes_up dcf_goes_up pmf_goes_up anf_goes_up cdf_goes_up ctf_goes_up), slf_goes_up⟩)
    (cf_goes_up : PySem.W.codeIn K cdf_goes_up "goes_up" = true)
    (kf_goes_up : PySem.W.keepIn K (.ref ff_goes_up) = true)
    (af_number_of_units : PySem.W.nsIn K mainGlobals "number_of_units" = some (some (.ref ff_number_of_units)))
    (lf_number_of_units : K.lookup ff_number_of_units = some ⟨ocf_number_of_units, odf_number_of_units, .func (PySem.W.fnOf "number_of_units" "number_of_units" (defArgs sNumU) (defBody sNumU) (defScope sNumU) .none kVf_number_of_units dcf_number_of_units pmf_number_of_units anf_number_of_units cdf_number_of_units ctf_number_of_units), slf_number_of_units⟩)
    (cf_number_of_units : PySem.W.codeIn K cdf_number_of_units "number_of_units" = true)
    (kf_number_of_units : PySem.W.keepIn K (.ref ff_number_of_units) = true)
    (af_units_text : PySem.W.nsIn K mainGlobals "units_text" = some (some (.ref ff_units_text)))
    (lf_units_text : K.lookup ff_units_text = some ⟨ocf_units_text, odf_units_text, .func (PySem.W.fnOf "units_text" "units_text" (defArgs sUnits) (defBody sUnits) (defScope sUnits) .none kVf_units_text dcf_units_text pmf_units_text anf_units_text cdf_units_text ctf_units_text), slf_units_text⟩)
    (cf_units_text : PySem.W.codeIn K cdf_units_text "units_text" = true)
    (kf_units_text : PySem.W.keepIn K (.ref ff_units_text) = true)
    (af_told_text : PySem.W.nsIn K mainGlobals "told_text" = some (some (.ref ff_told_text)))
    (lf_told_text : K.lookup ff_told_text = some ⟨ocf_told_text, odf_told_text, .func (PySem.W.fnOf "told_text" "told_text" (defArgs sTold) (defBody sTold) (defScope sTold) .none kVf_told_text dcf_told_text pmf_told_text anf_told_text cdf_told_text ctf_told_text), slf_told_text⟩)
    (cf_told_text : PySem.W.codeIn K cdf_told_text "told_text" = true)
    (kf_told_text : PySem.W.keepIn K (.ref ff_told_text) = true)
    (af_read_given : PySem.W.nsIn K mainGlobals "read_given" = some (some (.ref ff_read_given)))
    (lf_read_given : K.lookup ff_read_given = some ⟨ocf_read_given, odf_read_given, .func (PySem.W.fnOf "read_given" "read_given" (defArgs sGiven) (defBody sGiven) (defScope sGiven) .none kVf_read_given dcf_read_given pmf_read_given anf_read_given cdf_read_given ctf_read_given), slf_read_given⟩)
    (cf_read_given : PySem.W.codeIn K cdf_read_given "read_given" = true)
    (kf_read_given : PySem.W.keepIn K (.ref ff_read_given) = true)
    (af_shown_text : PySem.W.nsIn K mainGlobals "shown_text" = some (some (.ref ff_shown_text)))
    (lf_shown_text : K.lookup ff_shown_text = some ⟨ocf_shown_text, odf_shown_text, .func (PySem.W.fnOf "shown_text" "shown_text" (defArgs sShownT) (defBody sShownT) (defScope sShownT) .none kVf_shown_text dcf_shown_text pmf_shown_text anf_shown_text cdf_shown_text ctf_shown_text), slf_shown_text⟩)
    (cf_shown_text : PySem.W.codeIn K cdf_shown_text "shown_text" = true)
    (kf_shown_text : PySem.W.keepIn K (.ref ff_shown_text) = true)
    (af_told_place : PySem.W.nsIn K mainGlobals "told_place" = some (some (.ref ff_told_place)))
    (lf_told_place : K.lookup ff_told_place = some ⟨ocf_told_place, odf_told_place, .func (PySem.W.fnOf "told_place" "told_place" (defArgs sPlace) (defBody sPlace) (defScope sPlace) .none kVf_told_place dcf_told_place pmf_told_place anf_told_place cdf_told_place ctf_told_place), slf_told_place⟩)
    (cf_told_place : PySem.W.codeIn K cdf_told_place "told_place" = true)
    (kf_told_place : PySem.W.keepIn K (.ref ff_told_place) = true)
    (af_bound_units : PySem.W.nsIn K mainGlobals "bound_units" = some (some (.ref ff_bound_units)))
    (lf_bound_units : K.lookup ff_bound_units = some ⟨ocf_bound_units, odf_bound_units, .func (PySem.W.fnOf "bound_units" "bound_units" (defArgs sBoundU) (defBody sBoundU) (defScope sBoundU) .none kVf_bound_units dcf_bound_units pmf_bound_units anf_bound_units cdf_bound_units ctf_bound_units), slf_bound_units⟩)
    (cf_bound_units : PySem.W.codeIn K cdf_bound_units "bound_units" = true)
    (kf_bound_units : PySem.W.keepIn K (.ref ff_bound_units) = true)
    (z_MOST_BYTES : PySem.W.nsIn K mainGlobals "MOST_BYTES" = some (some (.int 4096 tz_MOST_BYTES)))
    (z_MOST_DIGITS : PySem.W.nsIn K mainGlobals "MOST_DIGITS" = some (some (.int 1300 tz_MOST_DIGITS)))
    (z_MOST_BITS : PySem.W.nsIn K mainGlobals "MOST_BITS" = some (some (.int 4096 tz_MOST_BITS)))
    (z_FIRST_PLACE : PySem.W.nsIn K mainGlobals "FIRST_PLACE" = some (some (.int (-60) tz_FIRST_PLACE)))
    (z_LAST_PLACE : PySem.W.nsIn K mainGlobals "LAST_PLACE" = some (some (.int 60 tz_LAST_PLACE)))
    (z_NEAREST : PySem.W.nsIn K mainGlobals "NEAREST" = some (some (.int 0 tz_NEAREST)))
    (z_UP : PySem.W.nsIn K mainGlobals "UP" = some (some (.int 1 tz_UP)))
    (z_DOWN : PySem.W.nsIn K mainGlobals "DOWN" = some (some (.int 2 tz_DOWN)))
    (z_AWAY : PySem.W.nsIn K mainGlobals "AWAY" = some (some (.int 3 tz_AWAY)))
    (z_MINUS : PySem.W.nsIn K mainGlobals "MINUS" = some (some (.int 45 tz_MINUS)))
    (z_POINT : PySem.W.nsIn K mainGlobals "POINT" = some (some (.int 46 tz_POINT)))
    (z_STROKE : PySem.W.nsIn K mainGlobals "STROKE" = some (some (.int 47 tz_STROKE)))
    (z_NOUGHT : PySem.W.nsIn K mainGlobals "NOUGHT" = some (some (.int 48 tz_NOUGHT)))
    (z_NINE : PySem.W.nsIn K mainGlobals "NINE" = some (some (.int 57 tz_NINE)))
    (z_MOST_UNITS : PySem.W.nsIn K mainGlobals "MOST_UNITS" = some (some (.int 99 tz_MOST_UNITS)))
    (s_PLUS_MINUS : PySem.W.nsIn K mainGlobals "PLUS_MINUS" = some (some (.str " +- " ts_PLUS_MINUS)))
    (b_len : PySem.W.nsIn K mainGlobals "len" = some none)
    (b_abs : PySem.W.nsIn K mainGlobals "abs" = some none)
    (b_range : PySem.W.nsIn K mainGlobals "range" = some none)
    (b_str : PySem.W.nsIn K mainGlobals "str" = some none)
    (b_ord : PySem.W.nsIn K mainGlobals "ord" = some none)
    (b_max : PySem.W.nsIn K mainGlobals "max" = some none)
    (nd : PySem.W.nsIn K cStatics "sys.int_max_str_digits" = some none) :
    Facts K mg R C1 C2 C3 C5 C6 C7 CR CF CB :=
  { gR := PySem.W.mg_of X G gR
    gC1 := PySem.W.mg_of X G gC1
    gC2 := PySem.W.mg_of X G gC2
    gC3 := PySem.W.mg_of X G gC3
    gC5 := PySem.W.mg_of X G gC5
    gC6 := PySem.W.mg_of X G gC6
    gC7 := PySem.W.mg_of X G gC7
    gCR := PySem.W.mg_of X G gCR
    gCF := PySem.W.mg_of X G gCF
    gCB := PySem.W.mg_of X G gCB
    ow := ow_fact (mc := .type "type") ord oga oat lo co ko
    eC1 := err_fact (cs := [R]) xlC1 xsC1 xtC1 xkC1 xnC1 xgC1 xhC1 xeC1 xdC1 eR iR tR xrC1
    eC2 := err_fact (cs := [R]) xlC2 xsC2 xtC2 xkC2 xnC2 xgC2 xhC2 xeC2 xdC2 eR iR tR xrC2
    eC3 := err_fact (cs := [R]) xlC3 xsC3 xtC3 xkC3 xnC3 xgC3 xhC3 xeC3 xdC3 eR iR tR xrC3
    eC5 := err_fact (cs := [R]) xlC5 xsC5 xtC5 xkC5 xnC5 xgC5 xhC5 xeC5 xdC5 eR iR tR xrC5
    eC6 := err_fact (cs := [R]) xlC6 xsC6 xtC6 xkC6 xnC6 xgC6 xhC6 xeC6 xdC6 eR iR tR xrC6
    eC7 := err_fact (cs := [R]) xlC7 xsC7 xtC7 xkC7 xnC7 xgC7 xhC7 xeC7 xdC7 eR iR tR xrC7
    cCR := cls_fact pgCR hdCR poCR saCR
    mCR := mkCR
    kCR := kcCR
    cCF := cls_fact pgCF hdCF poCF saCF
    mCF := mkCF
    kCF := kcCF
    cCB := cls_fact pgCB hdCB poCB saCB
    mCB := mkCB
    kCB := kcCB
    nTop := nTop
    nBot := nBot
    nText := nText
    nWhich := nWhich
    nPlace := nPlace
    nValue := nValue
    nBound := nBound
    iC1 := mt_fact aiC1 iiC1 liC1 ciC1 kiC1
    iC2 := mt_fact aiC2 iiC2 liC2 ciC2 kiC2
    iC3 := mt_fact aiC3 iiC3 liC3 ciC3 kiC3
    iC5 := mt_fact aiC5 iiC5 liC5 ciC5 kiC5
    iC6 := mt_fact aiC6 iiC6 liC6 ciC6 kiC6
    iC7 := mt_fact aiC7 iiC7 liC7 ciC7 kiC7
    iCR := mt_fact aiCR iiCR liCR ciCR kiCR
    iCF := mt_fact aiCF iiCF liCF ciCF kiCF
    iCB := mt_fact aiCB iiCB liCB ciCB kiCB
    m_sees := mt_fact am_sees im_sees lm_sees cm_sees km_sees
    m_sees_digit := mt_fact am_sees_digit im_sees_digit lm_sees_digit cm_sees_digit km_sees_digit
    m_digits := mt_fact am_digits im_digits lm_digits cm_digits km_digits
    m_number := mt_fact am_number im_number lm_number cm_number km_number
    m_unsigned := mt_fact am_unsigned im_unsigned lm_unsigned cm_unsigned km_unsigned
    m_behind_point := mt_fact am_behind_point im_behind_point lm_behind_point cm_behind_point km_behind_point
    m_behind_stroke := mt_fact am_behind_stroke im_behind_stroke lm_behind_stroke cm_behind_stroke km_behind_stroke
    m_finish := mt_fact am_finish im_finish lm_finish cm_finish km_finish
    f_check_length := fn_fact X G af_check_length lf_check_length cf_check_length kf_check_length
    f_check_not_below := fn_fact X G af_check_not_below lf_check_not_below cf_check_not_below kf_check_not_below
    f_check_fits := fn_fact X G af_check_fits lf_check_fits cf_check_fits kf_check_fits
    f_read_number := fn_fact X G af_read_number lf_read_number cf_read_number kf_read_number
    f_fits := fn_fact X G af_fits lf_fits cf_fits kf_fits
    f_least_terms := fn_fact X G af_least_terms lf_least_terms cf_least_terms kf_least_terms
    f_common_divisor := fn_fact X G af_common_divisor lf_common_divisor cf_common_divisor kf_common_divisor
    f_power_of_ten := fn_fact X G af_power_of_ten lf_power_of_ten cf_power_of_ten kf_power_of_ten
    f_rounded_units := fn_fact X G af_rounded_units lf_rounded_units cf_rounded_units kf_rounded_units
    f_goes_up := fn_fact X G af_goes_up lf_goes_up cf_goes_up kf_goes_up
    f_number_of_units := fn_fact X G af_number_of_units lf_number_of_units cf_number_of_units kf_number_of_units
    f_units_text := fn_fact X G af_units_text lf_units_text cf_units_text kf_units_text
    f_told_text := fn_fact X G af_told_text lf_told_text cf_told_text kf_told_text
    f_read_given := fn_fact X G af_read_given lf_read_given cf_read_given kf_read_given
    f_shown_text := fn_fact X G af_shown_text lf_shown_text cf_shown_text kf_shown_text
    f_told_place := fn_fact X G af_told_place lf_told_place cf_told_place kf_told_place
    f_bound_units := fn_fact X G af_bound_units lf_bound_units cf_bound_units kf_bound_units
    z_MOST_BYTES := gli_of X G z_MOST_BYTES
    z_MOST_DIGITS := gli_of X G z_MOST_DIGITS
    z_MOST_BITS := gli_of X G z_MOST_BITS
    z_FIRST_PLACE := gli_of X G z_FIRST_PLACE
    z_LAST_PLACE := gli_of X G z_LAST_PLACE
    z_NEAREST := gli_of X G z_NEAREST
    z_UP := gli_of X G z_UP
    z_DOWN := gli_of X G z_DOWN
    z_AWAY := gli_of X G z_AWAY
    z_MINUS := gli_of X G z_MINUS
    z_POINT := gli_of X G z_POINT
    z_STROKE := gli_of X G z_STROKE
    z_NOUGHT := gli_of X G z_NOUGHT
    z_NINE := gli_of X G z_NINE
    z_MOST_UNITS := gli_of X G z_MOST_UNITS
    s_PLUS_MINUS := gls_of X G s_PLUS_MINUS
    b_len := PySem.W.mg_none_of X G b_len
    b_abs := PySem.W.mg_none_of X G b_abs
    b_range := PySem.W.mg_none_of X G b_range
    b_str := PySem.W.mg_none_of X G b_str
    b_ord := PySem.W.mg_none_of X G b_ord
    b_max := PySem.W.mg_none_of X G b_max
    nd := nd }
section
variable {P : Program} {w : World} {K : PySem.W.Frag} {mg : Str → Option Value} {base : Heap} {R C1 C2 C3 C5 C6 C7 CR CF CB : Addr}
theorem all_law {f : Addr} {fd : FuncData} (T : Facts K mg R C1 C2 C3 C5 C6 C7 CR CF CB) (F : Fun K "shown" "shown" sShown f fd) : FnOk P w K mg base CX0 10 f fd ["v", "b"] (spShown K) := by
  have OW : OwX P w K mg base R CX0 1 "Refused" "__init__" ["self", "answer"] (spRefI K R) := owX T.ow T.gR (fun _ _ _ _ _ _ us hl => match us, hl with | [_, _], _ => rfl) fun F => ok_refI F
  have E1 : ErX P w K mg base R C1 CX0 2 "OutOfRange" ["self"] (spErr K R (fun ns => ns = []) (fun _ => [-1])) := erX T.iC1 T.eC1 T.gC1 (fun _ _ _ _ _ _ us hl => match us, hl with | [_], _ => rfl) fun F => ok_outI F OW
  have E2 : ErX P w K mg base R C2 CX0 2 "AtFault" ["self", "which", "place"] (spErr K R (fun ns => ns.length = 2) (fun ns => -3 :: ns)) := erX T.iC2 T.eC2 T.gC2 (fun _ _ _ _ _ _ us hl => match us, hl with | [_, _, _], _ => rfl) fun F => ok_fltI F OW
  have E3 : ErX P w K mg base R C3 CX0 2 "TooLarge" ["self"] (spErr K R (fun ns => ns = []) (fun _ => [-6])) := erX T.iC3 T.eC3 T.gC3 (fun _ _ _ _ _ _ us hl => match us, hl with | [_], _ => rfl) fun F => ok_bigI F OW
  have E5 : ErX P w K mg base R C5 CX0 2 "DoesNotFit" ["self"] (spErr K R (fun ns => ns = []) (fun _ => [-6])) := erX T.iC5 T.eC5 T.gC5 (fun _ _ _ _ _ _ us hl => match us, hl with | [_], _ => rfl) fun F => ok_dnfI F OW
  have E6 : ErX P w K mg base R C6 CX0 2 "BelowNought" ["self"] (spErr K R (fun ns => ns = []) (fun _ => [-2])) := erX T.iC6 T.eC6 T.gC6 (fun _ _ _ _ _ _ us hl => match us, hl with | [_], _ => rfl) fun F => ok_belI F OW
  have E7 : ErX P w K mg base R C7 CX0 2 "NoPlace" ["self"] (spErr K R (fun ns => ns = []) (fun _ => [-5])) := erX T.iC7 T.eC7 T.gC7 (fun _ _ _ _ _ _ us hl => match us, hl with | [_], _ => rfl) fun F => ok_noPI F OW
  have MR : MkX P w K mg base CR CX0 1 "Ratio" ["self", "top", "bottom"] (spRatI CR) := mkX T.iCR T.mCR T.kCR T.gCR (fun _ _ _ _ _ _ us hl => match us, hl with | [_, _, _], _ => rfl) fun F => ok_ratI F T.cCR T.nTop T.nBot
  have MF : MkX P w K mg base CF CX0 1 "Reader" ["self", "text", "which"] (spRdI CF) := mkX T.iCF T.mCF T.kCF T.gCF (fun _ _ _ _ _ _ us hl => match us, hl with | [_, _, _], _ => rfl) fun F => ok_rdI F T.cCF T.nText T.nWhich T.nPlace
  have MB : MkX P w K mg base CB CX0 1 "Bounded" ["self", "value", "bound"] (spBdI CB) := mkX T.iCB T.mCB T.kCB T.gCB (fun _ _ _ _ _ _ us hl => match us, hl with | [_, _, _], _ => rfl) fun F => ok_bdI F T.cCB T.nValue T.nBound
  have S1 : MtX P w K mg base CF CX0 1 "sees" ["self", "byte"] (spSees K CF) := mtX T.m_sees (fun _ _ _ _ _ _ us hl => match us, hl with | [_, _], _ => rfl) fun F => ok_sees F T.cCF T.nText T.nPlace T.b_len
  have S2 : MtX P w K mg base CF CX0 1 "sees_digit" ["self"] (spSeesD K CF) := mtX T.m_sees_digit (fun _ _ _ _ _ _ us hl => match us, hl with | [_], _ => rfl) fun F => ok_seesD F T.cCF T.nText T.nPlace T.b_len T.z_NOUGHT T.z_NINE
  have DG : MtX P w K mg base CF (L2.CX P w) 4 "digits" ["self"] (spDigits K R CF) := mtX T.m_digits (fun _ _ _ _ _ _ us hl => match us, hl with | [_], _ => rfl) fun F => ok_digits F T.cCF T.nText T.nWhich T.nPlace T.z_NOUGHT T.z_MOST_DIGITS S2 E2
  have GC : FnX P w K mg base CX0 1 "common_divisor" ["a", "b"] spGcd := fnX T.f_common_divisor (fun _ _ _ _ _ _ us hl => match us, hl with | [_, _], _ => rfl) fun F => ok_gcd F
  have TN : FnX P w K mg base CX0 1 "power_of_ten" ["count"] spTen := fnX T.f_power_of_ten (fun _ _ _ _ _ _ us hl => match us, hl with | [_], _ => rfl) fun F => ok_ten F T.b_range
  have LT : FnX P w K mg base CX0 3 "least_terms" ["top", "bottom"] (spLeast CR) := fnX T.f_least_terms (fun _ _ _ _ _ _ us hl => match us, hl with | [_, _], _ => rfl) fun F => ok_least F T.b_abs GC MR
  have FT : FnX P w K mg base CX0 1 "fits" ["number"] (spFits CR) := fnX T.f_fits (fun _ _ _ _ _ _ us hl => match us, hl with | [_], _ => rfl) fun F => ok_fits F T.b_abs T.z_MOST_BITS T.cCR T.nTop T.nBot
  have PT : MtX P w K mg base CF (L2.CX P w) 5 "behind_point" ["self", "whole"] (spPoint K R CF CR) := mtX T.m_behind_point (fun _ _ _ _ _ _ us hl => match us, hl with | [_, _], _ => rfl) fun F => ok_point F T.cCF T.nPlace DG TN LT
  have SK : MtX P w K mg base CF (L2.CX P w) 5 "behind_stroke" ["self", "top"] (spStroke K R CF CR) := mtX T.m_behind_stroke (fun _ _ _ _ _ _ us hl => match us, hl with | [_, _], _ => rfl) fun F => ok_stroke F T.cCF T.nWhich T.nPlace DG LT E2
  have UN : MtX P w K mg base CF (L2.CX P w) 6 "unsigned" ["self"] (spPart K R CF CR partAt) := mtX T.m_unsigned (fun _ _ _ _ _ _ us hl => match us, hl with | [_], _ => rfl) fun F => ok_unsig F T.cCF T.z_POINT T.z_STROKE DG S1 PT SK MR
  have NB : MtX P w K mg base CF (L2.CX P w) 7 "number" ["self"] (spPart K R CF CR signedAt) := mtX T.m_number (fun _ _ _ _ _ _ us hl => match us, hl with | [_], _ => rfl) fun F => ok_number F T.cCF T.nPlace T.cCR T.nTop T.nBot T.z_MINUS S1 UN MR
  have FI : MtX P w K mg base CF (L2.CX P w) 4 "finish" ["self"] (spFinish K R CF) := mtX T.m_finish (fun _ _ _ _ _ _ us hl => match us, hl with | [_], _ => rfl) fun F => ok_finish F T.cCF T.nText T.nWhich T.nPlace T.b_len E2
  have CL : FnX P w K mg base (L2.CX P w) 4 "check_length" ["text"] (spChkL K R) := fnX T.f_check_length (fun _ _ _ _ _ _ us hl => match us, hl with | [_], _ => rfl) fun F => ok_chkL F T.b_len T.z_MOST_BYTES E1
  have RD : FnX P w K mg base (L2.CX P w) 8 "read_number" ["text", "which"] (spRead K R CR) := fnX T.f_read_number (fun _ _ _ _ _ _ us hl => match us, hl with | [_, _], _ => rfl) fun F => ok_read F T.cCF CL MF NB FI FT E3
  have TT : FnX P w K mg base CX0 1 "told_text" ["text"] spTold := fnX T.f_told_text (fun _ _ _ _ _ _ us hl => match us, hl with | [_], _ => rfl) fun F => ok_told F T.b_len T.b_ord
  have GU : FnX P w K mg base CX0 1 "goes_up" ["rest", "bottom", "below", "way"] spGoes := fnX T.f_goes_up (fun _ _ _ _ _ _ us hl => match us, hl with | [_, _, _, _], _ => rfl) fun F => ok_goes F T.z_NEAREST T.z_UP T.z_DOWN T.z_AWAY
  have RU : FnX P w K mg base CX0 2 "rounded_units" ["number", "d", "way"] (spRound CR) := fnX T.f_rounded_units (fun _ _ _ _ _ _ us hl => match us, hl with | [_, _, _], _ => rfl) fun F => ok_round F T.cCR T.nTop T.nBot T.b_max TN GU
  have UT : FnX P w K mg base CX0 1 "units_text" ["units", "d"] spUnits := fnX T.f_units_text (fun _ _ _ _ _ _ us hl => match us, hl with | [_, _], _ => rfl) fun F => ok_units F T.b_abs T.b_str T.nd
  have CT : FnX P w K mg base (L2.CX P w) 4 "check_fits" ["number"] (spChkF K R CR) := fnX T.f_check_fits (fun _ _ _ _ _ _ us hl => match us, hl with | [_], _ => rfl) fun F => ok_chkF F FT E5
  have CN : FnX P w K mg base (L2.CX P w) 4 "check_not_below" ["number"] (spChkN K R CR) := fnX T.f_check_not_below (fun _ _ _ _ _ _ us hl => match us, hl with | [_], _ => rfl) fun F => ok_chkN F T.cCR T.nTop E6
  have RG : FnX P w K mg base (L2.CX P w) 9 "read_given" ["v", "b", "which"] (spGiven K R CR CB) := fnX T.f_read_given (fun _ _ _ _ _ _ us hl => match us, hl with | [_, _, _], _ => rfl) fun F => ok_given F RD CN MB
  have BU : FnX P w K mg base CX0 3 "bound_units" ["given", "d"] (spBoundU CB CR) := fnX T.f_bound_units (fun _ _ _ _ _ _ us hl => match us, hl with | [_, _], _ => rfl) fun F => ok_boundU F T.cCB T.nValue T.nBound T.cCR T.nTop T.nBot T.b_max T.b_abs T.z_NEAREST TN RU
  have TP : FnX P w K mg base (L2.CX P w) 4 "told_place" ["given"] (spPlace K R CB CR) := fnX T.f_told_place (fun _ _ _ _ _ _ us hl => match us, hl with | [_], _ => rfl) fun F => ok_place F T.b_range T.b_max T.z_FIRST_PLACE T.z_LAST_PLACE T.z_MOST_UNITS BU E7
  have NU : FnX P w K mg base CX0 4 "number_of_units" ["units", "d"] (spNumU CR) := fnX T.f_number_of_units (fun _ _ _ _ _ _ us hl => match us, hl with | [_, _], _ => rfl) fun F => ok_numU F T.b_max TN LT
  have ST : FnX P w K mg base (L2.CX P w) 5 "shown_text" ["given"] (spShownT K R CB CR) := fnX T.f_shown_text (fun _ _ _ _ _ _ us hl => match us, hl with | [_], _ => rfl) fun F => ok_shownT F T.cCB T.nValue T.z_NEAREST T.s_PLUS_MINUS TP RU NU CT UT BU
  exact ok_shown F T.gR RG ST TT
theorem end_law {h : Heap} {fa fe : Addr} {oce : Value} {ode ane : Option Addr} {sle : Array (Option Value)} {kVe dce pme cde cte : Value} (X : K.In h) (G : h.Ns mainGlobals mg) (hfa : mg "shown" = some (.ref fa)) (T : Facts K mg R C1 C2 C3 C5 C6 C7 CR CF CB)
    (a : PySem.W.nsIn K mainGlobals "shown" = some (some (.ref fe))) (l : K.lookup fe = some ⟨oce, ode, .func (PySem.W.fnOf "shown" "shown" (defArgs sShown) (defBody sShown) (defScope sShown) .none kVe dce pme ane cde cte), sle⟩)
    (c : PySem.W.codeIn K cde "shown" = true) (k : PySem.W.keepIn K (.ref fe) = true) :
    ∃ fd : FuncData, (∀ (s : Shared) (us : List Value), us.length = (["v", "b"] : List Str).length → BindsTo s fd ⟨us, []⟩ ((["v", "b"] : List Str).zip us)) ∧ ∀ base : Heap, K.In base → base.Ns mainGlobals mg → FnOk P w K mg base CX0 10 fa fd ["v", "b"] (spShown K) := by
  have e := hfa.symm.trans (PySem.W.mg_of X G a)
  cases e
  exact ⟨_, fun s us hu => match us, hu with | [_, _], _ => .of_eq rfl, fun base _ _ => all_law T (fun_mk (st := sShown) l c k)⟩
end
end L2.NX
open PySem PySem.W PyProof.Rows
set_option maxRecDepth 100000 in
set_option maxHeartbeats 8000000 in
theorem PySem.Challenge.cw_outward_s05_shown_holds : PySem.Challenge.rw_outward_s05_shown.Holds := by
  w_on; k_headS; (case hw => exact ⟨[.list [], .list []], by decide +kernel, by decide +kernel⟩)
  k_fillS
  refine L2.walk_specK (r := PySem.Challenge.rw_outward_s05_shown) (k := 10) (CX := L2.CX0) (ps := ["v", "b"]) (sp := L2.NX.spShown) (by decide +kernel) rfl rfl ⟨rfl, by decide, by decide⟩ (fun w h Y => PySem.W.kIn_of Y) ?F ?S (fun _ _ _ _ z => z)
  case F =>
    intro w mg fa h Y KX G hmg
    refine' L2.NX.end_law KX G hmg (L2.NX.facts_mk KX G ?gR ?gC1 ?gC2 ?gC3 ?gC5 ?gC6 ?gC7 ?gCR ?gCF ?gCB ?eR ?iR ?tR ?ord ?oga ?oat ?lo ?co ?ko ?xlC1 ?xsC1 ?xtC1 ?xkC1 ?xnC1 ?xgC1 ?xhC1 ?xeC1 ?xdC1 ?xrC1 ?xlC2 ?xsC2 ?xtC2 ?xkC2 ?xnC2 ?xgC2 ?xhC2 ?xeC2 ?xdC2 ?xrC2 ?xlC3 ?xsC3 ?xtC3 ?xkC3 ?xnC3 ?xgC3 ?xhC3 ?xeC3 ?xdC3 ?xrC3 ?xlC5 ?xsC5 ?xtC5 ?xkC5 ?xnC5 ?xgC5 ?xhC5 ?xeC5 ?xdC5 ?xrC5 ?xlC6 ?xsC6 ?xtC6 ?xkC6 ?xnC6 ?xgC6 ?xhC6 ?xeC6 ?xdC6 ?xrC6 ?xlC7 ?xsC7 ?xtC7 ?xkC7 ?xnC7 ?xgC7 ?xhC7 ?xeC7 ?xdC7 ?xrC7 ?pgCR ?hdCR ?poCR ?saCR ?mkCR ?kcCR ?pgCF ?hdCF ?poCF ?saCF ?mkCF ?kcCF ?pgCB ?hdCB ?poCB ?saCB ?mkCB ?kcCB ?nTop ?nBot ?nText ?nWhich ?nPlace ?nValue ?nBound ?aiC1 ?iiC1 ?liC1 ?ciC1 ?kiC1 ?aiC2 ?iiC2 ?liC2 ?ciC2 ?kiC2 ?aiC3 ?iiC3 ?liC3 ?ciC3 ?kiC3 ?aiC5 ?iiC5 ?liC5 ?ciC5 ?kiC5 ?aiC6 ?iiC6 ?liC6 ?ciC6 ?kiC6 ?aiC7 ?iiC7 ?liC7 ?ciC7 ?kiC7 ?aiCR ?iiCR ?liCR ?ciCR ?kiCR ?aiCF ?iiCF ?liCF ?ciCF ?kiCF ?aiCB ?iiCB ?liCB ?ciCB ?kiCB ?am_sees ?im_sees ?lm_sees ?cm_sees ?km_sees ?am_sees_digit ?im_sees_digit ?lm_sees_digit ?cm_sees_digit ?km_sees_digit ?am_digits ?im_digits ?lm_digits ?cm_digits ?km_digits ?am_number ?im_number ?lm_number ?cm_number ?km_number ?am_unsigned ?im_unsigned ?lm_unsigned ?cm_unsigned ?km_unsigned ?am_behind_point ?im_behind_point ?lm_behind_point ?cm_behind_point ?km_behind_point ?am_behind_stroke ?im_behind_stroke ?lm_behind_stroke ?cm_behind_stroke ?km_behind_stroke ?am_finish ?im_finish ?lm_finish ?cm_finish ?km_finish ?af_check_length ?lf_check_length ?cf_check_length ?kf_check_length ?af_check_not_below ?lf_check_not_below ?cf_check_not_below ?kf_check_not_below ?af_check_fits ?lf_check_fits ?cf_check_fits ?kf_check_fits ?af_read_number ?lf_read_number ?cf_read_number ?kf_read_number ?af_fits ?lf_fits ?cf_fits ?kf_fits ?af_least_terms ?lf_least_terms ?cf_least_terms ?kf_least_terms ?af_common_divisor ?lf_common_divisor ?cf_common_divisor ?kf_common_divisor ?af_power_of_ten ?lf_power_of_ten ?cf_power_of_ten ?kf_power_of_ten ?af_rounded_units ?lf_rounded_units ?cf_rounded_units ?kf_rounded_units ?af_goes_up ?lf_goes_up ?cf_goes_up ?kf_goes_up ?af_number_of_units ?lf_number_of_units ?cf_number_of_units ?kf_number_of_units ?af_units_text ?lf_units_text ?cf_units_text ?kf_units_text ?af_told_text ?lf_told_text ?cf_told_text ?kf_told_text ?af_read_given ?lf_read_given ?cf_read_given ?kf_read_given ?af_shown_text ?lf_shown_text ?cf_shown_text ?kf_shown_text ?af_told_place ?lf_told_place ?cf_told_place ?kf_told_place ?af_bound_units ?lf_bound_units ?cf_bound_units ?kf_bound_units ?z_MOST_BYTES ?z_MOST_DIGITS ?z_MOST_BITS ?z_FIRST_PLACE ?z_LAST_PLACE ?z_NEAREST ?z_UP ?z_DOWN ?z_AWAY ?z_MINUS ?z_POINT ?z_STROKE ?z_NOUGHT ?z_NINE ?z_MOST_UNITS ?s_PLUS_MINUS ?b_len ?b_abs ?b_range ?b_str ?b_ord ?b_max ?nd) ?xa ?xl ?xc ?xk
    (case gR => k_is)
    (case gC1 => k_is)
    (case gC2 => k_is)
    (case gC3 => k_is)
    (case gC5 => k_is)
    (case gC6 => k_is)
    (case gC7 => k_is)
    (case gCR => k_is)
    (case gCF => k_is)
    (case gCB => k_is)
    (case eR => k_is)
    (case iR => k_is)
    (case tR => k_is)
    (case ord => k_is)
    (case oga => k_is)
    (case oat => k_is)
    (case lo => k_is)
    (case co => k_is)
    (case ko => k_is)
    (case xlC1 => k_is)
    (case xsC1 => k_is)
    (case xtC1 => k_is)
    (case xkC1 => k_is)
    (case xnC1 => k_is)
    (case xgC1 => k_is)
    (case xhC1 => k_is)
    (case xeC1 => k_is)
    (case xdC1 => k_is)
    (case xrC1 => k_is)
    (case xlC2 => k_is)
    (case xsC2 => k_is)
    (case xtC2 => k_is)
    (case xkC2 => k_is)
    (case xnC2 => k_is)
    (case xgC2 => k_is)
    (case xhC2 => k_is)
    (case xeC2 => k_is)
    (case xdC2 => k_is)
    (case xrC2 => k_is)
    (case xlC3 => k_is)
    (case xsC3 => k_is)
    (case xtC3 => k_is)
    (case xkC3 => k_is)
    (case xnC3 => k_is)
    (case xgC3 => k_is)
    (case xhC3 => k_is)
    (case xeC3 => k_is)
    (case xdC3 => k_is)
    (case xrC3 => k_is)
    (case xlC5 => k_is)
    (case xsC5 => k_is)
    (case xtC5 => k_is)
    (case xkC5 => k_is)
    (case xnC5 => k_is)
    (case xgC5 => k_is)
    (case xhC5 => k_is)
    (case xeC5 => k_is)
    (case xdC5 => k_is)
    (case xrC5 => k_is)
    (case xlC6 => k_is)
    (case xsC6 => k_is)
    (case xtC6 => k_is)
    (case xkC6 => k_is)
    (case xnC6 => k_is)
    (case xgC6 => k_is)
    (case xhC6 => k_is)
    (case xeC6 => k_is)
    (case xdC6 => k_is)
    (case xrC6 => k_is)
    (case xlC7 => k_is)
    (case xsC7 => k_is)
    (case xtC7 => k_is)
    (case xkC7 => k_is)
    (case xnC7 => k_is)
    (case xgC7 => k_is)
    (case xhC7 => k_is)
    (case xeC7 => k_is)
    (case xdC7 => k_is)
    (case xrC7 => k_is)
    (case pgCR => k_is)
    (case hdCR => k_is)
    (case poCR => k_is)
    (case saCR => k_is)
    (case mkCR => k_is)
    (case kcCR => k_is)
    (case pgCF => k_is)
    (case hdCF => k_is)
    (case poCF => k_is)
    (case saCF => k_is)
    (case mkCF => k_is)
    (case kcCF => k_is)
    (case pgCB => k_is)
    (case hdCB => k_is)
    (case poCB => k_is)
    (case saCB => k_is)
    (case mkCB => k_is)
    (case kcCB => k_is)
    (case nTop => k_is)
    (case nBot => k_is)
    (case nText => k_is)
    (case nWhich => k_is)
    (case nPlace => k_is)
    (case nValue => k_is)
    (case nBound => k_is)
    (case aiC1 => k_is)
    (case iiC1 => k_is)
    (case liC1 => k_is)
    (case ciC1 => k_is)
    (case kiC1 => k_is)
    (case aiC2 => k_is)
    (case iiC2 => k_is)
    (case liC2 => k_is)
    (case ciC2 => k_is)
    (case kiC2 => k_is)
    (case aiC3 => k_is)
    (case iiC3 => k_is)
    (case liC3 => k_is)
    (case ciC3 => k_is)
    (case kiC3 => k_is)
    (case aiC5 => k_is)
    (case iiC5 => k_is)
    (case liC5 => k_is)
    (case ciC5 => k_is)
    (case kiC5 => k_is)
    (case aiC6 => k_is)
    (case iiC6 => k_is)
    (case liC6 => k_is)
    (case ciC6 => k_is)
    (case kiC6 => k_is)
    (case aiC7 => k_is)
    (case iiC7 => k_is)
    (case liC7 => k_is)
    (case ciC7 => k_is)
    (case kiC7 => k_is)
    (case aiCR => k_is)
    (case iiCR => k_is)
    (case liCR => k_is)
    (case ciCR => k_is)
    (case kiCR => k_is)
    (case aiCF => k_is)
    (case iiCF => k_is)
    (case liCF => k_is)
    (case ciCF => k_is)
    (case kiCF => k_is)
    (case aiCB => k_is)
    (case iiCB => k_is)
    (case liCB => k_is)
    (case ciCB => k_is)
    (case kiCB => k_is)
    (case am_sees => k_is)
    (case im_sees => k_is)
    (case lm_sees => k_is)
    (case cm_sees => k_is)
    (case km_sees => k_is)
    (case am_sees_digit => k_is)
    (case im_sees_digit => k_is)
    (case lm_sees_digit => k_is)
    (case cm_sees_digit => k_is)
    (case km_sees_digit => k_is)
    (case am_digits => k_is)
    (case im_digits => k_is)
    (case lm_digits => k_is)
    (case cm_digits => k_is)
    (case km_digits => k_is)
    (case am_number => k_is)
    (case im_number => k_is)
    (case lm_number => k_is)
    (case cm_number => k_is)
    (case km_number => k_is)
    (case am_unsigned => k_is)
    (case im_unsigned => k_is)
    (case lm_unsigned => k_is)
    (case cm_unsigned => k_is)
    (case km_unsigned => k_is)
    (case am_behind_point => k_is)
    (case im_behind_point => k_is)
    (case lm_behind_point => k_is)
    (case cm_behind_point => k_is)
    (case km_behind_point => k_is)
    (case am_behind_stroke => k_is)
    (case im_behind_stroke => k_is)
    (case lm_behind_stroke => k_is)
    (case cm_behind_stroke => k_is)
    (case km_behind_stroke => k_is)
    (case am_finish => k_is)
    (case im_finish => k_is)
    (case lm_finish => k_is)
    (case cm_finish => k_is)
    (case km_finish => k_is)
    (case af_check_length => k_is)
    (case lf_check_length => k_is)
    (case cf_check_length => k_is)
    (case kf_check_length => k_is)
    (case af_check_not_below => k_is)
    (case lf_check_not_below => k_is)
    (case cf_check_not_below => k_is)
    (case kf_check_not_below => k_is)
    (case af_check_fits => k_is)
    (case lf_check_fits => k_is)
    (case cf_check_fits => k_is)
    (case kf_check_fits => k_is)
    (case af_read_number => k_is)
    (case lf_read_number => k_is)
    (case cf_read_number => k_is)
    (case kf_read_number => k_is)
    (case af_fits => k_is)
    (case lf_fits => k_is)
    (case cf_fits => k_is)
    (case kf_fits => k_is)
    (case af_least_terms => k_is)
    (case lf_least_terms => k_is)
    (case cf_least_terms => k_is)
    (case kf_least_terms => k_is)
    (case af_common_divisor => k_is)
    (case lf_common_divisor => k_is)
    (case cf_common_divisor => k_is)
    (case kf_common_divisor => k_is)
    (case af_power_of_ten => k_is)
    (case lf_power_of_ten => k_is)
    (case cf_power_of_ten => k_is)
    (case kf_power_of_ten => k_is)
    (case af_rounded_units => k_is)
    (case lf_rounded_units => k_is)
    (case cf_rounded_units => k_is)
    (case kf_rounded_units => k_is)
    (case af_goes_up => k_is)
    (case lf_goes_up => k_is)
    (case cf_goes_up => k_is)
    (case kf_goes_up => k_is)
    (case af_number_of_units => k_is)
    (case lf_number_of_units => k_is)
    (case cf_number_of_units => k_is)
    (case kf_number_of_units => k_is)
    (case af_units_text => k_is)
    (case lf_units_text => k_is)
    (case cf_units_text => k_is)
    (case kf_units_text => k_is)
    (case af_told_text => k_is)
    (case lf_told_text => k_is)
    (case cf_told_text => k_is)
    (case kf_told_text => k_is)
    (case af_read_given => k_is)
    (case lf_read_given => k_is)
    (case cf_read_given => k_is)
    (case kf_read_given => k_is)
    (case af_shown_text => k_is)
    (case lf_shown_text => k_is)
    (case cf_shown_text => k_is)
    (case kf_shown_text => k_is)
    (case af_told_place => k_is)
    (case lf_told_place => k_is)
    (case cf_told_place => k_is)
    (case kf_told_place => k_is)
    (case af_bound_units => k_is)
    (case lf_bound_units => k_is)
    (case cf_bound_units => k_is)
    (case kf_bound_units => k_is)
    (case z_MOST_BYTES => k_is)
    (case z_MOST_DIGITS => k_is)
    (case z_MOST_BITS => k_is)
    (case z_FIRST_PLACE => k_is)
    (case z_LAST_PLACE => k_is)
    (case z_NEAREST => k_is)
    (case z_UP => k_is)
    (case z_DOWN => k_is)
    (case z_AWAY => k_is)
    (case z_MINUS => k_is)
    (case z_POINT => k_is)
    (case z_STROKE => k_is)
    (case z_NOUGHT => k_is)
    (case z_NINE => k_is)
    (case z_MOST_UNITS => k_is)
    (case s_PLUS_MINUS => k_is)
    (case b_len => k_is)
    (case b_abs => k_is)
    (case b_range => k_is)
    (case b_str => k_is)
    (case b_ord => k_is)
    (case b_max => k_is)
    (case nd => k_is)
    (case xa => k_is)
    (case xl => k_is)
    (case xc => k_is)
    (case xk => k_is)
  case S =>
    intro K H xs a hO hwi hask hx
    cases hx with
    | cons h1 g1 =>
      cases g1 with
      | cons h2 g2 =>
        cases g2
        cases h1 with
        | lst hs1 ha1 =>
          have e1 := L2.ints_dw a.1 _ ha1
          subst e1
          cases h2 with
          | lst hs2 ha2 =>
            have e2 := L2.ints_dw a.2.1 _ ha2
            subst e2
            have w0 := hwi
            have w1 := Bool.and_eq_true_iff.mp w0
            have b1 := L2.NX.bytes_in (ns := a.1) w1.1
            have w2 := Bool.and_eq_true_iff.mp w1.2
            have b2 := L2.NX.bytes_in (ns := a.2.1) w2.1
            exact ⟨_, _, EvenANeutral.text a.1, EvenANeutral.text a.2.1, rfl, (by rw [b1.2]; exact hs1), b1.1, (by rw [b2.2]; exact hs2), b2.1, fun p H' hp => .lst (L2.SqL.of hp) (L2.dw_ints _)⟩
#print axioms PySem.Challenge.cw_outward_s05_shown_holds

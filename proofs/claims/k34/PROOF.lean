import PyProof.Rows.All
import Wide.All
import OpenK.AllK
import Wide.FinOn
import HandS.ForMost
import HandS.ForExc
import HandS.Wide
import HandS.WideMore
import HandS.WideBits
import HandS.EndBits
import HandS.IsInst
import HandS.ExcIs
import HandS.HotCalls
import HandS.StrMore
import HandS.Style
import HandS.TupAny
import HandS.SortInts
import HandS.SortKw
import HandS.Walk
import HandS.SortRule
import HandS.TupLe
import HandS.Codes
import KE.GoesEnum
import HandS.DictComp
import HandS.Conv
import HandS.Strs
import HandS.Deep
import PySem.Challenge.RW_corebank_k34_whole_settle_keeps
set_option Elab.async false
set_option linter.all false
set_option maxRecDepth 100000
set_option maxHeartbeats 4000000
/-! What all the proofs share: the library's errors, lists joined, the def that tells an error's kinds. -/
namespace Kv
open PySem PySem.Spec PyProof.Rows L2
abbrev Frag := PySem.W.Frag
inductive Er where
  | badValue | badDay | missing | refused | full | notAllowed | damaged
  deriving DecidableEq
def Er.nm : Er → Str
  | .badValue => "BadValue" | .badDay => "BadDay" | .missing => "Missing" | .refused => "Refused" | .full => "Full" | .notAllowed => "NotAllowed" | .damaged => "Damaged"
def Er.every : List Er := [.badValue, .badDay, .missing, .refused, .full, .notAllowed, .damaged]
theorem Er.mem (e : Er) : e ∈ Er.every := by cases e <;> decide
abbrev veChain : List Value := [.type "ValueError", .type "Exception", .type "BaseException", .type "object"]
/-- what the written part must say of one error class -/
def errOne (K : Frag) (a : Er → Addr) (b : Addr) (e : Er) : Bool :=
  PySem.W.excIn K (a e) veChain "ValueError.__new__" && PySem.W.keepIn K (.ref (a e)) && (PySem.W.subIn K (.ref (a e)) (.type "BaseException") == some true) && (PySem.W.typeIn K (.ref (a e)) == some (.type "type")) &&
  (PySem.W.findIn K (.ref (a e)) "__getattribute__" == some (some (.builtin "BaseException.__getattribute__"))) && (PySem.W.findIn K (.ref (a e)) "__getattr__" == some none) && PySem.W.hasDictIn K (a e) &&
  (PySem.W.findIn K (.ref (a e)) "__class__" == some (some (.builtin "object.__class__"))) && (PySem.W.mroIn K (a e) (.type "object") == some true) && (PySem.W.exmOne K (.ref (a e)) (.ref b) == some true) &&
  Er.every.all fun d => PySem.W.kitOne K (.ref (a e)) (.ref (a d)) == some (decide (e = d))
def errAll (K : Frag) (a : Er → Addr) (b : Addr) : Bool :=
  (PySem.W.specialIn K (.builtin "object.__class__") "__get__" == some (some (.builtin "getset_descriptor.__get__"))) && (PySem.W.takesIn K (.builtin "object.__class__") == some true) && Er.every.all (errOne K a b)
structure Errs (K : Frag) (mg : Str → Option Value) where
  exa : Er → Addr
  exg : ∀ e, mg e.nm = some (.ref (exa e))
  a_BankError : Addr
  g_BankError : mg "BankError" = some (.ref a_BankError)
  exAll : errAll K exa a_BankError = true
namespace Errs
variable {K : Frag} {mg : Str → Option Value} (T : Errs K mg)
theorem one (e : Er) : errOne K T.exa T.a_BankError e = true := by
  have h := T.exAll
  unfold errAll at h
  simp only [Bool.and_eq_true, List.all_eq_true] at h
  exact h.2 e e.mem
theorem split (e : Er) : PySem.W.excIn K (T.exa e) veChain "ValueError.__new__" = true ∧ PySem.W.keepIn K (.ref (T.exa e)) = true ∧ PySem.W.subIn K (.ref (T.exa e)) (.type "BaseException") = some true ∧ PySem.W.typeIn K (.ref (T.exa e)) = some (.type "type") ∧
    ExcC K (T.exa e) ∧ PySem.W.exmOne K (.ref (T.exa e)) (.ref T.a_BankError) = some true ∧ ∀ d, PySem.W.kitOne K (.ref (T.exa e)) (.ref (T.exa d)) = some (decide (e = d)) := by
  have h := T.one e
  have g := T.exAll
  unfold errOne at h
  unfold errAll at g
  simp only [Bool.and_eq_true, List.all_eq_true, beq_iff_eq] at h g
  obtain ⟨⟨⟨⟨⟨⟨⟨⟨⟨⟨h1, h2⟩, h3⟩, h4⟩, h5⟩, h6⟩, h7⟩, h8⟩, h9⟩, h10⟩, h11⟩ := h
  exact ⟨h1, h2, h3, h4, ⟨h5, h6, h3, h7, h8, g.1.1, g.1.2, h9⟩, h10, fun d => h11 d d.mem⟩
theorem exx (e : Er) : PySem.W.excIn K (T.exa e) veChain "ValueError.__new__" = true := (T.split e).1
theorem exk (e : Er) : PySem.W.keepIn K (.ref (T.exa e)) = true := (T.split e).2.1
theorem exb (e : Er) : PySem.W.subIn K (.ref (T.exa e)) (.type "BaseException") = some true := (T.split e).2.2.1
theorem ext (e : Er) : PySem.W.typeIn K (.ref (T.exa e)) = some (.type "type") := (T.split e).2.2.2.1
theorem exc (e : Er) : ExcC K (T.exa e) := (T.split e).2.2.2.2.1
theorem exm (e : Er) : PySem.W.exmOne K (.ref (T.exa e)) (.ref T.a_BankError) = some true := (T.split e).2.2.2.2.2.1
theorem exi (e d : Er) : PySem.W.kitOne K (.ref (T.exa e)) (.ref (T.exa d)) = some (decide (e = d)) := (T.split e).2.2.2.2.2.2 d
end Errs

/-- .. where the text has some of the classes alone -/
def errAllP (K : Frag) (a : Er → Addr) (b : Addr) (es : List Er) : Bool :=
  (PySem.W.specialIn K (.builtin "object.__class__") "__get__" == some (some (.builtin "getset_descriptor.__get__"))) && (PySem.W.takesIn K (.builtin "object.__class__") == some true) && es.all fun e =>
  PySem.W.excIn K (a e) veChain "ValueError.__new__" && PySem.W.keepIn K (.ref (a e)) && (PySem.W.subIn K (.ref (a e)) (.type "BaseException") == some true) && (PySem.W.typeIn K (.ref (a e)) == some (.type "type")) &&
  (PySem.W.exmOne K (.ref (a e)) (.ref b) == some true)
structure ErrsP (K : Frag) (mg : Str → Option Value) (es : List Er) where
  exa : Er → Addr
  exgP : ∀ e, e ∈ es → mg e.nm = some (.ref (exa e))
  a_BankError : Addr
  g_BankError : mg "BankError" = some (.ref a_BankError)
  exAll : errAllP K exa a_BankError es = true
namespace ErrsP
variable {K : Frag} {mg : Str → Option Value} {es : List Er} (T : ErrsP K mg es)
theorem split (e : Er) (he : e ∈ es) : PySem.W.excIn K (T.exa e) veChain "ValueError.__new__" = true ∧ PySem.W.keepIn K (.ref (T.exa e)) = true ∧ PySem.W.subIn K (.ref (T.exa e)) (.type "BaseException") = some true ∧ PySem.W.typeIn K (.ref (T.exa e)) = some (.type "type") ∧
    PySem.W.exmOne K (.ref (T.exa e)) (.ref T.a_BankError) = some true := by
  have g := T.exAll
  unfold errAllP at g
  simp only [Bool.and_eq_true, List.all_eq_true, beq_iff_eq] at g
  obtain ⟨⟨⟨⟨h1, h2⟩, h3⟩, h4⟩, h5⟩ := g.2 e he
  exact ⟨h1, h2, h3, h4, h5⟩
theorem exg (e : Er) (he : e ∈ es := by decide) : mg e.nm = some (.ref (T.exa e)) := T.exgP e he
theorem exx (e : Er) (he : e ∈ es := by decide) : PySem.W.excIn K (T.exa e) veChain "ValueError.__new__" = true := (T.split e he).1
theorem exk (e : Er) (he : e ∈ es := by decide) : PySem.W.keepIn K (.ref (T.exa e)) = true := (T.split e he).2.1
theorem exb (e : Er) (he : e ∈ es := by decide) : PySem.W.subIn K (.ref (T.exa e)) (.type "BaseException") = some true := (T.split e he).2.2.1
theorem ext (e : Er) (he : e ∈ es := by decide) : PySem.W.typeIn K (.ref (T.exa e)) = some (.type "type") := (T.split e he).2.2.2.1
theorem exm (e : Er) (he : e ∈ es := by decide) : PySem.W.exmOne K (.ref (T.exa e)) (.ref T.a_BankError) = some true := (T.split e he).2.2.2.2
end ErrsP

/-! ### two lists joined, whatever may be read of them -/
section
variable {X : Cx}
def rCatS (K : Frag) : R2 := fun x y H Q => ∃ l b xs zs, x = .ref l ∧ y = .ref b ∧ SqL K H l xs ∧ SqL K H b zs ∧ xs.length + zs.length ≤ sizeLine ∧ ∀ p, H p = none → Q (.ref p) (upd H p (.lst (xs ++ zs)))
theorem op_catS : OpR X (binaryOp .Add) (rCatS X.K) := by
  intro pins s σ H x y v u Q I rx ry h
  obtain ⟨l, b, xs, zs, e1, e2, hl, hb, hz, q⟩ := h
  subst e1 e2
  cases rx
  cases ry
  obtain ⟨i1, r1, p1, z1⟩ := I.list hl
  obtain ⟨i2, r2, p2, z2⟩ := I.list hb
  obtain ⟨⟨c1, d1, t1, w1⟩, n1, g1, k1, m1, j1⟩ := p1
  obtain ⟨⟨c2, d2, t2, w2⟩, n2, g2, k2, m2, j2⟩ := p2
  dsimp only at k1 m1 j1 k2 m2 j2
  subst k1 m1 j1 k2 m2 j2
  have l1 := r1.length
  have l2 := r2.length
  have fits : i1.toArray.size + i2.toArray.size ≤ sizeLine := by
    rw [List.size_toArray, List.size_toArray]
    omega
  have joined : i1.toArray ++ i2.toArray = (i1 ++ i2).toArray := by simp
  have meets := list_addW l b i1.toArray i2.toArray n1 n2 none none w1 w2 fits
  refine concat_meets (s := s) ⟨_, g1, rfl⟩ ⟨_, g2, rfl⟩ noFill_list_add seq_list_add
    PySem.F.slot_list_add PySem.F.entry_list_add (PySem.F.args_list_add_2 _ _) meets ⟨g1, g2, ?_⟩
  rw [joined]
  exact ⟨.ref _, _, I.lnew (t' := s.toks) (r1.append r2) (by rw [List.length_append]; exact hz), rfl, q _ I.fresh⟩
end

/-! ### a def that is handed the error which a suite holds, and tells its kind -/
section
variable {P : Program} {w : World} {K : Frag} {mg : Str → Option Value} {base : Heap}
structure KindsOk (P : Program) (w : World) (K : Frag) (mg : Str → Option Value) (base : Heap) (T : Errs K mg) (lv : Nat) (f : Addr) (fd : FuncData) (pn : Str := "error") : Prop where
  run : ∀ (A : Around) (outer : List Env) (s : Shared) (H : Hp) (args : Args) (us : List Value) (Q : VK) (p : Addr × Obj) (er : Er), L2H.RoomH lv A → L2H.PinOk outer H s p → Zc (.ref (T.exa er)) none p.2 → (∃ vs, p.2.data = .fields vs) →
    Env0 P w K mg base A outer s H → BindsTo s fd args (([pn] : List Str).zip us) → Vals [.ref p.1] us → (∀ q, H q = none → Q (.ref q) (upd H q (.lst [.str er.nm]))) →
    codeAny (model P w) A (.call (.ref f) args) (CR CX0 outer P w H s Q E0) s
/-- isinstance of an error that every state bears -/
def rIsP (K : Frag) (D a : Addr) : List V → Hp → VK → Prop := fun xs H Q => ∃ (C : Addr) (b : Bool), xs = [.ref a, .ref C] ∧ PySem.W.kitOne K (.ref D) (.ref C) = some b ∧ Q (.bl b) H
theorem call_isP {X : Cx} {D : Addr} {p : Addr × Obj} (hp : p ∈ X.pn) (C : ExcC X.K D) (hz : Zc (.ref D) none p.2) (hf : ∃ vs, p.2.data = .fields vs) : CallR X (.builtin "isinstance") (rIsP X.K D p.1) := by
  intro pins s σ H xs us Q I r h
  obtain ⟨c, b, e1, e, q⟩ := h
  subst e1
  cases r with
  | cons rx rr =>
    cases rr with
    | cons rt rr2 =>
      cases rr2
      cases rx
      cases rt
      have hget := (I.pin p (List.mem_append.mpr (.inl hp))).1
      have J : PySem.W.InstAt s.heap p.1 p.2 D none := by
        obtain ⟨pa, oc, od, oda, osl⟩ := p
        obtain ⟨vs, hv⟩ := hf
        obtain ⟨h1, h2⟩ := hz
        dsimp only at h1 h2 hv hget ⊢
        subst h1 h2 hv
        exact ⟨hget, rfl, rfl, trivial⟩
      have kit := PySem.W.handS_kitx_exc C.hg C.hk C.hs C.hd C.ha C.hn C.ht C.hm (x := p.1) (ox := p.2)
      exact PySem.W.kia_one kit I.kIn J e (fun z => nomatch z) fun tk => ⟨.bl b, H, I.kept (t' := tk) fun _ _ z => z, rfl, q⟩
/-- such a def by its body -/
theorem kinds_of {nm pn : Str} {T : Errs K mg} {lv : Nat} {f : Addr} {fd : FuncData} {st : Stmt} {N : List Str} (F : Fun K nm nm st f fd) (S : FnScope N [pn] (defScope st))
    (hb : ∀ (cdv : Value) (A : Around) (outer : List Env) (s : Shared) (H : Hp) (Q : VK) (p : Addr × Obj) (er : Er), Zc (.ref (T.exa er)) none p.2 → (∃ vs, p.2.data = .fields vs) → (∀ q, H q = none → Q (.ref q) (upd H q (.lst [.str er.nm]))) →
      ∃ t, PSs (L2H.cxH CX0 P w K mg base N nm (defScope st) f cdv A outer s H E0 p) (defBody st) t ∧ t { nx := fun _ H' => Q .non H', rt := Q } (start N [.ref p.1]) H) :
    KindsOk P w K mg base T (lv + 1) f fd pn := by
  obtain ⟨oc, od, kV, doc, pm, an, cdv, ct, osl, rfl, lk, hcd⟩ := F.ex
  refine ⟨fun A outer s H args us Q p er hr hpin hz hf e0 hbi r hk => ?_⟩
  have KX : K.In s.heap := e0.mod.kin.keeps fun b o e => (e0.bs b o e).1
  have lim : s.heap.NoLimit := e0.mod.nolimit.keeps fun b o e => (e0.bs b o e).1
  have kinds : ∀ y ∈ ([pn] : List Str).zip us, (defScope st).names.lookup y.1 = some .local ∨ ((defScope st).names.lookup y.1 = some .cell ∧ ((cellsFrom (s.heap.objs.size + 1) (defScope st).names []).lookup y.1).isSome = true) := by
    intro ⟨n, v⟩ hy
    rcases S.par n (List.of_mem_zip hy).1 with z | z
    · exact .inl z
    · exact .inr ⟨z, PySem.W.cellsFrom_some _ _ _ (.inl z)⟩
  refine codeAny_call_function hr.depth (KX _ _ lk) rfl S.co S.gen rfl (PySem.W.codeRec_of KX hcd) (hbi _ _ _ _ ?_)
  refine wpAny_newFunctionEnv_cells S.kind kinds fun env he s1 x => ?_
  subst he
  refine ⟨lim.keeps x.toInCall.keep, codeAny_func ?_⟩
  obtain ⟨t, ht, hq⟩ := hb cdv A outer s H Q p er hz hf hk
  have I := L2H.inv_startH (CX := CX0) (E := E0) S hpin e0 (show ([.ref p.1] : List V).length = ([pn] : List Str).length from rfl) r x
  refine wpAny_mono (ht.run [] s1 _ H _ I hq) (fun fl s' hs => ?_) fun e s' hs => hs
  have fin : ∀ {σ' : L2.St} {H' : Hp} {v : V} {u : Value}, Inv _ [] σ' H' s' → RelV v u → Q v H' → CE outer P w H s Q u s' :=
    fun {σ' H' v u} (J : Inv (L2H.cxH CX0 P w K mg base N nm (defScope st) f cdv A outer s H E0 p) [] σ' H' s') rv qq => ⟨v, H', J.os, J.bare, J.base, J.hok, rv, qq⟩
  cases fl with
  | next =>
    obtain ⟨σ', H', J, qq⟩ := hs
    exact fin (v := V.non) (u := Value.none) J rfl qq
  | ret u =>
    obtain ⟨v, σ', H', J, rv, qq⟩ := hs
    exact fin J rv qq
  | brk =>
    obtain ⟨_, _, _, qq⟩ := hs
    exact qq.elim
  | cont =>
    obtain ⟨_, _, _, qq⟩ := hs
    exact qq.elim
end
section
variable {X : Cx} {CX : CXT} {f : Addr} {fd : FuncData} {lv : Nat} {x : Str} {q pos : Pos} {e : Expr} {te : TE}
/-- kinds(e), e the error that the suite holds -/
def tKinds {K : Frag} {mg : Str → Option Value} (T : Errs K mg) (cls : Value) (d : Option Addr) (a : Addr) (ta : TA) : TE := fun σ H Q => ta σ H fun vs H1 => vs = [.ref a] ∧ d = none ∧ ∃ er, cls = .ref (T.exa er) ∧ ∀ r, H1 r = none → Q (.ref r) (upd H1 r (.lst [.str er.nm]))
theorem pe_kinds {pn : Str} {a : Addr} {oe : Obj} {cls : Value} {d : Option Addr} {P : Program} {w : World} {K : Frag} {mg : Str → Option Value} {base : Heap} {T : Errs K mg} {ta : TA} (F : KindsOk P w K mg base T lv f fd pn) (hz : Zc cls d oe) (hf : ∃ vs, oe.data = .fields vs) (hp : (a, oe) ∈ X.pn) (hr : L2H.RoomH lv X.A) (hg : Gl X x)
    (hm : X.mg x = some (.ref f)) (hk : PySem.W.keepIn K (.ref f) = true) (hb : Binds K fd [pn] []) (ha : PA X [e] ta) (hP : X.prog = P := by rfl) (hw : X.w = w := by rfl) (hK : X.K = K := by rfl) (hM : X.mg = mg := by rfl) (hB : X.base = base := by rfl) (hdb : (x == ("__debug__" : Str)) = false := by decide)
    (he : starEach (e :: []) X.env = (false, eval e X.env) :: starEach [] X.env := by rfl) (hpl : (backTo pos (starEach [] X.env)).any (·.1) = false := by rfl) :
    PE X (.Call (.Name x q) [e] [] pos) (tKinds T cls d a ta) := by
  subst hP hw hK hM hB
  refine ⟨fun pins s σ H Q I h => ?_⟩
  refine wpAny_Call_Name_kw (ld_glob I hg hm ?_ hdb)
  refine PySem.W.callWith_K (h₀ := X.base) I.ok.mod.kin hk (thn (ha.run pos pins s σ H _ I h) fun us s1 ⟨vs, H1, I1, r, e1, e2, er, e3, k⟩ => ⟨I1.kIn, ?_⟩) he hpl
  subst e1 e2 e3
  have P1 := I1.pin (a, oe) (List.mem_append.mpr (.inl hp))
  have hl : us.length = 1 := r.length.symm
  have b := hb s1 us I1.kIn (by rw [List.append_nil]; exact hl)
  rw [List.append_nil] at b
  have hpin : L2H.PinOk X.stack H1 s1 (a, oe) := ⟨P1.1, P1.2.1, fun hm => (List.mem_cons.mp (I1.stkSub a hm)).elim P1.2.2.1 P1.2.2.2.1, P1.2.2.2.2⟩
  refine wpAny_call (codeAny_mono (F.run _ X.stack s1 H1 ⟨us, []⟩ us Q (a, oe) er hr hpin hz hf I1.env0 b r k) fun r' s' hq => ?_)
  cases r' with
  | error e => exact False.elim hq
  | ok fl =>
    cases fl with
    | ret u => exact I1.after hq
    | next => exact False.elim hq
    | brk => exact False.elim hq
    | cont => exact False.elim hq
end
/-! ### what may be compared -/
theorem sc_ii {a b : Int} : scal (.int a) (.int b) = true := rfl
theorem sc_ss {a b : Str} : scal (.str a) (.str b) = true := rfl
theorem sc_bb {a b : Bool} : scal (.bl a) (.bl b) = true := rfl
theorem sc_nn : scal .non .non = true := rfl
theorem sc_ni {a : Int} : scal .non (.int a) = true := rfl
theorem sc_in {a : Int} : scal (.int a) .non = true := rfl
theorem sc_sn {a : Str} : scal (.str a) .non = true := rfl
theorem sc_ns {a : Str} : scal .non (.str a) = true := rfl
theorem sc_bn {a : Bool} : scal (.bl a) .non = true := rfl
theorem sc_nb {a : Bool} : scal .non (.bl a) = true := rfl
theorem sc_is {a : Int} {b : Str} : scal (.int a) (.str b) = true := rfl
theorem sc_si {a : Int} {b : Str} : scal (.str b) (.int a) = true := rfl
theorem isi_int {K : Frag} {z : Int} {n : String} {b : Bool} {H : Hp} {Q : VK} (h : kitB "int" n = some b) (q : Q (.bl b) H) : rIsi K [.int z, .ty n] H Q := ⟨_, _, .type "int", .type n, b, rfl, .ty _, .base (.int _), kit_ty h, q⟩
theorem isi_bl {K : Frag} {z : Bool} {n : String} {b : Bool} {H : Hp} {Q : VK} (h : kitB "bool" n = some b) (q : Q (.bl b) H) : rIsi K [.bl z, .ty n] H Q := ⟨_, _, .type "bool", .type n, b, rfl, .ty _, .base (.bl _), kit_ty h, q⟩
theorem isi_str {K : Frag} {z : Str} {n : String} {b : Bool} {H : Hp} {Q : VK} (h : kitB "str" n = some b) (q : Q (.bl b) H) : rIsi K [.str z, .ty n] H Q := ⟨_, _, .type "str", .type n, b, rfl, .ty _, .base (.str _), kit_ty h, q⟩
theorem isi_tup {K : Frag} {a : Addr} {xs : List V} {n : String} {b : Bool} {H : Hp} {Q : VK} (e : H a = some (.tup xs)) (h : kitB "tuple" n = some b) (q : Q (.bl b) H) : rIsi K [.ref a, .ty n] H Q := ⟨_, _, .type "tuple", .type n, b, rfl, .ty _, .base (.tup e), kit_ty h, q⟩
theorem isi_lst {K : Frag} {a : Addr} {xs : List V} {n : String} {b : Bool} {H : Hp} {Q : VK} (e : H a = some (.lst xs)) (h : kitB "list" n = some b) (q : Q (.bl b) H) : rIsi K [.ref a, .ty n] H Q := ⟨_, _, .type "list", .type n, b, rfl, .ty _, .base (.lst e), kit_ty h, q⟩
theorem isi_non {K : Frag} {n : String} {b : Bool} {H : Hp} {Q : VK} (h : kitB "NoneType" n = some b) (q : Q (.bl b) H) : rIsi K [.non, .ty n] H Q := ⟨_, _, .type "NoneType", .type n, b, rfl, .ty _, .base .non, kit_ty h, q⟩
/-! ### [i] >= [j] -/
section listge
open PySem PySem.SeqAt PySem.MeetsSeq PySem.MeetsSeq2 PySem.MeetsSeq3
open PySem.AutoSeq1 (wpAny_loadPart')
/-- a list stands there -/
def Lat (s : Shared) (a : Addr) (xs : Array Value) (n : Nat) (dd : Option Addr) (sl : Array (Option Value)) : Prop := s.heap.get? a = some { cls := .type "list", dict := dd, data := .seq xs n, slots := sl }
theorem ge_two (a b : Addr) (xs ys : Array Value) (n m : Nat) (d1 d2 : Option Addr) (s1 s2 : Array (Option Value)) (hx : xs.size = 1) (hy : ys.size = 1) :
    Meets (Builtin.«list.__eq__.loop» ⟨[.ref a, .ref b, rawInt 1, rawInt 5], []⟩) (fun _ R s => Lat s a xs n d1 s1 ∧ Lat s b ys m d2 s2 ∧ R (.ok (.ret (.bool true))) s) := by
  rintro prog w A R ⟨hh, gg, dp, tk, oo⟩ ⟨ha, hb, k⟩
  unfold Lat at ha hb
  have e1 : xs[(1 : Int).toNat]? = none := by simp [hx]
  have e2 : ys[(1 : Int).toNat]? = none := by simp [hy]
  wp_walk using wpAny_loadPart' ha, wpAny_loadPart' hb
  rw [e1]
  wp_walk using wpAny_loadPart' ha, wpAny_loadPart' hb
  rw [hx, hy]
  exact k
theorem ge_one (a b : Addr) (xs ys : Array Value) (v u : Value) (n m : Nat) (d1 d2 : Option Addr) (s1 s2 : Array (Option Value)) (e r : Bool) (hx : xs.size = 1) (hy : ys.size = 1) (hv : xs[(0 : Int).toNat]? = some v) (hu : ys[(0 : Int).toNat]? = some u) :
    Meets (Builtin.«list.__eq__.loop» ⟨[.ref a, .ref b, rawInt 0, rawInt 5], []⟩) (fun A R s => Lat s a xs n d1 s1 ∧ Lat s b ys m d2 s2 ∧ EqAt A.in1 s v u e ∧ (e = false → Ob.RcOp .GtE A.in1 s v u r) ∧ R (.ok (.ret (.bool (e || r)))) s) := by
  rintro prog w A R ⟨hh, gg, dp, tk, oo⟩ ⟨ha, hb, he, hr, k⟩
  unfold Lat at ha hb
  wp_walk using wpAny_loadPart' ha, wpAny_loadPart' hb
  rw [hv, hu]
  refine wpAny_bind (he prog w _ _ ?_)
  cases e with
  | true =>
    wp_walk
    exact ⟨plainId_quiet plain_eq_loop _, codeAny_builtin entry_eq_loop (by
      rw [Around.under_plainId plain_eq_loop _]
      exact ge_two a b xs ys n m d1 d2 s1 s2 hx hy prog w A R _ ⟨ha, hb, k⟩)⟩
  | false =>
    wp_walk using wpAny_loadPart' ha, wpAny_loadPart' hb
    rw [hv, hu]
    refine wpAny_bind (hr rfl prog w _ _ ?_)
    wp_walk
    exact k
theorem ge_call (a b : Addr) (xs ys : Array Value) (v u : Value) (n m : Nat) (d1 d2 : Option Addr) (s1 s2 : Array (Option Value)) (e r : Bool) (hx : xs.size = 1) (hy : ys.size = 1) (hv : xs[(0 : Int).toNat]? = some v) (hu : ys[(0 : Int).toNat]? = some u) :
    Meets (Builtin.«list.__ge__» ⟨[.ref a, .ref b], []⟩) (fun A R s => Lat s a xs n d1 s1 ∧ Lat s b ys m d2 s2 ∧ EqAt A.in1 s v u e ∧ (e = false → Ob.RcOp .GtE A.in1 s v u r) ∧ R (.ok (.ret (.bool (e || r)))) s) := by
  rintro prog w A R ⟨hh, gg, dp, tk, oo⟩ ⟨ha, hb, he, hr, k⟩
  have sub := AutoSeq1.sub_list_list
  have ha' := ha
  have hb' := hb
  unfold Lat at ha' hb'
  wp_walk using wpAny_loadPart' ha', wpAny_loadPart' hb'
  exact ⟨plainId_quiet plain_eq_loop _, codeAny_builtin entry_eq_loop (by
    rw [Around.under_plainId plain_eq_loop _]
    exact ge_one a b xs ys v u n m d1 d2 s1 s2 e r hx hy hv hu prog w A R _ ⟨ha, hb, he, hr, k⟩)⟩
theorem lge_slot : Slot "list" (cmpInfo .GtE).2.1 "list.__ge__" :=
  .of (owner := "list") (n := "__ge__") (by rw [typeLookup_type, builtinLookup_eq_fast]; kernel_rfl) (by decide +kernel) (by decide +kernel) (by decide +kernel)
    (by exact .inl (by decide +kernel)) (by rw [isSubtype_type]; kernel_rfl)
theorem lge_entry : entryFor table "list.__ge__" = some Builtin.«list.__ge__» := entryFor_of_tree (by kernel_rfl)
theorem lge_args (a b : Value) : argsOk "list.__ge__" ⟨[a, b], []⟩ := by
  unfold argsOk
  rw [signature?_of (id := "list.__ge__") (n := ['_', '_', 'e', 'g', '_', '_']) (o := ['t', 's', 'i', 'l']) (by kernel_rfl) F.owner_list]
  kernel_rfl
end listge
section
open PySem PySem.Spec PyProof.Rows L2
variable {X : Cx}
/-- [i] >= [j] -/
def rGeL (K : Frag) : R2 := fun x y H Q => ∃ a b i j, x = .ref a ∧ y = .ref b ∧ SqL K H a [.int i] ∧ SqL K H b [.int j] ∧ Q (.bl (decide (j ≤ i))) H
theorem op_geL (hu : X.A.units < cLine) : OpR X (compareOp .GtE) (rGeL X.K) := by
  intro pins s σ H x y v u Q I rx ry h
  obtain ⟨a, b, i, j, rfl, rfl, ha, hb, q⟩ := h
  cases rx
  cases ry
  obtain ⟨its, r1, p1, z1⟩ := I.list ha
  obtain ⟨its2, r2, p2, z2⟩ := I.list hb
  cases r1 with
  | cons rv r1 =>
    cases r1
    cases r2 with
    | cons ru r2 =>
      cases r2
      obtain ⟨t1, rfl⟩ := rv
      obtain ⟨t2, rfl⟩ := ru
      obtain ⟨⟨c1, d1, q1, w1⟩, n1, g1, k1, m1, j1⟩ := p1
      obtain ⟨⟨c2, d2, q2, w2⟩, n2, g2, k2, m2, j2⟩ := p2
      dsimp only at k1 m1 j1 k2 m2 j2
      subst k1 m1 j1 k2 m2 j2
      have both : (i == j || decide (j ≤ i)) = decide (j ≤ i) := by
        by_cases c : i = j
        · subst c; simp
        · simp [c]
      have meets := ge_call a b #[.int i t1] #[.int j t2] (.int i t1) (.int j t2) n1 n2 none none w1 w2 (i == j) (decide (j ≤ i)) rfl rfl rfl rfl
      rw [both] at meets
      exact richCompare_meets_room (op := .GtE) ⟨_, g1, rfl⟩ ⟨_, g2, rfl⟩ lge_slot lge_entry (lge_args _ _) meets ⟨g1, g2, PySem.SeqAt.EqAt.int_int _ _ _ _, fun _ => Ob.RcOp.ge_int _ _ _ _, ⟨(fun x => nomatch x), ⟨.bl _, H, I, rfl, q⟩⟩⟩ hu
end
/-! ### xs[i] ahead of a store in place -/
section
variable {X : Cx}
def rGetL (K : Frag) : V → V → Hp → VK → Prop := fun o i H Q => ∃ p xs k v, o = .ref p ∧ i = .int k ∧ SqL K H p xs ∧ 0 ≤ k ∧ xs[k.toNat]? = some v ∧ Q v H
theorem get_list : PGet X (rGetL X.K) := by
  intro pins s σ H o i ov iv Q I ro ri h
  obtain ⟨p, xs, k, v, rfl, rfl, hq, k0, e, q⟩ := h
  cases ro
  obtain ⟨t, rfl⟩ := ri
  obtain ⟨its, r, pl, hz⟩ := I.list hq
  obtain ⟨u, eu, ru⟩ := r.get e
  have hl := r.length
  have hn := line63
  have hi := (List.getElem?_eq_some_iff.mp e).1
  exact getItem_listL pl.isList k0 (by omega) eu ⟨v, H, I, ru, q⟩
end
/-! ### in a comprehension's block, in an except suite: what is read is told by the outer K -/
theorem pe_bmK (K : Frag) {X : Cx} {T name id : String} {r : V → List V → Hp → VK → Prop} {o e : Expr} {es : List Expr} {to : TE} {t : TA} {apos cpos : Pos} (pa : PlainAttrs T) (slot : Slot T name id) (hty : typeOf (.builtin id) = pure (.type "method_descriptor")) (hm : MtR X id r) (ho : PE X o to) (ha : PA X (e :: es) t)
    (hbase : attributeBase o name X.env (eval o X.env) = eval o X.env := by rfl)
    (hfew : ((backTo cpos (starEach (e :: es) X.env)).all (fun x => !x.1) && (backToKw cpos (keywordEach [] X.env)).all (fun x => x.1.isSome)
      && decide ((e :: es).length + ([] : List Keyword).length + (if ([] : List Keyword).isEmpty then 0 else 1) < 30)) = true := by rfl)
    (hline : (apos.endLine == cpos.line) = true := by rfl) (hs : starEach (e :: es) X.env = (false, eval e X.env) :: starEach es X.env := by rfl) (hplain : (backTo cpos (starEach es X.env)).any (·.1) = false := by rfl) (h : X.K = K := by rfl) :
    PE X (.Call (.Attribute o name apos) (e :: es) [] cpos) (tBM K T r to t) := by subst h; exact pe_bm pa slot hty hm ho ha hbase hfew hline hs hplain
theorem call_lenK (K : Frag) {X : Cx} (h : X.K = K := by rfl) : CallR X (.builtin "len") (fun xs H Q => ∃ p ys, xs = [.ref p] ∧ (SqL K H p ys ∨ SqT K H p ys) ∧ Q (.int (ys.length : Nat)) H) := by subst h; exact call_len_seq
theorem ixl (K : Frag) {X : Cx} (h : X.K = K := by rfl) : IxR X (rIxL K) := by subst h; exact ix_list
theorem ixt (K : Frag) {X : Cx} (h : X.K = K := by rfl) : IxR X (rIxT K) := by subst h; exact ix_tup
theorem cdiv_1 {i : Int} : CDivW i 1 = True := eq_true ⟨by decide, by decide⟩
theorem cdiv_2 {i : Int} : CDivW i 2 = True := eq_true ⟨by decide, by decide⟩
theorem cdiv_3 {i : Int} : CDivW i 3 = True := eq_true ⟨by decide, by decide⟩
theorem cdiv_4 {i : Int} : CDivW i 4 = True := eq_true ⟨by decide, by decide⟩
theorem cdiv_5 {i : Int} : CDivW i 5 = True := eq_true ⟨by decide, by decide⟩
theorem cdiv_6 {i : Int} : CDivW i 6 = True := eq_true ⟨by decide, by decide⟩
theorem cdiv_7 {i : Int} : CDivW i 7 = True := eq_true ⟨by decide, by decide⟩
theorem cdiv_8 {i : Int} : CDivW i 8 = True := eq_true ⟨by decide, by decide⟩
theorem cdiv_9 {i : Int} : CDivW i 9 = True := eq_true ⟨by decide, by decide⟩
theorem cdiv_10 {i : Int} : CDivW i 10 = True := eq_true ⟨by decide, by decide⟩
theorem cdiv_11 {i : Int} : CDivW i 11 = True := eq_true ⟨by decide, by decide⟩
theorem cdiv_12 {i : Int} : CDivW i 12 = True := eq_true ⟨by decide, by decide⟩
theorem cdiv_13 {i : Int} : CDivW i 13 = True := eq_true ⟨by decide, by decide⟩
theorem cdiv_14 {i : Int} : CDivW i 14 = True := eq_true ⟨by decide, by decide⟩
theorem cdiv_16 {i : Int} : CDivW i 16 = True := eq_true ⟨by decide, by decide⟩
theorem cdiv_20 {i : Int} : CDivW i 20 = True := eq_true ⟨by decide, by decide⟩
theorem cdiv_30 {i : Int} : CDivW i 30 = True := eq_true ⟨by decide, by decide⟩
theorem cdiv_50 {i : Int} : CDivW i 50 = True := eq_true ⟨by decide, by decide⟩
theorem cdiv_60 {i : Int} : CDivW i 60 = True := eq_true ⟨by decide, by decide⟩
theorem cdiv_64 {i : Int} : CDivW i 64 = True := eq_true ⟨by decide, by decide⟩
theorem cdiv_100 {i : Int} : CDivW i 100 = True := eq_true ⟨by decide, by decide⟩
theorem cdiv_400 {i : Int} : CDivW i 400 = True := eq_true ⟨by decide, by decide⟩
theorem cdiv_1000 {i : Int} : CDivW i 1000 = True := eq_true ⟨by decide, by decide⟩
theorem cdiv_2000 {i : Int} : CDivW i 2000 = True := eq_true ⟨by decide, by decide⟩
theorem cdiv_10000 {i : Int} : CDivW i 10000 = True := eq_true ⟨by decide, by decide⟩
theorem cdiv_1000000 {i : Int} : CDivW i 1000000 = True := eq_true ⟨by decide, by decide⟩
theorem sz_0 : (0 ≤ sizeLine) = True := eq_true (by decide)
theorem szl_0 : (0 < sizeLine) = True := eq_true (by decide)
theorem sz_1 : (1 ≤ sizeLine) = True := eq_true (by decide)
theorem szl_1 : (1 < sizeLine) = True := eq_true (by decide)
theorem sz_2 : (2 ≤ sizeLine) = True := eq_true (by decide)
theorem szl_2 : (2 < sizeLine) = True := eq_true (by decide)
theorem sz_3 : (3 ≤ sizeLine) = True := eq_true (by decide)
theorem szl_3 : (3 < sizeLine) = True := eq_true (by decide)
theorem sz_4 : (4 ≤ sizeLine) = True := eq_true (by decide)
theorem szl_4 : (4 < sizeLine) = True := eq_true (by decide)
theorem sz_5 : (5 ≤ sizeLine) = True := eq_true (by decide)
theorem szl_5 : (5 < sizeLine) = True := eq_true (by decide)
theorem sz_6 : (6 ≤ sizeLine) = True := eq_true (by decide)
theorem szl_6 : (6 < sizeLine) = True := eq_true (by decide)
theorem sz_7 : (7 ≤ sizeLine) = True := eq_true (by decide)
theorem szl_7 : (7 < sizeLine) = True := eq_true (by decide)
theorem sz_8 : (8 ≤ sizeLine) = True := eq_true (by decide)
theorem szl_8 : (8 < sizeLine) = True := eq_true (by decide)
theorem sz_9 : (9 ≤ sizeLine) = True := eq_true (by decide)
theorem szl_9 : (9 < sizeLine) = True := eq_true (by decide)
theorem sz_10 : (10 ≤ sizeLine) = True := eq_true (by decide)
theorem szl_10 : (10 < sizeLine) = True := eq_true (by decide)
theorem sz_11 : (11 ≤ sizeLine) = True := eq_true (by decide)
theorem szl_11 : (11 < sizeLine) = True := eq_true (by decide)
theorem sz_12 : (12 ≤ sizeLine) = True := eq_true (by decide)
theorem szl_12 : (12 < sizeLine) = True := eq_true (by decide)
theorem sz_13 : (13 ≤ sizeLine) = True := eq_true (by decide)
theorem szl_13 : (13 < sizeLine) = True := eq_true (by decide)
theorem sz_14 : (14 ≤ sizeLine) = True := eq_true (by decide)
theorem szl_14 : (14 < sizeLine) = True := eq_true (by decide)
theorem sz_15 : (15 ≤ sizeLine) = True := eq_true (by decide)
theorem szl_15 : (15 < sizeLine) = True := eq_true (by decide)
theorem sz_16 : (16 ≤ sizeLine) = True := eq_true (by decide)
theorem szl_16 : (16 < sizeLine) = True := eq_true (by decide)
theorem sz_17 : (17 ≤ sizeLine) = True := eq_true (by decide)
theorem szl_17 : (17 < sizeLine) = True := eq_true (by decide)
theorem sz_18 : (18 ≤ sizeLine) = True := eq_true (by decide)
theorem szl_18 : (18 < sizeLine) = True := eq_true (by decide)
theorem sz_19 : (19 ≤ sizeLine) = True := eq_true (by decide)
theorem szl_19 : (19 < sizeLine) = True := eq_true (by decide)
theorem sz_20 : (20 ≤ sizeLine) = True := eq_true (by decide)
theorem szl_20 : (20 < sizeLine) = True := eq_true (by decide)
theorem sz_21 : (21 ≤ sizeLine) = True := eq_true (by decide)
theorem szl_21 : (21 < sizeLine) = True := eq_true (by decide)
theorem sz_22 : (22 ≤ sizeLine) = True := eq_true (by decide)
theorem szl_22 : (22 < sizeLine) = True := eq_true (by decide)
theorem sz_23 : (23 ≤ sizeLine) = True := eq_true (by decide)
theorem szl_23 : (23 < sizeLine) = True := eq_true (by decide)
theorem sz_24 : (24 ≤ sizeLine) = True := eq_true (by decide)
theorem szl_24 : (24 < sizeLine) = True := eq_true (by decide)
theorem sz_25 : (25 ≤ sizeLine) = True := eq_true (by decide)
theorem szl_25 : (25 < sizeLine) = True := eq_true (by decide)
theorem sz_26 : (26 ≤ sizeLine) = True := eq_true (by decide)
theorem szl_26 : (26 < sizeLine) = True := eq_true (by decide)
theorem cdivw {i j : Int} (h0 : 0 < j) (h1 : j < 18446744073709551616) : CDivW i j := by
  refine ⟨h0, ?_⟩
  have z : j.natAbs < 2 ^ 64 := by omega
  have := PySem.Flt.log2_lt_of (by decide : 0 < 64) z
  omega
/-! ### small words -/
theorem ne_fresh {H : Hp} {p q : Addr} {o : HO} (h : upd H p o q = none) : q ≠ p := by
  intro e
  subst e
  rw [upd_same] at h
  cases h
theorem fresh_was {H : Hp} {p q : Addr} {o : HO} (h : upd H p o q = none) : H q = none := by
  have e := ne_fresh h
  rw [upd_ne e] at h
  exact h
theorem same_upd {H : Hp} {p : Addr} {o : HO} (h : H p = none) : Same H (upd H p o) := fun b u e => by
  rw [upd_ne (ne_of_none e h)]
  exact e
/-- behind a store to what was not there at first -/
theorem same_mut {H H' : Hp} {p : Addr} {o : HO} (h : H p = none) (k : Same H H') : Same H (upd H' p o) := fun b u e => by
  rw [upd_ne (ne_of_none e h)]
  exact k b u e
theorem same_fresh {H H' : Hp} {p : Addr} (k : Same H H') (h : H' p = none) : H p = none := k.free h
theorem same_tup {K : Frag} {H H' : Hp} {a : Addr} {xs : List V} (e : Same H H') (h : SqT K H a xs) : SqT K H' a xs := by
  rcases h with (h | ⟨o, h⟩) | h
  · exact .inl (.inl (e _ _ h))
  · exact .inl (.inr ⟨o, e _ _ h⟩)
  · exact .inr h
/-- a tuple stays where a list is written -/
theorem tup_keep {H : Hp} {r a : Addr} {xs ys zs : List V} (hr : H r = some (.tup ys)) (ha : H a = some (.lst xs)) : (upd H a (.lst zs)) r = some (.tup ys) := by
  rw [upd_ne (ne_of hr ha (by intro z; cases z))]
  exact hr
theorem bits64 {k : Int} (h1 : -(2 ^ 64) < k) (h2 : k < 2 ^ 64) : Builtin.Int.intBits k ≤ 64 := intBits_le_64 h1 h2
theorem bitsPow {k : Int} {n : Nat} (h0 : 0 < n) (h1 : -(2 ^ n) < k) (h2 : k < 2 ^ n) : Builtin.Int.intBits k ≤ n := by
  have z : k.natAbs < 2 ^ n := by
    have e : ((2 ^ n : Nat) : Int) = (2 : Int) ^ n := by simp
    omega
  unfold Builtin.Int.intBits
  split
  · omega
  · have := PySem.Flt.log2_lt_of h0 z
    omega
theorem bits_mono {i j : Int} (h : i.natAbs ≤ j.natAbs) : Builtin.Int.intBits i ≤ Builtin.Int.intBits j := by
  unfold Builtin.Int.intBits
  by_cases c : i = 0
  · rw [if_pos (beq_iff_eq.mpr c)]
    exact Nat.zero_le _
  · have hj : ¬ j = 0 := by omega
    rw [if_neg (fun z => hj (beq_iff_eq.mp z)), if_neg (fun z => c (beq_iff_eq.mp z))]
    have hi : i.natAbs ≠ 0 := by omega
    have hj' : j.natAbs ≠ 0 := by omega
    have z : i.natAbs.log2 ≤ j.natAbs.log2 := (Nat.le_log2 hj').mpr (Nat.le_trans (Nat.log2_self_le hi) h)
    omega
theorem mulX {i j : Int} {a b : Nat} (h1 : Builtin.Int.intBits i ≤ a) (h2 : Builtin.Int.intBits j ≤ b) (h : a + b ≤ 134217728 := by decide) : CMulX i j := by
  unfold CMulX
  omega
theorem ix_num {K : Frag} {a : Addr} {ns : List Int} {k : Int} {H : Hp} {Q : VK} (hS : SqL K H a (ns.map V.int)) (h : 0 ≤ k ∧ k < (ns.length : Int)) (q : Q (.int (ns.getD k.toNat 0)) H) : rIxL K (.ref a) (.int k) H Q := by
  refine ⟨a, _, k, _, rfl, rfl, hS, ?_, q⟩
  have e : (ns.map V.int)[k.toNat]? = some (V.int (ns.getD k.toNat 0)) := by
    rw [List.getElem?_map, List.getD_eq_getElem?_getD]
    have z : k.toNat < ns.length := by omega
    rw [List.getElem?_eq_getElem z]
    rfl
  exact at_of (j := k.toNat) (by omega) e
theorem ix_at {K : Frag} {a : Addr} {xs : List V} {k : Int} {v : V} {H : Hp} {Q : VK} (hS : SqL K H a xs) (h : 0 ≤ k) (e : xs[k.toNat]? = some v) (q : Q v H) : rIxL K (.ref a) (.int k) H Q :=
  ⟨a, xs, k, v, rfl, rfl, hS, at_of (j := k.toNat) (by omega) e, q⟩
theorem inV_ints {d : Int} : ∀ hs : List Int, inV (.int d) (hs.map V.int) = decide (d ∈ hs)
  | [] => by simp [inV]
  | x :: r => by
    have ih := inV_ints (d := d) r
    unfold inV at ih ⊢
    rw [List.map_cons, List.any_cons, ih]
    by_cases e : x = d
    · subst e; simp [eqV]
    · have e2 : ¬d = x := fun z => e z.symm
      simp [eqV, e, e2]
theorem flat_int (hs : List Int) : (hs.map V.int).all flatV = true := by
  rw [List.all_map]
  exact List.all_eq_true.mpr fun _ _ => rfl
theorem in_ints {K : Frag} {d : Int} {a : Addr} {hs : List Int} {H : Hp} {Q : VK} (hS : SqL K H a (hs.map V.int)) (q : Q (.bl (decide (d ∈ hs))) H) : rIn K false (.int d) (.ref a) H Q :=
  ⟨a, _, rfl, .inl hS, rfl, flat_int hs, by rw [inV_ints]; exact q⟩
theorem nin_ints {K : Frag} {d : Int} {a : Addr} {hs : List Int} {H : Hp} {Q : VK} (hS : SqL K H a (hs.map V.int)) (q : Q (.bl (!decide (d ∈ hs))) H) : rIn K true (.int d) (.ref a) H Q :=
  ⟨a, _, rfl, .inl hS, rfl, flat_int hs, by rw [inV_ints]; exact q⟩
/-- what is known of a number that a law draws -/
theorem num_in {ns : List Int} (hn : ∀ z ∈ ns, 0 ≤ z ∧ z < 10000000000000) (k : Nat) : 0 ≤ ns.getD k 0 ∧ ns.getD k 0 < 10000000000000 := by
  rw [List.getD_eq_getElem?_getD]
  cases e : ns[k]? with
  | none => exact ⟨by decide, by decide⟩
  | some z => exact hn z (List.mem_of_getElem? e)
theorem ix_sign {z : Str} {k : Int} {H : Hp} {Q : VK} (hz : z.length ≤ sizeLine) (h : 0 ≤ k ∧ k < (z.length : Int)) (q : ∀ c, z.cps.toList[k.toNat]? = some c → Q (.str ⟨#[c]⟩) H) : rIxS (.str z) (.int k) H Q := by
  have hl : k.toNat < z.cps.toList.length := by
    rw [Array.length_toList]
    show k.toNat < z.length
    omega
  have e : z.cps.toList[k.toNat]? = some z.cps.toList[k.toNat] := List.getElem?_eq_getElem hl
  refine ⟨z, k, _, rfl, rfl, hz, ?_, q _ e⟩
  unfold atI
  rw [show ixN z.cps.toList.length k = some k.toNat by unfold ixN; rw [if_pos h.1, if_pos (by omega)]]
  exact e
theorem ix_signc {z : Str} {k : Int} {c : Nat} {H : Hp} {Q : VK} (hz : z.length ≤ sizeLine) (h : 0 ≤ k) (e : z.cps.toList[k.toNat]? = some c) (q : Q (.str ⟨#[c]⟩) H) : rIxS (.str z) (.int k) H Q := by
  have hl : k.toNat < z.cps.toList.length := (List.getElem?_eq_some_iff.mp e).1
  refine ⟨z, k, c, rfl, rfl, hz, ?_, q⟩
  unfold atI
  rw [show ixN z.cps.toList.length k = some k.toNat by unfold ixN; rw [if_pos h, if_pos (by omega)]]
  exact e
theorem len_one (c : Nat) : (⟨#[c]⟩ : Str).length = 1 := rfl
theorem ref_num {ns : List Int} {i : Nat} {x : V} (h : (ns.map V.int)[i]? = some x) : ∃ z, ns[i]? = some z ∧ x = .int z := by
  rw [List.getElem?_map] at h
  cases e : ns[i]? with
  | none => rw [e] at h; cases h
  | some z => rw [e] at h; exact ⟨z, rfl, (Option.some.inj h).symm⟩
/-! ### one statement at a time -/
theorem seq_step {t u : TS} {D : Ends} {σ : L2.St} {H : Hp} (h : ∀ U : Ends → L2.St → Hp → Prop, U = u → t { D with nx := U D } σ H) : tSeq t u D σ H := h u rfl
theorem gseq_step {t u : TS} {D : Ends} {i : Nat} {x : V} {σ : L2.St} {H : Hp} (h : ∀ U : Ends → L2.St → Hp → Prop, U = u → t { D with nx := U D } (σ.set i (some x)) H) : gName i x σ H fun σ2 H2 => tSeq t u D σ2 H2 := h u rfl
/-- .. what stands between the two told -/
theorem seq_cut {t u : TS} {D : Ends} {σ : L2.St} {H : Hp} (M : L2.St → Hp → Prop) (h1 : ∀ U : L2.St → Hp → Prop, (∀ σ' H', M σ' H' → U σ' H') → t { D with nx := U } σ H) (h2 : ∀ σ' H', M σ' H' → u D σ' H') : tSeq t u D σ H := h1 (u D) h2
/-! ### a tuple taken apart -/
theorem gtup2 {K : Frag} {p : Addr} {x y : V} {g1 g2 : TG} {σ : L2.St} {H : Hp} {k : L2.St → Hp → Prop} (h : SqT K H p [x, y]) (q : g1 x σ H fun σ1 H1 => g2 y σ1 H1 k) (mono : ∀ v σ H, (∀ Q Q' : L2.St → Hp → Prop, (∀ a b, Q a b → Q' a b) → g1 v σ H Q → g1 v σ H Q') ∧ (∀ Q Q' : L2.St → Hp → Prop, (∀ a b, Q a b → Q' a b) → g2 v σ H Q → g2 v σ H Q')) : gTup K 2 (gCons g1 (gCons g2 gNil)) (.ref p) σ H k :=
  ⟨p, _, rfl, h, rfl, x, [y], rfl, (mono _ _ _).1 _ _ (fun σ1 H1 q1 => ⟨y, [], rfl, (mono _ _ _).2 _ _ (fun _ _ q2 => ⟨rfl, q2⟩) q1⟩) q⟩
theorem gtupN2 {K : Frag} {p : Addr} {x y : V} {i j : Nat} {σ : L2.St} {H : Hp} {k : L2.St → Hp → Prop} (h : SqT K H p [x, y]) (q : k ((σ.set i (some x)).set j (some y)) H) : gTup K 2 (gCons (gName i) (gCons (gName j) gNil)) (.ref p) σ H k :=
  ⟨p, _, rfl, h, rfl, x, [y], rfl, y, [], rfl, rfl, q⟩
theorem gtupN3 {K : Frag} {p : Addr} {x y z : V} {i j l : Nat} {σ : L2.St} {H : Hp} {k : L2.St → Hp → Prop} (h : SqT K H p [x, y, z]) (q : k (((σ.set i (some x)).set j (some y)).set l (some z)) H) : gTup K 3 (gCons (gName i) (gCons (gName j) (gCons (gName l) gNil))) (.ref p) σ H k :=
  ⟨p, _, rfl, h, rfl, x, [y, z], rfl, y, [z], rfl, z, [], rfl, rfl, q⟩
/-! ### lists of texts, lists of ints compared -/
theorem dp_strs {K : Frag} {H : Hp} : ∀ xs : List Str, DpAll K H (xs.map V.str) (xs.map PyData.str)
  | [] => .nil
  | x :: r => .cons (.str x) (dp_strs r)
theorem dp_ints {K : Frag} {H : Hp} : ∀ xs : List Int, DpAll K H (xs.map V.int) (xs.map PyData.int)
  | [] => .nil
  | x :: r => .cons (.int x) (dp_ints r)
theorem eqv_strs : ∀ xs ys : List Str, PyData.eqvAll (xs.map PyData.str) (ys.map PyData.str) = decide (xs = ys)
  | [], [] => by simp [PyData.eqvAll]
  | [], y :: ys => by simp [PyData.eqvAll]
  | x :: xs, [] => by simp [PyData.eqvAll]
  | x :: xs, y :: ys => by
    have ih := eqv_strs xs ys
    simp only [List.map_cons, PyData.eqvAll, PyData.eqv, ih, List.cons.injEq]
    by_cases e : x = y <;> simp [e]
theorem eqv_ints : ∀ xs ys : List Int, PyData.eqvAll (xs.map PyData.int) (ys.map PyData.int) = decide (xs = ys)
  | [], [] => by simp [PyData.eqvAll]
  | [], y :: ys => by simp [PyData.eqvAll]
  | x :: xs, [] => by simp [PyData.eqvAll]
  | x :: xs, y :: ys => by
    have ih := eqv_ints xs ys
    simp only [List.map_cons, PyData.eqvAll, PyData.eqv, ih, List.cons.injEq]
    by_cases e : x = y <;> simp [e]
theorem lay_strs : ∀ xs : List Str, xs.all PyData.strOk = true → PyData.canLayAll0 (xs.map PyData.str) = true
  | [], _ => rfl
  | x :: r, h => by
    rw [List.all_cons, Bool.and_eq_true] at h
    simp only [List.map_cons, PyData.canLayAll0, PyData.canLay0, h.1, lay_strs r h.2, Bool.and_self]
theorem lay_ints : ∀ xs : List Int, PyData.canLayAll0 (xs.map PyData.int) = true
  | [] => rfl
  | x :: r => by simp only [List.map_cons, PyData.canLayAll0, PyData.canLay0, lay_ints r, Bool.and_self]
theorem flat_strs : ∀ xs : List Str, PyData.depthAll (xs.map PyData.str) = 0
  | [] => rfl
  | x :: r => by simp only [List.map_cons, PyData.depthAll, PyData.depth, flat_strs r, Nat.max_self]
theorem flat_ints : ∀ xs : List Int, PyData.depthAll (xs.map PyData.int) = 0
  | [] => rfl
  | x :: r => by simp only [List.map_cons, PyData.depthAll, PyData.depth, flat_ints r, Nat.max_self]
theorem shaped_strs {xs : List Str} (h : xs.all PyData.strOk = true) : SeqAt.shaped (.list (xs.map PyData.str)) = true := by
  unfold SeqAt.shaped
  simp only [PyData.canLay0, lay_strs xs h, PyData.depth, flat_strs, Bool.true_and]
  decide
theorem shaped_ints {xs : List Int} : SeqAt.shaped (.list (xs.map PyData.int)) = true := by
  unfold SeqAt.shaped
  simp only [PyData.canLay0, lay_ints xs, PyData.depth, flat_ints, Bool.true_and]
  decide
theorem ne_strs {K : Frag} {H : Hp} {p q : Addr} {xs ys : List Str} {Q : VK} (hp : SqL K H p (xs.map V.str)) (hq : SqL K H q (ys.map V.str)) (ox : xs.all PyData.strOk = true) (oy : ys.all PyData.strOk = true) (k : Q (.bl (!decide (xs = ys))) H) : rNeD K (.ref p) (.ref q) H Q :=
  ⟨_, _, .lst hp (dp_strs xs), .lst hq (dp_strs ys), shaped_strs ox, shaped_strs oy, by simp only [PyData.eqv, eqv_strs]; exact k⟩
theorem eq_strs {K : Frag} {H : Hp} {p q : Addr} {xs ys : List Str} {Q : VK} (hp : SqL K H p (xs.map V.str)) (hq : SqL K H q (ys.map V.str)) (ox : xs.all PyData.strOk = true) (oy : ys.all PyData.strOk = true) (k : Q (.bl (decide (xs = ys))) H) : rEqD K (.ref p) (.ref q) H Q :=
  ⟨_, _, .lst hp (dp_strs xs), .lst hq (dp_strs ys), shaped_strs ox, shaped_strs oy, by simp only [PyData.eqv, eqv_strs]; exact k⟩
theorem ne_ints {K : Frag} {H : Hp} {p q : Addr} {xs ys : List Int} {Q : VK} (hp : SqL K H p (xs.map V.int)) (hq : SqL K H q (ys.map V.int)) (k : Q (.bl (!decide (xs = ys))) H) : rNeD K (.ref p) (.ref q) H Q :=
  ⟨_, _, .lst hp (dp_ints xs), .lst hq (dp_ints ys), shaped_ints, shaped_ints, by simp only [PyData.eqv, eqv_ints]; exact k⟩
theorem eq_ints {K : Frag} {H : Hp} {p q : Addr} {xs ys : List Int} {Q : VK} (hp : SqL K H p (xs.map V.int)) (hq : SqL K H q (ys.map V.int)) (k : Q (.bl (decide (xs = ys))) H) : rEqD K (.ref p) (.ref q) H Q :=
  ⟨_, _, .lst hp (dp_ints xs), .lst hq (dp_ints ys), shaped_ints, shaped_ints, by simp only [PyData.eqv, eqv_ints]; exact k⟩
/-- kinds as a law compares them -/
theorem ne_kind {K : Frag} {H : Hp} {p q : Addr} {x : Str} {Q : VK} (hp : H p = some (.lst [.str x])) (hq : H q = some (.lst [.str x])) (ox : PyData.strOk x = true) (k : Q (.bl false) H) : rNeD K (.ref p) (.ref q) H Q :=
  ne_strs (xs := [x]) (ys := [x]) (SqL.of hp) (SqL.of hq) (by simp [ox]) (by simp [ox]) (by simpa using k)
theorem shaped_of {d : PyData} (h1 : PyData.canLay0 d = true) (h2 : d.depth ≤ 64) : SeqAt.shaped d = true := by
  unfold SeqAt.shaped
  rw [h1, Bool.true_and]
  exact decide_eq_true h2
/-- two that say the same -/
theorem ne_same {K : Frag} {H : Hp} {x y : V} {d : PyData} {Q : VK} (hx : Dp K H x d) (hy : Dp K H y d) (hs : SeqAt.shaped d = true) (he : PyData.eqv d d = true) (k : Q (.bl false) H) : rNeD K x y H Q :=
  ⟨d, d, hx, hy, hs, hs, by rw [he]; exact k⟩
theorem eq_same {K : Frag} {H : Hp} {x y : V} {d : PyData} {Q : VK} (hx : Dp K H x d) (hy : Dp K H y d) (hs : SeqAt.shaped d = true) (he : PyData.eqv d d = true) (k : Q (.bl true) H) : rEqD K x y H Q :=
  ⟨d, d, hx, hy, hs, hs, by rw [he]; exact k⟩
theorem dp_3 {K : Frag} {H : Hp} {t : Addr} {a b c : Int} (ht : SqT K H t [.int a, .int b, .int c]) : Dp K H (.ref t) (.tuple [.int a, .int b, .int c]) :=
  .tup ht (.cons (.int _) (.cons (.int _) (.cons (.int _) .nil)))
theorem dp_pair {K : Frag} {H : Hp} {t l : Addr} {x y : V} {d e : PyData} (ht : SqT K H t [x, .ref l]) (hx : Dp K H x d) (hl : SqL K H l [y]) (hy : Dp K H y e) : Dp K H (.ref t) (.tuple [d, .list [e]]) :=
  .tup ht (.cons hx (.cons (.lst hl (.cons hy .nil)) .nil))
/-! ### loops -/
theorem tfor_range1 {ta : TA} {g : TG} {tb : TS} {D : Ends} {σ : L2.St} {H : Hp} {n : Int} (ha : ∀ Q : List V → Hp → Prop, Q [.int n] H → ta σ H Q) (hn : -1000000 ≤ n ∧ n ≤ 1000000) (Pv : Nat → L2.St → Hp → Prop) (h0 : Pv 0 σ H)
    (hs : ∀ (i : Nat) σ' H', (i : Int) < n → Pv i σ' H' → g (.int (i : Int)) σ' H' fun σ2 H2 => tb { D with nx := Pv (i + 1), ct := Pv (i + 1), bk := D.nx } σ2 H2) (hd : ∀ σ' H', Pv n.toNat σ' H' → D.nx σ' H') : tFor (iRng1 ta) g tb D σ H :=
  ha _ ⟨n, rfl, by omega, by omega, for_range (lo := 0) (n := n.toNat) Pv h0 (fun i σ' H' hi p => by
    rw [Int.zero_add]
    exact hs i σ' H' (by omega) p) hd⟩
theorem tfor_range2 {ta : TA} {g : TG} {tb : TS} {D : Ends} {σ : L2.St} {H : Hp} {lo hi : Int} (ha : ∀ Q : List V → Hp → Prop, Q [.int lo, .int hi] H → ta σ H Q) (hn : -1000000 ≤ lo ∧ lo ≤ 1000000 ∧ -1000000 ≤ hi ∧ hi ≤ 1000000) (Pv : Nat → L2.St → Hp → Prop) (h0 : Pv 0 σ H)
    (hs : ∀ (i : Nat) σ' H', lo + (i : Int) < hi → Pv i σ' H' → g (.int (lo + (i : Int))) σ' H' fun σ2 H2 => tb { D with nx := Pv (i + 1), ct := Pv (i + 1), bk := D.nx } σ2 H2) (hd : ∀ σ' H', Pv (hi - lo).toNat σ' H' → D.nx σ' H') : tFor (iRng2 ta) g tb D σ H :=
  ha _ ⟨lo, hi, rfl, ⟨by omega, by omega, by omega, by omega⟩, for_range (lo := lo) (n := (hi - lo).toNat) Pv h0 (fun i σ' H' hi p => hs i σ' H' (by omega) p) hd⟩
theorem tfor_lvar {K : Frag} {j : Nat} {a : Addr} {xs : List V} {g : TG} {tb : TS} {D : Ends} {σ : L2.St} {H : Hp} (hj : σ[j]? = some (some (.ref a))) (hS : SqL K H a xs) (Pv : Nat → L2.St → Hp → Prop) (h0 : Pv 0 σ H) (hl : ∀ i σ' H', i ≤ xs.length → Pv i σ' H' → SqL K H' a xs)
    (hs : ∀ i x σ' H', xs[i]? = some x → Pv i σ' H' → g x σ' H' fun σ2 H2 => tb { D with nx := Pv (i + 1), ct := Pv (i + 1), bk := D.nx } σ2 H2) (hd : ∀ σ' H', Pv xs.length σ' H' → D.nx σ' H') : tFor (iList K (tVar j)) g tb D σ H :=
  ⟨_, hj, a, rfl, ⟨xs, hS⟩, for_list (xs := xs) Pv h0 hl hs hd⟩
theorem tfor_five {K : Frag} {j : Nat} {n : Int} {a : Addr} {xs : List V} {g : TG} {tb : TS} {D : Ends} {σ : L2.St} {H : Hp} (hj : σ[j]? = some (some (.ref a))) (hS : SqL K H a xs) (hz : xs.length ≤ 100000)
    (h : ∀ b H1, Same H H1 → H1 b = some (.lst (.int n :: xs)) → H b = none → ∃ Pv : Nat → L2.St → Hp → Prop, Pv 0 σ H1 ∧ (∀ i σ' H', i ≤ (V.int n :: xs).length → Pv i σ' H' → SqL K H' b (.int n :: xs)) ∧
    (∀ i x σ' H', (V.int n :: xs)[i]? = some x → Pv i σ' H' → g x σ' H' fun σ2 H2 => tb { D with nx := Pv (i + 1), ct := Pv (i + 1), bk := D.nx } σ2 H2) ∧ (∀ σ' H', Pv (V.int n :: xs).length σ' H' → D.nx σ' H')) :
    tFor (iList K (tOp (rCatS K) (tLst (tCons (tC (.int n)) tNil)) (tVar j))) g tb D σ H := by
  refine ⟨by show 1 ≤ sizeLine; decide, fun p hp => ⟨_, hj, p, a, [.int n], xs, rfl, rfl, SqL.of upd_same, (same_upd hp).seq hS, ?_, fun b hb => ?_⟩⟩
  · show 1 + xs.length ≤ sizeLine
    exact Nat.le_trans (show 1 + xs.length ≤ 100001 by omega) (by decide)
  · have s2 : Same H (upd (upd H p (.lst [.int n])) b (.lst ([.int n] ++ xs))) := (same_upd hp).trans (same_upd hb)
    obtain ⟨Pv, h0, hl, hs, hd⟩ := h b _ s2 upd_same (fresh_was hb)
    exact ⟨b, rfl, ⟨_, SqL.of upd_same⟩, for_list (xs := V.int n :: xs) Pv h0 hl hs hd⟩
theorem tfor_list {K : Frag} {tl : TE} {g : TG} {tb : TS} {D : Ends} {σ : L2.St} {H : Hp}
    (h : tl σ H fun x H1 => ∃ a xs, x = .ref a ∧ SqL K H1 a xs ∧ ∃ Pv : Nat → L2.St → Hp → Prop, Pv 0 σ H1 ∧ (∀ i σ' H', i ≤ xs.length → Pv i σ' H' → SqL K H' a xs) ∧
      (∀ i x σ' H', xs[i]? = some x → Pv i σ' H' → g x σ' H' fun σ2 H2 => tb { D with nx := Pv (i + 1), ct := Pv (i + 1), bk := D.nx } σ2 H2) ∧ ∀ σ' H', Pv xs.length σ' H' → D.nx σ' H')
    (mono : ∀ Q Q' : VK, (∀ v H', Q v H' → Q' v H') → tl σ H Q → tl σ H Q') : tFor (iList K tl) g tb D σ H :=
  mono _ _ (fun v H' ⟨a, xs, e, hS, Pv, h0, hl, hs, hd⟩ => ⟨a, e, ⟨xs, hS⟩, for_list (xs := xs) Pv h0 hl hs hd⟩) h
theorem tfor_disp {K : Frag} {ta : TA} (vs : List V) {g : TG} {tb : TS} {D : Ends} {σ : L2.St} {H : Hp} (hz : vs.length ≤ 1000) (ha : ∀ Q : List V → Hp → Prop, (∀ H1, Same H H1 → Q vs H1) → ta σ H Q)
    (h : ∀ b H1, Same H H1 → H1 b = some (.lst vs) → H b = none → ∃ Pv : Nat → L2.St → Hp → Prop, Pv 0 σ H1 ∧ (∀ i σ' H', Pv i σ' H' → SqL K H' b vs) ∧
    (∀ i x σ' H', vs[i]? = some x → Pv i σ' H' → g x σ' H' fun σ2 H2 => tb { D with nx := Pv (i + 1), ct := Pv (i + 1), bk := D.nx } σ2 H2) ∧ (∀ σ' H', Pv vs.length σ' H' → D.nx σ' H')) :
    tFor (iList K (tLst ta)) g tb D σ H :=
  ha _ fun H1 s1 => ⟨Nat.le_trans hz (by decide), fun p hp => by
    obtain ⟨Pv, h0, hl, hs, hd⟩ := h p _ (s1.trans (same_upd hp)) upd_same (s1.free hp)
    exact ⟨p, rfl, ⟨_, SqL.of upd_same⟩, for_list (xs := vs) Pv h0 (fun i σ' H' _ => hl i σ' H') hs hd⟩⟩
/-! ### any walk -/
def ForGoal (J : It) (g : TG) (tb : TS) (D : Ends) (σ : L2.St) (H : Hp) : Prop :=
  ∃ W : Nat → Nat → L2.St → Hp → Prop, (∃ m, W 0 m σ H) ∧ ∀ i m σ H, W i m σ H →
      (J.stop i H ∧ D.nx σ H) ∨ (J.go i H ∧ ∃ N : L2.St → Hp → Prop, (∀ σ' H', N σ' H' → ∃ m', m' < m ∧ W (i + 1) m' σ' H') ∧ ∀ x H', J.yld i H x H' → g x σ H' fun σ2 H2 => tb { D with nx := N, ct := N, bk := D.nx } σ2 H2)
theorem tFor_eq {wi : TI} {g : TG} {tb : TS} {D : Ends} {σ : L2.St} {H : Hp} : tFor wi g tb D σ H = wi σ H fun J H1 => ForGoal J g tb D σ H1 := rfl
theorem for_go {J : It} {n : Nat} {G : Hp → Prop} {Y : Nat → Hp → V → Hp → Prop} (w : Walk J n G Y) {g : TG} {tb : TS} {D : Ends} {σ : L2.St} {H : Hp} (Pv : Nat → L2.St → Hp → Prop) (h0 : Pv 0 σ H) (hG : ∀ i σ H, i ≤ n → Pv i σ H → G H)
    (hs : ∀ i x σ H H', i < n → Pv i σ H → Y i H x H' → g x σ H' fun σ2 H2 => tb { D with nx := Pv (i + 1), ct := Pv (i + 1), bk := D.nx } σ2 H2) (hd : ∀ σ H, Pv n σ H → D.nx σ H) : ForGoal J g tb D σ H := for_it w Pv h0 hG hs hd
theorem for_rng {lo : Int} {n : Nat} {g : TG} {tb : TS} {D : Ends} {σ : L2.St} {H : Hp} (Pv : Nat → L2.St → Hp → Prop) (h0 : Pv 0 σ H)
    (hs : ∀ (i : Nat) σ H, i < n → Pv i σ H → g (.int (lo + (i : Int))) σ H fun σ2 H2 => tb { D with nx := Pv (i + 1), ct := Pv (i + 1), bk := D.nx } σ2 H2) (hd : ∀ σ H, Pv n σ H → D.nx σ H) : ForGoal (Itr lo n) g tb D σ H := for_range Pv h0 hs hd
theorem for_rng0 {n : Nat} {g : TG} {tb : TS} {D : Ends} {σ : L2.St} {H : Hp} (Pv : Nat → L2.St → Hp → Prop) (h0 : Pv 0 σ H)
    (hs : ∀ (i : Nat) σ H, i < n → Pv i σ H → g (.int (i : Int)) σ H fun σ2 H2 => tb { D with nx := Pv (i + 1), ct := Pv (i + 1), bk := D.nx } σ2 H2) (hd : ∀ σ H, Pv n σ H → D.nx σ H) : ForGoal (Itr 0 n) g tb D σ H :=
  for_range Pv h0 (fun i σ H hi p => by rw [Int.zero_add]; exact hs i σ H hi p) hd
theorem for_lst {K : Frag} {a : Addr} (xs : List V) {g : TG} {tb : TS} {D : Ends} {σ : L2.St} {H : Hp} (Pv : Nat → L2.St → Hp → Prop) (h0 : Pv 0 σ H) (hl : ∀ i σ H, Pv i σ H → SqL K H a xs)
    (hs : ∀ (i : Nat) x σ H, xs[i]? = some x → Pv i σ H → g x σ H fun σ2 H2 => tb { D with nx := Pv (i + 1), ct := Pv (i + 1), bk := D.nx } σ2 H2) (hd : ∀ σ H, Pv xs.length σ H → D.nx σ H) : ForGoal (Itl K a) g tb D σ H :=
  for_list Pv h0 (fun i σ H _ p => hl i σ H p) hs hd
theorem for_zp {K : Frag} {a b : Addr} (xs ys : List V) (n : Nat) (hn : n = min xs.length ys.length) {g : TG} {tb : TS} {D : Ends} {σ : L2.St} {H : Hp} (Pv : Nat → L2.St → Hp → Prop) (h0 : Pv 0 σ H) (hG : ∀ i σ H, Pv i σ H → SqL K H a xs ∧ SqL K H b ys)
    (hs : ∀ (i : Nat) x y (T : Addr) σ H, i < n → xs[i]? = some x → ys[i]? = some y → Pv i σ H → H T = none → g (.ref T) σ (upd H T (.tup [x, y])) fun σ2 H2 => tb { D with nx := Pv (i + 1), ct := Pv (i + 1), bk := D.nx } σ2 H2) (hd : ∀ σ H, Pv n σ H → D.nx σ H) : ForGoal (Itz K a b) g tb D σ H :=
  for_go (walk_zip hn) Pv h0 (fun i σ H _ p => hG i σ H p) (fun i v σ H H' hi p y => by obtain ⟨T, x, y, rfl, hT, rfl, hx, hy⟩ := y; exact hs i x y T σ H hi hx hy p hT) hd
theorem for_en {K : Frag} {a : Addr} (xs : List V) {g : TG} {tb : TS} {D : Ends} {σ : L2.St} {H : Hp} (Pv : Nat → L2.St → Hp → Prop) (h0 : Pv 0 σ H) (hG : ∀ i σ H, Pv i σ H → SqL K H a xs)
    (hs : ∀ (i : Nat) x (T : Addr) σ H, xs[i]? = some x → Pv i σ H → H T = none → g (.ref T) σ (upd H T (.tup [.int (i : Int), x])) fun σ2 H2 => tb { D with nx := Pv (i + 1), ct := Pv (i + 1), bk := D.nx } σ2 H2) (hd : ∀ σ H, Pv xs.length σ H → D.nx σ H) : ForGoal (Ite K a) g tb D σ H :=
  for_go walk_enum Pv h0 (fun i σ H _ p => hG i σ H p) (fun i v σ H H' hi p y => by obtain ⟨T, x, y, rfl, hT, rfl, hx, hy⟩ := y; cases hx; exact hs i y T σ H hy p hT) hd
/-- the law's own loop, over [n] + script -/
theorem for_cells {K : Frag} {H0 : Hp} {n : Int} {b : Addr} {ns : List Int} {g : TG} {tb : TS} {D : Ends} {σ : L2.St} (hb : H0 b = some (.lst (.int n :: ns.map V.int))) (hn : Builtin.Int.intBits n ≤ 64) (hz : ∀ z ∈ ns, Builtin.Int.intBits z ≤ 1048576) (J : L2.St → Hp → Prop) (h0 : J σ H0) (hl : ∀ σ H, J σ H → Same H0 H)
    (hs : ∀ z σ H, Builtin.Int.intBits z ≤ 1048576 → J σ H → g (.int z) σ H fun σ2 H2 => tb { D with nx := J, ct := J, bk := D.nx } σ2 H2) (hd : ∀ σ H, J σ H → D.nx σ H) : ForGoal (Itl K b) g tb D σ H0 := by
  refine for_lst (.int n :: ns.map V.int) (fun _ => J) h0 (fun _ σ H j => SqL.of (hl σ H j _ _ hb)) (fun i x σ H e j => ?_) hd
  cases i with
  | zero => cases e; exact hs n σ H (Nat.le_trans hn (by decide)) j
  | succ i =>
    obtain ⟨z, e1, rfl⟩ := ref_num (ns := ns) (i := i) e
    exact hs z σ H (hz z (List.mem_of_getElem? e1)) j
theorem tfor_cells {K : Frag} {j : Nat} {n : Int} {a : Addr} {ns : List Int} {g : TG} {tb : TS} {D : Ends} {σ : L2.St} {H0 : Hp} (hj : σ[j]? = some (some (.ref a))) (hS : SqL K H0 a (ns.map V.int)) (hz : ns.length ≤ 63)
    (h : ∀ b H1, Same H0 H1 → H1 b = some (.lst (.int n :: ns.map V.int)) → ForGoal (Itl K b) g tb D σ H1) :
    tFor (iList K (tOp (rCatS K) (tLst (tCons (tC (.int n)) tNil)) (tVar j))) g tb D σ H0 := by
  refine ⟨by show 1 ≤ sizeLine; decide, fun p hp => ⟨_, hj, p, a, [.int n], ns.map V.int, rfl, rfl, SqL.of upd_same, (same_upd hp).seq hS, ?_, fun b hb => ⟨b, rfl, ⟨_, SqL.of upd_same⟩, h b _ ((same_upd hp).trans (same_upd hb)) upd_same⟩⟩⟩
  rw [List.length_map]
  exact Nat.le_trans (show 1 + ns.length ≤ 100 by omega) (by decide)
theorem for_tp {K : Frag} {a : Addr} (xs : List V) {g : TG} {tb : TS} {D : Ends} {σ : L2.St} {H : Hp} (Pv : Nat → L2.St → Hp → Prop) (h0 : Pv 0 σ H) (hl : ∀ i σ H, Pv i σ H → SqT K H a xs)
    (hs : ∀ (i : Nat) x σ H, xs[i]? = some x → Pv i σ H → g x σ H fun σ2 H2 => tb { D with nx := Pv (i + 1), ct := Pv (i + 1), bk := D.nx } σ2 H2) (hd : ∀ σ H, Pv xs.length σ H → D.nx σ H) : ForGoal (Itt K a) g tb D σ H :=
  for_tup Pv h0 (fun i σ H _ p => hl i σ H p) hs hd
theorem while_cps {c : TT} {tb : TS} {D : Ends} {σ : L2.St} {H : Hp} (Pv : L2.St → Hp → Prop) (μ : L2.St → Hp → Nat) (h0 : Pv σ H)
    (hs : ∀ σ' H', Pv σ' H' → ∀ U : Bool → Hp → Prop, (∀ H1, tb { D with nx := fun σ2 H2 => Pv σ2 H2 ∧ μ σ2 H2 < μ σ' H', ct := fun σ2 H2 => Pv σ2 H2 ∧ μ σ2 H2 < μ σ' H', bk := D.nx } σ' H1 → U true H1) → (∀ H1, D.nx σ' H1 → U false H1) → c σ' H' U) : tWhile c tb D σ H := by
  refine ⟨fun m σ H => m = μ σ H ∧ Pv σ H, ⟨_, rfl, h0⟩, ?_⟩
  rintro m σ H ⟨rfl, p⟩
  refine hs σ H p _ (fun H1 h => ?_) (fun H1 h => ?_)
  · show if true = true then _ else _
    rw [if_pos rfl]
    exact ⟨_, fun σ' H' ⟨p', l⟩ => ⟨_, l, rfl, p'⟩, h⟩
  · show if false = true then _ else _
    rw [if_neg (by decide)]
    exact h
def LcGoal (J : It) (g : TG) (tt : TT) (te : TE) (vs : List Nat) (σ : L2.St) (H1 : Hp) (Q : VK) : Prop := ∀ D, H1 D = none → ∃ W : Nat → Nat → Hp → Prop, (∃ m, W 0 m (upd H1 D (.lst []))) ∧ ∀ i m H, W i m H →
  (J.stop i H ∧ Q (.ref D) H) ∨ (J.go i H ∧ ∃ Nx : Hp → Prop, (∀ H', Nx H' → ∃ m', m' < m ∧ W (i + 1) m' H') ∧ ∀ x H', J.yld i H x H' → g x (wipe σ vs) H' fun σ2 H2 => wipe σ2 vs = wipe σ vs ∧ tt σ2 H2 fun b H3 =>
    if b = true then te σ2 H3 fun y H4 => ∃ acc, H4 D = some (.lst acc) ∧ acc.length < sizeLine ∧ Nx (upd H4 D (.lst (acc ++ [y]))) else Nx H3)
theorem tLc_eq {wi : TI} {g : TG} {tt : TT} {te : TE} {vs : List Nat} {σ : L2.St} {H : Hp} {Q : VK} : tLc wi g tt te vs σ H Q = wi σ H fun J H1 => LcGoal J g tt te vs σ H1 Q := rfl
/-- a comprehension without a test; what is told of the i-th item is told in a heap that only grows -/
theorem lc_go {J : It} {n : Nat} {G : Hp → Prop} {Y : Nat → Hp → V → Hp → Prop} (w : Walk J n G Y) {g : TG} {te : TE} {vs : List Nat} {σ : L2.St} {H1 : Hp} {Q : VK} (R : Nat → V → Hp → Prop) (hn : n < sizeLine)
    (hR : ∀ i y H H' D, H1 D = none → (∃ xs, H D = some (.lst xs)) → Same H1 H → R i y H → (∀ b o, b ≠ D → H b = some o → H' b = some o) → R i y H') (hG : ∀ H, Same H1 H → G H)
    (hs : ∀ i x H H' D (U : VK), i < n → H1 D = none → (∃ xs, H D = some (.lst xs)) → Same H1 H → Y i H x H' → (∀ y H4, R i y H4 → Same H H4 → U y H4) → g x (wipe σ vs) H' fun σ2 H2 => wipe σ2 vs = wipe σ vs ∧ te σ2 H2 U)
    (hd : ∀ p ys H, H1 p = none → Same H1 H → ys.length = n → (∀ i y, ys[i]? = some y → R i y H) → H p = some (.lst ys) → Q (.ref p) H) : LcGoal J g tYes te vs σ H1 Q := by
  intro D hD
  refine lc_it w (Pv := fun i H => Same H1 H ∧ ∃ ys : List V, H D = some (.lst ys) ∧ ys.length = i ∧ ∀ (j : Nat) y, ys[j]? = some y → R j y H) ⟨same_upd hD, [], upd_same, rfl, fun j y e => by simp at e⟩ (fun i H hi p => hG H p.1) ?_ ?_
  · rintro i x H H' hi ⟨s1, ys, hy, hl, hr⟩ y
    refine hs i x H H' D _ hi hD ⟨_, hy⟩ s1 y fun y2 H4 r s2 => ?_
    have g0 : ∀ b o, b ≠ D → H b = some o → (upd H4 D (HO.lst (ys ++ [y2]))) b = some o := fun b o hb e => by rw [upd_ne hb]; exact s2 _ _ e
    refine ⟨ys, s2 _ _ hy, by omega, fun b o e => ?_, ys ++ [y2], upd_same, by simp [hl], fun j y3 e => ?_⟩
    · have hb : b ≠ D := ne_of_none e hD
      rw [upd_ne hb]
      exact s2 _ _ (s1 _ _ e)
    · rcases Nat.lt_or_ge j ys.length with hj | hj
      · rw [List.getElem?_append_left hj] at e
        exact hR _ _ H _ D hD ⟨_, hy⟩ s1 (hr _ _ e) g0
      · have hj2 : j = i := by
          have z := (List.getElem?_eq_some_iff.mp e).1
          simp at z
          omega
        subst hj2
        rw [List.getElem?_append_right hj, hl, Nat.sub_self] at e
        cases e
        exact hR _ _ H4 _ D hD ⟨_, s2 _ _ hy⟩ (s1.trans s2) r fun b o hb e => by rw [upd_ne hb]; exact e
  · rintro H ⟨s1, ys, hy, hl, hr⟩
    exact hd D ys H hD s1 hl hr hy
/-- .. where the items are known beforehand -/
theorem lc_pure {J : It} {n : Nat} {G : Hp → Prop} {Y : Nat → Hp → V → Hp → Prop} (w : Walk J n G Y) {g : TG} {te : TE} {vs : List Nat} {σ : L2.St} {H1 : Hp} {Q : VK} (ys : List V) (hl : ys.length = n) (hn : n < sizeLine) (hG : ∀ H, Same H1 H → G H)
    (hs : ∀ (i : Nat) x y H H' (U : VK), ys[i]? = some y → Same H1 H → Y i H x H' → (∀ H4, Same H H4 → U y H4) → g x (wipe σ vs) H' fun σ2 H2 => wipe σ2 vs = wipe σ vs ∧ te σ2 H2 U)
    (hd : ∀ p H, H1 p = none → Same H1 H → H p = some (.lst ys) → Q (.ref p) H) : LcGoal J g tYes te vs σ H1 Q := by
  refine lc_go w (fun i y _ => ys[i]? = some y) hn (fun _ _ _ _ _ _ _ _ r _ => r) hG (fun i x H H' D U hi _ _ s1 y hu => ?_) fun p zs H hp s1 hz hr e => ?_
  · have e : ys[i]? = some ys[i] := List.getElem?_eq_getElem (by omega)
    exact hs i x _ H H' U e s1 y fun H4 s2 => hu _ _ e s2
  · have z : zs = ys := by
      refine List.ext_getElem? fun i => ?_
      rcases Nat.lt_or_ge i zs.length with h | h
      · rw [hr i _ (List.getElem?_eq_getElem h), List.getElem?_eq_getElem h]
      · rw [List.getElem?_eq_none h, List.getElem?_eq_none (by omega)]
    subst z
    exact hd p H hp s1 e
/-- .. with a test, over a list whose items stand for those of ts -/
theorem lc_filter {K : Frag} {α : Type} {a : Addr} {xs : List V} (ts : List α) (hl : xs.length = ts.length) (f : α → Bool) (v : α → V) {g : TG} {tt : TT} {te : TE} {vs : List Nat} {σ : L2.St} {H1 : Hp} {Q : VK} (hn : xs.length < sizeLine) (hS : SqL K H1 a xs)
    (hs : ∀ (i : Nat) x t H (U : VK) (N : Hp → Prop), xs[i]? = some x → ts[i]? = some t → Same H1 H → (f t = true → ∀ H4, Same H H4 → U (v t) H4) → (f t = false → ∀ H4, Same H H4 → N H4) → g x (wipe σ vs) H fun σ2 H2 => wipe σ2 vs = wipe σ vs ∧ tt σ2 H2 fun b H3 => if b = true then te σ2 H3 U else N H3)
    (hd : ∀ p H, H1 p = none → Same H1 H → H p = some (.lst ((ts.filter f).map v)) → Q (.ref p) H) : LcGoal (Itl K a) g tt te vs σ H1 Q := by
  intro D hD
  refine lc_list (xs := xs) (fun i H => Same H1 H ∧ H D = some (.lst (((ts.take i).filter f).map v))) ⟨same_upd hD, by simp [upd_same]⟩ (fun i H _ p => p.1.seq hS) ?_ ?_
  · rintro i x H hx ⟨s1, e⟩
    have hi := (List.getElem?_eq_some_iff.mp hx).1
    obtain ⟨t, ht⟩ : ∃ t, ts[i]? = some t := ⟨_, List.getElem?_eq_getElem (by omega)⟩
    have tk : ts.take (i + 1) = ts.take i ++ [t] := by rw [List.take_add_one, ht]; rfl
    refine hs i x t H _ _ hx ht s1 (fun ft H4 s2 => ⟨_, s2 _ _ e, ?_, fun b o e2 => ?_, ?_⟩) fun ft H4 s2 => ⟨s1.trans s2, ?_⟩
    · refine Nat.lt_of_le_of_lt ?_ hn
      rw [List.length_map]
      exact Nat.le_trans (List.length_filter_le _ _) (by simp; omega)
    · rw [upd_ne (ne_of_none e2 hD)]
      exact s2 _ _ (s1 _ _ e2)
    · rw [upd_same, tk, List.filter_append, List.map_append]
      simp [ft]
    · rw [s2 _ _ e, tk, List.filter_append, List.map_append]
      simp [ft]
  · rintro H ⟨s1, e⟩
    rw [hl, List.take_length] at e
    exact hd D H hD s1 e
theorem ix_last {K : Frag} {a : Addr} {xs : List V} {v : V} {H : Hp} {Q : VK} (hS : SqL K H a xs) (e : xs.getLast? = some v) (q : Q v H) : rIxL K (.ref a) (.int (-1)) H Q := by
  have hn : xs ≠ [] := by intro z; rw [z] at e; cases e
  have hl : xs.length ≠ 0 := fun z => hn (List.length_eq_zero_iff.mp z)
  refine ⟨a, xs, -1, v, rfl, rfl, hS, ?_, q⟩
  unfold atI ixN
  rw [if_neg (by decide), if_pos (by omega), show ((-1 : Int) + (xs.length : Int)).toNat = xs.length - 1 by omega]
  rw [List.getLast?_eq_getElem?] at e
  exact e
theorem ints_of {P : Int → Prop} : ∀ {ys : List V}, (∀ (i : Nat) y, ys[i]? = some y → ∃ v, y = .int v ∧ P v) → ∃ ns : List Int, ys = ns.map V.int ∧ ∀ v ∈ ns, P v
  | [], _ => ⟨[], rfl, fun _ h => by simp at h⟩
  | y :: r, h => by
    obtain ⟨v, rfl, hv⟩ := h 0 y rfl
    obtain ⟨ns, rfl, hn⟩ := ints_of (ys := r) fun i y e => h (i + 1) y e
    exact ⟨v :: ns, rfl, fun w hw => by rcases List.mem_cons.mp hw with rfl | hw; exact hv; exact hn w hw⟩
/-- a comprehension whose items are ints of which P holds -/
theorem lc_ints {J : It} {n : Nat} {G : Hp → Prop} {Y : Nat → Hp → V → Hp → Prop} (w : Walk J n G Y) (P : Int → Prop) {g : TG} {te : TE} {vs : List Nat} {σ : L2.St} {H1 : Hp} {Q : VK} (hn : n < sizeLine) (hG : ∀ H, Same H1 H → G H)
    (hs : ∀ i x H H' (U : VK), i < n → Same H1 H → Y i H x H' → (∀ v H4, P v → Same H H4 → U (.int v) H4) → g x (wipe σ vs) H' fun σ2 H2 => wipe σ2 vs = wipe σ vs ∧ te σ2 H2 U)
    (hd : ∀ p (ns : List Int) H, H1 p = none → Same H1 H → ns.length = n → (∀ v ∈ ns, P v) → H p = some (.lst (ns.map V.int)) → Q (.ref p) H) : LcGoal J g tYes te vs σ H1 Q := by
  refine lc_go w (fun _ y _ => ∃ v, y = .int v ∧ P v) hn (fun _ _ _ _ _ _ _ _ r _ => r) hG (fun i x H H' D U hi _ _ s1 y hu => hs i x H H' U hi s1 y fun v H4 p s2 => hu _ _ ⟨v, rfl, p⟩ s2) fun p ys H hp s1 hl hr e => ?_
  obtain ⟨ns, rfl, hp2⟩ := ints_of hr
  exact hd p ns H hp s1 (by simpa using hl) hp2 e
/-! ### slices -/
theorem cut_from {xs : List V} {k : Int} (hk : 0 ≤ k) : cutV xs (some k) none = xs.drop k.toNat := by
  obtain ⟨j, rfl⟩ := Int.eq_ofNat_of_zero_le hk
  unfold cutV
  rw [HT.sIx_nat, HT.sIx_none, Int.toNat_natCast]
  rcases Nat.le_total j xs.length with h | h
  · rw [Nat.min_eq_left h, List.take_of_length_le (by simp)]
  · rw [Nat.min_eq_right h, List.drop_of_length_le h, List.drop_length, List.take_nil]
theorem cut_to {xs : List V} {k : Int} (hk : 0 ≤ k) : cutV xs none (some k) = xs.take k.toNat := by
  obtain ⟨j, rfl⟩ := Int.eq_ofNat_of_zero_le hk
  unfold cutV
  rw [HT.sIx_nat, HT.sIx_none, Int.toNat_natCast, List.drop_zero, Nat.sub_zero]
  rcases Nat.le_total j xs.length with h | h
  · rw [Nat.min_eq_left h]
  · rw [Nat.min_eq_right h, List.take_of_length_le h, List.take_length]
/-! ### lists whose items tell something -/
inductive All2 {α : Type} (R : V → α → Prop) : List V → List α → Prop
  | nil : All2 R [] []
  | cons {x t xs ts} : R x t → All2 R xs ts → All2 R (x :: xs) (t :: ts)
namespace All2
variable {α : Type} {R S : V → α → Prop}
theorem len {xs : List V} {ts : List α} (h : All2 R xs ts) : xs.length = ts.length := by
  induction h with
  | nil => rfl
  | cons _ _ ih => rw [List.length_cons, List.length_cons, ih]
theorem mono {xs : List V} {ts : List α} (h : All2 R xs ts) (k : ∀ x t, R x t → S x t) : All2 S xs ts := by
  induction h with
  | nil => exact .nil
  | cons r _ ih => exact .cons (k _ _ r) ih
theorem get {xs : List V} {ts : List α} (h : All2 R xs ts) : ∀ {i : Nat} {x : V}, xs[i]? = some x → ∃ t, ts[i]? = some t ∧ R x t := by
  induction h with
  | nil => intro i x e; simp at e
  | cons r _ ih =>
    intro i x e
    cases i with
    | zero => cases e; exact ⟨_, rfl, r⟩
    | succ j => exact ih e
theorem of {xs : List V} : ∀ {ts : List α}, xs.length = ts.length → (∀ (i : Nat) x t, xs[i]? = some x → ts[i]? = some t → R x t) → All2 R xs ts := by
  induction xs with
  | nil => intro ts hl _; cases ts with
    | nil => exact .nil
    | cons _ _ => cases hl
  | cons x xs ih => intro ts hl h; cases ts with
    | nil => cases hl
    | cons t ts => exact .cons (h 0 x t rfl rfl) (ih (by simpa using hl) fun i x t e1 e2 => h (i + 1) x t e1 e2)
theorem snoc {xs : List V} {ts : List α} {x : V} {t : α} (h : All2 R xs ts) (r : R x t) : All2 R (xs ++ [x]) (ts ++ [t]) := by
  induction h with
  | nil => exact .cons r .nil
  | cons r2 _ ih => exact .cons r2 ih
theorem append {xs ys : List V} {ts us : List α} (h : All2 R xs ts) (h2 : All2 R ys us) : All2 R (xs ++ ys) (ts ++ us) := by
  induction h with
  | nil => exact h2
  | cons r _ ih => exact .cons r ih
theorem drop {xs : List V} {ts : List α} (h : All2 R xs ts) : ∀ k, All2 R (xs.drop k) (ts.drop k) := by
  induction h with
  | nil => intro k; rw [List.drop_nil, List.drop_nil]; exact .nil
  | cons r h ih => intro k; cases k with
    | zero => exact .cons r h
    | succ k => exact ih k
theorem take {xs : List V} {ts : List α} (h : All2 R xs ts) : ∀ k, All2 R (xs.take k) (ts.take k) := by
  induction h with
  | nil => intro k; rw [List.take_nil, List.take_nil]; exact .nil
  | cons r h ih => intro k; cases k with
    | zero => exact .nil
    | succ k => exact .cons r (ih k)
end All2
/-- a pair of ints -/
def Pr (K : Frag) (H : Hp) : V → Int × Int → Prop := fun x t => ∃ r, x = .ref r ∧ SqT K H r [.int t.1, .int t.2]
theorem Pr.same {K : Frag} {H H' : Hp} {x : V} {t : Int × Int} (s : Same H H') (h : Pr K H x t) : Pr K H' x t := by
  obtain ⟨r, e, q⟩ := h
  exact ⟨r, e, same_tup s q⟩
/-- a list of pairs of ints -/
def Prs (K : Frag) (H : Hp) (a : Addr) (ts : List (Int × Int)) : Prop := ∃ xs, SqL K H a xs ∧ All2 (Pr K H) xs ts
theorem Prs.same {K : Frag} {H H' : Hp} {a : Addr} {ts : List (Int × Int)} (s : Same H H') (h : Prs K H a ts) : Prs K H' a ts := by
  obtain ⟨xs, q, h⟩ := h
  exact ⟨xs, s.seq q, h.mono fun _ _ => Pr.same s⟩
/-- .. compared -/
def pdP (t : Int × Int) : PyData := .tuple [.int t.1, .int t.2]
theorem dp_prs {K : Frag} {H : Hp} {xs : List V} {ts : List (Int × Int)} (h : All2 (Pr K H) xs ts) : DpAll K H xs (ts.map pdP) := by
  induction h with
  | nil => exact .nil
  | cons r _ ih =>
    obtain ⟨r, rfl, hr⟩ := r
    exact .cons (.tup hr (.cons (.int _) (.cons (.int _) .nil))) ih
theorem Prs.dp {K : Frag} {H : Hp} {a : Addr} {ts : List (Int × Int)} (h : Prs K H a ts) : Dp K H (.ref a) (.list (ts.map pdP)) := by
  obtain ⟨xs, hS, hA⟩ := h
  exact .lst hS (dp_prs hA)
theorem lay_prs : ∀ ts : List (Int × Int), PyData.canLayAll0 (ts.map pdP) = true
  | [] => rfl
  | t :: r => by simp only [List.map_cons, PyData.canLayAll0, lay_prs r, pdP, PyData.canLay0, Bool.and_true]
theorem depth_prs : ∀ ts : List (Int × Int), PyData.depthAll (ts.map pdP) ≤ 1
  | [] => by simp [PyData.depthAll]
  | t :: r => by
    have := depth_prs r
    simp only [List.map_cons, PyData.depthAll, pdP, PyData.depth]
    omega
theorem shaped_prs {ts : List (Int × Int)} : SeqAt.shaped (.list (ts.map pdP)) = true :=
  shaped_of (by simp only [PyData.canLay0]; exact lay_prs ts) (by have := depth_prs ts; simp only [PyData.depth]; omega)
theorem eqv_prs : ∀ ts us : List (Int × Int), PyData.eqvAll (ts.map pdP) (us.map pdP) = decide (ts = us)
  | [], [] => by simp [PyData.eqvAll]
  | [], y :: ys => by simp [PyData.eqvAll]
  | x :: xs, [] => by simp [PyData.eqvAll]
  | x :: xs, y :: ys => by
    have ih := eqv_prs xs ys
    simp only [List.map_cons, PyData.eqvAll, ih, List.cons.injEq, pdP, PyData.eqv, Bool.and_true]
    by_cases e : x = y
    · subst e; simp
    · have : ¬(x.1 = y.1 ∧ x.2 = y.2) := fun z => e (Prod.ext z.1 z.2)
      by_cases e1 : x.1 = y.1 <;> by_cases e2 : x.2 = y.2 <;> simp_all
theorem ne_prs {K : Frag} {H : Hp} {p q : Addr} {ts us : List (Int × Int)} {Q : VK} (hp : Prs K H p ts) (hq : Prs K H q us) (k : Q (.bl (!decide (ts = us))) H) : rNeD K (.ref p) (.ref q) H Q :=
  ⟨_, _, hp.dp, hq.dp, shaped_prs, shaped_prs, by simp only [PyData.eqv, eqv_prs]; exact k⟩
theorem eq_prs {K : Frag} {H : Hp} {p q : Addr} {ts us : List (Int × Int)} {Q : VK} (hp : Prs K H p ts) (hq : Prs K H q us) (k : Q (.bl (decide (ts = us))) H) : rEqD K (.ref p) (.ref q) H Q :=
  ⟨_, _, hp.dp, hq.dp, shaped_prs, shaped_prs, by simp only [PyData.eqv, eqv_prs]; exact k⟩
/-! ### the law's end -/
def spLaw (K : Frag) : Sp := fun vs H Q _ => ∃ (a : Addr) (ns : List Int), vs = [.ref a] ∧ SqL K H a (ns.map V.int) ∧ ns.length ≤ 63 ∧ (∀ z ∈ ns, Builtin.Int.intBits z ≤ 1048576) ∧ ∀ H', Q (.bl true) H'
theorem walk {l : PySem.W.OpenLaw} {k : Nat} {q : Program} {loose : List Str} {XP : (Str → Option Value) → Heap → Prop} {YP : World → Heap → Prop} {d : DefRec} {K : Params → Frag}
    (hn : l.most = some 63) (hdf : d.params.defaults = []) (hr : Room k callerA) (hY : ∀ (w : World) (h : Heap), YP w h → (K w.params).In h)
    (F : ∀ (w : World) (mg : Str → Option Value) (fa : Addr) (h : Heap), (K w.params).In h → h.Ns mainGlobals mg → mg d.name = some (.ref fa) →
      ∃ fd : FuncData, (∀ (s : Shared) (u : Value), BindsTo s fd ⟨[u], []⟩ [(("script" : Str), u)]) ∧ ∀ base : Heap, (K w.params).In base → base.Ns mainGlobals mg → FnOk l.prog w (K w.params) mg base CX0 k fa fd ["script"] (spLaw (K w.params))) :
    PySem.W.WalkO q loose XP YP l.row.toRowW d [] (fun f vs => PySem.call f vs) :=
  L2.walk_ofB (n := 63) (k := k) (x := "script") (CX := fun _ => CX0) (sp := fun w => spLaw (K w.params)) hn (by decide) hdf hr hY F
    (fun _ _ a ns hl hb _ hS => ⟨a, ns, rfl, hS, hl, hb, fun _ => rfl⟩) fun _ _ _ _ _ z => z
end Kv

set_option Elab.async false
set_option linter.all false
set_option maxRecDepth 100000
set_option maxHeartbeats 4000000
/-! Mi: a program as a function over plain data: values (D), own lists and objects by content, and what ties a reading to it. -/
namespace Mi
open PySem PySem.Spec PyProof.Rows L2
abbrev Frag := PySem.W.Frag
inductive D where
  | non | bl (b : Bool) | int (i : Int) | str (s : Str) | tup (xs : List D) | lst (xs : List D) | ob (j : Nat) | ty (n : String)
/-- what stands in a list or dict of one owner -/
inductive BX where
  | lst (xs : List D) | dct (kvs : List (Key × D)) | fz (kvs : List (Key × D))
inductive FV where
  | dat (d : D) | bx (b : BX)
inductive Ob where
  | ins (c : Str) (fs : List (Str × FV)) | bx (b : BX)
/-- a slot of a def; a value on the way -/
inductive SV where
  | dat (d : D) | own (b : BX) | io (k : Nat) | fl (j : Nat) (f : Str) | exc
inductive EV where
  | dat (d : D) | sl (i : Nat) | io (k : Nat) | fl (j : Nat) (f : Str) | exc | tp (b : BX)
structure St where
  env : List (Option SV)
  io : List BX
  S : List Ob
inductive R (α : Type) where
  | ok (a : α) (st : St) | err (e : Kv.Er) (st : St) | stuck
abbrev M (α : Type) := St → R α
def R.bind {α β : Type} (r : R α) (f : α → St → R β) : R β := match r with
  | .ok a st => f a st
  | .err e st => .err e st
  | .stuck => .stuck
def M.bind {α β : Type} (m : M α) (f : α → M β) : M β := fun st => (m st).bind f
def M.pure {α : Type} (a : α) : M α := fun st => .ok a st
def M.stuck {α : Type} : M α := fun _ => .stuck
def M.err {α : Type} (e : Kv.Er) : M α := fun st => .err e st
inductive Tag where
  | sl (i : Nat) | io (k : Nat) | ob (j : Nat) | dx (j : Nat) | fd (j : Nat) (f : Str) | tm (k : Nat) | xt
  deriving DecidableEq
/-- places of which there may be more than one with the tag -/
@[simp] def Tag.sh : Tag → Bool
  | .ob _ => true
  | .dx _ => true
  | .xt => true
  | _ => false
structure Wd where
  F : Hp
  ρ : List Addr
  ow : Addr → Option Tag
  xa : Addr × Bool
section
variable {K : Frag}
mutual
inductive Rep (K : Frag) (F : Hp) (ρ : List Addr) : V → D → Prop
  | non : Rep K F ρ .non .non
  | bl (b : Bool) : Rep K F ρ (.bl b) (.bl b)
  | int (i : Int) : Rep K F ρ (.int i) (.int i)
  | str (s : Str) : Rep K F ρ (.str s) (.str s)
  | ty (n : String) : Rep K F ρ (.ty n) (.ty n)
  | tup {a : Addr} {vs : List V} {ds : List D} : SqT K F a vs → RepL K F ρ vs ds → Rep K F ρ (.ref a) (.tup ds)
  | lst {a : Addr} {vs : List V} {ds : List D} : SqL K F a vs → RepL K F ρ vs ds → Rep K F ρ (.ref a) (.lst ds)
  | ob {a : Addr} {j : Nat} : ρ[j]? = some a → Rep K F ρ (.ref a) (.ob j)
inductive RepL (K : Frag) (F : Hp) (ρ : List Addr) : List V → List D → Prop
  | nil : RepL K F ρ [] []
  | cons {v : V} {d : D} {vs : List V} {ds : List D} : Rep K F ρ v d → RepL K F ρ vs ds → RepL K F ρ (v :: vs) (d :: ds)
end
mutual
theorem Rep.mono {F F' : Hp} {ρ ρ' : List Addr} (s : Same F F') (p : ρ <+: ρ') : ∀ {v : V} {d : D}, Rep K F ρ v d → Rep K F' ρ' v d
  | _, _, .non => .non
  | _, _, .bl b => .bl b
  | _, _, .int i => .int i
  | _, _, .str x => .str x
  | _, _, .ty x => .ty x
  | _, _, .tup h l => .tup (Kv.same_tup s h) (RepL.mono s p l)
  | _, _, .lst h l => .lst (s.seq h) (RepL.mono s p l)
  | _, _, .ob h => .ob (by
      obtain ⟨t, rfl⟩ := p
      have hl := (List.getElem?_eq_some_iff.mp h).1
      rw [List.getElem?_append_left hl]
      exact h)
theorem RepL.mono {F F' : Hp} {ρ ρ' : List Addr} (s : Same F F') (p : ρ <+: ρ') : ∀ {vs : List V} {ds : List D}, RepL K F ρ vs ds → RepL K F' ρ' vs ds
  | _, _, .nil => .nil
  | _, _, .cons h t => .cons (Rep.mono s p h) (RepL.mono s p t)
end
theorem RepL.len {F : Hp} {ρ : List Addr} : ∀ {vs : List V} {ds : List D}, RepL K F ρ vs ds → vs.length = ds.length
  | _, _, .nil => rfl
  | _, _, .cons _ t => by rw [List.length_cons, List.length_cons, t.len]
theorem RepL.get {F : Hp} {ρ : List Addr} : ∀ {vs : List V} {ds : List D} {i : Nat} {d : D}, RepL K F ρ vs ds → ds[i]? = some d → ∃ v, vs[i]? = some v ∧ Rep K F ρ v d
  | _, _, i, _, .nil, e => by simp at e
  | _, _, 0, _, .cons r _, e => by cases e; exact ⟨_, rfl, r⟩
  | _, _, i + 1, _, .cons _ t, e => t.get (i := i) e
theorem RepL.append {F : Hp} {ρ : List Addr} : ∀ {vs us : List V} {ds es : List D}, RepL K F ρ vs ds → RepL K F ρ us es → RepL K F ρ (vs ++ us) (ds ++ es)
  | _, _, _, _, .nil, h => h
  | _, _, _, _, .cons r t, h => .cons r (t.append h)
theorem RepL.drop {F : Hp} {ρ : List Addr} : ∀ {vs : List V} {ds : List D} (n : Nat), RepL K F ρ vs ds → RepL K F ρ (vs.drop n) (ds.drop n)
  | _, _, 0, h => h
  | _, _, _ + 1, .nil => .nil
  | _, _, n + 1, .cons _ t => t.drop n
theorem RepL.take {F : Hp} {ρ : List Addr} : ∀ {vs : List V} {ds : List D} (n : Nat), RepL K F ρ vs ds → RepL K F ρ (vs.take n) (ds.take n)
  | _, _, 0, _ => .nil
  | _, _, _ + 1, .nil => .nil
  | _, _, n + 1, .cons r t => .cons r (t.take n)
theorem RepL.set {F : Hp} {ρ : List Addr} {v : V} {d : D} (r : Rep K F ρ v d) : ∀ {vs : List V} {ds : List D} (n : Nat), RepL K F ρ vs ds → RepL K F ρ (vs.set n v) (ds.set n d)
  | _, _, _, .nil => .nil
  | _, _, 0, .cons _ t => .cons r t
  | _, _, n + 1, .cons q t => .cons q (t.set r n)
def BxOk (K : Frag) (W : Wd) (H : Hp) (p : Addr) : BX → Prop
  | .lst ds => ∃ vs, H p = some (.lst vs) ∧ RepL K W.F W.ρ vs ds
  | .dct kvs => ∃ kv : List (Key × V), H p = some (.dK kv) ∧ kv.map (·.1) = kvs.map (·.1) ∧ RepL K W.F W.ρ (kv.map (·.2)) (kvs.map (·.2))
  | .fz kvs => ∃ (o : Obj) (kv : List (Key × V)), H p = some (.frz o (.dK kv)) ∧ kv.map (·.1) = kvs.map (·.1) ∧ RepL K W.F W.ρ (kv.map (·.2)) (kvs.map (·.2))
def SlOk (K : Frag) (W : Wd) (σ : L2.St) (H : Hp) (i : Nat) : SV → Prop
  | .dat d => ∃ v, σ[i]? = some (some v) ∧ Rep K W.F W.ρ v d
  | .own b => ∃ p, σ[i]? = some (some (.ref p)) ∧ W.ow p = some (.sl i) ∧ BxOk K W H p b
  | .io k => ∃ p, σ[i]? = some (some (.ref p)) ∧ W.ow p = some (.io k)
  | .fl j f => ∃ p, σ[i]? = some (some (.ref p)) ∧ W.ow p = some (.fd j f)
  | .exc => σ[i]? = some (some (.ref W.xa.1))
def EvOk (K : Frag) (W : Wd) (H : Hp) (σ : L2.St) (v : V) : EV → Prop
  | .dat d => Rep K W.F W.ρ v d
  | .sl i => σ[i]? = some (some v)
  | .io k => ∃ p, v = .ref p ∧ W.ow p = some (.io k)
  | .fl j f => ∃ p, v = .ref p ∧ W.ow p = some (.fd j f)
  | .exc => v = .ref W.xa.1
  | .tp b => ∃ p, v = .ref p ∧ W.F p = none ∧ W.ow p = none ∧ BxOk K W H p b
def FvOk (K : Frag) (W : Wd) (H : Hp) (j : Nat) (f : Str) (v : V) : FV → Prop
  | .dat d => Rep K W.F W.ρ v d
  | .bx b => ∃ p, v = .ref p ∧ W.ow p = some (.fd j f) ∧ BxOk K W H p b
inductive FsOk (K : Frag) (W : Wd) (H : Hp) (j : Nat) : List (Str × V) → List (Str × FV) → Prop
  | nil : FsOk K W H j [] []
  | cons {f : Str} {v : V} {x : FV} {vs : List (Str × V)} {xs : List (Str × FV)} : FvOk K W H j f v x → FsOk K W H j vs xs → FsOk K W H j ((f, v) :: vs) ((f, x) :: xs)
def ObOk (K : Frag) (cl : (Str → Addr) × Addr × Bool) (W : Wd) (H : Hp) (j : Nat) : Ob → Prop
  | .ins c fs => ∃ a dx vs, W.ρ[j]? = some a ∧ W.ow a = some (.ob j) ∧ W.ow dx = some (.dx j) ∧ H dx = some (.own a) ∧ H a = some (.ins (cl.1 c) dx vs) ∧ FsOk K W H j vs fs
  | .bx b => ∃ a, W.ρ[j]? = some a ∧ W.ow a = some (.ob j) ∧ BxOk K W H a b
structure Inv (K : Frag) (cl : (Str → Addr) × Addr × Bool) (W : Wd) (σ : L2.St) (H : Hp) (st : St) : Prop where
  xeq : W.xa = cl.2
  nt : W.xa.2 = false → ∀ p k, W.ow p ≠ some (.tm k)
  sub : Same W.F H
  out : ∀ p t, W.ow p = some t → W.F p = none ∧ ∃ o, H p = some o
  inj : ∀ p q t, W.ow p = some t → W.ow q = some t → t.sh = false → p = q
  len : σ.length = st.env.length
  slots : ∀ i sv, st.env[i]? = some (some sv) → SlOk K W σ H i sv
  ios : ∀ k b, st.io[k]? = some b → ∃ p, W.ow p = some (.io k) ∧ BxOk K W H p b
  rlen : W.ρ.length = st.S.length
  obs : ∀ j o, st.S[j]? = some o → ObOk K cl W H j o
/-- locked -/
def IsFz (o : HO) : Prop := ∃ d u, o = .frz d u
structure Ext (W : Wd) (H : Hp) (W' : Wd) (H' : Hp) : Prop where
  sF : Same W.F W'.F
  rr : W.ρ <+: W'.ρ
  ow : ∀ p t, W.ow p = some t → (∀ i, t ≠ .sl i) → W'.ow p = some t
  un : ∀ p o, H p = some o → (W.ow p = none ∨ W.ow p = some .xt ∨ IsFz o) → H' p = some o
  xt : ∀ p, W'.ow p = some .xt → W.ow p = some .xt
  nw : ∀ p o, H p = some o → W.ow p = none → W'.ow p = none
  lv : ∀ p, H' p = none → H p = none
  fz : ∀ p o, H p = some o → W.ow p = none → W.F p = none → W'.F p = none
  xa : W'.xa = W.xa
theorem Ext.refl (W : Wd) (H : Hp) : Ext W H W H := ⟨Same.refl _, List.prefix_refl _, fun _ _ h _ => h, fun _ _ h _ => h, fun _ h => h, fun _ _ _ h => h, fun _ h => h, fun _ _ _ _ h => h, rfl⟩
theorem Ext.trans {W W1 W2 : Wd} {H H1 H2 : Hp} (a : Ext W H W1 H1) (b : Ext W1 H1 W2 H2) : Ext W H W2 H2 := by
  refine ⟨a.sF.trans b.sF, a.rr.trans b.rr, fun p t h n => b.ow p t (a.ow p t h n) n, fun p o h q => ?_, fun p h => a.xt p (b.xt p h), fun p o h n => b.nw p o (a.un p o h (.inl n)) (a.nw p o h n), fun p h => a.lv p (b.lv p h), fun p o h n f => b.fz p o (a.un p o h (.inl n)) (a.nw p o h n) (a.fz p o h n f), b.xa.trans a.xa⟩
  refine b.un p o (a.un p o h q) ?_
  rcases q with q | q | q
  · exact .inl (a.nw p o h q)
  · exact .inr (.inl (a.ow p _ q (fun i => by simp)))
  · exact .inr (.inr q)
theorem Rep.ext {W W' : Wd} {H H' : Hp} {v : V} {d : D} (x : Ext W H W' H') (h : Rep K W.F W.ρ v d) : Rep K W'.F W'.ρ v d := h.mono x.sF x.rr
theorem RepL.ext {W W' : Wd} {H H' : Hp} {v : List V} {d : List D} (x : Ext W H W' H') (h : RepL K W.F W.ρ v d) : RepL K W'.F W'.ρ v d := h.mono x.sF x.rr
theorem BxOk.kp {W W' : Wd} {H H' : Hp} {p : Addr} {b : BX} (sF : Same W.F W'.F) (rr : W.ρ <+: W'.ρ) (hp : H' p = H p) (h : BxOk K W H p b) : BxOk K W' H' p b := by
  cases b with
  | lst ds => obtain ⟨vs, e, r⟩ := h; exact ⟨vs, hp.trans e, r.mono sF rr⟩
  | dct kvs => obtain ⟨vs, e, e2, r⟩ := h; exact ⟨vs, hp.trans e, e2, r.mono sF rr⟩
  | fz kvs => obtain ⟨o, vs, e, e2, r⟩ := h; exact ⟨o, vs, hp.trans e, e2, r.mono sF rr⟩
theorem EvOk.ext {W W' : Wd} {H H' : Hp} {σ : L2.St} {v : V} {ev : EV} (x : Ext W H W' H') (h : EvOk K W H σ v ev) : EvOk K W' H' σ v ev := by
  cases ev with
  | dat d => exact Rep.ext x h
  | sl i => exact h
  | io k => obtain ⟨p, e, q⟩ := h; exact ⟨p, e, x.ow p _ q (fun i => by simp)⟩
  | fl j f => obtain ⟨p, e, q⟩ := h; exact ⟨p, e, x.ow p _ q (fun i => by simp)⟩
  | exc => exact h.trans (by rw [x.xa])
  | tp b =>
    obtain ⟨p, e, z1, z2, k⟩ := h
    obtain ⟨o, ho⟩ : ∃ o, H p = some o := by
      cases b with
      | lst ds => obtain ⟨vs, e, _⟩ := k; exact ⟨_, e⟩
      | dct ds => obtain ⟨vs, e, _⟩ := k; exact ⟨_, e⟩
      | fz ds => obtain ⟨_, vs, e, _⟩ := k; exact ⟨_, e⟩
    exact ⟨p, e, x.fz p o ho z2 z1, x.nw p o ho z2, k.kp x.sF x.rr (by rw [ho]; exact x.un p o ho (.inl z2))⟩
/-! ### what a step leaves -/
def Res {α : Type} (K : Frag) (cl : (Str → Addr) × Addr × Bool) (E : Kv.Er → L2.St → Hp → Prop) (W : Wd) (σ : L2.St) (H : Hp) (r : R α) (Q : α → St → Wd → Hp → Prop) : Prop := match r with
  | .ok a st' => ∀ W' H', Inv K cl W' σ H' st' → Ext W H W' H' → Q a st' W' H'
  | .err e st' => ∀ W' H', Inv K cl W' σ H' st' → Ext W H W' H' → E e σ H'
  | .stuck => False
section
variable {cl : (Str → Addr) × Addr × Bool} {E : Kv.Er → L2.St → Hp → Prop} {W : Wd} {σ : L2.St} {H : Hp}
theorem Res.imp {α : Type} {r : R α} {Q Q' : α → St → Wd → Hp → Prop} (h : Res K cl E W σ H r Q) (k : ∀ a st' W' H', r = .ok a st' → Inv K cl W' σ H' st' → Ext W H W' H' → Q a st' W' H' → Q' a st' W' H') : Res K cl E W σ H r Q' := by
  cases r with
  | ok a st' => exact fun W' H' I x => k a st' W' H' rfl I x (h W' H' I x)
  | err e st' => exact h
  | stuck => exact h
theorem Res.bind {α β : Type} {r : R α} {f : α → St → R β} {Q : β → St → Wd → Hp → Prop} (h : Res K cl E W σ H (r.bind f) Q) : Res K cl E W σ H r fun a st1 W1 H1 => Res K cl E W1 σ H1 (f a st1) Q := by
  cases r with
  | ok a st1 =>
    intro W1 H1 I1 x1
    have h : Res K cl E W σ H (f a st1) Q := h
    show Res K cl E W1 σ H1 (f a st1) Q
    revert h
    cases f a st1 with
    | ok b st2 => exact fun h W2 H2 I2 x2 => h W2 H2 I2 (x1.trans x2)
    | err e st2 => exact fun h W2 H2 I2 x2 => h W2 H2 I2 (x1.trans x2)
    | stuck => exact fun h => h
  | err e st1 => exact h
  | stuck => exact h
theorem Res.now {α : Type} {a : α} {st : St} {Q : α → St → Wd → Hp → Prop} (h : Res K cl E W σ H (.ok a st) Q) (I : Inv K cl W σ H st) : Q a st W H := h W H I (Ext.refl W H)
end
def SimE (K : Frag) (cl : (Str → Addr) × Addr × Bool) (E : Kv.Er → L2.St → Hp → Prop) (te : TE) (me : M EV) : Prop := ∀ W σ H st, Inv K cl W σ H st → ∀ Q : VK,
  Res K cl E W σ H (me st) (fun ev _ W' H' => ∀ v, EvOk K W' H' σ v ev → Q v H') → te σ H Q
/-- a new list -/
def SimN (K : Frag) (cl : (Str → Addr) × Addr × Bool) (E : Kv.Er → L2.St → Hp → Prop) (te : TE) (me : M BX) : Prop := ∀ W σ H st, Inv K cl W σ H st → ∀ Q : VK,
  Res K cl E W σ H (me st) (fun b _ W' H' => ∀ p, H p = none → W'.F p = none → W'.ow p = none → BxOk K W' H' p b → Q (.ref p) H') → te σ H Q
def SimT (K : Frag) (cl : (Str → Addr) × Addr × Bool) (E : Kv.Er → L2.St → Hp → Prop) (tt : TT) (mt : M Bool) : Prop := ∀ W σ H st, Inv K cl W σ H st → ∀ Q : Bool → Hp → Prop,
  Res K cl E W σ H (mt st) (fun b _ _ H' => Q b H') → tt σ H Q
inductive EvsOk (K : Frag) (W : Wd) (H : Hp) (σ : L2.St) : List V → List EV → Prop
  | nil : EvsOk K W H σ [] []
  | cons {v : V} {ev : EV} {vs : List V} {evs : List EV} : EvOk K W H σ v ev → EvsOk K W H σ vs evs → EvsOk K W H σ (v :: vs) (ev :: evs)
/-- lists on the way were not there before, and are not the same -/
inductive FrOk (H : Hp) : List V → List EV → Prop
  | nil : FrOk H [] []
  | cons {v : V} {ev : EV} {vs : List V} {evs : List EV} : (∀ b, ev = .tp b → ∃ p, v = .ref p ∧ H p = none ∧ ∀ (i : Nat) (b' : BX), evs[i]? = some (EV.tp b') → vs[i]? ≠ some (V.ref p)) → FrOk H vs evs → FrOk H (v :: vs) (ev :: evs)
theorem FrOk.lv {H H1 : Hp} (lv : ∀ p, H1 p = none → H p = none) : ∀ {vs : List V} {evs : List EV}, FrOk H1 vs evs → FrOk H vs evs
  | _, _, .nil => .nil
  | _, _, .cons h t => .cons (fun b e => by obtain ⟨p, e1, e2, e3⟩ := h b e; exact ⟨p, e1, lv p e2, e3⟩) (t.lv lv)
theorem FrOk.get {H : Hp} : ∀ {vs : List V} {evs : List EV} {i : Nat} {b : BX}, FrOk H vs evs → evs[i]? = some (.tp b) → ∃ p, vs[i]? = some (.ref p) ∧ H p = none
  | _, _, i, b, .nil, e => by simp at e
  | _, _, 0, b, .cons h _, e => by cases e; obtain ⟨p, rfl, e2, _⟩ := h b rfl; exact ⟨p, rfl, e2⟩
  | _, _, i + 1, b, .cons _ t, e => t.get (i := i) e
def SimA (K : Frag) (cl : (Str → Addr) × Addr × Bool) (E : Kv.Er → L2.St → Hp → Prop) (ta : TA) (ma : M (List EV)) : Prop := ∀ W σ H st, Inv K cl W σ H st → ∀ Q : List V → Hp → Prop,
  Res K cl E W σ H (ma st) (fun evs _ W' H' => ∀ vs, EvsOk K W' H' σ vs evs → FrOk H vs evs → Q vs H') → ta σ H Q
section
variable {cl : (Str → Addr) × Addr × Bool} {E : Kv.Er → L2.St → Hp → Prop} {W : Wd} {σ : L2.St} {H : Hp} {ta tb tc : TE} {ma mb mc : M EV}
/-! ### values -/
def mC (d : D) : M EV := M.pure (.dat d)
def scV : D → Option V
  | .non => some .non
  | .bl b => some (.bl b)
  | .int i => some (.int i)
  | .str s => some (.str s)
  | .ty s => some (.ty s)
  | _ => none
theorem scV_rep {F : Hp} {ρ : List Addr} {d : D} {v v' : V} (h : scV d = some v) (r : Rep K F ρ v' d) : v' = v := by
  cases d <;> cases h <;> cases r <;> rfl
theorem scV_mk {F : Hp} {ρ : List Addr} {d : D} {v : V} (h : scV d = some v) : Rep K F ρ v d := by
  cases d <;> cases h <;> constructor
theorem sE_c {v : V} {d : D} (h : scV d = some v := by rfl) : SimE K cl E (tC v) (mC d) := fun W σ H st I Q q => q.now I v (scV_mk h)
def mVar (i : Nat) : M EV := fun st => match st.env[i]? with
  | some (some (.dat d)) => .ok (.dat d) st
  | some (some (.own _)) => .ok (.sl i) st
  | some (some (.io k)) => .ok (.io k) st
  | some (some (.fl j f)) => .ok (.fl j f) st
  | some (some .exc) => .ok .exc st
  | _ => .stuck
theorem sE_var {i : Nat} : SimE K cl E (tVar i) (mVar i) := by
  intro W σ H st I Q q
  unfold mVar at q
  split at q
  · rename_i d e
    obtain ⟨v, hv, r⟩ := I.slots i _ e
    exact ⟨v, hv, q.now I v r⟩
  · rename_i b e
    obtain ⟨p, hv, r⟩ := I.slots i _ e
    exact ⟨_, hv, q.now I _ hv⟩
  · rename_i k e
    obtain ⟨p, hv, r⟩ := I.slots i _ e
    exact ⟨_, hv, q.now I _ ⟨p, rfl, r⟩⟩
  · rename_i j f e
    obtain ⟨p, hv, r⟩ := I.slots i _ e
    exact ⟨_, hv, q.now I _ ⟨p, rfl, r⟩⟩
  · rename_i e
    exact ⟨_, I.slots i _ e, q.now I _ rfl⟩
  · exact q.elim
/-- an operation on two plain values -/
def onS (f : D → D → Option D) : EV → EV → M EV
  | .dat x, .dat y => fun st => match f x y with
    | some d => .ok (.dat d) st
    | none => .stuck
  | _, _ => M.stuck
def mOp (f : D → D → Option D) (ma mb : M EV) : M EV := fun st => (ma st).bind fun a st1 => (mb st1).bind fun b st2 => onS f a b st2
def OpS (r : R2) (f : D → D → Option D) : Prop := ∀ x y d, f x y = some d → ∃ vx vy vd, scV x = some vx ∧ scV y = some vy ∧ scV d = some vd ∧ ∀ H (Q : VK), Q vd H → r vx vy H Q
theorem sE_op {r : R2} {f : D → D → Option D} (hr : OpS r f) (ha : SimE K cl E ta ma) (hb : SimE K cl E tb mb) : SimE K cl E (tOp r ta tb) (mOp f ma mb) := by
  intro W σ H st I Q q
  refine ha W σ H st I _ (Res.imp (Res.bind q) fun a st1 W1 H1 _ I1 x1 q1 va ka => ?_)
  refine hb W1 σ H1 st1 I1 _ (Res.imp (Res.bind q1) fun b st2 W2 H2 _ I2 x2 q2 vb kb => ?_)
  replace ka := ka.ext x2
  cases a with
  | dat x =>
    cases b with
    | dat y =>
      unfold onS at q2
      dsimp only at q2
      split at q2
      · rename_i d e
        obtain ⟨vx, vy, vd, ex, ey, ed, k⟩ := hr x y d e
        rw [scV_rep ex ka, scV_rep ey kb]
        exact k H2 Q (q2.now I2 _ (scV_mk ed))
      · exact q2.elim
    | _ => exact q2.elim
  | _ => exact q2.elim

/-! ### the heap grows, or one owner's thing changes -/
theorem FvOk.kp {W W' : Wd} {H H' : Hp} {j : Nat} {f : Str} {v : V} {x : FV} (sF : Same W.F W'.F) (rr : W.ρ <+: W'.ρ) (hp : ∀ p, W.ow p = some (.fd j f) → H' p = H p ∧ W'.ow p = some (.fd j f)) (h : FvOk K W H j f v x) : FvOk K W' H' j f v x := by
  cases x with
  | dat d => exact Rep.mono sF rr h
  | bx b => obtain ⟨p, e, o, k⟩ := h; exact ⟨p, e, (hp p o).2, k.kp sF rr (hp p o).1⟩
theorem FsOk.kp {W W' : Wd} {H H' : Hp} {j : Nat} (sF : Same W.F W'.F) (rr : W.ρ <+: W'.ρ) (hp : ∀ p f, W.ow p = some (.fd j f) → H' p = H p ∧ W'.ow p = some (.fd j f)) : ∀ {vs : List (Str × V)} {fs : List (Str × FV)}, FsOk K W H j vs fs → FsOk K W' H' j vs fs
  | _, _, .nil => .nil
  | _, _, .cons h t => .cons (h.kp sF rr fun p => hp p _) (t.kp sF rr hp)
theorem ObOk.kp {W W' : Wd} {H H' : Hp} {j : Nat} {o : Ob} (sF : Same W.F W'.F) (rr : W.ρ <+: W'.ρ) (hp : ∀ p t, W.ow p = some t → (t = .ob j ∨ t = .dx j ∨ ∃ f, t = .fd j f) → H' p = H p ∧ W'.ow p = some t) (h : ObOk K cl W H j o) : ObOk K cl W' H' j o := by
  have hr : ∀ {a : Addr}, W.ρ[j]? = some a → W'.ρ[j]? = some a := fun {a} h => by
    obtain ⟨t, e⟩ := rr
    rw [← e, List.getElem?_append_left (List.getElem?_eq_some_iff.mp h).1]
    exact h
  cases o with
  | ins c fs =>
    obtain ⟨a, dx, vs, e1, e2, e3, e4, e5, k⟩ := h
    exact ⟨a, dx, vs, hr e1, (hp a _ e2 (.inl rfl)).2, (hp dx _ e3 (.inr (.inl rfl))).2, ((hp dx _ e3 (.inr (.inl rfl))).1).trans e4, ((hp a _ e2 (.inl rfl)).1).trans e5, k.kp sF rr fun p f o => hp p _ o (.inr (.inr ⟨f, rfl⟩))⟩
  | bx b =>
    obtain ⟨a, e1, e2, k⟩ := h
    exact ⟨a, hr e1, (hp a _ e2 (.inl rfl)).2, k.kp sF rr (hp a _ e2 (.inl rfl)).1⟩
theorem SlOk.kp {W W' : Wd} {H H' : Hp} {i : Nat} {sv : SV} (sF : Same W.F W'.F) (rr : W.ρ <+: W'.ρ) (h1 : ∀ p t, W.ow p = some t → (∀ i, t ≠ .sl i) → W'.ow p = some t) (hp : ∀ p, W.ow p = some (.sl i) → H' p = H p ∧ W'.ow p = some (.sl i)) (h : SlOk K W σ H i sv) (hx : W'.xa = W.xa := by rfl) : SlOk K W' σ H' i sv := by
  cases sv with
  | dat d => obtain ⟨v, e, r⟩ := h; exact ⟨v, e, r.mono sF rr⟩
  | own b => obtain ⟨p, e, o, k⟩ := h; exact ⟨p, e, (hp p o).2, k.kp sF rr (hp p o).1⟩
  | io k => obtain ⟨p, e, o⟩ := h; exact ⟨p, e, h1 p _ o (fun i => by simp)⟩
  | fl j f => obtain ⟨p, e, o⟩ := h; exact ⟨p, e, h1 p _ o (fun i => by simp)⟩
  | exc => exact h.trans (by rw [hx])
/-- nothing that has an owner changes -/
theorem Inv.grow {st : St} {F' H' : Hp} (I : Inv K cl W σ H st) (sF : Same W.F F') (sub : Same F' H') (sH : Same H H') (out : ∀ p t, W.ow p = some t → F' p = none) : Inv K cl { W with F := F' } σ H' st := by
  have hp : ∀ p t, W.ow p = some t → H' p = H p := fun p t h => by
    obtain ⟨_, o, e⟩ := I.out p t h
    rw [e]
    exact sH p o e
  refine ⟨I.xeq, I.nt, sub, fun p t h => ⟨out p t h, ?_⟩, I.inj, I.len, fun i sv e => (I.slots i sv e).kp sF (List.prefix_refl _) (fun p t h _ => h) fun p h => ⟨hp p _ h, h⟩, fun k b e => ?_, I.rlen, fun j o e => (I.obs j o e).kp sF (List.prefix_refl _) fun p t h _ => ⟨hp p t h, h⟩⟩
  · obtain ⟨_, o, e⟩ := I.out p t h
    exact ⟨o, sH p o e⟩
  · obtain ⟨p, o, k2⟩ := I.ios k b e
    exact ⟨p, o, k2.kp sF (List.prefix_refl _) (hp p _ o)⟩
theorem Ext.grow {F' H' : Hp} (sF : Same W.F F') (sH : Same H H') (fz : ∀ p o, H p = some o → W.ow p = none → W.F p = none → F' p = none) : Ext W H { W with F := F' } H' :=
  ⟨sF, List.prefix_refl _, fun _ _ h _ => h, fun p o h _ => sH p o h, fun _ h => h, fun _ _ _ h => h, fun p h => sH.free h, fz, rfl⟩
theorem Inv.free {st : St} (I : Inv K cl W σ H st) {p : Addr} (h : H p = none) : W.ow p = none ∧ W.F p = none := by
  refine ⟨?_, I.sub.free h⟩
  cases e : W.ow p with
  | none => rfl
  | some t =>
    obtain ⟨_, o, e2⟩ := I.out p t e
    rw [h] at e2
    cases e2
/-- a new thing, known for good -/
theorem Inv.new {st : St} (I : Inv K cl W σ H st) {p : Addr} {o : HO} (h : H p = none) : Inv K cl { W with F := upd W.F p o } σ (upd H p o) st := by
  obtain ⟨z1, z2⟩ := I.free h
  refine I.grow (Kv.same_upd z2) (fun q u e => ?_) (Kv.same_upd h) fun q t e => ?_
  · by_cases c : q = p
    · subst c; rw [upd_same] at e ⊢; exact e
    · rw [upd_ne c] at e ⊢; exact I.sub q u e
  · have c : q ≠ p := fun c => by subst c; rw [z1] at e; cases e
    rw [upd_ne c]
    exact (I.out q t e).1
theorem Ext.new {st : St} (I : Inv K cl W σ H st) {p : Addr} {o : HO} (h : H p = none) : Ext W H { W with F := upd W.F p o } (upd H p o) := Ext.grow (Kv.same_upd (I.free h).2) (Kv.same_upd h) fun q u e _ f => by rw [upd_ne (ne_of_none e h)]; exact f
/-- a new thing, not known -/
theorem Inv.new0 {st : St} (I : Inv K cl W σ H st) {p : Addr} {o : HO} (h : H p = none) : Inv K cl W σ (upd H p o) st := by
  exact I.grow (H' := upd H p o) (Same.refl _) (fun q u e => Kv.same_upd h q u (I.sub q u e)) (Kv.same_upd h) fun q t e => (I.out q t e).1
theorem Ext.new0 {p : Addr} {o : HO} (h : H p = none) : Ext W H W (upd H p o) := Ext.grow (Same.refl _) (Kv.same_upd h) fun _ _ _ _ f => f
/-- what is new and nobody's becomes known -/
theorem Inv.know {st : St} (I : Inv K cl W σ H st) {p : Addr} {o : HO} (h : H p = some o) (z1 : W.ow p = none) (z2 : W.F p = none) : Inv K cl { W with F := upd W.F p o } σ H st := by
  refine I.grow (Kv.same_upd z2) (fun q u e => ?_) (Same.refl _) fun q t e => ?_
  · by_cases c : q = p
    · subst c; rw [upd_same] at e; rw [← e]; exact h
    · rw [upd_ne c] at e; exact I.sub q u e
  · have c : q ≠ p := fun c => by subst c; rw [z1] at e; cases e
    rw [upd_ne c]
    exact (I.out q t e).1
theorem Ext.know {W1 : Wd} {H1 : Hp} {p : Addr} {o : HO} (x : Ext W H W1 H1) (n : H p = none) (z2 : W1.F p = none) : Ext W H { W1 with F := upd W1.F p o } H1 :=
  ⟨x.sF.trans (Kv.same_upd z2), x.rr, x.ow, x.un, x.xt, x.nw, x.lv, fun q u e h f => by
    show upd W1.F p o q = none
    rw [upd_ne (ne_of_none e n)]; exact x.fz q u e h f, x.xa⟩
/-- a new list as plain data -/
def mFrz (mn : M BX) : M EV := fun st => (mn st).bind fun b st1 => match b with
    | .lst ds => .ok (.dat (.lst ds)) st1
    | _ => .stuck
theorem sE_frz {te : TE} {mn : M BX} (h : SimN K cl E te mn) : SimE K cl E te (mFrz mn) := by
  intro W σ H st I Q q
  unfold mFrz at q
  refine h W σ H st I _ (Res.imp (Res.bind q) fun b st1 W1 H1 hm1 I1 x1 q1 p np z1 z2 k => ?_)
  rw [hm1] at q
  cases b with
  | dct _ => exact q1.elim
  | fz _ => exact q1.elim
  | lst ds =>
    obtain ⟨vs, e, r⟩ := k
    exact q _ _ (I1.know e z2 z1) (x1.know np z1) _ (.lst (SqL.of upd_same) (r.mono (Kv.same_upd z1) (List.prefix_refl _)))
/-- as plain data: an own list is given up -/
def kill (env : List (Option SV)) (i : Nat) (ds : List D) : List (Option SV) := env.set i (some (.dat (.lst ds)))
def toD : EV → M D
  | .dat d => M.pure d
  | .sl i => fun st => match st.env[i]? with
    | some (some (.dat d)) => .ok d st
    | some (some (.own (.lst ds))) => .ok (.lst ds) { st with env := st.env.set i (some (.dat (.lst ds))) }
    | _ => .stuck
  | _ => M.stuck

theorem sub_upd {F : Hp} {p : Addr} {o : HO} (s : Same F H) (z : F p = none) : Same F (upd H p o) := fun q u e => by
  by_cases c : q = p
  · subst c; rw [z] at e; cases e
  · rw [upd_ne c]; exact s q u e
theorem out_upd {st : St} {p : Addr} {o : HO} (I : Inv K cl W σ H st) : ∀ q t, W.ow q = some t → W.F q = none ∧ ∃ u, upd H p o q = some u := fun q t e => by
  refine ⟨(I.out q t e).1, ?_⟩
  by_cases c : q = p
  · subst c; exact ⟨o, upd_same⟩
  · rw [upd_ne c]; exact (I.out q t e).2
theorem Ext.mut {t : Tag} {p : Addr} {o : HO} (h : W.ow p = some t) (n : t ≠ .xt) (hf : ∀ u, H p = some u → ¬ IsFz u) : Ext W H W (upd H p o) := by
  refine ⟨Same.refl _, List.prefix_refl _, fun _ _ h _ => h, fun q u e z => ?_, fun _ h => h, fun _ _ _ h => h, fun q h => ?_, fun _ _ _ _ f => f, rfl⟩
  rotate_left
  · by_cases c : q = p
    · subst c; rw [upd_same] at h; cases h
    · rw [upd_ne c] at h; exact h
  have c : q ≠ p := fun c => by
    subst c
    rcases z with z | z | z
    · rw [h] at z; cases z
    · rw [h] at z; cases z; exact n rfl
    · exact hf u e z
  rw [upd_ne c]
  exact e
theorem nofz {H : Hp} {p : Addr} {o : HO} (h : H p = some o) (n : ¬ IsFz o) : ∀ u, H p = some u → ¬ IsFz u := fun u e => by rw [h] at e; cases e; exact n
theorem nofz_lst {xs : List V} : ¬ IsFz (.lst xs) := fun ⟨_, _, e⟩ => by cases e
theorem nofz_dK {xs : List (Key × V)} : ¬ IsFz (.dK xs) := fun ⟨_, _, e⟩ => by cases e
theorem nofz_ins {c a : Addr} {xs : List (Str × V)} : ¬ IsFz (.ins c a xs) := fun ⟨_, _, e⟩ => by cases e
theorem get_set_ne {α : Type} {l : List α} {i j : Nat} {x : α} (h : i ≠ j) : (l.set i x)[j]? = l[j]? := List.getElem?_set_ne h
theorem get_set_eq {α : Type} {l : List α} {i : Nat} {x y z : α} (e : l[i]? = some z) (h : (l.set i x)[i]? = some y) : y = x := by
  have := (List.getElem?_eq_some_iff.mp e).1
  rw [List.getElem?_set_self this] at h
  exact (Option.some.inj h).symm
/-- a slot's own thing changes -/
theorem Inv.mutSl {st : St} {i : Nat} {b b' : BX} {p : Addr} {o : HO} (I : Inv K cl W σ H st) (e : st.env[i]? = some (some (.own b))) (hs : σ[i]? = some (some (.ref p))) (ho : W.ow p = some (.sl i)) (k : BxOk K W (upd H p o) p b') :
    Inv K cl W σ (upd H p o) { st with env := st.env.set i (some (.own b')) } := by
  have hne : ∀ q t, W.ow q = some t → t ≠ .sl i → upd H p o q = H q := fun q t e n => by
    have c : q ≠ p := fun c => by subst c; rw [ho] at e; cases e; exact n rfl
    exact upd_ne c
  refine ⟨I.xeq, I.nt, sub_upd I.sub (I.out p _ ho).1, out_upd I, I.inj, by simp [I.len], fun j sv ej => ?_, fun k b e => ?_, I.rlen, fun j o e => ?_⟩
  · by_cases c : i = j
    · subst c
      have := get_set_eq e ej
      cases this
      exact ⟨p, hs, ho, k⟩
    · rw [get_set_ne c] at ej
      exact (I.slots j sv ej).kp (Same.refl _) (List.prefix_refl _) (fun _ _ h _ => h) fun q h => ⟨hne q _ h (fun z => c (by cases z; rfl)), h⟩
  · obtain ⟨q, h, k2⟩ := I.ios k b e
    exact ⟨q, h, k2.kp (Same.refl _) (List.prefix_refl _) (hne q _ h (by simp))⟩
  · exact (I.obs j o e).kp (Same.refl _) (List.prefix_refl _) fun q t h z => ⟨hne q t h (by rcases z with z | z | ⟨f, z⟩ <;> simp [z]), h⟩
/-- a parameter's thing changes -/
theorem Inv.mutIo {st : St} {i : Nat} {b b' : BX} {p : Addr} {o : HO} (I : Inv K cl W σ H st) (e : st.io[i]? = some b) (ho : W.ow p = some (.io i)) (k : BxOk K W (upd H p o) p b') :
    Inv K cl W σ (upd H p o) { st with io := st.io.set i b' } := by
  have hne : ∀ q t, W.ow q = some t → t ≠ .io i → upd H p o q = H q := fun q t e n => by
    have c : q ≠ p := fun c => by subst c; rw [ho] at e; cases e; exact n rfl
    exact upd_ne c
  refine ⟨I.xeq, I.nt, sub_upd I.sub (I.out p _ ho).1, out_upd I, I.inj, I.len, fun j sv ej => ?_, fun j b ej => ?_, I.rlen, fun j o e => ?_⟩
  · exact (I.slots j sv ej).kp (Same.refl _) (List.prefix_refl _) (fun _ _ h _ => h) fun q h => ⟨hne q _ h (by simp), h⟩
  · by_cases c : i = j
    · subst c
      have := get_set_eq e ej
      subst this
      exact ⟨p, ho, k⟩
    · have ej : (st.io.set i b')[j]? = some b := ej
      rw [get_set_ne c] at ej
      obtain ⟨q, h, k2⟩ := I.ios j b ej
      exact ⟨q, h, k2.kp (Same.refl _) (List.prefix_refl _) (hne q _ h (fun z => c (by cases z; rfl)))⟩
  · exact (I.obs j o e).kp (Same.refl _) (List.prefix_refl _) fun q t h z => ⟨hne q t h (by rcases z with z | z | ⟨f, z⟩ <;> simp [z]), h⟩
/-- an own list is given up: from now on it is known -/
theorem Inv.frz {st : St} {i : Nat} {ds : List D} (I : Inv K cl W σ H st) (e : st.env[i]? = some (some (.own (.lst ds)))) : ∃ W' p, σ[i]? = some (some (.ref p)) ∧ Inv K cl W' σ H { st with env := st.env.set i (some (.dat (.lst ds))) } ∧ Ext W H W' H ∧ Rep K W'.F W'.ρ (.ref p) (.lst ds) := by
  obtain ⟨p, hs, ho, vs, hp, r⟩ := I.slots i _ e
  have z := (I.out p _ ho).1
  have sF : Same W.F (upd W.F p (.lst vs)) := Kv.same_upd z
  have hne : ∀ q t, W.ow q = some t → t ≠ .sl i → q ≠ p := fun q t e n c => by subst c; rw [ho] at e; cases e; exact n rfl
  have how : ∀ q t, W.ow q = some t → t ≠ .sl i → (if q = p then none else W.ow q) = some t := fun q t e n => by rw [if_neg (hne q t e n)]; exact e
  have rp : Rep K (upd W.F p (.lst vs)) W.ρ (.ref p) (.lst ds) := .lst (SqL.of upd_same) (r.mono sF (List.prefix_refl _))
  refine ⟨⟨upd W.F p (.lst vs), W.ρ, fun q => if q = p then none else W.ow q, W.xa⟩, p, hs, ⟨I.xeq, fun z q k e => ?_, fun q u e => ?_, fun q t e => ?_, fun q q' t e e' n => ?_, by simp [I.len], fun j sv ej => ?_, fun k b e => ?_, I.rlen, fun j o e => ?_⟩, ⟨sF, List.prefix_refl _, fun q t e n => how q t e (n i), fun q o e _ => e, fun q e => ?_, fun q o h e => ?_, fun _ h => h, fun q o h e f => ?_, rfl⟩, rp⟩
  · dsimp only at e
    split at e
    · cases e
    · exact I.nt z q k e
  · have e : upd W.F p (.lst vs) q = some u := e
    by_cases c : q = p
    · subst c; rw [upd_same] at e; rw [← e]; exact hp
    · rw [upd_ne c] at e; exact I.sub q u e
  · dsimp only at e ⊢
    split at e
    · cases e
    · rename_i c
      rw [upd_ne c]
      exact I.out q t e
  · dsimp only at e e'
    split at e
    · cases e
    split at e'
    · cases e'
    exact I.inj q q' t e e' n
  · by_cases c : i = j
    · subst c
      have := get_set_eq e ej
      cases this
      exact ⟨.ref p, hs, rp⟩
    · have ej : (st.env.set i (some (.dat (.lst ds))))[j]? = some (some sv) := ej
      rw [get_set_ne c] at ej
      exact (I.slots j sv ej).kp sF (List.prefix_refl _) (fun q t h n => how q t h (n i)) fun q h => ⟨rfl, how q _ h (fun z => c (by cases z; rfl))⟩
  · obtain ⟨q, h, k2⟩ := I.ios k b e
    exact ⟨q, how q _ h (by simp), k2.kp sF (List.prefix_refl _) rfl⟩
  · exact (I.obs j o e).kp sF (List.prefix_refl _) fun q t h z => ⟨rfl, how q t h (by rcases z with z | z | ⟨f, z⟩ <;> simp [z])⟩
  · dsimp only at e
    split at e
    · cases e
    · exact e
  · dsimp only
    split
    · rfl
    · exact e
  · have c : q ≠ p := fun c => by subst c; rw [ho] at e; cases e
    show upd W.F p _ q = none
    rw [upd_ne c]; exact f
theorem toD_ok {st : St} {v : V} {ev : EV} {Q : D → St → Wd → Hp → Prop} (I : Inv K cl W σ H st) (k : EvOk K W H σ v ev) (q : Res K cl E W σ H (toD ev st) Q) : ∃ d st' W', Inv K cl W' σ H st' ∧ Ext W H W' H ∧ Rep K W'.F W'.ρ v d ∧ Q d st' W' H := by
  cases ev with
  | dat d => exact ⟨d, st, W, I, Ext.refl W H, k, q.now I⟩
  | sl i =>
    unfold toD at q
    dsimp only at q
    split at q
    · rename_i d e
      obtain ⟨v', hv, r⟩ := I.slots i _ e
      have k : σ[i]? = some (some v) := k
      rw [k] at hv
      cases hv
      exact ⟨d, st, W, I, Ext.refl W H, r, q.now I⟩
    · rename_i ds e
      obtain ⟨W', p, hs, I', x', r⟩ := I.frz e
      have k : σ[i]? = some (some v) := k
      rw [k] at hs
      cases hs
      exact ⟨_, _, W', I', x', r, q W' H I' x'⟩
    · exact q.elim
  | io k => exact q.elim
  | fl j f => exact q.elim
  | exc => exact q.elim
  | tp b => exact q.elim
def mD (me : M EV) : M EV := fun st => (me st).bind fun ev st1 => (toD ev st1).bind fun d st2 => .ok (.dat d) st2
theorem sE_d {te : TE} {me : M EV} (h : SimE K cl E te me) : SimE K cl E te (mD me) := by
  intro W σ H st I Q q
  refine h W σ H st I _ (Res.imp (Res.bind q) fun ev st1 W1 H1 _ I1 x1 q1 v k => ?_)
  obtain ⟨d, st2, W2, I2, x2, r, q2⟩ := toD_ok I1 k (Res.bind q1)
  exact q2.now I2 v r
theorem sA_nil : SimA K cl E tNil (M.pure []) := fun W σ H st I Q q => q.now I [] .nil .nil
def notTp : EV → Bool
  | .tp _ => false
  | _ => true
def mCons (me : M EV) (ma : M (List EV)) : M (List EV) := fun st => (me st).bind fun ev st1 => if notTp ev = true then (ma st1).bind fun evs st2 => .ok (ev :: evs) st2 else .stuck
theorem sA_cons {te : TE} {me : M EV} {ta : TA} {ma : M (List EV)} (h : SimE K cl E te me) (hr : SimA K cl E ta ma) : SimA K cl E (tCons te ta) (mCons me ma) := by
  intro W σ H st I Q q
  refine h W σ H st I _ (Res.imp (Res.bind q) fun ev st1 W1 H1 _ I1 x1 q1 v k => ?_)
  split at q1
  rotate_left
  · exact q1.elim
  rename_i n
  refine hr W1 σ H1 st1 I1 _ (Res.imp (Res.bind q1) fun evs st2 W2 H2 _ I2 x2 q2 vs ks fs => ?_)
  exact q2.now I2 _ (.cons (k.ext x2) ks) (.cons (fun b e => by subst e; cases n) (fs.lv x1.lv))
/-- a new list as an argument -/
def mConsN (mn : M BX) (ma : M (List EV)) : M (List EV) := fun st => (mn st).bind fun b st1 => (ma st1).bind fun evs st2 => .ok (.tp b :: evs) st2
theorem sA_consN {te : TE} {mn : M BX} {ta : TA} {ma : M (List EV)} (h : SimN K cl E te mn) (hr : SimA K cl E ta ma) : SimA K cl E (tCons te ta) (mConsN mn ma) := by
  intro W σ H st I Q q
  refine h W σ H st I _ (Res.imp (Res.bind q) fun b st1 W1 H1 _ I1 x1 q1 p hp z1 z2 k => ?_)
  refine hr W1 σ H1 st1 I1 _ (Res.imp (Res.bind q1) fun evs st2 W2 H2 _ I2 x2 q2 vs ks fs => ?_)
  have kv : EvOk K W1 H1 σ (.ref p) (.tp b) := ⟨p, rfl, z1, z2, k⟩
  have live : H1 p ≠ none := by
    cases b with
    | lst ds => obtain ⟨vs, e, _⟩ := k; rw [e]; simp
    | dct ds => obtain ⟨vs, e, _⟩ := k; rw [e]; simp
    | fz ds => obtain ⟨_, vs, e, _⟩ := k; rw [e]; simp
  refine q2.now I2 _ (.cons (kv.ext x2) ks) (.cons (fun b' e => ⟨p, rfl, hp, fun i b'' e1 e2 => ?_⟩) (fs.lv x1.lv))
  obtain ⟨p', e3, e4⟩ := fs.get e1
  rw [e3] at e2
  cases e2
  exact live e4
/-- plain data alone -/
def dats : List EV → Option (List D)
  | [] => some []
  | .dat d :: r => (dats r).map (d :: ·)
  | _ => none
theorem dats_ok : ∀ {evs : List EV} {vs : List V} {ds : List D}, EvsOk K W H σ vs evs → dats evs = some ds → RepL K W.F W.ρ vs ds
  | [], _, _, .nil, h => by cases h; exact .nil
  | .dat d :: r, _, _, .cons k t, h => by
    unfold dats at h
    cases e : dats r with
    | none => rw [e] at h; cases h
    | some ds => rw [e] at h; cases h; exact .cons k (dats_ok t e)
  | .sl _ :: _, _, _, .cons _ _, h => by cases h
  | .io _ :: _, _, _, .cons _ _, h => by cases h
  | .fl _ _ :: _, _, _, .cons _ _, h => by cases h
  | .exc :: _, _, _, .cons _ _, h => by cases h
  | .tp _ :: _, _, _, .cons _ _, h => by cases h
def mTup (ma : M (List EV)) : M EV := fun st => (ma st).bind fun evs st1 => match dats evs with
  | some ds => if ds.length ≤ sizeLine then .ok (.dat (.tup ds)) st1 else .stuck
  | none => .stuck
theorem sE_tup {ta : TA} {ma : M (List EV)} (h : SimA K cl E ta ma) : SimE K cl E (tTup ta) (mTup ma) := by
  intro W σ H st I Q q
  refine h W σ H st I _ (Res.imp (Res.bind q) fun evs st1 W1 H1 _ I1 x1 q1 vs ks _ => ?_)
  split at q1
  · rename_i ds e
    have r := dats_ok ks e
    split at q1
    · rename_i hl
      refine ⟨by rw [r.len]; exact hl, fun p hp => ?_⟩
      exact q1 _ _ (I1.new hp) (Ext.new I1 hp) _ (.tup (SqT.of upd_same) (r.mono (Kv.same_upd (I1.free hp).2) (List.prefix_refl _)))
    · exact q1.elim
  · exact q1.elim
def mLst (ma : M (List EV)) : M BX := fun st => (ma st).bind fun evs st1 => match dats evs with
  | some ds => if ds.length ≤ sizeLine then .ok (.lst ds) st1 else .stuck
  | none => .stuck
theorem sN_lst {ta : TA} {ma : M (List EV)} (h : SimA K cl E ta ma) : SimN K cl E (tLst ta) (mLst ma) := by
  intro W σ H st I Q q
  refine h W σ H st I _ (Res.imp (Res.bind q) fun evs st1 W1 H1 _ I1 x1 q1 vs ks _ => ?_)
  split at q1
  · rename_i ds e
    have r := dats_ok ks e
    split at q1
    · rename_i hl
      refine ⟨by rw [r.len]; exact hl, fun p hp => ?_⟩
      obtain ⟨z1, z2⟩ := I1.free hp
      exact q1 _ _ (I1.new0 hp) (Ext.new0 hp) p (x1.lv p hp) z2 z1 ⟨vs, upd_same, r⟩
    · exact q1.elim
  · exact q1.elim
end
end
end Mi

set_option Elab.async false
set_option linter.all false
set_option maxRecDepth 100000
set_option maxHeartbeats 4000000
namespace Mi
open PySem PySem.Spec PyProof.Rows L2
section
variable {K : Frag} {cl : (Str → Addr) × Addr × Bool} {E : Kv.Er → L2.St → Hp → Prop} {W : Wd} {σ : L2.St} {H : Hp} {ta tb tc : TE} {ma mb mc : M EV}
/-! ### what a value holds now -/
def peek (st : St) : EV → Option D
  | .dat (.ob j) => match st.S[j]? with
    | some (.bx (.lst ds)) => some (.lst ds)
    | _ => some (.ob j)
  | .dat d => some d
  | .sl i => match st.env[i]? with
    | some (some (.own (.lst ds))) => some (.lst ds)
    | some (some (.dat (.lst ds))) => some (.lst ds)
    | _ => none
  | .io k => match st.io[k]? with
    | some (.lst ds) => some (.lst ds)
    | _ => none
  | .fl j f => match st.S[j]? with
    | some (.ins _ fs) => match fs.lookup f with
      | some (.bx (.lst ds)) => some (.lst ds)
      | _ => none
    | _ => none
  | .exc => none
  | .tp (.lst ds) => some (.lst ds)
  | .tp _ => none
def PkOk (K : Frag) (W : Wd) (H : Hp) (v : V) : D → Prop
  | .lst ds => ∃ a vs, v = .ref a ∧ SqL K H a vs ∧ RepL K W.F W.ρ vs ds
  | d => Rep K W.F W.ρ v d
theorem PkOk.of {v : V} {d : D} (s : Same W.F H) (r : Rep K W.F W.ρ v d) : PkOk K W H v d := by
  cases r with
  | lst h l => exact ⟨_, _, rfl, s.seq h, l⟩
  | non => exact .non
  | bl b => exact .bl b
  | int b => exact .int b
  | str b => exact .str b
  | ty b => exact .ty b
  | tup h l => exact .tup h l
  | ob h => exact .ob h
theorem PkOk.rep {v : V} {d : D} (s : Same W.F H) (h : PkOk K W H v d) : Rep K H W.ρ v d := by
  cases d with
  | lst ds => obtain ⟨a, vs, rfl, q, r⟩ := h; exact .lst q (r.mono s (List.prefix_refl _))
  | _ => exact Rep.mono s (List.prefix_refl _) h
theorem fs_get {j : Nat} {f : Str} {x : FV} : ∀ {vs : List (Str × V)} {fs : List (Str × FV)}, FsOk K W H j vs fs → fs.lookup f = some x → ∃ v, vs.lookup f = some v ∧ FvOk K W H j f v x
  | _, _, .nil, e => by cases e
  | _, _, .cons (f := g) h t, e => by
    rw [List.lookup_cons] at e ⊢
    cases c : f == g with
    | true =>
      rw [c] at e
      cases e
      rw [show f = g from eq_of_beq c]
      exact ⟨_, rfl, h⟩
    | false => rw [c] at e; exact fs_get t e
theorem peek_ok {st : St} {v : V} {ev : EV} {d : D} (I : Inv K cl W σ H st) (k : EvOk K W H σ v ev) (e : peek st ev = some d) : PkOk K W H v d := by
  cases ev with
  | dat x =>
    have k : Rep K W.F W.ρ v x := k
    cases x with
    | ob j =>
      unfold peek at e
      dsimp only at e
      split at e
      · rename_i ds es
        cases e
        obtain ⟨a, e1, e2, vs, e3, r⟩ := I.obs j _ es
        cases k with
        | ob h =>
          rw [h] at e1
          cases e1
          exact ⟨_, vs, rfl, SqL.of e3, r⟩
      · cases e
        exact k
    | _ => cases e; exact PkOk.of I.sub k
  | sl i =>
    unfold peek at e
    dsimp only at e
    have k : σ[i]? = some (some v) := k
    split at e
    · rename_i ds es
      cases e
      obtain ⟨p, h1, h2, vs, h3, r⟩ := I.slots i _ es
      rw [k] at h1
      cases h1
      exact ⟨_, vs, rfl, SqL.of h3, r⟩
    · rename_i ds es
      cases e
      obtain ⟨v', h1, r⟩ := I.slots i _ es
      rw [k] at h1
      cases h1
      exact PkOk.of I.sub r
    · cases e
  | io i =>
    unfold peek at e
    dsimp only at e
    obtain ⟨p, rfl, o⟩ := k
    split at e
    · rename_i ds es
      cases e
      obtain ⟨q, h2, vs, h3, r⟩ := I.ios i _ es
      cases I.inj p q _ o h2 (by simp)
      exact ⟨_, vs, rfl, SqL.of h3, r⟩
    · cases e
  | fl j f =>
    unfold peek at e
    dsimp only at e
    obtain ⟨p, rfl, o⟩ := k
    split at e
    · rename_i c fs es
      split at e
      · rename_i ds ef
        cases e
        obtain ⟨a, dx, vs, _, _, _, _, _, hf⟩ := I.obs j _ es
        obtain ⟨v, _, q, _, h2, us, h3, r⟩ := fs_get hf ef
        cases I.inj p q _ o h2 (by simp)
        exact ⟨_, us, rfl, SqL.of h3, r⟩
      · cases e
    · cases e
  | exc => cases e
  | tp b =>
    cases b with
    | dct _ => cases e
    | fz _ => cases e
    | lst ds =>
      cases e
      obtain ⟨p, rfl, _, _, vs, h3, r⟩ := k
      exact ⟨_, vs, rfl, SqL.of h3, r⟩
/-! ### operations that change nothing -/
def PkOp (K : Frag) (r : R2) (f : D → D → Option D) : Prop := ∀ (W : Wd) (H : Hp) (vx vy : V) (x y d : D), Same W.F H → PkOk K W H vx x → PkOk K W H vy y → f x y = some d → ∃ v, Rep K W.F W.ρ v d ∧ ∀ Q : VK, Q v H → r vx vy H Q
def mPk (f : D → D → Option D) (ma mb : M EV) : M EV := fun st => (ma st).bind fun a st1 => (mb st1).bind fun b st2 => match peek st2 a, peek st2 b with
  | some x, some y => match f x y with
    | some d => .ok (.dat d) st2
    | none => .stuck
  | _, _ => .stuck
theorem sE_pk {r : R2} {f : D → D → Option D} (hr : PkOp K r f) (ha : SimE K cl E ta ma) (hb : SimE K cl E tb mb) : SimE K cl E (tOp r ta tb) (mPk f ma mb) := by
  intro W σ H st I Q q
  refine ha W σ H st I _ (Res.imp (Res.bind q) fun a st1 W1 H1 _ I1 x1 q1 va ka => ?_)
  refine hb W1 σ H1 st1 I1 _ (Res.imp (Res.bind q1) fun b st2 W2 H2 _ I2 x2 q2 vb kb => ?_)
  replace ka := ka.ext x2
  split at q2
  · rename_i x y ex ey
    split at q2
    · rename_i d e
      obtain ⟨v, rv, k⟩ := hr W2 H2 va vb x y d I2.sub (peek_ok I2 ka ex) (peek_ok I2 kb ey) e
      exact k Q (q2.now I2 v rv)
    · exact q2.elim
  · exact q2.elim
theorem pk_sc {vx : V} {x : D} {w : V} (h : scV x = some w) (k : PkOk K W H vx x) : vx = w := by
  cases x <;> first | cases h; cases k; rfl | cases h
/-- by the plain values -/
theorem PkOp.sc {r : R2} {f : D → D → Option D} (h : ∀ x y d, f x y = some d → ∃ vx vy vd, scV x = some vx ∧ scV y = some vy ∧ scV d = some vd ∧ ∀ (H : Hp) (Q : VK), Q vd H → r vx vy H Q) : PkOp K r f := by
  intro W H vx vy x y d s kx ky e
  obtain ⟨wx, wy, wd, ex, ey, ed, k⟩ := h x y d e
  exact ⟨wd, scV_mk ed, fun Q q => by rw [pk_sc ex kx, pk_sc ey ky]; exact k H Q q⟩
open Classical in
noncomputable def iOp (C : Int → Int → Prop) (g : Int → Int → D) : D → D → Option D
  | .int i, .int j => if C i j then some (g i j) else none
  | _, _ => none
theorem iOp_of {C : Int → Int → Prop} {g : Int → Int → D} {x y d : D} (e : iOp C g x y = some d) : ∃ i j, x = .int i ∧ y = .int j ∧ C i j ∧ d = g i j := by
  unfold iOp at e
  split at e
  · rename_i i j
    split at e
    · cases e; exact ⟨i, j, rfl, rfl, ‹_›, rfl⟩
    · cases e
  · cases e
theorem pk_rI {C : Int → Int → Prop} {g : Int → Int → D} {g' : Int → Int → V} (h : ∀ i j, scV (g i j) = some (g' i j)) : PkOp K (rI C g') (iOp C g) := PkOp.sc fun x y d e => by
  obtain ⟨i, j, rfl, rfl, c, rfl⟩ := iOp_of e
  exact ⟨_, _, _, rfl, rfl, h i j, fun H Q q => ⟨i, j, rfl, rfl, c, q⟩⟩
theorem pk_rI0 {g : Int → Int → D} {g' : Int → Int → V} (h : ∀ i j, scV (g i j) = some (g' i j)) : PkOp K (rI0 g') (iOp (fun _ _ => True) g) := PkOp.sc fun x y d e => by
  obtain ⟨i, j, rfl, rfl, c, rfl⟩ := iOp_of e
  exact ⟨_, _, _, rfl, rfl, h i j, fun H Q q => ⟨i, j, rfl, rfl, q⟩⟩
noncomputable abbrev fAdd := iOp (fun _ _ => True) fun i j => .int (i + j)
noncomputable abbrev fSub := iOp (fun _ _ => True) fun i j => .int (i - j)
noncomputable abbrev fMul := iOp CMulX fun i j => .int (i * j)
noncomputable abbrev fDiv := iOp CDivW fun i j => .int (i / j)
noncomputable abbrev fMod := iOp (fun _ j => 0 < j) fun i j => .int (i % j)
noncomputable abbrev fPow := iOp CPow fun i j => .int (i ^ j.toNat)
noncomputable abbrev fLt := iOp (fun _ _ => True) fun i j => .bl (decide (i < j))
noncomputable abbrev fLe := iOp (fun _ _ => True) fun i j => .bl (decide (i ≤ j))
noncomputable abbrev fGt := iOp (fun _ _ => True) fun i j => .bl (decide (j < i))
noncomputable abbrev fGe := iOp (fun _ _ => True) fun i j => .bl (decide (j ≤ i))
theorem pk_add : PkOp K (rI0 fun i j => .int (i + j)) fAdd := pk_rI0 fun _ _ => rfl
theorem pk_sub : PkOp K (rI0 fun i j => .int (i - j)) fSub := pk_rI0 fun _ _ => rfl
theorem pk_mul : PkOp K (rI CMulX fun i j => .int (i * j)) fMul := pk_rI fun _ _ => rfl
theorem pk_div : PkOp K (rI CDivW fun i j => .int (i / j)) fDiv := pk_rI fun _ _ => rfl
theorem pk_mod : PkOp K (rI (fun _ j => 0 < j) fun i j => .int (i % j)) fMod := pk_rI fun _ _ => rfl
theorem pk_pow : PkOp K (rI CPow fun i j => .int (i ^ j.toNat)) fPow := pk_rI fun _ _ => rfl
theorem pk_lt : PkOp K (rI0 fun i j => .bl (decide (i < j))) fLt := pk_rI0 fun _ _ => rfl
theorem pk_le : PkOp K (rI0 fun i j => .bl (decide (i ≤ j))) fLe := pk_rI0 fun _ _ => rfl
theorem pk_gt : PkOp K (rI0 fun i j => .bl (decide (j < i))) fGt := pk_rI0 fun _ _ => rfl
theorem pk_ge : PkOp K (rI0 fun i j => .bl (decide (j ≤ i))) fGe := pk_rI0 fun _ _ => rfl
open Classical in
noncomputable def sOp (C : Str → Str → Prop) (g : Str → Str → D) : D → D → Option D
  | .str i, .str j => if C i j then some (g i j) else none
  | _, _ => none
theorem sOp_of {C : Str → Str → Prop} {g : Str → Str → D} {x y d : D} (e : sOp C g x y = some d) : ∃ i j, x = .str i ∧ y = .str j ∧ C i j ∧ d = g i j := by
  unfold sOp at e
  split at e
  · rename_i i j
    split at e
    · cases e; exact ⟨i, j, rfl, rfl, ‹_›, rfl⟩
    · cases e
  · cases e
noncomputable abbrev fCat := sOp (fun i j => i.length + j.length ≤ sizeLine) fun i j => .str (i ++ j)
theorem pk_cat : PkOp K (fun x y H Q => ∃ i j, x = .str i ∧ y = .str j ∧ i.length + j.length ≤ sizeLine ∧ Q (.str (i ++ j)) H) fCat := PkOp.sc fun x y d e => by
  obtain ⟨i, j, rfl, rfl, c, rfl⟩ := sOp_of e
  exact ⟨_, _, _, rfl, rfl, rfl, fun H Q q => ⟨i, j, rfl, rfl, c, q⟩⟩
noncomputable abbrev fInS := sOp (fun _ _ => True) fun i j => .bl (!(Builtin.Str.occurrences j i 0 j.length 1).isEmpty)
noncomputable abbrev fNinS := sOp (fun _ _ => True) fun i j => .bl (!(!(Builtin.Str.occurrences j i 0 j.length 1).isEmpty))
theorem pk_inS : PkOp K (fun x y H Q => ∃ i j, x = .str i ∧ y = .str j ∧ Q (.bl (!(Builtin.Str.occurrences j i 0 j.length 1).isEmpty)) H) fInS := PkOp.sc fun x y d e => by
  obtain ⟨i, j, rfl, rfl, c, rfl⟩ := sOp_of e
  exact ⟨_, _, _, rfl, rfl, rfl, fun H Q q => ⟨i, j, rfl, rfl, q⟩⟩
theorem pk_ninS : PkOp K (fun x y H Q => ∃ i j, x = .str i ∧ y = .str j ∧ Q (.bl (!(!(Builtin.Str.occurrences j i 0 j.length 1).isEmpty))) H) fNinS := PkOp.sc fun x y d e => by
  obtain ⟨i, j, rfl, rfl, c, rfl⟩ := sOp_of e
  exact ⟨_, _, _, rfl, rfl, rfl, fun H Q q => ⟨i, j, rfl, rfl, q⟩⟩
def fEq (x y : D) : Option D := match scV x, scV y with
  | some a, some b => if scal a b = true then some (.bl (decide (a = b))) else none
  | _, _ => none
def fNe (x y : D) : Option D := match scV x, scV y with
  | some a, some b => if scal a b = true then some (.bl (!decide (a = b))) else none
  | _, _ => none
theorem pk_eq : PkOp K rEq fEq := PkOp.sc fun x y d e => by
  unfold fEq at e
  split at e
  · rename_i a b ea eb
    split at e
    · rename_i c
      cases e
      exact ⟨a, b, _, ea, eb, rfl, fun H Q q => ⟨c, q⟩⟩
    · cases e
  · cases e
theorem pk_ne : PkOp K rNe fNe := PkOp.sc fun x y d e => by
  unfold fNe at e
  split at e
  · rename_i a b ea eb
    split at e
    · rename_i c
      cases e
      exact ⟨a, b, _, ea, eb, rfl, fun H Q q => ⟨c, q⟩⟩
    · cases e
  · cases e

def isNon : D → Bool
  | .non => true
  | _ => false
def fIsN (x y : D) : Option D := match y with
  | .non => some (.bl (isNon x))
  | _ => none
def fNotN (x y : D) : Option D := match y with
  | .non => some (.bl (!isNon x))
  | _ => none
theorem rep_non {F : Hp} {ρ : List Addr} {v : V} {d : D} (h : Rep K F ρ v d) : decide (v = .non) = isNon d := by
  cases h <;> simp [isNon]
theorem pk_non {v : V} {d : D} (s : Same W.F H) (h : PkOk K W H v d) : decide (v = .non) = isNon d := rep_non (h.rep s)
theorem pk_isN : PkOp K (fun x y H Q => y = .non ∧ Q (.bl (decide (x = .non))) H) fIsN := by
  intro W H vx vy x y d s kx ky e
  unfold fIsN at e
  split at e
  · cases e
    refine ⟨_, .bl _, fun Q q => ⟨?_, by rw [pk_non s kx]; exact q⟩⟩
    cases ky; rfl
  · cases e
theorem pk_notN : PkOp K (fun x y H Q => y = .non ∧ Q (.bl (!decide (x = .non))) H) fNotN := by
  intro W H vx vy x y d s kx ky e
  unfold fNotN at e
  split at e
  · cases e
    refine ⟨_, .bl _, fun Q q => ⟨?_, by rw [pk_non s kx]; exact q⟩⟩
    cases ky; rfl
  · cases e
/-! ### items -/
theorem atI_rep {F : Hp} {ρ : List Addr} {vs : List V} {ds : List D} {i : Int} {d : D} (r : RepL K F ρ vs ds) (e : atI ds i = some d) : ∃ v, atI vs i = some v ∧ Rep K F ρ v d := by
  unfold atI at e ⊢
  rw [r.len]
  cases h : ixN ds.length i with
  | none => rw [h] at e; cases e
  | some j =>
    rw [h] at e
    obtain ⟨v, ev, rv⟩ := r.get e
    exact ⟨v, ev, rv⟩
def fIxL : D → D → Option D
  | .lst ds, .int i => atI ds i
  | _, _ => none
def fIxT : D → D → Option D
  | .tup ds, .int i => atI ds i
  | _, _ => none
def fIxS : D → D → Option D
  | .str z, .int i => if z.length ≤ sizeLine then (atI z.cps.toList i).map fun c => .str ⟨#[c]⟩ else none
  | _, _ => none
theorem pk_ixL : PkOp K (rIxL K) fIxL := by
  intro W H vx vy x y d s kx ky e
  unfold fIxL at e
  split at e
  · obtain ⟨a, vs, rfl, q, r⟩ := kx
    cases ky
    obtain ⟨v, ev, rv⟩ := atI_rep r e
    exact ⟨v, rv, fun Q k => ⟨a, vs, _, v, rfl, rfl, q, ev, k⟩⟩
  · cases e
theorem pk_ixT : PkOp K (rIxT K) fIxT := by
  intro W H vx vy x y d s kx ky e
  unfold fIxT at e
  split at e
  · cases kx with
    | tup h r =>
      cases ky
      obtain ⟨v, ev, rv⟩ := atI_rep r e
      exact ⟨v, rv, fun Q k => ⟨_, _, _, v, rfl, rfl, Kv.same_tup s h, ev, k⟩⟩
  · cases e
theorem pk_ixS : PkOp K rIxS fIxS := by
  intro W H vx vy x y d s kx ky e
  unfold fIxS at e
  split at e
  · rename_i z i
    cases kx
    cases ky
    split at e
    · rename_i hl
      cases h : atI z.cps.toList i with
      | none => rw [h] at e; cases e
      | some c => rw [h] at e; cases e; exact ⟨_, .str _, fun Q k => ⟨_, _, c, rfl, rfl, hl, h, k⟩⟩
    · cases e
  · cases e
/-! ### in -/
def scL : List D → Option (List V)
  | [] => some []
  | d :: r => match scV d, scL r with
    | some v, some vs => some (v :: vs)
    | _, _ => none
theorem scL_rep {F : Hp} {ρ : List Addr} : ∀ {ds : List D} {vs ws : List V}, scL ds = some ws → RepL K F ρ vs ds → vs = ws
  | [], _, _, e, .nil => by cases e; rfl
  | d :: r, _, _, e, .cons h t => by
    unfold scL at e
    split at e
    · rename_i v vs e1 e2
      cases e
      rw [scV_rep e1 h, scL_rep e2 t]
    · cases e
def fIn (neg : Bool) (x y : D) : Option D := match y with
  | .lst ds | .tup ds => match scV x, scL ds with
    | some v, some vs => if flatV v = true ∧ vs.all flatV = true then some (.bl (if neg then !inV v vs else inV v vs)) else none
    | _, _ => none
  | _ => none
theorem pk_in {neg : Bool} : PkOp K (rIn K neg) (fIn neg) := by
  intro W H vx vy x y d s kx ky e
  have main : ∀ (p : Addr) (us : List V) (ds : List D), (SqL K H p us ∨ SqT K H p us) → RepL K W.F W.ρ us ds → (match scV x, scL ds with
      | some v, some vs => if flatV v = true ∧ vs.all flatV = true then some (.bl (if neg then !inV v vs else inV v vs)) else none
      | _, _ => none) = some d → ∃ v, Rep K W.F W.ρ v d ∧ ∀ Q : VK, Q v H → rIn K neg vx (.ref p) H Q := by
    intro p us ds hq r e
    split at e
    · rename_i v vs e1 e2
      split at e
      · rename_i c
        cases e
        rw [pk_sc e1 kx, ← scL_rep e2 r]
        rw [← scL_rep e2 r] at c
        exact ⟨_, .bl _, fun Q k => ⟨p, us, rfl, hq, c.1, c.2, k⟩⟩
      · cases e
    · cases e
  unfold fIn at e
  split at e
  · obtain ⟨a, vs, rfl, q, r⟩ := ky
    exact main a vs _ (.inl q) r e
  · cases ky with
    | tup h r => exact main _ _ _ (.inr (Kv.same_tup s h)) r e
  · cases e
/-! ### == at any depth -/
mutual
def D.pd : D → Option PyData
  | .non => some .none
  | .bl b => some (.bool b)
  | .int i => some (.int i)
  | .str s => some (.str s)
  | .tup ds => (pdL ds).map .tuple
  | .lst ds => (pdL ds).map .list
  | _ => none
def pdL : List D → Option (List PyData)
  | [] => some []
  | d :: r => match d.pd, pdL r with
    | some x, some xs => some (x :: xs)
    | _, _ => none
end
mutual
theorem dp_of {F : Hp} {ρ : List Addr} : ∀ {d : D} {v : V} {x : PyData}, Rep K F ρ v d → d.pd = some x → Dp K F v x
  | .non, _, _, .non, e => by unfold D.pd at e; cases e; exact .non
  | .bl _, _, _, .bl b, e => by unfold D.pd at e; cases e; exact .bl b
  | .int _, _, _, .int b, e => by unfold D.pd at e; cases e; exact .int b
  | .str _, _, _, .str b, e => by unfold D.pd at e; cases e; exact .str b
  | .ty _, _, _, .ty b, e => by unfold D.pd at e; cases e
  | .tup ds, _, _, .tup h r, e => by
    unfold D.pd at e
    cases c : pdL ds with
    | none => rw [c] at e; cases e
    | some xs => rw [c] at e; cases e; exact .tup h (dps_of r c)
  | .lst ds, _, _, .lst h r, e => by
    unfold D.pd at e
    cases c : pdL ds with
    | none => rw [c] at e; cases e
    | some xs => rw [c] at e; cases e; exact .lst h (dps_of r c)
  | .ob j, _, _, .ob h, e => by unfold D.pd at e; cases e
theorem dps_of {F : Hp} {ρ : List Addr} : ∀ {ds : List D} {vs : List V} {xs : List PyData}, RepL K F ρ vs ds → pdL ds = some xs → DpAll K F vs xs
  | [], _, _, .nil, e => by unfold pdL at e; cases e; exact .nil
  | d :: r, _, _, .cons h t, e => by
    unfold pdL at e
    split at e
    · rename_i x xs e1 e2
      cases e
      exact .cons (dp_of h e1) (dps_of t e2)
    · cases e
end
def fEqD (x y : D) : Option D := match x.pd, y.pd with
  | some a, some b => if SeqAt.shaped a = true ∧ SeqAt.shaped b = true then some (.bl (PyData.eqv a b)) else none
  | _, _ => none
def fNeD (x y : D) : Option D := match x.pd, y.pd with
  | some a, some b => if SeqAt.shaped a = true ∧ SeqAt.shaped b = true then some (.bl (!PyData.eqv a b)) else none
  | _, _ => none
theorem pk_eqD : PkOp K (rEqD K) fEqD := by
  intro W H vx vy x y d s kx ky e
  unfold fEqD at e
  split at e
  · rename_i a b e1 e2
    split at e
    · rename_i c
      cases e
      exact ⟨_, .bl _, fun Q k => ⟨a, b, dp_of (kx.rep s) e1, dp_of (ky.rep s) e2, c.1, c.2, k⟩⟩
    · cases e
  · cases e
theorem pk_neD : PkOp K (rNeD K) fNeD := by
  intro W H vx vy x y d s kx ky e
  unfold fNeD at e
  split at e
  · rename_i a b e1 e2
    split at e
    · rename_i c
      cases e
      exact ⟨_, .bl _, fun Q k => ⟨a, b, dp_of (kx.rep s) e1, dp_of (ky.rep s) e2, c.1, c.2, k⟩⟩
    · cases e
  · cases e
/-! ### built-ins -/
inductive PksOk (K : Frag) (W : Wd) (H : Hp) : List V → List D → Prop
  | nil : PksOk K W H [] []
  | cons {v : V} {d : D} {vs : List V} {ds : List D} : PkOk K W H v d → PksOk K W H vs ds → PksOk K W H (v :: vs) (d :: ds)
def peeks (st : St) : List EV → Option (List D)
  | [] => some []
  | e :: r => match peek st e, peeks st r with
    | some d, some ds => some (d :: ds)
    | _, _ => none
theorem peeks_ok {st : St} (I : Inv K cl W σ H st) : ∀ {evs : List EV} {vs : List V} {ds : List D}, EvsOk K W H σ vs evs → peeks st evs = some ds → PksOk K W H vs ds
  | [], _, _, .nil, e => by cases e; exact .nil
  | ev :: r, _, _, .cons k t, e => by
    unfold peeks at e
    split at e
    · rename_i d ds e1 e2
      cases e
      exact .cons (peek_ok I k e1) (peeks_ok I t e2)
    · cases e
def PkC (K : Frag) (r : List V → Hp → VK → Prop) (f : List D → Option D) : Prop := ∀ (W : Wd) (H : Hp) (vs : List V) (ds : List D) (d : D), Same W.F H → PksOk K W H vs ds → f ds = some d → ∃ v, Rep K W.F W.ρ v d ∧ ∀ Q : VK, Q v H → r vs H Q
def mPkC (f : List D → Option D) (ma : M (List EV)) : M EV := fun st => (ma st).bind fun evs st1 => match peeks st1 evs with
  | some ds => match f ds with
    | some d => .ok (.dat d) st1
    | none => .stuck
  | none => .stuck
theorem sE_pkC {r : List V → Hp → VK → Prop} {f : List D → Option D} {t : TA} {mt : M (List EV)} (hr : PkC K r f) (ha : SimA K cl E t mt) : SimE K cl E (tCB r t) (mPkC f mt) := by
  intro W σ H st I Q q
  refine ha W σ H st I _ (Res.imp (Res.bind q) fun evs st1 W1 H1 _ I1 x1 q1 vs ks _ => ?_)
  split at q1
  · rename_i ds e1
    split at q1
    · rename_i d e
      obtain ⟨v, rv, k⟩ := hr W1 H1 vs ds d I1.sub (peeks_ok I1 ks e1) e
      exact k Q (q1.now I1 v rv)
    · exact q1.elim
  · exact q1.elim
def fLenQ : List D → Option D
  | [.lst ds] => some (.int ds.length)
  | [.tup ds] => some (.int ds.length)
  | _ => none
theorem pk_lenQ : PkC K (fun xs H Q => ∃ p ys, xs = [.ref p] ∧ (SqL K H p ys ∨ SqT K H p ys) ∧ Q (.int ys.length) H) fLenQ := by
  intro W H vs ds d s ks e
  unfold fLenQ at e
  split at e
  · cases e
    cases ks with
    | cons k t =>
      cases t
      obtain ⟨a, us, rfl, q, r⟩ := k
      exact ⟨_, .int _, fun Q k => ⟨a, us, rfl, .inl q, by rw [r.len]; exact k⟩⟩
  · cases e
    cases ks with
    | cons k t =>
      cases t
      cases k with
      | tup h r => exact ⟨_, .int _, fun Q k => ⟨_, _, rfl, .inr (Kv.same_tup s h), by rw [r.len]; exact k⟩⟩
  · cases e
def fLenS : List D → Option D
  | [.str z] => if z.length ≤ sizeLine then some (.int z.length) else none
  | _ => none
theorem pk_lenS : PkC K (fun xs H Q => ∃ z, xs = [.str z] ∧ z.length ≤ sizeLine ∧ Q (.int z.length) H) fLenS := by
  intro W H vs ds d s ks e
  unfold fLenS at e
  split at e
  · split at e
    · rename_i c
      cases e
      cases ks with
      | cons k t => cases t; cases k; exact ⟨_, .int _, fun Q k => ⟨_, rfl, c, k⟩⟩
    · cases e
  · cases e
/-- by the plain values -/
theorem PkC.sc {r : List V → Hp → VK → Prop} {f : List D → Option D} (h : ∀ ds d, f ds = some d → ∃ vs vd, scL ds = some vs ∧ scV d = some vd ∧ ∀ (H : Hp) (Q : VK), Q vd H → r vs H Q) : PkC K r f := by
  intro W H vs ds d s ks e
  obtain ⟨ws, wd, es, ed, k⟩ := h ds d e
  have main : ∀ {ds : List D} {vs ws : List V}, PksOk K W H vs ds → scL ds = some ws → vs = ws := by
    intro ds vs ws ks
    induction ks generalizing ws with
    | nil => intro e; cases e; rfl
    | cons k t ih =>
      intro e
      unfold scL at e
      split at e
      · rename_i v vs e1 e2
        cases e
        rw [pk_sc e1 k, ih e2]
      · cases e
  exact ⟨wd, scV_mk ed, fun Q q => by rw [main ks es]; exact k H Q q⟩
def fAbs : List D → Option D
  | [.int i] => some (.int (if i < 0 then -i else i))
  | _ => none
theorem pk_abs : PkC K (fun xs H Q => ∃ i, xs = [.int i] ∧ Q (.int (if i < 0 then -i else i)) H) fAbs := PkC.sc fun ds d e => by
  unfold fAbs at e
  split at e
  · cases e; exact ⟨_, _, rfl, rfl, fun H Q q => ⟨_, rfl, q⟩⟩
  · cases e
def fMax2 : List D → Option D
  | [.int i, .int j] => some (.int (if j > i then j else i))
  | _ => none
theorem pk_max2 : PkC K (fun xs H Q => ∃ i j, xs = [.int i, .int j] ∧ Q (.int (if j > i then j else i)) H) fMax2 := PkC.sc fun ds d e => by
  unfold fMax2 at e
  split at e
  · cases e; exact ⟨_, _, rfl, rfl, fun H Q q => ⟨_, _, rfl, q⟩⟩
  · cases e
def fMin2 : List D → Option D
  | [.int i, .int j] => some (.int (if j < i then j else i))
  | _ => none
theorem pk_min2 : PkC K (fun xs H Q => ∃ i j, xs = [.int i, .int j] ∧ Q (.int (if j < i then j else i)) H) fMin2 := PkC.sc fun ds d e => by
  unfold fMin2 at e
  split at e
  · cases e; exact ⟨_, _, rfl, rfl, fun H Q q => ⟨_, _, rfl, q⟩⟩
  · cases e
def fInt1 : List D → Option D
  | [.int i] => some (.int i)
  | [.bl k] => some (.int (if k then 1 else 0))
  | _ => none
theorem pk_int1 : PkC K (fun xs H Q => (∃ i, xs = [.int i] ∧ Q (.int i) H) ∨ ∃ k, xs = [.bl k] ∧ Q (.int (if k then 1 else 0)) H) fInt1 := PkC.sc fun ds d e => by
  unfold fInt1 at e
  split at e
  · cases e; exact ⟨_, _, rfl, rfl, fun H Q q => .inl ⟨_, rfl, q⟩⟩
  · cases e; exact ⟨_, _, rfl, rfl, fun H Q q => .inr ⟨_, rfl, q⟩⟩
  · cases e
def fStrI : List D → Option D
  | [.int i] => if i.natAbs.log2 < 1920 then some (.str (toString i)) else none
  | _ => none
theorem pk_strI : PkC K (fun xs H Q => ∃ i, xs = [.int i] ∧ i.natAbs.log2 < 1920 ∧ Q (.str (toString i)) H) fStrI := PkC.sc fun ds d e => by
  unfold fStrI at e
  split at e
  · split at e
    · rename_i c; cases e; exact ⟨_, _, rfl, rfl, fun H Q q => ⟨_, rfl, c, q⟩⟩
    · cases e
  · cases e
def fOrd : List D → Option D
  | [.str x] => if x.length = 1 then some (.int (x.cps.getD 0 0 : Nat)) else none
  | _ => none
theorem pk_ord : PkC K (fun xs H Q => ∃ x, xs = [.str x] ∧ x.length = 1 ∧ Q (.int (x.cps.getD 0 0 : Nat)) H) fOrd := PkC.sc fun ds d e => by
  unfold fOrd at e
  split at e
  · split at e
    · rename_i c; cases e; exact ⟨_, _, rfl, rfl, fun H Q q => ⟨_, rfl, c, q⟩⟩
    · cases e
  · cases e
def fIntS : List D → Option D
  | [.str a] => match PySem.intText? a with
    | some n => if a.length ≤ 640 then some (.int n) else none
    | none => none
  | _ => none
theorem pk_intS : PkC K (fun xs H Q => ∃ a n, xs = [.str a] ∧ PySem.intText? a = some n ∧ a.length ≤ 640 ∧ Q (.int n) H) fIntS := PkC.sc fun ds d e => by
  unfold fIntS at e
  split at e
  · split at e
    · rename_i n en
      split at e
      · rename_i c; cases e; exact ⟨_, _, rfl, rfl, fun H Q q => ⟨_, n, rfl, en, c, q⟩⟩
      · cases e
    · cases e
  · cases e
def intsD : List D → Option (List Int)
  | [] => some []
  | .int i :: r => (intsD r).map (i :: ·)
  | _ => none
theorem intsD_rep {F : Hp} {ρ : List Addr} : ∀ {ds : List D} {vs : List V} {ns : List Int}, intsD ds = some ns → RepL K F ρ vs ds → vs = ns.map V.int
  | [], _, _, e, .nil => by cases e; rfl
  | .int i :: r, _, _, e, .cons h t => by
    unfold intsD at e
    cases c : intsD r with
    | none => rw [c] at e; cases e
    | some ns => rw [c] at e; cases e; cases h; rw [List.map_cons, intsD_rep c t]
  | .non :: _, _, _, e, .cons _ _ => by cases e
  | .bl _ :: _, _, _, e, .cons _ _ => by cases e
  | .str _ :: _, _, _, e, .cons _ _ => by cases e
  | .tup _ :: _, _, _, e, .cons _ _ => by cases e
  | .lst _ :: _, _, _, e, .cons _ _ => by cases e
  | .ob _ :: _, _, _, e, .cons _ _ => by cases e
  | .ty _ :: _, _, _, e, .cons _ _ => by cases e
def bsD : List D → Option (List Bool)
  | [] => some []
  | .bl i :: r => (bsD r).map (i :: ·)
  | _ => none
theorem bsD_rep {F : Hp} {ρ : List Addr} : ∀ {ds : List D} {vs : List V} {ns : List Bool}, bsD ds = some ns → RepL K F ρ vs ds → vs = ns.map V.bl
  | [], _, _, e, .nil => by cases e; rfl
  | .bl i :: r, _, _, e, .cons h t => by
    unfold bsD at e
    cases c : bsD r with
    | none => rw [c] at e; cases e
    | some ns => rw [c] at e; cases e; cases h; rw [List.map_cons, bsD_rep c t]
  | .non :: _, _, _, e, .cons _ _ => by cases e
  | .int _ :: _, _, _, e, .cons _ _ => by cases e
  | .str _ :: _, _, _, e, .cons _ _ => by cases e
  | .tup _ :: _, _, _, e, .cons _ _ => by cases e
  | .lst _ :: _, _, _, e, .cons _ _ => by cases e
  | .ob _ :: _, _, _, e, .cons _ _ => by cases e
  | .ty _ :: _, _, _, e, .cons _ _ => by cases e
def strsD : List D → Option (List Str)
  | [] => some []
  | .str i :: r => (strsD r).map (i :: ·)
  | _ => none
theorem strsD_rep {F : Hp} {ρ : List Addr} : ∀ {ds : List D} {vs : List V} {ns : List Str}, strsD ds = some ns → RepL K F ρ vs ds → vs = ns.map V.str
  | [], _, _, e, .nil => by cases e; rfl
  | .str i :: r, _, _, e, .cons h t => by
    unfold strsD at e
    cases c : strsD r with
    | none => rw [c] at e; cases e
    | some ns => rw [c] at e; cases e; cases h; rw [List.map_cons, strsD_rep c t]
  | .non :: _, _, _, e, .cons _ _ => by cases e
  | .int _ :: _, _, _, e, .cons _ _ => by cases e
  | .bl _ :: _, _, _, e, .cons _ _ => by cases e
  | .tup _ :: _, _, _, e, .cons _ _ => by cases e
  | .lst _ :: _, _, _, e, .cons _ _ => by cases e
  | .ob _ :: _, _, _, e, .cons _ _ => by cases e
  | .ty _ :: _, _, _, e, .cons _ _ => by cases e
theorem intsD_map : ∀ ns : List Int, intsD (ns.map D.int) = some ns
  | [] => rfl
  | i :: r => by rw [List.map_cons, intsD, intsD_map r]; rfl
theorem bsD_map : ∀ ns : List Bool, bsD (ns.map D.bl) = some ns
  | [] => rfl
  | i :: r => by rw [List.map_cons, bsD, bsD_map r]; rfl
theorem strsD_map : ∀ ns : List Str, strsD (ns.map D.str) = some ns
  | [] => rfl
  | i :: r => by rw [List.map_cons, strsD, strsD_map r]; rfl
def fSum : List D → Option D
  | [.lst ds] => (intsD ds).map fun ns => .int ns.sum
  | _ => none
theorem pk_sum : PkC K (rSum K) fSum := by
  intro W H vs ds d s ks e
  unfold fSum at e
  split at e
  · rename_i es
    cases ks with
    | cons k t =>
      cases t
      obtain ⟨a, us, rfl, q, r⟩ := k
      cases c : intsD es with
      | none => rw [c] at e; cases e
      | some ns =>
        rw [c] at e
        cases e
        rw [intsD_rep c r] at q
        exact ⟨_, .int _, fun Q k => ⟨a, ns, rfl, q, k⟩⟩
  · cases e
def fAll : List D → Option D
  | [.lst ds] => (bsD ds).map fun ns => .bl (ns.all id)
  | _ => none
theorem pk_all : PkC K (rAll K) fAll := by
  intro W H vs ds d s ks e
  unfold fAll at e
  split at e
  · rename_i es
    cases ks with
    | cons k t =>
      cases t
      obtain ⟨a, us, rfl, q, r⟩ := k
      cases c : bsD es with
      | none => rw [c] at e; cases e
      | some ns =>
        rw [c] at e
        cases e
        rw [bsD_rep c r] at q
        exact ⟨_, .bl _, fun Q k => ⟨a, ns, rfl, q, k⟩⟩
  · cases e
end
end Mi

set_option Elab.async false
set_option linter.all false
set_option maxRecDepth 100000
set_option maxHeartbeats 4000000
namespace Mi
open PySem PySem.Spec PyProof.Rows L2
section
variable {K : Frag} {cl : (Str → Addr) × Addr × Bool} {E : Kv.Er → L2.St → Hp → Prop} {W : Wd} {σ : L2.St} {H : Hp} {ta tb tc : TE} {ma mb mc : M EV}
/-! ### one place -/
def PkUn (K : Frag) (r : V → Hp → VK → Prop) (f : D → Option D) : Prop := ∀ (W : Wd) (H : Hp) (vx : V) (x d : D), Same W.F H → PkOk K W H vx x → f x = some d → ∃ v, Rep K W.F W.ρ v d ∧ ∀ Q : VK, Q v H → r vx H Q
def mUn (f : D → Option D) (ma : M EV) : M EV := fun st => (ma st).bind fun a st1 => match peek st1 a with
  | some x => match f x with
    | some d => .ok (.dat d) st1
    | none => .stuck
  | none => .stuck
theorem sE_un {r : V → Hp → VK → Prop} {f : D → Option D} (hr : PkUn K r f) (ha : SimE K cl E ta ma) : SimE K cl E (tUn r ta) (mUn f ma) := by
  intro W σ H st I Q q
  refine ha W σ H st I _ (Res.imp (Res.bind q) fun a st1 W1 H1 hm1 I1 x1 q1 va ka => ?_)
  split at q1
  · rename_i x ex
    split at q1
    · rename_i d e
      obtain ⟨v, rv, k⟩ := hr W1 H1 va x d I1.sub (peek_ok I1 ka ex) e
      exact k Q (q1.now I1 v rv)
    · exact q1.elim
  · exact q1.elim
def fNeg : D → Option D
  | .int i => some (.int (-i))
  | _ => none
theorem pk_neg : PkUn K (rU fun i => .int (-i)) fNeg := by
  intro W H vx x d s kx e
  unfold fNeg at e
  split at e
  · cases e; cases kx; exact ⟨_, .int _, fun Q q => ⟨_, rfl, q⟩⟩
  · cases e
/-! ### texts' methods -/
def PkM1 (K : Frag) (r : V → List V → Hp → VK → Prop) (f : D → D → Option D) : Prop := ∀ (W : Wd) (H : Hp) (vx vy : V) (x y d : D), Same W.F H → PkOk K W H vx x → PkOk K W H vy y → f x y = some d → ∃ v, Rep K W.F W.ρ v d ∧ ∀ Q : VK, Q v H → r vx [vy] H Q
/-- the text first, then the argument -/
def mM1 (f : D → D → Option D) (ma mb : M EV) : M EV := fun st => (ma st).bind fun a st1 => match a with
  | .dat (.str z) => (mb st1).bind fun b st2 => match peek st2 b with
    | some y => match f (.str z) y with
      | some d => .ok (.dat d) st2
      | none => .stuck
    | none => .stuck
  | _ => .stuck
theorem sE_tM1 {r : V → List V → Hp → VK → Prop} {f : D → D → Option D} (hr : PkM1 K r f) (ha : SimE K cl E ta ma) (hb : SimE K cl E tb mb) : SimE K cl E (tM1 r ta tb) (mM1 f ma mb) := by
  intro W σ H st I Q q
  refine ha W σ H st I _ (Res.imp (Res.bind q) fun a st1 W1 H1 hm1 I1 x1 q1 va ka => ?_)
  split at q1
  · rename_i z
    cases ka
    refine ⟨⟨_, rfl⟩, hb W1 σ H1 st1 I1 _ (Res.imp (Res.bind q1) fun b st2 W2 H2 hm2 I2 x2 q2 vb kb => ?_)⟩
    split at q2
    · rename_i y ey
      split at q2
      · rename_i d e
        obtain ⟨v, rv, k⟩ := hr W2 H2 (.str z) vb (.str z) y d I2.sub (.str z) (peek_ok I2 kb ey) e
        exact k Q (q2.now I2 v rv)
      · exact q2.elim
    · exact q2.elim
  · exact q1.elim
theorem sE_tBM {r : V → List V → Hp → VK → Prop} {f : D → D → Option D} (hr : PkM1 K r f) (ha : SimE K cl E ta ma) (hb : SimE K cl E tb mb) : SimE K cl E (tBM K "str" r ta (tCons tb tNil)) (mM1 f ma mb) := by
  intro W σ H st I Q q
  refine ha W σ H st I _ (Res.imp (Res.bind q) fun a st1 W1 H1 hm1 I1 x1 q1 va ka => ?_)
  split at q1
  · rename_i z
    cases ka
    refine ⟨rfl, hb W1 σ H1 st1 I1 _ (Res.imp (Res.bind q1) fun b st2 W2 H2 hm2 I2 x2 q2 vb kb => ?_)⟩
    split at q2
    · rename_i y ey
      split at q2
      · rename_i d e
        obtain ⟨v, rv, k⟩ := hr W2 H2 (.str z) vb (.str z) y d I2.sub (.str z) (peek_ok I2 kb ey) e
        exact k Q (q2.now I2 v rv)
      · exact q2.elim
    · exact q2.elim
  · exact q1.elim
def PkM0 (r : V → List V → Hp → VK → Prop) (f : Str → Option D) : Prop := ∀ (z : Str) (d : D), f z = some d → ∃ vd, scV d = some vd ∧ ∀ (H : Hp) (Q : VK), Q vd H → r (.str z) [] H Q
def mM0 (f : Str → Option D) (ma : M EV) : M EV := fun st => (ma st).bind fun a st1 => match a with
  | .dat (.str z) => match f z with
      | some d => .ok (.dat d) st1
      | none => .stuck
  | _ => .stuck
theorem sE_tBM0 {r : V → List V → Hp → VK → Prop} {f : Str → Option D} (hr : PkM0 r f) (ha : SimE K cl E ta ma) : SimE K cl E (tBM0 K "str" r ta) (mM0 f ma) := by
  intro W σ H st I Q q
  refine ha W σ H st I _ (Res.imp (Res.bind q) fun a st1 W1 H1 hm1 I1 x1 q1 va ka => ?_)
  split at q1
  · rename_i z
    cases ka
    split at q1
    · rename_i d e
      obtain ⟨vd, ed, k⟩ := hr z d e
      exact ⟨rfl, k H1 Q (q1.now I1 _ (scV_mk ed))⟩
    · exact q1.elim
  · exact q1.elim
theorem sE_tM0 {r : V → List V → Hp → VK → Prop} {f : Str → Option D} (hr : PkM0 r f) (ha : SimE K cl E ta ma) : SimE K cl E (tM0 r ta) (mM0 f ma) := by
  intro W σ H st I Q q
  refine ha W σ H st I _ (Res.imp (Res.bind q) fun a st1 W1 H1 hm1 I1 x1 q1 va ka => ?_)
  split at q1
  · rename_i z
    cases ka
    split at q1
    · rename_i d e
      obtain ⟨vd, ed, k⟩ := hr z d e
      exact ⟨⟨_, rfl⟩, k H1 Q (q1.now I1 _ (scV_mk ed))⟩
    · exact q1.elim
  · exact q1.elim
def fIsdigit (z : Str) : Option D := some (.bl (Txt.isdigit z))
theorem pk_isdigit : PkM0 (fun x xs H Q => ∃ a, x = .str a ∧ xs = [] ∧ True ∧ Q (.bl (Txt.isdigit a)) H) fIsdigit := fun z d e => by
  cases e; exact ⟨_, rfl, fun H Q q => ⟨z, rfl, rfl, trivial, q⟩⟩
def fZfill : D → D → Option D
  | .str a, .int i => if PadOk i = true then some (.str (Txt.zfill a i)) else none
  | _, _ => none
theorem pk_zfill : PkM1 K (fun x xs H Q => ∃ (a : Str) (i : Int), x = .str a ∧ xs = [.int i] ∧ PadOk i = true ∧ Q (.str (Txt.zfill a i)) H) fZfill := by
  intro W H vx vy x y d s kx ky e
  unfold fZfill at e
  split at e
  · split at e
    · rename_i c; cases e; cases kx; cases ky; exact ⟨_, .str _, fun Q q => ⟨_, _, rfl, rfl, c, q⟩⟩
    · cases e
  · cases e
def fFind : D → D → Option D
  | .str a, .str b => some (.int (Txt.find a b))
  | _, _ => none
theorem pk_find : PkM1 K (fun x xs H Q => ∃ a b, x = .str a ∧ xs = [.str b] ∧ Q (.int (Txt.find a b)) H) fFind := by
  intro W H vx vy x y d s kx ky e
  unfold fFind at e
  split at e
  · cases e; cases kx; cases ky; exact ⟨_, .int _, fun Q q => ⟨_, _, rfl, rfl, q⟩⟩
  · cases e
def fEndswith : D → D → Option D
  | .str a, .str b => some (.bl (Txt.endswith a b))
  | _, _ => none
theorem pk_endswith : PkM1 K (fun x xs H Q => ∃ a b, x = .str a ∧ xs = [.str b] ∧ Q (.bl (Txt.endswith a b)) H) fEndswith := by
  intro W H vx vy x y d s kx ky e
  unfold fEndswith at e
  split at e
  · cases e; cases kx; cases ky; exact ⟨_, .bl _, fun Q q => ⟨_, _, rfl, rfl, q⟩⟩
  · cases e
def fJoin : D → D → Option D
  | .str a, .lst ds => match strsD ds with
    | some ys => if (ys.map (·.length)).sum + ys.length * a.length ≤ 16777216 then some (.str (Txt.join a ys)) else none
    | none => none
  | _, _ => none
theorem pk_join : PkM1 K (fun x xs H Q => ∃ a p, ∃ ys : List Str, x = .str a ∧ xs = [.ref p] ∧ (SqL K H p (ys.map V.str) ∨ SqT K H p (ys.map V.str)) ∧ (ys.map (·.length)).sum + ys.length * a.length ≤ 16777216 ∧ Q (.str (Txt.join a ys)) H) fJoin := by
  intro W H vx vy x y d s kx ky e
  unfold fJoin at e
  split at e
  · split at e
    · rename_i ys ey
      split at e
      · rename_i c
        cases e
        cases kx
        obtain ⟨a, us, rfl, q, r⟩ := ky
        rw [strsD_rep ey r] at q
        exact ⟨_, .str _, fun Q k => ⟨_, a, ys, rfl, rfl, .inl q, c, k⟩⟩
      · cases e
    · cases e
  · cases e
/-! ### new lists, new tuples -/
/-- a new list out of what is read -/
def PkN2 (K : Frag) (r : R2) (f : D → D → Option (List D)) : Prop := ∀ (W : Wd) (H : Hp) (vx vy : V) (x y : D) (ds : List D), Same W.F H → PkOk K W H vx x → PkOk K W H vy y → f x y = some ds → ∃ vs, RepL K W.F W.ρ vs ds ∧ ∀ Q : VK, (∀ p, H p = none → Q (.ref p) (upd H p (.lst vs))) → r vx vy H Q
def mNew2 (f : D → D → Option (List D)) (ma mb : M EV) : M BX := fun st => (ma st).bind fun a st1 => (mb st1).bind fun b st2 => match peek st2 a, peek st2 b with
  | some x, some y => match f x y with
    | some ds => .ok (.lst ds) st2
    | none => .stuck
  | _, _ => .stuck
theorem sN_2 {r : R2} {f : D → D → Option (List D)} (hr : PkN2 K r f) (ha : SimE K cl E ta ma) (hb : SimE K cl E tb mb) : SimN K cl E (tOp r ta tb) (mNew2 f ma mb) := by
  intro W σ H st I Q q
  refine ha W σ H st I _ (Res.imp (Res.bind q) fun a st1 W1 H1 hm1 I1 x1 q1 va ka => ?_)
  refine hb W1 σ H1 st1 I1 _ (Res.imp (Res.bind q1) fun b st2 W2 H2 hm2 I2 x2 q2 vb kb => ?_)
  replace ka := ka.ext x2
  split at q2
  · rename_i x y ex ey
    split at q2
    · rename_i ds e
      obtain ⟨vs, rv, k⟩ := hr W2 H2 va vb x y ds I2.sub (peek_ok I2 ka ex) (peek_ok I2 kb ey) e
      refine k Q fun p hp => ?_
      obtain ⟨z1, z2⟩ := I2.free hp
      exact q2 _ _ (I2.new0 hp) (Ext.new0 hp) p (x1.lv p (x2.lv p hp)) z2 z1 ⟨vs, upd_same, rv⟩
    · exact q2.elim
  · exact q2.elim
def fCatL : D → D → Option (List D)
  | .lst xs, .lst ys => if xs.length + ys.length ≤ sizeLine then some (xs ++ ys) else none
  | _, _ => none
theorem pk_catL : PkN2 K (Kv.rCatS K) fCatL := by
  intro W H vx vy x y d s kx ky e
  unfold fCatL at e
  split at e
  · split at e
    · rename_i c
      cases e
      obtain ⟨a, us, rfl, q, r⟩ := kx
      obtain ⟨b, ws, rfl, q2, r2⟩ := ky
      exact ⟨_, r.append r2, fun Q k => ⟨a, b, us, ws, rfl, rfl, q, q2, by rw [r.len, r2.len]; exact c, k⟩⟩
    · cases e
  · cases e
def PkNC (K : Frag) (r : List V → Hp → VK → Prop) (f : List D → Option (List D)) : Prop := ∀ (W : Wd) (H : Hp) (vs : List V) (ds : List D) (es : List D), Same W.F H → PksOk K W H vs ds → f ds = some es → ∃ us, RepL K W.F W.ρ us es ∧ ∀ Q : VK, (∀ p, H p = none → Q (.ref p) (upd H p (.lst us))) → r vs H Q
def mNewC (f : List D → Option (List D)) (ma : M (List EV)) : M BX := fun st => (ma st).bind fun evs st1 => match peeks st1 evs with
  | some ds => match f ds with
    | some d => .ok (.lst d) st1
    | none => .stuck
  | none => .stuck
theorem sN_C {r : List V → Hp → VK → Prop} {f : List D → Option (List D)} {t : TA} {mt : M (List EV)} (hr : PkNC K r f) (ha : SimA K cl E t mt) : SimN K cl E (tCB r t) (mNewC f mt) := by
  intro W σ H st I Q q
  refine ha W σ H st I _ (Res.imp (Res.bind q) fun evs st1 W1 H1 hm1 I1 x1 q1 vs ks _ => ?_)
  split at q1
  · rename_i ds e1
    split at q1
    · rename_i d e
      obtain ⟨us, rv, k⟩ := hr W1 H1 vs ds d I1.sub (peeks_ok I1 ks e1) e
      refine k Q fun p hp => ?_
      obtain ⟨z1, z2⟩ := I1.free hp
      exact q1 _ _ (I1.new0 hp) (Ext.new0 hp) p (x1.lv p hp) z2 z1 ⟨us, upd_same, rv⟩
    · exact q1.elim
  · exact q1.elim
def fListOf : List D → Option (List D)
  | [.lst ds] => some ds
  | [.tup ds] => some ds
  | _ => none
theorem pk_listOf : PkNC K (fun xs H Q => ∃ p ys, xs = [.ref p] ∧ (SqL K H p ys ∨ SqT K H p ys) ∧ ∀ l, H l = none → Q (.ref l) (upd H l (.lst ys))) fListOf := by
  intro W H vs ds d s ks e
  unfold fListOf at e
  split at e
  · cases e
    cases ks with
    | cons k t =>
      cases t
      obtain ⟨a, us, rfl, q, r⟩ := k
      exact ⟨_, r, fun Q k => ⟨a, us, rfl, .inl q, k⟩⟩
  · cases e
    cases ks with
    | cons k t =>
      cases t
      cases k with
      | tup h r => exact ⟨_, r, fun Q k => ⟨_, _, rfl, .inr (Kv.same_tup s h), k⟩⟩
  · cases e
/-! ### slices -/
def SimO (K : Frag) (cl : (Str → Addr) × Addr × Bool) (E : Kv.Er → L2.St → Hp → Prop) (to : TO) (mo : M (Option Int)) : Prop := ∀ W σ H st, Inv K cl W σ H st → ∀ Q : Option Int → Hp → Prop,
  Res K cl E W σ H (mo st) (fun b _ _ H' => Q b H') → to σ H Q
theorem sO_none : SimO K cl E tNoPart (M.pure none) := fun W σ H st I Q q => q.now I
def mPart (ma : M EV) : M (Option Int) := fun st => (ma st).bind fun a st1 => match a with
  | .dat (.int i) => .ok (some i) st1
  | _ => .stuck
theorem sO_some (ha : SimE K cl E ta ma) : SimO K cl E (tPart ta) (mPart ma) := by
  intro W σ H st I Q q
  refine ha W σ H st I _ (Res.imp (Res.bind q) fun a st1 W1 H1 hm1 I1 x1 q1 va ka => ?_)
  split at q1
  · cases ka; exact ⟨_, rfl, q1.now I1⟩
  · exact q1.elim
def cutD (xs : List D) (lo hi : Option Int) : List D := (xs.drop (HT.sIx xs.length 0 lo)).take (HT.sIx xs.length xs.length hi - HT.sIx xs.length 0 lo)
def mSlL (ma : M EV) (ml mh : M (Option Int)) : M BX := fun st => (ma st).bind fun a st1 => (ml st1).bind fun lo st2 => (mh st2).bind fun hi st3 => match peek st3 a with
  | some (.lst ds) => .ok (.lst (cutD ds lo hi)) st3
  | _ => .stuck
theorem sN_slL {tl th : TO} {ml mh : M (Option Int)} (ha : SimE K cl E ta ma) (hl : SimO K cl E tl ml) (hh : SimO K cl E th mh) : SimN K cl E (tSl (rSlL K) ta tl th) (mSlL ma ml mh) := by
  intro W σ H st I Q q
  refine ha W σ H st I _ (Res.imp (Res.bind q) fun a st1 W1 H1 hm1 I1 x1 q1 va ka => ?_)
  refine hl W1 σ H1 st1 I1 _ (Res.imp (Res.bind q1) fun lo st2 W2 H2 hm2 I2 x2 q2 => ?_)
  refine hh W2 σ H2 st2 I2 _ (Res.imp (Res.bind q2) fun hi st3 W3 H3 hm3 I3 x3 q3 => ?_)
  replace ka := (ka.ext x2).ext x3
  split at q3
  · rename_i ds e
    obtain ⟨p, vs, rfl, hq, r⟩ := peek_ok I3 ka e
    refine ⟨p, vs, rfl, hq, fun p hp => ?_⟩
    obtain ⟨z1, z2⟩ := I3.free hp
    refine q3 _ _ (I3.new0 hp) (Ext.new0 hp) p (x1.lv p (x2.lv p (x3.lv p hp))) z2 z1 ⟨_, upd_same, ?_⟩
    unfold cutV cutD
    rw [r.len]
    exact (r.drop _).take _
  · exact q3.elim
def mSlS (ma : M EV) (ml mh : M (Option Int)) : M EV := fun st => (ma st).bind fun a st1 => (ml st1).bind fun lo st2 => (mh st2).bind fun hi st3 => match a with
  | .dat (.str z) => if z.length ≤ sizeLine then .ok (.dat (.str (cutS z lo hi))) st3 else .stuck
  | _ => .stuck
theorem sE_slS {tl th : TO} {ml mh : M (Option Int)} (ha : SimE K cl E ta ma) (hl : SimO K cl E tl ml) (hh : SimO K cl E th mh) : SimE K cl E (tSl rSlS ta tl th) (mSlS ma ml mh) := by
  intro W σ H st I Q q
  refine ha W σ H st I _ (Res.imp (Res.bind q) fun a st1 W1 H1 hm1 I1 x1 q1 va ka => ?_)
  refine hl W1 σ H1 st1 I1 _ (Res.imp (Res.bind q1) fun lo st2 W2 H2 hm2 I2 x2 q2 => ?_)
  refine hh W2 σ H2 st2 I2 _ (Res.imp (Res.bind q2) fun hi st3 W3 H3 hm3 I3 x3 q3 => ?_)
  split at q3
  · rename_i z
    cases ka
    split at q3
    · rename_i c
      exact ⟨z, rfl, c, q3.now I3 _ (.str _)⟩
    · exact q3.elim
  · exact q3.elim
/-! ### what one owner has is changed -/
def putB (f : Str) (b : BX) : List (Str × FV) → List (Str × FV)
  | [] => []
  | (g, x) :: r => (g, if g = f then (match x with | .bx _ => .bx b | .dat d => .dat d) else x) :: putB f b r
def setH (st : St) (ev : EV) (b : BX) : Option St := match ev with
  | .sl i => some { st with env := st.env.set i (some (.own b)) }
  | .io k => some { st with io := st.io.set k b }
  | .fl j f => match st.S[j]? with
    | some (.ins c fs) => some { st with S := st.S.set j (.ins c (putB f b fs)) }
    | _ => none
  | .dat (.ob j) => some { st with S := st.S.set j (.bx b) }
  | _ => none
/-- its list or dict, if it may be changed -/
def ownB (st : St) (ev : EV) : Option BX := match ev with
  | .sl i => match st.env[i]? with
    | some (some (.own b)) => some b
    | _ => none
  | .io k => st.io[k]?
  | .fl j f => match st.S[j]? with
    | some (.ins _ fs) => match fs.lookup f with
      | some (.bx b) => some b
      | _ => none
    | _ => none
  | .dat (.ob j) => match st.S[j]? with
    | some (.bx b) => some b
    | _ => none
  | _ => none
theorem fs_put {j : Nat} {f : Str} {p : Addr} {o : HO} {b : BX} (hin : ∀ q, W.ow q = some (.fd j f) → q = p) (hne : ∀ q g, W.ow q = some (.fd j g) → g ≠ f → upd H p o q = H q) (k : BxOk K W (upd H p o) p b) :
    ∀ {vs : List (Str × V)} {fs : List (Str × FV)}, FsOk K W H j vs fs → FsOk K W (upd H p o) j vs (putB f b fs)
  | _, _, .nil => .nil
  | _, _, .cons (f := g) (x := x) h t => by
    refine .cons ?_ (fs_put hin hne k t)
    by_cases c : g = f
    · subst c
      rw [if_pos rfl]
      cases x with
      | dat d => exact h
      | bx b0 => obtain ⟨q, e, h2, _⟩ := h; cases hin q h2; exact ⟨_, e, h2, k⟩
    · rw [if_neg c]
      cases x with
      | dat d => exact h
      | bx b0 => obtain ⟨q, e, h2, h3⟩ := h; exact ⟨q, e, h2, h3.kp (Same.refl _) (List.prefix_refl _) (hne q g h2 c)⟩
theorem Inv.mutFd {st : St} {j : Nat} {f c : Str} {fs : List (Str × FV)} {b' : BX} {p : Addr} {o : HO} (I : Inv K cl W σ H st) (e : st.S[j]? = some (.ins c fs)) (ho : W.ow p = some (.fd j f)) (k : BxOk K W (upd H p o) p b') :
    Inv K cl W σ (upd H p o) { st with S := st.S.set j (.ins c (putB f b' fs)) } := by
  have hne : ∀ q t, W.ow q = some t → t ≠ .fd j f → upd H p o q = H q := fun q t e n => by
    have c : q ≠ p := fun c => by subst c; rw [ho] at e; cases e; exact n rfl
    exact upd_ne c
  refine ⟨I.xeq, I.nt, sub_upd I.sub (I.out p _ ho).1, out_upd I, I.inj, I.len, fun i sv ej => ?_, fun i b ej => ?_, by simp [I.rlen], fun i o' ei => ?_⟩
  · exact (I.slots i sv ej).kp (Same.refl _) (List.prefix_refl _) (fun _ _ h _ => h) fun q h => ⟨hne q _ h (by simp), h⟩
  · obtain ⟨q, h, k2⟩ := I.ios i b ej
    exact ⟨q, h, k2.kp (Same.refl _) (List.prefix_refl _) (hne q _ h (by simp))⟩
  · by_cases cc : j = i
    · subst cc
      have := get_set_eq e ei
      subst this
      obtain ⟨a, dx, vs, e1, e2, e3, e4, e5, hf⟩ := I.obs j _ e
      refine ⟨a, dx, vs, e1, e2, e3, (hne dx _ e3 (by simp)).trans e4, (hne a _ e2 (by simp)).trans e5, fs_put (fun q h => I.inj q p _ h ho (by simp)) (fun q g h n => hne q _ h (fun z => n (by cases z; rfl))) k hf⟩
    · have ei : (st.S.set j (.ins c (putB f b' fs)))[i]? = some o' := ei
      rw [get_set_ne cc] at ei
      exact (I.obs i o' ei).kp (Same.refl _) (List.prefix_refl _) fun q t h z => ⟨hne q t h (by
        rcases z with z | z | ⟨g, z⟩
        · simp [z]
        · simp [z]
        · rw [z]; intro y; cases y; exact cc rfl), h⟩
theorem Inv.mutOb {st : St} {j : Nat} {b b' : BX} {p : Addr} {o : HO} (I : Inv K cl W σ H st) (e : st.S[j]? = some (.bx b)) (hr : W.ρ[j]? = some p) (ho : W.ow p = some (.ob j)) (k : BxOk K W (upd H p o) p b') :
    Inv K cl W σ (upd H p o) { st with S := st.S.set j (.bx b') } := by
  have hne : ∀ q t, W.ow q = some t → t ≠ .ob j → upd H p o q = H q := fun q t e n => by
    have c : q ≠ p := fun c => by subst c; rw [ho] at e; cases e; exact n rfl
    exact upd_ne c
  refine ⟨I.xeq, I.nt, sub_upd I.sub (I.out p _ ho).1, out_upd I, I.inj, I.len, fun i sv ej => ?_, fun i b ej => ?_, by simp [I.rlen], fun i o' ei => ?_⟩
  · exact (I.slots i sv ej).kp (Same.refl _) (List.prefix_refl _) (fun _ _ h _ => h) fun q h => ⟨hne q _ h (by simp), h⟩
  · obtain ⟨q, h, k2⟩ := I.ios i b ej
    exact ⟨q, h, k2.kp (Same.refl _) (List.prefix_refl _) (hne q _ h (by simp))⟩
  · by_cases cc : j = i
    · subst cc
      have := get_set_eq e ei
      subst this
      exact ⟨p, hr, ho, k⟩
    · have ei : (st.S.set j (.bx b'))[i]? = some o' := ei
      rw [get_set_ne cc] at ei
      exact (I.obs i o' ei).kp (Same.refl _) (List.prefix_refl _) fun q t h z => ⟨hne q t h (by
        rcases z with z | z | ⟨g, z⟩
        · rw [z]; intro y; cases y; exact cc rfl
        · simp [z]
        · simp [z]), h⟩
/-- the owner's thing, and how it is changed -/
theorem own_mut {st : St} {v : V} {ev : EV} {b : BX} (I : Inv K cl W σ H st) (k : EvOk K W H σ v ev) (e : ownB st ev = some b) : ∃ p t, v = .ref p ∧ W.ow p = some t ∧ t ≠ .xt ∧ BxOk K W H p b ∧ ∀ (o : HO) (b' : BX), BxOk K W (upd H p o) p b' → ∃ st', setH st ev b' = some st' ∧ Inv K cl W σ (upd H p o) st' := by
  cases ev with
  | dat x =>
    cases x with
    | ob j =>
      unfold ownB at e
      dsimp only at e
      split at e
      · rename_i b0 es
        cases e
        obtain ⟨a, e1, e2, e3⟩ := I.obs j _ es
        cases k with
        | ob h =>
          rw [h] at e1
          cases e1
          exact ⟨_, _, rfl, e2, by simp, e3, fun o b' k => ⟨_, rfl, I.mutOb es h e2 k⟩⟩
      · cases e
    | _ => cases e
  | sl i =>
    unfold ownB at e
    dsimp only at e
    have k : σ[i]? = some (some v) := k
    split at e
    · rename_i b0 es
      cases e
      obtain ⟨p, h1, h2, h3⟩ := I.slots i _ es
      rw [k] at h1
      cases h1
      exact ⟨_, _, rfl, h2, by simp, h3, fun o b' kk => ⟨_, rfl, I.mutSl es k h2 kk⟩⟩
    · cases e
  | io i =>
    unfold ownB at e
    dsimp only at e
    obtain ⟨p, rfl, o⟩ := k
    obtain ⟨q, h2, h3⟩ := I.ios i _ e
    cases I.inj p q _ o h2 (by simp)
    exact ⟨_, _, rfl, h2, by simp, h3, fun o b' kk => ⟨_, rfl, I.mutIo e h2 kk⟩⟩
  | fl j f =>
    unfold ownB at e
    dsimp only at e
    obtain ⟨p, rfl, o⟩ := k
    split at e
    · rename_i c fs es
      split at e
      · rename_i b0 ef
        cases e
        obtain ⟨a, dx, vs, _, _, _, _, _, hf⟩ := I.obs j _ es
        obtain ⟨v, _, q, _, h2, h3⟩ := fs_get hf ef
        cases I.inj p q _ o h2 (by simp)
        refine ⟨_, _, rfl, h2, by simp, h3, fun o b' kk => ⟨{ st with S := st.S.set j (.ins c (putB f b' fs)) }, ?_, I.mutFd es h2 kk⟩⟩
        unfold setH
        dsimp only
        rw [es]
      · cases e
    · cases e
  | exc => cases e
  | tp b => cases e
/-- a method of a list that changes it: what it has behind it, what it gives -/
def PkMut (K : Frag) (r : V → List V → Hp → VK → Prop) (f : List D → List D → Option (List D × D)) : Prop := ∀ (W : Wd) (H : Hp) (p : Addr) (vs : List V) (xs : List D) (us : List V) (ys zs : List D) (d : D), Same W.F H → H p = some (.lst vs) → RepL K W.F W.ρ vs xs → RepL K W.F W.ρ us ys → f xs ys = some (zs, d) →
  ∃ ws v, RepL K W.F W.ρ ws zs ∧ Rep K W.F W.ρ v d ∧ ∀ Q : VK, Q v (upd H p (.lst ws)) → r (.ref p) us H Q
def mMut (f : List D → List D → Option (List D × D)) (ma : M EV) (mt : M (List EV)) : M EV := fun st => (ma st).bind fun a st1 => match ownB st1 a with
  | some (.lst _) => (mt st1).bind fun evs st2 => match ownB st2 a, dats evs with
    | some (.lst xs), some ys => match f xs ys with
      | some (zs, d) => match setH st2 a (.lst zs) with
        | some st3 => .ok (.dat d) st3
        | none => .stuck
      | none => .stuck
    | _, _ => .stuck
  | _ => .stuck
theorem BxOk.new {p : Addr} {vs : List V} {ds : List D} (r : RepL K W.F W.ρ vs ds) : BxOk K W (upd H p (.lst vs)) p (.lst ds) := ⟨vs, upd_same, r⟩
theorem sE_mut {r : V → List V → Hp → VK → Prop} {f : List D → List D → Option (List D × D)} {t : TA} {mt : M (List EV)} (hr : PkMut K r f) (ha : SimE K cl E ta ma) (ht : SimA K cl E t mt) : SimE K cl E (tBM K "list" r ta t) (mMut f ma mt) := by
  intro W σ H st I Q q
  refine ha W σ H st I _ (Res.imp (Res.bind q) fun a st1 W1 H1 hm1 I1 x1 q1 va ka => ?_)
  split at q1
  · rename_i xs0 e0
    obtain ⟨p, t0, rfl, _, _, ⟨vs0, h0, _⟩, _⟩ := own_mut I1 ka e0
    refine ⟨.inl ⟨rfl, vs0, SqL.of h0⟩, ht W1 σ H1 st1 I1 _ (Res.imp (Res.bind q1) fun evs st2 W2 H2 hm2 I2 x2 q2 us ks _ => ?_)⟩
    split at q2
    · rename_i xs ys e1 e2
      obtain ⟨p', t1, hp', ho, hn, ⟨vs, h1, r1⟩, hm⟩ := own_mut I2 (ka.ext x2) e1
      cases hp'
      split at q2
      · rename_i zs d e3
        obtain ⟨ws, v, rw1, rv, k⟩ := hr W2 H2 p vs xs us ys zs d I2.sub h1 r1 (dats_ok ks e2) e3
        obtain ⟨st3, e4, I3⟩ := hm (.lst ws) (.lst zs) (BxOk.new rw1)
        rw [e4] at q2
        exact k Q (q2 W2 _ I3 (Ext.mut ho hn (nofz h1 nofz_lst)) v rv)
      · exact q2.elim
    · exact q2.elim
  · exact q1.elim
def fAppend (xs ys : List D) : Option (List D × D) := match ys with
  | [y] => if xs.length < sizeLine then some (xs ++ [y], .non) else none
  | _ => none
theorem pk_append : PkMut K rAppend fAppend := by
  intro W H p vs xs us ys zs d s h r ru e
  unfold fAppend at e
  split at e
  · split at e
    · rename_i c
      cases e
      cases ru with
      | cons k t =>
        cases t
        exact ⟨_, _, r.append (.cons k .nil), .non, fun Q q => ⟨p, vs, _, rfl, rfl, h, by rw [r.len]; exact c, q⟩⟩
    · cases e
  · cases e
end
end Mi

set_option Elab.async false
set_option linter.all false
set_option maxRecDepth 100000
set_option maxHeartbeats 4000000
namespace Mi
open PySem PySem.Spec PyProof.Rows L2
section
variable {K : Frag} {cl : (Str → Addr) × Addr × Bool} {E : Kv.Er → L2.St → Hp → Prop} {W : Wd} {σ : L2.St} {H : Hp} {ta tb tc : TE} {ma mb mc : M EV}
/-! ### a slot is stored -/
def Wd.drop (W : Wd) (i : Nat) : Wd := { W with ow := fun q => if W.ow q = some (.sl i) then none else W.ow q }
theorem drop_ow {i : Nat} {q : Addr} {t : Tag} (h : W.ow q = some t) (n : t ≠ .sl i) : (W.drop i).ow q = some t := by
  show (if W.ow q = some (.sl i) then none else W.ow q) = some t
  rw [if_neg (by rw [h]; intro z; cases z; exact n rfl)]
  exact h
theorem drop_ow' {i : Nat} {q : Addr} {t : Tag} (h : (W.drop i).ow q = some t) : W.ow q = some t ∧ t ≠ .sl i := by
  have h : (if W.ow q = some (.sl i) then none else W.ow q) = some t := h
  split at h
  · cases h
  · rename_i c; exact ⟨h, fun z => c (by rw [h, z])⟩
theorem Ext.drop {i : Nat} : Ext W H (W.drop i) H :=
  ⟨Same.refl _, List.prefix_refl _, fun p t h n => drop_ow h (n i), fun _ _ h _ => h, fun p h => (drop_ow' h).1, fun p o _ h => by
    show (if W.ow p = some (.sl i) then none else W.ow p) = none
    rw [h]; rfl, fun _ h => h, fun _ _ _ _ f => f, rfl⟩
theorem set_get {α : Type} {l : List α} {i j : Nat} {x y : α} (h : (l.set i x)[j]? = some y) : (i = j ∧ y = x) ∨ (i ≠ j ∧ l[j]? = some y) := by
  by_cases c : i = j
  · subst c
    have hl : i < l.length := by
      have := (List.getElem?_eq_some_iff.mp h).1
      simpa using this
    rw [List.getElem?_set_self hl] at h
    exact .inl ⟨rfl, (Option.some.inj h).symm⟩
  · rw [get_set_ne c] at h
    exact .inr ⟨c, h⟩
theorem SlOk.sig {W : Wd} {σ σ' : L2.St} {i : Nat} {sv : SV} (e : σ'[i]? = σ[i]?) (h : SlOk K W σ H i sv) : SlOk K W σ' H i sv := by
  cases sv with
  | dat d => obtain ⟨v, q, r⟩ := h; exact ⟨v, e.trans q, r⟩
  | own b => obtain ⟨v, q, r⟩ := h; exact ⟨v, e.trans q, r⟩
  | io k => obtain ⟨v, q, r⟩ := h; exact ⟨v, e.trans q, r⟩
  | fl j f => obtain ⟨v, q, r⟩ := h; exact ⟨v, e.trans q, r⟩
  | exc => exact e.trans h
/-- slot i is given a value that is not its own -/
theorem Inv.put {st : St} {i : Nat} {v : V} {sv : SV} (I : Inv K cl W σ H st) (k : ∀ σ' : L2.St, σ'[i]? = some (some v) → SlOk K (W.drop i) σ' H i sv) : Inv K cl (W.drop i) (σ.set i (some v)) H { st with env := st.env.set i (some sv) } := by
  refine ⟨I.xeq, fun z p k h => I.nt z p k (drop_ow' h).1, I.sub, fun p t h => I.out p t (drop_ow' h).1, fun p q t h h' n => I.inj p q t (drop_ow' h).1 (drop_ow' h').1 n, by simp [I.len], fun j s' ej => ?_, fun k b e => ?_, I.rlen, fun j o e => ?_⟩
  · rcases set_get ej with ⟨rfl, z⟩ | ⟨c, e⟩
    · cases z
      refine k _ ?_
      have hl : i < σ.length := by
        rw [I.len]
        have := (List.getElem?_eq_some_iff.mp ej).1
        simpa using this
      rw [List.getElem?_set_self hl]
    · have := I.slots j s' e
      exact (this.kp (W := W) (W' := W.drop i) (Same.refl _) (List.prefix_refl _) (fun p t h n => drop_ow h (n i)) fun p h => ⟨rfl, drop_ow h (fun z => c (by cases z; rfl))⟩).sig (get_set_ne c)
  · obtain ⟨p, o, k2⟩ := I.ios k b e
    exact ⟨p, drop_ow o (by simp), k2.kp (Same.refl _) (List.prefix_refl _) rfl⟩
  · exact (I.obs j o e).kp (W := W) (W' := W.drop i) (Same.refl _) (List.prefix_refl _) fun p t h z => ⟨rfl, drop_ow h (by rcases z with z | z | ⟨f, z⟩ <;> simp [z])⟩
/-- .. a new thing for its own -/
def Wd.own (W : Wd) (i : Nat) (p : Addr) : Wd := { W with ow := fun q => if q = p then some (.sl i) else (W.drop i).ow q }
theorem Inv.putN {st : St} {i : Nat} {p : Addr} {b : BX} (I : Inv K cl W σ H st) (z1 : W.F p = none) (z2 : W.ow p = none) (k : BxOk K W H p b) : Inv K cl (W.own i p) (σ.set i (some (.ref p))) H { st with env := st.env.set i (some (.own b)) } := by
  have live : ∃ o, H p = some o := by
    cases b with
    | lst ds => obtain ⟨vs, e, _⟩ := k; exact ⟨_, e⟩
    | dct ds => obtain ⟨vs, e, _⟩ := k; exact ⟨_, e⟩
    | fz ds => obtain ⟨_, vs, e, _⟩ := k; exact ⟨_, e⟩
  have hne : ∀ q t, W.ow q = some t → q ≠ p := fun q t h c => by subst c; rw [z2] at h; cases h
  have up : ∀ q t, W.ow q = some t → t ≠ .sl i → (W.own i p).ow q = some t := fun q t h n => by
    show (if q = p then some (Tag.sl i) else (W.drop i).ow q) = some t
    rw [if_neg (hne q t h)]
    exact drop_ow h n
  have dn : ∀ q t, (W.own i p).ow q = some t → (q = p ∧ t = .sl i) ∨ (q ≠ p ∧ W.ow q = some t ∧ t ≠ .sl i) := fun q t h => by
    have h : (if q = p then some (Tag.sl i) else (W.drop i).ow q) = some t := h
    split at h
    · cases h; exact .inl ⟨‹_›, rfl⟩
    · exact .inr ⟨‹_›, drop_ow' h⟩
  refine ⟨I.xeq, fun z q k h => by
    rcases dn q _ h with ⟨_, e⟩ | ⟨_, e, _⟩
    · cases e
    · exact I.nt z q k e, I.sub, fun q t h => ?_, fun q q' t h h' n => ?_, by simp [I.len], fun j s' ej => ?_, fun k b e => ?_, I.rlen, fun j o e => ?_⟩
  · rcases dn q t h with ⟨rfl, _⟩ | ⟨_, h, _⟩
    · exact ⟨z1, live⟩
    · exact I.out q t h
  · rcases dn q t h with ⟨rfl, rfl⟩ | ⟨_, h, m⟩
    · rcases dn q' _ h' with ⟨rfl, _⟩ | ⟨_, _, m⟩
      · rfl
      · exact absurd rfl m
    · rcases dn q' t h' with ⟨rfl, z⟩ | ⟨_, h', _⟩
      · exact absurd z m
      · exact I.inj q q' t h h' n
  · rcases set_get ej with ⟨rfl, z⟩ | ⟨c, e⟩
    · cases z
      have hl : i < σ.length := by
        rw [I.len]
        have := (List.getElem?_eq_some_iff.mp ej).1
        simpa using this
      refine ⟨p, by rw [List.getElem?_set_self hl], ?_, k⟩
      show (if p = p then some (Tag.sl i) else (W.drop i).ow p) = some (.sl i)
      rw [if_pos rfl]
    · exact ((I.slots j s' e).kp (W := W) (W' := W.own i p) (Same.refl _) (List.prefix_refl _) (fun p t h n => up p t h (n i)) fun p h => ⟨rfl, up p _ h (fun z => c (by cases z; rfl))⟩).sig (get_set_ne c)
  · obtain ⟨q, o, k2⟩ := I.ios k b e
    exact ⟨q, up q _ o (by simp), k2.kp (Same.refl _) (List.prefix_refl _) rfl⟩
  · exact (I.obs j o e).kp (W := W) (W' := W.own i p) (Same.refl _) (List.prefix_refl _) fun q t h z => ⟨rfl, up q t h (by rcases z with z | z | ⟨f, z⟩ <;> simp [z])⟩
/-- over the whole evaluation: p was not there at its start -/
theorem Ext.putN {W0 : Wd} {H0 : Hp} {i : Nat} {p : Addr} {σ0 : L2.St} {st0 : St} (I0 : Inv K cl W0 σ0 H0 st0) (x : Ext W0 H0 W H) (n : H0 p = none) : Ext W0 H0 (W.own i p) H := by
  have hne : ∀ q o, H0 q = some o → q ≠ p := fun q o h c => by subst c; rw [n] at h; cases h
  refine ⟨x.sF, x.rr, fun q t h m => ?_, x.un, fun q h => ?_, fun q o h e => ?_, x.lv, x.fz, x.xa⟩
  · have := x.ow q t h m
    show (if q = p then some (Tag.sl i) else (W.drop i).ow q) = some t
    obtain ⟨_, o, e⟩ := I0.out q t h
    rw [if_neg (hne q o e)]
    exact drop_ow this (m i)
  · have h : (if q = p then some (Tag.sl i) else (W.drop i).ow q) = some .xt := h
    split at h
    · cases h
    · exact x.xt q (drop_ow' h).1
  · show (if q = p then some (Tag.sl i) else (W.drop i).ow q) = none
    rw [if_neg (hne q o h)]
    show (if W.ow q = some (.sl i) then none else W.ow q) = none
    rw [x.nw q o h e]; rfl
/-! ### statements -/
inductive Fl where
  | nx | ret (ev : EV) | brk | cont
def Frs (H : Hp) (v : V) (ev : EV) : Prop := ∀ b, ev = .tp b → ∃ p, v = .ref p ∧ H p = none
def ResS (K : Frag) (cl : (Str → Addr) × Addr × Bool) (E : Kv.Er → L2.St → Hp → Prop) (W : Wd) (H : Hp) (r : R Fl) (D : Ends) : Prop := match r with
  | .ok .nx st' => ∀ σ' W' H', Inv K cl W' σ' H' st' → Ext W H W' H' → D.nx σ' H'
  | .ok (.ret ev) st' => ∀ σ' W' H' v, Inv K cl W' σ' H' st' → Ext W H W' H' → EvOk K W' H' σ' v ev → Frs H v ev → D.rt v H'
  | .ok .brk st' => ∀ σ' W' H', Inv K cl W' σ' H' st' → Ext W H W' H' → D.bk σ' H'
  | .ok .cont st' => ∀ σ' W' H', Inv K cl W' σ' H' st' → Ext W H W' H' → D.ct σ' H'
  | .err e st' => ∀ σ' W' H', Inv K cl W' σ' H' st' → Ext W H W' H' → E e σ' H'
  | .stuck => False
theorem ResS.ext {W0 : Wd} {H0 : Hp} {r : R Fl} {D : Ends} (x : Ext W0 H0 W H) (h : ResS K cl E W0 H0 r D) : ResS K cl E W H r D := by
  cases r with
  | ok f st' =>
    cases f with
    | nx => exact fun σ' W' H' I y => h σ' W' H' I (x.trans y)
    | ret ev => exact fun σ' W' H' v I y k f => h σ' W' H' v I (x.trans y) k fun b e => by obtain ⟨p, e1, e2⟩ := f b e; exact ⟨p, e1, x.lv p e2⟩
    | brk => exact fun σ' W' H' I y => h σ' W' H' I (x.trans y)
    | cont => exact fun σ' W' H' I y => h σ' W' H' I (x.trans y)
  | err e st' => exact fun σ' W' H' I y => h σ' W' H' I (x.trans y)
  | stuck => exact h
def SimS (K : Frag) (cl : (Str → Addr) × Addr × Bool) (E : Kv.Er → L2.St → Hp → Prop) (ts : TS) (ms : M Fl) : Prop := ∀ W σ H st, Inv K cl W σ H st → ∀ D : Ends, ResS K cl E W H (ms st) D → ts D σ H
/-- an expression, then more -/
theorem ResS.bind {α : Type} {r : R α} {f : α → St → R Fl} {D : Ends} (h : ResS K cl E W H (r.bind f) D) : Res K cl E W σ H r fun a st1 W1 H1 => ResS K cl E W1 H1 (f a st1) D := by
  cases r with
  | ok a st1 => exact fun W1 H1 I1 x1 => ResS.ext x1 h
  | err e st1 => exact fun W' H' I x => h σ W' H' I x
  | stuck => exact h
def mNext : M Fl := M.pure .nx
theorem sS_next : SimS K cl E tNext mNext := fun W σ H st I D q => q σ W H I (Ext.refl W H)
def mBrk : M Fl := M.pure .brk
theorem sS_brk : SimS K cl E tBreak mBrk := fun W σ H st I D q => q σ W H I (Ext.refl W H)
def mCont : M Fl := M.pure .cont
theorem sS_cont : SimS K cl E tCont mCont := fun W σ H st I D q => q σ W H I (Ext.refl W H)
def mSeq (m1 m2 : M Fl) : M Fl := fun st => (m1 st).bind fun f st1 => match f with
  | .nx => m2 st1
  | f => .ok f st1
theorem sS_seq {t u : TS} {m1 m2 : M Fl} (h1 : SimS K cl E t m1) (h2 : SimS K cl E u m2) : SimS K cl E (tSeq t u) (mSeq m1 m2) := by
  intro W σ H st I D q
  refine h1 W σ H st I _ ?_
  unfold mSeq at q
  cases e : m1 st with
  | ok f st1 =>
    rw [e] at q
    cases f with
    | nx => exact fun σ' W' H' I' x => h2 W' σ' H' st1 I' D (ResS.ext x q)
    | ret ev => exact q
    | brk => exact q
    | cont => exact q
  | err e st1 => rw [e] at q; exact q
  | stuck => rw [e] at q; exact q
def mDrop (me : M EV) : M Fl := fun st => (me st).bind fun _ st1 => .ok .nx st1
theorem sS_drop {te : TE} {me : M EV} (h : SimE K cl E te me) : SimS K cl E (tDrop te) (mDrop me) := by
  intro W σ H st I D q
  exact h W σ H st I _ (Res.imp (ResS.bind q) fun ev st1 W1 H1 hm1 I1 x1 q1 v k => q1 σ W1 H1 I1 (Ext.refl _ _))
def mRet (me : M EV) : M Fl := fun st => (me st).bind fun ev st1 => if notTp ev = true then .ok (.ret ev) st1 else .stuck
theorem sS_ret {te : TE} {me : M EV} (h : SimE K cl E te me) : SimS K cl E (tRet te) (mRet me) := by
  intro W σ H st I D q
  refine h W σ H st I _ (Res.imp (ResS.bind q) fun ev st1 W1 H1 hm1 I1 x1 q1 v k => ?_)
  split at q1
  · rename_i n; exact q1 σ W1 H1 v I1 (Ext.refl _ _) k fun b e => by subst e; cases n
  · exact q1.elim
/-- a new list is handed back as such -/
def mRetX (mn : M BX) : M Fl := fun st => (mn st).bind fun b st1 => .ok (.ret (.tp b)) st1
theorem sS_retX {te : TE} {mn : M BX} (h : SimN K cl E te mn) : SimS K cl E (tRet te) (mRetX mn) := by
  intro W σ H st I D q
  have q' : Res K cl E W σ H (mn st) fun b st1 W1 H1 => ResS K cl E W H (.ok (.ret (.tp b)) st1) D := by
    unfold mRetX at q
    cases e : mn st with
    | ok b st1 => rw [e] at q; exact fun W1 H1 I1 x1 => q
    | err e' st1 => rw [e] at q; exact fun W' H' I' x' => q σ W' H' I' x'
    | stuck => rw [e] at q; exact q
  refine h W σ H st I _ (Res.imp q' fun b st1 W1 H1 hm1 I1 x1 q1 p hp z1 z2 k => ?_)
  exact q1 σ W1 H1 _ I1 x1 ⟨p, rfl, z1, z2, k⟩ fun b' _ => ⟨p, rfl, hp⟩
def mRetN : M Fl := M.pure (.ret (.dat .non))
theorem sS_retN : SimS K cl E tRetN mRetN := fun W σ H st I D q => q σ W H .non I (Ext.refl _ _) .non fun _ e => by cases e
def mIfS (mc : M Bool) (m1 m2 : M Fl) : M Fl := fun st => (mc st).bind fun b st1 => if b = true then m1 st1 else m2 st1
theorem sS_if {c : TT} {t u : TS} {mt : M Bool} {m1 m2 : M Fl} (hc : SimT K cl E c mt) (h1 : SimS K cl E t m1) (h2 : SimS K cl E u m2) : SimS K cl E (tIfS c t u) (mIfS mt m1 m2) := by
  intro W σ H st I D q
  refine hc W σ H st I _ (Res.imp (ResS.bind q) fun b st1 W1 H1 hm1 I1 x1 q1 => ?_)
  split at q1
  · rename_i c; rw [if_pos c]; exact h1 W1 σ H1 st1 I1 D q1
  · rename_i c; rw [if_neg c]; exact h2 W1 σ H1 st1 I1 D q1
/-! ### tests -/
def mB (ma : M EV) : M Bool := fun st => (ma st).bind fun a st1 => match a with
  | .dat (.bl b) => .ok b st1
  | _ => .stuck
theorem sT_B (h : SimE K cl E ta ma) : SimT K cl E (tB ta) (mB ma) := by
  intro W σ H st I Q q
  refine h W σ H st I _ (Res.imp (Res.bind q) fun a st1 W1 H1 hm1 I1 x1 q1 v k => ?_)
  split at q1
  · cases k; exact ⟨_, rfl, q1.now I1⟩
  · exact q1.elim
theorem sT_test (h : SimE K cl E ta ma) : SimT K cl E (tTest ta) (mB ma) := sT_B h
def mAnd (m1 m2 : M Bool) : M Bool := fun st => (m1 st).bind fun b st1 => if b = true then m2 st1 else .ok false st1
theorem sT_and {t u : TT} {m1 m2 : M Bool} (h1 : SimT K cl E t m1) (h2 : SimT K cl E u m2) : SimT K cl E (tAnd t u) (mAnd m1 m2) := by
  intro W σ H st I Q q
  refine h1 W σ H st I _ (Res.imp (Res.bind q) fun b st1 W1 H1 hm1 I1 x1 q1 => ?_)
  split at q1
  · rename_i c; rw [if_pos c]; exact h2 W1 σ H1 st1 I1 Q q1
  · rename_i c; rw [if_neg c]; exact q1.now I1
def mOr (m1 m2 : M Bool) : M Bool := fun st => (m1 st).bind fun b st1 => if b = true then .ok true st1 else m2 st1
theorem sT_or {t u : TT} {m1 m2 : M Bool} (h1 : SimT K cl E t m1) (h2 : SimT K cl E u m2) : SimT K cl E (tOr t u) (mOr m1 m2) := by
  intro W σ H st I Q q
  refine h1 W σ H st I _ (Res.imp (Res.bind q) fun b st1 W1 H1 hm1 I1 x1 q1 => ?_)
  split at q1
  · rename_i c; rw [if_pos c]; exact q1.now I1
  · rename_i c; rw [if_neg c]; exact h2 W1 σ H1 st1 I1 Q q1
def mNot (m1 : M Bool) : M Bool := fun st => (m1 st).bind fun b st1 => .ok (!b) st1
theorem sT_not {t : TT} {m1 : M Bool} (h1 : SimT K cl E t m1) : SimT K cl E (tNot t) (mNot m1) := by
  intro W σ H st I Q q
  exact h1 W σ H st I _ (Res.imp (Res.bind q) fun b st1 W1 H1 hm1 I1 x1 q1 => q1.now I1)
def mAndV (ma mb : M EV) : M EV := fun st => (ma st).bind fun a st1 => match a with
  | .dat (.bl b) => if b = true then mb st1 else .ok (.dat (.bl false)) st1
  | _ => .stuck
theorem sE_and (h1 : SimE K cl E ta ma) (h2 : SimE K cl E tb mb) : SimE K cl E (tAndV ta tb) (mAndV ma mb) := by
  intro W σ H st I Q q
  refine h1 W σ H st I _ (Res.imp (Res.bind q) fun a st1 W1 H1 hm1 I1 x1 q1 v k => ?_)
  split at q1
  · cases k
    refine ⟨_, rfl, ?_⟩
    split at q1
    · rename_i c; rw [if_pos c]; exact h2 W1 σ H1 st1 I1 Q q1
    · rename_i c; rw [if_neg c]; exact q1.now I1 _ (.bl _)
  · exact q1.elim
def mOrV (ma mb : M EV) : M EV := fun st => (ma st).bind fun a st1 => match a with
  | .dat (.bl b) => if b = true then .ok (.dat (.bl true)) st1 else mb st1
  | _ => .stuck
theorem sE_or (h1 : SimE K cl E ta ma) (h2 : SimE K cl E tb mb) : SimE K cl E (tOrV ta tb) (mOrV ma mb) := by
  intro W σ H st I Q q
  refine h1 W σ H st I _ (Res.imp (Res.bind q) fun a st1 W1 H1 hm1 I1 x1 q1 v k => ?_)
  split at q1
  · cases k
    refine ⟨_, rfl, ?_⟩
    split at q1
    · rename_i c; rw [if_pos c]; exact q1.now I1 _ (.bl _)
    · rename_i c; rw [if_neg c]; exact h2 W1 σ H1 st1 I1 Q q1
  · exact q1.elim
def mNotV (ma : M EV) : M EV := fun st => (ma st).bind fun a st1 => match a with
  | .dat (.bl b) => .ok (.dat (.bl (!b))) st1
  | _ => .stuck
theorem sE_not (h1 : SimE K cl E ta ma) : SimE K cl E (tNotV ta) (mNotV ma) := by
  intro W σ H st I Q q
  refine h1 W σ H st I _ (Res.imp (Res.bind q) fun a st1 W1 H1 hm1 I1 x1 q1 v k => ?_)
  split at q1
  · cases k; exact ⟨_, rfl, q1.now I1 _ (.bl _)⟩
  · exact q1.elim
def mIf (mt : M Bool) (ma mb : M EV) : M EV := fun st => (mt st).bind fun b st1 => if b = true then ma st1 else mb st1
theorem sE_if {t : TT} {mt : M Bool} (hc : SimT K cl E t mt) (h1 : SimE K cl E ta ma) (h2 : SimE K cl E tb mb) : SimE K cl E (tIf t ta tb) (mIf mt ma mb) := by
  intro W σ H st I Q q
  refine hc W σ H st I _ (Res.imp (Res.bind q) fun b st1 W1 H1 hm1 I1 x1 q1 => ?_)
  split at q1
  · rename_i c; rw [if_pos c]; exact h1 W1 σ H1 st1 I1 Q q1
  · rename_i c; rw [if_neg c]; exact h2 W1 σ H1 st1 I1 Q q1
end
end Mi

set_option Elab.async false
set_option linter.all false
set_option maxRecDepth 100000
set_option maxHeartbeats 4000000
namespace Mi
open PySem PySem.Spec PyProof.Rows L2
section
variable {K : Frag} {cl : (Str → Addr) × Addr × Bool} {E : Kv.Er → L2.St → Hp → Prop} {W : Wd} {σ : L2.St} {H : Hp} {ta tb tc : TE} {ma mb mc : M EV}
/-! ### targets -/
theorem wipe_get (σ : L2.St) : ∀ (vs : List Nat) (j : Nat), (wipe σ vs)[j]? = if j ∈ vs then (σ[j]?).map (fun _ => none) else σ[j]?
  | [], j => by simp [wipe]
  | v :: vs, j => by
    have ih := wipe_get σ vs j
    unfold wipe
    by_cases c : v = j
    · subst c
      by_cases h : v < (wipe σ vs).length
      · rw [List.getElem?_set_self h, if_pos List.mem_cons_self]
        have : v < σ.length := by rw [wipe_length] at h; exact h
        rw [List.getElem?_eq_getElem this]; rfl
      · have h2 : ¬ v < σ.length := by rw [wipe_length] at h; exact h
        rw [List.getElem?_eq_none (by simpa using h), if_pos List.mem_cons_self, List.getElem?_eq_none (by omega)]; rfl
    · rw [get_set_ne c, ih]
      have : (j ∈ v :: vs) ↔ j ∈ vs := by simp [Ne.symm c]
      by_cases m : j ∈ vs
      · rw [if_pos m, if_pos (this.mpr m)]
      · rw [if_neg m, if_neg (fun z => m (this.mp z))]
theorem wipe_ext {σ σ' : L2.St} {vs : List Nat} (hl : σ'.length = σ.length) (h : ∀ j, j ∉ vs → σ'[j]? = σ[j]?) : wipe σ' vs = wipe σ vs := by
  refine List.ext_getElem? fun j => ?_
  rw [wipe_get, wipe_get]
  by_cases m : j ∈ vs
  · rw [if_pos m, if_pos m]
    by_cases c : j < σ.length
    · rw [List.getElem?_eq_getElem c, List.getElem?_eq_getElem (by omega)]; rfl
    · rw [List.getElem?_eq_none (by omega), List.getElem?_eq_none (by omega)]
  · rw [if_neg m, if_neg m, h j m]
theorem wipe_set {σ : L2.St} {vs : List Nat} {i : Nat} {x : Option V} (h : i ∈ vs) : wipe (σ.set i x) vs = wipe σ vs :=
  wipe_ext (by simp) fun j m => get_set_ne fun z => m (z ▸ h)
theorem wipe_idem {σ : L2.St} {vs : List Nat} : wipe (wipe σ vs) vs = wipe σ vs :=
  wipe_ext (wipe_length _ _) fun j m => by rw [wipe_get, if_neg m]
def ResG (K : Frag) (cl : (Str → Addr) × Addr × Bool) (E : Kv.Er → L2.St → Hp → Prop) (W : Wd) (σ : L2.St) (H : Hp) (vs : List Nat) (r : R Unit) (Q : L2.St → Hp → Prop) : Prop := match r with
  | .ok _ st' => ∀ σ' W' H', Inv K cl W' σ' H' st' → Ext W H W' H' → wipe σ' vs = wipe σ vs → Q σ' H'
  | .err e st' => ∀ σ' W' H', Inv K cl W' σ' H' st' → Ext W H W' H' → E e σ' H'
  | .stuck => False
def SimG (K : Frag) (cl : (Str → Addr) × Addr × Bool) (E : Kv.Er → L2.St → Hp → Prop) (vs : List Nat) (g : TG) (mg : EV → M Unit) : Prop := ∀ W σ H st v ev, Inv K cl W σ H st → EvOk K W H σ v ev → ∀ Q : L2.St → Hp → Prop, ResG K cl E W σ H vs (mg ev st) Q → g v σ H Q
def SimGs (K : Frag) (cl : (Str → Addr) × Addr × Bool) (E : Kv.Er → L2.St → Hp → Prop) (vs : List Nat) (g : TGs) (mg : List D → M Unit) : Prop := ∀ W σ H st us ds, Inv K cl W σ H st → RepL K W.F W.ρ us ds → ∀ Q : L2.St → Hp → Prop, ResG K cl E W σ H vs (mg ds st) Q → g us σ H Q
theorem ResG.bind {vs : List Nat} {r : R Unit} {f : St → R Unit} {Q : L2.St → Hp → Prop} (h : ResG K cl E W σ H vs (r.bind fun _ st1 => f st1) Q) : ResG K cl E W σ H vs r fun σ1 H1 => ∀ W1 st1, r = .ok () st1 → Inv K cl W1 σ1 H1 st1 → Ext W H W1 H1 → wipe σ1 vs = wipe σ vs → ResG K cl E W1 σ1 H1 vs (f st1) Q := by
  cases r with
  | ok a st1 =>
    intro σ1 W1 H1 I1 x1 w1 W1' st1' e I1' x1' w1'
    cases e
    have h : ResG K cl E W σ H vs (f st1) Q := h
    revert h
    cases f st1 with
    | ok b st2 => exact fun h σ2 W2 H2 I2 x2 w2 => h σ2 W2 H2 I2 (x1'.trans x2) (w2.trans w1')
    | err e st2 => exact fun h σ2 W2 H2 I2 x2 => h σ2 W2 H2 I2 (x1'.trans x2)
    | stuck => exact fun h => h
  | err e st1 => exact h
  | stuck => exact h
def setD (i : Nat) (sv : SV) : M Unit := fun st => .ok () { st with env := st.env.set i (some sv) }
/-- a value to slot i -/
def mgName (i : Nat) (ev : EV) : M Unit := match ev with
  | .io k => setD i (.io k)
  | .fl j f => setD i (.fl j f)
  | ev => fun st => (toD ev st).bind fun d st1 => setD i (.dat d) st1
theorem put_dat {st : St} {i : Nat} {v : V} {d : D} (I : Inv K cl W σ H st) (r : Rep K W.F W.ρ v d) : Inv K cl (W.drop i) (σ.set i (some v)) H { st with env := st.env.set i (some (.dat d)) } := I.put fun σ' h => ⟨v, h, r⟩
theorem sG_name {vs : List Nat} {i : Nat} (hi : i ∈ vs) : SimG K cl E vs (gName i) (mgName i) := by
  intro W σ H st v ev I k Q q
  have main : ∀ (ev : EV), EvOk K W H σ v ev → ResG K cl E W σ H vs (((toD ev st).bind fun d st1 => setD i (.dat d) st1)) Q → Q (σ.set i (some v)) H := by
    intro ev k q
    have q' : Res K cl (fun e σ' H' => E e σ' H') W σ H (toD ev st) fun d st1 W1 H1 => ResG K cl E W1 σ H1 vs (setD i (.dat d) st1) Q := by
      cases e : toD ev st with
      | ok d st1 =>
        rw [e] at q
        intro W1 H1 I1 x1
        exact fun σ2 W2 H2 I2 x2 w2 => q σ2 W2 H2 I2 (x1.trans x2) w2
      | err e' st1 => rw [e] at q; exact fun W' H' I' x' => q σ W' H' I' x'
      | stuck => rw [e] at q; exact q
    obtain ⟨d, st1, W1, I1, x1, r, q1⟩ := toD_ok I k q'
    exact q1 _ (W1.drop i) H (put_dat I1 r) Ext.drop (wipe_set hi)
  cases ev with
  | dat d => exact main _ k q
  | sl j => exact main _ k q
  | io j =>
    obtain ⟨p, rfl, o⟩ := k
    exact q _ (W.drop i) H (I.put fun σ' h => ⟨p, h, drop_ow o (by simp)⟩) Ext.drop (wipe_set hi)
  | fl j f =>
    obtain ⟨p, rfl, o⟩ := k
    exact q _ (W.drop i) H (I.put fun σ' h => ⟨p, h, drop_ow o (by simp)⟩) Ext.drop (wipe_set hi)
  | exc => exact main _ k q
  | tp b => exact main _ k q
def mgNil : List D → M Unit
  | [] => M.pure ()
  | _ => M.stuck
theorem sGs_nil {vs : List Nat} : SimGs K cl E vs gNil mgNil := by
  intro W σ H st us ds I r Q q
  cases r with
  | nil => exact ⟨rfl, q σ W H I (Ext.refl _ _) rfl⟩
  | cons _ _ => exact q.elim
def mgCons (mg : EV → M Unit) (ms : List D → M Unit) : List D → M Unit
  | d :: r => fun st => (mg (.dat d) st).bind fun _ st1 => ms r st1
  | [] => M.stuck
theorem sGs_cons {vs : List Nat} {g : TG} {gs : TGs} {mg : EV → M Unit} {ms : List D → M Unit} (h : SimG K cl E vs g mg) (hr : SimGs K cl E vs gs ms) : SimGs K cl E vs (gCons g gs) (mgCons mg ms) := by
  intro W σ H st us ds I r Q q
  cases r with
  | nil => exact q.elim
  | cons k t =>
    refine ⟨_, _, rfl, h W σ H st _ (.dat _) I k _ ?_⟩
    have q2 := ResG.bind q
    cases e : mg (.dat _) st with
    | ok a st1 =>
      rw [e] at q2
      exact fun σ1 W1 H1 I1 x1 w1 => hr W1 σ1 H1 st1 _ _ I1 (t.ext x1) Q (q2 σ1 W1 H1 I1 x1 w1 W1 st1 rfl I1 x1 w1)
    | err e' st1 => rw [e] at q2; exact q2
    | stuck => rw [e] at q2; exact q2
def mgTup (n : Nat) (ms : List D → M Unit) : EV → M Unit
  | .dat (.tup ds) => if ds.length = n then ms ds else M.stuck
  | _ => M.stuck
theorem sG_tup {vs : List Nat} {n : Nat} {gs : TGs} {ms : List D → M Unit} (h : SimGs K cl E vs gs ms) : SimG K cl E vs (gTup K n gs) (mgTup n ms) := by
  intro W σ H st v ev I k Q q
  unfold mgTup at q
  split at q
  · rename_i ds
    cases k with
    | tup ht r =>
      split at q
      · rename_i hn
        exact ⟨_, _, rfl, Kv.same_tup I.sub ht, by rw [r.len]; exact hn, h W σ H st _ _ I r Q q⟩
      · exact q.elim
  · exact q.elim
def mAsg (me : M EV) (mg : EV → M Unit) : M Fl := fun st => (me st).bind fun ev st1 => (mg ev st1).bind fun _ st2 => .ok .nx st2
theorem sS_asg {vs : List Nat} {te : TE} {g : TG} {me : M EV} {mg : EV → M Unit} (h : SimE K cl E te me) (hg : SimG K cl E vs g mg) : SimS K cl E (tAsg te g) (mAsg me mg) := by
  intro W σ H st I D q
  refine h W σ H st I _ (Res.imp (ResS.bind q) fun ev st1 W1 H1 hm1 I1 x1 q1 v k => ?_)
  refine hg W1 σ H1 st1 v ev I1 k _ ?_
  cases e : mg ev st1 with
  | ok a st2 => rw [e] at q1; exact fun σ2 W2 H2 I2 x2 _ => q1 σ2 W2 H2 I2 x2
  | err e' st2 => rw [e] at q1; exact q1
  | stuck => rw [e] at q1; exact q1
/-- a new list to a slot of its own -/
def mAsgN (i : Nat) (mn : M BX) : M Fl := fun st => (mn st).bind fun b st1 => .ok .nx { st1 with env := st1.env.set i (some (.own b)) }
theorem sS_asgN {i : Nat} {te : TE} {mn : M BX} (h : SimN K cl E te mn) : SimS K cl E (tAsg te (gName i)) (mAsgN i mn) := by
  intro W σ H st I D q
  have q' : Res K cl E W σ H (mn st) fun b st1 W1 H1 => ResS K cl E W H (.ok .nx { st1 with env := st1.env.set i (some (.own b)) }) D := by
    unfold mAsgN at q
    cases e : mn st with
    | ok b st1 => rw [e] at q; exact fun W1 H1 I1 x1 => q
    | err e' st1 => rw [e] at q; exact fun W' H' I' x' => q σ W' H' I' x'
    | stuck => rw [e] at q; exact q
  refine h W σ H st I _ (Res.imp q' fun b st1 W1 H1 hm1 I1 x1 q1 p hp z1 z2 k => ?_)
  exact q1 _ (W1.own i p) H1 (I1.putN z1 z2 k) (Ext.putN I x1 hp)
/-- xs[i] = .. -/
def mgSub (mo mi : M EV) (ev : EV) : M Unit := match ev with
  | .dat d => fun st => (mo st).bind fun o st1 => (mi st1).bind fun i st2 => match ownB st2 o, i with
    | some (.lst xs), .dat (.int k) => match ixN xs.length k with
      | some j => match setH st2 o (.lst (xs.set j d)) with
        | some st3 => .ok () st3
        | none => .stuck
      | none => .stuck
    | _, _ => .stuck
  | _ => M.stuck
theorem sG_sub {vs : List Nat} {to ti : TE} {mo mi : M EV} (ho : SimE K cl E to mo) (hi : SimE K cl E ti mi) : SimG K cl E vs (gSub to ti rSetL) (mgSub mo mi) := by
  intro W σ H st v ev I k Q q
  cases ev with
  | dat d =>
    have q : ResG K cl E W σ H vs ((mo st).bind fun o st1 => (mi st1).bind fun i st2 => match ownB st2 o, i with
    | some (.lst xs), .dat (.int k) => match ixN xs.length k with
      | some j => match setH st2 o (.lst (xs.set j d)) with
        | some st3 => .ok () st3
        | none => .stuck
      | none => .stuck
    | _, _ => .stuck) Q := q
    have b1 : ∀ {α : Type} {W0 : Wd} {H0 : Hp} {r : R α} {f : α → St → R Unit}, ResG K cl E W0 σ H0 vs (r.bind f) Q → Res K cl E W0 σ H0 r fun a st1 W1 H1 => ResG K cl E W1 σ H1 vs (f a st1) Q := by
      intro α W0 H0 r f h
      cases r with
      | ok a st1 =>
        intro W1 H1 I1 x1
        have h : ResG K cl E W0 σ H0 vs (f a st1) Q := h
        revert h
        cases f a st1 with
        | ok b st2 => exact fun h σ2 W2 H2 I2 x2 w2 => h σ2 W2 H2 I2 (x1.trans x2) w2
        | err e st2 => exact fun h σ2 W2 H2 I2 x2 => h σ2 W2 H2 I2 (x1.trans x2)
        | stuck => exact fun h => h
      | err e st1 => exact fun W' H' I' x' => h σ W' H' I' x'
      | stuck => exact h
    refine ho W σ H st I _ (Res.imp (b1 q) fun o st1 W1 H1 hm1 I1 x1 q1 vo ko => ?_)
    refine hi W1 σ H1 st1 I1 _ (Res.imp (b1 q1) fun i st2 W2 H2 hm2 I2 x2 q2 vi ki => ?_)
    split at q2
    · rename_i xs kk e1
      split at q2
      · rename_i j ej
        obtain ⟨p, t, rfl, ho', hn, ⟨us, h1, r1⟩, hm⟩ := own_mut I2 (ko.ext x2) e1
        cases ki
        have rv : Rep K W2.F W2.ρ v d := Rep.ext (x1.trans x2) k
        obtain ⟨st3, e4, I3⟩ := hm (.lst (us.set j v)) (.lst (xs.set j d)) (BxOk.new (RepL.set rv j r1))
        rw [e4] at q2
        exact ⟨p, us, _, j, rfl, rfl, h1, by rw [r1.len]; exact ej, q2 σ W2 _ I3 (Ext.mut ho' hn (nofz h1 nofz_lst)) rfl⟩
      · exact q2.elim
    · exact q2.elim
  | sl _ => exact q.elim
  | io _ => exact q.elim
  | fl _ _ => exact q.elim
  | exc => exact q.elim
  | tp _ => exact q.elim
/-- x op= e -/
def mAug (i : Nat) (f : D → D → Option D) (me : M EV) : M Fl := fun st => match st.env[i]? with
  | some (some (.dat x)) => (me st).bind fun ev st1 => match peek st1 ev with
    | some y => match f x y with
      | some d => .ok .nx { st1 with env := st1.env.set i (some (.dat d)) }
      | none => .stuck
    | none => .stuck
  | _ => .stuck
theorem sS_aug {i : Nat} {te : TE} {ti : TIp} {f : D → D → Option D} {me : M EV} (hr : PkOp K ti f) (h : SimE K cl E te me) : SimS K cl E (tAug i te ti) (mAug i f me) := by
  intro W σ H st I D q
  unfold mAug at q
  split at q
  · rename_i x ex
    obtain ⟨vx, hx, rx⟩ := I.slots i _ ex
    refine ⟨vx, hx, h W σ H st I _ (Res.imp (ResS.bind q) fun ev st1 W1 H1 hm1 I1 x1 q1 v k => ?_)⟩
    split at q1
    · rename_i y ey
      split at q1
      · rename_i d e
        obtain ⟨w, rv, kk⟩ := hr W1 H1 vx v x y d I1.sub (PkOk.of I1.sub (rx.ext x1)) (peek_ok I1 k ey) e
        exact kk (fun z H2 => D.nx (σ.set i (some z)) H2) (q1 _ _ H1 (put_dat I1 rv) Ext.drop)
      · exact q1.elim
    · exact q1.elim
  · exact q.elim
theorem pk_ipI {g : Int → Int → Int} : PkOp K (ipI g) (iOp (fun _ _ => True) fun i j => .int (g i j)) := PkOp.sc fun x y d e => by
  obtain ⟨i, j, rfl, rfl, c, rfl⟩ := iOp_of e
  exact ⟨_, _, _, rfl, rfl, rfl, fun H Q q => ⟨i, j, rfl, rfl, q⟩⟩
/-! ### truth -/
def truD : D → Option Bool
  | .non => some false
  | .bl b => some b
  | .int i => some (i != 0)
  | .str y => if y.length ≤ sizeLine then some ((y.length : Int) != 0) else none
  | .lst ds => some (!ds.isEmpty)
  | .tup ds => some (!ds.isEmpty)
  | _ => none
def mTru (ma : M EV) : M Bool := fun st => (ma st).bind fun a st1 => match peek st1 a with
  | some d => match truD d with
    | some b => .ok b st1
    | none => .stuck
  | none => .stuck
theorem repL_empty {F : Hp} {ρ : List Addr} {vs : List V} {ds : List D} (r : RepL K F ρ vs ds) : vs.isEmpty = ds.isEmpty := by cases r <;> rfl
theorem sT_tru (h : SimE K cl E ta ma) : SimT K cl E (fun σ H Q => ta σ H fun x H' => ∃ k, TruV K x H' k ∧ Q k H') (mTru ma) := by
  intro W σ H st I Q q
  refine h W σ H st I _ (Res.imp (Res.bind q) fun a st1 W1 H1 hm1 I1 x1 q1 v k => ?_)
  split at q1
  · rename_i d e
    split at q1
    · rename_i b eb
      refine ⟨b, ?_, q1.now I1⟩
      have kk := peek_ok I1 k e
      unfold truD at eb
      split at eb
      · cases eb; cases kk; rfl
      · cases eb; cases kk; rfl
      · cases eb; cases kk; rfl
      · split at eb
        · rename_i c; cases eb; cases kk; exact ⟨c, rfl⟩
        · cases eb
      · cases eb
        obtain ⟨p, vs, rfl, hq, r⟩ := kk
        exact .inl ⟨vs, hq, by rw [repL_empty r]⟩
      · cases eb
        cases kk with
        | tup ht r => exact .inr (.inl ⟨_, Kv.same_tup I1.sub ht, by rw [repL_empty r]⟩)
      · cases eb
    · exact q1.elim
  · exact q1.elim
/-- a op b op' c -/
def mChain (f g : D → D → Option D) (ma mb mc : M EV) : M EV := fun st => (ma st).bind fun a st1 => (mb st1).bind fun b st2 => match peek st2 a, peek st2 b with
  | some x, some y => match f x y with
    | some (.bl k) => if k = true then (mc st2).bind fun c st3 => match peek st3 b, peek st3 c with
        | some y, some z => match g y z with
          | some d => .ok (.dat d) st3
          | none => .stuck
        | _, _ => .stuck
      else .ok (.dat (.bl false)) st2
    | _ => .stuck
  | _, _ => .stuck
theorem sE_chain {r r' : R2} {f g : D → D → Option D} (hr : PkOp K r f) (hr' : PkOp K r' g) (ha : SimE K cl E ta ma) (hb : SimE K cl E tb mb) (hc : SimE K cl E tc mc) : SimE K cl E (tChain r r' ta tb tc) (mChain f g ma mb mc) := by
  intro W σ H st I Q q
  refine ha W σ H st I _ (Res.imp (Res.bind q) fun a st1 W1 H1 hm1 I1 x1 q1 va ka => ?_)
  refine hb W1 σ H1 st1 I1 _ (Res.imp (Res.bind q1) fun b st2 W2 H2 hm2 I2 x2 q2 vb kb => ?_)
  replace ka := ka.ext x2
  split at q2
  · rename_i x y ex ey
    split at q2
    · rename_i k e
      obtain ⟨v, rv, kk⟩ := hr W2 H2 va vb x y (.bl k) I2.sub (peek_ok I2 ka ex) (peek_ok I2 kb ey) e
      cases rv
      refine kk _ ⟨k, rfl, ?_⟩
      split at q2
      · rename_i ck
        rw [if_pos ck]
        refine hc W2 σ H2 st2 I2 _ (Res.imp (Res.bind q2) fun c st3 W3 H3 hm3 I3 x3 q3 vc kc => ?_)
        split at q3
        · rename_i y' z ey' ez
          split at q3
          · rename_i d e'
            obtain ⟨w, rw', kk'⟩ := hr' W3 H3 vb vc y' z d I3.sub (peek_ok I3 (kb.ext x3) ey') (peek_ok I3 kc ez) e'
            exact kk' Q (q3.now I3 w rw')
          · exact q3.elim
        · exact q3.elim
      · rename_i ck
        rw [if_neg ck]
        exact q2.now I2 _ (.bl false)
    · exact q2.elim
  · exact q2.elim
end
end Mi

set_option Elab.async false
set_option linter.all false
set_option maxRecDepth 100000
set_option maxHeartbeats 4000000
namespace Mi
open PySem PySem.Spec PyProof.Rows L2
section
variable {K : Frag} {cl : (Str → Addr) × Addr × Bool} {E : Kv.Er → L2.St → Hp → Prop} {W : Wd} {σ : L2.St} {H : Hp} {ta tb tc : TE} {ma mb mc : M EV}
/-! ### what is walked -/
structure Itr where
  ds : List D
  chk : St → Prop
structure GY (K : Frag) (cl : (Str → Addr) × Addr × Bool) (W : Wd) (H : Hp) (it : Itr) (G : Hp → Prop) (Y : Nat → Hp → V → Hp → Prop) : Prop where
  g : ∀ W2 σ2 H2 st2, Inv K cl W2 σ2 H2 st2 → Ext W H W2 H2 → it.chk st2 → G H2
  y : ∀ i d W2 σ2 H2 st2 x H3, it.ds[i]? = some d → Inv K cl W2 σ2 H2 st2 → Ext W H W2 H2 → it.chk st2 → Y i H2 x H3 → ∃ W3, Inv K cl W3 σ2 H3 st2 ∧ Ext W2 H2 W3 H3 ∧ Rep K W3.F W3.ρ x d
def SimI (K : Frag) (cl : (Str → Addr) × Addr × Bool) (E : Kv.Er → L2.St → Hp → Prop) (wi : TI) (mi : M Itr) : Prop := ∀ W σ H st, Inv K cl W σ H st → ∀ R : It → Hp → Prop,
  Res K cl E W σ H (mi st) (fun it st' W' H' => ∀ J G Y, Walk J it.ds.length G Y → GY K cl W' H' it G Y → R J H') → wi σ H R
/-- what is read of a handle stays read while it is the same -/
def isSl : EV → Bool
  | .sl _ => true
  | .tp _ => true
  | _ => false
theorem EvOk.any {σ σ' : L2.St} {v : V} {ev : EV} (n : isSl ev = false) (k : EvOk K W H σ v ev) : EvOk K W H σ' v ev := by
  cases ev with
  | sl i => cases n
  | tp i => cases n
  | dat d => exact k
  | io i => exact k
  | fl j f => exact k
  | exc => exact k
/-- a list: its items, as long as they stay -/
def mIList (ma : M EV) : M Itr := fun st => (ma st).bind fun a st1 => if isSl a = true then .stuck else match peek st1 a with
  | some (.lst ds) => .ok ⟨ds, fun st2 => peek st2 a = some (.lst ds)⟩ st1
  | _ => .stuck
theorem sI_list (ha : SimE K cl E ta ma) : SimI K cl E (iList K ta) (mIList ma) := by
  intro W σ H st I R q
  refine ha W σ H st I _ (Res.imp (Res.bind q) fun a st1 W1 H1 hm1 I1 x1 q1 v k => ?_)
  split at q1
  · exact q1.elim
  rename_i ns
  replace ns : isSl a = false := by simpa using ns
  split at q1
  · rename_i ds e
    obtain ⟨p, vs, rfl, hq, r⟩ := peek_ok I1 k e
    refine ⟨p, rfl, ⟨vs, hq⟩, ?_⟩
    have rd : ∀ {W2 : Wd} {σ2 : L2.St} {H2 : Hp} {st2 : St}, Inv K cl W2 σ2 H2 st2 → Ext W1 H1 W2 H2 → peek st2 a = some (.lst ds) → ∃ us, SqL K H2 p us ∧ RepL K W2.F W2.ρ us ds := by
      intro W2 σ2 H2 st2 I2 x2 c
      obtain ⟨p2, us, e2, h2, r2⟩ := peek_ok I2 ((k.any (σ' := σ2) ns).ext x2) c
      cases e2
      exact ⟨us, h2, r2⟩
    refine q1.now I1 (Itl K p) (fun H2 => ∃ us, SqL K H2 p us ∧ us.length = ds.length) (fun i H2 x H3 => H3 = H2 ∧ ∀ us, SqL K H2 p us → us[i]? = some x) ⟨?_, ?_, ?_⟩ ⟨?_, ?_⟩
    · rintro i H2 hi ⟨us, h, hl⟩
      exact (walk_list (K := K) (a := p) (xs := us)).goes i H2 (hl.symm ▸ hi) h
    · rintro H2 ⟨us, h, hl⟩
      rw [← hl]
      exact (walk_list (K := K) (a := p) (xs := us)).stops H2 h
    · exact fun i H2 x H3 hi _ y => y
    · intro W2 σ2 H2 st2 I2 x2 c
      obtain ⟨us, h, r2⟩ := rd I2 x2 c
      exact ⟨us, h, r2.len⟩
    · rintro i d W2 σ2 H2 st2 x H3 ed I2 x2 c ⟨rfl, ex⟩
      obtain ⟨us, h, r2⟩ := rd I2 x2 c
      obtain ⟨w, ew, rw'⟩ := r2.get ed
      rw [ex us h] at ew
      cases ew
      exact ⟨W2, I2, Ext.refl _ _, rw'⟩
  · exact q1.elim

/-- a tuple -/
def mITup (ma : M EV) : M Itr := fun st => (ma st).bind fun a st1 => match a with
  | .dat (.tup ds) => .ok ⟨ds, fun _ => True⟩ st1
  | _ => .stuck
theorem sI_tup (ha : SimE K cl E ta ma) : SimI K cl E (iTup K ta) (mITup ma) := by
  intro W σ H st I R q
  refine ha W σ H st I _ (Res.imp (Res.bind q) fun a st1 W1 H1 hm1 I1 x1 q1 v k => ?_)
  split at q1
  · rename_i ds
    cases k with
    | @tup p vs _ ht r =>
    have hq := Kv.same_tup I1.sub ht
    refine ⟨p, rfl, ⟨vs, hq⟩, ?_⟩
    refine q1.now I1 (Itt K p) (fun H2 => ∃ us, SqT K H2 p us ∧ us.length = ds.length) (fun i H2 x H3 => H3 = H2 ∧ ∀ us, SqT K H2 p us → us[i]? = some x) ⟨?_, ?_, ?_⟩ ⟨?_, ?_⟩
    · rintro i H2 hi ⟨us, h, hl⟩
      exact (walk_tup (K := K) (a := p) (xs := us)).goes i H2 (hl.symm ▸ hi) h
    · rintro H2 ⟨us, h, hl⟩
      rw [← hl]
      exact (walk_tup (K := K) (a := p) (xs := us)).stops H2 h
    · exact fun i H2 x H3 hi _ y => y
    · intro W2 σ2 H2 st2 I2 x2 c
      exact ⟨vs, Kv.same_tup (x2.sF.trans I2.sub) ht, r.len⟩
    · rintro i d W2 σ2 H2 st2 x H3 ed I2 x2 c ⟨rfl, ex⟩
      obtain ⟨w, ew, rw'⟩ := r.get ed
      rw [ex vs (Kv.same_tup (x2.sF.trans I2.sub) ht)] at ew
      cases ew
      exact ⟨W2, I2, Ext.refl _ _, rw'.ext x2⟩
  · exact q1.elim
/-- a text, sign by sign -/
def mIStr (ma : M EV) : M Itr := fun st => (ma st).bind fun a st1 => match a with
  | .dat (.str z) => .ok ⟨z.cps.toList.map fun c => .str ⟨#[c]⟩, fun _ => True⟩ st1
  | _ => .stuck
theorem sI_str (ha : SimE K cl E ta ma) : SimI K cl E (iStr ta) (mIStr ma) := by
  intro W σ H st I R q
  refine ha W σ H st I _ (Res.imp (Res.bind q) fun a st1 W1 H1 hm1 I1 x1 q1 v k => ?_)
  split at q1
  · rename_i z
    cases k
    refine ⟨z, rfl, q1.now I1 (Its z) (fun _ => True) (fun i H2 x H3 => H3 = H2 ∧ ∃ c, z.cps[i]? = some c ∧ x = .str ⟨#[c]⟩) ?_ ⟨fun _ _ _ _ _ _ _ => trivial, ?_⟩⟩
    · have : (z.cps.toList.map fun c => D.str ⟨#[c]⟩).length = z.cps.size := by simp
      show Walk _ (z.cps.toList.map fun c => D.str ⟨#[c]⟩).length _ _
      rw [this]
      exact walk_str
    · rintro i d W2 σ2 H2 st2 x H3 ed I2 x2 c ⟨rfl, u, eu, rfl⟩
      have ed : (z.cps.toList.map fun c => D.str ⟨#[c]⟩)[i]? = some d := ed
      rw [List.getElem?_map, Array.getElem?_toList, eu] at ed
      cases ed
      exact ⟨W2, I2, Ext.refl _ _, .str _⟩
  · exact q1.elim
/-- range -/
def rngD (lo : Int) (n : Nat) : List D := (List.range n).map fun (i : Nat) => .int (lo + i)
theorem gy_rng {lo : Int} {n : Nat} : GY K cl W H ⟨rngD lo n, fun _ => True⟩ (fun _ => True) (YFn fun i => .int (lo + i)) := by
  refine ⟨fun _ _ _ _ _ _ _ => trivial, ?_⟩
  rintro i d W2 σ2 H2 st2 x H3 ed I2 x2 c ⟨rfl, rfl⟩
  have ed : (rngD lo n)[i]? = some d := ed
  unfold rngD at ed
  rw [List.getElem?_map] at ed
  have hi : i < n := by
    by_cases h : i < n
    · exact h
    · rw [List.getElem?_eq_none (by simpa using h)] at ed; cases ed
  rw [List.getElem?_range hi] at ed
  cases ed
  exact ⟨W2, I2, Ext.refl _ _, .int _⟩
def mIRng1 (ma : M (List EV)) : M Itr := fun st => (ma st).bind fun a st1 => match a with
  | [.dat (.int j)] => if -(2 ^ 62) ≤ j ∧ j < 2 ^ 62 then .ok ⟨rngD 0 j.toNat, fun _ => True⟩ st1 else .stuck
  | _ => .stuck
theorem sI_rng1 {t : TA} {mt : M (List EV)} (ha : SimA K cl E t mt) : SimI K cl E (iRng1 t) (mIRng1 mt) := by
  intro W σ H st I R q
  refine ha W σ H st I _ (Res.imp (Res.bind q) fun a st1 W1 H1 hm1 I1 x1 q1 v k fro => ?_)
  split at q1
  · rename_i j
    cases k with
    | cons k1 t1 =>
      cases t1
      cases k1
      split at q1
      · rename_i c
        refine ⟨j, rfl, c.1, c.2, q1.now I1 _ (fun _ => True) (YFn fun i => .int (0 + i)) ?_ gy_rng⟩
        have : (rngD 0 j.toNat).length = j.toNat := by simp [rngD]
        show Walk _ (rngD 0 j.toNat).length _ _
        rw [this]
        exact walk_range
      · exact q1.elim
  · exact q1.elim
def mIRng2 (ma : M (List EV)) : M Itr := fun st => (ma st).bind fun a st1 => match a with
  | [.dat (.int i), .dat (.int j)] => if -(2 ^ 62) ≤ i ∧ i < 2 ^ 62 ∧ -(2 ^ 62) ≤ j ∧ j < 2 ^ 62 then .ok ⟨rngD i (j - i).toNat, fun _ => True⟩ st1 else .stuck
  | _ => .stuck
theorem sI_rng2 {t : TA} {mt : M (List EV)} (ha : SimA K cl E t mt) : SimI K cl E (iRng2 t) (mIRng2 mt) := by
  intro W σ H st I R q
  refine ha W σ H st I _ (Res.imp (Res.bind q) fun a st1 W1 H1 hm1 I1 x1 q1 v k fro => ?_)
  split at q1
  · rename_i i j
    cases k with
    | cons k1 t1 =>
      cases t1 with
      | cons k2 t2 =>
      cases t2
      cases k1
      cases k2
      split at q1
      · rename_i c
        refine ⟨i, j, rfl, c, q1.now I1 _ (fun _ => True) (YFn fun k => .int (i + k)) ?_ gy_rng⟩
        have : (rngD i (j - i).toNat).length = (j - i).toNat := by simp [rngD]
        show Walk _ (rngD i (j - i).toNat).length _ _
        rw [this]
        exact walk_range
      · exact q1.elim
  · exact q1.elim
/-- enumerate of a list -/
def enumD (k : Nat) : List D → List D
  | [] => []
  | d :: r => .tup [.int k, d] :: enumD (k + 1) r
theorem enumD_len : ∀ (ds : List D) (k : Nat), (enumD k ds).length = ds.length
  | [], _ => rfl
  | d :: r, k => by unfold enumD; rw [List.length_cons, enumD_len r, List.length_cons]
theorem enumD_get : ∀ (ds : List D) (k i : Nat) (d : D), (enumD k ds)[i]? = some d → ∃ x, ds[i]? = some x ∧ d = .tup [.int ((k + i : Nat) : Int), x]
  | [], k, i, d, h => by simp [enumD] at h
  | x :: r, k, 0, d, h => by unfold enumD at h; cases h; exact ⟨x, rfl, rfl⟩
  | x :: r, k, i + 1, d, h => by
    unfold enumD at h
    obtain ⟨y, e1, e2⟩ := enumD_get r (k + 1) i d h
    exact ⟨y, e1, by rw [e2, show k + 1 + i = k + (i + 1) by omega]⟩
def mIEnum (ma : M (List EV)) : M Itr := fun st => (ma st).bind fun as st1 => match as with
  | [a] => if isSl a = true then .stuck else match peek st1 a with
    | some (.lst ds) => .ok ⟨enumD 0 ds, fun st2 => peek st2 a = some (.lst ds)⟩ st1
    | _ => .stuck
  | _ => .stuck
theorem sI_enum {t : TA} {mt : M (List EV)} (ha : SimA K cl E t mt) : SimI K cl E (iEnum K t) (mIEnum mt) := by
  intro W σ H st I R q
  refine ha W σ H st I _ (Res.imp (Res.bind q) fun as st1 W1 H1 hm1 I1 x1 q1 v k fro => ?_)
  split at q1
  · rename_i a
    cases k with
    | cons k t1 =>
    cases t1
    split at q1
    · exact q1.elim
    rename_i ns
    replace ns : isSl a = false := by simpa using ns
    split at q1
    · rename_i ds e
      obtain ⟨p, vs, rfl, hq, r⟩ := peek_ok I1 k e
      refine ⟨p, vs, rfl, hq, ?_⟩
      have rd : ∀ {W2 : Wd} {σ2 : L2.St} {H2 : Hp} {st2 : St}, Inv K cl W2 σ2 H2 st2 → Ext W1 H1 W2 H2 → peek st2 a = some (.lst ds) → ∃ us, SqL K H2 p us ∧ RepL K W2.F W2.ρ us ds := by
        intro W2 σ2 H2 st2 I2 x2 c
        obtain ⟨p2, us, e2, h2, r2⟩ := peek_ok I2 ((k.any (σ' := σ2) ns).ext x2) c
        cases e2
        exact ⟨us, h2, r2⟩
      refine q1.now I1 (Ite K p) (fun H2 => ∃ us, SqL K H2 p us ∧ us.length = ds.length) (fun i H2 v H3 => ∃ T x, v = .ref T ∧ H2 T = none ∧ H3 = upd H2 T (.tup [.int (i : Nat), x]) ∧ ∀ xs, SqL K H2 p xs → xs[i]? = some x) ⟨?_, ?_, ?_⟩ ⟨?_, ?_⟩
      · rintro i H2 hi ⟨us, h, hl⟩
        have hi : i < (enumD 0 ds).length := hi
        rw [enumD_len] at hi
        exact (walk_enum (K := K) (a := p) (xs := us)).goes i H2 (hl.symm ▸ hi) h
      · rintro H2 ⟨us, h, hl⟩
        have : (enumD 0 ds).length = us.length := by rw [enumD_len, hl]
        show (Ite K p).stop (enumD 0 ds).length H2
        rw [this]
        exact (walk_enum (K := K) (a := p) (xs := us)).stops H2 h
      · exact fun i H2 x H3 hi _ y => y
      · intro W2 σ2 H2 st2 I2 x2 c
        obtain ⟨us, h, r2⟩ := rd I2 x2 c
        exact ⟨us, h, r2.len⟩
      · rintro i d W2 σ2 H2 st2 x H3 ed I2 x2 c ⟨T, y, rfl, hT, rfl, ex⟩
        obtain ⟨us, h, r2⟩ := rd I2 x2 c
        obtain ⟨z, ez, rfl⟩ := enumD_get ds 0 i d ed
        obtain ⟨w, ew, rw'⟩ := r2.get ez
        rw [ex us h] at ew
        cases ew
        refine ⟨_, I2.new hT, Ext.new I2 hT, .tup (SqT.of upd_same) (.cons ?_ (.cons (rw'.mono (Kv.same_upd (I2.free hT).2) (List.prefix_refl _)) .nil))⟩
        rw [Nat.zero_add]
        exact .int _
    · exact q1.elim
  · exact q1.elim
def zipD : List D → List D → List D
  | x :: xs, y :: ys => .tup [x, y] :: zipD xs ys
  | _, _ => []
theorem zipD_len : ∀ xs ys : List D, (zipD xs ys).length = min xs.length ys.length
  | [], _ => by simp [zipD]
  | _ :: _, [] => by simp [zipD]
  | x :: xs, y :: ys => by unfold zipD; rw [List.length_cons, zipD_len xs ys, List.length_cons, List.length_cons]; omega
theorem zipD_get : ∀ (xs ys : List D) (i : Nat) (d : D), (zipD xs ys)[i]? = some d → ∃ x y, xs[i]? = some x ∧ ys[i]? = some y ∧ d = .tup [x, y]
  | [], _, i, d, h => by simp [zipD] at h
  | _ :: _, [], i, d, h => by simp [zipD] at h
  | x :: xs, y :: ys, 0, d, h => by unfold zipD at h; cases h; exact ⟨x, y, rfl, rfl, rfl⟩
  | x :: xs, y :: ys, i + 1, d, h => by unfold zipD at h; exact zipD_get xs ys i d h
def mIZip (ma : M (List EV)) : M Itr := fun st => (ma st).bind fun as st1 => match as with
  | [a, b] => if isSl a = true ∨ isSl b = true then .stuck else match peek st1 a, peek st1 b with
    | some (.lst xs), some (.lst ys) => .ok ⟨zipD xs ys, fun st2 => peek st2 a = some (.lst xs) ∧ peek st2 b = some (.lst ys)⟩ st1
    | _, _ => .stuck
  | _ => .stuck
theorem sI_zip {t : TA} {mt : M (List EV)} (ha : SimA K cl E t mt) : SimI K cl E (iZip K t) (mIZip mt) := by
  intro W σ H st I R q
  refine ha W σ H st I _ (Res.imp (Res.bind q) fun as st1 W1 H1 hm1 I1 x1 q1 v k fro => ?_)
  split at q1
  · rename_i a b
    cases k with
    | cons k1 t1 =>
    cases t1 with
    | cons k2 t2 =>
    cases t2
    split at q1
    · exact q1.elim
    rename_i ns
    have n1 : isSl a = false := by simpa using fun z => ns (.inl z)
    have n2 : isSl b = false := by simpa using fun z => ns (.inr z)
    split at q1
    · rename_i xs ys e1 e2
      obtain ⟨p, vs, rfl, hq, r⟩ := peek_ok I1 k1 e1
      obtain ⟨p2, vs2, rfl, hq2, r2⟩ := peek_ok I1 k2 e2
      refine ⟨p, p2, vs, vs2, rfl, hq, hq2, ?_⟩
      have rd : ∀ {W2 : Wd} {σ2 : L2.St} {H2 : Hp} {st2 : St}, Inv K cl W2 σ2 H2 st2 → Ext W1 H1 W2 H2 → (peek st2 a = some (.lst xs) ∧ peek st2 b = some (.lst ys)) → ∃ us ws, SqL K H2 p us ∧ RepL K W2.F W2.ρ us xs ∧ SqL K H2 p2 ws ∧ RepL K W2.F W2.ρ ws ys := by
        intro W2 σ2 H2 st2 I2 x2 c
        obtain ⟨p', us, e2, h2, r2⟩ := peek_ok I2 ((k1.any (σ' := σ2) n1).ext x2) c.1
        obtain ⟨p'', ws, e3, h3, r3⟩ := peek_ok I2 ((k2.any (σ' := σ2) n2).ext x2) c.2
        cases e2
        cases e3
        exact ⟨us, ws, h2, r2, h3, r3⟩
      refine q1.now I1 (Itz K p p2) (fun H2 => ∃ us ws, SqL K H2 p us ∧ us.length = xs.length ∧ SqL K H2 p2 ws ∧ ws.length = ys.length) (fun i H2 v H3 => ∃ T x y, v = .ref T ∧ H2 T = none ∧ H3 = upd H2 T (.tup [x, y]) ∧ (∀ us, SqL K H2 p us → us[i]? = some x) ∧ ∀ ws, SqL K H2 p2 ws → ws[i]? = some y) ⟨?_, ?_, ?_⟩ ⟨?_, ?_⟩
      · rintro i H2 hi ⟨us, ws, h, hl, h', hl'⟩
        have hi : i < (zipD xs ys).length := hi
        rw [zipD_len, ← hl, ← hl'] at hi
        exact (walk_zip (K := K) (a := p) (b := p2) (xs := us) (ys := ws) rfl).goes i H2 hi ⟨h, h'⟩
      · rintro H2 ⟨us, ws, h, hl, h', hl'⟩
        have : (zipD xs ys).length = min us.length ws.length := by rw [zipD_len, hl, hl']
        show (Itz K p p2).stop (zipD xs ys).length H2
        rw [this]
        exact (walk_zip (K := K) (a := p) (b := p2) (xs := us) (ys := ws) rfl).stops H2 ⟨h, h'⟩
      · exact fun i H2 x H3 hi _ y => y
      · intro W2 σ2 H2 st2 I2 x2 c
        obtain ⟨us, ws, h, r3, h', r4⟩ := rd I2 x2 c
        exact ⟨us, ws, h, r3.len, h', r4.len⟩
      · rintro i d W2 σ2 H2 st2 x H3 ed I2 x2 c ⟨T, x', y', rfl, hT, rfl, ex, ey⟩
        obtain ⟨us, ws, h, r3, h', r4⟩ := rd I2 x2 c
        obtain ⟨z, z', ez, ez', rfl⟩ := zipD_get xs ys i d ed
        obtain ⟨w, ew, rw'⟩ := r3.get ez
        obtain ⟨w2, ew2, rw2⟩ := r4.get ez'
        rw [ex us h] at ew
        rw [ey ws h'] at ew2
        cases ew
        cases ew2
        have s := Kv.same_upd (o := .tup [x', y']) (I2.free hT).2
        exact ⟨_, I2.new hT, Ext.new I2 hT, .tup (SqT.of upd_same) (.cons (rw'.mono s (List.prefix_refl _)) (.cons (rw2.mono s (List.prefix_refl _)) .nil))⟩
    · exact q1.elim
  · exact q1.elim
/-! ### for -/
open Classical in
noncomputable def forL (chk : St → Prop) (mg : EV → M Unit) (mb : M Fl) : List D → M Fl
  | [], st => if chk st then .ok .nx st else .stuck
  | d :: r, st => if chk st then (mg (.dat d) st).bind fun _ st1 => (mb st1).bind fun f st2 => match f with
      | .nx => forL chk mg mb r st2
      | .cont => forL chk mg mb r st2
      | .brk => .ok .nx st2
      | .ret ev => .ok (.ret ev) st2
    else .stuck
noncomputable def mFor (mi : M Itr) (mg : EV → M Unit) (mb : M Fl) : M Fl := fun st => (mi st).bind fun it st1 => forL it.chk mg mb it.ds st1
theorem forL_chk {chk : St → Prop} {mg : EV → M Unit} {mb : M Fl} {ds : List D} {st : St} {D : Ends} (h : ResS K cl E W H (forL chk mg mb ds st) D) : chk st := by
  cases ds with
  | nil =>
    unfold forL at h
    split at h
    · assumption
    · exact h.elim
  | cons d r =>
    unfold forL at h
    split at h
    · assumption
    · exact h.elim
theorem sS_for {vs : List Nat} {wi : TI} {g : TG} {tb : TS} {mi : M Itr} {mg : EV → M Unit} {mb : M Fl} (hi : SimI K cl E wi mi) (hg : SimG K cl E vs g mg) (hb : SimS K cl E tb mb) : SimS K cl E (tFor wi g tb) (mFor mi mg mb) := by
  intro W σ H st I D q
  rw [Kv.tFor_eq]
  refine hi W σ H st I _ (Res.imp (ResS.bind q) fun it st1 W1 H1 hm1 I1 x1 q1 J G Y w gy => ?_)
  refine Kv.for_go w (fun i σ' H' => ∃ W' st', Inv K cl W' σ' H' st' ∧ Ext W1 H1 W' H' ∧ ResS K cl E W' H' (forL it.chk mg mb (it.ds.drop i) st') D) ⟨W1, st1, I1, Ext.refl _ _, q1⟩ ?_ ?_ ?_
  · rintro i σ' H' hi' ⟨W', st', I', x', q'⟩
    exact gy.g W' σ' H' st' I' x' (forL_chk q')
  · rintro i x σ' H' H2 hi' ⟨W', st', I', x', q'⟩ y
    have hc := forL_chk q'
    have ed : it.ds[i]? = some it.ds[i] := List.getElem?_eq_getElem hi'
    obtain ⟨W3, I3, x3, r3⟩ := gy.y i _ W' σ' H' st' x H2 ed I' x' hc y
    rw [List.drop_eq_getElem_cons hi'] at q'
    unfold forL at q'
    rw [if_pos hc] at q'
    replace q' := ResS.ext x3 q'
    refine hg W3 σ' H2 st' x (.dat it.ds[i]) I3 r3 _ ?_
    cases e : mg (.dat it.ds[i]) st' with
    | ok a st4 =>
      rw [e] at q'
      intro σ4 W4 H4 I4 x4 _
      refine hb W4 σ4 H4 st4 I4 _ ?_
      have q4 := ResS.ext x4 q'
      have q4 : ResS K cl E W4 H4 ((mb st4).bind fun f st2 => match f with
        | .nx => forL it.chk mg mb (it.ds.drop (i + 1)) st2
        | .cont => forL it.chk mg mb (it.ds.drop (i + 1)) st2
        | .brk => .ok .nx st2
        | .ret ev => .ok (.ret ev) st2) D := q4
      cases e5 : mb st4 with
      | ok f st5 =>
        rw [e5] at q4
        cases f with
        | nx => exact fun σ5 W5 H5 I5 x5 => ⟨W5, st5, I5, ((x'.trans x3).trans x4).trans x5, ResS.ext x5 q4⟩
        | cont => exact fun σ5 W5 H5 I5 x5 => ⟨W5, st5, I5, ((x'.trans x3).trans x4).trans x5, ResS.ext x5 q4⟩
        | brk => exact q4
        | ret ev => exact q4
      | err e' st5 => rw [e5] at q4; exact q4
      | stuck => rw [e5] at q4; exact q4
    | err e' st4 => rw [e] at q'; exact q'
    | stuck => rw [e] at q'; exact q'
  · rintro σ' H' ⟨W', st', I', x', q'⟩
    rw [List.drop_length] at q'
    unfold forL at q'
    split at q'
    · exact q' σ' W' H' I' (Ext.refl _ _)
    · exact q'.elim
/-! ### while -/
def whL (mc : M Bool) (mb : M Fl) : Nat → M Fl
  | 0, _ => .stuck
  | n + 1, st => (mc st).bind fun b st1 => if b = true then (mb st1).bind fun f st2 => match f with
      | .nx => whL mc mb n st2
      | .cont => whL mc mb n st2
      | .brk => .ok .nx st2
      | .ret ev => .ok (.ret ev) st2
    else .ok .nx st1
theorem sS_while {c : TT} {tb : TS} {mt : M Bool} {mb : M Fl} (n : Nat) (hc : SimT K cl E c mt) (hb : SimS K cl E tb mb) : SimS K cl E (tWhile c tb) (whL mt mb n) := by
  intro W σ H st I D q
  refine ⟨fun m σ' H' => ∃ W' st', Inv K cl W' σ' H' st' ∧ ResS K cl E W' H' (whL mt mb m st') D, ⟨n, W, st, I, q⟩, ?_⟩
  rintro m σ' H' ⟨W', st', I', q'⟩
  cases m with
  | zero => exact q'.elim
  | succ m =>
    refine hc W' σ' H' st' I' _ (Res.imp (ResS.bind q') fun b st1 W1 H1 hm1 I1 x1 q1 => ?_)
    split at q1
    · rename_i cb
      rw [if_pos cb]
      refine ⟨fun σ2 H2 => ∃ W2 st2, Inv K cl W2 σ2 H2 st2 ∧ ResS K cl E W2 H2 (whL mt mb m st2) D, fun σ2 H2 h => ⟨m, by omega, h⟩, hb W1 σ' H1 st1 I1 _ ?_⟩
      cases e5 : mb st1 with
      | ok f st5 =>
        rw [e5] at q1
        cases f with
        | nx => exact fun σ5 W5 H5 I5 x5 => ⟨W5, st5, I5, ResS.ext x5 q1⟩
        | cont => exact fun σ5 W5 H5 I5 x5 => ⟨W5, st5, I5, ResS.ext x5 q1⟩
        | brk => exact q1
        | ret ev => exact q1
      | err e' st5 => rw [e5] at q1; exact q1
      | stuck => rw [e5] at q1; exact q1
    · rename_i cb
      rw [if_neg cb]
      exact q1 σ' W1 H1 I1 (Ext.refl _ _)
end
end Mi

set_option Elab.async false
set_option linter.all false
set_option maxRecDepth 100000
set_option maxHeartbeats 4000000
namespace Mi
open PySem PySem.Spec PyProof.Rows L2
section
variable {K : Frag} {cl : (Str → Addr) × Addr × Bool} {E : Kv.Er → L2.St → Hp → Prop} {W : Wd} {σ : L2.St} {H : Hp} {ta tb tc : TE} {ma mb mc : M EV}
abbrev EF : Kv.Er → L2.St → Hp → Prop := fun _ _ _ => False
/-! ### comprehensions -/
def wipeE (env : List (Option SV)) : List Nat → List (Option SV)
  | [] => env
  | v :: vs => (wipeE env vs).set v none
theorem wipeE_len (env : List (Option SV)) : ∀ vs, (wipeE env vs).length = env.length
  | [] => rfl
  | v :: vs => by unfold wipeE; rw [List.length_set, wipeE_len env vs]
theorem wipeE_get (env : List (Option SV)) : ∀ (vs : List Nat) (j : Nat), (wipeE env vs)[j]? = if j ∈ vs then (env[j]?).map (fun _ => none) else env[j]?
  | [], j => by simp [wipeE]
  | v :: vs, j => by
    have ih := wipeE_get env vs j
    unfold wipeE
    by_cases c : v = j
    · subst c
      by_cases h : v < (wipeE env vs).length
      · rw [List.getElem?_set_self h, if_pos List.mem_cons_self]
        have : v < env.length := by rw [wipeE_len] at h; exact h
        rw [List.getElem?_eq_getElem this]; rfl
      · have h2 : ¬ v < env.length := by rw [wipeE_len] at h; exact h
        rw [List.getElem?_eq_none (by simpa using h), if_pos List.mem_cons_self, List.getElem?_eq_none (by omega)]; rfl
    · rw [get_set_ne c, ih]
      have : (j ∈ v :: vs) ↔ j ∈ vs := by simp [Ne.symm c]
      by_cases m : j ∈ vs
      · rw [if_pos m, if_pos (this.mpr m)]
      · rw [if_neg m, if_neg (fun z => m (this.mp z))]
theorem wipeE_some {env : List (Option SV)} {vs : List Nat} {j : Nat} {sv : SV} (h : (wipeE env vs)[j]? = some (some sv)) : j ∉ vs ∧ env[j]? = some (some sv) := by
  rw [wipeE_get] at h
  split at h
  · cases e : env[j]? with
    | none => rw [e] at h; cases h
    | some x => rw [e] at h; cases h
  · exact ⟨‹_›, h⟩
def St.wiped (st : St) (vs : List Nat) : St := { st with env := wipeE st.env vs }
/-- other slots, where what is told stays told -/
theorem Inv.slot {st : St} {σ' : L2.St} {env' : List (Option SV)} (I : Inv K cl W σ H st) (hl : σ'.length = env'.length) (k : ∀ i sv, env'[i]? = some (some sv) → SlOk K W σ' H i sv) : Inv K cl W σ' H { st with env := env' } :=
  ⟨I.xeq, I.nt, I.sub, I.out, I.inj, hl, k, I.ios, I.rlen, I.obs⟩
theorem Inv.wipe {st : St} {σ' : L2.St} {vs : List Nat} (I : Inv K cl W σ' H st) (e : L2.wipe σ' vs = L2.wipe σ vs) : Inv K cl W (L2.wipe σ vs) H (st.wiped vs) := by
  refine I.slot (by rw [wipe_length, wipeE_len, ← I.len]; have := congrArg List.length e; rw [wipe_length, wipe_length] at this; exact this.symm) fun i sv h => ?_
  obtain ⟨m, h⟩ := wipeE_some h
  refine (I.slots i sv h).sig ?_
  rw [← e, wipe_get, if_neg m]
/-- the comprehension's own names are as before -/
def restE (e0 : List (Option SV)) (env : List (Option SV)) : List Nat → List (Option SV)
  | [] => env
  | v :: vs => (restE e0 env vs).set v (match e0[v]? with
    | some (some (.own _)) => none
    | some x => x
    | none => none)
theorem restE_len (e0 env : List (Option SV)) : ∀ vs, (restE e0 env vs).length = env.length
  | [] => rfl
  | v :: vs => by unfold restE; rw [List.length_set, restE_len e0 env vs]
theorem restE_some {e0 env : List (Option SV)} : ∀ {vs : List Nat} {j : Nat} {sv : SV}, (restE e0 env vs)[j]? = some (some sv) → (j ∈ vs ∧ e0[j]? = some (some sv) ∧ ∀ b, sv ≠ .own b) ∨ (j ∉ vs ∧ env[j]? = some (some sv))
  | [], j, sv, h => .inr ⟨by simp, h⟩
  | v :: vs, j, sv, h => by
    unfold restE at h
    rcases set_get h with ⟨rfl, z⟩ | ⟨c, z⟩
    · refine .inl ⟨List.mem_cons_self, ?_⟩
      split at z
      · cases z
      · rename_i x n e
        subst z
        exact ⟨e, fun b z => n b (by rw [z])⟩
      · cases z
    · rcases restE_some z with ⟨m, r⟩ | ⟨m, r⟩
      · exact .inl ⟨List.mem_cons_of_mem _ m, r⟩
      · exact .inr ⟨by simp [Ne.symm c, m], r⟩
def lcL (vs : List Nat) (chk : St → Prop) (mg : EV → M Unit) (mt : M Bool) (me : M EV) [∀ st, Decidable (chk st)] : List D → List D → M (List D)
  | [], acc, st => if chk (st.wiped vs) then .ok acc st else .stuck
  | d :: r, acc, st => if chk (st.wiped vs) then (mg (.dat d) (st.wiped vs)).bind fun _ st1 => (mt st1).bind fun b st2 =>
      if b = true then (me st2).bind fun ev st3 => (toD ev st3).bind fun x st4 => if acc.length < sizeLine then lcL vs chk mg mt me r (acc ++ [x]) st4 else .stuck
      else lcL vs chk mg mt me r acc st2
    else .stuck
open Classical in
noncomputable def mLc (vs : List Nat) (mi : M Itr) (mg : EV → M Unit) (mt : M Bool) (me : M EV) : M BX := fun st => (mi st).bind fun it st1 => match lcL vs it.chk mg mt me it.ds [] st1 with
  | .ok ds st2 => .ok (.lst ds) { st2 with env := restE st1.env st2.env vs }
  | _ => .stuck
/-- a list on the way, nobody's -/
theorem Inv.tmp {st : St} {p : Addr} {o : HO} (I : Inv K cl W σ H st) (z1 : W.F p = none) (z2 : W.ow p = none) : Inv K cl W σ (upd H p o) st := by
  have hne : ∀ q t, W.ow q = some t → upd H p o q = H q := fun q t e => upd_ne fun c => by subst c; rw [z2] at e; cases e
  refine ⟨I.xeq, I.nt, sub_upd I.sub z1, out_upd I, I.inj, I.len, fun j sv ej => (I.slots j sv ej).kp (Same.refl _) (List.prefix_refl _) (fun _ _ h _ => h) fun q h => ⟨hne q _ h, h⟩, fun k b e => ?_, I.rlen, fun j o e => (I.obs j o e).kp (Same.refl _) (List.prefix_refl _) fun q t h _ => ⟨hne q t h, h⟩⟩
  obtain ⟨q, h, k2⟩ := I.ios k b e
  exact ⟨q, h, k2.kp (Same.refl _) (List.prefix_refl _) (hne q _ h)⟩
theorem Ext.tmp {W1 : Wd} {H1 : Hp} {p : Addr} {o : HO} (x : Ext W H W1 H1) (n : H p = none) : Ext W H W1 (upd H1 p o) := by
  refine ⟨x.sF, x.rr, x.ow, fun q u h e => ?_, x.xt, x.nw, fun q h => ?_, x.fz, x.xa⟩
  · rw [upd_ne (ne_of_none h n)]; exact x.un q u h e
  · by_cases c : q = p
    · subst c; exact n
    · rw [upd_ne c] at h; exact x.lv q h
theorem sN_lc {vs : List Nat} {wi : TI} {g : TG} {tt : TT} {te : TE} {mi : M Itr} {mg : EV → M Unit} {mt : M Bool} {me : M EV} (hi : SimI K cl E wi mi) (hg : SimG K cl EF vs g mg) (ht : SimT K cl EF tt mt) (he : SimE K cl EF te me) : SimN K cl E (tLc wi g tt te vs) (mLc vs mi mg mt me) := by
  intro W σ H st I Q q
  rw [Kv.tLc_eq]
  refine hi W σ H st I _ (Res.imp (Res.bind q) fun it st1 W1 H1 hm1 I1 x1 q1 J G Y w gy => ?_)
  intro L hL
  obtain ⟨z1, z2⟩ := I1.free hL
  let inst : ∀ st, Decidable (it.chk st) := fun st => Classical.propDecidable _
  let Fin : List D → St → Prop := fun ds st2 => ∀ W' H' us, Inv K cl W' (wipe σ vs) H' (st2.wiped vs) → Ext W1 H1 W' H' → W'.ow L = none → W'.F L = none → H' L = some (.lst us) → RepL K W'.F W'.ρ us ds → Q (.ref L) H'
  let RL : R (List D) → Prop := fun r => match r with
    | .ok ds st2 => Fin ds st2
    | _ => False
  have q2 : RL (@lcL vs it.chk mg mt me inst it.ds [] st1) := by
    have e0 : (fun st => Classical.propDecidable (it.chk st)) = inst := rfl
    cases e : @lcL vs it.chk mg mt me inst it.ds [] st1 with
    | ok ds st2 =>
      rw [e] at q1
      intro W' H' us I' x' o1 o2 eL r
      refine q1 W' H' ?_ x' L (x1.lv L hL) o2 o1 ⟨us, eL, r⟩
      refine Inv.slot (st := st2.wiped vs) I' ?_ fun i sv h => ?_
      · rw [restE_len, ← wipeE_len st2.env vs]
        have := I'.len
        rw [wipe_length] at this
        exact this
      · rcases restE_some h with ⟨m, h, n⟩ | ⟨m, h⟩
        · have k := I1.slots i sv h
          cases sv with
          | own b => exact absurd rfl (n b)
          | dat d => obtain ⟨v, e, r⟩ := k; exact ⟨v, e, r.ext x'⟩
          | io j => obtain ⟨v, e, r⟩ := k; exact ⟨v, e, x'.ow v _ r (by simp)⟩
          | fl j f => obtain ⟨v, e, r⟩ := k; exact ⟨v, e, x'.ow v _ r (by simp)⟩
          | exc => exact (show σ[i]? = some (some (.ref W1.xa.1)) from k).trans (by rw [x'.xa])
        · refine (I'.slots i sv ?_).sig ?_
          · show (wipeE st2.env vs)[i]? = _
            rw [wipeE_get, if_neg m]; exact h
          · rw [wipe_get, if_neg m]
    | err e' st2 => rw [e] at q1; exact q1.elim
    | stuck => rw [e] at q1; exact q1.elim
  refine lc_it w (Pv := fun i H' => ∃ W' st' acc us, Inv K cl W' (wipe σ vs) H' (st'.wiped vs) ∧ Ext W1 H1 W' H' ∧ W'.ow L = none ∧ W'.F L = none ∧ H' L = some (.lst us) ∧ RepL K W'.F W'.ρ us acc ∧ RL (@lcL vs it.chk mg mt me inst (it.ds.drop i) acc st')) ?_ ?_ ?_ ?_
  · exact ⟨W1, st1, [], [], (I1.new0 hL).wipe rfl, Ext.new0 hL, z1, z2, upd_same, .nil, q2⟩
  · rintro i H' hi' ⟨W', st', acc, us, I', x', o1, o2, eL, r, q'⟩
    refine gy.g W' _ H' _ I' x' ?_
    cases hd : it.ds.drop i with
    | nil =>
      rw [hd] at q'
      unfold lcL at q'
      split at q'
      · assumption
      · exact q'.elim
    | cons d t =>
      rw [hd] at q'
      unfold lcL at q'
      split at q'
      · assumption
      · exact q'.elim
  · rintro i x H' H2 hi' ⟨W', st', acc, us, I', x', o1, o2, eL, r, q'⟩ y
    have ed : it.ds[i]? = some it.ds[i] := List.getElem?_eq_getElem hi'
    rw [List.drop_eq_getElem_cons hi'] at q'
    unfold lcL at q'
    split at q'
    rotate_left
    · exact q'.elim
    rename_i hc
    obtain ⟨W3, I3, x3, r3⟩ := gy.y i _ W' _ H' _ x H2 ed I' x' hc y
    refine hg W3 (wipe σ vs) H2 _ x (.dat it.ds[i]) I3 r3 _ ?_
    cases e : mg (.dat it.ds[i]) (st'.wiped vs) with
    | err e' st4 => rw [e] at q'; exact q'.elim
    | stuck => rw [e] at q'; exact q'.elim
    | ok a st4 =>
    rw [e] at q'
    intro σ4 W4 H4 I4 x4 w4
    rw [wipe_idem] at w4
    refine ⟨w4, ht W4 σ4 H4 st4 I4 _ ?_⟩
    have q' : RL ((mt st4).bind fun b st2 => if b = true then (me st2).bind fun ev st3 => (toD ev st3).bind fun x st4 => if acc.length < sizeLine then @lcL vs it.chk mg mt me inst (it.ds.drop (i + 1)) (acc ++ [x]) st4 else .stuck
      else @lcL vs it.chk mg mt me inst (it.ds.drop (i + 1)) acc st2) := q'
    cases e5 : mt st4 with
    | err e' st5 => rw [e5] at q'; exact q'.elim
    | stuck => rw [e5] at q'; exact q'.elim
    | ok b st5 =>
    rw [e5] at q'
    intro W5 H5 I5 x5
    have x35 : Ext W' H' W5 H5 := (x3.trans x4).trans x5
    have n5 := x35.nw L _ eL o1
    have f5 := x35.fz L _ eL o1 o2
    have e5 := x35.un L _ eL (.inl o1)
    have q' : RL (if b = true then (me st5).bind fun ev st3 => (toD ev st3).bind fun x st4 => if acc.length < sizeLine then @lcL vs it.chk mg mt me inst (it.ds.drop (i + 1)) (acc ++ [x]) st4 else .stuck
      else @lcL vs it.chk mg mt me inst (it.ds.drop (i + 1)) acc st5) := q'
    split at q'
    · rename_i cb
      rw [if_pos cb]
      refine he W5 σ4 H5 st5 I5 _ ?_
      cases e6 : me st5 with
      | err e' st6 => rw [e6] at q'; exact q'.elim
      | stuck => rw [e6] at q'; exact q'.elim
      | ok ev st6 =>
      rw [e6] at q'
      intro W6 H6 I6 x6 v kv
      have q' : RL ((toD ev st6).bind fun x st4 => if acc.length < sizeLine then @lcL vs it.chk mg mt me inst (it.ds.drop (i + 1)) (acc ++ [x]) st4 else .stuck) := q'
      have q7 : Res K cl EF W6 σ4 H6 (toD ev st6) fun x st7 W7 H7 => toD ev st6 = .ok x st7 := by
        cases e7 : toD ev st6 with
        | ok x st7 => exact fun _ _ _ _ => rfl
        | err e' st7 => rw [e7] at q'; exact q'.elim
        | stuck => rw [e7] at q'; exact q'.elim
      obtain ⟨xd, st7, W7, I7, x7, rv, e7⟩ := toD_ok I6 kv q7
      rw [e7] at q'
      have q' : RL (if acc.length < sizeLine then @lcL vs it.chk mg mt me inst (it.ds.drop (i + 1)) (acc ++ [xd]) st7 else .stuck) := q'
      split at q'
      rotate_left
      · exact q'.elim
      rename_i hz
      have x37 : Ext W' H' W7 H6 := (x35.trans x6).trans x7
      have e6 := x37.un L _ eL (.inl o1)
      have n6 := x37.nw L _ eL o1
      have f6 := x37.fz L _ eL o1 o2
      have r6 := r.ext x37
      exact ⟨us, e6, by rw [r.len]; exact hz, W7, st7, acc ++ [xd], us ++ [v], ((I7.wipe w4).tmp f6 n6), (x'.trans x37).tmp hL, n6, f6, upd_same, r6.append (.cons rv .nil), q'⟩
    · rename_i cb
      rw [if_neg cb]
      exact ⟨W5, st5, acc, us, I5.wipe w4, x'.trans x35, n5, f5, e5, r.ext x35, q'⟩
  · rintro H' ⟨W', st', acc, us, I', x', o1, o2, eL, r, q'⟩
    rw [List.drop_length] at q'
    unfold lcL at q'
    split at q'
    · exact q' W' H' us I' x' o1 o2 eL r
    · exact q'.elim
theorem sT_yes : SimT K cl E tYes (M.pure true) := fun W σ H st I Q q => q.now I
end
end Mi

set_option Elab.async false
set_option linter.all false
set_option maxRecDepth 100000
set_option maxHeartbeats 4000000
namespace Mi
open PySem PySem.Spec PyProof.Rows L2
section
variable {K : Frag} {cl : (Str → Addr) × Addr × Bool} {E : Kv.Er → L2.St → Hp → Prop} {W : Wd} {σ : L2.St} {H : Hp} {ta tb tc : TE} {ma mb mc : M EV}
/-! ### defs -/
inductive AV where
  | dat (d : D) | io (k : Nat)
inductive RV where
  | dat (d : D) | io (k : Nat) | new (b : BX)
inductive RF where
  | ok (r : RV) (io : List BX) (S : List Ob) | err (e : Kv.Er) (io : List BX) (S : List Ob) | stuck
abbrev Fn := List AV → List BX → List Ob → RF
def AvOk (K : Frag) (W : Wd) (v : V) : AV → Prop
  | .dat d => Rep K W.F W.ρ v d
  | .io k => ∃ p, v = .ref p ∧ W.ow p = some (.io k)
inductive AvsOk (K : Frag) (W : Wd) : List V → List AV → Prop
  | nil : AvsOk K W [] []
  | cons {v : V} {a : AV} {vs : List V} {as : List AV} : AvOk K W v a → AvsOk K W vs as → AvsOk K W (v :: vs) (a :: as)
theorem AvsOk.len : ∀ {vs : List V} {as : List AV}, AvsOk K W vs as → vs.length = as.length
  | _, _, .nil => rfl
  | _, _, .cons _ t => by rw [List.length_cons, List.length_cons, t.len]
theorem AvsOk.get : ∀ {vs : List V} {as : List AV} {i : Nat} {a : AV}, AvsOk K W vs as → as[i]? = some a → ∃ v, vs[i]? = some v ∧ AvOk K W v a
  | _, _, i, _, .nil, e => by simp at e
  | _, _, 0, _, .cons r _, e => by cases e; exact ⟨_, rfl, r⟩
  | _, _, i + 1, _, .cons _ t, e => t.get (i := i) e
def RvOk (K : Frag) (H : Hp) (W' : Wd) (H' : Hp) (v : V) : RV → Prop
  | .dat d => Rep K W'.F W'.ρ v d
  | .io k => ∃ p, v = .ref p ∧ W'.ow p = some (.io k)
  | .new b => ∃ p, v = .ref p ∧ H p = none ∧ W'.F p = none ∧ W'.ow p = none ∧ BxOk K W' H' p b
def InvF (K : Frag) (cl : (Str → Addr) × Addr × Bool) (W : Wd) (H : Hp) (io : List BX) (S : List Ob) : Prop := Inv K cl W [] H ⟨[], io, S⟩
def RFok (K : Frag) (cl : (Str → Addr) × Addr × Bool) (ex : Kv.Er → Addr) (W : Wd) (H : Hp) (r : RF) (Q : VK) (E : XK) : Prop := match r with
  | .ok rv io' S' => ∀ W' H' v, InvF K cl W' H' io' S' → Ext W H W' H' → RvOk K H W' H' v rv → Q v H'
  | .err e io' S' => ∀ W' H', InvF K cl W' H' io' S' → Ext W H W' H' → E (.ref (ex e)) none H'
  | .stuck => False
/-- a def's promise by its function -/
def spM (K : Frag) (c : Str → Addr) (ex : Kv.Er → Addr) (n : Nat) (m : Fn) : Sp := fun vs H Q E => vs.length = n ∧ ∃ (xa : Addr) (W : Wd) (io : List BX) (S : List Ob) (as : List AV), InvF K (c, xa, false) W H io S ∧ (∀ p i, W.ow p ≠ some (.sl i)) ∧ AvsOk K W vs as ∧ RFok K (c, xa, false) ex W H (m as io S) Q E
def AV.sv : AV → SV
  | .dat d => .dat d
  | .io k => .io k
def runF (n : Nat) (ms : M Fl) : Fn := fun as io S => match ms ⟨as.map (fun a => some a.sv) ++ List.replicate (n - as.length) none, io, S⟩ with
  | .ok (.ret (.dat d)) st' => .ok (.dat d) st'.io st'.S
  | .ok (.ret (.io k)) st' => .ok (.io k) st'.io st'.S
  | .ok (.ret (.sl i)) st' => match st'.env[i]? with
    | some (some (.own b)) => .ok (.new b) st'.io st'.S
    | some (some (.dat d)) => .ok (.dat d) st'.io st'.S
    | _ => .stuck
  | .ok (.ret (.tp b)) st' => .ok (.new b) st'.io st'.S
  | .ok .nx st' => .ok (.dat .non) st'.io st'.S
  | .err e st' => .err e st'.io st'.S
  | _ => .stuck
theorem start_get {N : List Str} {vs : List V} {as : List AV} {i : Nat} {sv : SV} (r : AvsOk K W vs as) (h : (as.map (fun a => some a.sv) ++ List.replicate (N.length - as.length) none)[i]? = some (some sv)) : ∃ v a, (L2.start N vs)[i]? = some (some v) ∧ AvOk K W v a ∧ sv = a.sv := by
  have hl := r.len
  by_cases c : i < as.length
  · rw [List.getElem?_append_left (by simpa using c), List.getElem?_map, List.getElem?_eq_getElem c] at h
    cases h
    obtain ⟨v, e, k⟩ := r.get (List.getElem?_eq_getElem c)
    refine ⟨v, as[i], ?_, k, rfl⟩
    unfold L2.start
    rw [List.getElem?_append_left (by simp; omega), List.getElem?_map, e]
    rfl
  · rw [List.getElem?_append_right (by simp; omega), List.length_map, List.getElem?_replicate] at h
    split at h
    · cases h
    · cases h
theorem body_ok {ex : Kv.Er → Addr} {X : XK} {t : TS} {ms : M Fl} {N : List Str} {n : Nat} {vs : List V} {Q : VK} {c : Str → Addr} (h : ∀ xa, SimS K (c, xa, false) (fun e _ H => X (.ref (ex e)) none H) t ms) (q : spM K c ex n (runF N.length ms) vs H Q X) :
    t { nx := fun _ H' => Q .non H', rt := Q } (L2.start N vs) H := by
  obtain ⟨hv, xa, W, io, S, as, I, ns, r, q⟩ := q
  have hl := r.len
  have I0 : Inv K (c, xa, false) W (L2.start N vs) H ⟨as.map (fun a => some a.sv) ++ List.replicate (N.length - as.length) none, io, S⟩ := by
    refine Inv.slot I ?_ fun i sv e => ?_
    · unfold L2.start
      simp [hl]
    · obtain ⟨v, a, e1, k, rfl⟩ := start_get r e
      cases a with
      | dat d => exact ⟨v, e1, k⟩
      | io j => obtain ⟨p, rfl, o⟩ := k; exact ⟨p, e1, o⟩
  refine h xa W _ H _ I0 _ ?_
  unfold runF at q
  have fin : ∀ {W' : Wd} {σ' : L2.St} {H' : Hp} {st' : St}, Inv K (c, xa, false) W' σ' H' st' → InvF K (c, xa, false) W' H' st'.io st'.S := fun I' => Inv.slot I' rfl fun i sv e => by simp at e
  generalize ms ⟨as.map (fun a => some a.sv) ++ List.replicate (N.length - as.length) none, io, S⟩ = res at q
  cases res with
  | stuck => exact q.elim
  | err e st' => exact fun σ' W' H' I' x' => q W' H' (fin I') x'
  | ok f st' =>
    cases f with
    | nx => exact fun σ' W' H' I' x' => q W' H' _ (fin I') x' .non
    | brk => exact q.elim
    | cont => exact q.elim
    | ret ev =>
      cases ev with
      | dat d => exact fun σ' W' H' v I' x' k _ => q W' H' v (fin I') x' k
      | io k => exact fun σ' W' H' v I' x' k _ => q W' H' v (fin I') x' k
      | fl j f => exact q.elim
      | exc => exact q.elim
      | tp b =>
        intro σ' W' H' v I' x' k f
        obtain ⟨p, rfl, z1, z2, kb⟩ := k
        obtain ⟨p', e1, e2⟩ := f b rfl
        cases e1
        exact q W' H' _ (fin I') x' ⟨_, rfl, e2, z1, z2, kb⟩
      | sl i =>
        intro σ' W' H' v I' x' k _
        have k : σ'[i]? = some (some v) := k
        dsimp only at q
        split at q
        · rename_i b e
          obtain ⟨p, e1, o, kb⟩ := I'.slots i _ e
          rw [k] at e1
          cases e1
          have I2 : InvF K (c, xa, false) (W'.drop i) H' st'.io st'.S := by
            refine ⟨I'.xeq, fun z p k h => I'.nt z p k (drop_ow' h).1, I'.sub, fun p t h => I'.out p t (drop_ow' h).1, fun p q t h h' n => I'.inj p q t (drop_ow' h).1 (drop_ow' h').1 n, rfl, fun j sv e => by simp at e, fun k b e => ?_, I'.rlen, fun j o e => ?_⟩
            · obtain ⟨p, o, k2⟩ := I'.ios k b e
              exact ⟨p, drop_ow o (by simp), k2.kp (Same.refl _) (List.prefix_refl _) rfl⟩
            · exact (I'.obs j o e).kp (W := W') (W' := W'.drop i) (Same.refl _) (List.prefix_refl _) fun p t h z => ⟨rfl, drop_ow h (by rcases z with z | z | ⟨f, z⟩ <;> simp [z])⟩
          refine q (W'.drop i) H' _ I2 (x'.trans Ext.drop) ⟨p, rfl, ?_, (I'.out p _ o).1, ?_, kb.kp (Same.refl _) (List.prefix_refl _) rfl⟩
          · cases hp : H p with
            | none => rfl
            | some u =>
              exfalso
              cases c : W.ow p with
              | none => rw [x'.nw p u hp c] at o; cases o
              | some t =>
                have := x'.ow p t c (fun i z => ns p i (by rw [c, z]))
                rw [o] at this
                cases this
                exact ns p i c
          · show (if W'.ow p = some (.sl i) then none else W'.ow p) = none
            rw [if_pos o]
        · rename_i d e
          obtain ⟨v', e1, rv⟩ := I'.slots i _ e
          rw [k] at e1
          cases e1
          exact q W' H' v (fin I') x' rv
        · exact q.elim
/-- of a def that raises nothing -/
def noErrF (m : Fn) : Fn := fun as io S => match m as io S with
  | .err _ _ _ => .stuck
  | r => r
theorem noErrF_ne {m : Fn} {as : List AV} {bs io : List BX} {S S' : List Ob} {e : Kv.Er} (h : noErrF m as bs S = .err e io S') : False := by
  unfold noErrF at h
  split at h
  · cases h
  · rename_i n; exact n _ _ _ h
theorem body_ok0 {ex : Kv.Er → Addr} {X : XK} {t : TS} {ms : M Fl} {N : List Str} {n : Nat} {vs : List V} {Q : VK} {c : Str → Addr} (h : ∀ xa, SimS K (c, xa, false) EF t ms) (q : spM K c ex n (noErrF (runF N.length ms)) vs H Q X) :
    t { nx := fun _ H' => Q .non H', rt := Q } (L2.start N vs) H := by
  obtain ⟨hv, xa, W, io, S, as, I, ns, r, q⟩ := q
  refine body_ok (X := fun _ _ _ => False) (ex := ex) (n := n) h ⟨hv, xa, W, io, S, as, I, ns, r, ?_⟩
  unfold noErrF at q
  split at q
  · exact q.elim
  · rename_i n
    cases e : runF N.length ms as io S with
    | err a b c => exact absurd e (n a b c)
    | ok rv io S => rw [e] at q; exact q
    | stuck => rw [e] at q; exact q
/-! ### calls -/
def hTagAt (k : Nat) : EV → Tag
  | .sl i => .sl i
  | .io k => .io k
  | .tp _ => .tm k
  | _ => .xt
def tagsOf (hs : List EV) : List Tag := hs.mapIdx hTagAt
theorem tags_get {hs : List EV} {k : Nat} : (tagsOf hs)[k]? = (hs[k]?).map (hTagAt k) := by unfold tagsOf; rw [List.getElem?_mapIdx]
def isH : EV → Bool
  | .sl _ => true
  | .io _ => true
  | .tp _ => true
  | _ => false
def boxOf (st : St) : EV → Option BX
  | .tp b => some b
  | ev => ownB st ev
/-- what is handed over: plain data, and what the caller owns by its place in a list -/
def splitA (st : St) : Nat → List EV → Option (List AV × List EV × List BX)
  | _, [] => some ([], [], [])
  | n, .dat d :: r => (splitA st n r).map fun x => (.dat d :: x.1, x.2.1, x.2.2)
  | n, ev :: r => if isH ev = true then match boxOf st ev, splitA st (n + 1) r with
      | some b, some x => some (.io n :: x.1, ev :: x.2.1, b :: x.2.2)
      | _, _ => none
    else none
def putH (st : St) : List EV → List BX → St
  | .sl i :: hs, b :: bs => putH { st with env := st.env.set i (some (.own b)) } hs bs
  | .io k :: hs, b :: bs => putH { st with io := st.io.set k b } hs bs
  | _ :: hs, _ :: bs => putH st hs bs
  | _, _ => st
theorem putH_env : ∀ (hs : List EV) (bs : List BX) (st : St) (i : Nat) (sv : SV), (putH st hs bs).env[i]? = some (some sv) → (∃ (k : Nat) (b : BX), hs[k]? = some (EV.sl i) ∧ bs[k]? = some b ∧ sv = .own b) ∨ ((hs.length = bs.length → EV.sl i ∉ hs) ∧ st.env[i]? = some (some sv))
  | [], bs, st, i, sv, h => .inr ⟨fun _ => by simp, by cases bs <;> exact h⟩
  | h0 :: hs, [], st, i, sv, h => .inr ⟨fun z => by simp at z, by cases h0 <;> exact h⟩
  | h0 :: hs, b :: bs, st, i, sv, h => by
    have go : ∀ st1 : St, (putH st1 hs bs).env[i]? = some (some sv) → (∀ x, st1.env[i]? = some x → (h0 = .sl i ∧ x = some (.own b)) ∨ (h0 ≠ .sl i ∧ st.env[i]? = some x)) → (∃ (k : Nat) (b' : BX), (h0 :: hs)[k]? = some (EV.sl i) ∧ (b :: bs)[k]? = some b' ∧ sv = .own b') ∨ (((h0 :: hs).length = (b :: bs).length → EV.sl i ∉ h0 :: hs) ∧ st.env[i]? = some (some sv)) := by
      intro st1 h k
      rcases putH_env hs bs st1 i sv h with ⟨j, b', e1, e2, e3⟩ | ⟨m, e⟩
      · exact .inl ⟨j + 1, b', e1, e2, e3⟩
      · rcases k _ e with ⟨rfl, z⟩ | ⟨n, z⟩
        · cases z; exact .inl ⟨0, b, rfl, rfl, rfl⟩
        · exact .inr ⟨fun l => by
            have := m (by simpa using l)
            simp [this, Ne.symm n], z⟩
    cases h0 with
    | sl j =>
      refine go _ h fun x hx => ?_
      rcases set_get hx with ⟨rfl, z⟩ | ⟨c, z⟩
      · exact .inl ⟨rfl, z⟩
      · exact .inr ⟨fun q => c (by cases q; rfl), z⟩
    | io j => exact go _ h fun x hx => .inr ⟨by simp, hx⟩
    | dat d => exact go _ h fun x hx => .inr ⟨by simp, hx⟩
    | fl j f => exact go _ h fun x hx => .inr ⟨by simp, hx⟩
    | exc => exact go _ h fun x hx => .inr ⟨by simp, hx⟩
    | tp b => exact go _ h fun x hx => .inr ⟨by simp, hx⟩
theorem putH_io : ∀ (hs : List EV) (bs : List BX) (st : St) (i : Nat) (sv : BX), (putH st hs bs).io[i]? = some sv → (∃ k : Nat, hs[k]? = some (EV.io i) ∧ bs[k]? = some sv) ∨ ((hs.length = bs.length → EV.io i ∉ hs) ∧ st.io[i]? = some sv)
  | [], bs, st, i, sv, h => .inr ⟨fun _ => by simp, by cases bs <;> exact h⟩
  | h0 :: hs, [], st, i, sv, h => .inr ⟨fun z => by simp at z, by cases h0 <;> exact h⟩
  | h0 :: hs, b :: bs, st, i, sv, h => by
    have go : ∀ st1 : St, (putH st1 hs bs).io[i]? = some sv → (∀ x, st1.io[i]? = some x → (h0 = .io i ∧ x = b) ∨ (h0 ≠ .io i ∧ st.io[i]? = some x)) → (∃ k : Nat, (h0 :: hs)[k]? = some (EV.io i) ∧ (b :: bs)[k]? = some sv) ∨ (((h0 :: hs).length = (b :: bs).length → EV.io i ∉ h0 :: hs) ∧ st.io[i]? = some sv) := by
      intro st1 h k
      rcases putH_io hs bs st1 i sv h with ⟨j, e1, e2⟩ | ⟨m, e⟩
      · exact .inl ⟨j + 1, e1, e2⟩
      · rcases k _ e with ⟨rfl, z⟩ | ⟨n, z⟩
        · subst z; exact .inl ⟨0, rfl, rfl⟩
        · exact .inr ⟨fun l => by
            have := m (by simpa using l)
            simp [this, Ne.symm n], z⟩
    cases h0 with
    | io j =>
      refine go _ h fun x hx => ?_
      rcases set_get hx with ⟨rfl, z⟩ | ⟨c, z⟩
      · exact .inl ⟨rfl, z⟩
      · exact .inr ⟨fun q => c (by cases q; rfl), z⟩
    | sl j => exact go _ h fun x hx => .inr ⟨by simp, hx⟩
    | dat d => exact go _ h fun x hx => .inr ⟨by simp, hx⟩
    | fl j f => exact go _ h fun x hx => .inr ⟨by simp, hx⟩
    | exc => exact go _ h fun x hx => .inr ⟨by simp, hx⟩
    | tp b => exact go _ h fun x hx => .inr ⟨by simp, hx⟩
theorem putH_len : ∀ (hs : List EV) (bs : List BX) (st : St), (putH st hs bs).env.length = st.env.length ∧ (putH st hs bs).S = st.S
  | [], bs, st => by cases bs <;> exact ⟨rfl, rfl⟩
  | h0 :: hs, [], st => by cases h0 <;> exact ⟨rfl, rfl⟩
  | h0 :: hs, b :: bs, st => by
    cases h0 with
    | sl j => have := putH_len hs bs { st with env := st.env.set j (some (.own b)) }; exact ⟨this.1.trans (by simp), this.2⟩
    | io j => exact putH_len hs bs { st with io := st.io.set j b }
    | dat d => exact putH_len hs bs st
    | fl j f => exact putH_len hs bs st
    | exc => exact putH_len hs bs st
    | tp b => exact putH_len hs bs st
/-- the lists on the way, by their places among what is handed over -/
def tmOf : Nat → List V → List EV → Addr → Option Nat
  | n, v :: vs, ev :: evs, p => match ev with
    | .dat _ => tmOf n vs evs p
    | .tp _ => if v = .ref p then some n else tmOf (n + 1) vs evs p
    | _ => tmOf (n + 1) vs evs p
  | _, _, _, _ => none
theorem tmOf_le : ∀ {vs : List V} {evs : List EV} {n k : Nat} {p : Addr}, tmOf n vs evs p = some k → n ≤ k
  | [], _, n, k, p, h => by simp [tmOf] at h
  | _ :: _, [], n, k, p, h => by simp [tmOf] at h
  | v :: vs, ev :: evs, n, k, p, h => by
    cases ev with
    | dat d => exact tmOf_le (vs := vs) (evs := evs) (n := n) h
    | tp b =>
      have h : (if v = .ref p then some n else tmOf (n + 1) vs evs p) = some k := h
      split at h
      · cases h; exact Nat.le_refl _
      · exact Nat.le_trans (Nat.le_succ _) (tmOf_le h)
    | sl i => exact Nat.le_trans (Nat.le_succ _) (tmOf_le (vs := vs) (evs := evs) (n := n + 1) h)
    | io i => exact Nat.le_trans (Nat.le_succ _) (tmOf_le (vs := vs) (evs := evs) (n := n + 1) h)
    | fl i f => exact Nat.le_trans (Nat.le_succ _) (tmOf_le (vs := vs) (evs := evs) (n := n + 1) h)
    | exc => exact Nat.le_trans (Nat.le_succ _) (tmOf_le (vs := vs) (evs := evs) (n := n + 1) h)
theorem tmOf_inj : ∀ {vs : List V} {evs : List EV} {n k : Nat} {p q : Addr}, tmOf n vs evs p = some k → tmOf n vs evs q = some k → p = q
  | [], _, n, k, p, q, h, _ => by simp [tmOf] at h
  | _ :: _, [], n, k, p, q, h, _ => by simp [tmOf] at h
  | v :: vs, ev :: evs, n, k, p, q, h, h' => by
    cases ev with
    | dat d => exact tmOf_inj (vs := vs) (evs := evs) (n := n) h h'
    | tp b =>
      have h : (if v = .ref p then some n else tmOf (n + 1) vs evs p) = some k := h
      have h' : (if v = .ref q then some n else tmOf (n + 1) vs evs q) = some k := h'
      split at h
      · rename_i e
        cases h
        split at h'
        · rename_i e'
          rw [e] at e'
          cases e'
          rfl
        · exact absurd (tmOf_le h') (by omega)
      · split at h'
        · cases h'
          exact absurd (tmOf_le h) (by omega)
        · exact tmOf_inj h h'
    | sl i => exact tmOf_inj (vs := vs) (evs := evs) (n := n + 1) h h'
    | io i => exact tmOf_inj (vs := vs) (evs := evs) (n := n + 1) h h'
    | fl i f => exact tmOf_inj (vs := vs) (evs := evs) (n := n + 1) h h'
    | exc => exact tmOf_inj (vs := vs) (evs := evs) (n := n + 1) h h'
theorem tmOf_some : ∀ {vs : List V} {evs : List EV} {n k : Nat} {p : Addr}, tmOf n vs evs p = some k → ∃ (i : Nat) (b : BX), evs[i]? = some (.tp b) ∧ vs[i]? = some (.ref p)
  | [], _, n, k, p, h => by simp [tmOf] at h
  | _ :: _, [], n, k, p, h => by simp [tmOf] at h
  | v :: vs, ev :: evs, n, k, p, h => by
    have go : ∀ n, tmOf n vs evs p = some k → ∃ (i : Nat) (b : BX), (ev :: evs)[i]? = some (.tp b) ∧ (v :: vs)[i]? = some (.ref p) := fun n h => by
      obtain ⟨i, b, e1, e2⟩ := tmOf_some h
      exact ⟨i + 1, b, e1, e2⟩
    cases ev with
    | dat d => exact go n h
    | tp b =>
      have h : (if v = .ref p then some n else tmOf (n + 1) vs evs p) = some k := h
      split at h
      · rename_i e; exact ⟨0, b, rfl, by rw [e]; rfl⟩
      · exact go (n + 1) h
    | sl i => exact go (n + 1) h
    | io i => exact go (n + 1) h
    | fl i f => exact go (n + 1) h
    | exc => exact go (n + 1) h
theorem EvsOk.get : ∀ {vs : List V} {evs : List EV} {i : Nat} {ev : EV}, EvsOk K W H σ vs evs → evs[i]? = some ev → ∃ v, vs[i]? = some v ∧ EvOk K W H σ v ev
  | _, _, i, _, .nil, e => by simp at e
  | _, _, 0, _, .cons r _, e => by cases e; exact ⟨_, rfl, r⟩
  | _, _, i + 1, _, .cons _ t, e => t.get (i := i) e
def Wd.tm (W : Wd) (vs : List V) (evs : List EV) : Wd := { W with xa := (W.xa.1, true), ow := fun p => match tmOf 0 vs evs p with
  | some k => some (Tag.tm k)
  | none => W.ow p }
theorem tm_free {st : St} {vs : List V} {evs : List EV} {n k : Nat} {p : Addr} (I : Inv K cl W σ H st) (ks : EvsOk K W H σ vs evs) (h : tmOf n vs evs p = some k) : W.ow p = none ∧ W.F p = none ∧ ∃ o, H p = some o := by
  obtain ⟨i, b, e1, e2⟩ := tmOf_some h
  obtain ⟨v, e3, q, rfl, z1, z2, kb⟩ := ks.get e1
  rw [e2] at e3
  cases e3
  refine ⟨z2, z1, ?_⟩
  cases b with
  | lst ds => obtain ⟨vs, e, _⟩ := kb; exact ⟨_, e⟩
  | dct ds => obtain ⟨vs, e, _⟩ := kb; exact ⟨_, e⟩
  | fz ds => obtain ⟨_, vs, e, _⟩ := kb; exact ⟨_, e⟩
theorem slTm {vs : List V} {evs : List EV} {i : Nat} {sv : SV} (h : SlOk K W σ H i sv) (up : ∀ {p : Addr} {t : Tag}, W.ow p = some t → (W.tm vs evs).ow p = some t) : SlOk K (W.tm vs evs) σ H i sv := by
  cases sv with
  | exc => exact h
  | dat d => exact h
  | own b => obtain ⟨p, e, o, k⟩ := h; exact ⟨p, e, up o, k.kp (Same.refl _) (List.prefix_refl _) rfl⟩
  | io k => obtain ⟨p, e, o⟩ := h; exact ⟨p, e, up o⟩
  | fl j f => obtain ⟨p, e, o⟩ := h; exact ⟨p, e, up o⟩
theorem tm_ok {c : Str → Addr} {xa : Addr} {st : St} {vs : List V} {evs : List EV} (I : Inv K (c, xa, false) W σ H st) (ks : EvsOk K W H σ vs evs) : Inv K (c, xa, true) (W.tm vs evs) σ H st := by
  have hx : W.xa = (xa, false) := I.xeq
  have nt : ∀ p k, W.ow p ≠ some (.tm k) := I.nt (by rw [hx])
  have up : ∀ {p : Addr} {t : Tag}, W.ow p = some t → (W.tm vs evs).ow p = some t := fun {p t} h => by
    show (match tmOf 0 vs evs p with | some k => some (Tag.tm k) | none => W.ow p) = _
    cases e : tmOf 0 vs evs p with
    | none => exact h
    | some k => rw [(tm_free I ks e).1] at h; cases h
  have dn : ∀ {p : Addr} {t : Tag}, (W.tm vs evs).ow p = some t → (∃ k, t = Tag.tm k ∧ tmOf 0 vs evs p = some k) ∨ W.ow p = some t := fun {p t} h => by
    have h : (match tmOf 0 vs evs p with | some k => some (Tag.tm k) | none => W.ow p) = some t := h
    cases e : tmOf 0 vs evs p with
    | none => rw [e] at h; exact .inr h
    | some k => rw [e] at h; cases h; exact .inl ⟨k, rfl, rfl⟩
  refine ⟨by show (W.xa.1, true) = _; rw [hx], (fun z => Bool.noConfusion z), I.sub, fun p t h => ?_, fun p q t h h' n => ?_, I.len, fun i sv e => slTm (I.slots i sv e) up, fun k b e => ?_, I.rlen, fun j o e => (I.obs j o e).kp (W := W) (W' := W.tm vs evs) (Same.refl _) (List.prefix_refl _) fun p t h z => ⟨rfl, up h⟩⟩
  · rcases dn h with ⟨k, rfl, e⟩ | h
    · exact ⟨(tm_free I ks e).2.1, (tm_free I ks e).2.2⟩
    · exact I.out p t h
  · rcases dn h with ⟨k, rfl, e⟩ | h
    · rcases dn h' with ⟨k', e2, e'⟩ | h'
      · cases e2; exact tmOf_inj e e'
      · exact absurd h' (nt q k)
    · rcases dn h' with ⟨k', rfl, e'⟩ | h'
      · exact absurd h (nt p k')
      · exact I.inj p q t h h' n
  · obtain ⟨p, o, kb⟩ := I.ios k b e
    exact ⟨p, up o, kb.kp (Same.refl _) (List.prefix_refl _) rfl⟩
theorem h_ok {st : St} {v : V} {ev : EV} {b : BX} (I : Inv K cl W σ H st) (k : EvOk K W H σ v ev) (h : isH ev = true) (n : ∀ b, ev ≠ .tp b) (e : boxOf st ev = some b) : ∃ p, v = .ref p ∧ (∀ j, W.ow p = some (hTagAt j ev)) ∧ BxOk K W H p b := by
  cases ev with
  | dat d => cases h
  | fl j f => cases h
  | exc => cases h
  | tp b => exact absurd rfl (n b)
  | sl i =>
    unfold boxOf ownB at e
    dsimp only at e
    have k : σ[i]? = some (some v) := k
    split at e
    · rename_i b0 es
      cases e
      obtain ⟨p, h1, h2, h3⟩ := I.slots i _ es
      rw [k] at h1
      cases h1
      exact ⟨p, rfl, fun _ => h2, h3⟩
    · cases e
  | io i =>
    unfold boxOf ownB at e
    dsimp only at e
    obtain ⟨p, rfl, o⟩ := k
    obtain ⟨q, h2, h3⟩ := I.ios i _ e
    cases I.inj p q _ o h2 (by simp)
    exact ⟨_, rfl, fun _ => h2, h3⟩
theorem splitA_ok {st : St} {H0 : Hp} (I : Inv K cl W σ H st) : ∀ {evs : List EV} {n : Nat} {vs : List V} {as : List AV} {hs : List EV} {bs : List BX}, EvsOk K W H σ vs evs → FrOk H0 vs evs → splitA st n evs = some (as, hs, bs) →
    hs.length = bs.length ∧ (∀ (k : Nat) (h : EV) (b : BX), hs[k]? = some h → bs[k]? = some b → isH h = true ∧ boxOf st h = some b ∧ ∃ p, (W.ow p = some (hTagAt (n + k) h) ∧ (∀ b, h ≠ .tp b) ∨ (∃ b, h = .tp b) ∧ tmOf n vs evs p = some (n + k)) ∧ BxOk K W H p b) ∧ as.length = vs.length ∧
    ∀ (W' : Wd), Same W.F W'.F → W'.ρ = W.ρ → (∀ (k : Nat) (h : EV) (p : Addr), hs[k]? = some h → (W.ow p = some (hTagAt (n + k) h) ∧ (∀ b, h ≠ .tp b) ∨ (∃ b, h = .tp b) ∧ tmOf n vs evs p = some (n + k)) → W'.ow p = some (.io (n + k))) → AvsOk K W' vs as
  | [], n, _, as, hs, bs, .nil, _, e => by
    cases e
    exact ⟨rfl, fun k h b e => by simp at e, rfl, fun W' _ _ _ => .nil⟩
  | ev :: r, n, _, as, hs, bs, .cons (v := v) (vs := vs) k t, .cons f0 ft, e => by
    by_cases hd : ∃ d, ev = .dat d
    · obtain ⟨d, rfl⟩ := hd
      have e : (splitA st n r).map (fun x => (AV.dat d :: x.1, x.2.1, x.2.2)) = some (as, hs, bs) := e
      cases ex : splitA st n r with
      | none => rw [ex] at e; cases e
      | some x =>
        rw [ex] at e
        cases e
        obtain ⟨h1, h2, h3, h4⟩ := splitA_ok I t ft ex
        exact ⟨h1, h2, by simp [h3], fun W' s r' hk => .cons (Rep.mono s (r' ▸ List.prefix_refl _) k) (h4 W' s r' hk)⟩
    · have e : (if isH ev = true then match boxOf st ev, splitA st (n + 1) r with
        | some b, some x => some (AV.io n :: x.1, ev :: x.2.1, b :: x.2.2)
        | _, _ => none
        else none) = some (as, hs, bs) := by
        cases ev with
        | dat d => exact absurd ⟨d, rfl⟩ hd
        | _ => exact e
      split at e
      rotate_left
      · cases e
      rename_i hH
      split at e
      · rename_i b x eb ex
        cases e
        obtain ⟨h1, h2, h3, h4⟩ := splitA_ok I t ft ex
        -- a later list on the way is another one
        have tl : ∀ {p : Addr} {k : Nat}, tmOf (n + 1) vs r p = some k → tmOf n (v :: vs) (ev :: r) p = some k := fun {p k} h => by
          cases ev with
          | dat d => exact absurd ⟨d, rfl⟩ hd
          | tp b =>
            obtain ⟨q, rfl, _, hq⟩ := f0 b rfl
            unfold tmOf
            dsimp only
            obtain ⟨i, b', e1, e2⟩ := tmOf_some h
            rw [if_neg (fun z => by cases z; exact hq i b' e1 e2)]
            exact h
          | sl i => exact h
          | io i => exact h
          | fl i f => exact h
          | exc => exact h
        have head : ∃ p, v = .ref p ∧ (W.ow p = some (hTagAt n ev) ∧ (∀ b, ev ≠ .tp b) ∨ (∃ b, ev = .tp b) ∧ tmOf n (v :: vs) (ev :: r) p = some n) ∧ BxOk K W H p b := by
          by_cases ht : ∃ b, ev = .tp b
          · obtain ⟨b', rfl⟩ := ht
            cases eb
            obtain ⟨p, rfl, _, _, kb⟩ := k
            refine ⟨p, rfl, .inr ⟨⟨b, rfl⟩, ?_⟩, kb⟩
            show (if V.ref p = .ref p then some n else tmOf (n + 1) vs r p) = some n
            exact if_pos rfl
          · obtain ⟨p, rfl, o, kb⟩ := h_ok I k hH (fun b z => ht ⟨b, z⟩) eb
            exact ⟨p, rfl, .inl ⟨o n, fun b z => ht ⟨b, z⟩⟩, kb⟩
        obtain ⟨p, rfl, ho, kb⟩ := head
        refine ⟨by simp [h1], fun k h b' e1 e2 => ?_, by simp [h3], fun W' s r' hk => .cons ⟨p, rfl, by simpa using hk 0 ev p rfl (by simpa using ho)⟩ (h4 W' s r' fun k h p' e1 e2 => ?_)⟩
        · cases k with
          | zero => cases e1; cases e2; exact ⟨hH, eb, p, by simpa using ho, kb⟩
          | succ k =>
            obtain ⟨g1, g2, p', g3, g4⟩ := h2 k h b' e1 e2
            refine ⟨g1, g2, p', ?_, g4⟩
            rw [show n + (k + 1) = n + 1 + k by omega]
            rcases g3 with g3 | ⟨g3, g5⟩
            · exact .inl g3
            · exact .inr ⟨g3, tl g5⟩
        · have := hk (k + 1) h p' e1
          rw [show n + (k + 1) = n + 1 + k by omega] at this
          refine this ?_
          rcases e2 with g3 | ⟨g3, g5⟩
          · exact .inl g3
          · exact .inr ⟨g3, tl g5⟩
      · cases e
/-- who owns what, as the callee sees it -/
def conv (T : List Tag) : Tag → Tag
  | .sl i => match T.idxOf? (.sl i) with
    | some k => .io k
    | none => .xt
  | .io i => match T.idxOf? (.io i) with
    | some k => .io k
    | none => .xt
  | .tm i => match T.idxOf? (.tm i) with
    | some k => .io k
    | none => .xt
  | t => t
def Wd.callee (W : Wd) (T : List Tag) : Wd := { W with xa := (W.xa.1, false), ow := fun p => (W.ow p).map (conv T) }
/-- .. and behind the call -/
def Wd.after (W W' : Wd) (T : List Tag) : Wd := { W' with xa := W.xa, ow := fun p => match W'.ow p with
  | none => none
  | some .xt => W.ow p
  | some (.io k) => T[k]?
  | some (.sl _) => none
  | some t => some t }
def mPut (hs : List EV) (st : St) (io : List BX) (S : List Ob) : St := { putH st hs io with S := S }
theorem idx_of {T : List Tag} {t : Tag} {k : Nat} (h : T.idxOf? t = some k) : T[k]? = some t := by
  unfold List.idxOf? at h
  obtain ⟨h1, h2, _⟩ := List.findIdx?_eq_some_iff_getElem.mp h
  rw [List.getElem?_eq_getElem h1]
  simpa using h2
theorem idx_nd {T : List Tag} {t : Tag} {k : Nat} (hN : T.Nodup) (h : T[k]? = some t) : T.idxOf? t = some k := by
  cases e : T.idxOf? t with
  | none =>
    exfalso
    unfold List.idxOf? at e
    rw [List.findIdx?_eq_none_iff] at e
    have := e t (List.mem_of_getElem? h)
    simp at this
  | some j =>
    have := idx_of e
    rw [nd_ix hN this h]


def smt (t : Tag) : Prop := (∃ i, t = .sl i) ∨ (∃ i, t = .io i) ∨ ∃ i, t = .tm i
theorem conv_in {T : List Tag} {t : Tag} {k : Nat} (hN : T.Nodup) (h : T[k]? = some t) (n : smt t) : conv T t = .io k := by
  rcases n with ⟨i, rfl⟩ | ⟨i, rfl⟩ | ⟨i, rfl⟩ <;> (unfold conv; dsimp only; rw [idx_nd hN h])
theorem conv_out {T : List Tag} {t : Tag} (h : t ∉ T) (n : smt t) : conv T t = .xt := by
  have e : T.idxOf? t = none := by
    cases e : T.idxOf? t with
    | none => rfl
    | some k => exact absurd (List.mem_of_getElem? (idx_of e)) h
  rcases n with ⟨i, rfl⟩ | ⟨i, rfl⟩ | ⟨i, rfl⟩ <;> (unfold conv; dsimp only; rw [e])
theorem smt_or (t : Tag) : smt t ∨ t = .xt ∨ (∃ j, t = .ob j) ∨ (∃ j, t = .dx j) ∨ ∃ j f, t = .fd j f := by
  cases t with
  | sl i => exact .inl (.inl ⟨i, rfl⟩)
  | io i => exact .inl (.inr (.inl ⟨i, rfl⟩))
  | tm i => exact .inl (.inr (.inr ⟨i, rfl⟩))
  | xt => exact .inr (.inl rfl)
  | ob j => exact .inr (.inr (.inl ⟨j, rfl⟩))
  | dx j => exact .inr (.inr (.inr (.inl ⟨j, rfl⟩)))
  | fd j f => exact .inr (.inr (.inr (.inr ⟨j, f, rfl⟩)))
def obj : Tag → Prop
  | .ob _ => True
  | .dx _ => True
  | .fd _ _ => True
  | _ => False
theorem smt_obj {t : Tag} (h : smt t) : ¬ obj t := by rcases h with ⟨i, rfl⟩ | ⟨i, rfl⟩ | ⟨i, rfl⟩ <;> exact fun z => z
theorem conv_obj {T : List Tag} {t : Tag} (h : obj t) : conv T t = t := by cases t <;> first | exact h.elim | rfl
theorem conv_smt {T : List Tag} {t : Tag} (h : smt t) : (∃ k, T[k]? = some t ∧ conv T t = .io k) ∨ (t ∉ T ∧ conv T t = .xt) := by
  cases e : T.idxOf? t with
  | none =>
    have m : t ∉ T := fun m => by
      unfold List.idxOf? at e
      rw [List.findIdx?_eq_none_iff] at e
      have := e _ m
      simp at this
    exact .inr ⟨m, conv_out m h⟩
  | some k =>
    refine .inl ⟨k, idx_of e, ?_⟩
    rcases h with ⟨i, rfl⟩ | ⟨i, rfl⟩ | ⟨i, rfl⟩ <;> (unfold conv; dsimp only; rw [e])
theorem conv_cases {T : List Tag} (t : Tag) : (smt t ∧ ∃ k, T[k]? = some t ∧ conv T t = .io k) ∨ (smt t ∧ t ∉ T ∧ conv T t = .xt) ∨ (t = .xt ∧ conv T t = .xt) ∨ (obj t ∧ conv T t = t) := by
  rcases smt_or t with h | rfl | ⟨j, rfl⟩ | ⟨j, rfl⟩ | ⟨j, f, rfl⟩
  · rcases conv_smt (T := T) h with c | c
    · exact .inl ⟨h, c⟩
    · exact .inr (.inl ⟨h, c⟩)
  · exact .inr (.inr (.inl ⟨rfl, rfl⟩))
  · exact .inr (.inr (.inr ⟨trivial, rfl⟩))
  · exact .inr (.inr (.inr ⟨trivial, rfl⟩))
  · exact .inr (.inr (.inr ⟨trivial, rfl⟩))
theorem tag_smt : ∀ {h : EV} {k : Nat}, isH h = true → smt (hTagAt k h)
  | .sl i, _, _ => .inl ⟨i, rfl⟩
  | .io i, _, _ => .inr (.inl ⟨i, rfl⟩)
  | .tp _, k, _ => .inr (.inr ⟨k, rfl⟩)
  | .dat _, _, e => nomatch e
  | .fl _ _, _, e => nomatch e
  | .exc, _, e => nomatch e
/-- the callee's world out of the caller's -/
theorem callee_ok {c : Str → Addr} {xa : Addr} {fl : Bool} {st : St} {hs : List EV} {bs : List BX} (I : Inv K (c, xa, fl) W σ H st) (hN : (tagsOf hs).Nodup) (hl : hs.length = bs.length) (hb : ∀ (k : Nat) (h : EV) (b : BX), hs[k]? = some h → bs[k]? = some b → isH h = true ∧ boxOf st h = some b ∧ ∃ p, W.ow p = some (hTagAt k h) ∧ BxOk K W H p b)
    (htm : ∀ p k, W.ow p = some (.tm k) → Tag.tm k ∈ tagsOf hs) :
    InvF K (c, xa, false) (W.callee (tagsOf hs)) H bs st.S ∧ (∀ p i, (W.callee (tagsOf hs)).ow p ≠ some (.sl i)) ∧ ∀ (k : Nat) (h : EV) (p : Addr), hs[k]? = some h → W.ow p = some (hTagAt k h) → (W.callee (tagsOf hs)).ow p = some (.io k) := by
  have hTg : ∀ {k : Nat} {h : EV}, hs[k]? = some h → (tagsOf hs)[k]? = some (hTagAt k h) := fun {k h} e => by rw [tags_get, e]; rfl
  generalize tagsOf hs = T at *
  have ow : ∀ {p : Addr} {t : Tag}, (W.callee T).ow p = some t → ∃ u, W.ow p = some u ∧ conv T u = t := fun {p t} h => by
    have h : (W.ow p).map (conv T) = some t := h
    cases e : W.ow p with
    | none => rw [e] at h; cases h
    | some u => rw [e] at h; cases h; exact ⟨u, rfl, rfl⟩
  have up : ∀ {p : Addr} {u : Tag}, W.ow p = some u → (W.callee T).ow p = some (conv T u) := fun {p u} h => by
    show (W.ow p).map (conv T) = _
    rw [h]; rfl
  have hk : ∀ (k : Nat) (h : EV) (p : Addr), hs[k]? = some h → W.ow p = some (hTagAt k h) → (W.callee T).ow p = some (.io k) := fun k h p e o => by
    rw [up o]
    have hi : isH h = true := (hb k h _ e (List.getElem?_eq_getElem (by rw [← hl]; exact (List.getElem?_eq_some_iff.mp e).1))).1
    rw [conv_in hN (hTg e) (tag_smt hi)]
  refine ⟨⟨?_, fun _ p k h => ?_, I.sub, fun p t h => ?_, fun p q t h h' n => ?_, rfl, fun i sv e => by simp at e, fun k b e => ?_, I.rlen, fun j o e => ?_⟩, fun p i h => ?_, hk⟩
  · show (W.xa.1, false) = _
    have : W.xa = (xa, fl) := I.xeq
    rw [this]
  · obtain ⟨u, e, cc⟩ := ow h
    rcases conv_cases (T := T) u with ⟨_, k', _, z⟩ | ⟨_, _, z⟩ | ⟨_, z⟩ | ⟨o, z⟩
    · rw [cc] at z; cases z
    · rw [cc] at z; cases z
    · rw [cc] at z; cases z
    · rw [cc] at z; subst z; exact o
  · obtain ⟨u, e, _⟩ := ow h
    exact I.out p u e
  · obtain ⟨u, e, cc⟩ := ow h
    obtain ⟨u', e', cc'⟩ := ow h'
    have hu : u = u' := by
      rcases conv_cases (T := T) u with ⟨_, k, g, z⟩ | ⟨_, _, z⟩ | ⟨_, z⟩ | ⟨o, z⟩
      · rcases conv_cases (T := T) u' with ⟨_, k', g', z'⟩ | ⟨_, _, z'⟩ | ⟨_, z'⟩ | ⟨o', z'⟩
        · rw [cc] at z; rw [cc', z] at z'; cases z'; rw [g] at g'; exact Option.some.inj g'
        · rw [cc'] at z'; exact (by rw [z'] at n; cases n)
        · rw [cc'] at z'; exact (by rw [z'] at n; cases n)
        · rw [cc] at z; rw [cc', z] at z'; rw [← z'] at o'; exact o'.elim
      · rw [cc] at z; exact (by rw [z] at n; cases n)
      · rw [cc] at z; exact (by rw [z] at n; cases n)
      · rcases conv_cases (T := T) u' with ⟨_, k', g', z'⟩ | ⟨_, _, z'⟩ | ⟨_, z'⟩ | ⟨o', z'⟩
        · rw [cc] at z; rw [cc', z] at z'; rw [z'] at o; exact o.elim
        · rw [cc'] at z'; exact (by rw [z'] at n; cases n)
        · rw [cc'] at z'; exact (by rw [z'] at n; cases n)
        · rw [cc] at z; rw [cc'] at z'; rw [← z, ← z']
    subst hu
    refine I.inj p q u e e' ?_
    cases u with
    | ob j => rw [conv_obj (by trivial)] at cc; rw [← cc] at n; cases n
    | dx j => rw [conv_obj (by trivial)] at cc; rw [← cc] at n; cases n
    | xt => have z : t = Tag.xt := by rw [← cc]; rfl
            rw [z] at n; cases n
    | _ => rfl
  · have hlt : k < hs.length := by rw [hl]; exact (List.getElem?_eq_some_iff.mp e).1
    obtain ⟨_, _, p, o, kb⟩ := hb k hs[k] b (List.getElem?_eq_getElem hlt) e
    exact ⟨p, hk k _ p (List.getElem?_eq_getElem hlt) o, kb.kp (Same.refl _) (List.prefix_refl _) rfl⟩
  · refine (I.obs j o e).kp (W := W) (W' := W.callee T) (Same.refl _) (List.prefix_refl _) fun p t h z => ⟨rfl, ?_⟩
    rw [up h, conv_obj (by rcases z with z | z | ⟨f, z⟩ <;> (rw [z]; trivial))]
  · obtain ⟨u, e, cc⟩ := ow h
    rcases conv_cases (T := T) u with ⟨_, k', _, z⟩ | ⟨_, _, z⟩ | ⟨_, z⟩ | ⟨o, z⟩
    · rw [cc] at z; cases z
    · rw [cc] at z; cases z
    · rw [cc] at z; cases z
    · rw [cc] at z; rw [← z] at o; exact o
/-- .. and back -/
theorem after_ok {c : Str → Addr} {xa : Addr} {fl : Bool} {st : St} {hs : List EV} {bs io : List BX} {S : List Ob} {W' : Wd} {H' : Hp} (I : Inv K (c, xa, fl) W σ H st) (hN : (tagsOf hs).Nodup) (hl : hs.length = bs.length) (hb : ∀ (k : Nat) (h : EV) (b : BX), hs[k]? = some h → bs[k]? = some b → isH h = true ∧ boxOf st h = some b ∧ ∃ p, W.ow p = some (hTagAt k h) ∧ BxOk K W H p b)
    (htm : ∀ p k, W.ow p = some (.tm k) → Tag.tm k ∈ tagsOf hs) (I' : InvF K (c, xa, false) W' H' io S) (x : Ext (W.callee (tagsOf hs)) H W' H') (hio : io.length = hs.length) :
    Inv K (c, xa, fl) (W.after W' (tagsOf hs)) σ H' (mPut hs st io S) ∧ (∀ p t, W.ow p = some t → (W.after W' (tagsOf hs)).ow p = some t) ∧ (∀ p, W.ow p = none → (∃ o, H p = some o) → (W.after W' (tagsOf hs)).ow p = none) ∧ (∀ p, (W.after W' (tagsOf hs)).ow p = some .xt → W.ow p = some .xt) := by
  obtain ⟨IC, nsl, hk⟩ := callee_ok I hN hl hb htm
  have hTg : ∀ {k : Nat} {h : EV}, hs[k]? = some h → (tagsOf hs)[k]? = some (hTagAt k h) := fun {k h} e => by rw [tags_get, e]; rfl
  have hTgi : ∀ {k : Nat} {t : Tag}, (tagsOf hs)[k]? = some t → ∃ h, hs[k]? = some h ∧ t = hTagAt k h := fun {k t} e => by
    rw [tags_get] at e
    cases eh : hs[k]? with
    | none => rw [eh] at e; cases e
    | some h => rw [eh] at e; cases e; exact ⟨h, rfl, rfl⟩
  generalize tagsOf hs = T at *
  have up : ∀ {p : Addr} {u : Tag}, W.ow p = some u → (W.callee T).ow p = some (conv T u) := fun {p u} h => by
    show (W.ow p).map (conv T) = _
    rw [h]; rfl
  have up0 : ∀ {p : Addr}, W.ow p = none → (W.callee T).ow p = none := fun {p} h => by
    show (W.ow p).map (conv T) = _
    rw [h]; rfl
  have upx : ∀ {p : Addr} {u : Tag}, W.ow p = some u → W'.ow p = some (conv T u) := fun {p u} h => x.ow p _ (up h) fun i z => nsl p i (by rw [up h, z])
  have hT1 : ∀ {k : Nat} {t : Tag}, T[k]? = some t → ∃ h p, hs[k]? = some h ∧ t = hTagAt k h ∧ isH h = true ∧ W.ow p = some t ∧ W'.ow p = some (.io k) := fun {k t} e => by
    obtain ⟨h, eh, rfl⟩ := hTgi e
    obtain ⟨hi, _, p, o, _⟩ := hb k h _ eh (List.getElem?_eq_getElem (by rw [← hl]; exact (List.getElem?_eq_some_iff.mp eh).1))
    exact ⟨h, p, eh, rfl, hi, o, x.ow p _ (hk k h p eh o) (by simp)⟩
  have hio1 : ∀ {p : Addr} {k : Nat}, W'.ow p = some (.io k) → k < hs.length → ∃ h, hs[k]? = some h ∧ T[k]? = some (hTagAt k h) ∧ W.ow p = some (hTagAt k h) := fun {p k} o hk' => by
    have e := hTg (List.getElem?_eq_getElem hk')
    obtain ⟨h, q, eh, et, hi, oq, oq'⟩ := hT1 e
    cases I'.inj p q _ o oq' (by simp)
    exact ⟨_, List.getElem?_eq_getElem hk', e, oq⟩
  have aft : ∀ {p : Addr} {t : Tag}, W'.ow p = some t → (W.after W' T).ow p = (match t with | .xt => W.ow p | .io k => T[k]? | .sl _ => none | t => some t) := fun {p t} h => by
    show (match W'.ow p with | none => none | some .xt => W.ow p | some (.io k) => T[k]? | some (.sl _) => none | some t => some t) = _
    rw [h]; cases t <;> rfl
  have keep : ∀ {p : Addr} {t : Tag}, W.ow p = some t → (W.after W' T).ow p = some t ∧ (t ∉ T → ¬ obj t → H' p = H p) := fun {p t} o => by
    have ow' := upx o
    obtain ⟨_, u, hu⟩ := I.out p t o
    rcases conv_cases (T := T) t with ⟨hs', k, g, z⟩ | ⟨hs', m, z⟩ | ⟨rfl, z⟩ | ⟨ho, z⟩
    · rw [z] at ow'
      exact ⟨by rw [aft ow']; exact g, fun m => absurd (List.mem_of_getElem? g) m⟩
    · rw [z] at ow'
      exact ⟨by rw [aft ow']; exact o, fun _ _ => by rw [hu]; exact x.un p u hu (.inr (.inl (by rw [up o, z])))⟩
    · rw [z] at ow'
      exact ⟨by rw [aft ow']; exact o, fun _ _ => by rw [hu]; exact x.un p u hu (.inr (.inl (by rw [up o, z])))⟩
    · rw [z] at ow'
      refine ⟨?_, fun _ h => absurd ho h⟩
      rw [aft ow']
      cases t <;> first | exact ho.elim | rfl
  have back : ∀ {p : Addr} {t : Tag}, (W.after W' T).ow p = some t → (∃ u, W'.ow p = some u) ∧ (obj t → W'.ow p = some t) ∧ (¬ obj t → W.ow p = some t) := fun {p t} h => by
    cases e : W'.ow p with
    | none =>
      have : (W.after W' T).ow p = none := by
        show (match W'.ow p with | none => none | some .xt => W.ow p | some (.io k) => T[k]? | some (.sl _) => none | some t => some t) = _
        rw [e]
      rw [this] at h; cases h
    | some u =>
      refine ⟨⟨u, rfl⟩, ?_⟩
      rw [aft e] at h
      cases u with
      | xt =>
        have h : W.ow p = some t := h
        refine ⟨fun ho => ?_, fun _ => h⟩
        have := upx h
        rw [conv_obj ho] at this
        exact e ▸ this
      | io k =>
        have h : T[k]? = some t := h
        obtain ⟨g, q, eg, rfl, hi, oq, oq'⟩ := hT1 h
        cases I'.inj p q _ e oq' (by simp)
        exact ⟨fun ho => absurd ho (smt_obj (tag_smt hi)), fun _ => oq⟩
      | sl i => cases h
      | tm i => exact absurd e (I'.nt (by have : W'.xa = (xa, false) := I'.xeq; rw [this]) p i)
      | ob j => cases h; exact ⟨fun _ => rfl, fun z => absurd trivial z⟩
      | dx j => cases h; exact ⟨fun _ => rfl, fun z => absurd trivial z⟩
      | fd j f => cases h; exact ⟨fun _ => rfl, fun z => absurd trivial z⟩
  have hrr : W.ρ <+: W'.ρ := x.rr
  have hsF : Same W.F W'.F := x.sF
  have inT : ∀ {i : Nat}, Tag.sl i ∈ T → EV.sl i ∈ hs := fun {i} m => by
    obtain ⟨k, e⟩ := List.getElem?_of_mem m
    obtain ⟨h, eh, et⟩ := hTgi e
    cases h <;> first | cases et; exact List.mem_of_getElem? eh | cases et
  have inT2 : ∀ {i : Nat}, Tag.io i ∈ T → EV.io i ∈ hs := fun {i} m => by
    obtain ⟨k, e⟩ := List.getElem?_of_mem m
    obtain ⟨h, eh, et⟩ := hTgi e
    cases h <;> first | cases et; exact List.mem_of_getElem? eh | cases et
  refine ⟨⟨I.xeq, fun z p k h => ?_, I'.sub, fun p t h => ?_, fun p q t h h' n => ?_, ?_, fun i sv e => ?_, fun k b e => ?_, I'.rlen, fun j o e => ?_⟩, fun p t h => (keep h).1, fun p h ⟨o, ho⟩ => ?_, fun p h => (back h).2.2 (fun z => z)⟩
  · exact I.nt z p k ((back h).2.2 (fun z => z))
  · obtain ⟨⟨u, hu⟩, _⟩ := back h
    exact I'.out p u hu
  · by_cases ho : obj t
    · exact I'.inj p q t ((back h).2.1 ho) ((back h').2.1 ho) n
    · exact I.inj p q t ((back h).2.2 ho) ((back h').2.2 ho) n
  · show σ.length = (putH st hs io).env.length
    rw [(putH_len hs io st).1]
    exact I.len
  · have e : (putH st hs io).env[i]? = some (some sv) := e
    rcases putH_env hs io st i sv e with ⟨k, b, e1, e2, rfl⟩ | ⟨m, e⟩
    · obtain ⟨q, o', kb⟩ := I'.ios k b e2
      obtain ⟨h, eh, et, oq⟩ := hio1 o' (List.getElem?_eq_some_iff.mp e1).1
      rw [e1] at eh
      cases eh
      have hlt : k < bs.length := by rw [← hl]; exact (List.getElem?_eq_some_iff.mp e1).1
      obtain ⟨hi, eo, _⟩ := hb k _ _ e1 (List.getElem?_eq_getElem hlt)
      unfold boxOf ownB at eo
      dsimp only at eo
      split at eo
      · rename_i b0 es
        obtain ⟨p, h1, h2, _⟩ := I.slots i _ es
        have := I.inj p q _ h2 oq (by simp)
        subst this
        exact ⟨p, h1, (keep h2).1, kb.kp (Same.refl _) (List.prefix_refl _) rfl⟩
      · cases eo
    · have m := m hio.symm
      refine (I.slots i sv e).kp (W := W) (W' := W.after W' T) hsF hrr (fun p t h n => (keep h).1) (fun p h => ⟨(keep h).2 (fun z => m (inT z)) (fun z => z), (keep h).1⟩) rfl
  · have e : (putH st hs io).io[k]? = some b := e
    rcases putH_io hs io st k b e with ⟨j, e1, e2⟩ | ⟨m, e⟩
    · obtain ⟨q, o', kb⟩ := I'.ios j b e2
      obtain ⟨h, eh, et, oq⟩ := hio1 o' (List.getElem?_eq_some_iff.mp e1).1
      rw [e1] at eh
      cases eh
      exact ⟨q, (keep oq).1, kb.kp (Same.refl _) (List.prefix_refl _) rfl⟩
    · have m := m hio.symm
      obtain ⟨p, o, kb⟩ := I.ios k b e
      exact ⟨p, (keep o).1, kb.kp hsF hrr ((keep o).2 (fun z => m (inT2 z)) (fun z => z))⟩
  · refine (I'.obs j o e).kp (W := W') (W' := W.after W' T) (Same.refl _) (List.prefix_refl _) fun p t h z => ⟨rfl, ?_⟩
    rw [aft h]
    rcases z with rfl | rfl | ⟨f, rfl⟩ <;> rfl
  · have := x.nw p o ho (up0 h)
    show (match W'.ow p with | none => none | some .xt => W.ow p | some (.io k) => T[k]? | some (.sl _) => none | some t => some t) = _
    rw [this]
/-- the lists on the way are nobody's again -/
def Wd.untm (W : Wd) : Wd := { W with xa := (W.xa.1, false), ow := fun p => match W.ow p with
  | some (.tm _) => none
  | o => o }
theorem untm_some {p : Addr} {t : Tag} (h : W.untm.ow p = some t) : W.ow p = some t ∧ ∀ k, t ≠ .tm k := by
  have h : (match W.ow p with | some (.tm _) => none | o => o) = some t := h
  cases e : W.ow p with
  | none => rw [e] at h; cases h
  | some u => rw [e] at h; cases u <;> first | cases h; exact ⟨rfl, by simp⟩ | cases h
theorem untm_keep {p : Addr} {t : Tag} (h : W.ow p = some t) (n : ∀ k, t ≠ .tm k) : W.untm.ow p = some t := by
  show (match W.ow p with | some (.tm _) => none | o => o) = some t
  rw [h]
  cases t <;> first | rfl | exact absurd rfl (n _)
theorem untm_ok {c : Str → Addr} {xa : Addr} {fl : Bool} {st : St} (I : Inv K (c, xa, fl) W σ H st) : Inv K (c, xa, false) W.untm σ H st := by
  have hx : W.xa = (xa, fl) := I.xeq
  refine ⟨by show (W.xa.1, false) = _; rw [hx], fun _ p k h => (untm_some h).2 k rfl, I.sub, fun p t h => I.out p t (untm_some h).1, fun p q t h h' n => I.inj p q t (untm_some h).1 (untm_some h').1 n, I.len, fun i sv e => ?_, fun k b e => ?_, I.rlen, fun j o e => (I.obs j o e).kp (W := W) (W' := W.untm) (Same.refl _) (List.prefix_refl _) fun p t h z => ⟨rfl, untm_keep h (by rcases z with z | z | ⟨f, z⟩ <;> simp [z])⟩⟩
  · have k := I.slots i sv e
    cases sv with
    | exc => exact k
    | dat d => exact k
    | own b => obtain ⟨p, e, o, k⟩ := k; exact ⟨p, e, untm_keep o (by simp), k.kp (Same.refl _) (List.prefix_refl _) rfl⟩
    | io k' => obtain ⟨p, e, o⟩ := k; exact ⟨p, e, untm_keep o (by simp)⟩
    | fl j f => obtain ⟨p, e, o⟩ := k; exact ⟨p, e, untm_keep o (by simp)⟩
  · obtain ⟨p, o, kb⟩ := I.ios k b e
    exact ⟨p, untm_keep o (by simp), kb.kp (Same.refl _) (List.prefix_refl _) rfl⟩
end
end Mi

set_option Elab.async false
set_option linter.all false
set_option maxRecDepth 100000
set_option maxHeartbeats 4000000
namespace Mi
open PySem PySem.Spec PyProof.Rows L2
section
variable {K : Frag} {E : Kv.Er → L2.St → Hp → Prop} {W : Wd} {σ : L2.St} {H : Hp} {ta tb tc : TE} {ma mb mc : M EV}
theorem splitA_tm {st : St} {p : Addr} : ∀ {evs : List EV} {n j : Nat} {vs : List V} {as : List AV} {hs : List EV} {bs : List BX}, tmOf n vs evs p = some j → splitA st n evs = some (as, hs, bs) → ∃ k b, j = n + k ∧ hs[k]? = some (.tp b)
  | [], n, j, vs, _, _, _, h, _ => by cases vs <;> simp [tmOf] at h
  | ev :: r, n, j, [], _, _, _, h, _ => by simp [tmOf] at h
  | ev :: r, n, j, v :: vs, as, hs, bs, h, e => by
    by_cases hd : ∃ d, ev = .dat d
    · obtain ⟨d, rfl⟩ := hd
      have e : (splitA st n r).map (fun x => (AV.dat d :: x.1, x.2.1, x.2.2)) = some (as, hs, bs) := e
      cases ex : splitA st n r with
      | none => rw [ex] at e; cases e
      | some x => rw [ex] at e; cases e; exact splitA_tm (vs := vs) h ex
    · have e : (if isH ev = true then match boxOf st ev, splitA st (n + 1) r with
        | some b, some x => some (AV.io n :: x.1, ev :: x.2.1, b :: x.2.2)
        | _, _ => none
        else none) = some (as, hs, bs) := by
        cases ev with
        | dat d => exact absurd ⟨d, rfl⟩ hd
        | _ => exact e
      split at e
      rotate_left
      · cases e
      split at e
      rotate_left
      · cases e
      rename_i b x eb ex
      cases e
      have tl : tmOf (n + 1) vs r p = some j → ∃ k b, j = n + k ∧ (ev :: x.2.1)[k]? = some (.tp b) := fun h => by
        obtain ⟨k, b, e1, e2⟩ := splitA_tm h ex
        exact ⟨k + 1, b, by omega, e2⟩
      cases ev with
      | dat d => exact absurd ⟨d, rfl⟩ hd
      | tp b' =>
        unfold tmOf at h
        dsimp only at h
        split at h
        · cases h; exact ⟨0, b', rfl, rfl⟩
        · exact tl h
      | sl i => exact tl h
      | io i => exact tl h
      | fl i f => exact tl h
      | exc => exact tl h
/-- the callee's end, in the caller's words -/
def backV (hs : List EV) : RV → Option (EV ⊕ BX)
  | .dat d => some (.inl (.dat d))
  | .io k => match hs[k]? with
    | some (.sl i) => some (.inl (.sl i))
    | some (.io i) => some (.inl (.io i))
    | _ => none
  | .new b => some (.inr b)
def callR (n : Nat) (m : Fn) (evs : List EV) (st : St) : R (EV ⊕ BX) := match splitA st 0 evs with
  | none => .stuck
  | some (as, hs, bs) => if (tagsOf hs).Nodup ∧ as.length = n then match m as bs st.S with
      | .stuck => .stuck
      | .err e io S => if io.length = hs.length then .err e (mPut hs st io S) else .stuck
      | .ok rv io S => if io.length = hs.length then match backV hs rv with
          | some x => .ok x (mPut hs st io S)
          | none => .stuck
        else .stuck
    else .stuck
def mCall0 (n : Nat) (m : Fn) (ma : M (List EV)) : M (EV ⊕ BX) := fun st => (ma st).bind fun evs st1 => callR n m evs st1
/-- a call: what is behind it -/
theorem call_ok {c : Str → Addr} {xa : Addr} {W0 : Wd} {H0 : Hp} {st0 st : St} {evs : List EV} {vs : List V} {ex : Kv.Er → Addr} {n : Nat} {m : Fn} {Q : VK} {X : XK} (I0 : Inv K (c, xa, false) W0 σ H0 st0) (I : Inv K (c, xa, false) W σ H st) (x0 : Ext W0 H0 W H) (ks : EvsOk K W H σ vs evs) (fs : FrOk H0 vs evs) (hns : callR n m evs st ≠ .stuck)
    (hE : ∀ e st', callR n m evs st = .err e st' → (∃ as bs S io S', m as bs S = .err e io S') → ∀ W' H', Inv K (c, xa, false) W' σ H' st' → Ext W0 H0 W' H' → X (.ref (ex e)) none H')
    (k : ∀ x st' W' H' v, callR n m evs st = .ok x st' → Inv K (c, xa, false) W' σ H' st' → Ext W0 H0 W' H' → W.ρ <+: W'.ρ → (∀ ev, x = .inl ev → EvOk K W' H' σ v ev) → (∀ b, x = .inr b → ∃ p, v = .ref p ∧ H0 p = none ∧ W'.F p = none ∧ W'.ow p = none ∧ BxOk K W' H' p b) → Q v H') : spM K c ex n m (vs ++ []) H Q X := by
  rw [List.append_nil]
  unfold callR at hns hE k
  cases e : splitA st 0 evs with
  | none => rw [e] at hns; exact absurd rfl hns
  | some xx =>
  obtain ⟨as, hs, bs⟩ := xx
  rw [e] at hns hE k
  dsimp only at hns hE k
  by_cases hN : (tagsOf hs).Nodup ∧ as.length = n
  rotate_left
  · rw [if_neg hN] at hns; exact absurd rfl hns
  rw [if_pos hN] at hns hE k
  obtain ⟨hN, hn⟩ := hN
  obtain ⟨hl, hb0, hlen, hav⟩ := splitA_ok I ks fs e
  have J0 := tm_ok I ks
  have tmd : ∀ {p : Addr} {k : Nat}, tmOf 0 vs evs p = some k → (W.tm vs evs).ow p = some (.tm k) := fun {p k} h => by
    show (match tmOf 0 vs evs p with | some k => some (Tag.tm k) | none => W.ow p) = _
    rw [h]
  have tmn : ∀ {p : Addr}, tmOf 0 vs evs p = none → (W.tm vs evs).ow p = W.ow p := fun {p} h => by
    show (match tmOf 0 vs evs p with | some k => some (Tag.tm k) | none => W.ow p) = _
    rw [h]
  have tup : ∀ {p : Addr} {t : Tag}, W.ow p = some t → (W.tm vs evs).ow p = some t := fun {p t} h => by
    cases e : tmOf 0 vs evs p with
    | none => rw [tmn e]; exact h
    | some k => rw [(tm_free I ks e).1] at h; cases h
  have tfresh : ∀ {p : Addr} {o : HO}, H0 p = some o → tmOf 0 vs evs p = none := fun {p o} h => by
    cases e : tmOf 0 vs evs p with
    | none => rfl
    | some k =>
      obtain ⟨i, b, e1, e2⟩ := tmOf_some e
      obtain ⟨q, e3, e4⟩ := fs.get e1
      rw [e2] at e3
      cases e3
      rw [e4] at h
      cases h
  have cond : ∀ (k : Nat) (h : EV) (p : Addr), (W.ow p = some (hTagAt (0 + k) h) ∧ (∀ b, h ≠ .tp b) ∨ (∃ b, h = .tp b) ∧ tmOf 0 vs evs p = some (0 + k)) → (W.tm vs evs).ow p = some (hTagAt k h) := fun k h p z => by
    rw [Nat.zero_add] at z
    rcases z with ⟨z, _⟩ | ⟨⟨b, rfl⟩, z⟩
    · exact tup z
    · exact tmd z
  have hb : ∀ (k : Nat) (h : EV) (b : BX), hs[k]? = some h → bs[k]? = some b → isH h = true ∧ boxOf st h = some b ∧ ∃ p, (W.tm vs evs).ow p = some (hTagAt k h) ∧ BxOk K (W.tm vs evs) H p b := fun k h b e1 e2 => by
    obtain ⟨g1, g2, p, g3, g4⟩ := hb0 k h b e1 e2
    exact ⟨g1, g2, p, cond k h p g3, g4.kp (Same.refl _) (List.prefix_refl _) rfl⟩
  have htm : ∀ p k, (W.tm vs evs).ow p = some (.tm k) → Tag.tm k ∈ tagsOf hs := fun p k h => by
    cases e1 : tmOf 0 vs evs p with
    | none =>
      rw [tmn e1] at h
      have hx : W.xa = (xa, false) := I.xeq
      exact absurd h (I.nt (by rw [hx]) p k)
    | some j =>
      rw [tmd e1] at h
      cases h
      obtain ⟨k', b, e2, e3⟩ := splitA_tm e1 e
      refine List.mem_of_getElem? (i := k') ?_
      rw [tags_get, e3, e2, Nat.zero_add]
      rfl
  obtain ⟨IC, nsl, hk⟩ := callee_ok J0 hN hl hb htm
  refine ⟨by rw [← hlen]; exact hn, xa, _, bs, st.S, as, IC, nsl, hav _ (Same.refl _) rfl (fun k h p e z => by rw [Nat.zero_add]; exact hk k h p e (cond k h p z)), ?_⟩
  have fin : ∀ {W' : Wd} {H' : Hp} {io : List BX} {S : List Ob}, InvF K (c, xa, false) W' H' io S → Ext ((W.tm vs evs).callee (tagsOf hs)) H W' H' → io.length = hs.length →
      Inv K (c, xa, false) (((W.tm vs evs).after W' (tagsOf hs)).untm) σ H' (mPut hs st io S) ∧ Ext W0 H0 (((W.tm vs evs).after W' (tagsOf hs)).untm) H' := by
    intro W' H' io S I' x hio
    obtain ⟨J, kp, nn, xt⟩ := after_ok J0 hN hl hb htm I' x hio
    have hx0 : W0.xa = (xa, false) := I0.xeq
    have hx : W.xa = (xa, false) := I.xeq
    have cn : ∀ {p : Addr}, (W.tm vs evs).ow p = none → ((W.tm vs evs).callee (tagsOf hs)).ow p = none := fun {p} h => by
      show ((W.tm vs evs).ow p).map (conv (tagsOf hs)) = _
      rw [h]; rfl
    have cx : ∀ {p : Addr}, (W.tm vs evs).ow p = some .xt → ((W.tm vs evs).callee (tagsOf hs)).ow p = some .xt := fun {p} h => by
      show ((W.tm vs evs).ow p).map (conv (tagsOf hs)) = _
      rw [h]; rfl
    have n0 : ∀ {p : Addr} {o : HO}, H0 p = some o → W0.ow p = none → (W.tm vs evs).ow p = none := fun {p o} h z => by
      rw [tmn (tfresh h)]; exact x0.nw p o h z
    refine ⟨untm_ok J, ⟨x0.sF.trans x.sF, x0.rr.trans x.rr, fun p t h n => ?_, fun p o h z => ?_, fun p h => ?_, fun p o h z => ?_, fun p h => x0.lv p (x.lv p h), fun p o h z f => ?_, ?_⟩⟩
    · refine untm_keep (kp p t (tup (x0.ow p t h n))) fun k z => ?_
      subst z
      exact I0.nt (by rw [hx0]) p k h
    · have hp := x0.un p o h z
      refine x.un p o hp ?_
      rcases z with z | z | z
      · exact .inl (cn (n0 h z))
      · exact .inr (.inl (cx (tup (x0.ow p _ z (fun i => by simp)))))
      · exact .inr (.inr z)
    · have h1 := xt p (untm_some h).1
      cases e1 : tmOf 0 vs evs p with
      | none => rw [tmn e1] at h1; exact x0.xt p h1
      | some k => rw [tmd e1] at h1; cases h1
    · have := nn p (n0 h z) ⟨o, x0.un p o h (.inl z)⟩
      show (match ((W.tm vs evs).after W' (tagsOf hs)).ow p with | some (.tm _) => none | o => o) = none
      rw [this]
    · exact x.fz p o (x0.un p o h (.inl z)) (cn (n0 h z)) (x0.fz p o h z f)
    · show (W.xa.1, false) = W0.xa
      rw [hx, hx0]
  cases em : m as bs st.S with
  | stuck => rw [em] at hns; exact absurd rfl hns
  | err er io S =>
    rw [em] at hns hE
    dsimp only at hns hE
    by_cases hio : io.length = hs.length
    · rw [if_pos hio] at hE
      intro W' H' I' x'
      obtain ⟨J, y⟩ := fin I' x' hio
      exact hE er _ rfl ⟨as, bs, st.S, io, S, em⟩ _ H' J y
    · rw [if_neg hio] at hns; exact absurd rfl hns
  | ok rv io S =>
    rw [em] at hns k
    dsimp only at hns k
    by_cases hio : io.length = hs.length
    rotate_left
    · rw [if_neg hio] at hns; exact absurd rfl hns
    rw [if_pos hio] at hns k
    cases ex' : backV hs rv with
    | none => rw [ex'] at hns; exact absurd rfl hns
    | some x =>
    rw [ex'] at k
    intro W' H' v I' x' rk
    obtain ⟨J, y⟩ := fin I' x' hio
    have aft : ∀ {p : Addr}, ((W.tm vs evs).after W' (tagsOf hs)).untm.ow p = (match (match W'.ow p with | none => none | some .xt => (W.tm vs evs).ow p | some (.io k) => (tagsOf hs)[k]? | some (.sl _) => none | some t => some t) with | some (.tm _) => none | o => o) := rfl
    refine k x _ _ H' v rfl J y x'.rr (fun ev he => ?_) (fun b he => ?_)
    · subst he
      cases rv with
      | dat d => cases ex'; exact rk
      | new b => cases ex'
      | io j =>
        obtain ⟨p, rfl, o⟩ := rk
        unfold backV at ex'
        dsimp only at ex'
        split at ex'
        · rename_i i eh
          cases ex'
          obtain ⟨hi, eo, q', oq, _⟩ := hb j _ _ eh (List.getElem?_eq_getElem (by rw [← hl]; exact (List.getElem?_eq_some_iff.mp eh).1))
          have oq' : W'.ow q' = some (.io j) := x'.ow q' _ (hk j _ q' eh oq) (by simp)
          have := I'.inj _ _ _ o oq' (by simp)
          subst this
          unfold boxOf ownB at eo
          dsimp only at eo
          split at eo
          · rename_i b0 es
            obtain ⟨p', h1, h2, _⟩ := J0.slots i _ es
            have := J0.inj _ _ _ h2 oq (by simp [hTagAt])
            subst this
            exact h1
          · cases eo
        · rename_i i eh
          cases ex'
          refine ⟨_, rfl, ?_⟩
          rw [aft, o]
          dsimp only
          rw [tags_get, eh]
          rfl
        · cases ex'
    · subst he
      cases rv with
      | dat d => cases ex'
      | io j =>
        exfalso
        unfold backV at ex'
        dsimp only at ex'
        split at ex' <;> cases ex'
      | new b' =>
        cases ex'
        obtain ⟨p, rfl, n1, n2, n3, kb⟩ := rk
        refine ⟨p, rfl, x0.lv p n1, n2, ?_, kb.kp (Same.refl _) (List.prefix_refl _) rfl⟩
        rw [aft, n3]
def frzR : EV ⊕ BX → St → R EV
  | .inl ev, st => .ok ev st
  | .inr (.lst ds), st => .ok (.dat (.lst ds)) st
  | _, _ => .stuck
def mCall (n : Nat) (m : Fn) (ma : M (List EV)) : M EV := fun st => (mCall0 n m ma st).bind frzR
theorem R.bind_assoc {α β γ : Type} (r : R α) (f : α → St → R β) (g : β → St → R γ) : (r.bind f).bind g = r.bind fun a st => (f a st).bind g := by cases r <;> rfl
theorem sE_call {c : Str → Addr} {xa : Addr} {ex : Kv.Er → Addr} {X : L2.St → XK} {n : Nat} {m : Fn} {t : TA} {mt : M (List EV)} (hE : ∀ e σ H, (∃ as bs S io S', m as bs S = .err e io S') → E e σ H → X σ (.ref (ex e)) none H) (ha : SimA K (c, xa, false) E t mt) : SimE K (c, xa, false) E (fun σ H Q => t σ H fun vs H1 => spM K c ex n m (vs ++ []) H1 Q (X σ)) (mCall n m mt) := by
  intro W σ H st I Q q
  unfold mCall mCall0 at q
  rw [R.bind_assoc] at q
  refine ha W σ H st I _ (Res.imp (Res.bind q) fun evs st1 W1 H1 hm1 I1 x1 q1 vs ks fs => ?_)
  rw [hm1] at q
  have q : Res K (c, xa, false) E W σ H ((callR n m evs st1).bind frzR) (fun ev _ W' H' => ∀ v, EvOk K W' H' σ v ev → Q v H') := q
  refine call_ok I I1 x1 ks fs (fun z => by rw [z] at q; exact q) (fun e st' z w W' H' I' x' => by rw [z] at q; exact hE e σ H' w (q W' H' I' x')) fun x st' W' H' v z I' x' _ k1 k2 => ?_
  rw [z] at q
  cases x with
  | inl ev => exact q W' H' I' x' v (k1 ev rfl)
  | inr b =>
    cases b with
    | dct _ => exact q.elim
    | fz _ => exact q.elim
    | lst ds =>
      obtain ⟨p, rfl, n1, n2, n3, us, e, r⟩ := k2 _ rfl
      exact q _ _ (I'.know e n3 n2) (x'.know n1 n2) _ (.lst (SqL.of upd_same) (r.mono (Kv.same_upd n2) (List.prefix_refl _)))
/-- a call whose new list goes on -/
def newR : EV ⊕ BX → St → R BX
  | .inr b, st => .ok b st
  | _, _ => .stuck
def mCallN (n : Nat) (m : Fn) (ma : M (List EV)) : M BX := fun st => (mCall0 n m ma st).bind newR
theorem sN_call {c : Str → Addr} {xa : Addr} {ex : Kv.Er → Addr} {X : L2.St → XK} {n : Nat} {m : Fn} {t : TA} {mt : M (List EV)} (hE : ∀ e σ H, (∃ as bs S io S', m as bs S = .err e io S') → E e σ H → X σ (.ref (ex e)) none H) (ha : SimA K (c, xa, false) E t mt) : SimN K (c, xa, false) E (fun σ H Q => t σ H fun vs H1 => spM K c ex n m (vs ++ []) H1 Q (X σ)) (mCallN n m mt) := by
  intro W σ H st I Q q
  unfold mCallN mCall0 at q
  rw [R.bind_assoc] at q
  refine ha W σ H st I _ (Res.imp (Res.bind q) fun evs st1 W1 H1 hm1 I1 x1 q1 vs ks fs => ?_)
  rw [hm1] at q
  have q : Res K (c, xa, false) E W σ H ((callR n m evs st1).bind newR) (fun b _ W' H' => ∀ p, H p = none → W'.F p = none → W'.ow p = none → BxOk K W' H' p b → Q (.ref p) H') := q
  refine call_ok I I1 x1 ks fs (fun z => by rw [z] at q; exact q) (fun e st' z w W' H' I' x' => by rw [z] at q; exact hE e σ H' w (q W' H' I' x')) fun x st' W' H' v z I' x' _ k1 k2 => ?_
  rw [z] at q
  cases x with
  | inl ev => exact q.elim
  | inr b =>
    obtain ⟨p, rfl, n1, n2, n3, kb⟩ := k2 _ rfl
    exact q W' H' I' x' p n1 n2 n3 kb
end
end Mi

set_option Elab.async false
set_option linter.all false
set_option maxRecDepth 100000
set_option maxHeartbeats 4000000
namespace Mi
open PySem PySem.Spec PyProof.Rows L2
section
variable {K : Frag} {cl : (Str → Addr) × Addr × Bool} {E : Kv.Er → L2.St → Hp → Prop} {W : Wd} {σ : L2.St} {H : Hp} {ta tb tc : TE} {ma mb mc : M EV}
/-! ### errors -/
def mRaise (er : Kv.Er) : M Fl := fun st => .err er st
theorem sS_raise {ts : TS} {er : Kv.Er} (h : ∀ D σ H, E er σ H → ts D σ H) : SimS K cl E ts (mRaise er) := fun W σ H st I D q => h D σ H (q σ W H I (Ext.refl _ _))
def noExc (env : List (Option SV)) : List (Option SV) := env.map fun x => match x with
  | some .exc => none
  | x => x
theorem noExc_some {env : List (Option SV)} {i : Nat} {sv : SV} (h : (noExc env)[i]? = some (some sv)) : env[i]? = some (some sv) ∧ sv ≠ .exc := by
  unfold noExc at h
  rw [List.getElem?_map] at h
  cases e : env[i]? with
  | none => rw [e] at h; cases h
  | some x =>
    rw [e] at h
    cases x with
    | none => cases h
    | some y => cases y <;> first | cases h; exact ⟨rfl, by simp⟩ | cases h
def mTry (i : Nat) (hit : Kv.Er → Bool) (mb : M Fl) (ms : Kv.Er → M Fl) : M Fl := fun st => match mb st with
  | .err e st1 => if hit e = true then match ms e { st1 with env := (noExc st1.env).set i (some .exc) } with
      | .ok (.ret .exc) _ => .stuck
      | .ok f st2 => .ok f { st2 with env := (noExc st2.env).set i none }
      | _ => .stuck
    else .err e st1
  | r => r
theorem Ext.sx {W2 : Wd} {H2 : Hp} {a : Addr × Bool} (x : Ext { W with xa := a } H W2 H2) : Ext W H { W2 with xa := W.xa } H2 := ⟨x.sF, x.rr, x.ow, x.un, x.xt, x.nw, x.lv, x.fz, rfl⟩
theorem SlOk.xx {W' : Wd} {i : Nat} {sv : SV} {a : Addr × Bool} (h : SlOk K W' σ H i sv) (n : sv ≠ .exc) : SlOk K { W' with xa := a } σ H i sv := by
  cases sv with
  | exc => exact absurd rfl n
  | dat d => exact h
  | own b => obtain ⟨p, e, o, k⟩ := h; exact ⟨p, e, o, k.kp (Same.refl _) (List.prefix_refl _) rfl⟩
  | io k => exact h
  | fl j f => exact h
/-- another error is held -/
theorem Inv.xx {c : Str → Addr} {xa a : Addr} {st : St} {σ' : L2.St} {env' : List (Option SV)} (I : Inv K (c, xa, false) W σ H st) (hl : σ'.length = env'.length) (k : ∀ i sv, env'[i]? = some (some sv) → SlOk K { W with xa := (a, false) } σ' H i sv) : Inv K (c, a, false) { W with xa := (a, false) } σ' H { st with env := env' } :=
  ⟨rfl, fun _ => I.nt (by have h : W.xa = (xa, false) := I.xeq; rw [h]), I.sub, I.out, I.inj, hl, k, fun k b e => by
    obtain ⟨p, o, kb⟩ := I.ios k b e
    exact ⟨p, o, kb.kp (Same.refl _) (List.prefix_refl _) rfl⟩, I.rlen, fun j o e => (I.obs j o e).kp (W := W) (W' := { W with xa := (a, false) }) (Same.refl _) (List.prefix_refl _) fun p t h _ => ⟨rfl, h⟩⟩
theorem sS_try {c : Str → Addr} {xa : Addr} {ex : Kv.Er → Addr} {cv : Value} {i : Nat} {tb : WX → TS} {tsu : Addr → Value → Option Addr → TS} {Wout : WX} {mb : M Fl} {ms : Kv.Er → M Fl} {hit : Kv.Er → Bool}
    (hb : ∀ Wx : WX, SimS K (c, xa, false) (fun e σ H => Wx (.ref (ex e)) none σ H) (tb Wx) mb) (hs : ∀ a er, SimS K (c, a, false) EF (tsu a (.ref (ex er)) none) (ms er)) (hm : ∀ er, PySem.W.exmOne K (.ref (ex er)) cv = some (hit er))
    (ho : ∀ e σ H, E e σ H → Wout (.ref (ex e)) none σ H) : SimS K (c, xa, false) E (fun D σ H => tb (wAs K cv i tsu Wout D) D σ H) (mTry i hit mb ms) := by
  intro W σ H st I D q
  refine hb _ W σ H st I D ?_
  unfold mTry at q
  cases e : mb st with
  | stuck => rw [e] at q; exact q
  | ok f st1 => rw [e] at q; cases f <;> exact q
  | err er st1 =>
    rw [e] at q
    dsimp only at q
    intro σ' W' H' I' x'
    refine ⟨hit er, hm er, fun hh a ha => ?_, fun hh => ?_⟩
    · rw [if_pos hh] at q
      have I2 : Inv K (c, a, false) { W' with xa := (a, false) } (σ'.set i (some (.ref a))) H' { st1 with env := (noExc st1.env).set i (some .exc) } := by
        refine I'.xx (by simp [noExc, I'.len]) fun j sv ej => ?_
        rcases set_get ej with ⟨rfl, z⟩ | ⟨cc, z⟩
        · cases z
          have hl : i < σ'.length := by
            rw [I'.len]
            have := (List.getElem?_eq_some_iff.mp ej).1
            simpa [noExc] using this
          show (σ'.set i (some (.ref a)))[i]? = _
          rw [List.getElem?_set_self hl]
        · obtain ⟨z1, z2⟩ := noExc_some z
          exact ((I'.slots j sv z1).xx z2).sig (get_set_ne cc)
      refine hs a er _ _ H' _ I2 _ ?_
      have back : ∀ {σ2 : L2.St} {W2 : Wd} {H2 : Hp} {st2 : St}, Inv K (c, a, false) W2 σ2 H2 st2 → Ext { W' with xa := (a, false) } H' W2 H2 → ∀ σ3 : L2.St, (σ3 = σ2 ∨ σ3 = σ2.set i none) → Inv K (c, xa, false) { W2 with xa := (xa, false) } σ3 H2 { st2 with env := (noExc st2.env).set i none } ∧ Ext W H { W2 with xa := (xa, false) } H2 := by
        intro σ2 W2 H2 st2 J y σ3 h3
        refine ⟨J.xx (by rcases h3 with rfl | rfl <;> simp [noExc, J.len]) fun j sv ej => ?_, ?_⟩
        · rcases set_get ej with ⟨rfl, z⟩ | ⟨cc, z⟩
          · cases z
          · obtain ⟨z1, z2⟩ := noExc_some z
            refine ((J.slots j sv z1).xx z2).sig ?_
            rcases h3 with rfl | rfl
            · rfl
            · exact get_set_ne cc
        · have := x'.trans y.sx
          have hx : W'.xa = (xa, false) := I'.xeq
          rw [hx] at this
          exact this
      cases e2 : ms er { st1 with env := (noExc st1.env).set i (some .exc) } with
      | stuck => rw [e2] at q; exact q
      | err e' st2 => rw [e2] at q; exact q.elim
      | ok f st2 =>
        rw [e2] at q
        cases f with
        | nx => exact fun σ2 W2 H2 J y => q _ _ H2 (back J y _ (.inr rfl)).1 (back J y _ (.inr rfl)).2
        | brk => exact fun σ2 W2 H2 J y => q _ _ H2 (back J y _ (.inr rfl)).1 (back J y _ (.inr rfl)).2
        | cont => exact fun σ2 W2 H2 J y => q _ _ H2 (back J y _ (.inr rfl)).1 (back J y _ (.inr rfl)).2
        | ret ev =>
          intro σ2 W2 H2 v J y kv fr
          cases ev with
          | exc => exact q.elim
          | dat d => exact q σ2 _ H2 v (back J y _ (.inl rfl)).1 (back J y _ (.inl rfl)).2 kv (fun b z => by cases z)
          | sl j => exact q σ2 _ H2 v (back J y _ (.inl rfl)).1 (back J y _ (.inl rfl)).2 kv (fun b z => by cases z)
          | io j => exact q σ2 _ H2 v (back J y _ (.inl rfl)).1 (back J y _ (.inl rfl)).2 kv (fun b z => by cases z)
          | fl j f => exact q σ2 _ H2 v (back J y _ (.inl rfl)).1 (back J y _ (.inl rfl)).2 kv (fun b z => by cases z)
          | tp b => obtain ⟨p, e, z1, z2, kb⟩ := kv; exact q σ2 _ H2 v (back J y _ (.inl rfl)).1 (back J y _ (.inl rfl)).2 ⟨p, e, z1, z2, kb.kp (Same.refl _) (List.prefix_refl _) rfl⟩ (fun b z => by obtain ⟨p, e1, e2⟩ := fr b z; exact ⟨p, e1, x'.lv p e2⟩)
    · rw [if_neg (by rw [hh]; simp)] at q
      exact ho er σ' H' (q σ' W' H' I' x')
def mTryO (hit : Kv.Er → Bool) (mb : M Fl) (ms : Kv.Er → M Fl) : M Fl := fun st => match mb st with
  | .err e st1 => if hit e = true then match ms e st1 with
      | .ok f st2 => .ok f st2
      | _ => .stuck
    else .err e st1
  | r => r
/-- try .. except X: without a name -/
theorem sS_tryO {c : Str → Addr} {xa : Addr} {ex : Kv.Er → Addr} {cv : Value} {tb : WX → TS} {tsu : Addr → Value → Option Addr → TS} {Wout : WX} {mb : M Fl} {ms : Kv.Er → M Fl} {hit : Kv.Er → Bool}
    (hb : ∀ Wx : WX, SimS K (c, xa, false) (fun e σ H => Wx (.ref (ex e)) none σ H) (tb Wx) mb) (hs : ∀ a er, SimS K (c, xa, false) EF (tsu a (.ref (ex er)) none) (ms er)) (hm : ∀ er, PySem.W.exmOne K (.ref (ex er)) cv = some (hit er))
    (ho : ∀ e σ H, E e σ H → Wout (.ref (ex e)) none σ H) : SimS K (c, xa, false) E (fun D σ H => tb (wOnly K cv tsu Wout D) D σ H) (mTryO hit mb ms) := by
  intro W σ H st I D q
  unfold mTryO at q
  refine hb _ W σ H st I D ?_
  cases e : mb st with
  | stuck => rw [e] at q; exact q
  | ok f st1 => rw [e] at q; cases f <;> exact q
  | err er st1 =>
    rw [e] at q
    dsimp only at q
    intro σ' W' H' I' x'
    refine ⟨hit er, hm er, fun hh a ha => ?_, fun hh => ?_⟩
    · rw [if_pos hh] at q
      refine hs a er _ _ H' _ I' _ ?_
      cases e2 : ms er st1 with
      | stuck => rw [e2] at q; exact q
      | err e' st2 => rw [e2] at q; exact q.elim
      | ok f st2 => rw [e2] at q; have q := ResS.ext x' q; cases f <;> exact q
    · rw [if_neg (by rw [hh]; simp)] at q
      exact ho er σ' H' (q σ' W' H' I' x')
/-- kinds(e), e the error that the suite holds -/
def mKinds (er : Kv.Er) (me : M EV) : M EV := fun st => (me st).bind fun ev st1 => match ev with
  | .exc => .ok (.dat (.lst [.str er.nm])) st1
  | _ => .stuck
theorem sE_kinds {mg : Str → Option Value} {T : Kv.Errs K mg} {c : Str → Addr} {a : Addr} {er : Kv.Er} (ha : SimE K (c, a, false) E ta ma) : SimE K (c, a, false) E (Kv.tKinds T (.ref (T.exa er)) none a (tCons ta tNil)) (mKinds er ma) := by
  intro W σ H st I Q q
  refine ha W σ H st I _ (Res.imp (Res.bind q) fun ev st1 W1 H1 hm1 I1 x1 q1 v k => ?_)
  split at q1
  · have k : v = .ref W1.xa.1 := k
    refine ⟨by rw [k, I1.xeq], rfl, er, rfl, fun r hr => ?_⟩
    obtain ⟨z1, z2⟩ := I1.free hr
    exact q1 _ _ (I1.new hr) (Ext.new I1 hr) _ (.lst (SqL.of upd_same) (.cons (.str _) .nil))
  · exact q1.elim
/-! ### isinstance -/
def tyD : D → Option String
  | .non => some "NoneType"
  | .bl _ => some "bool"
  | .int _ => some "int"
  | .str _ => some "str"
  | .lst _ => some "list"
  | .tup _ => some "tuple"
  | _ => none
def fIsi : List D → Option D
  | [x, .ty n] => match tyD x with
    | some t => (kitB t n).map .bl
    | none => none
  | _ => none
theorem ty_lst {F : Hp} {a : Addr} {vs : List V} (h : SqL K F a vs) : TyX K F (.ref a) (.type "list") := by
  rcases h with (h | ⟨o, h⟩) | ⟨o, its, n, e, c, _⟩
  · exact .base (.lst h)
  · exact .base (.frz h)
  · exact .kList e c
theorem ty_tup {F : Hp} {a : Addr} {vs : List V} (h : SqT K F a vs) : TyX K F (.ref a) (.type "tuple") := by
  rcases h with (h | ⟨o, h⟩) | ⟨o, its, n, e, c, _⟩
  · exact .base (.tup h)
  · exact .fTuple h
  · exact .kTuple e c
theorem ty_of {v : V} {d : D} {t : String} (s : Same W.F H) (k : PkOk K W H v d) (e : tyD d = some t) : TyX K H v (.type t) := by
  cases d with
  | non => cases e; cases k; exact .base .non
  | bl b => cases e; cases k; exact .base (.bl b)
  | int b => cases e; cases k; exact .base (.int b)
  | str b => cases e; cases k; exact .base (.str b)
  | ty b => cases e
  | ob b => cases e
  | lst ds => cases e; obtain ⟨a, vs, rfl, q, _⟩ := k; exact ty_lst q
  | tup ds => cases e; cases k with | tup h _ => exact ty_tup (Kv.same_tup s h)
theorem pk_isi : PkC K (rIsi K) fIsi := by
  intro W H vs ds d s ks e
  unfold fIsi at e
  split at e
  · rename_i x n
    split at e
    · rename_i t et
      cases eb : kitB t n with
      | none => rw [eb] at e; cases e
      | some b =>
        rw [eb] at e
        cases e
        cases ks with
        | cons k1 t1 =>
        cases t1 with
        | cons k2 t2 =>
        cases t2
        cases k2
        exact ⟨_, .bl b, fun Q q => ⟨_, _, .type t, .type n, b, rfl, .ty n, ty_of s k1 et, kit_ty eb, q⟩⟩
    · cases e
  · cases e
/-- isinstance(e, X), e the error that a suite holds -/
def mIsE (b : Bool) (me : M EV) : M EV := fun st => (me st).bind fun ev st1 => match ev with
  | .exc => .ok (.dat (.bl b)) st1
  | _ => .stuck
theorem sE_isE {c : Str → Addr} {a D C : Addr} {b : Bool} (hk : PySem.W.kitOne K (.ref D) (.ref C) = some b) (ha : SimE K (c, a, false) E ta ma) : SimE K (c, a, false) E (tCB (rIsE K D a) (tCons ta (tCons (tC (.ref C)) tNil))) (mIsE b ma) := by
  intro W σ H st I Q q
  refine ha W σ H st I _ (Res.imp (Res.bind q) fun ev st1 W1 H1 hm1 I1 x1 q1 v k => ?_)
  split at q1
  · have k : v = .ref W1.xa.1 := k
    exact ⟨.ref C, .ref C, b, by rw [k, I1.xeq], (fun u h => h), hk, q1.now I1 _ (.bl b)⟩
  · exact q1.elim
/-- a tuple of the module's -/
theorem sE_ct {a : Addr} {vs : List V} {ds : List D} {cl : (Str → Addr) × Addr × Bool} (h : ∀ F : Hp, SqT K F a vs) (r : ∀ F ρ, RepL K F ρ vs ds) : SimE K cl E (tC (.ref a)) (mC (.tup ds)) := fun W σ H st I Q q => q.now I _ (.tup (h _) (r _ _))
end
end Mi

set_option Elab.async false
set_option linter.all false
set_option maxRecDepth 100000
set_option maxHeartbeats 4000000
namespace Mi
open PySem PySem.Spec PyProof.Rows L2
section
variable {X : Cx}
/-! ### further rules of the layer below -/
def repS (z : Str) (n : Int) : Str := if n < 1 then Str.empty else if (n == 1 || z.length == 0) = true then z else ⟨(List.replicate n.toNat z.cps).foldl (· ++ ·) #[]⟩
theorem op_mulS : OpR X (binaryOp .Mult) (fun x y H Q => ∃ z n, x = .str z ∧ y = .int n ∧ -(2 ^ 63) ≤ n ∧ n ≤ 1000000 ∧ z.length * n.toNat ≤ 16777216 ∧ (repS z n).length ≤ sizeLine ∧ Q (.str (repS z n)) H) := by
  intro pins s σ H x y v u Q I rx ry h
  obtain ⟨z, n, rfl, rfl, h1, h2, h3, h4, q⟩ := h
  obtain ⟨t, rfl⟩ := rx
  obtain ⟨t', rfl⟩ := ry
  refine PySem.P.mul_str ?_ ?_ ?_ ?_
  · rw [decide_eq_false (by omega), decide_eq_false (by omega)]; rfl
  · intro hn _
    have hz : z.length ≤ 16777216 := by
      have : z.length * 1 ≤ z.length * n.toNat := Nat.mul_le_mul_left _ (by omega)
      omega
    have : (16777216 : Int) ≤ (2 ^ 63 - 1) / n := by
      refine Int.le_ediv_of_mul_le (by omega) ?_
      omega
    omega
  · intro hn _
    unfold Builtin.Str.tooLong
    have : sizeLine = 16777216 := by decide
    rw [decide_eq_false (by rw [this]; omega)]
  · unfold repS at q h4
    split
    · rename_i c
      rw [if_pos c] at q
      exact ⟨by decide, .str _, H, I.tok _, ⟨_, rfl⟩, q⟩
    · rename_i c
      rw [if_neg c] at q h4
      split
      · rename_i c2
        rw [if_pos c2] at q
        exact ⟨.str _, H, I, ⟨_, rfl⟩, q⟩
      · rename_i c2
        rw [if_neg c2] at q h4
        exact ⟨h4, .str _, H, I.tok _, ⟨_, rfl⟩, q⟩

theorem mt_ljustF : MtR X "str.ljust" (fun x xs H Q => ∃ (a f : Str) (i : Int), x = .str a ∧ xs = [.int i, .str f] ∧ PadOk i = true ∧ f.length = 1 ∧ Q (.str (Txt.ljustF a i (f.cps.getD 0 0))) H) := by
  intro pins s σ H x xs v us Q I rx rs h
  obtain ⟨a, f, i, rfl, rfl, hp, hf, h⟩ := h
  obtain ⟨t, rfl⟩ := rx
  cases rs with
  | cons r1 rs =>
    cases rs with
    | cons r2 rs =>
      cases rs
      obtain ⟨u, rfl⟩ := r1
      obtain ⟨z, rfl⟩ := r2
      exact PyProof.Rows.ljust_fill hp hf fun t' k => ⟨.str _, H, I.tok k, ⟨t', rfl⟩, h⟩
end
section
variable {K : Frag} {cl : (Str → Addr) × Addr × Bool} {E : Kv.Er → L2.St → Hp → Prop} {W : Wd} {σ : L2.St} {H : Hp} {ta tb tc : TE} {ma mb mc : M EV}
theorem hE0 {m : Fn} {e : Kv.Er} (h : ∃ as bs S io S', noErrF m as bs S = .err e io S') : False := by
  obtain ⟨_, _, _, _, _, h⟩ := h; exact noErrF_ne h
theorem sE_callS {c : Str → Addr} {xa : Addr} {ex : Kv.Er → Addr} {X : L2.St → XK} {n : Nat} {m : Fn} {t : TA} {mt : M (List EV)} (hE : ∀ e σ H, (∃ as bs S io S', m as bs S = .err e io S') → E e σ H → X σ (.ref (ex e)) none H) (ha : SimA K (c, xa, false) E t mt) : SimE K (c, xa, false) E (tCallS (spM K c ex n m) X t) (mCall n m mt) := by
  have := sE_call (X := X) (ex := ex) (n := n) hE ha
  simp only [List.append_nil] at this
  exact this
theorem sN_callS {c : Str → Addr} {xa : Addr} {ex : Kv.Er → Addr} {X : L2.St → XK} {n : Nat} {m : Fn} {t : TA} {mt : M (List EV)} (hE : ∀ e σ H, (∃ as bs S io S', m as bs S = .err e io S') → E e σ H → X σ (.ref (ex e)) none H) (ha : SimA K (c, xa, false) E t mt) : SimN K (c, xa, false) E (tCallS (spM K c ex n m) X t) (mCallN n m mt) := by
  have := sN_call (X := X) (ex := ex) (n := n) hE ha
  simp only [List.append_nil] at this
  exact this
/-! ### further texts -/
def fMulS : D → D → Option D
  | .str z, .int n => if -(2 ^ 63) ≤ n ∧ n ≤ 1000000 ∧ z.length * n.toNat ≤ 16777216 ∧ (repS z n).length ≤ sizeLine then some (.str (repS z n)) else none
  | _, _ => none
theorem pk_mulS : PkOp K (fun x y H Q => ∃ z n, x = .str z ∧ y = .int n ∧ -(2 ^ 63) ≤ n ∧ n ≤ 1000000 ∧ z.length * n.toNat ≤ 16777216 ∧ (repS z n).length ≤ sizeLine ∧ Q (.str (repS z n)) H) fMulS := PkOp.sc fun x y d e => by
  unfold fMulS at e
  split at e
  · split at e
    · rename_i c; cases e; exact ⟨_, _, _, rfl, rfl, rfl, fun H Q q => ⟨_, _, rfl, rfl, c.1, c.2.1, c.2.2.1, c.2.2.2, q⟩⟩
    · cases e
  · cases e
def fStartswith : D → D → Option D
  | .str a, .str b => some (.bl (Txt.startswith a b))
  | _, _ => none
theorem pk_startswith : PkM1 K (fun x xs H Q => ∃ a b, x = .str a ∧ xs = [.str b] ∧ Q (.bl (Txt.startswith a b)) H) fStartswith := by
  intro W H vx vy x y d s kx ky e
  unfold fStartswith at e
  split at e
  · cases e; cases kx; cases ky; exact ⟨_, .bl _, fun Q q => ⟨_, _, rfl, rfl, q⟩⟩
  · cases e
def fRemoveprefix : D → D → Option D
  | .str a, .str b => if a.length ≤ sizeLine then some (.str (Txt.removeprefix a b)) else none
  | _, _ => none
theorem pk_removeprefix : PkM1 K (fun x xs H Q => ∃ a b, x = .str a ∧ xs = [.str b] ∧ a.length ≤ sizeLine ∧ Q (.str (Txt.removeprefix a b)) H) fRemoveprefix := by
  intro W H vx vy x y d s kx ky e
  unfold fRemoveprefix at e
  split at e
  · split at e
    · rename_i c; cases e; cases kx; cases ky; exact ⟨_, .str _, fun Q q => ⟨_, _, rfl, rfl, c, q⟩⟩
    · cases e
  · cases e
def fRemovesuffix : D → D → Option D
  | .str a, .str b => if a.length ≤ sizeLine then some (.str (Txt.removesuffix a b)) else none
  | _, _ => none
theorem pk_removesuffix : PkM1 K (fun x xs H Q => ∃ a b, x = .str a ∧ xs = [.str b] ∧ a.length ≤ sizeLine ∧ Q (.str (Txt.removesuffix a b)) H) fRemovesuffix := by
  intro W H vx vy x y d s kx ky e
  unfold fRemovesuffix at e
  split at e
  · split at e
    · rename_i c; cases e; cases kx; cases ky; exact ⟨_, .str _, fun Q q => ⟨_, _, rfl, rfl, c, q⟩⟩
    · cases e
  · cases e
/-- two arguments -/
def PkM2 (K : Frag) (r : V → List V → Hp → VK → Prop) (f : D → D → D → Option D) : Prop := ∀ (x y z d : D), f x y z = some d → ∃ vx vy vz vd, scV x = some vx ∧ scV y = some vy ∧ scV z = some vz ∧ scV d = some vd ∧ ∀ (H : Hp) (Q : VK), Q vd H → r vx [vy, vz] H Q
def mM2 (f : D → D → D → Option D) (ma mb mc : M EV) : M EV := fun st => (ma st).bind fun a st1 => match a with
  | .dat (.str z) => (mb st1).bind fun b st2 => (mc st2).bind fun c st3 => match b, c with
    | .dat y, .dat w => match f (.str z) y w with
      | some d => .ok (.dat d) st3
      | none => .stuck
    | _, _ => .stuck
  | _ => .stuck
theorem sE_tBM2 {r : V → List V → Hp → VK → Prop} {f : D → D → D → Option D} (hr : PkM2 K r f) (ha : SimE K cl E ta ma) (hb : SimE K cl E tb mb) (hc : SimE K cl E tc mc) : SimE K cl E (tBM K "str" r ta (tCons tb (tCons tc tNil))) (mM2 f ma mb mc) := by
  intro W σ H st I Q q
  refine ha W σ H st I _ (Res.imp (Res.bind q) fun a st1 W1 H1 hm1 I1 x1 q1 va ka => ?_)
  split at q1
  · rename_i z
    cases ka
    refine ⟨rfl, hb W1 σ H1 st1 I1 _ (Res.imp (Res.bind q1) fun b st2 W2 H2 hm2 I2 x2 q2 vb kb => ?_)⟩
    refine hc W2 σ H2 st2 I2 _ (Res.imp (Res.bind q2) fun c st3 W3 H3 hm3 I3 x3 q3 vc kc => ?_)
    replace kb := kb.ext x3
    split at q3
    · rename_i y w
      split at q3
      · rename_i d e
        obtain ⟨vx, vy, vz, vd, e1, e2, e3, e4, k⟩ := hr _ _ _ _ e
        cases e1
        rw [scV_rep e2 kb, scV_rep e3 kc]
        exact k H3 Q (q3.now I3 _ (scV_mk e4))
      · exact q3.elim
    · exact q3.elim
  · exact q1.elim
def fLjust2 : D → D → D → Option D
  | .str a, .int i, .str f => if PadOk i = true ∧ f.length = 1 then some (.str (Txt.ljustF a i (f.cps.getD 0 0))) else none
  | _, _, _ => none
theorem pk_ljust2 : PkM2 K (fun x xs H Q => ∃ (a f : Str) (i : Int), x = .str a ∧ xs = [.int i, .str f] ∧ PadOk i = true ∧ f.length = 1 ∧ Q (.str (Txt.ljustF a i (f.cps.getD 0 0))) H) fLjust2 := by
  intro x y z d e
  unfold fLjust2 at e
  split at e
  · split at e
    · rename_i c; cases e; exact ⟨_, _, _, _, rfl, rfl, rfl, rfl, fun H Q q => ⟨_, _, _, rfl, rfl, c.1, c.2, q⟩⟩
    · cases e
  · cases e
def mPartition (ma mb : M EV) : M EV := fun st => (ma st).bind fun a st1 => match a with
  | .dat (.str z) => (mb st1).bind fun b st2 => match b with
    | .dat (.str y) => if (y.length == 0) = false ∧ z.length ≤ sizeLine then .ok (.dat (.tup [.str (Txt.partition z y).1, .str (Txt.partition z y).2.1, .str (Txt.partition z y).2.2])) st2 else .stuck
    | _ => .stuck
  | _ => .stuck
theorem sE_partition (ha : SimE K cl E ta ma) (hb : SimE K cl E tb mb) : SimE K cl E (tM1 (fun x xs H Q => ∃ a b, x = .str a ∧ xs = [.str b] ∧ (b.length == 0) = false ∧ a.length ≤ sizeLine ∧
      ∀ p, H p = none → Q (.ref p) (upd H p (.tup [.str (Txt.partition a b).1, .str (Txt.partition a b).2.1, .str (Txt.partition a b).2.2]))) ta tb) (mPartition ma mb) := by
  intro W σ H st I Q q
  refine ha W σ H st I _ (Res.imp (Res.bind q) fun a st1 W1 H1 hm1 I1 x1 q1 va ka => ?_)
  split at q1
  · rename_i z
    cases ka
    refine ⟨⟨_, rfl⟩, hb W1 σ H1 st1 I1 _ (Res.imp (Res.bind q1) fun b st2 W2 H2 hm2 I2 x2 q2 vb kb => ?_)⟩
    split at q2
    · rename_i y
      cases kb
      split at q2
      · rename_i c
        refine ⟨z, y, rfl, rfl, c.1, c.2, fun p hp => ?_⟩
        exact q2 _ _ (I2.new hp) (Ext.new I2 hp) _ (.tup (SqT.of upd_same) (.cons (.str _) (.cons (.str _) (.cons (.str _) .nil))))
      · exact q2.elim
    · exact q2.elim
  · exact q1.elim
def mSplit (ma mb : M EV) : M BX := fun st => (ma st).bind fun a st1 => match a with
  | .dat (.str z) => (mb st1).bind fun b st2 => match b with
    | .dat (.str y) => if (y.length == 0) = false ∧ z.length + 2 ≤ sizeLine then .ok (.lst ((Txt.split z y).map .str)) st2 else .stuck
    | _ => .stuck
  | _ => .stuck
theorem repL_strs {F : Hp} {ρ : List Addr} : ∀ ys : List Str, RepL K F ρ (ys.map V.str) (ys.map D.str)
  | [] => .nil
  | y :: r => .cons (.str y) (repL_strs r)
theorem sN_split (ha : SimE K cl E ta ma) (hb : SimE K cl E tb mb) : SimN K cl E (tM1 (fun x xs H Q => ∃ a b, x = .str a ∧ xs = [.str b] ∧ (b.length == 0) = false ∧ a.length + 2 ≤ sizeLine ∧ rNewStrs (Txt.split a b) H Q) ta tb) (mSplit ma mb) := by
  intro W σ H st I Q q
  refine ha W σ H st I _ (Res.imp (Res.bind q) fun a st1 W1 H1 hm1 I1 x1 q1 va ka => ?_)
  split at q1
  · rename_i z
    cases ka
    refine ⟨⟨_, rfl⟩, hb W1 σ H1 st1 I1 _ (Res.imp (Res.bind q1) fun b st2 W2 H2 hm2 I2 x2 q2 vb kb => ?_)⟩
    split at q2
    · rename_i y
      cases kb
      split at q2
      · rename_i c
        refine ⟨z, y, rfl, rfl, c.1, c.2, fun p hp => ?_⟩
        obtain ⟨z1, z2⟩ := I2.free hp
        exact q2 _ _ (I2.new0 hp) (Ext.new0 hp) p (x1.lv p (x2.lv p hp)) z2 z1 ⟨_, upd_same, repL_strs _⟩
      · exact q2.elim
    · exact q2.elim
  · exact q1.elim
/-! ### tuples joined -/
def mCatA (ma mb : M EV) : M EV := fun st => (ma st).bind fun a st1 => (mb st1).bind fun b st2 => match a, b with
  | .dat (.tup xs), .dat (.tup ys) => if xs.length + ys.length ≤ sizeLine then .ok (.dat (.tup (xs ++ ys))) st2 else .stuck
  | _, _ => .stuck
theorem sE_catA (ha : SimE K cl E ta ma) (hb : SimE K cl E tb mb) : SimE K cl E (tOp (rCatA K) ta tb) (mCatA ma mb) := by
  intro W σ H st I Q q
  refine ha W σ H st I _ (Res.imp (Res.bind q) fun a st1 W1 H1 hm1 I1 x1 q1 va ka => ?_)
  refine hb W1 σ H1 st1 I1 _ (Res.imp (Res.bind q1) fun b st2 W2 H2 hm2 I2 x2 q2 vb kb => ?_)
  replace ka := ka.ext x2
  split at q2
  · rename_i xs ys
    split at q2
    · rename_i c
      cases ka with
      | @tup a vs _ ht r =>
      cases kb with
      | @tup b us _ ht2 r2 =>
      refine ⟨a, b, vs, us, rfl, rfl, Kv.same_tup I2.sub ht, Kv.same_tup I2.sub ht2, by rw [r.len, r2.len]; exact c, fun e => ?_, fun e e2 => ?_, fun e e2 p hp => ?_⟩
      · subst e
        cases r
        exact q2.now I2 _ (.tup ht2 r2)
      · subst e2
        cases r2
        rw [List.append_nil] at q2
        exact q2.now I2 _ (.tup ht r)
      · exact q2 _ _ (I2.new hp) (Ext.new I2 hp) _ (.tup (SqT.of upd_same) ((r.append r2).mono (Kv.same_upd (I2.free hp).2) (List.prefix_refl _)))
    · exact q2.elim
  · exact q2.elim
/-! ### a, b = x, y -/
def mPar (i j : Nat) (ma : M (List EV)) : M Fl := fun st => (ma st).bind fun evs st1 => match dats evs with
  | some [x, y] => .ok .nx { st1 with env := (st1.env.set i (some (.dat x))).set j (some (.dat y)) }
  | _ => .stuck
theorem sS_par {i j : Nat} {t : TA} {mt : M (List EV)} (ha : SimA K cl E t mt) : SimS K cl E (tPar i j t) (mPar i j mt) := by
  intro W σ H st I D q
  refine ha W σ H st I _ (Res.imp (ResS.bind q) fun evs st1 W1 H1 hm1 I1 x1 q1 vs ks _ => ?_)
  split at q1
  · rename_i x y e
    have r := dats_ok ks e
    cases r with
    | cons r1 r =>
    cases r with
    | cons r2 r =>
    cases r
    refine ⟨_, _, rfl, ?_⟩
    have I2 := put_dat (i := i) I1 r1
    have I3 := put_dat (i := j) I2 (v := _) (d := y) (by exact r2)
    exact q1 _ _ H1 I3 (Ext.drop.trans Ext.drop)
  · exact q1.elim
def mPar3 (i j k : Nat) (ma : M (List EV)) : M Fl := fun st => (ma st).bind fun evs st1 => match dats evs with
  | some [x, y, z] => .ok .nx { st1 with env := ((st1.env.set i (some (.dat x))).set j (some (.dat y))).set k (some (.dat z)) }
  | _ => .stuck
end
end Mi

set_option Elab.async false
set_option linter.all false
set_option maxRecDepth 100000
set_option maxHeartbeats 4000000
namespace Mi
open PySem PySem.Spec PyProof.Rows L2
/-! ### what a function does, told by hand -/
/-- a block's ends: it goes on; it hands back -/
def Goes (r : R Fl) (N : St → Prop) (Rt : EV → St → Prop) : Prop := match r with
  | .ok .nx st => N st
  | .ok (.ret ev) st => Rt ev st
  | _ => False
theorem Goes.imp {r : R Fl} {N N' : St → Prop} {Rt Rt' : EV → St → Prop} (h : Goes r N Rt) (n : ∀ st, N st → N' st) (t : ∀ ev st, Rt ev st → Rt' ev st) : Goes r N' Rt' := by
  cases r with
  | ok f st => cases f <;> first | exact n _ h | exact t _ _ h | exact h
  | err e st => exact h
  | stuck => exact h
theorem Goes.nx {r : R Fl} {N : St → Prop} (h : Goes r N fun _ _ => False) : ∃ st, r = .ok .nx st ∧ N st := by
  cases r with
  | ok f st => cases f <;> first | exact ⟨_, rfl, h⟩ | exact h.elim
  | err e st => exact h.elim
  | stuck => exact h.elim
theorem goes_seq {m1 m2 : M Fl} {st : St} {N : St → Prop} {Rt : EV → St → Prop} (h : Goes (m1 st) (fun st1 => Goes (m2 st1) N Rt) Rt) : Goes (mSeq m1 m2 st) N Rt := by
  unfold mSeq
  cases e : m1 st with
  | ok f st1 => rw [e] at h; cases f <;> exact h
  | err e' st1 => rw [e] at h; exact h
  | stuck => rw [e] at h; exact h
/-- a loop: I of the turn -/
theorem goes_for {chk : St → Prop} {mg : EV → M Unit} {mb : M Fl} {N : St → Prop} {Rt : EV → St → Prop} (I : Nat → St → Prop) : ∀ (ds : List D) (k : Nat) (st : St), I k st → (∀ i st, I i st → chk st) →
    (∀ i d st, k ≤ i → ds[i - k]? = some d → I i st → ∃ st1, mg (.dat d) st = .ok () st1 ∧ Goes (mb st1) (I (i + 1)) Rt) → (∀ st, I (k + ds.length) st → N st) → Goes (forL chk mg mb ds st) N Rt
  | [], k, st, h, hc, _, hd => by
    unfold forL
    rw [if_pos (hc k st h)]
    exact hd st (by simpa using h)
  | d :: r, k, st, h, hc, hs, hd => by
    unfold forL
    rw [if_pos (hc k st h)]
    obtain ⟨st1, e1, g⟩ := hs k d st (Nat.le_refl k) (by simp) h
    rw [e1]
    show Goes ((mb st1).bind _) N Rt
    cases e2 : mb st1 with
    | ok f st2 =>
      rw [e2] at g
      cases f with
      | nx => exact goes_for I r (k + 1) st2 g hc (fun i d' st' hi e => hs i d' st' (by omega) (by rw [show i - k = (i - (k + 1)) + 1 by omega]; exact e)) (fun st' h' => hd st' (by rw [List.length_cons, show k + (r.length + 1) = k + 1 + r.length by omega]; exact h'))
      | ret ev => exact g
      | brk => exact g.elim
      | cont => exact g.elim
    | err e' st2 => rw [e2] at g; exact g.elim
    | stuck => rw [e2] at g; exact g.elim
/-- a comprehension without a test: G of each element -/
theorem lc_run {vs : List Nat} {chk : St → Prop} [∀ st, Decidable (chk st)] {mg : EV → M Unit} {me : M EV} {I : St → Prop} (G : Nat → D → Prop) : ∀ (ds acc : List D) (k : Nat) (st : St), I st → acc.length = k → k + ds.length ≤ sizeLine → (∀ i d, acc[i]? = some d → G i d) → (∀ st, I st → chk (st.wiped vs)) →
    (∀ i d st, k ≤ i → ds[i - k]? = some d → I st → ∃ st1 ev st2 x st3, mg (.dat d) (st.wiped vs) = .ok () st1 ∧ me st1 = .ok ev st2 ∧ toD ev st2 = .ok x st3 ∧ I st3 ∧ G i x) →
    ∃ xs st', lcL vs chk mg (M.pure true) me ds acc st = .ok xs st' ∧ I st' ∧ xs.length = k + ds.length ∧ ∀ i d, xs[i]? = some d → G i d
  | [], acc, k, st, h, ha, _, hg, hc, _ => by
    unfold lcL
    rw [if_pos (hc st h)]
    exact ⟨acc, st, rfl, h, by simpa using ha, hg⟩
  | d :: r, acc, k, st, h, ha, hl, hg, hc, hs => by
    unfold lcL
    rw [if_pos (hc st h)]
    obtain ⟨st1, ev, st2, x, st3, e1, e2, e3, h3, g⟩ := hs k d st (Nat.le_refl k) (by simp) h
    rw [e1]
    have hl' : acc.length < sizeLine := by rw [List.length_cons] at hl; omega
    obtain ⟨xs, st', e4, h4, l4, g4⟩ := lc_run (I := I) (mg := mg) (me := me) G r (acc ++ [x]) (k + 1) st3 h3 (by simp [ha]) (by rw [List.length_cons] at hl; omega) (fun i d' e => by
      rcases Nat.lt_or_ge i acc.length with c | c
      · rw [List.getElem?_append_left c] at e; exact hg i d' e
      · have : i = k := by
          have := (List.getElem?_eq_some_iff.mp e).1
          simp at this
          omega
        subst this
        rw [List.getElem?_append_right (by omega), ha, Nat.sub_self] at e
        cases e
        exact g) hc (fun i d' st' hi e => hs i d' st' (by omega) (by rw [show i - k = (i - (k + 1)) + 1 by omega]; exact e))
    refine ⟨xs, st', ?_, h4, by rw [l4, List.length_cons]; omega, g4⟩
    simp only [R.bind, M.pure, if_pos, e2, e3]
    rw [if_pos hl']
    exact e4
/-! ### the law -/
theorem law_imp {K : Frag} {c : Str → Addr} {ex : Kv.Er → Addr} {m : Fn} (h : ∀ ns : List Int, ns.length ≤ 63 → (∀ z ∈ ns, Builtin.Int.intBits z ≤ 1048576) → ∃ io S, m [.dat (.lst (ns.map D.int))] [] [] = .ok (.dat (.bl true)) io S) (vs : List V) (H : Hp) (Q : VK) (E : XK) (q : Kv.spLaw K vs H Q E) : spM K c ex 1 m vs H Q E := by
  obtain ⟨a, ns, rfl, hS, hl, hb, hq⟩ := q
  obtain ⟨io, S, e⟩ := h ns hl hb
  have ri : ∀ (ρ : List Addr) (ns : List Int), RepL K H ρ (ns.map V.int) (ns.map D.int) := fun ρ ns => by
    induction ns with
    | nil => exact .nil
    | cons n r ih => exact .cons (.int n) ih
  refine ⟨rfl, 0, ⟨H, [], fun _ => none, (0, false)⟩, [], [], [.dat (.lst (ns.map D.int))], ⟨rfl, (fun _ _ _ h => by cases h), Same.refl _, (fun p t h => by cases h), (fun p q t h => by cases h), rfl, (fun i sv e => by simp at e), (fun k b e => by simp at e), rfl, (fun j o e => by simp at e)⟩, (fun p i h => by cases h), .cons (.lst hS (ri [] ns)) .nil, ?_⟩
  rw [e]
  intro W' H' v _ _ r
  cases r
  exact hq H'

/-! ### readings of the functions -/
def Rp {α : Type} (r : R α) (k : α → St → Prop) (e : Kv.Er → St → Prop) : Prop := match r with
  | .ok a st => k a st
  | .err x st => e x st
  | .stuck => False
section
variable {α β : Type} {k : α → St → Prop} {e : Kv.Er → St → Prop} {st : St}
theorem rp_ok {a : α} : Rp (.ok a st) k e = k a st := rfl
theorem rp_err {x : Kv.Er} : Rp (α := α) (.err x st) k e = e x st := rfl
theorem rp_stuck : Rp (α := α) .stuck k e = False := rfl
theorem rp_bind {r : R β} {f : β → St → R α} : Rp (r.bind f) k e = Rp r (fun a st1 => Rp (f a st1) k e) e := by cases r <;> rfl
theorem rp_ite {c : Prop} [Decidable c] {a b : R α} : Rp (if c then a else b) k e = if c then Rp a k e else Rp b k e := by split <;> rfl
theorem rp_imp {r : R α} {k' : α → St → Prop} {e' : Kv.Er → St → Prop} (h : Rp r k e) (hk : ∀ a st, k a st → k' a st) (he : ∀ x st, e x st → e' x st) : Rp r k' e' := by
  cases r with
  | ok a st => exact hk _ _ h
  | err x st => exact he _ _ h
  | stuck => exact h
end
section
variable {k : EV → St → Prop} {kb : Bool → St → Prop} {kf : Fl → St → Prop} {kx : BX → St → Prop} {ku : Unit → St → Prop} {ka : List EV → St → Prop} {e : Kv.Er → St → Prop} {st : St} {ma mb mc : M EV} {mt m1' m2' : M Bool} {mn : M BX} {ml : M (List EV)} {m1 m2 : M Fl} {mg : EV → M Unit}
theorem rp_pure {α : Type} {a : α} {k : α → St → Prop} : Rp (M.pure a st) k e = k a st := rfl
theorem rp_c {d : D} : Rp (mC d st) k e = k (.dat d) st := rfl
theorem rp_pk {f : D → D → Option D} : Rp (mPk f ma mb st) k e = Rp (ma st) (fun a st1 => Rp (mb st1) (fun b st2 => ∃ x, peek st2 a = some x ∧ ∃ y, peek st2 b = some y ∧ ∃ d, f x y = some d ∧ k (.dat d) st2) e) e := by
  unfold mPk
  rw [rp_bind]
  congr 1
  funext a st1
  rw [rp_bind]
  congr 1
  funext b st2
  cases peek st2 a with
  | none => simp [Rp]
  | some x =>
    cases peek st2 b with
    | none => simp [Rp]
    | some y => cases h : f x y <;> simp [Rp, h]
theorem rp_pkC {f : List D → Option D} : Rp (mPkC f ml st) k e = Rp (ml st) (fun evs st1 => ∃ ds, peeks st1 evs = some ds ∧ ∃ d, f ds = some d ∧ k (.dat d) st1) e := by
  unfold mPkC
  rw [rp_bind]
  congr 1
  funext evs st1
  cases peeks st1 evs with
  | none => simp [Rp]
  | some ds => cases h : f ds <;> simp [Rp, h]
theorem rp_un {f : D → Option D} : Rp (mUn f ma st) k e = Rp (ma st) (fun a st1 => ∃ x, peek st1 a = some x ∧ ∃ d, f x = some d ∧ k (.dat d) st1) e := by
  unfold mUn
  rw [rp_bind]
  congr 1
  funext a st1
  cases peek st1 a with
  | none => simp [Rp]
  | some x => cases h : f x <;> simp [Rp, h]
theorem rp_m1 {f : D → D → Option D} : Rp (mM1 f ma mb st) k e = Rp (ma st) (fun a st1 => ∃ z, a = .dat (.str z) ∧ Rp (mb st1) (fun b st2 => ∃ y, peek st2 b = some y ∧ ∃ d, f (.str z) y = some d ∧ k (.dat d) st2) e) e := by
  unfold mM1
  rw [rp_bind]
  congr 1
  funext a st1
  split
  · rename_i z
    rw [rp_bind]
    simp only [EV.dat.injEq, D.str.injEq, exists_eq_left']
    congr 1
    funext b st2
    cases peek st2 b with
    | none => simp [Rp]
    | some y => cases h : f (.str z) y <;> simp [Rp, h]
  · rename_i h
    simp only [Rp, eq_iff_iff, false_iff]
    rintro ⟨z, rfl, _⟩
    exact h z rfl
theorem rp_m0 {f : Str → Option D} : Rp (mM0 f ma st) k e = Rp (ma st) (fun a st1 => ∃ z, a = .dat (.str z) ∧ ∃ d, f z = some d ∧ k (.dat d) st1) e := by
  unfold mM0
  rw [rp_bind]
  congr 1
  funext a st1
  split
  · rename_i z
    simp only [EV.dat.injEq, D.str.injEq, exists_eq_left']
    cases h : f z <;> simp [Rp, h]
  · rename_i h
    simp only [Rp, eq_iff_iff, false_iff]
    rintro ⟨z, rfl, _⟩
    exact h z rfl
theorem rp_m2 {f : D → D → D → Option D} : Rp (mM2 f ma mb mc st) k e = Rp (ma st) (fun a st1 => ∃ z, a = .dat (.str z) ∧ Rp (mb st1) (fun b st2 => Rp (mc st2) (fun c st3 => ∃ y, b = .dat y ∧ ∃ w, c = .dat w ∧ ∃ d, f (.str z) y w = some d ∧ k (.dat d) st3) e) e) e := by
  unfold mM2
  rw [rp_bind]
  congr 1
  funext a st1
  split
  · rename_i z
    rw [rp_bind]
    simp only [EV.dat.injEq, D.str.injEq, exists_eq_left']
    congr 1
    funext b st2
    rw [rp_bind]
    congr 1
    funext c st3
    split
    · rename_i y w
      simp only [EV.dat.injEq, exists_eq_left']
      cases h : f (.str z) y w <;> simp [Rp, h]
    · rename_i h
      simp only [Rp, eq_iff_iff, false_iff]
      rintro ⟨y, rfl, w, rfl, _⟩
      exact h y w rfl rfl
  · rename_i h
    simp only [Rp, eq_iff_iff, false_iff]
    rintro ⟨z, rfl, _⟩
    exact h z rfl
theorem rp_partition : Rp (mPartition ma mb st) k e = Rp (ma st) (fun a st1 => ∃ z, a = .dat (.str z) ∧ Rp (mb st1) (fun b st2 => ∃ y, b = .dat (.str y) ∧ ((y.length == 0) = false ∧ z.length ≤ sizeLine) ∧ k (.dat (.tup [.str (Txt.partition z y).1, .str (Txt.partition z y).2.1, .str (Txt.partition z y).2.2])) st2) e) e := by
  unfold mPartition
  rw [rp_bind]
  congr 1
  funext a st1
  split
  · rename_i z
    rw [rp_bind]
    simp only [EV.dat.injEq, D.str.injEq, exists_eq_left']
    congr 1
    funext b st2
    split
    · rename_i y
      simp only [EV.dat.injEq, D.str.injEq, exists_eq_left']
      split
      · rename_i c; simp [Rp, c]
      · rename_i c; simp only [Rp, eq_iff_iff, false_iff]; exact fun z => c z.1
    · rename_i h
      simp only [Rp, eq_iff_iff, false_iff]
      rintro ⟨y, rfl, _⟩
      exact h y rfl
  · rename_i h
    simp only [Rp, eq_iff_iff, false_iff]
    rintro ⟨z, rfl, _⟩
    exact h z rfl
theorem rp_cons : Rp (mCons ma ml st) ka e = Rp (ma st) (fun ev st1 => notTp ev = true ∧ Rp (ml st1) (fun evs st2 => ka (ev :: evs) st2) e) e := by
  unfold mCons
  rw [rp_bind]
  congr 1
  funext ev st1
  rw [rp_ite]
  split
  · rename_i c; rw [rp_bind]; simp [c]; rfl
  · rename_i c; simp [Rp, c]
theorem rp_consN : Rp (mConsN mn ml st) ka e = Rp (mn st) (fun b st1 => Rp (ml st1) (fun evs st2 => ka (.tp b :: evs) st2) e) e := by
  unfold mConsN
  rw [rp_bind]
  congr 1
  funext ev st1
  rw [rp_bind]
  rfl
theorem rp_d : Rp (mD ma st) k e = Rp (ma st) (fun ev st1 => Rp (toD ev st1) (fun d st2 => k (.dat d) st2) e) e := by
  unfold mD
  rw [rp_bind]
  congr 1
  funext ev st1
  rw [rp_bind]
  rfl
theorem rp_frz : Rp (mFrz mn st) k e = Rp (mn st) (fun b st1 => ∃ ds, b = .lst ds ∧ k (.dat (.lst ds)) st1) e := by
  unfold mFrz
  rw [rp_bind]
  congr 1
  funext b st1
  cases b <;> simp [Rp]
theorem rp_tup : Rp (mTup ml st) k e = Rp (ml st) (fun evs st1 => ∃ ds, dats evs = some ds ∧ ds.length ≤ sizeLine ∧ k (.dat (.tup ds)) st1) e := by
  unfold mTup
  rw [rp_bind]
  congr 1
  funext evs st1
  cases dats evs with
  | none => simp [Rp]
  | some ds => simp only [Option.some.injEq, exists_eq_left']; split <;> simp [Rp, *]
theorem rp_lst : Rp (mLst ml st) kx e = Rp (ml st) (fun evs st1 => ∃ ds, dats evs = some ds ∧ ds.length ≤ sizeLine ∧ kx (.lst ds) st1) e := by
  unfold mLst
  rw [rp_bind]
  congr 1
  funext evs st1
  cases dats evs with
  | none => simp [Rp]
  | some ds => simp only [Option.some.injEq, exists_eq_left']; split <;> simp [Rp, *]
theorem rp_new2 {f : D → D → Option (List D)} : Rp (mNew2 f ma mb st) kx e = Rp (ma st) (fun a st1 => Rp (mb st1) (fun b st2 => ∃ x, peek st2 a = some x ∧ ∃ y, peek st2 b = some y ∧ ∃ ds, f x y = some ds ∧ kx (.lst ds) st2) e) e := by
  unfold mNew2
  rw [rp_bind]
  congr 1
  funext a st1
  rw [rp_bind]
  congr 1
  funext b st2
  cases peek st2 a with
  | none => simp [Rp]
  | some x =>
    cases peek st2 b with
    | none => simp [Rp]
    | some y => cases h : f x y <;> simp [Rp, h]
theorem rp_newC {f : List D → Option (List D)} : Rp (mNewC f ml st) kx e = Rp (ml st) (fun evs st1 => ∃ ds, peeks st1 evs = some ds ∧ ∃ d, f ds = some d ∧ kx (.lst d) st1) e := by
  unfold mNewC
  rw [rp_bind]
  congr 1
  funext evs st1
  cases peeks st1 evs with
  | none => simp [Rp]
  | some ds => cases h : f ds <;> simp [Rp, h]
theorem rp_part {ko : Option Int → St → Prop} : Rp (mPart ma st) ko e = Rp (ma st) (fun a st1 => ∃ i, a = .dat (.int i) ∧ ko (some i) st1) e := by
  unfold mPart
  rw [rp_bind]
  congr 1
  funext a st1
  split
  · simp [Rp]
  · rename_i h
    simp only [Rp, eq_iff_iff, false_iff]
    rintro ⟨z, rfl, _⟩
    exact h z rfl
theorem rp_slL {ml mh : M (Option Int)} : Rp (mSlL ma ml mh st) kx e = Rp (ma st) (fun a st1 => Rp (ml st1) (fun lo st2 => Rp (mh st2) (fun hi st3 => ∃ ds, peek st3 a = some (.lst ds) ∧ kx (.lst (cutD ds lo hi)) st3) e) e) e := by
  unfold mSlL
  rw [rp_bind]
  congr 1
  funext a st1
  rw [rp_bind]
  congr 1
  funext lo st2
  rw [rp_bind]
  congr 1
  funext hi st3
  split
  · rename_i ds h; simp [Rp, h]
  · rename_i h
    simp only [Rp, eq_iff_iff, false_iff]
    rintro ⟨z, e, _⟩
    exact h z e
theorem rp_slS {ml mh : M (Option Int)} : Rp (mSlS ma ml mh st) k e = Rp (ma st) (fun a st1 => Rp (ml st1) (fun lo st2 => Rp (mh st2) (fun hi st3 => ∃ z, a = .dat (.str z) ∧ z.length ≤ sizeLine ∧ k (.dat (.str (cutS z lo hi))) st3) e) e) e := by
  unfold mSlS
  rw [rp_bind]
  congr 1
  funext a st1
  rw [rp_bind]
  congr 1
  funext lo st2
  rw [rp_bind]
  congr 1
  funext hi st3
  split
  · rename_i z; simp only [EV.dat.injEq, D.str.injEq, exists_eq_left']; split <;> simp [Rp, *]
  · rename_i h
    simp only [Rp, eq_iff_iff, false_iff]
    rintro ⟨z, rfl, _⟩
    exact h z rfl
theorem rp_mut {f : List D → List D → Option (List D × D)} : Rp (mMut f ma ml st) k e = Rp (ma st) (fun a st1 => ∃ xs0, ownB st1 a = some (.lst xs0) ∧ Rp (ml st1) (fun evs st2 => ∃ xs, ownB st2 a = some (.lst xs) ∧ ∃ ys, dats evs = some ys ∧ ∃ zd, f xs ys = some zd ∧ ∃ st3, setH st2 a (.lst zd.1) = some st3 ∧ k (.dat zd.2) st3) e) e := by
  unfold mMut
  rw [rp_bind]
  congr 1
  funext a st1
  split
  · rename_i xs0 h
    simp only [h, Option.some.injEq, BX.lst.injEq, exists_eq_left']
    rw [rp_bind]
    congr 1
    funext evs st2
    split
    · rename_i xs ys h1 h2
      simp only [h1, h2, Option.some.injEq, BX.lst.injEq, exists_eq_left']
      cases h3 : f xs ys with
      | none => simp [Rp]
      | some zd =>
        obtain ⟨zs, d⟩ := zd
        simp only [Option.some.injEq, exists_eq_left']
        cases h4 : setH st2 a (.lst zs) <;> simp [Rp]
    · rename_i h
      simp only [Rp, eq_iff_iff, false_iff]
      rintro ⟨xs, e1, ys, e2, _⟩
      exact h xs ys e1 e2
  · rename_i h
    simp only [Rp, eq_iff_iff, false_iff]
    rintro ⟨xs, e1, _⟩
    exact h xs e1
/-! tests -/
theorem rp_b : Rp (mB ma st) kb e = Rp (ma st) (fun a st1 => ∃ b, a = .dat (.bl b) ∧ kb b st1) e := by
  unfold mB
  rw [rp_bind]
  congr 1
  funext a st1
  split
  · simp [Rp]
  · rename_i h
    simp only [Rp, eq_iff_iff, false_iff]
    rintro ⟨z, rfl, _⟩
    exact h z rfl
theorem rp_and : Rp (mAnd m1' m2' st) kb e = Rp (m1' st) (fun b st1 => if b = true then Rp (m2' st1) kb e else kb false st1) e := by
  unfold mAnd; rw [rp_bind]; congr 1; funext b st1; rw [rp_ite]; rfl
theorem rp_or : Rp (mOr m1' m2' st) kb e = Rp (m1' st) (fun b st1 => if b = true then kb true st1 else Rp (m2' st1) kb e) e := by
  unfold mOr; rw [rp_bind]; congr 1; funext b st1; rw [rp_ite]; rfl
theorem rp_not : Rp (mNot m1' st) kb e = Rp (m1' st) (fun b st1 => kb (!b) st1) e := by
  unfold mNot; rw [rp_bind]; rfl
theorem rp_tru : Rp (mTru ma st) kb e = Rp (ma st) (fun a st1 => ∃ d, peek st1 a = some d ∧ ∃ b, truD d = some b ∧ kb b st1) e := by
  unfold mTru
  rw [rp_bind]
  congr 1
  funext a st1
  cases peek st1 a with
  | none => simp [Rp]
  | some x =>
    cases h : truD x with
    | none => simp [Rp, h]
    | some b => simp only [Rp, h, Option.some.injEq, exists_eq_left']
theorem rp_andV : Rp (mAndV ma mb st) k e = Rp (ma st) (fun a st1 => ∃ b, a = .dat (.bl b) ∧ if b = true then Rp (mb st1) k e else k (.dat (.bl false)) st1) e := by
  unfold mAndV
  rw [rp_bind]
  congr 1
  funext a st1
  split
  · rw [rp_ite]; simp [Rp]
  · rename_i h
    simp only [Rp, eq_iff_iff, false_iff]
    rintro ⟨z, rfl, _⟩
    exact h z rfl
theorem rp_orV : Rp (mOrV ma mb st) k e = Rp (ma st) (fun a st1 => ∃ b, a = .dat (.bl b) ∧ if b = true then k (.dat (.bl true)) st1 else Rp (mb st1) k e) e := by
  unfold mOrV
  rw [rp_bind]
  congr 1
  funext a st1
  split
  · rw [rp_ite]; simp [Rp]
  · rename_i h
    simp only [Rp, eq_iff_iff, false_iff]
    rintro ⟨z, rfl, _⟩
    exact h z rfl
theorem rp_notV : Rp (mNotV ma st) k e = Rp (ma st) (fun a st1 => ∃ b, a = .dat (.bl b) ∧ k (.dat (.bl (!b))) st1) e := by
  unfold mNotV
  rw [rp_bind]
  congr 1
  funext a st1
  split
  · simp [Rp]
  · rename_i h
    simp only [Rp, eq_iff_iff, false_iff]
    rintro ⟨z, rfl, _⟩
    exact h z rfl
theorem rp_ifE : Rp (mIf mt ma mb st) k e = Rp (mt st) (fun b st1 => if b = true then Rp (ma st1) k e else Rp (mb st1) k e) e := by
  unfold mIf; rw [rp_bind]; congr 1; funext b st1; rw [rp_ite]
theorem rp_chain {f g : D → D → Option D} : Rp (mChain f g ma mb mc st) k e = Rp (ma st) (fun a st1 => Rp (mb st1) (fun b st2 => ∃ x, peek st2 a = some x ∧ ∃ y, peek st2 b = some y ∧ ∃ kk, f x y = some (.bl kk) ∧ if kk = true then Rp (mc st2) (fun c st3 => ∃ y, peek st3 b = some y ∧ ∃ z, peek st3 c = some z ∧ ∃ d, g y z = some d ∧ k (.dat d) st3) e else k (.dat (.bl false)) st2) e) e := by
  unfold mChain
  rw [rp_bind]
  congr 1
  funext a st1
  rw [rp_bind]
  congr 1
  funext b st2
  cases peek st2 a with
  | none => simp [Rp]
  | some x =>
    cases peek st2 b with
    | none => simp [Rp]
    | some y =>
      simp only [Option.some.injEq, exists_eq_left']
      split
      · rename_i kk h
        rw [rp_ite]
        simp only [h, Option.some.injEq, D.bl.injEq, exists_eq_left']
        congr 1
        rw [rp_bind]
        congr 1
        funext c st3
        cases peek st3 b with
        | none => simp [Rp]
        | some y' =>
          cases peek st3 c with
          | none => simp [Rp]
          | some z => cases h : g y' z <;> simp [Rp, h]
      · rename_i h
        simp only [Rp, eq_iff_iff, false_iff]
        rintro ⟨kk, e, _⟩
        exact h kk e
/-! statements -/
theorem rp_seq : Rp (mSeq m1 m2 st) kf e = Rp (m1 st) (fun f st1 => match f with
    | .nx => Rp (m2 st1) kf e
    | f => kf f st1) e := by
  unfold mSeq
  rw [rp_bind]
  congr 1
  funext f st1
  cases f <;> rfl
theorem rp_step (h : ∀ U : St → Prop, (∀ st1, Rp (m2 st1) kf e → U st1) → Rp (m1 st) (fun f st1 => match f with
    | .nx => U st1
    | f => kf f st1) e) : Rp (mSeq m1 m2 st) kf e := by
  rw [rp_seq]
  exact h _ fun _ z => z
theorem rp_next : Rp (mNext st) kf e = kf .nx st := rfl
theorem rp_drop : Rp (mDrop ma st) kf e = Rp (ma st) (fun _ st1 => kf .nx st1) e := by unfold mDrop; rw [rp_bind]; rfl
theorem rp_ret : Rp (mRet ma st) kf e = Rp (ma st) (fun ev st1 => notTp ev = true ∧ kf (.ret ev) st1) e := by
  unfold mRet; rw [rp_bind]; congr 1; funext ev st1; rw [rp_ite]; split <;> simp [Rp, *]
theorem rp_retX : Rp (mRetX mn st) kf e = Rp (mn st) (fun b st1 => kf (.ret (.tp b)) st1) e := by unfold mRetX; rw [rp_bind]; rfl
theorem rp_retN : Rp (mRetN st) kf e = kf (.ret (.dat .non)) st := rfl
theorem rp_ifS : Rp (mIfS mt m1 m2 st) kf e = Rp (mt st) (fun b st1 => if b = true then Rp (m1 st1) kf e else Rp (m2 st1) kf e) e := by
  unfold mIfS; rw [rp_bind]; congr 1; funext b st1; rw [rp_ite]
theorem rp_asg : Rp (mAsg ma mg st) kf e = Rp (ma st) (fun ev st1 => Rp (mg ev st1) (fun _ st2 => kf .nx st2) e) e := by
  unfold mAsg; rw [rp_bind]; congr 1; funext ev st1; rw [rp_bind]; rfl
theorem rp_asgN {i : Nat} : Rp (mAsgN i mn st) kf e = Rp (mn st) (fun b st1 => kf .nx { st1 with env := st1.env.set i (some (.own b)) }) e := by unfold mAsgN; rw [rp_bind]; rfl
theorem rp_aug {i : Nat} {f : D → D → Option D} {x : D} (hx : st.env[i]? = some (some (.dat x))) : Rp (mAug i f ma st) kf e = Rp (ma st) (fun ev st1 => ∃ y, peek st1 ev = some y ∧ ∃ d, f x y = some d ∧ kf .nx { st1 with env := st1.env.set i (some (.dat d)) }) e := by
  unfold mAug
  rw [hx]
  dsimp only
  rw [rp_bind]
  congr 1
  funext ev st1
  cases peek st1 ev with
  | none => simp [Rp]
  | some y => cases h : f x y <;> simp [Rp, h]
theorem rp_raise {x : Kv.Er} : Rp (mRaise x st) kf e = e x st := rfl
theorem rp_for {mi : M Itr} : Rp (mFor mi mg m1 st) kf e = Rp (mi st) (fun it st1 => Rp (forL it.chk mg m1 it.ds st1) kf e) e := by unfold mFor; rw [rp_bind]
theorem rp_try {i : Nat} {hit : Kv.Er → Bool} {ms : Kv.Er → M Fl} : Rp (mTry i hit m1 ms st) kf e = Rp (m1 st) kf (fun x st1 => if hit x = true then Rp (ms x { st1 with env := (noExc st1.env).set i (some .exc) }) (fun f st2 => (∀ z, f = .ret z → z ≠ .exc) ∧ kf f { st2 with env := (noExc st2.env).set i none }) (fun _ _ => False) else e x st1) := by
  unfold mTry
  cases h : m1 st with
  | ok f st1 => rfl
  | stuck => rfl
  | err x st1 =>
    show Rp (if hit x = true then _ else _) kf e = if hit x = true then _ else _
    split
    · cases h2 : ms x { st1 with env := (noExc st1.env).set i (some .exc) } with
      | err _ _ => simp [Rp]
      | stuck => simp [Rp]
      | ok f st2 =>
        cases f with
        | ret ev => cases ev <;> simp [Rp]
        | _ => simp [Rp]
    · rfl
theorem rp_kinds {er : Kv.Er} : Rp (mKinds er ma st) k e = Rp (ma st) (fun ev st1 => ev = .exc ∧ k (.dat (.lst [.str er.nm])) st1) e := by
  unfold mKinds
  rw [rp_bind]
  congr 1
  funext ev st1
  cases ev <;> simp [Rp]
theorem rp_call {n : Nat} {m : Fn} : Rp (mCall n m ml st) k e = Rp (ml st) (fun evs st1 => Rp (callR n m evs st1) (fun x st2 => Rp (frzR x st2) k e) e) e := by
  unfold mCall mCall0
  rw [rp_bind, rp_bind]
theorem rp_callN {n : Nat} {m : Fn} : Rp (mCallN n m ml st) kx e = Rp (ml st) (fun evs st1 => Rp (callR n m evs st1) (fun x st2 => Rp (newR x st2) kx e) e) e := by
  unfold mCallN mCall0
  rw [rp_bind, rp_bind]
/-- loops -/
theorem rp_forL {chk : St → Prop} (I : Nat → St → Prop) : ∀ (ds : List D) (k0 : Nat) (st : St), I k0 st → (∀ i st, I i st → chk st) →
    (∀ i d st, k0 ≤ i → ds[i - k0]? = some d → I i st → Rp (mg (.dat d) st) (fun _ st1 => Rp (m1 st1) (fun f st2 => match f with | .nx => I (i + 1) st2 | .cont => I (i + 1) st2 | .brk => kf .nx st2 | .ret ev => kf (.ret ev) st2) e) e) →
    (∀ st, I (k0 + ds.length) st → kf .nx st) → Rp (forL chk mg m1 ds st) kf e
  | [], k0, st, h, hc, _, hd => by
    unfold forL
    rw [if_pos (hc k0 st h)]
    exact hd st (by simpa using h)
  | d :: r, k0, st, h, hc, hs, hd => by
    unfold forL
    rw [if_pos (hc k0 st h), rp_bind]
    refine rp_imp (hs k0 d st (Nat.le_refl k0) (by simp) h) (fun _ st1 g => ?_) (fun _ _ z => z)
    rw [rp_bind]
    have go : ∀ st2, I (k0 + 1) st2 → Rp (forL chk mg m1 r st2) kf e := fun st2 h2 => rp_forL I r (k0 + 1) st2 h2 hc (fun i d' st' hi e => hs i d' st' (by omega) (by rw [show i - k0 = (i - (k0 + 1)) + 1 by omega]; exact e)) (fun st' h' => hd st' (by rw [List.length_cons, show k0 + (r.length + 1) = k0 + 1 + r.length by omega]; exact h'))
    refine rp_imp g (fun f st2 g => ?_) (fun _ _ z => z)
    cases f with
    | nx => exact go st2 g
    | cont => exact go st2 g
    | brk => exact g
    | ret ev => exact g
end
end Mi

set_option Elab.async false
set_option linter.all false
set_option maxRecDepth 100000
set_option maxHeartbeats 4000000
namespace Mi
open PySem PySem.Spec PyProof.Rows L2
/-! ### walking in a function's body -/
section
variable {k : EV → St → Prop} {kf : Fl → St → Prop} {ku : Unit → St → Prop} {e : Kv.Er → St → Prop} {st : St}
theorem rp_var {i : Nat} {d : D} (h : st.env[i]? = some (some (.dat d))) : Rp (mVar i st) k e = k (.dat d) st := by unfold mVar; rw [h]; rfl
theorem rp_frz_l {d : D} : Rp (frzR (.inl (.dat d)) st) k e = k (.dat d) st := rfl
theorem rp_frz_r {ds : List D} : Rp (frzR (.inr (.lst ds)) st) k e = k (.dat (.lst ds)) st := rfl
/-- a call of a function of plain data that gives plain data -/
theorem rp_callD {n : Nat} {m : Fn} {evs : List EV} {kx : EV ⊕ BX → St → Prop} {as : List AV} {d : D} (h : m as [] st.S = .ok (.dat d) [] st.S) (hs : splitA st 0 evs = some (as, [], [])) (hn : as.length = n) (hk : kx (.inl (.dat d)) st) : Rp (callR n m evs st) kx e := by
  unfold callR
  rw [hs]
  dsimp only
  rw [if_pos ⟨by simp [tagsOf], hn⟩, h]
  exact hk
theorem rp_callX {n : Nat} {m : Fn} {evs : List EV} {kx : EV ⊕ BX → St → Prop} {as : List AV} {b : BX} (h : m as [] st.S = .ok (.new b) [] st.S) (hs : splitA st 0 evs = some (as, [], [])) (hn : as.length = n) (hk : kx (.inr b) st) : Rp (callR n m evs st) kx e := by
  unfold callR
  rw [hs]
  dsimp only
  rw [if_pos ⟨by simp [tagsOf], hn⟩, h]
  exact hk
theorem rp_callE {n : Nat} {m : Fn} {evs : List EV} {kx : EV ⊕ BX → St → Prop} {as : List AV} {x : Kv.Er} (h : m as [] st.S = .err x [] st.S) (hs : splitA st 0 evs = some (as, [], [])) (hn : as.length = n) (hk : e x st) : Rp (callR n m evs st) kx e := by
  unfold callR
  rw [hs]
  dsimp only
  rw [if_pos ⟨by simp [tagsOf], hn⟩, h]
  exact hk
end
/-- a def's ends: it hands plain data back, and leaves the rest as it is -/
def EndD (io : List BX) (S : List Ob) (P : D → Prop) : Fl → St → Prop
  | .nx, st => st.io = io ∧ st.S = S ∧ P .non
  | .ret (.dat x), st => st.io = io ∧ st.S = S ∧ P x
  | _, _ => False
def EndN (io : List BX) (S : List Ob) (P : BX → Prop) : Fl → St → Prop
  | .ret (.tp b), st => st.io = io ∧ st.S = S ∧ P b
  | .ret (.sl i), st => st.io = io ∧ st.S = S ∧ ∃ b, st.env[i]? = some (some (.own b)) ∧ P b
  | _, _ => False
theorem pure_run {n : Nat} {ms : M Fl} {as : List AV} {io : List BX} {S : List Ob} {P : D → Prop}
    (h : Rp (ms ⟨as.map (fun a => some a.sv) ++ List.replicate (n - as.length) none, io, S⟩) (EndD io S P) (fun _ _ => False)) : ∃ d, noErrF (runF n ms) as io S = .ok (.dat d) io S ∧ P d := by
  unfold noErrF runF
  cases e : ms ⟨as.map (fun a => some a.sv) ++ List.replicate (n - as.length) none, io, S⟩ with
  | stuck => rw [e] at h; exact h.elim
  | err x st => rw [e] at h; exact h.elim
  | ok f st =>
    rw [e] at h
    cases f with
    | nx => obtain ⟨rfl, rfl, h⟩ := h; exact ⟨_, rfl, h⟩
    | brk => exact h.elim
    | cont => exact h.elim
    | ret ev =>
      cases ev with
      | dat d => obtain ⟨rfl, rfl, h⟩ := h; exact ⟨_, rfl, h⟩
      | _ => exact h.elim
theorem pure_eq {n : Nat} {ms : M Fl} {as : List AV} {io : List BX} {S : List Ob} {d : D}
    (h : Rp (ms ⟨as.map (fun a => some a.sv) ++ List.replicate (n - as.length) none, io, S⟩) (EndD io S fun x => x = d) (fun _ _ => False)) : noErrF (runF n ms) as io S = .ok (.dat d) io S := by
  obtain ⟨_, e, rfl⟩ := pure_run h
  exact e
/-- the same of one that may raise -/
def rfE (er : Kv.Er) (io : List BX) (S : List Ob) : Option D → RF
  | some d => .ok (.dat d) io S
  | none => .err er io S
theorem pure_runE {n : Nat} {ms : M Fl} {as : List AV} {io : List BX} {S : List Ob} {r : Option D} {er : Kv.Er}
    (h : Rp (ms ⟨as.map (fun a => some a.sv) ++ List.replicate (n - as.length) none, io, S⟩) (EndD io S fun x => r = some x) (fun x st => st.io = io ∧ st.S = S ∧ r = none ∧ x = er)) : runF n ms as io S = rfE er io S r := by
  unfold runF
  cases e : ms ⟨as.map (fun a => some a.sv) ++ List.replicate (n - as.length) none, io, S⟩ with
  | stuck => rw [e] at h; exact h.elim
  | err x st =>
    rw [e] at h
    obtain ⟨rfl, rfl, rfl, rfl⟩ := h
    rfl
  | ok f st =>
    rw [e] at h
    cases f with
    | nx => obtain ⟨rfl, rfl, rfl⟩ := h; rfl
    | brk => exact h.elim
    | cont => exact h.elim
    | ret ev =>
      cases ev with
      | dat d => obtain ⟨rfl, rfl, rfl⟩ := h; rfl
      | _ => exact h.elim
/-- one that hands a new list back -/
theorem new_run {n : Nat} {ms : M Fl} {as : List AV} {io : List BX} {S : List Ob} {P : BX → Prop}
    (h : Rp (ms ⟨as.map (fun a => some a.sv) ++ List.replicate (n - as.length) none, io, S⟩) (EndN io S P) (fun _ _ => False)) : ∃ b, noErrF (runF n ms) as io S = .ok (.new b) io S ∧ P b := by
  unfold noErrF runF
  cases e : ms ⟨as.map (fun a => some a.sv) ++ List.replicate (n - as.length) none, io, S⟩ with
  | stuck => rw [e] at h; exact h.elim
  | err x st => rw [e] at h; exact h.elim
  | ok f st =>
    rw [e] at h
    cases f with
    | nx => exact h.elim
    | brk => exact h.elim
    | cont => exact h.elim
    | ret ev =>
      cases ev with
      | tp b => obtain ⟨rfl, rfl, h⟩ := h; exact ⟨_, rfl, h⟩
      | sl i => obtain ⟨rfl, rfl, b, e1, h⟩ := h; dsimp only; rw [e1]; exact ⟨b, rfl, h⟩
      | _ => exact h.elim
/-! ### statements and loops -/
section
variable {kf : Fl → St → Prop} {e : Kv.Er → St → Prop} {st : St} {m1 m2 : M Fl} {ma : M EV} {mg : EV → M Unit}
def SqEnd (N : St → Prop) (kf : Fl → St → Prop) : Fl → St → Prop
  | .nx, st => N st
  | f, st => kf f st
theorem rp_sq : Rp (mSeq m1 m2 st) kf e = Rp (m1 st) (SqEnd (fun st1 => Rp (m2 st1) kf e) kf) e := by
  rw [rp_seq]
  congr 1
  funext f st1
  cases f <;> rfl
theorem rp_cut (M : St → Prop) (h1 : Rp (m1 st) (SqEnd M kf) e) (h2 : ∀ st1, M st1 → Rp (m2 st1) kf e) : Rp (mSeq m1 m2 st) kf e := by
  rw [rp_sq]
  refine rp_imp h1 (fun f st1 h => ?_) (fun _ _ h => h)
  cases f <;> first | exact h2 _ h | exact h
def LpEnd (N : St → Prop) (kf : Fl → St → Prop) : Fl → St → Prop
  | .nx, st => N st
  | .cont, st => N st
  | .brk, st => kf .nx st
  | .ret ev, st => kf (.ret ev) st
/-- by what is left -/
theorem rp_forR {chk : St → Prop} (I : List D → St → Prop) (hc : ∀ r st, I r st → chk st) (hs : ∀ d r st, I (d :: r) st → Rp (mg (.dat d) st) (fun _ st1 => Rp (m1 st1) (LpEnd (I r) kf) e) e) (hd : ∀ st, I [] st → kf .nx st) : ∀ (ds : List D) (st : St), I ds st → Rp (forL chk mg m1 ds st) kf e
  | [], st, h => by
    unfold forL
    rw [if_pos (hc _ st h)]
    exact hd st h
  | d :: r, st, h => by
    unfold forL
    rw [if_pos (hc _ st h), rp_bind]
    refine rp_imp (hs d r st h) (fun _ st1 g => ?_) (fun _ _ z => z)
    rw [rp_bind]
    refine rp_imp g (fun f st2 g => ?_) (fun _ _ z => z)
    cases f with
    | nx => exact rp_forR I hc hs hd r st2 g
    | cont => exact rp_forR I hc hs hd r st2 g
    | brk => exact g
    | ret ev => exact g
theorem rp_str (I : List Nat → St → Prop) (h : Rp (ma st) (fun ev st1 => ∃ l, ev = .dat (.str (SX.S l)) ∧ I l st1) e) (hs : ∀ c r st, I (c :: r) st → Rp (mg (.dat (.str (SX.S [c]))) st) (fun _ st1 => Rp (m1 st1) (LpEnd (I r) kf) e) e) (hd : ∀ st, I [] st → kf .nx st) : Rp (mFor (mIStr ma) mg m1 st) kf e := by
  unfold mFor mIStr
  rw [rp_bind, rp_bind]
  refine rp_imp h (fun ev st1 g => ?_) (fun _ _ z => z)
  obtain ⟨l, rfl, h1⟩ := g
  dsimp only
  rw [rp_ok]
  dsimp only
  have e0 : ∀ l : List Nat, (SX.S l).cps.toList.map (fun c => D.str ⟨#[c]⟩) = l.map fun c => D.str (SX.S [c]) := fun l => by simp [SX.S]
  rw [e0]
  refine rp_forR (fun r st => ∃ l, r = l.map (fun c => D.str (SX.S [c])) ∧ I l st) (fun _ _ _ => trivial) (fun d r st g => ?_) (fun st g => ?_) _ st1 ⟨l, rfl, h1⟩
  · obtain ⟨l, e1, g⟩ := g
    cases l with
    | nil => cases e1
    | cons c l =>
      rw [List.map_cons] at e1
      cases e1
      refine rp_imp (hs c l st g) (fun _ st1 g => ?_) (fun _ _ z => z)
      refine rp_imp g (fun f st2 g => ?_) (fun _ _ z => z)
      cases f with
      | nx => exact ⟨l, rfl, g⟩
      | cont => exact ⟨l, rfl, g⟩
      | brk => exact g
      | ret ev => exact g
  · obtain ⟨l, e1, g⟩ := g
    cases l with
    | nil => exact hd st g
    | cons c l => cases e1
theorem rng_get {lo : Int} {n i : Nat} {d : D} (h : (rngD lo n)[i]? = some d) : d = .int (lo + i) ∧ i < n := by
  unfold rngD at h
  rw [List.getElem?_map] at h
  have hi : i < n := by
    by_cases c : i < n
    · exact c
    · rw [List.getElem?_eq_none (by simpa using c)] at h; cases h
  rw [List.getElem?_range hi] at h
  cases h
  exact ⟨rfl, hi⟩
/-- by the number of turns -/
theorem rp_forI {chk : St → Prop} (I : Nat → St → Prop) : ∀ (ds : List D) (k0 : Nat) (st : St), I k0 st → (∀ i st, I i st → chk st) →
    (∀ i d st, k0 ≤ i → ds[i - k0]? = some d → I i st → Rp (mg (.dat d) st) (fun _ st1 => Rp (m1 st1) (LpEnd (I (i + 1)) kf) e) e) →
    (∀ st, I (k0 + ds.length) st → kf .nx st) → Rp (forL chk mg m1 ds st) kf e
  | [], k0, st, h, hc, _, hd => by
    unfold forL
    rw [if_pos (hc k0 st h)]
    exact hd st (by simpa using h)
  | d :: r, k0, st, h, hc, hs, hd => by
    unfold forL
    rw [if_pos (hc k0 st h), rp_bind]
    refine rp_imp (hs k0 d st (Nat.le_refl k0) (by simp) h) (fun _ st1 g => ?_) (fun _ _ z => z)
    rw [rp_bind]
    have go : ∀ st2, I (k0 + 1) st2 → Rp (forL chk mg m1 r st2) kf e := fun st2 h2 => rp_forI I r (k0 + 1) st2 h2 hc (fun i d' st' hi e => hs i d' st' (by omega) (by rw [show i - k0 = (i - (k0 + 1)) + 1 by omega]; exact e)) (fun st' h' => hd st' (by rw [List.length_cons, show k0 + (r.length + 1) = k0 + 1 + r.length by omega]; exact h'))
    refine rp_imp g (fun f st2 g => ?_) (fun _ _ z => z)
    cases f with
    | nx => exact go st2 g
    | cont => exact go st2 g
    | brk => exact g
    | ret ev => exact g
theorem rp_rng1 (n : Int) (I : Nat → St → Prop) (hb : -4611686018427387904 ≤ n ∧ n < 4611686018427387904) (h : Rp (ma st) (fun ev st1 => ev = .dat (.int n) ∧ I 0 st1) e) (hs : ∀ (i : Nat) st, (i : Int) < n → I i st → Rp (mg (.dat (.int (i : Int))) st) (fun _ st1 => Rp (m1 st1) (LpEnd (I (i + 1)) kf) e) e) (hd : ∀ st, I n.toNat st → kf .nx st) : Rp (mFor (mIRng1 (mCons ma (M.pure []))) mg m1 st) kf e := by
  unfold mFor mIRng1
  rw [rp_bind, rp_bind, rp_cons]
  refine rp_imp h (fun ev st1 g => ?_) (fun _ _ z => z)
  obtain ⟨rfl, h0⟩ := g
  refine ⟨rfl, ?_⟩
  rw [rp_pure]
  dsimp only
  rw [rp_ite, if_pos (show -2 ^ 62 ≤ n ∧ n < 2 ^ 62 from hb), rp_ok]
  dsimp only
  refine rp_forI I _ 0 st1 h0 (fun _ _ _ => trivial) (fun i d st _ e g => ?_) (fun st g => hd st ?_)
  · obtain ⟨rfl, hi⟩ := rng_get e
    have := hs i st (by omega) g
    rw [Int.zero_add]
    exact this
  · rw [Nat.zero_add, show (rngD 0 n.toNat).length = n.toNat by simp [rngD]] at g
    exact g
theorem rp_rng2 (lo n : Int) (I : Nat → St → Prop) {mb : M EV} (hb : -4611686018427387904 ≤ lo ∧ lo < 4611686018427387904 ∧ -4611686018427387904 ≤ n ∧ n < 4611686018427387904) (h : Rp (ma st) (fun ev st1 => ev = .dat (.int lo) ∧ Rp (mb st1) (fun ev st2 => ev = .dat (.int n) ∧ I 0 st2) e) e) (hs : ∀ (i : Nat) st, lo + (i : Int) < n → I i st → Rp (mg (.dat (.int (lo + (i : Int)))) st) (fun _ st1 => Rp (m1 st1) (LpEnd (I (i + 1)) kf) e) e) (hd : ∀ st, I (n - lo).toNat st → kf .nx st) : Rp (mFor (mIRng2 (mCons ma (mCons mb (M.pure [])))) mg m1 st) kf e := by
  unfold mFor mIRng2
  rw [rp_bind, rp_bind, rp_cons]
  refine rp_imp h (fun ev st1 g => ?_) (fun _ _ z => z)
  obtain ⟨rfl, g⟩ := g
  refine ⟨rfl, ?_⟩
  rw [rp_cons]
  refine rp_imp g (fun ev st1 g => ?_) (fun _ _ z => z)
  obtain ⟨rfl, h0⟩ := g
  refine ⟨rfl, ?_⟩
  rw [rp_pure]
  dsimp only
  rw [rp_ite, if_pos (show -2 ^ 62 ≤ lo ∧ lo < 2 ^ 62 ∧ -2 ^ 62 ≤ n ∧ n < 2 ^ 62 from hb), rp_ok]
  dsimp only
  refine rp_forI I _ 0 st1 h0 (fun _ _ _ => trivial) (fun i d st _ e g => ?_) (fun st g => hd st ?_)
  · obtain ⟨rfl, hi⟩ := rng_get e
    exact hs i st (by omega) g
  · rw [Nat.zero_add, show (rngD lo (n - lo).toNat).length = (n - lo).toNat by simp [rngD]] at g
    exact g
/-- over plain data that stays -/
theorem rp_lst_it (I : List D → St → Prop) (h : Rp (ma st) (fun ev st1 => ∃ ds, ev = .dat (.lst ds) ∧ I ds st1) e) (hs : ∀ d r st, I (d :: r) st → Rp (mg (.dat d) st) (fun _ st1 => Rp (m1 st1) (LpEnd (I r) kf) e) e) (hd : ∀ st, I [] st → kf .nx st) : Rp (mFor (mIList ma) mg m1 st) kf e := by
  unfold mFor mIList
  rw [rp_bind, rp_bind]
  refine rp_imp h (fun ev st1 g => ?_) (fun _ _ z => z)
  obtain ⟨ds, rfl, h1⟩ := g
  rw [rp_ite, if_neg (by simp [isSl])]
  simp only [peek]
  rw [rp_ok]
  exact rp_forR I (fun _ _ _ => trivial) hs hd ds st1 h1
end
section
variable {mo mi : M EV} {ku : Unit → St → Prop} {e : Kv.Er → St → Prop} {st : St}
theorem rp_mgSub {d : D} : Rp (mgSub mo mi (.dat d) st) ku e = Rp (mo st) (fun o st1 => Rp (mi st1) (fun i st2 => ∃ xs, ownB st2 o = some (.lst xs) ∧ ∃ k, i = .dat (.int k) ∧ ∃ j, ixN xs.length k = some j ∧ ∃ st3, setH st2 o (.lst (xs.set j d)) = some st3 ∧ ku () st3) e) e := by
  unfold mgSub
  dsimp only
  rw [rp_bind]
  congr 1
  funext o st1
  rw [rp_bind]
  congr 1
  funext i st2
  split
  · rename_i xs k h
    simp only [h, Option.some.injEq, BX.lst.injEq, exists_eq_left', EV.dat.injEq, D.int.injEq]
    cases h2 : ixN xs.length k with
    | none => simp [Rp]
    | some j =>
      simp only [Option.some.injEq, exists_eq_left']
      cases h3 : setH st2 o (.lst (xs.set j d)) <;> simp [Rp]
  · rename_i h
    simp only [Rp, eq_iff_iff, false_iff]
    rintro ⟨xs, e1, k, e2, _⟩
    exact h xs k e1 e2
end
/-! ### the values -/
theorem iOp_some {C : Int → Int → Prop} {g : Int → Int → D} {i j : Int} {d : D} : (iOp C g (.int i) (.int j) = some d) = (g i j = d ∧ C i j) := by
  unfold iOp
  by_cases c : C i j <;> simp [c]
theorem sOp_some {C : Str → Str → Prop} {g : Str → Str → D} {i j : Str} {d : D} : (sOp C g (.str i) (.str j) = some d) = (g i j = d ∧ C i j) := by
  unfold sOp
  by_cases c : C i j <;> simp [c]
theorem eq_ii {i j : Int} : fEq (.int i) (.int j) = some (.bl (decide (i = j))) := by simp [fEq, scV, scal]
theorem eq_ss {i j : Str} : fEq (.str i) (.str j) = some (.bl (decide (i = j))) := by simp [fEq, scV, scal]
theorem ne_ii {i j : Int} : fNe (.int i) (.int j) = some (.bl (!decide (i = j))) := by simp [fNe, scV, scal]
theorem ne_ss {i j : Str} : fNe (.str i) (.str j) = some (.bl (!decide (i = j))) := by simp [fNe, scV, scal]
theorem cpow_1 {k : Nat} (h : k ≤ 1000000) : CPow 10 (k : Int) = True := eq_true ⟨by omega, by omega, by decide⟩
theorem cpow_12 : CPow 10 12 = True := cpow_1 (k := 12) (by decide)
theorem cpow_13 : CPow 10 13 = True := cpow_1 (k := 13) (by decide)
theorem cpow_18 : CPow 10 18 = True := cpow_1 (k := 18) (by decide)
theorem cpow_9 : CPow 10 9 = True := cpow_1 (k := 9) (by decide)
theorem cpow_6 : CPow 10 6 = True := cpow_1 (k := 6) (by decide)
theorem cdiv_p12 {i : Int} : CDivW i 1000000000000 = True := eq_true ⟨by decide, by decide⟩
theorem cdiv_p13 {i : Int} : CDivW i 10000000000000 = True := eq_true ⟨by decide, by decide⟩
theorem cdiv_p18 {i : Int} : CDivW i 1000000000000000000 = True := eq_true ⟨by decide, by decide⟩
section
variable {st : St}
theorem peek_int {i : Int} : peek st (.dat (.int i)) = some (.int i) := rfl
theorem peek_str {i : Str} : peek st (.dat (.str i)) = some (.str i) := rfl
theorem peek_bl {i : Bool} : peek st (.dat (.bl i)) = some (.bl i) := rfl
theorem peek_non : peek st (.dat .non) = some .non := rfl
theorem peek_lst {ds : List D} : peek st (.dat (.lst ds)) = some (.lst ds) := rfl
theorem peek_tup {ds : List D} : peek st (.dat (.tup ds)) = some (.tup ds) := rfl
theorem peek_ty {s : String} : peek st (.dat (.ty s)) = some (.ty s) := rfl
theorem peek_tp {ds : List D} : peek st (.tp (.lst ds)) = some (.lst ds) := rfl
theorem peek_sl {i : Nat} {ds : List D} (h : st.env[i]? = some (some (.own (.lst ds)))) : peek st (.sl i) = some (.lst ds) := by simp only [peek, h]
theorem peek_sl2 {i : Nat} {ds : List D} (h : st.env[i]? = some (some (.dat (.lst ds)))) : peek st (.sl i) = some (.lst ds) := by simp only [peek, h]
end
theorem fIxL_some {ds : List D} {i : Int} {d : D} : (fIxL (.lst ds) (.int i) = some d) = (atI ds i = some d) := rfl
theorem fIxT_some {ds : List D} {i : Int} {d : D} : (fIxT (.tup ds) (.int i) = some d) = (atI ds i = some d) := rfl
theorem append_some {xs : List D} {y : D} {z : List D × D} : (fAppend xs [y] = some z) = ((xs ++ [y], D.non) = z ∧ xs.length < sizeLine) := by
  unfold fAppend
  by_cases c : xs.length < sizeLine <;> simp [c]
theorem lenS_some {z : Str} {d : D} : (fLenS [.str z] = some d) = (.int z.length = d ∧ z.length ≤ sizeLine) := by
  unfold fLenS
  by_cases c : z.length ≤ sizeLine <;> simp [c]
theorem strI_some {i : Int} {d : D} : (fStrI [.int i] = some d) = (.str (toString i) = d ∧ i.natAbs.log2 < 1920) := by
  unfold fStrI
  by_cases c : i.natAbs.log2 < 1920 <;> simp [c]
theorem mulS_some {z : Str} {n : Int} {d : D} : (fMulS (.str z) (.int n) = some d) = (.str (repS z n) = d ∧ -(2 ^ 63) ≤ n ∧ n ≤ 1000000 ∧ z.length * n.toNat ≤ 16777216 ∧ (repS z n).length ≤ sizeLine) := by
  unfold fMulS
  by_cases c : -(2 ^ 63) ≤ n ∧ n ≤ 1000000 ∧ z.length * n.toNat ≤ 16777216 ∧ (repS z n).length ≤ sizeLine <;> simp only [c, if_pos, if_neg, reduceCtorEq, and_true, and_false, Option.some.injEq, not_false_eq_true]
theorem ljust2_some {a f : Str} {i : Int} {d : D} : (fLjust2 (.str a) (.int i) (.str f) = some d) = (.str (Txt.ljustF a i (f.cps.getD 0 0)) = d ∧ PadOk i = true ∧ f.length = 1) := by
  unfold fLjust2
  by_cases c : PadOk i = true ∧ f.length = 1 <;> simp [c]
theorem rmp_some {a b : Str} {d : D} : (fRemoveprefix (.str a) (.str b) = some d) = (.str (Txt.removeprefix a b) = d ∧ a.length ≤ sizeLine) := by
  unfold fRemoveprefix
  by_cases c : a.length ≤ sizeLine <;> simp [c]
theorem catL_some {xs ys : List D} {ds : List D} : (fCatL (.lst xs) (.lst ys) = some ds) = (xs ++ ys = ds ∧ xs.length + ys.length ≤ sizeLine) := by
  unfold fCatL
  by_cases c : xs.length + ys.length ≤ sizeLine <;> simp [c]
/-! ### lists of ints -/
def getI (xs : List Int) (i : Nat) : Int := xs.getD i 0
theorem atI_ints {xs : List Int} {i n : Nat} (h : xs.length = n) (hi : i < n) : atI (xs.map D.int) (i : Int) = some (.int (getI xs i)) := by
  refine atI_nat ?_
  rw [List.getElem?_map, List.getElem?_eq_getElem (by omega)]
  simp [getI, List.getD, List.getElem?_eq_getElem (show i < xs.length by omega)]
theorem neD_same {x : D} {a : PyData} (h : x.pd = some a) (hl : a.canLay0 = true) (hd : a.depth ≤ 64) : fNeD x x = some (.bl false) := by
  unfold fNeD
  rw [h]
  dsimp only
  have s := Kv.shaped_of hl hd
  rw [if_pos ⟨s, s⟩, SeqAt.eqv_refl a hl]
  rfl
theorem eqD_same {x : D} {a : PyData} (h : x.pd = some a) (hl : a.canLay0 = true) (hd : a.depth ≤ 64) : fEqD x x = some (.bl true) := by
  unfold fEqD
  rw [h]
  dsimp only
  have s := Kv.shaped_of hl hd
  rw [if_pos ⟨s, s⟩, SeqAt.eqv_refl a hl]
theorem atI_c0 {α : Type} {x : α} {r : List α} : atI (x :: r) 0 = some x := atI_nat (j := 0) rfl
theorem atI_c1 {α : Type} {x y : α} {r : List α} : atI (x :: y :: r) 1 = some y := atI_nat (j := 1) rfl
theorem atI_c2 {α : Type} {x y z : α} {r : List α} : atI (x :: y :: z :: r) 2 = some z := atI_nat (j := 2) rfl
theorem atI_c3 {α : Type} {x y z w : α} {r : List α} : atI (x :: y :: z :: w :: r) 3 = some w := atI_nat (j := 3) rfl
theorem atI_c4 {α : Type} {x y z w u : α} {r : List α} : atI (x :: y :: z :: w :: u :: r) 4 = some u := atI_nat (j := 4) rfl
end Mi
namespace Kv
open PySem PySem.Spec PyProof.Rows L2
/-! ### isinstance(e, ValueError) -/
def veAll (K : Frag) (a : Er → Addr) : Bool := Er.every.all fun e => PySem.W.kitOne K (.ref (a e)) (.type "ValueError") == some true
theorem ve_of {K : Frag} {a : Er → Addr} (h : veAll K a = true) (e : Er) : PySem.W.kitOne K (.ref (a e)) (.type "ValueError") = some true := by
  unfold veAll at h
  simpa using (List.all_eq_true.mp h) e e.mem
/-- which errors a suite of one class takes -/
def exhAll (K : Frag) (a : Er → Addr) (d : Er) : Bool := Er.every.all fun e => PySem.W.exmOne K (.ref (a e)) (.ref (a d)) == some (decide (e = d))
theorem exh_of {K : Frag} {a : Er → Addr} {d : Er} (h : exhAll K a d = true) (e : Er) : PySem.W.exmOne K (.ref (a e)) (.ref (a d)) = some (decide (e = d)) := by
  unfold exhAll at h
  simpa using (List.all_eq_true.mp h) e e.mem
def rIsPt (K : Frag) (D a : Addr) : List V → Hp → VK → Prop := fun xs H Q => ∃ (n : String) (b : Bool), xs = [.ref a, .ty n] ∧ PySem.W.kitOne K (.ref D) (.type n) = some b ∧ Q (.bl b) H
theorem call_isPt {X : Cx} {D : Addr} {p : Addr × Obj} (hp : p ∈ X.pn) (C : ExcC X.K D) (hz : Zc (.ref D) none p.2) (hf : ∃ vs, p.2.data = .fields vs) : CallR X (.builtin "isinstance") (rIsPt X.K D p.1) := by
  intro pins s σ H xs us Q I r h
  obtain ⟨c, b, e1, e, q⟩ := h
  subst e1
  cases r with
  | cons rx rr =>
    cases rr with
    | cons rt rr2 =>
      cases rr2
      cases rx
      cases rt
      have hget := (I.pin p (List.mem_append.mpr (.inl hp))).1
      have J : PySem.W.InstAt s.heap p.1 p.2 D none := by
        obtain ⟨pa, oc, od, oda, osl⟩ := p
        obtain ⟨vs, hv⟩ := hf
        obtain ⟨h1, h2⟩ := hz
        dsimp only at h1 h2 hv hget ⊢
        subst h1 h2 hv
        exact ⟨hget, rfl, rfl, trivial⟩
      have kit := PySem.W.handS_kitx_exc C.hg C.hk C.hs C.hd C.ha C.hn C.ht C.hm (x := p.1) (ox := p.2)
      exact PySem.W.kia_one kit I.kIn J e (fun z => nomatch z) fun tk => ⟨.bl b, H, I.kept (t' := tk) fun _ _ z => z, rfl, q⟩
end Kv

set_option Elab.async false
set_option linter.all false
set_option maxRecDepth 100000
set_option maxHeartbeats 4000000
namespace Mi
open PySem PySem.Spec PyProof.Rows L2
theorem op_eqK {X : Cx} {K : Frag} (hu : X.A.units + 64 < cLine) (hK : X.K = K := by rfl) : OpR X (compareOp .Eq) (rEqD K) := by subst hK; exact op_eqD hu
theorem op_neK {X : Cx} {K : Frag} (hu : X.A.units + 64 < cLine) (hK : X.K = K := by rfl) : OpR X (compareOp .NotEq) (rNeD K) := by subst hK; exact op_neD hu
/-- a def's body by its reading and its function -/
theorem fin0 {K : Frag} {H : Hp} {Y : Cx} {b : List Stmt} {ex : Kv.Er → Addr} {X : XK} {t : TS} {ms : M Fl} {N : List Str} {n : Nat} {vs : List V} {Q : VK} {c : Str → Addr} (hd : PSs Y b t) (hs : ∀ xa, SimS K (c, xa, false) EF t ms) (q : spM K c ex n (noErrF (runF N.length ms)) vs H Q X) :
    ∃ t, PSs Y b t ∧ t { nx := fun _ H' => Q .non H', rt := Q } (L2.start N vs) H := ⟨t, hd, body_ok0 hs q⟩
theorem finX {K : Frag} {H : Hp} {Y : Cx} {b : List Stmt} {ex : Kv.Er → Addr} {X : XK} {t : TS} {ms : M Fl} {N : List Str} {n : Nat} {vs : List V} {Q : VK} {c : Str → Addr} (hd : PSs Y b t) (hs : ∀ xa, SimS K (c, xa, false) (fun e _ H => X (.ref (ex e)) none H) t ms) (q : spM K c ex n (runF N.length ms) vs H Q X) :
    ∃ t, PSs Y b t ∧ t { nx := fun _ H' => Q .non H', rt := Q } (L2.start N vs) H := ⟨t, hd, body_ok hs q⟩
/-! ### calls that change what they are handed -/
theorem rp_callM {n : Nat} {m : Fn} {evs : List EV} {st : St} {e : Kv.Er → St → Prop} {kx : EV ⊕ BX → St → Prop} {as : List AV} {hs : List EV} {bs io : List BX} {S : List Ob} {rv : RV} {x : EV ⊕ BX} (hm : m as bs st.S = .ok rv io S) (hsp : splitA st 0 evs = some (as, hs, bs)) (hn : as.length = n) (hnd : (tagsOf hs).Nodup) (hl : io.length = hs.length) (hb : backV hs rv = some x) (hk : kx x (mPut hs st io S)) : Rp (callR n m evs st) kx e := by
  unfold callR
  rw [hsp]
  dsimp only
  rw [if_pos ⟨hnd, hn⟩, hm]
  dsimp only
  rw [if_pos hl, hb]
  exact hk
theorem kit_tt : kitB "tuple" "tuple" = some true := by rfl
theorem kit_ss : kitB "str" "str" = some true := by rfl
theorem kit_ii : kitB "int" "int" = some true := by rfl
theorem kit_ib : kitB "int" "bool" = some false := by rfl
theorem kit_ll : kitB "list" "list" = some true := by rfl
theorem kit_bb : kitB "bool" "bool" = some true := by rfl
theorem ixN_2_0 : ixN 2 0 = some 0 := by rfl
theorem ixN_2_1 : ixN 2 1 = some 1 := by rfl
theorem ixN_3_0 : ixN 3 0 = some 0 := by rfl
theorem ixN_3_1 : ixN 3 1 = some 1 := by rfl
theorem ixN_3_2 : ixN 3 2 = some 2 := by rfl
theorem rp_new_r {b : BX} {st : St} {kx : BX → St → Prop} {e : Kv.Er → St → Prop} : Rp (newR (.inr b) st) kx e = kx b st := rfl
theorem nod2t {b c : BX} : (tagsOf [.tp b, .tp c]).Nodup := by simp [tagsOf, hTagAt, List.mapIdx_cons]
theorem ite_dup {c1 c2 : Prop} [Decidable c1] [Decidable c2] {B E : Prop} (hB : B) (hE : E) : if c1 then B else if c2 then B else E := by split; exact hB; split; exact hB; exact hE
theorem nod0 : (tagsOf []).Nodup := by decide
theorem nod1 {e : EV} : (tagsOf [e]).Nodup := by simp [tagsOf]
theorem peek_ioU {st : St} {k : Nat} : peek st (.io k) = (match st.io[k]? with
    | some (.lst ds) => some (.lst ds)
    | _ => none) := rfl
theorem peek_slU {st : St} {i : Nat} : peek st (.sl i) = (match st.env[i]? with
    | some (some (.own (.lst ds))) => some (.lst ds)
    | some (some (.dat (.lst ds))) => some (.lst ds)
    | _ => none) := rfl
def EndG (S : List Ob) (P : D → List BX → Prop) : Fl → St → Prop
  | .nx, st => st.S = S ∧ P .non st.io
  | .ret (.dat x), st => st.S = S ∧ P x st.io
  | _, _ => False
theorem gen_run {n : Nat} {ms : M Fl} {as : List AV} {io : List BX} {S : List Ob} {P : D → List BX → Prop}
    (h : Rp (ms ⟨as.map (fun a => some a.sv) ++ List.replicate (n - as.length) none, io, S⟩) (EndG S P) (fun _ _ => False)) : ∃ d io', noErrF (runF n ms) as io S = .ok (.dat d) io' S ∧ P d io' := by
  unfold noErrF runF
  cases e : ms ⟨as.map (fun a => some a.sv) ++ List.replicate (n - as.length) none, io, S⟩ with
  | stuck => rw [e] at h; exact h.elim
  | err x st => rw [e] at h; exact h.elim
  | ok f st =>
    rw [e] at h
    cases f with
    | nx => obtain ⟨rfl, h⟩ := h; exact ⟨_, _, rfl, h⟩
    | brk => exact h.elim
    | cont => exact h.elim
    | ret ev =>
      cases ev with
      | dat d => obtain ⟨rfl, h⟩ := h; exact ⟨_, _, rfl, h⟩
      | _ => exact h.elim
/-! ### enumerate(text, k) -/
def Ites (x : Str) (k0 : Int) : It :=
  ⟨fun i _ => i < x.cps.size, fun i H v H' => ∃ T c, v = .ref T ∧ H T = none ∧ H' = upd H T (.tup [.int (k0 + (i : Nat)), .str ⟨#[c]⟩]) ∧ x.cps[i]? = some c, fun i _ => i = x.cps.size⟩
theorem draws_str {P : Program} {w : World} {A : Around} (hh : A.handled = none) (it : Addr) (x : Str) (t : Tok) {ty : String} (hty : ty = "str_ascii_iterator" ∨ ty = "str_iterator") :
    Draws P w A it [it] x.cps.size (fun i v => ∃ c u, x.cps[i]? = some c ∧ v = .str ⟨#[c]⟩ u) (fun i h => h.IsStrIter it ty x t i) := by
  rcases hty with e | e
  · subst e; exact Draws.strAscii hh it x t
  · subst e; exact Draws.strWide hh it x t
theorem turn_enumS {P : Program} {w : World} {K : PySem.W.Frag} {elts : List Expr} {kk : Nat} {tpos : Pos} (x : Str) (t : Tok) (k0 : Int) (e it : Addr) {ty : String} (hty : ty = "str_ascii_iterator" ∨ ty = "str_iterator") :
    Turn P w K (.Tuple elts kk tpos) (Ites x k0) [e, it] e (fun i h => (∃ old, IsEnum h e it (k0 + ((i : Nat) : Int)) old) ∧ h.IsStrIter it ty x t i ∧ e ≠ it) where
  mem := by simp
  obj := fun i h st b hb => by
    obtain ⟨⟨old, he⟩, ⟨o, ho, hc, hd⟩, _⟩ := st
    have e' : b = e ∨ b = it := by simpa using hb
    rcases e' with z | z
    · rw [z]; exact ⟨_, he, fun v q => nomatch q⟩
    · rw [z]; exact ⟨o, ho, fun v q => by rw [hd] at q; cases q⟩
  keep := fun i h h' st k => let ⟨⟨old, he⟩, ⟨o, ho, r⟩, hne⟩ := st; ⟨⟨old, k e (by simp) _ he⟩, ⟨o, k it (by simp) o ho, r⟩, hne⟩
  item := by
    intro X hP hw hK hc i pins s σ H E I hf st hg
    subst hP hw hK
    obtain ⟨⟨old, he⟩, hit, hne⟩ := st
    have hel : e < s.heap.objs.size := Heap.lt_size he
    have hil : it < s.heap.objs.size := by obtain ⟨_, q, _⟩ := hit; exact Heap.lt_size q
    refine wpAny_pyNext_enum_itemC (draws_str (A := X.A.in1) (I.ok.hd hc) it x t hty) he hit hg hne (by simpa using hne) fun v h' tk hv ho hit' hT hsz hk => ?_
    obtain ⟨c, u, hcx, rfl⟩ := hv
    refine ⟨_, rfl, wpAny_letOwnedTupleGo_enum (s := { s with heap := h', toks := tk + 1 }) ho fun h'' he' sb => ?_⟩
    have hT2 : h''.get? s.heap.objs.size = some { cls := .type "tuple", data := .seq #[.int (k0 + (i : Nat)) tk, .str ⟨#[c]⟩ u] } := (sb.2 _ (Nat.ne_of_gt hel)).trans hT
    have new : ObjOk X.prog X.w (upd H s.heap.objs.size (.tup [.int (k0 + (i : Nat)), .str ⟨#[c]⟩])) h'' s.heap.objs.size (.tup [.int (k0 + (i : Nat)), .str ⟨#[c]⟩]) :=
      ⟨by show 2 ≤ sizeLine; decide, [.int (k0 + (i : Nat)) tk, .str ⟨#[c]⟩ u], .cons ⟨_, rfl⟩ (.cons ⟨_, rfl⟩ .nil), ⟨_, hT2, rfl, _, rfl⟩⟩
    have I1 : L2.Inv X pins σ (upd H s.heap.objs.size (.tup [.int (k0 + (i : Nat)), .str ⟨#[c]⟩])) { s with heap := h'', toks := tk + 1 } :=
      I.turnedNew (ch := [e, it]) (fun b ob hb q => (sb.2 b (fun z => hb (by simp [z]))).trans (hk b ob (fun z => hb (by simp [z])) (fun z => hb (by simp [z])) q)) hf (Nat.le_refl _) new
    refine ⟨.ref s.heap.objs.size, _, I1, rfl, ⟨_, c, rfl, I.hok.fresh (Nat.le_refl _), rfl, hcx⟩, ⟨⟨.str ⟨#[c]⟩ u, ?_⟩, ?_, hne⟩, fun b hb => ?_⟩
    · have e1 : k0 + ((i + 1 : Nat) : Int) = k0 + (i : Int) + 1 := by omega
      rw [e1]; exact he'
    · obtain ⟨o, ho, r⟩ := hit'
      exact ⟨o, (sb.2 it (Ne.symm hne)).trans ho, r⟩
    · have hb' : b < s.heap.objs.size := by
        have e' : b = e ∨ b = it := by simpa using hb
        rcases e' with z | z
        · rw [z]; exact hel
        · rw [z]; exact hil
      rw [upd_ne (Nat.ne_of_lt hb')]
      exact (hf b hb).1
  done := by
    intro X hP hw hK hc i pins s σ H E I hf st hg
    subst hP hw hK
    obtain ⟨⟨old, he⟩, hit, hne⟩ := st
    have hg : i = x.cps.size := hg
    subst hg
    obtain ⟨f0, f1, f2, f3, f4, f5⟩ := hf it (by simp)
    exact wpAny_pyNext_enum_endD (draws_str (A := X.A.in1) (I.ok.hd hc) it x t hty) he hit fun h' eb => ⟨rfl, I.turned (t' := s.toks) (fun b o hb q => eb b o hb q) f0 f1 f3 f4 f5⟩
  self := fun A i s Q E st h => let ⟨⟨_, he⟩, _⟩ := st; wpAny_pyIter_enum he h
def iEnumS (ta : TA) : TI := fun σ H R => ta σ H fun vs H1 => ∃ x k, vs = [.str x, .int k] ∧ (-(2 ^ 63) ≤ k ∧ k < 2 ^ 63) ∧ R (Ites x k) H1
theorem pi_enumS {X : Cx} {e1 e2 : Expr} {ta : TA} {p pos tpos : Pos} {elts : List Expr} {kk : Nat} (hg : Gl X "enumerate") (hm : X.mg "enumerate" = none) (ha : PA X [e1, e2] ta) (hs : starEach [e1, e2] X.env = (false, eval e1 X.env) :: starEach [e2] X.env := by rfl) (hpl : (backTo pos (starEach [e2] X.env)).any (·.1) = false := by rfl) :
    PI X (.Tuple elts kk tpos) (.Call (.Name "enumerate" p) [e1, e2] [] pos) (iEnumS ta) := by
  refine ⟨fun pins s σ H R I h => ?_⟩
  refine Call_ (ld_blt I hg hm boot_enumerate (PyProof.Rows.callWith_type1 (thn (ha.run pos pins s σ H _ I h) fun us s1 ⟨vs, H1, I1, r1, q1⟩ => ?_) hs hpl))
  obtain ⟨x, k, ex, hk, q⟩ := q1
  subst ex
  cases r1 with
  | cons r rr =>
    cases rr with
    | cons r2 rr =>
    cases rr
    obtain ⟨t, rfl⟩ := r
    obtain ⟨t2, rfl⟩ := r2
    have hty : strIterType x = "str_ascii_iterator" ∨ strIterType x = "str_iterator" := by unfold strIterType; split <;> simp
    refine enum_begins (begins_text x t) trivial hk.1 hk.2 fun h' he hit hsz hkp => wpAny_pyIter_enum he ?_
    have I2 : L2.Inv X pins σ H1 { s1 with heap := h' } := I1.kept (t' := s1.toks) hkp
    refine ⟨s1.heap.objs.size + 1, [s1.heap.objs.size + 1, s1.heap.objs.size], _, _, H1, rfl, I2, turn_enumS x t k (s1.heap.objs.size + 1) s1.heap.objs.size hty, ⟨⟨.none, by rw [show k + ((0 : Nat) : Int) = k by omega]; exact he⟩, ⟨_, hit, rfl, rfl⟩, Nat.succ_ne_self _⟩, fun b hb => ?_, q⟩
    have e' : b = s1.heap.objs.size + 1 ∨ b = s1.heap.objs.size := by simpa using hb
    have hle : s1.heap.objs.size ≤ b := by
      rcases e' with z | z
      · rw [z]; exact Nat.le_add_right _ _
      · rw [z]; exact Nat.le_refl _
    exact I1.fpOk hle (I1.hok.fresh hle)
def YEnS (x : Str) (k : Int) : Nat → Hp → V → Hp → Prop := fun i H v H' => ∃ T c, v = .ref T ∧ H T = none ∧ H' = upd H T (.tup [.int (k + (i : Nat)), .str ⟨#[c]⟩]) ∧ x.cps[i]? = some c
theorem walk_enumS {x : Str} {k : Int} : Walk (Ites x k) x.cps.size (fun _ => True) (YEnS x k) :=
  ⟨fun _ _ hi _ => hi, fun _ _ => rfl, fun _ _ _ _ _ _ y => y⟩
section
variable {K : Frag} {cl : (Str → Addr) × Addr × Bool} {E : Kv.Er → L2.St → Hp → Prop} {W : Wd} {σ : L2.St} {H : Hp}
def enumS (k : Int) (l : List Nat) : List D := l.mapIdx fun i c => .tup [.int (k + (i : Nat)), .str ⟨#[c]⟩]
def mIEnumS (ma : M (List EV)) : M Itr := fun st => (ma st).bind fun as st1 => match as with
  | [.dat (.str x), .dat (.int k)] => if -(2 ^ 63) ≤ k ∧ k < 2 ^ 63 then .ok ⟨enumS k x.cps.toList, fun _ => True⟩ st1 else .stuck
  | _ => .stuck
theorem sI_enumS {t : TA} {mt : M (List EV)} (ha : SimA K cl E t mt) : SimI K cl E (iEnumS t) (mIEnumS mt) := by
  intro W σ H st I R q
  refine ha W σ H st I _ (Res.imp (Res.bind q) fun as st1 W1 H1 hm1 I1 x1 q1 v k fro => ?_)
  split at q1
  · rename_i x j
    cases k with
    | cons k1 t1 =>
      cases t1 with
      | cons k2 t2 =>
      cases t2
      cases k1
      cases k2
      split at q1
      · rename_i c
        refine ⟨x, j, rfl, c, q1.now I1 (Ites x j) (fun _ => True) (YEnS x j) ?_ ⟨fun _ _ _ _ _ _ _ => trivial, ?_⟩⟩
        · have : (enumS j x.cps.toList).length = x.cps.size := by simp [enumS]
          show Walk _ (enumS j x.cps.toList).length _ _
          rw [this]
          exact walk_enumS
        · rintro i d W2 σ2 H2 st2 v H3 ed I2 x2 c ⟨T, u, rfl, hT, rfl, eu⟩
          have ed : (enumS j x.cps.toList)[i]? = some d := ed
          unfold enumS at ed
          rw [List.getElem?_mapIdx, Array.getElem?_toList, eu] at ed
          cases ed
          exact ⟨_, I2.new hT, Ext.new I2 hT, .tup (SqT.of upd_same) (.cons (.int _) (.cons (.str _) .nil))⟩
      · exact q1.elim
  · exact q1.elim
end
/-! ### isinstance(e, X) in a suite -/
def rIsEK {K : Frag} {mg : Str → Option Value} (T : Kv.Errs K mg) (cls : Value) (d : Option Addr) (a : Addr) : List V → Hp → VK → Prop := fun xs H Q => ∃ (c : V) (cv : Value) (b : Bool), xs = [.ref a, c] ∧ (∀ u, RelV c u → u = cv) ∧ d = none ∧ ∃ er, cls = .ref (T.exa er) ∧ PySem.W.kitOne K (.ref (T.exa er)) cv = some b ∧ Q (.bl b) H
theorem call_isEK {X : Cx} {K : Frag} {mg : Str → Option Value} {T : Kv.Errs K mg} {a : Addr} {oe : Obj} {cls : Value} {d : Option Addr} {pn : List (Addr × Obj)} (hz : Zc cls d oe) (hf : ∃ vs, oe.data = .fields vs) (hK : X.K = K := by rfl) : CallR (X.suite a ((a, oe) :: pn)) (.builtin "isinstance") (rIsEK T cls d a) := by
  subst hK
  intro pins s σ H xs us Q I r h
  obtain ⟨c, cv, b, hx, hcv, hd, er, hc, hk, q⟩ := h
  subst hd hc
  exact call_isE (T.exc er) hz hf pins s σ H xs us Q I r ⟨c, cv, b, hx, hcv, hk, q⟩
section
variable {K : Frag} {E : Kv.Er → L2.St → Hp → Prop} {ta : TE} {ma : M EV}
theorem sE_isEK {mg : Str → Option Value} {T : Kv.Errs K mg} {c : Str → Addr} {a C : Addr} {er : Kv.Er} {b : Bool} (hk : PySem.W.kitOne K (.ref (T.exa er)) (.ref C) = some b) (ha : SimE K (c, a, false) E ta ma) : SimE K (c, a, false) E (tCB (rIsEK T (.ref (T.exa er)) none a) (tCons ta (tCons (tC (.ref C)) tNil))) (mIsE b ma) := by
  intro W σ H st I Q q
  refine ha W σ H st I _ (Res.imp (Res.bind q) fun ev st1 W1 H1 hm1 I1 x1 q1 v k => ?_)
  split at q1
  · have k : v = .ref W1.xa.1 := k
    exact ⟨.ref C, .ref C, b, by rw [k, I1.xeq], (fun u h => h), rfl, er, rfl, hk, q1.now I1 _ (.bl b)⟩
  · exact q1.elim
theorem sE_isET {mg : Str → Option Value} {T : Kv.Errs K mg} {c : Str → Addr} {a : Addr} {n : String} {er : Kv.Er} {b : Bool} (hk : PySem.W.kitOne K (.ref (T.exa er)) (.type n) = some b) (ha : SimE K (c, a, false) E ta ma) : SimE K (c, a, false) E (tCB (rIsEK T (.ref (T.exa er)) none a) (tCons ta (tCons (tC (.ty n)) tNil))) (mIsE b ma) := by
  intro W σ H st I Q q
  refine ha W σ H st I _ (Res.imp (Res.bind q) fun ev st1 W1 H1 hm1 I1 x1 q1 v k => ?_)
  split at q1
  · have k : v = .ref W1.xa.1 := k
    exact ⟨.ty n, .type n, b, by rw [k, I1.xeq], (fun u h => h), rfl, er, rfl, hk, q1.now I1 _ (.bl b)⟩
  · exact q1.elim
theorem rp_isE {b : Bool} {st : St} {k : EV → St → Prop} {e : Kv.Er → St → Prop} : Rp (mIsE b ma st) k e = Rp (ma st) (fun ev st1 => ev = .exc ∧ k (.dat (.bl b)) st1) e := by
  unfold mIsE
  rw [rp_bind]
  congr 1
  funext ev st1
  cases ev <;> simp [Rp]
end
/-! ### a, b = a list -/
section
variable {K : Frag} {cl : (Str → Addr) × Addr × Bool} {E : Kv.Er → L2.St → Hp → Prop}
def mgLst (n : Nat) (ms : List D → M Unit) : EV → M Unit
  | .dat (.lst ds) => if ds.length = n then ms ds else M.stuck
  | _ => M.stuck
theorem sG_lst {vs : List Nat} {n : Nat} {gs : TGs} {ms : List D → M Unit} (h : SimGs K cl E vs gs ms) : SimG K cl E vs (gLst K n gs) (mgLst n ms) := by
  intro W σ H st v ev I k Q q
  unfold mgLst at q
  split at q
  · rename_i ds
    cases k with
    | lst ht r =>
      split at q
      · rename_i hn
        exact ⟨_, _, rfl, I.sub.seq ht, by rw [r.len]; exact hn, h W σ H st _ _ I r Q q⟩
      · exact q.elim
  · exact q.elim
end
theorem rp_tryO {hit : Kv.Er → Bool} {mb : M Fl} {ms : Kv.Er → M Fl} {st : St} {kf : Fl → St → Prop} {e : Kv.Er → St → Prop} : Rp (mTryO hit mb ms st) kf e = Rp (mb st) kf (fun x st1 => if hit x = true then Rp (ms x st1) kf (fun _ _ => False) else e x st1) := by
  unfold mTryO
  cases h : mb st with
  | ok f st1 => rfl
  | stuck => rfl
  | err x st1 =>
    show Rp (if hit x = true then _ else _) kf e = if hit x = true then _ else _
    split
    · cases h2 : ms x st1 with
      | ok f st2 => rfl
      | err _ _ => rfl
      | stuck => rfl
    · rfl
theorem rp_split {ma mb : M EV} {st : St} {kx : BX → St → Prop} {e : Kv.Er → St → Prop} : Rp (mSplit ma mb st) kx e = Rp (ma st) (fun a st1 => ∃ z, a = .dat (.str z) ∧ Rp (mb st1) (fun b st2 => ∃ y, b = .dat (.str y) ∧ ((y.length == 0) = false ∧ z.length + 2 ≤ sizeLine) ∧ kx (.lst ((Txt.split z y).map .str)) st2) e) e := by
  unfold mSplit
  rw [rp_bind]
  congr 1
  funext a st1
  split
  · rename_i z
    rw [rp_bind]
    simp only [EV.dat.injEq, D.str.injEq, exists_eq_left']
    congr 1
    funext b st2
    split
    · rename_i y
      simp only [EV.dat.injEq, D.str.injEq, exists_eq_left']
      split
      · rename_i c; simp only [Rp, c, true_and]
      · rename_i c; simp only [Rp, eq_iff_iff, false_iff]; exact fun z => c z.1
    · rename_i h
      simp only [Rp, eq_iff_iff, false_iff]
      rintro ⟨y, rfl, _⟩
      exact h y rfl
  · rename_i h
    simp only [Rp, eq_iff_iff, false_iff]
    rintro ⟨z, rfl, _⟩
    exact h z rfl
/-! ### comprehensions, told by hand -/
section
variable {vs : List Nat} {chk : St → Prop} {mg : EV → M Unit} {me ma : M EV}
abbrev noE : Kv.Er → St → Prop := fun _ _ => False
theorem rp_lcL {ins : ∀ st, Decidable (chk st)} (I : Nat → List D → St → Prop) {kl : List D → St → Prop} : ∀ (ds : List D) (k : Nat) (acc : List D) (st : St), I k acc st → acc.length = k → k + ds.length ≤ sizeLine → (∀ i acc st, I i acc st → chk (st.wiped vs)) →
    (∀ i d acc st, k ≤ i → ds[i - k]? = some d → I i acc st → acc.length = i → Rp (mg (.dat d) (st.wiped vs)) (fun _ st1 => Rp (me st1) (fun ev st2 => Rp (toD ev st2) (fun x st3 => I (i + 1) (acc ++ [x]) st3) noE) noE) noE) →
    (∀ acc st, I (k + ds.length) acc st → acc.length = k + ds.length → kl acc st) → Rp (lcL vs chk mg (M.pure true) me ds acc st) kl noE
  | [], k, acc, st, h, ha, hl, hc, hs, hd => by
    unfold lcL
    rw [if_pos (hc k acc st h)]
    exact hd acc st (by simpa using h) (by simpa using ha)
  | d :: r, k, acc, st, h, ha, hl, hc, hs, hd => by
    unfold lcL
    rw [if_pos (hc k acc st h), rp_bind]
    have hl2 : acc.length < sizeLine := by rw [List.length_cons] at hl; omega
    refine rp_imp (hs k d acc st (Nat.le_refl k) (by simp) h ha) (fun _ st1 g => ?_) (fun _ _ z => z)
    rw [rp_bind, rp_pure, if_pos rfl, rp_bind]
    refine rp_imp g (fun ev st2 g => ?_) (fun _ _ z => z)
    rw [rp_bind]
    refine rp_imp g (fun x st3 g => ?_) (fun _ _ z => z)
    rw [if_pos hl2]
    exact rp_lcL I r (k + 1) (acc ++ [x]) st3 g (by simp [ha]) (by rw [List.length_cons] at hl; omega) hc (fun i d' acc' st' hi e => hs i d' acc' st' (by omega) (by rw [show i - k = (i - (k + 1)) + 1 by omega]; exact e)) (fun acc' st' h' hl' => hd acc' st' (by rw [List.length_cons, show k + (r.length + 1) = k + 1 + r.length by omega]; exact h') (by rw [hl', List.length_cons]; omega))
open Classical in
theorem rp_lc_of {mi : M Itr} {st st0 : St} {kx : BX → St → Prop} {e : Kv.Er → St → Prop} {it : Itr} (hi : mi st = .ok it st0) (h : Rp (lcL vs it.chk mg (M.pure true) me it.ds [] st0) (fun ds st2 => kx (.lst ds) { st2 with env := restE st0.env st2.env vs }) noE) : Rp (mLc vs mi mg (M.pure true) me st) kx e := by
  unfold mLc
  rw [hi]
  dsimp only [R.bind]
  generalize lcL vs it.chk mg (M.pure true) me it.ds [] st0 = r at h ⊢
  cases r with
  | ok ds st2 => exact h
  | err x st2 => exact h.elim
  | stuck => exact h.elim
/-- over a range; n given, the bound read without a change -/
theorem rp_lc_rng (n : Int) (I : Nat → List D → St → Prop) {st st0 : St} {kx : BX → St → Prop} {e : Kv.Er → St → Prop} (hn : -4611686018427387904 ≤ n ∧ n ≤ 1000000) (ha : ma st = .ok (.dat (.int n)) st0) (h0 : I 0 [] st0)
    (hs : ∀ (i : Nat) acc st, (i : Int) < n → I i acc st → acc.length = i → Rp (mg (.dat (.int (i : Int))) (st.wiped vs)) (fun _ st1 => Rp (me st1) (fun ev st2 => Rp (toD ev st2) (fun x st3 => I (i + 1) (acc ++ [x]) st3) noE) noE) noE)
    (hd : ∀ acc st1, I n.toNat acc st1 → acc.length = n.toNat → kx (.lst acc) { st1 with env := restE st0.env st1.env vs }) : Rp (mLc vs (mIRng1 (mCons ma (M.pure []))) mg (M.pure true) me st) kx e := by
  have hz : sizeLine = 16777216 := by decide
  have hlen : (rngD 0 n.toNat).length = n.toNat := by simp [rngD]
  refine rp_lc_of (it := ⟨rngD 0 n.toNat, fun _ => True⟩) (st0 := st0) ?_ ?_
  · unfold mIRng1 mCons
    rw [ha]
    simp only [R.bind, notTp, if_true, M.pure]
    rw [if_pos (show -2 ^ 62 ≤ n ∧ n < 2 ^ 62 from ⟨hn.1, by omega⟩)]
  · refine rp_lcL I _ 0 [] st0 h0 rfl (by rw [hlen]; omega) (fun _ _ _ _ => trivial) (fun i d acc st _ ed g hl => ?_) (fun acc st g hl => hd acc st ?_ ?_)
    · obtain ⟨rfl, hi⟩ := rng_get ed
      have := hs i acc st (by omega) g hl
      rw [Int.zero_add]
      exact this
    · rw [Nat.zero_add, hlen] at g
      exact g
    · rw [Nat.zero_add, hlen] at hl
      exact hl
/-- over a text -/
theorem rp_lc_str (l : List Nat) (I : Nat → List D → St → Prop) {st st0 : St} {kx : BX → St → Prop} {e : Kv.Er → St → Prop} (hl : l.length ≤ 1000000) (ha : ma st = .ok (.dat (.str (SX.S l))) st0) (h0 : I 0 [] st0)
    (hs : ∀ (i c : Nat) acc st, l[i]? = some c → I i acc st → acc.length = i → Rp (mg (.dat (.str (SX.S [c]))) (st.wiped vs)) (fun _ st1 => Rp (me st1) (fun ev st2 => Rp (toD ev st2) (fun x st3 => I (i + 1) (acc ++ [x]) st3) noE) noE) noE)
    (hd : ∀ acc st1, I l.length acc st1 → acc.length = l.length → kx (.lst acc) { st1 with env := restE st0.env st1.env vs }) : Rp (mLc vs (mIStr ma) mg (M.pure true) me st) kx e := by
  have hz : sizeLine = 16777216 := by decide
  refine rp_lc_of (it := ⟨l.map fun c => .str (SX.S [c]), fun _ => True⟩) (st0 := st0) ?_ ?_
  · unfold mIStr
    rw [ha]
    simp [R.bind, SX.S]
  · refine rp_lcL I _ 0 [] st0 h0 rfl (by rw [List.length_map]; omega) (fun _ _ _ _ => trivial) (fun i d acc st _ ed g hl => ?_) (fun acc st g hl => hd acc st ?_ ?_)
    · have ed : (l.map fun c => D.str (SX.S [c]))[i]? = some d := ed
      rw [List.getElem?_map] at ed
      cases e : l[i]? with
      | none => rw [e] at ed; cases ed
      | some c => rw [e] at ed; cases ed; exact hs i c acc st e g hl
    · rw [Nat.zero_add, List.length_map] at g
      exact g
    · rw [Nat.zero_add, List.length_map] at hl
      exact hl
/-- over enumerate(text, k) -/
theorem rp_lc_enumS (l : List Nat) (k : Int) (I : Nat → List D → St → Prop) {mk : M EV} {st st0 : St} {kx : BX → St → Prop} {e : Kv.Er → St → Prop} (hl : l.length ≤ 1000000) (hk : -9223372036854775808 ≤ k ∧ k < 9223372036854775808) (ha : (mCons ma (mCons mk (M.pure []))) st = .ok [.dat (.str (SX.S l)), .dat (.int k)] st0) (h0 : I 0 [] st0)
    (hs : ∀ (i c : Nat) acc st, l[i]? = some c → I i acc st → acc.length = i → Rp (mg (.dat (.tup [.int (k + (i : Int)), .str (SX.S [c])])) (st.wiped vs)) (fun _ st1 => Rp (me st1) (fun ev st2 => Rp (toD ev st2) (fun x st3 => I (i + 1) (acc ++ [x]) st3) noE) noE) noE)
    (hd : ∀ acc st1, I l.length acc st1 → acc.length = l.length → kx (.lst acc) { st1 with env := restE st0.env st1.env vs }) : Rp (mLc vs (mIEnumS (mCons ma (mCons mk (M.pure [])))) mg (M.pure true) me st) kx e := by
  have hz : sizeLine = 16777216 := by decide
  have hlen : (enumS k l).length = l.length := by simp [enumS]
  refine rp_lc_of (it := ⟨enumS k l, fun _ => True⟩) (st0 := st0) ?_ ?_
  · unfold mIEnumS
    rw [ha]
    show (if -(2 ^ 63) ≤ k ∧ k < 2 ^ 63 then _ else _) = _
    rw [if_pos (show -(2 ^ 63) ≤ k ∧ k < 2 ^ 63 from hk)]
  · refine rp_lcL I _ 0 [] st0 h0 rfl (by rw [hlen]; omega) (fun _ _ _ _ => trivial) (fun i d acc st _ ed g hl => ?_) (fun acc st g hl => hd acc st ?_ ?_)
    · have ed : (enumS k l)[i]? = some d := ed
      unfold enumS at ed
      rw [List.getElem?_mapIdx] at ed
      cases e : l[i]? with
      | none => rw [e] at ed; cases ed
      | some c => rw [e] at ed; cases ed; exact hs i c acc st e g hl
    · rw [Nat.zero_add, hlen] at g
      exact g
    · rw [Nat.zero_add, hlen] at hl
      exact hl
end
end Mi

set_option Elab.async false
set_option linter.all false
set_option maxRecDepth 100000
set_option maxHeartbeats 4000000
namespace Mi
open PySem PySem.Spec PyProof.Rows L2
section
variable {K : Frag} {cl : (Str → Addr) × Addr × Bool} {E : Kv.Er → L2.St → Hp → Prop} {W : Wd} {σ : L2.St} {H : Hp} {ta tb tc : TE} {ma mb mc : M EV}
/-! ### objects -/
/-- the fields of an object of the class -/
def obFs (st : St) (c : Str) (ev : EV) : Option (Nat × List (Str × FV)) := match ev with
  | .dat (.ob j) => match st.S[j]? with
    | some (.ins c' fs) => if c' = c then some (j, fs) else none
    | _ => none
  | _ => none
theorem obFs_ok {st : St} {c : Str} {ev : EV} {v : V} {j : Nat} {fs : List (Str × FV)} (I : Inv K cl W σ H st) (k : EvOk K W H σ v ev) (e : obFs st c ev = some (j, fs)) : ∃ a dx vs, v = .ref a ∧ ev = .dat (.ob j) ∧ st.S[j]? = some (.ins c fs) ∧ W.ρ[j]? = some a ∧ W.ow a = some (.ob j) ∧ W.ow dx = some (.dx j) ∧ H dx = some (.own a) ∧ H a = some (.ins (cl.1 c) dx vs) ∧ FsOk K W H j vs fs := by
  cases ev with
  | dat d =>
    cases d with
    | ob i =>
      unfold obFs at e
      dsimp only at e
      split at e
      · rename_i c' fs' es
        split at e
        · rename_i hc
          cases e
          subst hc
          obtain ⟨a, dx, vs, e1, e2, e3, e4, e5, kf⟩ := I.obs j _ es
          cases k with
          | ob h =>
            rw [h] at e1
            cases e1
            exact ⟨_, dx, vs, rfl, rfl, es, h, e2, e3, e4, e5, kf⟩
        · cases e
      · cases e
    | _ => cases e
  | _ => cases e
/-- o.f -/
def mFld (c f : Str) (ma : M EV) : M EV := fun st => (ma st).bind fun a st1 => match obFs st1 c a with
  | some (_, fs) => match fs.lookup f with
    | some (.dat d) => .ok (.dat d) st1
    | _ => .stuck
  | none => .stuck
theorem sE_fld {c f : Str} {C : Addr} (hC : cl.1 c = C) (kc : Cls K C) (na : NoAttr K C f) (ha : SimE K cl E ta ma) : SimE K cl E (tFld K ta f) (mFld c f ma) := by
  subst hC
  intro W σ H st I Q q
  refine ha W σ H st I _ (Res.imp (Res.bind q) fun a st1 W1 H1 _ I1 x1 q1 v k => ?_)
  split at q1
  · rename_i j fs e
    split at q1
    · rename_i d ef
      obtain ⟨p, dx, vs, rfl, rfl, es, _, _, _, _, e5, kf⟩ := obFs_ok I1 k e
      obtain ⟨u, hu, ku⟩ := fs_get kf ef
      exact ⟨p, _, dx, vs, u, rfl, e5, kc, na, hu, q1.now I1 u ku⟩
    · exact q1.elim
  · exact q1.elim
/-- a field is set -/
def putV (f : Str) (x : FV) : List (Str × FV) → List (Str × FV)
  | [] => [(f, x)]
  | (g, y) :: r => if g = f then (g, x) :: r else (g, y) :: putV f x r
theorem fs_set {j : Nat} {f : Str} {v : V} {x : FV} (k : FvOk K W H j f v x) : ∀ {vs : List (Str × V)} {fs : List (Str × FV)}, FsOk K W H j vs fs → FsOk K W H j (putF f v vs) (putV f x fs)
  | _, _, .nil => .cons k .nil
  | _, _, .cons (f := g) h t => by
    unfold putF putV
    by_cases c : g = f
    · subst c
      rw [if_pos rfl, if_pos rfl]
      exact .cons k t
    · rw [if_neg c, if_neg c]
      exact .cons h (fs_set k t)
theorem fs_len {j : Nat} : ∀ {vs : List (Str × V)} {fs : List (Str × FV)}, FsOk K W H j vs fs → vs.length = fs.length
  | _, _, .nil => rfl
  | _, _, .cons _ t => by rw [List.length_cons, List.length_cons, fs_len t]
theorem fs_none {j : Nat} {f : Str} : ∀ {vs : List (Str × V)} {fs : List (Str × FV)}, FsOk K W H j vs fs → fs.lookup f = none → vs.lookup f = none
  | _, _, .nil, _ => rfl
  | _, _, .cons (f := g) h t, e => by
    rw [List.lookup_cons] at e ⊢
    cases c : f == g with
    | true => rw [c] at e; cases e
    | false => rw [c] at e; exact fs_none t e
theorem Inv.setFld {st : St} {j : Nat} {c f : Str} {fs : List (Str × FV)} {a dx : Addr} {vs : List (Str × V)} {v : V} {d : D} (I : Inv K cl W σ H st) (e : st.S[j]? = some (.ins c fs)) (e1 : W.ρ[j]? = some a) (e2 : W.ow a = some (.ob j)) (e3 : W.ow dx = some (.dx j)) (e4 : H dx = some (.own a)) (kf : FsOk K W H j vs fs) (r : Rep K W.F W.ρ v d) :
    Inv K cl W σ (upd H a (.ins (cl.1 c) dx (putF f v vs))) { st with S := st.S.set j (.ins c (putV f (.dat d) fs)) } := by
  have hne : ∀ q t, W.ow q = some t → t ≠ .ob j → upd H a (.ins (cl.1 c) dx (putF f v vs)) q = H q := fun q t e n => by
    have c : q ≠ a := fun c => by subst c; rw [e2] at e; cases e; exact n rfl
    exact upd_ne c
  refine ⟨I.xeq, I.nt, sub_upd I.sub (I.out a _ e2).1, out_upd I, I.inj, I.len, fun i sv ej => ?_, fun i b ej => ?_, by simp [I.rlen], fun i o' ei => ?_⟩
  · exact (I.slots i sv ej).kp (Same.refl _) (List.prefix_refl _) (fun _ _ h _ => h) fun q h => ⟨hne q _ h (by simp), h⟩
  · obtain ⟨q, h, k2⟩ := I.ios i b ej
    exact ⟨q, h, k2.kp (Same.refl _) (List.prefix_refl _) (hne q _ h (by simp))⟩
  · by_cases cc : j = i
    · subst cc
      have := get_set_eq e ei
      subst this
      refine ⟨a, dx, _, e1, e2, e3, (hne dx _ e3 (by simp)).trans e4, upd_same, fs_set (x := .dat d) (r : Rep K W.F W.ρ v d) (kf.kp (Same.refl _) (List.prefix_refl _) fun p g h => ⟨hne p _ h (by simp), h⟩)⟩
    · have ei : (st.S.set j (.ins c (putV f (.dat d) fs)))[i]? = some o' := ei
      rw [get_set_ne cc] at ei
      exact (I.obs i o' ei).kp (Same.refl _) (List.prefix_refl _) fun q t h z => ⟨hne q t h (by
        rcases z with z | z | ⟨g, z⟩
        · rw [z]; intro y; cases y; exact cc rfl
        · simp [z]
        · simp [z]), h⟩
/-- o.f = value -/
def setO (c f : Str) (ev : EV) (d : D) : M Fl := fun st => match obFs st c ev with
  | some (j, fs) => if fs.length < 1000 then .ok .nx { st with S := st.S.set j (.ins c (putV f (.dat d) fs)) } else .stuck
  | none => .stuck
def mFldS (c f : Str) (ma mv : M EV) : M Fl := fun st => (mv st).bind fun ev st1 => (toD ev st1).bind fun d st2 => (ma st2).bind fun a st3 => setO c f a d st3
theorem setO_ok {c f : Str} {ev : EV} {d : D} {st : St} {v y : V} {D : Ends} (I : Inv K cl W σ H st) (k : EvOk K W H σ v ev) (r : Rep K W.F W.ρ y d) (q : ResS K cl E W H (setO c f ev d st) D) : ∃ a dx vs, v = .ref a ∧ H a = some (.ins (cl.1 c) dx vs) ∧ vs.length < 1000 ∧ D.nx σ (upd H a (.ins (cl.1 c) dx (putF f y vs))) := by
  unfold setO at q
  split at q
  · rename_i j fs e
    split at q
    · rename_i hl
      obtain ⟨a, dx, vs, rfl, rfl, es, e1, e2, e3, e4, e5, kf⟩ := obFs_ok I k e
      refine ⟨a, dx, vs, rfl, e5, by rw [fs_len kf]; exact hl, ?_⟩
      exact q σ W _ (I.setFld es e1 e2 e3 e4 kf r) (Ext.mut e2 (by simp) (nofz e5 nofz_ins))
    · exact q.elim
  · exact q.elim
theorem sS_fld {c f : Str} {C : Addr} {tv : TE} {mv : M EV} (hC : cl.1 c = C) (kc : Cls K C) (na : NoAttr K C f) (ha : SimE K cl E ta ma) (hv : SimE K cl E tv mv) : SimS K cl E (sFld K ta tv f) (mFldS c f ma mv) := by
  subst hC
  intro W σ H st I D q
  refine hv W σ H st I _ (Res.imp (ResS.bind q) fun ev st1 W1 H1 _ I1 x1 q1 y k => ?_)
  obtain ⟨d, st2, W2, I2, x2, r, q2⟩ := toD_ok I1 k (ResS.bind q1)
  refine ha W2 σ H1 st2 I2 _ (Res.imp (ResS.bind q2) fun a st3 W3 H3 _ I3 x3 q3 v kv => ?_)
  obtain ⟨p, dx, vs, rfl, e5, hl, qq⟩ := setO_ok I3 kv (Rep.ext x3 r) q3
  exact ⟨p, _, dx, vs, rfl, e5, kc, na, hl, qq⟩
/-- o.f op= value -/
def mFldA (c f : Str) (g : D → D → Option D) (ma mv : M EV) : M Fl := fun st => (ma st).bind fun a st1 => match obFs st1 c a with
  | some (_, fs) => match fs.lookup f with
    | some (.dat x) => (mv st1).bind fun b st2 => match b with
      | .dat y => match g x y with
        | some z => setO c f a z st2
        | none => .stuck
      | _ => .stuck
    | _ => .stuck
  | none => .stuck
def AuOk (rd : V → V → Hp → VK → Prop) (g : D → D → Option D) : Prop := ∀ x y z, g x y = some z → ∃ vx vy vz, scV x = some vx ∧ scV y = some vy ∧ scV z = some vz ∧ ∀ H (Q : VK), Q vz H → rd vx vy H Q
theorem au_add : AuOk rAdd (iOp (fun _ _ => True) fun i j => .int (i + j)) := fun x y z e => by
  cases x <;> cases y <;> simp only [iOp, reduceCtorEq] at e
  simp only [if_pos, Option.some.injEq] at e
  subst e
  exact ⟨_, _, _, rfl, rfl, rfl, fun H Q q => ⟨_, _, rfl, rfl, q⟩⟩
theorem au_sub : AuOk rSub (iOp (fun _ _ => True) fun i j => .int (i - j)) := fun x y z e => by
  cases x <;> cases y <;> simp only [iOp, reduceCtorEq] at e
  simp only [if_pos, Option.some.injEq] at e
  subst e
  exact ⟨_, _, _, rfl, rfl, rfl, fun H Q q => ⟨_, _, rfl, rfl, q⟩⟩
theorem sS_fldA {c f : Str} {tv : TE} {mv : M EV} {rd : V → V → Hp → VK → Prop} {g : D → D → Option D} {C : Addr} (hC : cl.1 c = C) (kc : Cls K C) (na : NoAttr K C f) (hg : AuOk rd g) (ha : SimE K cl E ta ma) (hv : SimE K cl E tv mv) : SimS K cl E (sFldAug K ta tv rd f) (mFldA c f g ma mv) := by
  subst hC
  intro W σ H st I D q
  refine ha W σ H st I _ (Res.imp (ResS.bind q) fun a st1 W1 H1 _ I1 x1 q1 v k => ?_)
  split at q1
  · rename_i j fs e
    split at q1
    · rename_i x ef
      obtain ⟨p, dx, vs, rfl, rfl, es, _, _, _, _, e5, kf⟩ := obFs_ok I1 k e
      obtain ⟨u, hu, ku⟩ := fs_get kf ef
      refine ⟨p, _, dx, vs, u, rfl, e5, kc, na, hu, hv W1 σ H1 st1 I1 _ (Res.imp (ResS.bind q1) fun b st2 W2 H2 _ I2 x2 q2 vb kb => ?_)⟩
      split at q2
      · rename_i y _
        split at q2
        · rename_i z ez
          obtain ⟨vx, vy, vz, ex, ey, ed, kk⟩ := hg x y z ez
          rw [scV_rep ex ku, scV_rep ey kb]
          refine kk H2 _ ?_
          obtain ⟨p', dx', vs', ep, e5', hl, qq⟩ := setO_ok I2 (k.ext x2) (scV_mk ed) q2
          cases ep
          refine ⟨dx', vs', e5', hl, qq⟩
        · exact q2.elim
      · exact q2.elim
    · exact q1.elim
  · exact q1.elim
/-! ### a method -/
def obM (st : St) (c m : Str) (ev : EV) : Bool := match obFs st c ev with
  | some (_, fs) => (fs.lookup m).isNone
  | none => false
def mMeth0 (c nm : Str) (n : Nat) (m : Fn) (ma : M EV) (mt : M (List EV)) : M (EV ⊕ BX) := fun st => (ma st).bind fun a st1 => if obM st1 c nm a = true then (mt st1).bind fun evs st2 => callR n m (a :: evs) st2 else .stuck
def mMeth (c nm : Str) (n : Nat) (m : Fn) (ma : M EV) (mt : M (List EV)) : M EV := fun st => (mMeth0 c nm n m ma mt st).bind frzR
def mMethN (c nm : Str) (n : Nat) (m : Fn) (ma : M EV) (mt : M (List EV)) : M BX := fun st => (mMeth0 c nm n m ma mt st).bind newR
theorem obM_ok {st : St} {c m : Str} {ev : EV} {v : V} (I : Inv K cl W σ H st) (k : EvOk K W H σ v ev) (e : obM st c m ev = true) : ∃ a dx vs j, v = .ref a ∧ ev = .dat (.ob j) ∧ H a = some (.ins (cl.1 c) dx vs) ∧ vs.lookup m = none := by
  unfold obM at e
  split at e
  · rename_i j fs eo
    obtain ⟨a, dx, vs, rfl, rfl, es, e1, e2, e3, e4, e5, kf⟩ := obFs_ok I k eo
    exact ⟨a, dx, vs, j, rfl, rfl, e5, fs_none kf (by cases h : fs.lookup m with | none => rfl | some _ => rw [h] at e; cases e)⟩
  · cases e
end
section
variable {K : Frag} {E : Kv.Er → L2.St → Hp → Prop} {W : Wd} {σ : L2.St} {H : Hp} {ta tb tc : TE} {ma mb mc : M EV}
theorem sE_meth {c : Str → Addr} {xa C : Addr} {cn nm : Str} (hC : c cn = C) {ex : Kv.Er → Addr} {X : L2.St → XK} {n : Nat} {m : Fn} {t : TA} {mt : M (List EV)} (hE : ∀ e σ H, (∃ as bs S io S', m as bs S = .err e io S') → E e σ H → X σ (.ref (ex e)) none H) (ha : SimE K (c, xa, false) E ta ma) (ht : SimA K (c, xa, false) E t mt) :
    SimE K (c, xa, false) E (fun σ H Q => ta σ H fun x H1 => ∃ a dx fs, x = .ref a ∧ H1 a = some (.ins C dx fs) ∧ fs.lookup nm = none ∧ t σ H1 fun vs H2 => spM K c ex n m (x :: (vs ++ [])) H2 Q (X σ)) (mMeth cn nm n m ma mt) := by
  subst hC
  intro W σ H st I Q q
  unfold mMeth mMeth0 at q
  rw [R.bind_assoc] at q
  refine ha W σ H st I _ (Res.imp (Res.bind q) fun a st1 W1 H1 hm1 I1 x1 q1 v k => ?_)
  split at q1
  rotate_left
  · exact q1.elim
  rename_i hob
  obtain ⟨p, dx, fs, j, rfl, rfl, e5, hl⟩ := obM_ok I1 k hob
  refine ⟨p, dx, fs, rfl, e5, hl, ?_⟩
  rw [R.bind_assoc] at q1
  refine ht W1 σ H1 st1 I1 _ (Res.imp (Res.bind q1) fun evs st2 W2 H2 hm2 I2 x2 q2 vs ks fsr => ?_)
  rw [hm2] at q1
  have q : Res K (c, xa, false) E W1 σ H1 ((callR n m (.dat (.ob j) :: evs) st2).bind frzR) (fun ev _ W' H' => ∀ v, EvOk K W' H' σ v ev → Q v H') := q1
  refine call_ok (vs := .ref p :: vs) I1 I2 x2 (.cons (k.ext x2) ks) (.cons (fun b e => by cases e) fsr) (fun z => by rw [z] at q; exact q) (fun e st' z w W' H' I' x' => by rw [z] at q; exact hE e σ H' w (q W' H' I' x')) fun x st' W' H' v z I' x' _ k1 k2 => ?_
  rw [z] at q
  cases x with
  | inl ev => exact q W' H' I' x' v (k1 ev rfl)
  | inr b =>
    cases b with
    | dct _ => exact q.elim
    | fz _ => exact q.elim
    | lst ds =>
      obtain ⟨p, rfl, n1, n2, n3, us, e, r⟩ := k2 _ rfl
      exact q _ _ (I'.know e n3 n2) (x'.know n1 n2) _ (.lst (SqL.of upd_same) (r.mono (Kv.same_upd n2) (List.prefix_refl _)))
theorem sN_meth {c : Str → Addr} {xa C : Addr} {cn nm : Str} (hC : c cn = C) {ex : Kv.Er → Addr} {X : L2.St → XK} {n : Nat} {m : Fn} {t : TA} {mt : M (List EV)} (hE : ∀ e σ H, (∃ as bs S io S', m as bs S = .err e io S') → E e σ H → X σ (.ref (ex e)) none H) (ha : SimE K (c, xa, false) E ta ma) (ht : SimA K (c, xa, false) E t mt) :
    SimN K (c, xa, false) E (fun σ H Q => ta σ H fun x H1 => ∃ a dx fs, x = .ref a ∧ H1 a = some (.ins C dx fs) ∧ fs.lookup nm = none ∧ t σ H1 fun vs H2 => spM K c ex n m (x :: (vs ++ [])) H2 Q (X σ)) (mMethN cn nm n m ma mt) := by
  subst hC
  intro W σ H st I Q q
  unfold mMethN mMeth0 at q
  rw [R.bind_assoc] at q
  refine ha W σ H st I _ (Res.imp (Res.bind q) fun a st1 W1 H1 hm1 I1 x1 q1 v k => ?_)
  split at q1
  rotate_left
  · exact q1.elim
  rename_i hob
  obtain ⟨p, dx, fs, j, rfl, rfl, e5, hl⟩ := obM_ok I1 k hob
  refine ⟨p, dx, fs, rfl, e5, hl, ?_⟩
  rw [R.bind_assoc] at q1
  refine ht W1 σ H1 st1 I1 _ (Res.imp (Res.bind q1) fun evs st2 W2 H2 hm2 I2 x2 q2 vs ks fsr => ?_)
  rw [hm2] at q1
  have q : Res K (c, xa, false) E W1 σ H1 ((callR n m (.dat (.ob j) :: evs) st2).bind newR) (fun b _ W' H' => ∀ p, H p = none → W'.F p = none → W'.ow p = none → BxOk K W' H' p b → Q (.ref p) H') := q1
  refine call_ok (vs := .ref p :: vs) I1 I2 x2 (.cons (k.ext x2) ks) (.cons (fun b e => by cases e) fsr) (fun z => by rw [z] at q; exact q) (fun e st' z w W' H' I' x' => by rw [z] at q; exact hE e σ H' w (q W' H' I' x')) fun x st' W' H' v z I' x' _ k1 k2 => ?_
  rw [z] at q
  cases x with
  | inl ev => exact q.elim
  | inr b =>
    obtain ⟨p, rfl, n1, n2, n3, kb⟩ := k2 _ rfl
    exact q W' H' I' x' p (x1.lv p n1) n2 n3 kb
/-! ### a new object -/
def Wd.newO (W : Wd) (n : Nat) (x dx : Addr) : Wd := { W with ρ := W.ρ ++ [x], ow := fun p => if p = x then some (.ob n) else if p = dx then some (.dx n) else W.ow p }
theorem newO_ok {cl : (Str → Addr) × Addr × Bool} {st : St} {cn : Str} {x dx : Addr} (I : Inv K cl W σ H st) (hx : H x = none) (hd : H dx = none) (ne : dx ≠ x) :
    Inv K cl (W.newO st.S.length x dx) σ (upd (upd H dx (.own x)) x (.ins (cl.1 cn) dx [])) { st with S := st.S ++ [.ins cn []] } ∧ Ext W H (W.newO st.S.length x dx) (upd (upd H dx (.own x)) x (.ins (cl.1 cn) dx [])) := by
  obtain ⟨fx1, fx2⟩ := I.free hx
  obtain ⟨fd1, fd2⟩ := I.free hd
  have o1 : ∀ {p : Addr} {t : Tag}, W.ow p = some t → p ≠ x ∧ p ≠ dx := fun {p t} h => ⟨fun c => (by subst c; rw [fx1] at h; cases h), fun c => (by subst c; rw [fd1] at h; cases h)⟩
  have l1 : ∀ {p : Addr} {o : HO}, H p = some o → p ≠ x ∧ p ≠ dx := fun {p o} h => ⟨fun c => (by subst c; rw [hx] at h; cases h), fun c => (by subst c; rw [hd] at h; cases h)⟩
  have up : ∀ {p : Addr} {t : Tag}, W.ow p = some t → (W.newO st.S.length x dx).ow p = some t := fun {p t} h => by
    show (if p = x then _ else if p = dx then _ else W.ow p) = _
    rw [if_neg (o1 h).1, if_neg (o1 h).2]; exact h
  have dn : ∀ {p : Addr} {t : Tag}, (W.newO st.S.length x dx).ow p = some t → (p = x ∧ t = .ob st.S.length) ∨ (p = dx ∧ t = .dx st.S.length) ∨ W.ow p = some t := fun {p t} h => by
    have h : (if p = x then some (Tag.ob st.S.length) else if p = dx then some (.dx st.S.length) else W.ow p) = some t := h
    split at h
    · rename_i c; cases h; exact .inl ⟨c, rfl⟩
    · split at h
      · rename_i c; cases h; exact .inr (.inl ⟨c, rfl⟩)
      · exact .inr (.inr h)
  have hH : ∀ {p : Addr}, p ≠ x → p ≠ dx → upd (upd H dx (.own x)) x (.ins (cl.1 cn) dx []) p = H p := fun {p} a b => by rw [upd_ne a, upd_ne b]
  have rr : W.ρ <+: (W.newO st.S.length x dx).ρ := List.prefix_append W.ρ [x]
  refine ⟨⟨I.xeq, fun z p k h => ?_, fun p u e => ?_, fun p t h => ?_, fun p q t h h' n => ?_, I.len, fun i sv e => ?_, fun k b e => ?_, ?_, fun j o e => ?_⟩, ⟨Same.refl _, rr, fun p t h _ => up h, fun p o h _ => (hH (l1 h).1 (l1 h).2).trans h, fun p h => ?_, fun p o h n => ?_, fun p h => ?_, fun p o _ _ f => f, rfl⟩⟩
  · rcases dn h with ⟨_, c⟩ | ⟨_, c⟩ | h
    · cases c
    · cases c
    · exact I.nt z p k h
  · have e' := I.sub p u e
    exact (hH (l1 e').1 (l1 e').2).trans e'
  · rcases dn h with ⟨rfl, rfl⟩ | ⟨rfl, rfl⟩ | h
    · exact ⟨fx2, _, upd_same⟩
    · exact ⟨fd2, _, by rw [upd_ne ne, upd_same]⟩
    · obtain ⟨z, o, e⟩ := I.out p t h
      exact ⟨z, o, (hH (l1 e).1 (l1 e).2).trans e⟩
  · rcases dn h with ⟨_, rfl⟩ | ⟨_, rfl⟩ | h
    · cases n
    · cases n
    · rcases dn h' with ⟨_, rfl⟩ | ⟨_, rfl⟩ | h'
      · cases n
      · cases n
      · exact I.inj p q t h h' n
  · exact (I.slots i sv e).kp (W := W) (W' := W.newO st.S.length x dx) (Same.refl _) rr (fun p t h _ => up h) fun p h => ⟨hH (o1 h).1 (o1 h).2, up h⟩
  · obtain ⟨p, o, kb⟩ := I.ios k b e
    exact ⟨p, up o, kb.kp (W := W) (Same.refl _) rr (hH (o1 o).1 (o1 o).2)⟩
  · show (W.ρ ++ [x]).length = (st.S ++ [_]).length
    rw [List.length_append, List.length_append, I.rlen]; rfl
  · have e : (st.S ++ [Ob.ins cn []])[j]? = some o := e
    by_cases c : j < st.S.length
    · rw [List.getElem?_append_left c] at e
      exact (I.obs j o e).kp (W := W) (W' := W.newO st.S.length x dx) (Same.refl _) rr fun p t h _ => ⟨hH (o1 h).1 (o1 h).2, up h⟩
    · have hj : j = st.S.length := by
        have := (List.getElem?_eq_some_iff.mp e).1
        rw [List.length_append] at this
        simp at this; omega
      subst hj
      rw [List.getElem?_append_right (Nat.le_refl _), Nat.sub_self] at e
      cases e
      refine ⟨x, dx, [], ?_, ?_, ?_, ?_, upd_same, .nil⟩
      · show (W.ρ ++ [x])[st.S.length]? = _
        rw [← I.rlen, List.getElem?_append_right (Nat.le_refl _), Nat.sub_self]; rfl
      · show (if x = x then _ else _) = _
        rw [if_pos rfl]
      · show (if dx = x then _ else if dx = dx then _ else _) = _
        rw [if_neg ne, if_pos rfl]
      · rw [upd_ne ne, upd_same]
  · rcases dn h with ⟨_, c⟩ | ⟨_, c⟩ | h
    · cases c
    · cases c
    · exact h
  · show (if p = x then _ else if p = dx then _ else W.ow p) = _
    rw [if_neg (l1 h).1, if_neg (l1 h).2]; exact n
  · by_cases c : p = x
    · rw [c]; exact hx
    · by_cases c' : p = dx
      · rw [c']; exact hd
      · rw [hH c c'] at h; exact h
def madeR (k : Nat) : EV ⊕ BX → St → R EV
  | .inl (.dat .non), st => .ok (.dat (.ob k)) st
  | _, _ => .stuck
def mMake (cn : Str) (n : Nat) (m : Fn) (mt : M (List EV)) : M EV := fun st => (mt st).bind fun evs st1 => (callR n m (.dat (.ob st1.S.length) :: evs) { st1 with S := st1.S ++ [.ins cn []] }).bind (madeR st1.S.length)
theorem EvsOk.ext {W W' : Wd} {H H' : Hp} (x : Ext W H W' H') : ∀ {vs : List V} {evs : List EV}, EvsOk K W H σ vs evs → EvsOk K W' H' σ vs evs
  | _, _, .nil => .nil
  | _, _, .cons h t => .cons (h.ext x) (t.ext x)
theorem sE_make {c : Str → Addr} {xa C : Addr} {cn : Str} (hC : c cn = C) {ex : Kv.Er → Addr} {X : L2.St → XK} {n : Nat} {m : Fn} {t : TA} {mt : M (List EV)} (hE : ∀ e σ H, (∃ as bs S io S', m as bs S = .err e io S') → E e σ H → X σ (.ref (ex e)) none H) (ht : SimA K (c, xa, false) E t mt) :
    SimE K (c, xa, false) E (fun σ H Q => t σ H fun vs H1 => ∀ x dx, H1 x = none → H1 dx = none → dx ≠ x → spM K c ex n m (.ref x :: (vs ++ [])) (upd (upd H1 dx (.own x)) x (.ins C dx [])) (fun v H2 => v = .non ∧ Q (.ref x) H2) (X σ)) (mMake cn n m mt) := by
  subst hC
  intro W σ H st I Q q
  unfold mMake at q
  refine ht W σ H st I _ (Res.imp (Res.bind q) fun evs st1 W1 H1 hm1 I1 x1 q1 vs ks fsr x dx hx hd ne => ?_)
  rw [hm1] at q
  have q : Res K (c, xa, false) E W σ H ((callR n m (.dat (.ob st1.S.length) :: evs) { st1 with S := st1.S ++ [.ins cn []] }).bind (madeR st1.S.length)) (fun ev _ W' H' => ∀ v, EvOk K W' H' σ v ev → Q v H') := q
  obtain ⟨I2, x2⟩ := newO_ok (cn := cn) I1 hx hd ne
  have hr : (W1.newO st1.S.length x dx).ρ[st1.S.length]? = some x := by
    show (W1.ρ ++ [x])[st1.S.length]? = _
    rw [← I1.rlen, List.getElem?_append_right (Nat.le_refl _), Nat.sub_self]; rfl
  refine call_ok (vs := .ref x :: vs) I I2 (x1.trans x2) (.cons (ev := .dat (.ob st1.S.length)) (Rep.ob hr) (ks.ext x2)) (.cons (fun b e => by cases e) fsr) (fun z => by rw [z] at q; exact q) (fun e st' z w W' H' I' x' => by rw [z] at q; exact hE e σ H' w (q W' H' I' x')) fun y st' W' H' v z I' x' r k1 k2 => ?_
  rw [z] at q
  cases y with
  | inr b => exact q.elim
  | inl ev =>
    cases ev with
    | dat d =>
      cases d with
      | non =>
        cases k1 _ rfl
        exact ⟨rfl, q W' H' I' x' _ (Rep.mono (Same.refl _) r (.ob hr))⟩
      | _ => exact q.elim
    | _ => exact q.elim
/-- .. in a body whose errors are caught -/
def tMethT (C : Addr) (m : Str) (sp : Sp) (E : L2.St → XK) (ta : TE) (t : TA) : TE := fun σ H Q => ta σ H fun x H1 => ∃ a dx fs, x = .ref a ∧ H1 a = some (.ins C dx fs) ∧ fs.lookup m = none ∧ t σ H1 fun vs H2 => sp (x :: vs) H2 Q (E σ)
theorem sE_methT {c : Str → Addr} {xa C : Addr} {cn nm : Str} (hC : c cn = C) {ex : Kv.Er → Addr} {X : L2.St → XK} {n : Nat} {m : Fn} {t : TA} {mt : M (List EV)} (hE : ∀ e σ H, (∃ as bs S io S', m as bs S = .err e io S') → E e σ H → X σ (.ref (ex e)) none H) (ha : SimE K (c, xa, false) E ta ma) (ht : SimA K (c, xa, false) E t mt) : SimE K (c, xa, false) E (tMethT C nm (spM K c ex n m) X ta t) (mMeth cn nm n m ma mt) := by
  have := sE_meth (nm := nm) (X := X) (ex := ex) (n := n) hC hE ha ht
  simp only [List.append_nil] at this
  exact this
section
variable {X : Cx} {CX : CXT} {k : Nat} {f C : Addr} {fd : FuncData} {ps : List Str} {sp : Sp} {EE : L2.St → XK} {m : Str} {pos apos : Pos} {e o : Expr} {es : List Expr} {t : TA}
theorem pe_methT {pl : Sem Bool} (he : PE X o ta) (c : Cls X.K C) (hm : Meth X.K C m f) (F : FnOk X.prog X.w X.K X.mg X.base CX k f fd ps sp) (hr : Room k X.A) (hb : Binds X.K fd ps []) (hx : ∀ σ, PassesAt CX X σ (EE σ)) (ha : PA X (e :: es) t)
    (hst : starEach (e :: es) X.env = (false, eval e X.env) :: starEach es X.env := by rfl) (hpl : (backTo pos (starEach es X.env)).any (·.1) = false := by rfl)
    (ht : eval (.Call (.Attribute o m apos) (e :: es) [] pos) X.env = (do
      let ov ← eval o X.env
      standAt apos.atName
      let (f, first) ← holding [ov] (getMethod ov m pl)
      callWith pos f first (backTo pos (starEach (e :: es) X.env)) (backToKw pos (keywordEach [] X.env))) := by rfl) :
    PE X (.Call (.Attribute o m apos) (e :: es) [] pos) (tMethT C m sp EE ta t) := by
  refine ⟨fun pins s σ H Q I h => ?_⟩
  refine PySem.W.methodCall_KW (pl := pl) (thn (he.run pins s σ H _ I h) fun u s1 ⟨x, H1, I1, rx, a, dx, fs, ex, ea, l, q⟩ => ?_) ht
  subst ex
  obtain rfl : u = Value.ref a := rx
  refine getmeth_ok I1 ea c hm l ?_
  refine PySem.W.callWith_K (first := [.ref a]) (h₀ := X.base) I.ok.mod.kin hm.kp (thn (ha.run pos pins s1 σ H1 _ I1 q) fun us s2 ⟨vs, H2, I2, r, q2⟩ => ⟨I2.kIn, ?_⟩) hst hpl
  exact run_fnS (us := .ref a :: us) (vs := .ref a :: vs) F hr hb (hx σ) I2 (.cons rfl r) q2
end
end
section
variable {K : Frag} {cl : (Str → Addr) × Addr × Bool} {E : Kv.Er → L2.St → Hp → Prop} {W : Wd} {σ : L2.St} {H : Hp} {ta tb tc : TE} {ma mb mc : M EV}
/-! ### a list or dict of its own place -/
def Wd.newB (W : Wd) (n : Nat) (x : Addr) : Wd := { W with ρ := W.ρ ++ [x], ow := fun p => if p = x then some (.ob n) else W.ow p }
theorem newB_ok {st : St} {x : Addr} {b : BX} {W0 : Wd} {H0 : Hp} (I : Inv K cl W σ H st) (x0 : Ext W0 H0 W H) (n0 : H0 x = none) (z1 : W.F x = none) (z2 : W.ow x = none) (kb : BxOk K W H x b) :
    Inv K cl (W.newB st.S.length x) σ H { st with S := st.S ++ [.bx b] } ∧ Ext W0 H0 (W.newB st.S.length x) H ∧ (W.newB st.S.length x).ρ[st.S.length]? = some x := by
  obtain ⟨u, hu⟩ : ∃ u, H x = some u := by
    cases b with
    | lst ds => obtain ⟨vs, e, _⟩ := kb; exact ⟨_, e⟩
    | dct ds => obtain ⟨vs, e, _⟩ := kb; exact ⟨_, e⟩
    | fz ds => obtain ⟨_, vs, e, _⟩ := kb; exact ⟨_, e⟩
  have o1 : ∀ {p : Addr} {t : Tag}, W.ow p = some t → p ≠ x := fun {p t} h c => by subst c; rw [z2] at h; cases h
  have up : ∀ {p : Addr} {t : Tag}, W.ow p = some t → (W.newB st.S.length x).ow p = some t := fun {p t} h => by
    show (if p = x then _ else W.ow p) = _
    rw [if_neg (o1 h)]; exact h
  have dn : ∀ {p : Addr} {t : Tag}, (W.newB st.S.length x).ow p = some t → (p = x ∧ t = .ob st.S.length) ∨ W.ow p = some t := fun {p t} h => by
    have h : (if p = x then some (Tag.ob st.S.length) else W.ow p) = some t := h
    split at h
    · rename_i c; cases h; exact .inl ⟨c, rfl⟩
    · exact .inr h
  have rr : W.ρ <+: (W.newB st.S.length x).ρ := List.prefix_append W.ρ [x]
  have hr : (W.newB st.S.length x).ρ[st.S.length]? = some x := by
    show (W.ρ ++ [x])[st.S.length]? = _
    rw [← I.rlen, List.getElem?_append_right (Nat.le_refl _), Nat.sub_self]; rfl
  refine ⟨⟨I.xeq, fun z p k h => ?_, I.sub, fun p t h => ?_, fun p q t h h' n => ?_, I.len, fun i sv e => ?_, fun k b e => ?_, ?_, fun j o e => ?_⟩, ⟨x0.sF, x0.rr.trans rr, fun p t h n => up (x0.ow p t h n), x0.un, fun p h => ?_, fun p o h n => ?_, x0.lv, x0.fz, x0.xa⟩, hr⟩
  · rcases dn h with ⟨_, c⟩ | h
    · cases c
    · exact I.nt z p k h
  · rcases dn h with ⟨rfl, rfl⟩ | h
    · exact ⟨z1, _, hu⟩
    · exact I.out p t h
  · rcases dn h with ⟨_, rfl⟩ | h
    · cases n
    · rcases dn h' with ⟨_, rfl⟩ | h'
      · cases n
      · exact I.inj p q t h h' n
  · exact (I.slots i sv e).kp (W := W) (W' := W.newB st.S.length x) (Same.refl _) rr (fun p t h _ => up h) fun p h => ⟨rfl, up h⟩
  · obtain ⟨p, o, kb⟩ := I.ios k b e
    exact ⟨p, up o, kb.kp (W := W) (Same.refl _) rr rfl⟩
  · show (W.ρ ++ [x]).length = (st.S ++ [_]).length
    rw [List.length_append, List.length_append, I.rlen]; rfl
  · have e : (st.S ++ [Ob.bx b])[j]? = some o := e
    by_cases c : j < st.S.length
    · rw [List.getElem?_append_left c] at e
      exact (I.obs j o e).kp (W := W) (W' := W.newB st.S.length x) (Same.refl _) rr fun p t h _ => ⟨rfl, up h⟩
    · have hj : j = st.S.length := by
        have := (List.getElem?_eq_some_iff.mp e).1
        rw [List.length_append] at this
        simp at this; omega
      subst hj
      rw [List.getElem?_append_right (Nat.le_refl _), Nat.sub_self] at e
      cases e
      refine ⟨x, hr, ?_, kb.kp (W := W) (Same.refl _) rr rfl⟩
      show (if x = x then _ else _) = _
      rw [if_pos rfl]
  · rcases dn h with ⟨_, c⟩ | h
    · cases c
    · exact x0.xt p h
  · show (if p = x then _ else W.ow p) = _
    rw [if_neg (fun c => by subst c; rw [n0] at h; cases h)]; exact x0.nw p o h n
def mBox (mn : M BX) : M EV := fun st => (mn st).bind fun b st1 => .ok (.dat (.ob st1.S.length)) { st1 with S := st1.S ++ [.bx b] }
theorem sE_box {te : TE} {mn : M BX} (h : SimN K cl E te mn) : SimE K cl E te (mBox mn) := by
  intro W σ H st I Q q
  unfold mBox at q
  refine h W σ H st I _ (Res.imp (Res.bind q) fun b st1 W1 H1 hm1 I1 x1 q1 p np z1 z2 k => ?_)
  rw [hm1] at q
  obtain ⟨I2, x2, hr⟩ := newB_ok I1 x1 np z1 z2 k
  exact q _ _ I2 x2 _ (Rep.ob hr)
/-! ### a new list is changed, and dropped -/
theorem Inv.mut0 {st : St} {p : Addr} {o o' : HO} (I : Inv K cl W σ H st) (h : H p = some o) (z1 : W.F p = none) (z2 : W.ow p = none) : Inv K cl W σ (upd H p o') st := by
  have hne : ∀ q t, W.ow q = some t → upd H p o' q = H q := fun q t e => by
    have c : q ≠ p := fun c => by subst c; rw [z2] at e; cases e
    exact upd_ne c
  refine ⟨I.xeq, I.nt, sub_upd I.sub z1, out_upd I, I.inj, I.len, fun j sv ej => (I.slots j sv ej).kp (Same.refl _) (List.prefix_refl _) (fun _ _ h _ => h) fun q h => ⟨hne q _ h, h⟩, fun k b e => ?_, I.rlen, fun j o e => (I.obs j o e).kp (Same.refl _) (List.prefix_refl _) fun q t h _ => ⟨hne q t h, h⟩⟩
  obtain ⟨q, h, k2⟩ := I.ios k b e
  exact ⟨q, h, k2.kp (Same.refl _) (List.prefix_refl _) (hne q _ h)⟩
def mMutN (f : List D → List D → Option (List D × D)) (mn : M BX) (mt : M (List EV)) : M EV := fun st => (mn st).bind fun b st1 => match b with
  | .lst xs => (mt st1).bind fun evs st2 => match dats evs with
    | some ys => match f xs ys with
      | some (_, d) => .ok (.dat d) st2
      | none => .stuck
    | none => .stuck
  | _ => .stuck
theorem sE_mutN {r : V → List V → Hp → VK → Prop} {f : List D → List D → Option (List D × D)} {mn : M BX} {t : TA} {mt : M (List EV)} (hr : PkMut K r f) (ha : SimN K cl E ta mn) (ht : SimA K cl E t mt) : SimE K cl E (tBM K "list" r ta t) (mMutN f mn mt) := by
  intro W σ H st I Q q
  unfold mMutN at q
  refine ha W σ H st I _ (Res.imp (Res.bind q) fun b st1 W1 H1 hm1 I1 x1 q1 p np z1 z2 k => ?_)
  rw [hm1] at q
  cases b with
  | dct _ => exact q1.elim
  | fz _ => exact q1.elim
  | lst xs =>
    obtain ⟨vs, h0, r0⟩ := k
    refine ⟨.inl ⟨rfl, vs, SqL.of h0⟩, ht W1 σ H1 st1 I1 _ (Res.imp (Res.bind q1) fun evs st2 W2 H2 hm2 I2 x2 q2 us ks _ => ?_)⟩
    have q : Res K cl E W σ H ((mt st1).bind fun evs st2 => match dats evs with
      | some ys => match f xs ys with
        | some (_, d) => .ok (.dat d) st2
        | none => .stuck
      | none => .stuck) (fun ev _ W' H' => ∀ v, EvOk K W' H' σ v ev → Q v H') := q
    rw [hm2] at q
    replace q : Res K cl E W σ H (match dats evs with
      | some ys => match f xs ys with
        | some (_, d) => .ok (.dat d) st2
        | none => .stuck
      | none => .stuck) (fun ev _ W' H' => ∀ v, EvOk K W' H' σ v ev → Q v H') := q
    split at q
    · rename_i ys ey
      split at q
      · rename_i zs d ez
        have h2 : H2 p = some (.lst vs) := x2.un p _ h0 (.inl z2)
        obtain ⟨ws, v, rw1, rv, kk⟩ := hr W2 H2 p vs xs us ys _ d I2.sub h2 (r0.ext x2) (dats_ok ks ey) ez
        have w1 := x2.nw p _ h0 z2
        have w2 := x2.fz p _ h0 z2 z1
        have x12 := x1.trans x2
        refine kk Q (q W2 _ (I2.mut0 h2 w2 w1) ⟨x12.sF, x12.rr, x12.ow, fun a o h z => ?_, x12.xt, x12.nw, fun a h => ?_, x12.fz, x12.xa⟩ v rv)
        · have c : a ≠ p := fun c => by subst c; rw [np] at h; cases h
          rw [upd_ne c]; exact x12.un a o h z
        · by_cases c : a = p
          · subst c; rw [upd_same] at h; cases h
          · rw [upd_ne c] at h; exact x12.lv a h
      · exact q.elim
    · exact q.elim
end
/-! ### a list, some times over -/
section
open PySem.SeqAt
open AutoSeq1 (wpAny_loadPart')
theorem rmulW (a : Int) (t : Tok) (l : Addr) (items : Array Value) (n : Nat) (dd : Option Addr) (sl : Array (Option Value)) :
    Meets (Builtin.«int.__rmul__» ⟨[.int a t, .ref l], []⟩) (fun _ R s => s.heap.get? l = some { cls := .type "list", dict := dd, data := .seq items n, slots := sl } ∧ R (.ok (.ret Value.notImplemented)) s) :=
  .of_wp fun prog w A R s h => by obtain ⟨hp, g, d, tk, os⟩ := s; obtain ⟨hl, h⟩ := h; wp_walk using wpAny_loadPart' hl; exact ⟨_, rfl, h⟩
theorem mulW (l : Addr) (items : Array Value) (n : Nat) (x : Int) (u : Tok) (dd : Option Addr) (sl : Array (Option Value)) (hc0 : ¬(!Builtin.List.listFitsIndex x) = true) (hc1 : ¬items.size * x.toNat > (2 ^ 63 - 1) / 8) (hc2 : ¬Builtin.List.listTooLong (items.size * x.toNat) = true) :
    Meets (Builtin.«list.__mul__» ⟨[.ref l, .int x u], []⟩) (fun _ R s => s.heap.get? l = some { cls := .type "list", dict := dd, data := .seq items n, slots := sl } ∧ R (.ok (.ret (Value.ref s.heap.objs.size))) { s with heap := s.heap.push { cls := Value.type "list", data := Data.seq (List.foldl (fun x1 x2 => x1 ++ x2) #[] (List.replicate (if items.isEmpty = true then 0 else x.toNat) items)) }, toks := s.toks }) :=
  .of_wp fun prog w A R s h => by
    obtain ⟨hp, g, d, tk, os⟩ := s; obtain ⟨hl, h⟩ := h
    have hsz := AutoListH.joined_fits hc2
    wp_walk using wpAny_loadPart' hl; refine wpAny_ite_false (decide_eq_false (Nat.not_lt.mpr hsz)) ?_; wp_walk using wpAny_loadPart' hl; exact ⟨_, rfl, h⟩
variable {X : Cx}
def rRepS (K : Frag) : R2 := fun x y H Q => ∃ l k xs, x = .ref l ∧ y = .int k ∧ SqL K H l xs ∧ -(2 ^ 63) ≤ k ∧ k < 2 ^ 63 ∧ xs.length * k.toNat ≤ sizeLine ∧ ∀ p, H p = none → Q (.ref p) (upd H p (.lst (List.replicate k.toNat xs).flatten))
theorem op_repS : OpR X (binaryOp .Mult) (rRepS X.K) := by
  intro pins s σ H x y v u Q I rx ry h
  obtain ⟨l, k, xs, rfl, rfl, hl, h1, h2, hz, q⟩ := h
  cases rx
  obtain ⟨t, rfl⟩ := ry
  obtain ⟨its, r, p1, z1⟩ := I.list hl
  obtain ⟨⟨c1, d1, t1, w1⟩, n1, g1, k1, m1, j1⟩ := p1
  dsimp only at k1 m1 j1
  subst k1 m1 j1
  have hl := r.length
  have hlen : its.toArray.size * k.toNat ≤ sizeLine := by rw [List.size_toArray, ← hl]; exact hz
  have hcap : ¬ its.toArray.size * k.toNat > (2 ^ 63 - 1) / 8 := by
    have : (sizeLine : Nat) ≤ (2 ^ 63 - 1) / 8 := by decide
    omega
  have hfit : ¬ (!Builtin.List.listFitsIndex k) = true := by
    rw [fitsIndex_both h1 h2]
    exact Bool.false_ne_true
  have hlong : ¬ Builtin.List.listTooLong (its.toArray.size * k.toNat) = true := by
    rw [notLongL hlen]
    exact Bool.false_ne_true
  have hnew : List.foldl (fun x1 x2 => x1 ++ x2) #[] (List.replicate (if its.toArray.isEmpty = true then 0 else k.toNat) its.toArray) = (List.replicate k.toNat its).flatten.toArray := by
    have f0 : ∀ m : Nat, List.foldl (fun x1 x2 => x1 ++ x2) #[] (List.replicate m its.toArray) = (List.replicate m its).flatten.toArray := fun m => by
      have := foldl_rep its m []
      rw [List.nil_append] at this
      exact this
    rw [f0]
    cases its with
    | nil => simp
    | cons a r' => rw [if_neg (by simp)]
  refine wpAny_binaryOp_repeat_ref (T := "list") (U := "int") (by decide) ⟨_, g1, rfl⟩ (fun s' => typeIs_int s' k t) noFill_list_mul F.fills_int_mul F.slot_int_rmul repeat_list F.slot_int_index.lookup
    (call_meets F.slot_int_rmul (typeIs_int s k t) F.entry_int_rmul (F.args_int_rmul_2 _ _) (rmulW k t l its.toArray n1 none w1)
      ⟨g1, rfl, ⟨_, g1, rfl⟩, call_meets F.slot_list_mul ⟨_, g1, rfl⟩ F.entry_list_mul (F.args_list_mul_2 _ _) (mulW l its.toArray n1 k t none w1 hfit hcap hlong) ⟨g1, ?_⟩⟩)
  rw [hnew]
  exact ⟨.ref _, _, I.lnew (t' := s.toks) (r.rep k.toNat) (by rw [PyProof.Rows.lm_len_rep_flat, Nat.mul_comm]; exact hz), rfl, q _ I.fresh⟩
def fRepL : D → D → Option (List D)
  | .lst xs, .int k => if -(2 ^ 63) ≤ k ∧ k < 2 ^ 63 ∧ xs.length * k.toNat ≤ sizeLine then some (List.replicate k.toNat xs).flatten else none
  | _, _ => none
theorem RepL.flat {K : Frag} {F : Hp} {ρ : List Addr} {vs : List V} {ds : List D} (r : RepL K F ρ vs ds) : ∀ n : Nat, RepL K F ρ (List.replicate n vs).flatten (List.replicate n ds).flatten
  | 0 => .nil
  | n + 1 => by
    rw [List.replicate_succ, List.replicate_succ, List.flatten_cons, List.flatten_cons]
    exact r.append (RepL.flat r n)
theorem pk_repL {K : Frag} : PkN2 K (rRepS K) fRepL := by
  intro W H vx vy x y d s kx ky e
  unfold fRepL at e
  split at e
  · split at e
    · rename_i c
      cases e
      obtain ⟨a, vs, rfl, q, r⟩ := kx
      cases ky
      exact ⟨_, r.flat _, fun Q h => ⟨a, _, vs, rfl, rfl, q, c.1, c.2.1, by rw [r.len]; exact c.2.2, h⟩⟩
    · cases e
  · cases e
end
end Mi

set_option Elab.async false
set_option linter.all false
set_option maxRecDepth 100000
set_option maxHeartbeats 4000000
namespace Mi
open PySem PySem.Spec PyProof.Rows L2
/-! ### objects, read by hand -/
theorem ex_pr {α β : Type} {a : α} {b : β} {P : α → β → Prop} : (∃ x y, some (a, b) = some (x, y) ∧ P x y) = P a b := propext ⟨fun ⟨_, _, e, h⟩ => by cases e; exact h, fun h => ⟨_, _, rfl, h⟩⟩
theorem ex_pn {α β : Type} {P : α → β → Prop} : (∃ x y, (none : Option (α × β)) = some (x, y) ∧ P x y) = False := propext ⟨fun ⟨_, _, e, _⟩ => (by cases e), fun h => h.elim⟩
section
variable {k : EV → St → Prop} {kx : BX → St → Prop} {kf : Fl → St → Prop} {e : Kv.Er → St → Prop} {st : St} {ma mv : M EV} {ml mt : M (List EV)} {mn : M BX} {c f nm : Str} {n : Nat} {m : Fn}
theorem rp_fld : Rp (mFld c f ma st) k e = Rp (ma st) (fun a st1 => ∃ j fs, obFs st1 c a = some (j, fs) ∧ ∃ d, fs.lookup f = some (.dat d) ∧ k (.dat d) st1) e := by
  unfold mFld
  rw [rp_bind]
  congr 1
  funext a st1
  cases h : obFs st1 c a with
  | none => rw [ex_pn]; rfl
  | some x =>
    obtain ⟨j, fs⟩ := x
    rw [ex_pr]
    dsimp only
    cases h2 : fs.lookup f with
    | none => simp [Rp]
    | some v => cases v <;> simp [Rp]
theorem rp_setO {a : EV} {d : D} : Rp (setO c f a d st) kf e = ∃ j fs, obFs st c a = some (j, fs) ∧ fs.length < 1000 ∧ kf .nx { st with S := st.S.set j (.ins c (putV f (.dat d) fs)) } := by
  unfold setO
  cases h : obFs st c a with
  | none => rw [ex_pn]; rfl
  | some x =>
    obtain ⟨j, fs⟩ := x
    rw [ex_pr]
    dsimp only
    by_cases h2 : fs.length < 1000
    · rw [if_pos h2]; simp [Rp, h2]
    · rw [if_neg h2]; simp [Rp, h2]
theorem rp_fldS : Rp (mFldS c f ma mv st) kf e = Rp (mv st) (fun ev st1 => Rp (toD ev st1) (fun d st2 => Rp (ma st2) (fun a st3 => ∃ j fs, obFs st3 c a = some (j, fs) ∧ fs.length < 1000 ∧ kf .nx { st3 with S := st3.S.set j (.ins c (putV f (.dat d) fs)) }) e) e) e := by
  unfold mFldS
  simp only [rp_bind, rp_setO]
theorem rp_augO {g : D → D → Option D} {a b : EV} {x : D} : Rp ((match b with
          | .dat y => match g x y with
            | some z => setO c f a z st
            | none => .stuck
          | _ => .stuck : R Fl)) kf e = ∃ y, b = .dat y ∧ ∃ z, g x y = some z ∧ ∃ j' fs', obFs st c a = some (j', fs') ∧ fs'.length < 1000 ∧ kf .nx { st with S := st.S.set j' (.ins c (putV f (.dat z) fs')) } := by
  cases b with
  | dat y =>
    simp only [EV.dat.injEq, exists_eq_left']
    cases hg : g x y with
    | none => simp [Rp]
    | some z => simp only [Option.some.injEq, exists_eq_left']; exact rp_setO
  | _ => simp [Rp]
theorem rp_fldA {g : D → D → Option D} : Rp (mFldA c f g ma mv st) kf e = Rp (ma st) (fun a st1 => ∃ j fs, obFs st1 c a = some (j, fs) ∧ ∃ x, fs.lookup f = some (.dat x) ∧ Rp (mv st1) (fun b st2 => ∃ y, b = .dat y ∧ ∃ z, g x y = some z ∧ ∃ j' fs', obFs st2 c a = some (j', fs') ∧ fs'.length < 1000 ∧ kf .nx { st2 with S := st2.S.set j' (.ins c (putV f (.dat z) fs')) }) e) e := by
  unfold mFldA
  rw [rp_bind]
  congr 1
  funext a st1
  cases h : obFs st1 c a with
  | none => rw [ex_pn]; rfl
  | some x =>
    obtain ⟨j, fs⟩ := x
    rw [ex_pr]
    dsimp only
    cases h2 : fs.lookup f with
    | none => simp [Rp]
    | some v =>
      cases v with
      | bx b => simp [Rp]
      | dat x =>
        simp only [Option.some.injEq, FV.dat.injEq, exists_eq_left', rp_bind]
        congr 1
        funext b st2
        exact rp_augO
theorem rp_box : Rp (mBox mn st) k e = Rp (mn st) (fun b st1 => k (.dat (.ob st1.S.length)) { st1 with S := st1.S ++ [.bx b] }) e := by
  unfold mBox
  rw [rp_bind]
  rfl
theorem rp_meth : Rp (mMeth c nm n m ma mt st) k e = Rp (ma st) (fun a st1 => obM st1 c nm a = true ∧ Rp (mt st1) (fun evs st2 => Rp (callR n m (a :: evs) st2) (fun x st3 => Rp (frzR x st3) k e) e) e) e := by
  unfold mMeth mMeth0
  rw [rp_bind, rp_bind]
  congr 1
  funext a st1
  by_cases h : obM st1 c nm a = true
  · simp only [h, if_true, true_and, rp_bind]
  · simp [h, Rp]
theorem rp_methN : Rp (mMethN c nm n m ma mt st) kx e = Rp (ma st) (fun a st1 => obM st1 c nm a = true ∧ Rp (mt st1) (fun evs st2 => Rp (callR n m (a :: evs) st2) (fun x st3 => Rp (newR x st3) kx e) e) e) e := by
  unfold mMethN mMeth0
  rw [rp_bind, rp_bind]
  congr 1
  funext a st1
  by_cases h : obM st1 c nm a = true
  · simp only [h, if_true, true_and, rp_bind]
  · simp [h, Rp]
theorem rp_make : Rp (mMake c n m mt st) k e = Rp (mt st) (fun evs st1 => Rp (callR n m (.dat (.ob st1.S.length) :: evs) { st1 with S := st1.S ++ [.ins c []] }) (fun x st2 => x = .inl (.dat .non) ∧ k (.dat (.ob st1.S.length)) st2) e) e := by
  unfold mMake
  rw [rp_bind]
  congr 1
  funext evs st1
  rw [rp_bind]
  congr 1
  funext x st2
  cases x with
  | inr b => simp [madeR, Rp]
  | inl ev =>
    cases ev with
    | dat d => cases d <;> simp [madeR, Rp]
    | _ => simp [madeR, Rp]
theorem rp_mutN {g : List D → List D → Option (List D × D)} : Rp (mMutN g mn mt st) k e = Rp (mn st) (fun b st1 => ∃ xs, b = .lst xs ∧ Rp (mt st1) (fun evs st2 => ∃ ys, dats evs = some ys ∧ ∃ z d, g xs ys = some (z, d) ∧ k (.dat d) st2) e) e := by
  unfold mMutN
  rw [rp_bind]
  congr 1
  funext b st1
  cases b with
  | dct _ => simp [Rp]
  | fz _ => simp [Rp]
  | lst xs =>
    simp only [BX.lst.injEq, exists_eq_left', rp_bind]
    congr 1
    funext evs st2
    cases h : dats evs with
    | none => simp [Rp]
    | some ys =>
      simp only [Option.some.injEq, exists_eq_left']
      cases h2 : g xs ys with
      | none => simp [Rp]
      | some x => obtain ⟨z, d⟩ := x; exact (ex_pr (P := fun _ d => k (.dat d) st2)).symm
end
/-- fields of an object, by what the objects are -/
def obS (S : List Ob) (c : Str) (ev : EV) : Option (Nat × List (Str × FV)) := match ev with
  | .dat (.ob j) => match S[j]? with
    | some (.ins c' fs) => if c' = c then some (j, fs) else none
    | _ => none
  | _ => none
theorem obFs_S {st : St} {c : Str} {ev : EV} : obFs st c ev = obS st.S c ev := rfl
theorem obS_of {S : List Ob} {c : Str} {j : Nat} {fs : List (Str × FV)} (h : S[j]? = some (.ins c fs)) : obS S c (.dat (.ob j)) = some (j, fs) := by
  unfold obS
  dsimp only
  rw [h]
  dsimp only
  rw [if_pos rfl]
theorem obF_of {st : St} {c : Str} {j : Nat} {fs : List (Str × FV)} (h : st.S[j]? = some (.ins c fs)) : obFs st c (.dat (.ob j)) = some (j, fs) := obS_of h
theorem obM_of {st : St} {c m : Str} {j : Nat} {fs : List (Str × FV)} (h : st.S[j]? = some (.ins c fs)) (hm : fs.lookup m = none) : obM st c m (.dat (.ob j)) = true := by
  unfold obM
  rw [obFs_S, obS_of h]
  dsimp only
  rw [hm]
  rfl
theorem peek_ob {st : St} {j : Nat} {ds : List D} (h : st.S[j]? = some (.bx (.lst ds))) : peek st (.dat (.ob j)) = some (.lst ds) := by
  unfold peek
  dsimp only
  rw [h]
theorem add_ii {x y : Int} : fAdd (.int x) (.int y) = some (.int (x + y)) := by
  simp [iOp]
theorem sub_ii {x y : Int} : fSub (.int x) (.int y) = some (.int (x - y)) := by
  simp [iOp]
theorem gt_ii {x y : Int} : fGt (.int x) (.int y) = some (.bl (decide (y < x))) := by
  simp [iOp]
/-- a call, as a value -/
theorem call_val {n : Nat} {m : Fn} {ml : M (List EV)} {evs : List EV} {st st1 : St} {as : List AV} {hs : List EV} {bs io : List BX} {S : List Ob} {d : D} (h1 : ml st = .ok evs st1) (hm : m as bs st1.S = .ok (.dat d) io S) (hsp : splitA st1 0 evs = some (as, hs, bs)) (hn : as.length = n) (hnd : (tagsOf hs).Nodup) (hl : io.length = hs.length) : mCall n m ml st = .ok (.dat d) (mPut hs st1 io S) := by
  unfold mCall mCall0
  rw [h1]
  show (callR n m evs st1).bind frzR = _
  unfold callR
  rw [hsp]
  dsimp only
  rw [if_pos ⟨hnd, hn⟩, hm]
  dsimp only
  rw [if_pos hl]
  rfl
section
variable {vs : List Nat} {chk : St → Prop} {mg : EV → M Unit} {mt : M Bool} {me : M EV} {acc : List D} {kl : List D → St → Prop} {e : Kv.Er → St → Prop} {st : St}
theorem rp_lcN [∀ st, Decidable (chk st)] (h : chk (st.wiped vs)) (hk : kl acc st) : Rp (lcL vs chk mg mt me [] acc st) kl e := by
  unfold lcL
  rw [if_pos h]
  exact hk
theorem rp_lcC [∀ st, Decidable (chk st)] {d : D} {r : List D} (h : chk (st.wiped vs)) (hk : Rp (mg (.dat d) (st.wiped vs)) (fun _ st1 => Rp (mt st1) (fun b st2 => if b = true then Rp (me st2) (fun ev st3 => Rp (toD ev st3) (fun x st4 => acc.length < sizeLine ∧ Rp (lcL vs chk mg mt me r (acc ++ [x]) st4) kl e) e) e else Rp (lcL vs chk mg mt me r acc st2) kl e) e) e) : Rp (lcL vs chk mg mt me (d :: r) acc st) kl e := by
  unfold lcL
  rw [if_pos h]
  simp only [rp_bind]
  refine rp_imp hk (fun _ st1 h1 => rp_imp h1 (fun b st2 h2 => ?_) fun _ _ z => z) fun _ _ z => z
  by_cases c : b = true
  · rw [if_pos c] at h2 ⊢
    simp only [rp_bind]
    refine rp_imp h2 (fun ev st3 h3 => rp_imp h3 (fun x st4 h4 => ?_) fun _ _ z => z) fun _ _ z => z
    rw [if_pos h4.1]
    exact h4.2
  · rw [if_neg c] at h2 ⊢
    exact h2
/-- over what is left, with a filter -/
theorem rp_lcFl {ins : ∀ st, Decidable (chk st)} (I : List D → List D → St → Prop) (hc : ∀ r acc st, I r acc st → chk (st.wiped vs)) (hs : ∀ d r acc st, I (d :: r) acc st → Rp (mg (.dat d) (st.wiped vs)) (fun _ st1 => Rp (mt st1) (fun b st2 => if b = true then Rp (me st2) (fun ev st3 => Rp (toD ev st3) (fun x st4 => acc.length < sizeLine ∧ I r (acc ++ [x]) st4) (fun _ _ => False)) (fun _ _ => False) else I r acc st2) (fun _ _ => False)) (fun _ _ => False)) (hd : ∀ acc st, I [] acc st → kl acc st) : ∀ (ds acc : List D) (st : St), I ds acc st → Rp (lcL vs chk mg mt me ds acc st) kl (fun _ _ => False)
  | [], acc, st, h => rp_lcN (hc _ _ _ h) (hd _ _ h)
  | d :: r, acc, st, h => by
    refine rp_lcC (hc _ _ _ h) ?_
    refine rp_imp (hs d r acc st h) (fun _ st1 h1 => rp_imp h1 (fun b st2 h2 => ?_) fun _ _ z => z) fun _ _ z => z
    by_cases c : b = true
    · rw [if_pos c] at h2 ⊢
      exact rp_imp h2 (fun ev st3 h3 => rp_imp h3 (fun x st4 h4 => ⟨h4.1, rp_lcFl I hc hs hd r _ st4 h4.2⟩) fun _ _ z => z) fun _ _ z => z
    · rw [if_neg c] at h2 ⊢
      exact rp_lcFl I hc hs hd r acc st2 h2
open Classical in
theorem rp_lcC0 {d : D} {r : List D} (h : chk (st.wiped vs)) (hk : Rp (mg (.dat d) (st.wiped vs)) (fun _ st1 => Rp (mt st1) (fun b st2 => if b = true then Rp (me st2) (fun ev st3 => Rp (toD ev st3) (fun x st4 => acc.length < sizeLine ∧ Rp (lcL vs chk mg mt me r (acc ++ [x]) st4) kl e) e) e else Rp (lcL vs chk mg mt me r acc st2) kl e) e) e) : Rp (lcL vs chk mg mt me (d :: r) acc st) kl e := rp_lcC h hk
open Classical in
theorem rp_lcF {mi : M Itr} {st0 : St} {kx : BX → St → Prop} {it : Itr} (hi : mi st = .ok it st0) (h : Rp (lcL vs it.chk mg mt me it.ds [] st0) (fun ds st2 => kx (.lst ds) { st2 with env := restE st0.env st2.env vs }) (fun _ _ => False)) : Rp (mLc vs mi mg mt me st) kx e := by
  unfold mLc
  rw [hi]
  dsimp only [R.bind]
  generalize lcL vs it.chk mg mt me it.ds [] st0 = r at h ⊢
  cases r with
  | ok ds st2 => exact h
  | err _ _ => exact h.elim
  | stuck => exact h.elim
/-- over a text, with a filter -/
theorem rp_lc_strF {ma : M EV} (l : List Nat) (I : List Nat → List D → St → Prop) {st0 : St} {kx : BX → St → Prop} (ha : ma st = .ok (.dat (.str (SX.S l))) st0) (h0 : I l [] st0)
    (hs : ∀ c r acc st, I (c :: r) acc st → Rp (mg (.dat (.str (SX.S [c]))) (st.wiped vs)) (fun _ st1 => Rp (mt st1) (fun b st2 => if b = true then Rp (me st2) (fun ev st3 => Rp (toD ev st3) (fun x st4 => acc.length < sizeLine ∧ I r (acc ++ [x]) st4) (fun _ _ => False)) (fun _ _ => False) else I r acc st2) (fun _ _ => False)) (fun _ _ => False))
    (hd : ∀ acc st1, I [] acc st1 → kx (.lst acc) { st1 with env := restE st0.env st1.env vs }) : Rp (mLc vs (mIStr ma) mg mt me st) kx e := by
  refine rp_lcF (it := ⟨l.map fun c => .str (SX.S [c]), fun _ => True⟩) (st0 := st0) ?_ ?_
  · unfold mIStr
    rw [ha]
    simp [R.bind, SX.S]
  · refine rp_lcFl (fun r acc st => ∃ q : List Nat, r = q.map (fun c => D.str (SX.S [c])) ∧ I q acc st) (fun _ _ _ _ => trivial) (fun d r acc st h => ?_) (fun acc st h => ?_) _ [] st0 ⟨l, rfl, h0⟩
    · obtain ⟨q, e, h⟩ := h
      cases q with
      | nil => cases e
      | cons c q =>
        cases e
        refine rp_imp (hs c q acc st h) (fun _ st1 h1 => rp_imp h1 (fun b st2 h2 => ?_) fun _ _ z => z) fun _ _ z => z
        by_cases c : b = true
        · rw [if_pos c] at h2 ⊢
          exact rp_imp h2 (fun ev st3 h3 => rp_imp h3 (fun x st4 h4 => ⟨h4.1, _, rfl, h4.2⟩) fun _ _ z => z) fun _ _ z => z
        · rw [if_neg c] at h2 ⊢
          exact ⟨_, rfl, h2⟩
    · obtain ⟨q, e, h⟩ := h
      cases q with
      | nil => exact hd acc st h
      | cons c q => cases e
end
/-! ### runs -/
def EndQ (d : D) (io : List BX) (S : List Ob) : Fl → St → Prop
  | .nx, st => st.io = io ∧ st.S = S ∧ .non = d
  | .ret (.dat x), st => st.io = io ∧ st.S = S ∧ x = d
  | _, _ => False
theorem eq_run {n : Nat} {ms : M Fl} {as : List AV} {io io' : List BX} {S S' : List Ob} {d : D}
    (h : Rp (ms ⟨as.map (fun a => some a.sv) ++ List.replicate (n - as.length) none, io, S⟩) (EndQ d io' S') (fun _ _ => False)) : runF n ms as io S = .ok (.dat d) io' S' := by
  unfold runF
  cases e : ms ⟨as.map (fun a => some a.sv) ++ List.replicate (n - as.length) none, io, S⟩ with
  | stuck => rw [e] at h; exact h.elim
  | err x st => rw [e] at h; exact h.elim
  | ok f st =>
    rw [e] at h
    cases f with
    | nx => obtain ⟨rfl, rfl, rfl⟩ := h; rfl
    | brk => exact h.elim
    | cont => exact h.elim
    | ret ev =>
      cases ev with
      | dat d => obtain ⟨rfl, rfl, rfl⟩ := h; rfl
      | _ => exact h.elim
theorem eq_runN {n : Nat} {ms : M Fl} {as : List AV} {io io' : List BX} {S S' : List Ob} {d : D}
    (h : Rp (ms ⟨as.map (fun a => some a.sv) ++ List.replicate (n - as.length) none, io, S⟩) (EndQ d io' S') (fun _ _ => False)) : noErrF (runF n ms) as io S = .ok (.dat d) io' S' := by
  unfold noErrF
  rw [eq_run h]
theorem eq_runE {n : Nat} {ms : M Fl} {as : List AV} {io io' : List BX} {S S' : List Ob} {er : Kv.Er}
    (h : Rp (ms ⟨as.map (fun a => some a.sv) ++ List.replicate (n - as.length) none, io, S⟩) (fun _ _ => False) (fun x st => st.io = io' ∧ st.S = S' ∧ x = er)) : runF n ms as io S = .err er io' S' := by
  unfold runF
  cases e : ms ⟨as.map (fun a => some a.sv) ++ List.replicate (n - as.length) none, io, S⟩ with
  | stuck => rw [e] at h; exact h.elim
  | err x st => rw [e] at h; obtain ⟨rfl, rfl, rfl⟩ := h; rfl
  | ok f st => rw [e] at h; exact h.elim
/-- any end with plain data -/
def EndA (P : D → List BX → List Ob → Prop) : Fl → St → Prop
  | .nx, st => P .non st.io st.S
  | .ret (.dat x), st => P x st.io st.S
  | _, _ => False
theorem all_run {n : Nat} {ms : M Fl} {as : List AV} {io : List BX} {S : List Ob} {P : D → List BX → List Ob → Prop}
    (h : Rp (ms ⟨as.map (fun a => some a.sv) ++ List.replicate (n - as.length) none, io, S⟩) (EndA P) (fun _ _ => False)) : ∃ d io' S', noErrF (runF n ms) as io S = .ok (.dat d) io' S' ∧ P d io' S' := by
  unfold noErrF runF
  cases e : ms ⟨as.map (fun a => some a.sv) ++ List.replicate (n - as.length) none, io, S⟩ with
  | stuck => rw [e] at h; exact h.elim
  | err x st => rw [e] at h; exact h.elim
  | ok f st =>
    rw [e] at h
    cases f with
    | nx => exact ⟨_, _, _, rfl, h⟩
    | brk => exact h.elim
    | cont => exact h.elim
    | ret ev =>
      cases ev with
      | dat d => exact ⟨_, _, _, rfl, h⟩
      | _ => exact h.elim
end Mi

set_option Elab.async false
set_option linter.all false
set_option maxRecDepth 100000
set_option maxHeartbeats 4000000
namespace Mi
open PySem PySem.Spec PyProof.Rows L2
section
variable {K : Frag} {cl : (Str → Addr) × Addr × Bool} {E : Kv.Er → L2.St → Hp → Prop} {W : Wd} {σ : L2.St} {H : Hp} {ta tb tc : TE} {ma mb mc : M EV}
/-! ### dicts: keys and what stands at them -/
def kD : D → Option Key
  | .int i => some (.inl i)
  | .str s => some (.inr s)
  | _ => none
def dK : Key → D
  | .inl i => .int i
  | .inr s => .str s
theorem kD_rep {F : Hp} {ρ : List Addr} {d : D} {v : V} {k : Key} (h : kD d = some k) (r : Rep K F ρ v d) : v = kV k := by
  cases d <;> cases h <;> cases r <;> rfl
theorem dK_rep {F : Hp} {ρ : List Addr} (k : Key) : Rep K F ρ (kV k) (dK k) := by
  cases k <;> constructor
/-- at a key; in its place, or at the end; without it -/
def dVal (kvs : List (Key × D)) (k : Key) : Option D := (kvs.find? fun kv => decide (kv.1 = k)).map (·.2)
def dPut (kvs : List (Key × D)) (k : Key) (d : D) : List (Key × D) :=
  if (kvs.any fun kv => decide (kv.1 = k)) = true then kvs.map (fun kv => if kv.1 = k then (kv.1, d) else kv) else kvs ++ [(k, d)]
def dDrop (kvs : List (Key × D)) (k : Key) : List (Key × D) := kvs.filter fun kv => decide (kv.1 ≠ k)
inductive KvR (K : Frag) (F : Hp) (ρ : List Addr) : List (Key × V) → List (Key × D) → Prop
  | nil : KvR K F ρ [] []
  | cons {k : Key} {v : V} {d : D} {kv : List (Key × V)} {kvs : List (Key × D)} : Rep K F ρ v d → KvR K F ρ kv kvs → KvR K F ρ ((k, v) :: kv) ((k, d) :: kvs)
theorem KvR.of {F : Hp} {ρ : List Addr} : ∀ {kv : List (Key × V)} {kvs : List (Key × D)}, kv.map (·.1) = kvs.map (·.1) → RepL K F ρ (kv.map (·.2)) (kvs.map (·.2)) → KvR K F ρ kv kvs
  | [], [], _, _ => .nil
  | [], _ :: _, e, _ => by cases e
  | _ :: _, [], e, _ => by cases e
  | (k, v) :: kv, (k', d) :: kvs, e, r => by
    rw [List.map_cons, List.map_cons] at e r
    injection e with e1 e2
    have e1 : k = k' := e1
    subst e1
    cases r with
    | cons h t => exact .cons h (KvR.of e2 t)
theorem KvR.keys {F : Hp} {ρ : List Addr} : ∀ {kv : List (Key × V)} {kvs : List (Key × D)}, KvR K F ρ kv kvs → kv.map (·.1) = kvs.map (·.1)
  | _, _, .nil => rfl
  | _, _, .cons _ t => by rw [List.map_cons, List.map_cons, t.keys]
theorem KvR.vals {F : Hp} {ρ : List Addr} : ∀ {kv : List (Key × V)} {kvs : List (Key × D)}, KvR K F ρ kv kvs → RepL K F ρ (kv.map (·.2)) (kvs.map (·.2))
  | _, _, .nil => .nil
  | _, _, .cons h t => .cons h t.vals
theorem KvR.len {F : Hp} {ρ : List Addr} : ∀ {kv : List (Key × V)} {kvs : List (Key × D)}, KvR K F ρ kv kvs → kv.length = kvs.length
  | _, _, .nil => rfl
  | _, _, .cons _ t => by rw [List.length_cons, List.length_cons, t.len]
theorem KvR.mono {F F' : Hp} {ρ ρ' : List Addr} (s : Same F F') (p : ρ <+: ρ') : ∀ {kv : List (Key × V)} {kvs : List (Key × D)}, KvR K F ρ kv kvs → KvR K F' ρ' kv kvs
  | _, _, .nil => .nil
  | _, _, .cons h t => .cons (h.mono s p) (t.mono s p)
theorem KvR.get {F : Hp} {ρ : List Addr} : ∀ {kv : List (Key × V)} {kvs : List (Key × D)} {i : Nat} {k : Key} {v : V}, KvR K F ρ kv kvs → kv[i]? = some (k, v) → ∃ d, kvs[i]? = some (k, d) ∧ Rep K F ρ v d
  | _, _, i, _, _, .nil, e => by simp at e
  | _, _, 0, _, _, .cons h _, e => by cases e; exact ⟨_, rfl, h⟩
  | _, _, i + 1, _, _, .cons _ t, e => t.get (i := i) e
theorem KvR.any {F : Hp} {ρ : List Addr} (k : Key) : ∀ {kv : List (Key × V)} {kvs : List (Key × D)}, KvR K F ρ kv kvs → (kv.any fun x => decide (x.1 = k)) = (kvs.any fun x => decide (x.1 = k))
  | _, _, .nil => rfl
  | _, _, .cons _ t => by rw [List.any_cons, List.any_cons, t.any k]
inductive RepO (K : Frag) (F : Hp) (ρ : List Addr) : Option V → Option D → Prop
  | none : RepO K F ρ none none
  | some {v : V} {d : D} : Rep K F ρ v d → RepO K F ρ (some v) (some d)
theorem KvR.val {F : Hp} {ρ : List Addr} (k : Key) : ∀ {kv : List (Key × V)} {kvs : List (Key × D)}, KvR K F ρ kv kvs → RepO K F ρ (valV kv k) (dVal kvs k)
  | _, _, .nil => .none
  | _, _, .cons (k := k') h t => by
    unfold valV dVal
    rw [List.find?_cons, List.find?_cons]
    by_cases c : k' = k
    · simp only [c, decide_true]; exact .some h
    · simp only [c, decide_false]; exact t.val k
theorem KvR.app {F : Hp} {ρ : List Addr} {k : Key} {v : V} {d : D} (h : Rep K F ρ v d) : ∀ {kv : List (Key × V)} {kvs : List (Key × D)}, KvR K F ρ kv kvs → KvR K F ρ (kv ++ [(k, v)]) (kvs ++ [(k, d)])
  | _, _, .nil => .cons h .nil
  | _, _, .cons g t => .cons g (t.app h)
theorem KvR.repl {F : Hp} {ρ : List Addr} {k : Key} {v : V} {d : D} (h : Rep K F ρ v d) : ∀ {kv : List (Key × V)} {kvs : List (Key × D)}, KvR K F ρ kv kvs → KvR K F ρ (kv.map fun x => if x.1 = k then (x.1, v) else x) (kvs.map fun x => if x.1 = k then (x.1, d) else x)
  | _, _, .nil => .nil
  | _, _, .cons (k := k') g t => by
    rw [List.map_cons, List.map_cons]
    by_cases c : k' = k
    · simp only [c, if_true]; exact .cons h (t.repl h)
    · simp only [c, if_false]; exact .cons g (t.repl h)
theorem KvR.put {F : Hp} {ρ : List Addr} {kv : List (Key × V)} {kvs : List (Key × D)} {k : Key} {v : V} {d : D} (r : KvR K F ρ kv kvs) (h : Rep K F ρ v d) : KvR K F ρ (putK kv k v) (dPut kvs k d) := by
  unfold putK dPut
  rw [r.any k]
  by_cases c : (kvs.any fun x => decide (x.1 = k)) = true
  · rw [if_pos c, if_pos c]; exact r.repl h
  · rw [if_neg c, if_neg c]; exact r.app h
theorem KvR.drop {F : Hp} {ρ : List Addr} (k : Key) : ∀ {kv : List (Key × V)} {kvs : List (Key × D)}, KvR K F ρ kv kvs → KvR K F ρ (dropK kv k) (dDrop kvs k)
  | _, _, .nil => .nil
  | _, _, .cons (k := k') (kv := kv) (kvs := kvs) h t => by
    have ih := t.drop k
    unfold dropK dDrop at *
    rw [List.filter_cons, List.filter_cons]
    by_cases c : k' = k
    · simp only [c, ne_eq, not_true_eq_false, decide_false, Bool.false_eq_true, if_false]; simpa using ih
    · simp only [c, ne_eq, not_false_eq_true, decide_true, if_true]; exact .cons h (by simpa using ih)
theorem BxOk.dct {p : Addr} {kv : List (Key × V)} {kvs : List (Key × D)} (e : H p = some (.dK kv)) (r : KvR K W.F W.ρ kv kvs) : BxOk K W H p (.dct kvs) := ⟨kv, e, r.keys, r.vals⟩
/-! ### what is read of a dict -/
def rdct (st : St) (ev : EV) : Option (List (Key × D)) := match ownB st ev with
  | some (.dct kvs) => some kvs
  | some (.fz kvs) => some kvs
  | _ => none
theorem rdct_ok {st : St} {v : V} {ev : EV} {kvs : List (Key × D)} (I : Inv K cl W σ H st) (k : EvOk K W H σ v ev) (e : rdct st ev = some kvs) : ∃ p kv, v = .ref p ∧ Rd H p (.dK kv) ∧ KvR K W.F W.ρ kv kvs := by
  unfold rdct at e
  split at e
  · rename_i b eb
    cases e
    obtain ⟨p, t, rfl, _, _, ⟨kv, h, e1, e2⟩, _⟩ := own_mut I k eb
    exact ⟨p, kv, rfl, .inl h, KvR.of e1 e2⟩
  · rename_i b eb
    cases e
    obtain ⟨p, t, rfl, _, _, ⟨o, kv, h, e1, e2⟩, _⟩ := own_mut I k eb
    exact ⟨p, kv, rfl, .inr ⟨o, h⟩, KvR.of e1 e2⟩
  · cases e
def keyE : EV → Option Key
  | .dat d => kD d
  | _ => none
theorem keyE_ok {v : V} {ev : EV} {k : Key} (h : EvOk K W H σ v ev) (e : keyE ev = some k) : v = kV k := by
  cases ev with
  | dat d => exact kD_rep e h
  | _ => cases e
def mDGet (ma mb : M EV) : M EV := fun st => (ma st).bind fun a st1 => (mb st1).bind fun b st2 => match rdct st2 a, keyE b with
  | some kvs, some k => match dVal kvs k with
    | some d => .ok (.dat d) st2
    | none => .stuck
  | _, _ => .stuck
theorem sE_dget (ha : SimE K cl E ta ma) (hb : SimE K cl E tb mb) : SimE K cl E (tDGet ta tb) (mDGet ma mb) := by
  intro W σ H st I Q q
  refine ha W σ H st I _ (Res.imp (Res.bind q) fun a st1 W1 H1 _ I1 x1 q1 va ka => ?_)
  refine hb W1 σ H1 st1 I1 _ (Res.imp (Res.bind q1) fun b st2 W2 H2 _ I2 x2 q2 vb kb => ?_)
  split at q2
  · rename_i kvs k e1 e2
    split at q2
    · rename_i d e3
      obtain ⟨p, kv, rfl, hr, r⟩ := rdct_ok I2 (ka.ext x2) e1
      rw [keyE_ok kb e2]
      have ro := r.val k
      rw [e3] at ro
      generalize hv : valV kv k = ov at ro
      cases ro with
      | some rv => exact ⟨p, _, rfl, .inl ⟨kv, k, hr, rfl, hv.symm⟩, q2.now I2 _ rv⟩
    · exact q2.elim
  · exact q2.elim
def mDIn (neg : Bool) (mb ma : M EV) : M EV := fun st => (mb st).bind fun b st1 => (ma st1).bind fun a st2 => match rdct st2 a, keyE b with
  | some kvs, some k => .ok (.dat (.bl (if neg then !(dVal kvs k).isSome else (dVal kvs k).isSome))) st2
  | _, _ => .stuck
theorem RepO.isSome {F : Hp} {ρ : List Addr} {o : Option V} {d : Option D} (r : RepO K F ρ o d) : o.isSome = d.isSome := by cases r <;> rfl
theorem sE_din (hb : SimE K cl E tb mb) (ha : SimE K cl E ta ma) : SimE K cl E (tDIn tb ta) (mDIn false mb ma) := by
  intro W σ H st I Q q
  refine hb W σ H st I _ (Res.imp (Res.bind q) fun b st1 W1 H1 _ I1 x1 q1 vb kb => ?_)
  refine ha W1 σ H1 st1 I1 _ (Res.imp (Res.bind q1) fun a st2 W2 H2 _ I2 x2 q2 va ka => ?_)
  split at q2
  · rename_i kvs k e1 e2
    obtain ⟨p, kv, rfl, hr, r⟩ := rdct_ok I2 ka e1
    refine ⟨p, valV kv k, rfl, .inl ⟨kv, k, hr, keyE_ok (kb.ext x2) e2, rfl⟩, ?_⟩
    rw [(r.val k).isSome]
    exact q2.now I2 _ (.bl _)
  · exact q2.elim
theorem sE_dnin (hb : SimE K cl E tb mb) (ha : SimE K cl E ta ma) : SimE K cl E (tDNotIn tb ta) (mDIn true mb ma) := by
  intro W σ H st I Q q
  refine hb W σ H st I _ (Res.imp (Res.bind q) fun b st1 W1 H1 _ I1 x1 q1 vb kb => ?_)
  refine ha W1 σ H1 st1 I1 _ (Res.imp (Res.bind q1) fun a st2 W2 H2 _ I2 x2 q2 va ka => ?_)
  split at q2
  · rename_i kvs k e1 e2
    obtain ⟨p, kv, rfl, hr, r⟩ := rdct_ok I2 ka e1
    refine ⟨p, valV kv k, rfl, .inl ⟨kv, k, hr, keyE_ok (kb.ext x2) e2, rfl⟩, ?_⟩
    rw [(r.val k).isSome]
    exact q2.now I2 _ (.bl _)
  · exact q2.elim
/-- d.get(k) -/
def mDGet1 (ma mb : M EV) : M EV := fun st => (ma st).bind fun a st1 => match rdct st1 a with
  | some _ => (mb st1).bind fun b st2 => match rdct st2 a, keyE b with
    | some kvs, some k => .ok (.dat ((dVal kvs k).getD .non)) st2
    | _, _ => .stuck
  | none => .stuck
theorem sE_dget1 (ha : SimE K cl E ta ma) (hb : SimE K cl E tb mb) : SimE K cl E (tDGet1 ta tb) (mDGet1 ma mb) := by
  intro W σ H st I Q q
  refine ha W σ H st I _ (Res.imp (Res.bind q) fun a st1 W1 H1 _ I1 x1 q1 va ka => ?_)
  split at q1
  · rename_i kvs0 e0
    obtain ⟨p, kv0, rfl, hr0, r0⟩ := rdct_ok I1 ka e0
    refine ⟨p, rfl, .inl ⟨kv0, hr0⟩, hb W1 σ H1 st1 I1 _ (Res.imp (Res.bind q1) fun b st2 W2 H2 _ I2 x2 q2 vb kb => ?_)⟩
    split at q2
    · rename_i kvs k e1 e2
      obtain ⟨p', kv, ep, hr, r⟩ := rdct_ok I2 (ka.ext x2) e1
      cases ep
      refine ⟨valV kv k, .inl ⟨kv, k, hr, keyE_ok kb e2, rfl⟩, q2.now I2 _ ?_⟩
      have ro := r.val k
      generalize valV kv k = ov at ro
      generalize dVal kvs k = od at ro
      cases ro with
      | none => exact .non
      | some h => exact h
    · exact q2.elim
  · exact q1.elim
/-- d.get(k, x) -/
def mDGet2 (ma mb mc : M EV) : M EV := fun st => (ma st).bind fun a st1 => match rdct st1 a with
  | some _ => (mb st1).bind fun b st2 => (mc st2).bind fun c st3 => match rdct st3 a, keyE b, c with
    | some kvs, some k, .dat x => .ok (.dat ((dVal kvs k).getD x)) st3
    | _, _, _ => .stuck
  | none => .stuck
theorem sE_dget2 (ha : SimE K cl E ta ma) (hb : SimE K cl E tb mb) (hc : SimE K cl E tc mc) : SimE K cl E (tDGet2 ta tb tc) (mDGet2 ma mb mc) := by
  intro W σ H st I Q q
  refine ha W σ H st I _ (Res.imp (Res.bind q) fun a st1 W1 H1 _ I1 x1 q1 va ka => ?_)
  split at q1
  · rename_i kvs0 e0
    obtain ⟨p, kv0, rfl, hr0, r0⟩ := rdct_ok I1 ka e0
    refine ⟨p, rfl, .inl ⟨kv0, hr0⟩, hb W1 σ H1 st1 I1 _ (Res.imp (Res.bind q1) fun b st2 W2 H2 _ I2 x2 q2 vb kb => ?_)⟩
    refine hc W2 σ H2 st2 I2 _ (Res.imp (Res.bind q2) fun c st3 W3 H3 _ I3 x3 q3 vc kc => ?_)
    split at q3
    · rename_i kvs k x e1 e2 _
      obtain ⟨p', kv, ep, hr, r⟩ := rdct_ok I3 ((ka.ext x2).ext x3) e1
      cases ep
      refine ⟨valV kv k, .inl ⟨kv, k, hr, keyE_ok (kb.ext x3) e2, rfl⟩, q3.now I3 _ ?_⟩
      have ro := r.val k
      generalize valV kv k = ov at ro
      generalize dVal kvs k = od at ro
      cases ro with
      | none => exact kc
      | some h => exact h
    · exact q3.elim
  · exact q1.elim
/-! ### a dict is changed -/
theorem dct_own {st : St} {v : V} {ev : EV} {kvs : List (Key × D)} (I : Inv K cl W σ H st) (k : EvOk K W H σ v ev) (e : ownB st ev = some (.dct kvs)) : ∃ p kv, v = .ref p ∧ H p = some (.dK kv) ∧ KvR K W.F W.ρ kv kvs ∧
    ∀ (kv' : List (Key × V)) (kvs' : List (Key × D)), KvR K W.F W.ρ kv' kvs' → ∃ st', setH st ev (.dct kvs') = some st' ∧ Inv K cl W σ (upd H p (.dK kv')) st' ∧ Ext W H W (upd H p (.dK kv')) := by
  obtain ⟨p, t, rfl, ho, hn, ⟨kv, h, e1, e2⟩, hm⟩ := own_mut I k e
  refine ⟨p, kv, rfl, h, KvR.of e1 e2, fun kv' kvs' r => ?_⟩
  obtain ⟨st', e4, I3⟩ := hm (.dK kv') (.dct kvs') (BxOk.dct upd_same r)
  exact ⟨st', e4, I3, Ext.mut ho hn (nofz h nofz_dK)⟩
/-- d[k] = v -/
def mDPut (mo mi mv : M EV) : M Fl := fun st => (mv st).bind fun ev st1 => (toD ev st1).bind fun d st2 => (mo st2).bind fun o st3 => (mi st3).bind fun i st4 => match ownB st4 o, keyE i with
  | some (.dct kvs), some k => if kvs.length < sizeLine then match setH st4 o (.dct (dPut kvs k d)) with
    | some st5 => .ok .nx st5
    | none => .stuck
    else .stuck
  | _, _ => .stuck
theorem sS_dput {to ti tv : TE} {mo mi mv : M EV} (ho : SimE K cl E to mo) (hi : SimE K cl E ti mi) (hv : SimE K cl E tv mv) : SimS K cl E (sDPut to ti tv) (mDPut mo mi mv) := by
  intro W σ H st I D q
  refine hv W σ H st I _ (Res.imp (ResS.bind q) fun ev st1 W1 H1 _ I1 x1 q1 y k => ?_)
  obtain ⟨d, st2, W2, I2, x2, r, q2⟩ := toD_ok I1 k (ResS.bind q1)
  refine ho W2 σ H1 st2 I2 _ (Res.imp (ResS.bind q2) fun o st3 W3 H3 _ I3 x3 q3 vo ko => ?_)
  refine hi W3 σ H3 st3 I3 _ (Res.imp (ResS.bind q3) fun i st4 W4 H4 _ I4 x4 q4 vi ki => ?_)
  split at q4
  · rename_i kvs kk e1 e2
    split at q4
    · rename_i hl
      obtain ⟨p, kv, rfl, h, rr, hm⟩ := dct_own I4 (ko.ext x4) e1
      rw [keyE_ok ki e2]
      obtain ⟨st5, e4, I5, x5⟩ := hm (putK kv kk y) (dPut kvs kk d) (rr.put ((Rep.ext x3 r).ext x4))
      rw [e4] at q4
      exact ⟨p, _, rfl, DPut.k h (by rw [rr.len]; exact hl), q4 σ W4 _ I5 x5⟩
    · exact q4.elim
  · exact q4.elim
/-- d[k] op= v -/
def mDAug (g : D → D → Option D) (mo mi mv : M EV) : M Fl := fun st => (mo st).bind fun o st1 => (mi st1).bind fun i st2 => match rdct st2 o, keyE i with
  | some kvs, some k => match dVal kvs k with
    | some x => (mv st2).bind fun b st3 => match b with
      | .dat y => match g x y with
        | some z => match ownB st3 o with
          | some (.dct kvs') => if kvs'.length < sizeLine then match setH st3 o (.dct (dPut kvs' k z)) with
            | some st4 => .ok .nx st4
            | none => .stuck
            else .stuck
          | _ => .stuck
        | none => .stuck
      | _ => .stuck
    | none => .stuck
  | _, _ => .stuck
theorem sS_daug {to ti tv : TE} {mo mi mv : M EV} {rd : V → V → Hp → VK → Prop} {g : D → D → Option D} (hg : AuOk rd g) (ho : SimE K cl E to mo) (hi : SimE K cl E ti mi) (hv : SimE K cl E tv mv) : SimS K cl E (sDAug to ti tv rd) (mDAug g mo mi mv) := by
  intro W σ H st I D q
  refine ho W σ H st I _ (Res.imp (ResS.bind q) fun o st1 W1 H1 _ I1 x1 q1 vo ko => ?_)
  refine hi W1 σ H1 st1 I1 _ (Res.imp (ResS.bind q1) fun i st2 W2 H2 _ I2 x2 q2 vi ki => ?_)
  split at q2
  · rename_i kvs k e1 e2
    split at q2
    · rename_i x e3
      obtain ⟨p, kv, rfl, hr, r⟩ := rdct_ok I2 (ko.ext x2) e1
      rw [keyE_ok ki e2]
      have ro := r.val k
      rw [e3] at ro
      generalize hvv : valV kv k = ov at ro
      cases ro with
      | some rv =>
      refine ⟨p, _, rfl, .inl ⟨kv, k, hr, rfl, hvv.symm⟩, hv W2 σ H2 st2 I2 _ (Res.imp (ResS.bind q2) fun b st3 W3 H3 _ I3 x3 q3 vb kb => ?_)⟩
      split at q3
      · rename_i y _
        split at q3
        · rename_i z ez
          obtain ⟨vx, vy, vz, ex, ey, ed, kk⟩ := hg x y z ez
          rw [scV_rep ex rv, scV_rep ey kb]
          refine kk H3 _ ?_
          split at q3
          · rename_i kvs' e4
            split at q3
            · rename_i hl
              obtain ⟨p', kv', ep, h', rr, hm⟩ := dct_own I3 ((ko.ext x2).ext x3) e4
              cases ep
              obtain ⟨st5, e5, I5, x5⟩ := hm (putK kv' k vz) (dPut kvs' k z) (rr.put (scV_mk ed))
              rw [e5] at q3
              exact ⟨_, DPut.k h' (by rw [rr.len]; exact hl), q3 σ W3 _ I5 x5⟩
            · exact q3.elim
          · exact q3.elim
        · exact q3.elim
      · exact q3.elim
    · exact q2.elim
  · exact q2.elim
/-- del d[k] -/
def mDDel (mo mi : M EV) : M Fl := fun st => (mo st).bind fun o st1 => (mi st1).bind fun i st2 => match ownB st2 o, keyE i with
  | some (.dct kvs), some k => if (dVal kvs k).isSome = true then match setH st2 o (.dct (dDrop kvs k)) with
    | some st3 => .ok .nx st3
    | none => .stuck
    else .stuck
  | _, _ => .stuck
theorem sS_ddel {to ti : TE} {mo mi : M EV} (ho : SimE K cl E to mo) (hi : SimE K cl E ti mi) : SimS K cl E (sDDel to ti) (mDDel mo mi) := by
  intro W σ H st I D q
  refine ho W σ H st I _ (Res.imp (ResS.bind q) fun o st1 W1 H1 _ I1 x1 q1 vo ko => ?_)
  refine hi W1 σ H1 st1 I1 _ (Res.imp (ResS.bind q1) fun i st2 W2 H2 _ I2 x2 q2 vi ki => ?_)
  split at q2
  · rename_i kvs kk e1 e2
    split at q2
    · rename_i hl
      obtain ⟨p, kv, rfl, h, rr, hm⟩ := dct_own I2 (ko.ext x2) e1
      rw [keyE_ok ki e2]
      obtain ⟨st5, e4, I5, x5⟩ := hm (dropK kv kk) (dDrop kvs kk) (rr.drop kk)
      rw [e4] at q2
      exact ⟨p, kv, kk, rfl, h, rfl, by rw [(rr.val kk).isSome]; exact hl, q2 σ W2 _ I5 x5⟩
    · exact q2.elim
  · exact q2.elim
/-- d.pop(k) -/
def mDPop1 (ma mb : M EV) : M EV := fun st => (ma st).bind fun a st1 => match rdct st1 a with
  | some _ => (mb st1).bind fun b st2 => match ownB st2 a, keyE b with
    | some (.dct kvs), some k => match dVal kvs k with
      | some d => match setH st2 a (.dct (dDrop kvs k)) with
        | some st3 => .ok (.dat d) st3
        | none => .stuck
      | none => .stuck
    | _, _ => .stuck
  | none => .stuck
theorem sE_dpop1 (ha : SimE K cl E ta ma) (hb : SimE K cl E tb mb) : SimE K cl E (tDPop1 ta tb) (mDPop1 ma mb) := by
  intro W σ H st I Q q
  refine ha W σ H st I _ (Res.imp (Res.bind q) fun a st1 W1 H1 _ I1 x1 q1 va ka => ?_)
  split at q1
  · rename_i kvs0 e0
    obtain ⟨p, kv0, rfl, hr0, r0⟩ := rdct_ok I1 ka e0
    refine ⟨p, rfl, .inl ⟨kv0, hr0⟩, hb W1 σ H1 st1 I1 _ (Res.imp (Res.bind q1) fun b st2 W2 H2 _ I2 x2 q2 vb kb => ?_)⟩
    split at q2
    · rename_i kvs k e1 e2
      obtain ⟨p', kv, ep, h, r, hm⟩ := dct_own I2 (ka.ext x2) e1
      cases ep
      split at q2
      · rename_i d e3
        have ro := r.val k
        rw [e3] at ro
        generalize hvv : valV kv k = ov at ro
        cases ro with
        | some rv =>
        obtain ⟨st5, e5, I5, x5⟩ := hm (dropK kv k) (dDrop kvs k) (r.drop k)
        rw [e5] at q2
        exact ⟨kv, k, _, h, keyE_ok kb e2, hvv, q2 W2 _ I5 x5 _ rv⟩
      · exact q2.elim
    · exact q2.elim
  · exact q1.elim
/-! ### new dicts -/
def mDNew : M BX := M.pure (.dct [])
theorem sN_dnew : SimN K cl E tDNewK mDNew := by
  intro W σ H st I Q q p hp
  obtain ⟨z1, z2⟩ := I.free hp
  exact q W _ (I.new0 hp) (Ext.new0 hp) p hp z2 z1 ⟨[], upd_same, rfl, .nil⟩
/-- len(d) -/
def mDLen (ma : M EV) : M EV := fun st => (ma st).bind fun a st1 => match ownB st1 a with
  | some (.dct kvs) => .ok (.dat (.int kvs.length)) st1
  | _ => .stuck
theorem sE_dlen (ha : SimE K cl E ta ma) : SimE K cl E (tCB (fun xs H Q => ∃ a kvs, xs = [V.ref a] ∧ H a = some (.dK kvs) ∧ Q (.int kvs.length) H) (tCons ta tNil)) (mDLen ma) := by
  intro W σ H st I Q q
  refine ha W σ H st I _ (Res.imp (Res.bind q) fun a st1 W1 H1 _ I1 x1 q1 va ka => ?_)
  split at q1
  · rename_i kvs e1
    obtain ⟨p, kv, rfl, h, r, _⟩ := dct_own I1 ka e1
    refine ⟨p, kv, rfl, h, ?_⟩
    rw [r.len]
    exact q1.now I1 _ (.int _)
  · exact q1.elim
/-- list(d) -/
def mDList (ma : M EV) : M BX := fun st => (ma st).bind fun a st1 => match ownB st1 a with
  | some (.dct kvs) => .ok (.lst (kvs.map fun kv => dK kv.1)) st1
  | _ => .stuck
theorem keys_rep {F : Hp} {ρ : List Addr} : ∀ {kv : List (Key × V)} {kvs : List (Key × D)}, KvR K F ρ kv kvs → RepL K F ρ (kv.map fun x => kV x.1) (kvs.map fun x => dK x.1)
  | _, _, .nil => .nil
  | _, _, .cons (k := k) _ t => .cons (dK_rep k) (keys_rep t)
theorem sN_dlist (ha : SimE K cl E ta ma) : SimN K cl E (tCB rListD (tCons ta tNil)) (mDList ma) := by
  intro W σ H st I Q q
  refine ha W σ H st I _ (Res.imp (Res.bind q) fun a st1 W1 H1 _ I1 x1 q1 va ka => ?_)
  split at q1
  · rename_i kvs e1
    obtain ⟨p, kv, rfl, h, r, _⟩ := dct_own I1 ka e1
    refine ⟨p, kv, rfl, h, fun l hl => ?_⟩
    obtain ⟨z1, z2⟩ := I1.free hl
    exact q1 W1 _ (I1.new0 hl) (Ext.new0 hl) l (x1.lv l hl) z2 z1 ⟨_, upd_same, keys_rep r⟩
  · exact q1.elim
/-- dict(d) -/
def rCopyD : List V → Hp → VK → Prop := fun xs H Q => ∃ a kvs, xs = [V.ref a] ∧ Rd H a (.dK kvs) ∧ ∀ p, H p = none → Q (.ref p) (upd H p (.dK kvs))
theorem call_copyD {X : Cx} : CallR X (.type "dict") rCopyD := by
  intro pins s σ H xs us Q I r h
  obtain ⟨a, kvs, rfl, e, q⟩ := h
  cases r with
  | cons r rr =>
    cases rr
    obtain rfl : _ = Value.ref a := r
    exact d_copyOf I e fun p s' hp I' => ⟨.ref p, _, I', rfl, q p hp⟩
def mDCopy (ma : M EV) : M BX := fun st => (ma st).bind fun a st1 => match rdct st1 a with
  | some kvs => .ok (.dct kvs) st1
  | _ => .stuck
theorem sN_dcopy (ha : SimE K cl E ta ma) : SimN K cl E (tCB rCopyD (tCons ta tNil)) (mDCopy ma) := by
  intro W σ H st I Q q
  refine ha W σ H st I _ (Res.imp (Res.bind q) fun a st1 W1 H1 _ I1 x1 q1 va ka => ?_)
  split at q1
  · rename_i kvs e1
    obtain ⟨p, kv, rfl, h, r⟩ := rdct_ok I1 ka e1
    refine ⟨p, kv, rfl, h, fun l hl => ?_⟩
    obtain ⟨z1, z2⟩ := I1.free hl
    exact q1 W1 _ (I1.new0 hl) (Ext.new0 hl) l (x1.lv l hl) z2 z1 (BxOk.dct upd_same r)
  · exact q1.elim
end
end Mi

set_option Elab.async false
set_option linter.all false
set_option maxRecDepth 100000
set_option maxHeartbeats 4000000
namespace Mi
open PySem PySem.Spec PyProof.Rows L2
section
variable {K : Frag} {cl : (Str → Addr) × Addr × Bool} {E : Kv.Er → L2.St → Hp → Prop} {W : Wd} {σ : L2.St} {H : Hp} {ta tb tc : TE} {ma mb mc : M EV}
/-! ### a dict is locked while it is walked -/
theorem nofz_upd {a : Addr} {o : HO} : upd H a o a = some o := upd_same
theorem lock_in {st : St} {j : Nat} {kvs : List (Key × D)} (I : Inv K cl W σ H st) (e : st.S[j]? = some (.bx (.dct kvs))) : ∃ a kv, W.ρ[j]? = some a ∧ W.ow a = some (.ob j) ∧ H a = some (.dK kv) ∧
    ∀ od, Inv K cl W σ (upd H a (.frz od (.dK kv))) { st with S := st.S.set j (.bx (.fz kvs)) } := by
  obtain ⟨a, hr, ho, kv, h, e1, e2⟩ := I.obs j _ e
  exact ⟨a, kv, hr, ho, h, fun od => I.mutOb e hr ho ⟨od, kv, upd_same, e1, e2⟩⟩
theorem lock_out {st : St} {j : Nat} {a : Addr} {od : Obj} {kv : List (Key × V)} {kvs : List (Key × D)} (I : Inv K cl W σ H st) (hr : W.ρ[j]? = some a) (h : H a = some (.frz od (.dK kv))) (e : st.S[j]? = some (.bx (.fz kvs))) : Inv K cl W σ (upd H a (.dK kv)) { st with S := st.S.set j (.bx (.dct kvs)) } := by
  obtain ⟨a', hr', ho, od', kv', h', e1, e2⟩ := I.obs j _ e
  rw [hr] at hr'
  cases hr'
  rw [h] at h'
  cases h'
  exact I.mutOb e hr ho ⟨kv, upd_same, e1, e2⟩
theorem Ext.unlock {W' : Wd} {H' : Hp} {a : Addr} {od : Obj} {kv : List (Key × V)} {t : Tag} (h : H a = some (.dK kv)) (ho : W.ow a = some t) (x : Ext W (upd H a (.frz od (.dK kv))) W' H') : Ext W H W' (upd H' a (.dK kv)) := by
  have hne : ∀ {p : Addr}, W.ow p = none → p ≠ a := fun {p} z c => by subst c; rw [ho] at z; cases z
  refine ⟨x.sF, x.rr, x.ow, fun p o e z => ?_, x.xt, fun p o e z => x.nw p o (by rw [upd_ne (hne z)]; exact e) z, fun p e => ?_, fun p o e z f => x.fz p o (by rw [upd_ne (hne z)]; exact e) z f, x.xa⟩
  · by_cases c : p = a
    · subst c; rw [h] at e; cases e; exact upd_same
    · rw [upd_ne c]; exact x.un p o (by rw [upd_ne c]; exact e) z
  · by_cases c : p = a
    · subst c; rw [upd_same] at e; cases e
    · rw [upd_ne c] at e
      have := x.lv p e
      rw [upd_ne c] at this
      exact this
theorem Ext.lock0 {W' : Wd} {H' : Hp} {a : Addr} {od : Obj} {kv : List (Key × V)} {j : Nat} (h : H a = some (.dK kv)) (ho : W.ow a = some (.ob j)) (x : Ext W (upd H a (.frz od (.dK kv))) W' H') : Ext W H W' H' := by
  have hne : ∀ {p : Addr}, W.ow p = none → p ≠ a := fun {p} z c => by subst c; rw [ho] at z; cases z
  refine ⟨x.sF, x.rr, x.ow, fun p o e z => ?_, x.xt, fun p o e z => x.nw p o (by rw [upd_ne (hne z)]; exact e) z, fun p e => ?_, fun p o e z f => x.fz p o (by rw [upd_ne (hne z)]; exact e) z f, x.xa⟩
  · by_cases c : p = a
    · subst c
      rcases z with z | z | z
      · rw [ho] at z; cases z
      · rw [ho] at z; cases z
      · rw [h] at e; cases e; exact absurd z nofz_dK
    · exact x.un p o (by rw [upd_ne c]; exact e) z
  · by_cases c : p = a
    · subst c
      have := x.lv p e
      rw [upd_same] at this
      cases this
    · have := x.lv p e
      rw [upd_ne c] at this
      exact this
def unlR {α : Type} (j : Nat) (a : α) (st : St) : R α := match st.S[j]? with
  | some (.bx (.fz kvs)) => .ok a { st with S := st.S.set j (.bx (.dct kvs)) }
  | _ => .stuck
def lockM {α : Type} (me : M EV) (body : M α) : M α := fun st => match me st with
  | .ok (.dat (.ob j)) _ => match st.S[j]? with
    | some (.bx (.dct kvs)) => (body { st with S := st.S.set j (.bx (.fz kvs)) }).bind (unlR j)
    | _ => .stuck
  | _ => .stuck
theorem EvOk.upd {v : V} {ev : EV} {a : Addr} {o : HO} {t : Tag} (ho : W.ow a = some t) (k : EvOk K W H σ v ev) : EvOk K W (L2.upd H a o) σ v ev := by
  cases ev with
  | dat d => exact k
  | sl i => exact k
  | io i => exact k
  | fl j f => exact k
  | exc => exact k
  | tp b =>
    obtain ⟨p, e, z1, z2, kb⟩ := k
    exact ⟨p, e, z1, z2, kb.kp (Same.refl _) (List.prefix_refl _) (upd_ne fun c => by subst c; rw [ho] at z2; cases z2)⟩
theorem sS_lock {ts : TS} {ms : M Fl} {me : M EV} (h : SimS K cl E ts ms) : SimS K cl E (tLock ts) (lockM me ms) := by
  intro W σ H st I D q
  unfold lockM at q
  split at q
  rotate_left
  · exact q.elim
  rename_i j _ _
  split at q
  rotate_left
  · exact q.elim
  rename_i kvs es
  obtain ⟨a, kv, hr, ho, ha, hI⟩ := lock_in I es
  refine ⟨a, .dK kv, ha, trivial, fun od => h W σ _ _ (hI od) _ ?_⟩
  have key : ∀ {W' : Wd} {H' : Hp} {σ' : L2.St} {st' : St}, Inv K cl W' σ' H' st' → Ext W (upd H a (.frz od (.dK kv))) W' H' → H' a = some (.frz od (.dK kv)) ∧ W'.ρ[j]? = some a ∧ W'.ow a = some (.ob j) := by
    intro W' H' σ' st' I' x'
    refine ⟨x'.un a _ upd_same (.inr (.inr ⟨_, _, rfl⟩)), ?_, x'.ow a _ ho (by simp)⟩
    obtain ⟨t, e⟩ := x'.rr
    rw [← e, List.getElem?_append_left (List.getElem?_eq_some_iff.mp hr).1]
    exact hr
  cases er : ms { st with S := st.S.set j (.bx (.fz kvs)) } with
  | stuck => rw [er] at q; exact q
  | err e st' => rw [er] at q; exact fun σ' W' H' I' x' => q σ' W' H' I' (Ext.lock0 ha ho x')
  | ok f st' =>
    rw [er] at q
    have q : ResS K cl E W H (unlR j f st') D := q
    unfold unlR at q
    split at q
    rotate_left
    · exact False.elim q
    rename_i kvs' es'
    cases f with
    | nx =>
      intro σ' W' H' I' x'
      obtain ⟨k1, k2, k3⟩ := key I' x'
      exact ⟨k1, q σ' W' _ (lock_out I' k2 k1 es') (Ext.unlock ha ho x')⟩
    | brk =>
      intro σ' W' H' I' x'
      obtain ⟨k1, k2, k3⟩ := key I' x'
      exact ⟨k1, q σ' W' _ (lock_out I' k2 k1 es') (Ext.unlock ha ho x')⟩
    | cont =>
      intro σ' W' H' I' x'
      obtain ⟨k1, k2, k3⟩ := key I' x'
      exact ⟨k1, q σ' W' _ (lock_out I' k2 k1 es') (Ext.unlock ha ho x')⟩
    | ret ev =>
      intro σ' W' H' v I' x' k fr
      obtain ⟨k1, k2, k3⟩ := key I' x'
      refine ⟨k1, q σ' W' _ v (lock_out I' k2 k1 es') (Ext.unlock ha ho x') (EvOk.upd k3 k) fun b eb => ?_⟩
      obtain ⟨p, e1, e2⟩ := fr b eb
      refine ⟨p, e1, ?_⟩
      rw [upd_ne (fun c => by subst c; rw [upd_same] at e2; cases e2)] at e2
      exact e2
theorem sN_lock {te : TE} {mn : M BX} {me : M EV} (h : SimN K cl E te mn) : SimN K cl E (tLockE te) (lockM me mn) := by
  intro W σ H st I Q q
  unfold lockM at q
  split at q
  rotate_left
  · exact q.elim
  rename_i j _ _
  split at q
  rotate_left
  · exact q.elim
  rename_i kvs es
  obtain ⟨a, kv, hr, ho, ha, hI⟩ := lock_in I es
  refine ⟨a, .dK kv, ha, trivial, fun od => h W σ _ _ (hI od) _ ?_⟩
  have key : ∀ {W' : Wd} {H' : Hp} {σ' : L2.St} {st' : St}, Inv K cl W' σ' H' st' → Ext W (upd H a (.frz od (.dK kv))) W' H' → H' a = some (.frz od (.dK kv)) ∧ W'.ρ[j]? = some a ∧ W'.ow a = some (.ob j) := by
    intro W' H' σ' st' I' x'
    refine ⟨x'.un a _ upd_same (.inr (.inr ⟨_, _, rfl⟩)), ?_, x'.ow a _ ho (by simp)⟩
    obtain ⟨t, e⟩ := x'.rr
    rw [← e, List.getElem?_append_left (List.getElem?_eq_some_iff.mp hr).1]
    exact hr
  cases er : mn { st with S := st.S.set j (.bx (.fz kvs)) } with
  | stuck => rw [er] at q; exact q
  | err e st' => rw [er] at q; exact fun W' H' I' x' => q W' H' I' (Ext.lock0 ha ho x')
  | ok b st' =>
    rw [er] at q
    have q : Res K cl E W σ H (unlR j b st') (fun b _ W' H' => ∀ p, H p = none → W'.F p = none → W'.ow p = none → BxOk K W' H' p b → Q (.ref p) H') := q
    unfold unlR at q
    split at q
    rotate_left
    · exact q.elim
    rename_i kvs' es'
    intro W' H' I' x' p hp z1 z2 kb
    obtain ⟨k1, k2, k3⟩ := key I' x'
    have pa : p ≠ a := fun c => by subst c; rw [k3] at z2; cases z2
    rw [upd_ne pa] at hp
    exact ⟨k1, q W' _ (lock_out I' k2 k1 es') (Ext.unlock ha ho x') p hp z1 z2 (kb.kp (Same.refl _) (List.prefix_refl _) (upd_ne pa))⟩
/-- the keys of a locked dict -/
def mIKeys (me : M EV) : M Itr := fun st => (me st).bind fun a st1 => match a with
  | .dat (.ob j) => match st1.S[j]? with
    | some (.bx (.fz kvs)) => .ok ⟨kvs.map fun kv => dK kv.1, fun _ => True⟩ st1
    | _ => .stuck
  | _ => .stuck
theorem sI_keys (ha : SimE K cl E ta ma) : SimI K cl E (iKeys ta) (mIKeys ma) := by
  intro W σ H st I R q
  refine ha W σ H st I _ (Res.imp (Res.bind q) fun a st1 W1 H1 hm1 I1 x1 q1 v k => ?_)
  split at q1
  rotate_left
  · exact q1.elim
  rename_i j
  split at q1
  rotate_left
  · exact q1.elim
  rename_i kvs es
  obtain ⟨p, hr, ho, od, kv, h, e1, e2⟩ := I1.obs j _ es
  have r := KvR.of e1 e2
  cases k with
  | ob hk =>
  rw [hr] at hk
  cases hk
  refine ⟨p, od, rfl, .inl ⟨kv, h, ?_⟩⟩
  have hlen : (kvs.map fun kv => dK kv.1).length = kv.length := by rw [List.length_map, r.len]
  refine q1.now I1 (Itk p od kv) (fun H => H p = some (.frz od (.dK kv))) (fun i H x H' => H' = H ∧ ∃ k v, kv[i]? = some (k, v) ∧ x = kV k) ?_ ⟨fun W2 σ2 H2 st2 I2 x2 _ => x2.un p _ h (.inr (.inr ⟨_, _, rfl⟩)), ?_⟩
  · show Walk _ (kvs.map fun kv => dK kv.1).length _ _
    rw [hlen]
    exact walk_keys
  · rintro i d W2 σ2 H2 st2 x H3 ed I2 x2 _ ⟨rfl, k, v, ek, rfl⟩
    obtain ⟨d', ed', _⟩ := r.get ek
    have ed : (kvs.map fun kv => dK kv.1)[i]? = some d := ed
    rw [List.getElem?_map, ed'] at ed
    cases ed
    exact ⟨W2, I2, Ext.refl _ _, dK_rep k⟩
/-! ### dict comprehensions -/
def dcR (f : List (Key × D) → M (List (Key × D))) (acc : List (Key × D)) (k : Option Key) (ev : EV) : M (List (Key × D)) := fun st => match k, ev with
  | some k, .dat x => if acc.length < sizeLine then f (dPut acc k x) st else .stuck
  | _, _ => .stuck
def dcL (vs : List Nat) (chk : St → Prop) (mg : EV → M Unit) (mt : M Bool) (mk me : M EV) [∀ st, Decidable (chk st)] : List D → List (Key × D) → M (List (Key × D))
  | [], acc, st => if chk (st.wiped vs) then .ok acc st else .stuck
  | d :: r, acc, st => if chk (st.wiped vs) then (mg (.dat d) (st.wiped vs)).bind fun _ st1 => (mt st1).bind fun b st2 =>
      if b = true then (mk st2).bind fun kv st3 => (me st3).bind fun ev st4 => dcR (fun acc => dcL vs chk mg mt mk me r acc) acc (keyE kv) ev st4
      else dcL vs chk mg mt mk me r acc st2
    else .stuck
open Classical in
noncomputable def mDc (vs : List Nat) (mi : M Itr) (mg : EV → M Unit) (mt : M Bool) (mk me : M EV) : M BX := fun st => (mi st).bind fun it st1 => match dcL vs it.chk mg mt mk me it.ds [] st1 with
  | .ok ds st2 => .ok (.dct ds) { st2 with env := restE st1.env st2.env vs }
  | _ => .stuck
theorem dc_it {J : It} {n : Nat} {G : Hp → Prop} {Y : Nat → Hp → V → Hp → Prop} (w : Walk J n G Y) {g : TG} {tt : TT} {tk tv : TE} {vs : List Nat} {σ : L2.St} {H1 : Hp} {D : Addr} {Qd : Hp → Prop} (Pv : Nat → Hp → Prop) (h0 : Pv 0 (upd H1 D (.dK []))) (hG : ∀ i H, i ≤ n → Pv i H → G H)
    (hs : ∀ i x H H', i < n → Pv i H → Y i H x H' → g x (wipe σ vs) H' fun σ2 H2 => wipe σ2 vs = wipe σ vs ∧ tt σ2 H2 fun b H3 => if b = true then tk σ2 H3 fun y H4 => tv σ2 H4 fun z H5 => ∃ kvs k, y = kV k ∧ H5 D = some (.dK kvs) ∧ kvs.length < sizeLine ∧ Pv (i + 1) (upd H5 D (.dK (putK kvs k z))) else Pv (i + 1) H3)
    (hd : ∀ H, Pv n H → Qd H) : ∃ W : Nat → Nat → Hp → Prop, (∃ m, W 0 m (upd H1 D (.dK []))) ∧ ∀ i m H, W i m H →
  (J.stop i H ∧ Qd H) ∨ (J.go i H ∧ ∃ Nx : Hp → Prop, (∀ H', Nx H' → ∃ m', m' < m ∧ W (i + 1) m' H') ∧ ∀ x H', J.yld i H x H' → g x (wipe σ vs) H' fun σ2 H2 => wipe σ2 vs = wipe σ vs ∧ tt σ2 H2 fun b H3 =>
    if b = true then tk σ2 H3 fun y H4 => tv σ2 H4 fun z H5 => ∃ kvs k, y = kV k ∧ H5 D = some (.dK kvs) ∧ kvs.length < sizeLine ∧ Nx (upd H5 D (.dK (putK kvs k z))) else Nx H3) := by
  refine ⟨fun i m H => m = n - i ∧ i ≤ n ∧ Pv i H, ⟨n, by omega, Nat.zero_le _, h0⟩, ?_⟩
  rintro i m H ⟨rfl, hi, p⟩
  rcases Nat.lt_or_ge i n with c | c
  · refine .inr ⟨w.goes i H c (hG i H hi p), fun H' => Pv (i + 1) H', fun H' p' => ⟨n - (i + 1), by omega, rfl, c, p'⟩, fun x H' y => hs i x H H' c p (w.yields i H x H' c (hG i H hi p) y)⟩
  · have : i = n := by omega
    subst this
    exact .inl ⟨w.stops H (hG i H hi p), hd H p⟩
theorem sN_dc {vs : List Nat} {wi : TI} {g : TG} {tt : TT} {tk te : TE} {mi : M Itr} {mg : EV → M Unit} {mt : M Bool} {mk me : M EV} (hi : SimI K cl E wi mi) (hg : SimG K cl EF vs g mg) (ht : SimT K cl EF tt mt) (hk : SimE K cl EF tk mk) (he : SimE K cl EF te me) : SimN K cl E (tDc wi g tt tk te vs) (mDc vs mi mg mt mk me) := by
  intro W σ H st I Q q
  refine hi W σ H st I _ (Res.imp (Res.bind q) fun it st1 W1 H1 hm1 I1 x1 q1 J G Y w gy => ?_)
  intro L hL
  obtain ⟨z1, z2⟩ := I1.free hL
  let inst : ∀ st, Decidable (it.chk st) := fun st => Classical.propDecidable _
  let Fin : List (Key × D) → St → Prop := fun ds st2 => ∀ W' H' us, Inv K cl W' (wipe σ vs) H' (st2.wiped vs) → Ext W1 H1 W' H' → W'.ow L = none → W'.F L = none → H' L = some (.dK us) → KvR K W'.F W'.ρ us ds → Q (.ref L) H'
  let RL : R (List (Key × D)) → Prop := fun r => match r with
    | .ok ds st2 => Fin ds st2
    | _ => False
  have q2 : RL (@dcL vs it.chk mg mt mk me inst it.ds [] st1) := by
    cases e : @dcL vs it.chk mg mt mk me inst it.ds [] st1 with
    | ok ds st2 =>
      rw [e] at q1
      intro W' H' us I' x' o1 o2 eL r
      refine q1 W' H' ?_ x' L (x1.lv L hL) o2 o1 (BxOk.dct eL r)
      refine Inv.slot (st := st2.wiped vs) I' ?_ fun i sv h => ?_
      · rw [restE_len, ← wipeE_len st2.env vs]
        have := I'.len
        rw [wipe_length] at this
        exact this
      · rcases restE_some h with ⟨m, h, n⟩ | ⟨m, h⟩
        · have k := I1.slots i sv h
          cases sv with
          | own b => exact absurd rfl (n b)
          | dat d => obtain ⟨v, e, r⟩ := k; exact ⟨v, e, r.ext x'⟩
          | io j => obtain ⟨v, e, r⟩ := k; exact ⟨v, e, x'.ow v _ r (by simp)⟩
          | fl j f => obtain ⟨v, e, r⟩ := k; exact ⟨v, e, x'.ow v _ r (by simp)⟩
          | exc => exact (show σ[i]? = some (some (.ref W1.xa.1)) from k).trans (by rw [x'.xa])
        · refine (I'.slots i sv ?_).sig ?_
          · show (wipeE st2.env vs)[i]? = _
            rw [wipeE_get, if_neg m]; exact h
          · rw [wipe_get, if_neg m]
    | err e' st2 => rw [e] at q1; exact q1.elim
    | stuck => rw [e] at q1; exact q1.elim
  refine dc_it w (Pv := fun i H' => ∃ W' st' acc us, Inv K cl W' (wipe σ vs) H' (st'.wiped vs) ∧ Ext W1 H1 W' H' ∧ W'.ow L = none ∧ W'.F L = none ∧ H' L = some (.dK us) ∧ KvR K W'.F W'.ρ us acc ∧ RL (@dcL vs it.chk mg mt mk me inst (it.ds.drop i) acc st')) ?_ ?_ ?_ ?_
  · exact ⟨W1, st1, [], [], (I1.new0 hL).wipe rfl, Ext.new0 hL, z1, z2, upd_same, .nil, q2⟩
  · rintro i H' hi' ⟨W', st', acc, us, I', x', o1, o2, eL, r, q'⟩
    refine gy.g W' _ H' _ I' x' ?_
    cases hd : it.ds.drop i with
    | nil =>
      rw [hd] at q'
      unfold dcL at q'
      split at q'
      · assumption
      · exact q'.elim
    | cons d t =>
      rw [hd] at q'
      unfold dcL at q'
      split at q'
      · assumption
      · exact q'.elim
  · rintro i x H' H2 hi' ⟨W', st', acc, us, I', x', o1, o2, eL, r, q'⟩ y
    have ed : it.ds[i]? = some it.ds[i] := List.getElem?_eq_getElem hi'
    rw [List.drop_eq_getElem_cons hi'] at q'
    unfold dcL at q'
    split at q'
    rotate_left
    · exact q'.elim
    rename_i hc
    obtain ⟨W3, I3, x3, r3⟩ := gy.y i _ W' _ H' _ x H2 ed I' x' hc y
    refine hg W3 (wipe σ vs) H2 _ x (.dat it.ds[i]) I3 r3 _ ?_
    cases e : mg (.dat it.ds[i]) (st'.wiped vs) with
    | err e' st4 => rw [e] at q'; exact q'.elim
    | stuck => rw [e] at q'; exact q'.elim
    | ok a st4 =>
    rw [e] at q'
    intro σ4 W4 H4 I4 x4 w4
    rw [wipe_idem] at w4
    refine ⟨w4, ht W4 σ4 H4 st4 I4 _ ?_⟩
    have q' : RL ((mt st4).bind fun b st2 => if b = true then (mk st2).bind fun kv st3 => (me st3).bind fun ev st4 => dcR (fun acc => @dcL vs it.chk mg mt mk me inst (it.ds.drop (i + 1)) acc) acc (keyE kv) ev st4
      else @dcL vs it.chk mg mt mk me inst (it.ds.drop (i + 1)) acc st2) := q'
    cases e5 : mt st4 with
    | err e' st5 => rw [e5] at q'; exact q'.elim
    | stuck => rw [e5] at q'; exact q'.elim
    | ok b st5 =>
    rw [e5] at q'
    intro W5 H5 I5 x5
    have x35 : Ext W' H' W5 H5 := (x3.trans x4).trans x5
    have n5 := x35.nw L _ eL o1
    have f5 := x35.fz L _ eL o1 o2
    have e5 := x35.un L _ eL (.inl o1)
    have q' : RL (if b = true then (mk st5).bind fun kv st3 => (me st3).bind fun ev st4 => dcR (fun acc => @dcL vs it.chk mg mt mk me inst (it.ds.drop (i + 1)) acc) acc (keyE kv) ev st4
      else @dcL vs it.chk mg mt mk me inst (it.ds.drop (i + 1)) acc st5) := q'
    split at q'
    · rename_i cb
      rw [if_pos cb]
      refine hk W5 σ4 H5 st5 I5 _ ?_
      cases e6 : mk st5 with
      | err e' st6 => rw [e6] at q'; exact q'.elim
      | stuck => rw [e6] at q'; exact q'.elim
      | ok kev st6 =>
      rw [e6] at q'
      intro W6 H6 I6 x6 yv ky
      refine he W6 σ4 H6 st6 I6 _ ?_
      have q' : RL ((me st6).bind fun ev st4 => dcR (fun acc => @dcL vs it.chk mg mt mk me inst (it.ds.drop (i + 1)) acc) acc (keyE kev) ev st4) := q'
      cases e7 : me st6 with
      | err e' st7 => rw [e7] at q'; exact q'.elim
      | stuck => rw [e7] at q'; exact q'.elim
      | ok ev st7 =>
      rw [e7] at q'
      intro W7 H7 I7 x7 v kv
      have q2 : RL (dcR (fun acc => @dcL vs it.chk mg mt mk me inst (it.ds.drop (i + 1)) acc) acc (keyE kev) ev st7) := q'
      clear q'
      unfold dcR at q2
      split at q2
      rotate_left
      · exact q2.elim
      rename_i kk xd ekk
      have q' := q2
      split at q'
      rotate_left
      · exact q'.elim
      rename_i hz
      have x37 : Ext W' H' W7 H7 := (x35.trans x6).trans x7
      have e6 := x37.un L _ eL (.inl o1)
      have n6 := x37.nw L _ eL o1
      have f6 := x37.fz L _ eL o1 o2
      have r6 := r.mono x37.sF x37.rr
      exact ⟨us, kk, keyE_ok (ky.ext x7) ekk, e6, by rw [r.len]; exact hz, W7, st7, _, _, ((I7.wipe w4).tmp f6 n6), (x'.trans x37).tmp hL, n6, f6, upd_same, r6.put kv, q'⟩
    · rename_i cb
      rw [if_neg cb]
      exact ⟨W5, st5, acc, us, I5.wipe w4, x'.trans x35, n5, f5, e5, r.mono x35.sF x35.rr, q'⟩
  · rintro H' ⟨W', st', acc, us, I', x', o1, o2, eL, r, q'⟩
    rw [List.drop_length] at q'
    unfold dcL at q'
    split at q'
    · exact q' W' H' us I' x' o1 o2 eL r
    · exact q'.elim
end
theorem sw_dc {kx vx : Expr} {gs : List Comprehension} {scope : Scope} {pos py : Pos} {y : Str} {l : Nat} {env : Env} (hk : env.scope.kind = .function) (hy : env.scope.names.lookup y = some .local) (hl : (py.line == pos.line) = true)
    (ha : (scope.names.any fun (n, k) => n == y && (k == .local || k == .cell)) = false) : swapsWith (.DictComp kx vx gs scope pos) (some (.Name y py)) l env = pure true := by
  have ky : env.kindOf y = some .local := hy
  have hb : env.blockKind = .function := by unfold Env.blockKind; rw [hk]; rfl
  unfold swapsWith
  simp only [hb, ky, ha, Expr.pos, hl]
  rfl
/-- y = {..: .. for ..} -/
theorem ps_setDc {X : Cx} {i : Nat} {y : Str} {py : Pos} {kx vx tg iter : Expr} {ifs : List Expr} {scope : Scope} {own : List (Str × Nat)} {pos spos : Pos} {wi : TI} {g : TG} {tt : TT} {tk tv : TE} (hc : X.calm = true) (hN : X.N.Nodup) (hy : X.N[i]? = some y) (hyl : X.env.scope.names.lookup y = some .local)
    (hsw : swapsWith (.DictComp kx vx [⟨tg, iter, ifs, 0⟩] scope pos) (some (.Name y py)) spos.line X.env = pure true) (hi : PI X tg iter wi) (ok : BlkOk X.N X.env.scope scope own)
    (hg : ∀ (s : Shared) (H : Hp) (C : Addr) (cl : List (Str × Addr)) (fp : List Addr), PG (X.blk s H scope (compEnvC scope cl C X.env) fp) tg g) (ht : ∀ (s : Shared) (H : Hp) (C : Addr) (cl : List (Str × Addr)) (fp : List Addr), PTs (X.blk s H scope (compEnvC scope cl C X.env) fp) ifs tt)
    (hk : ∀ (s : Shared) (H : Hp) (C : Addr) (cl : List (Str × Addr)) (fp : List Addr), PE (X.blk s H scope (compEnvC scope cl C X.env) fp) kx tk)
    (he : ∀ (s : Shared) (H : Hp) (C : Addr) (cl : List (Str × Addr)) (fp : List Addr), PE (X.blk s H scope (compEnvC scope cl C X.env) fp) vx tv) (hs : ∀ x, foldedSetIterable iter X.env x = pure x := by intro _; rfl) :
    PS X (.Assign [.Name y py] (.DictComp kx vx [⟨tg, iter, ifs, 0⟩] scope pos) spos) (tAsg (tDc wi g tt tk tv (own.map (·.2))) (gName i)) := by
  refine ⟨fun pins s σ H D I h => ?_⟩
  rw [exec_Assign_Name_used _ _ _ _ hsw]
  refine wpAny_bind (wpAny_standAt (wpAny_bind ?_))
  show wpAny _ X.A (do let _ ← comprehension (.DictComp kx vx [⟨tg, iter, ifs, 0⟩] scope pos) scope X.env (firstIterPos [⟨tg, iter, ifs, 0⟩] pos) newDict false (eval iter X.env) (some (assign (.Name y py) X.env))) _ _ s
  have h : tDc wi g tt tk tv (own.map (·.2)) σ H (fun x H1 => gName i x σ H1 D.nx) := h
  refine wpAny_bind (thn (dc_core (Qf := fun _ s' => SP X pins D .next s') hc hN I hi ok hg ht hk he hs h fun L C s' m H' I' q hn f => ?_) fun _ s' hq => wpAny_pure (wpAny_pure hq))
  show wpAny _ _ (assign (.Name y py) X.env (.ref L)) _ _ _
  refine wpAny_assign_Name (store_ok2 (v := V.ref L) I' hN hy (.inl hyl) rfl (fun s2 I2 ⟨a, sb, ha⟩ => ?_) (.inr hyl))
  obtain ⟨f0, f1, f2, f3, f4, f5⟩ := f
  have haC : C ≠ a := by
    rcases ha with z | z
    · rw [z]; exact f1
    · exact fun e => f4 y a z e.symm
  refine ⟨m, hn.sameBut sb haC, fun h3 sb3 => ?_⟩
  exact ⟨_, H', I2.turned (t' := s2.toks) (fun b o hb e => (sb3.2 b hb).trans e) f0 f1 f3 f4 f5, q⟩
end Mi

set_option Elab.async false
set_option linter.all false
set_option maxRecDepth 100000
set_option maxHeartbeats 4000000
namespace Mi
open PySem PySem.Spec PyProof.Rows L2
/-! ### dicts, read by hand -/
section
variable {k : EV → St → Prop} {kx : BX → St → Prop} {kf : Fl → St → Prop} {e : Kv.Er → St → Prop} {st : St} {ma mb mc mv mo mi : M EV}
theorem ex_sm {α : Type} {a : α} {P : α → Prop} : (∃ x, some a = some x ∧ P x) = P a := propext ⟨fun ⟨_, e, h⟩ => by cases e; exact h, fun h => ⟨_, rfl, h⟩⟩
theorem ex_nn {α : Type} {P : α → Prop} : (∃ x, (none : Option α) = some x ∧ P x) = False := propext ⟨fun ⟨_, e, _⟩ => (by cases e), fun h => h.elim⟩
theorem rp_dget : Rp (mDGet ma mb st) k e = Rp (ma st) (fun a st1 => Rp (mb st1) (fun b st2 => ∃ kvs, rdct st2 a = some kvs ∧ ∃ q, keyE b = some q ∧ ∃ d, dVal kvs q = some d ∧ k (.dat d) st2) e) e := by
  unfold mDGet
  rw [rp_bind]
  congr 1
  funext a st1
  rw [rp_bind]
  congr 1
  funext b st2
  cases h1 : rdct st2 a with
  | none => rw [ex_nn]; rfl
  | some kvs =>
    rw [ex_sm]
    cases h2 : keyE b with
    | none => rw [ex_nn]; rfl
    | some q =>
      rw [ex_sm]
      dsimp only
      cases h3 : dVal kvs q with
      | none => rw [ex_nn]; rfl
      | some d => rw [ex_sm]; rfl
theorem rp_din {neg : Bool} : Rp (mDIn neg mb ma st) k e = Rp (mb st) (fun b st1 => Rp (ma st1) (fun a st2 => ∃ kvs, rdct st2 a = some kvs ∧ ∃ q, keyE b = some q ∧ k (.dat (.bl (if neg then !(dVal kvs q).isSome else (dVal kvs q).isSome))) st2) e) e := by
  unfold mDIn
  rw [rp_bind]
  congr 1
  funext b st1
  rw [rp_bind]
  congr 1
  funext a st2
  cases h1 : rdct st2 a with
  | none => rw [ex_nn]; rfl
  | some kvs =>
    rw [ex_sm]
    cases h2 : keyE b with
    | none => rw [ex_nn]; rfl
    | some q => rw [ex_sm]; rfl
theorem rp_dget1 : Rp (mDGet1 ma mb st) k e = Rp (ma st) (fun a st1 => ∃ kvs0, rdct st1 a = some kvs0 ∧ Rp (mb st1) (fun b st2 => ∃ kvs, rdct st2 a = some kvs ∧ ∃ q, keyE b = some q ∧ k (.dat ((dVal kvs q).getD .non)) st2) e) e := by
  unfold mDGet1
  rw [rp_bind]
  congr 1
  funext a st1
  cases h0 : rdct st1 a with
  | none => rw [ex_nn]; rfl
  | some kvs0 =>
    rw [ex_sm]
    dsimp only
    rw [rp_bind]
    congr 1
    funext b st2
    cases h1 : rdct st2 a with
    | none => rw [ex_nn]; rfl
    | some kvs =>
      rw [ex_sm]
      cases h2 : keyE b with
      | none => rw [ex_nn]; rfl
      | some q => rw [ex_sm]; rfl
theorem rp_dget2 : Rp (mDGet2 ma mb mc st) k e = Rp (ma st) (fun a st1 => ∃ kvs0, rdct st1 a = some kvs0 ∧ Rp (mb st1) (fun b st2 => Rp (mc st2) (fun c st3 => ∃ kvs, rdct st3 a = some kvs ∧ ∃ q, keyE b = some q ∧ ∃ x, c = .dat x ∧ k (.dat ((dVal kvs q).getD x)) st3) e) e) e := by
  unfold mDGet2
  rw [rp_bind]
  congr 1
  funext a st1
  cases h0 : rdct st1 a with
  | none => rw [ex_nn]; rfl
  | some kvs0 =>
    rw [ex_sm]
    dsimp only
    rw [rp_bind]
    congr 1
    funext b st2
    rw [rp_bind]
    congr 1
    funext c st3
    cases h1 : rdct st3 a with
    | none => rw [ex_nn]; rfl
    | some kvs =>
      rw [ex_sm]
      cases h2 : keyE b with
      | none => rw [ex_nn]; rfl
      | some q => rw [ex_sm]; cases c <;> simp [Rp]
theorem rp_setK {α : Type} {st : St} {a : EV} {b : BX} {f : St → R α} {kk : α → St → Prop} : Rp ((match setH st a b with
    | some st1 => f st1
    | none => .stuck : R α)) kk e = ∃ st1, setH st a b = some st1 ∧ Rp (f st1) kk e := by
  cases h : setH st a b with
  | none => rw [ex_nn]; rfl
  | some st1 => rw [ex_sm]
theorem rp_dput : Rp (mDPut mo mi mv st) kf e = Rp (mv st) (fun ev st1 => Rp (toD ev st1) (fun d st2 => Rp (mo st2) (fun o st3 => Rp (mi st3) (fun i st4 => ∃ kvs, ownB st4 o = some (.dct kvs) ∧ ∃ q, keyE i = some q ∧ kvs.length < sizeLine ∧ ∃ st5, setH st4 o (.dct (dPut kvs q d)) = some st5 ∧ kf .nx st5) e) e) e) e := by
  unfold mDPut
  simp only [rp_bind]
  congr 1
  funext ev st1
  congr 1
  funext d st2
  congr 1
  funext o st3
  congr 1
  funext i st4
  split
  · rename_i kvs q h1 h2
    rw [h1, h2]
    simp only [Option.some.injEq, BX.dct.injEq, exists_eq_left']
    split
    · rename_i h3
      simp only [h3, true_and]
      cases h : setH st4 o (.dct (dPut kvs q d)) with
      | none => rw [ex_nn]; rfl
      | some st5 => rw [ex_sm]; rfl
    · rename_i h3
      simp [h3, Rp]
  · rename_i h
    simp only [Rp, eq_iff_iff, false_iff]
    rintro ⟨kvs, e1, q, e2, _⟩
    exact h kvs q e1 e2
theorem rp_daug {g : D → D → Option D} : Rp (mDAug g mo mi mv st) kf e = Rp (mo st) (fun o st1 => Rp (mi st1) (fun i st2 => ∃ kvs, rdct st2 o = some kvs ∧ ∃ q, keyE i = some q ∧ ∃ x, dVal kvs q = some x ∧ Rp (mv st2) (fun b st3 => ∃ y, b = .dat y ∧ ∃ z, g x y = some z ∧ ∃ kvs', ownB st3 o = some (.dct kvs') ∧ kvs'.length < sizeLine ∧ ∃ st4, setH st3 o (.dct (dPut kvs' q z)) = some st4 ∧ kf .nx st4) e) e) e := by
  unfold mDAug
  rw [rp_bind]
  congr 1
  funext o st1
  rw [rp_bind]
  congr 1
  funext i st2
  cases h1 : rdct st2 o with
  | none => rw [ex_nn]; rfl
  | some kvs =>
    rw [ex_sm]
    cases h2 : keyE i with
    | none => rw [ex_nn]; rfl
    | some q =>
      rw [ex_sm]
      dsimp only
      cases h3 : dVal kvs q with
      | none => rw [ex_nn]; rfl
      | some x =>
        rw [ex_sm]
        dsimp only
        rw [rp_bind]
        congr 1
        funext b st3
        cases b with
        | dat y =>
          simp only [EV.dat.injEq, exists_eq_left']
          cases h4 : g x y with
          | none => rw [ex_nn]; rfl
          | some z =>
            rw [ex_sm]
            dsimp only
            split
            · rename_i kvs' h5
              rw [h5]
              simp only [Option.some.injEq, BX.dct.injEq, exists_eq_left']
              split
              · rename_i h6
                simp only [h6, true_and]
                cases h : setH st3 o (.dct (dPut kvs' q z)) with
                | none => rw [ex_nn]; rfl
                | some st5 => rw [ex_sm]; rfl
              · rename_i h6
                simp [h6, Rp]
            · rename_i h5
              simp only [Rp, eq_iff_iff, false_iff]
              rintro ⟨kvs', e1, _⟩
              exact h5 kvs' e1
        | _ => simp [Rp]
theorem rp_dnew : Rp (mDNew st) kx e = kx (.dct []) st := rfl
theorem rp_dlen : Rp (mDLen ma st) k e = Rp (ma st) (fun a st1 => ∃ kvs, ownB st1 a = some (.dct kvs) ∧ k (.dat (.int kvs.length)) st1) e := by
  unfold mDLen
  rw [rp_bind]
  congr 1
  funext a st1
  split
  · rename_i kvs h; rw [h]; simp [Rp]
  · rename_i h
    simp only [Rp, eq_iff_iff, false_iff]
    rintro ⟨kvs, e1, _⟩
    exact h kvs e1
theorem rp_dlist : Rp (mDList ma st) kx e = Rp (ma st) (fun a st1 => ∃ kvs, ownB st1 a = some (.dct kvs) ∧ kx (.lst (kvs.map fun kv => dK kv.1)) st1) e := by
  unfold mDList
  rw [rp_bind]
  congr 1
  funext a st1
  split
  · rename_i kvs h; rw [h]; simp [Rp]
  · rename_i h
    simp only [Rp, eq_iff_iff, false_iff]
    rintro ⟨kvs, e1, _⟩
    exact h kvs e1
theorem rp_dcopy : Rp (mDCopy ma st) kx e = Rp (ma st) (fun a st1 => ∃ kvs, rdct st1 a = some kvs ∧ kx (.dct kvs) st1) e := by
  unfold mDCopy
  rw [rp_bind]
  congr 1
  funext a st1
  cases h : rdct st1 a with
  | none => rw [ex_nn]; rfl
  | some kvs => rw [ex_sm]; rfl
/-- a lock: the dict at j; the body; the dict again -/
theorem rp_lock {α : Type} {me : M EV} {body : M α} {kk : α → St → Prop} {j : Nat} {kvs : List (Key × D)} {st0 : St} (h1 : me st = .ok (.dat (.ob j)) st0) (h2 : st.S[j]? = some (.bx (.dct kvs)))
    (h : Rp (body { st with S := st.S.set j (.bx (.fz kvs)) }) (fun a st3 => ∃ kvs', st3.S[j]? = some (.bx (.fz kvs')) ∧ kk a { st3 with S := st3.S.set j (.bx (.dct kvs')) }) e) : Rp (lockM me body st) kk e := by
  unfold lockM
  rw [h1]
  dsimp only
  rw [h2]
  dsimp only
  rw [rp_bind]
  refine rp_imp h (fun a st3 g => ?_) (fun _ _ z => z)
  obtain ⟨kvs', e1, g⟩ := g
  unfold unlR
  rw [e1]
  exact g
/-- the walk over its keys -/
theorem rp_keys {mg : EV → M Unit} {m1 : M Fl} {j : Nat} {kvs : List (Key × D)} {st0 : St} (I : List (Key × D) → St → Prop) (h1 : ma st = .ok (.dat (.ob j)) st0) (h2 : st0.S[j]? = some (.bx (.fz kvs))) (h0 : I kvs st0)
    (hs : ∀ q d r st, I ((q, d) :: r) st → Rp (mg (.dat (dK q)) st) (fun _ st1 => Rp (m1 st1) (LpEnd (I r) kf) e) e) (hd : ∀ st, I [] st → kf .nx st) : Rp (mFor (mIKeys ma) mg m1 st) kf e := by
  unfold mFor mIKeys
  rw [h1]
  show Rp ((match st0.S[j]? with
    | some (.bx (.fz kvs)) => R.ok ⟨kvs.map fun kv => dK kv.1, fun _ => True⟩ st0
    | _ => .stuck : R Itr).bind _) kf e
  rw [h2]
  show Rp (forL _ _ _ (kvs.map fun kv => dK kv.1) st0) kf e
  refine rp_forR (fun ds st => ∃ r, ds = r.map (fun kv : Key × D => dK kv.1) ∧ I r st) (fun _ _ _ => trivial) (fun d r st g => ?_) (fun st g => ?_) _ st0 ⟨kvs, rfl, h0⟩
  · obtain ⟨l, e1, g⟩ := g
    cases l with
    | nil => cases e1
    | cons c l =>
      obtain ⟨q, x⟩ := c
      rw [List.map_cons] at e1
      cases e1
      refine rp_imp (hs q x l st g) (fun _ st1 g => ?_) (fun _ _ z => z)
      refine rp_imp g (fun f st2 g => ?_) (fun _ _ z => z)
      cases f with
      | nx => exact ⟨l, rfl, g⟩
      | cont => exact ⟨l, rfl, g⟩
      | brk => exact g
      | ret ev => exact g
  · obtain ⟨l, e1, g⟩ := g
    cases l with
    | nil => exact hd st g
    | cons c l => cases e1
end
theorem keyE_int {i : Int} : keyE (.dat (.int i)) = some (.inl i) := rfl
theorem keyE_str {i : Str} : keyE (.dat (.str i)) = some (.inr i) := rfl
/-! ### what stands at a place -/
theorem ownB_ob {st : St} {j : Nat} {b : BX} (h : st.S[j]? = some (.bx b)) : ownB st (.dat (.ob j)) = some b := by
  unfold ownB
  dsimp only
  rw [h]
theorem rdct_ob {st : St} {j : Nat} {kvs : List (Key × D)} (h : st.S[j]? = some (.bx (.dct kvs))) : rdct st (.dat (.ob j)) = some kvs := by
  unfold rdct
  rw [ownB_ob h]
theorem rdct_fz {st : St} {j : Nat} {kvs : List (Key × D)} (h : st.S[j]? = some (.bx (.fz kvs))) : rdct st (.dat (.ob j)) = some kvs := by
  unfold rdct
  rw [ownB_ob h]
theorem setH_ob {st : St} {j : Nat} {b : BX} : setH st (.dat (.ob j)) b = some { st with S := st.S.set j (.bx b) } := rfl
section
variable {S r : List Ob} {i j : Nat} {o o' : Ob}
theorem s_eq (h : S[i]? = some o) : (S.set i o')[i]? = some o' := by
  rw [List.getElem?_set_self (List.getElem?_eq_some_iff.mp h).1]
theorem s_ne (n : i ≠ j) (h : S[j]? = some o) : (S.set i o')[j]? = some o := by rw [List.getElem?_set_ne n]; exact h
theorem s_app (h : S[i]? = some o) : (S ++ r)[i]? = some o := by rw [List.getElem?_append_left (List.getElem?_eq_some_iff.mp h).1]; exact h
theorem s_new : (S ++ o :: r)[S.length]? = some o := by rw [List.getElem?_append_right (Nat.le_refl _), Nat.sub_self]; rfl
theorem s_set_app (h : S[i]? = some o) : (S ++ r).set i o' = S.set i o' ++ r := by rw [List.set_append_left _ _ (List.getElem?_eq_some_iff.mp h).1]
theorem s_set_new : (S ++ o :: r).set S.length o' = S ++ o' :: r := by rw [List.set_append_right _ _ (Nat.le_refl _), Nat.sub_self]; rfl
theorem s_lt (h : S[i]? = some o) : i < S.length := (List.getElem?_eq_some_iff.mp h).1
theorem s_nel (h : S[i]? = some o) : i ≠ S.length := Nat.ne_of_lt (s_lt h)
end
/-! ### a table of what stands at keys -/
theorem dVal_nil {k : Key} : dVal [] k = none := rfl
theorem dVal_cons {k q : Key} {d : D} {r : List (Key × D)} : dVal ((k, d) :: r) q = if k = q then some d else dVal r q := by
  unfold dVal
  rw [List.find?_cons]
  by_cases c : k = q
  · simp [c]
  · simp [c]
theorem any_dVal (q : Key) : ∀ kvs : List (Key × D), (kvs.any fun kv => decide (kv.1 = q)) = (dVal kvs q).isSome
  | [] => rfl
  | (k, d) :: r => by
    rw [List.any_cons, dVal_cons, any_dVal q r]
    by_cases c : k = q <;> simp [c]
theorem dPut_none {kvs : List (Key × D)} {q : Key} {d : D} (h : dVal kvs q = none) : dPut kvs q d = kvs ++ [(q, d)] := by
  unfold dPut
  rw [any_dVal, h]
  rfl
theorem dPut_some {kvs : List (Key × D)} {q : Key} {d x : D} (h : dVal kvs q = some x) : dPut kvs q d = kvs.map fun kv => if kv.1 = q then (kv.1, d) else kv := by
  unfold dPut
  rw [any_dVal, h]
  rfl
theorem dVal_app {q p : Key} {d : D} : ∀ {kvs : List (Key × D)}, dVal kvs q = none → dVal (kvs ++ [(q, d)]) p = if q = p then some d else dVal kvs p
  | [], _ => by rw [List.nil_append, dVal_cons]
  | (k, x) :: r, h => by
    rw [dVal_cons] at h
    by_cases c : k = q
    · rw [if_pos c] at h; cases h
    · rw [if_neg c] at h
      rw [List.cons_append, dVal_cons, dVal_cons, dVal_app h]
      by_cases c2 : k = p
      · have : q ≠ p := fun z => c (c2.trans z.symm)
        rw [if_pos c2, if_neg this, if_pos c2]
      · rw [if_neg c2, if_neg c2]
theorem dVal_repl {q p : Key} {d : D} : ∀ {kvs : List (Key × D)}, dVal (kvs.map fun kv => if kv.1 = q then (kv.1, d) else kv) p = if q = p then (dVal kvs p).map (fun _ => d) else dVal kvs p
  | [] => by simp [dVal_nil]
  | (k, x) :: r => by
    rw [List.map_cons]
    have ih := dVal_repl (q := q) (p := p) (d := d) (kvs := r)
    by_cases c : k = q
    · simp only [c, if_true, dVal_cons]
      by_cases c2 : q = p
      · simp [c2]
      · rw [if_neg c2, if_neg c2, ih, if_neg c2, if_neg c2]
    · simp only [c, if_false, dVal_cons]
      by_cases c2 : k = p
      · have : q ≠ p := fun z => c (c2.trans z.symm)
        simp [c2, this]
      · rw [if_neg c2, if_neg c2, ih]
theorem dVal_put {kvs : List (Key × D)} {q p : Key} {d : D} : dVal (dPut kvs q d) p = if q = p then some d else dVal kvs p := by
  cases h : dVal kvs q with
  | none => rw [dPut_none h, dVal_app h]
  | some x =>
    rw [dPut_some h, dVal_repl]
    by_cases c : q = p
    · rw [if_pos c, if_pos c, ← c, h]; rfl
    · rw [if_neg c, if_neg c]
/-! ### xs.pop(), xs.pop(i) -/
section
variable {K : Frag} {cl : (Str → Addr) × Addr × Bool} {E : Kv.Er → L2.St → Hp → Prop} {W : Wd} {σ : L2.St} {H : Hp} {ta : TE} {ma : M EV}
theorem sE_mut0 {r : V → List V → Hp → VK → Prop} {f : List D → List D → Option (List D × D)} (hr : PkMut K r f) (ha : SimE K cl E ta ma) : SimE K cl E (tBM0 K "list" r ta) (mMut f ma (M.pure [])) := by
  have := sE_mut (K := K) (cl := cl) (E := E) (r := r) (f := f) (t := tNil) (mt := M.pure []) hr ha sA_nil
  exact this
def fPop (xs ys : List D) : Option (List D × D) := match ys, xs[xs.length - 1]? with
  | [], some d => some (xs.dropLast, d)
  | _, _ => none
theorem RepL.dropLast {F : Hp} {ρ : List Addr} : ∀ {vs : List V} {ds : List D}, RepL K F ρ vs ds → RepL K F ρ vs.dropLast ds.dropLast
  | _, _, .nil => .nil
  | _, _, .cons _ .nil => .nil
  | _, _, .cons r (.cons q t) => .cons r (RepL.dropLast (.cons q t))
theorem RepL.eraseIdx {F : Hp} {ρ : List Addr} : ∀ {vs : List V} {ds : List D} (n : Nat), RepL K F ρ vs ds → RepL K F ρ (vs.eraseIdx n) (ds.eraseIdx n)
  | _, _, _, .nil => .nil
  | _, _, 0, .cons _ t => t
  | _, _, n + 1, .cons r t => .cons r (RepL.eraseIdx n t)
theorem pk_pop : PkMut K rPop fPop := by
  intro W H p vs xs us ys zs d s h r ru e
  unfold fPop at e
  split at e
  · rename_i d' _ hx
    cases e
    cases ru
    obtain ⟨v, hv, rv⟩ := r.get hx
    exact ⟨_, v, r.dropLast, rv, fun Q q => ⟨p, vs, v, rfl, rfl, h, by rw [r.len]; exact hv, q⟩⟩
  · cases e
def fPopAt (xs ys : List D) : Option (List D × D) := match ys with
  | [.int i] => match seqIndex? i xs.length with
    | some k => match xs[k]? with
      | some d => if -(2 ^ 63) ≤ i ∧ i < 2 ^ 63 then some (xs.eraseIdx k, d) else none
      | none => none
    | none => none
  | _ => none
theorem pk_popAt : PkMut K rPopAt fPopAt := by
  intro W H p vs xs us ys zs d s h r ru e
  unfold fPopAt at e
  split at e
  rotate_left
  · cases e
  rename_i i
  split at e
  rotate_left
  · cases e
  rename_i k hk
  split at e
  rotate_left
  · cases e
  rename_i d' hx
  split at e
  rotate_left
  · cases e
  rename_i hb
  cases e
  obtain ⟨v, hv, rv⟩ := r.get hx
  cases ru with
  | cons h1 t =>
    cases t
    cases h1
    exact ⟨_, v, r.eraseIdx k, rv, fun Q q => ⟨p, vs, i, k, v, rfl, rfl, h, hb.1, hb.2, by rw [r.len]; exact hk, hv, q⟩⟩
end
/-! ### xs.index(y), t.index(y) -/
section
variable {K : Frag} {cl : (Str → Addr) × Addr × Bool} {E : Kv.Er → L2.St → Hp → Prop} {W : Wd} {σ : L2.St} {H : Hp} {ta tb tc : TE} {ma mb mc : M EV}
def fIdxL (x y : D) : Option D := match x with
  | .lst ds => match scV y, scL ds with
    | some v, some vs => if flatV v = true ∧ vs.all flatV = true then (vs.findIdx? fun z => eqV z v).map fun j => .int (j : Nat) else none
    | _, _ => none
  | _ => none
def fIdxT (x y : D) : Option D := match x, y with
  | .tup ds, .str z => match strsD ds with
    | some ys => (ys.findIdx? fun w => decide (w = z)).map fun j => .int (j : Nat)
    | none => none
  | _, _ => none
def mIdxL (ma mb : M EV) : M EV := fun st => (ma st).bind fun a st1 => match peek st1 a with
  | some (.lst _) => (mb st1).bind fun b st2 => match peek st2 a, b with
    | some x, .dat y => match fIdxL x y with
      | some d => .ok (.dat d) st2
      | none => .stuck
    | _, _ => .stuck
  | _ => .stuck
def mIdxT (ma mb : M EV) : M EV := fun st => (ma st).bind fun a st1 => match a with
  | .dat (.tup ds) => (mb st1).bind fun b st2 => match b with
    | .dat y => match fIdxT (.tup ds) y with
      | some d => .ok (.dat d) st2
      | none => .stuck
    | _ => .stuck
  | _ => .stuck
theorem sE_idxL (ha : SimE K cl E ta ma) (hb : SimE K cl E tb mb) : SimE K cl E (tBM K "list" (rIndex K) ta (tCons tb tNil)) (mIdxL ma mb) := by
  intro W σ H st I Q q
  refine ha W σ H st I _ (Res.imp (Res.bind q) fun a st1 W1 H1 _ I1 x1 q1 va ka => ?_)
  split at q1
  rotate_left
  · exact q1.elim
  rename_i ds0 e0
  obtain ⟨p, us0, rfl, hq0, r0⟩ := peek_ok I1 ka e0
  refine ⟨.inl ⟨rfl, _, hq0⟩, hb W1 σ H1 st1 I1 _ (Res.imp (Res.bind q1) fun b st2 W2 H2 _ I2 x2 q2 vb kb => ?_)⟩
  split at q2
  rotate_left
  · exact q2.elim
  rename_i x y e1 _
  split at q2
  rotate_left
  · exact q2.elim
  rename_i d e2
  unfold fIdxL at e2
  split at e2
  rotate_left
  · cases e2
  rename_i ds
  obtain ⟨p', us, ep, hq, r⟩ := peek_ok I2 (ka.ext x2) e1
  cases ep
  split at e2
  rotate_left
  · cases e2
  rename_i v vs ev evs
  split at e2
  rotate_left
  · cases e2
  rename_i hf
  cases ej : vs.findIdx? fun z => eqV z v with
  | none => rw [ej] at e2; cases e2
  | some j =>
    rw [ej] at e2
    cases e2
    have hus := scL_rep evs r
    subst hus
    rw [scV_rep ev kb]
    obtain ⟨hj, hz, hn⟩ := List.findIdx?_eq_some_iff_getElem.mp ej
    refine ⟨p, us, v, j, us[j], rfl, rfl, hq, hf.1, hf.2, List.getElem?_eq_getElem hj, hz, fun m z' hm ez => ?_, q2.now I2 _ (.int _)⟩
    have := hn m hm
    rw [List.getElem?_eq_getElem (by omega)] at ez
    cases ez
    simpa using this
theorem sE_idxC {a : Addr} {ds : List D} {ys : List Str} (hk : ∃ o, K.lookup a = some o ∧ o.cls = .type "tuple" ∧ o.dict = none) (h : ∀ F : Hp, SqT K F a (ys.map V.str)) (hd : ds = ys.map D.str) (hb : SimE K cl E tb mb) : SimE K cl E (tBM K "tuple" (fun x xs H Q => ∃ p, ∃ ys : List Str, ∃ z j, x = .ref p ∧ xs = [.str z] ∧ SqT K H p (ys.map V.str) ∧ ys[j]? = some z ∧ (∀ m, m < j → ys[m]? ≠ some z) ∧ Q (.int (j : Nat)) H) (tC (.ref a)) (tCons tb tNil)) (mIdxT (mC (.tup ds)) mb) := by
  subst hd
  intro W σ H st I Q q
  have q : Res K cl E W σ H ((mb st).bind fun b st2 => (match b with
    | EV.dat y => match fIdxT (.tup (ys.map D.str)) y with
      | some d => R.ok (EV.dat d) st2
      | none => R.stuck
    | _ => R.stuck : R EV)) (fun ev _ W' H' => ∀ v, EvOk K W' H' σ v ev → Q v H') := q
  refine ⟨.inr (.inl ⟨rfl, hk⟩), hb W σ H st I _ (Res.imp (Res.bind q) fun b st2 W2 H2 _ I2 x2 q2 vb kb => ?_)⟩
  split at q2
  rotate_left
  · exact q2.elim
  rename_i y
  split at q2
  rotate_left
  · exact q2.elim
  rename_i d e2
  unfold fIdxT at e2
  split at e2
  rotate_left
  · cases e2
  rename_i ds z eds
  cases eds
  rw [strsD_map] at e2
  dsimp only at e2
  cases ej : ys.findIdx? fun w => decide (w = z) with
  | none => rw [ej] at e2; cases e2
  | some j =>
    rw [ej] at e2
    cases e2
    cases kb
    obtain ⟨hj, hz, hn⟩ := List.findIdx?_eq_some_iff_getElem.mp ej
    refine ⟨a, ys, z, j, rfl, rfl, h _, ?_, fun m hm ez => ?_, q2.now I2 _ (.int _)⟩
    · rw [List.getElem?_eq_getElem hj]; exact congrArg some (by simpa using hz)
    · have := hn m hm
      rw [List.getElem?_eq_getElem (by omega)] at ez
      cases ez
      simp at this
end
section
variable {k : EV → St → Prop} {e : Kv.Er → St → Prop} {st : St} {ma mb : M EV}
theorem rp_idxL : Rp (mIdxL ma mb st) k e = Rp (ma st) (fun a st1 => ∃ ds, peek st1 a = some (.lst ds) ∧ Rp (mb st1) (fun b st2 => ∃ x, peek st2 a = some x ∧ ∃ y, b = .dat y ∧ ∃ d, fIdxL x y = some d ∧ k (.dat d) st2) e) e := by
  unfold mIdxL
  rw [rp_bind]
  congr 1
  funext a st1
  split
  · rename_i ds h
    rw [h, rp_bind]
    simp only [Option.some.injEq, D.lst.injEq, exists_eq_left']
    congr 1
    funext b st2
    cases h1 : peek st2 a with
    | none => rw [ex_nn]; rfl
    | some x =>
      rw [ex_sm]
      cases b with
      | dat y =>
        simp only [EV.dat.injEq, exists_eq_left']
        cases h2 : fIdxL x y with
        | none => rw [ex_nn]; rfl
        | some d => rw [ex_sm]; rfl
      | _ => simp [Rp]
  · rename_i h
    simp only [Rp, eq_iff_iff, false_iff]
    rintro ⟨ds, e1, _⟩
    exact h ds e1
theorem rp_idxT : Rp (mIdxT ma mb st) k e = Rp (ma st) (fun a st1 => ∃ ds, a = .dat (.tup ds) ∧ Rp (mb st1) (fun b st2 => ∃ y, b = .dat y ∧ ∃ d, fIdxT (.tup ds) y = some d ∧ k (.dat d) st2) e) e := by
  unfold mIdxT
  rw [rp_bind]
  congr 1
  funext a st1
  split
  · rename_i ds
    rw [rp_bind]
    simp only [EV.dat.injEq, D.tup.injEq, exists_eq_left']
    congr 1
    funext b st2
    cases b with
    | dat y =>
      simp only [EV.dat.injEq, exists_eq_left']
      cases h2 : fIdxT (.tup ds) y with
      | none => rw [ex_nn]; rfl
      | some d => rw [ex_sm]; rfl
    | _ => simp [Rp]
  · rename_i h
    simp only [Rp, eq_iff_iff, false_iff]
    rintro ⟨ds, e1, _⟩
    exact h ds e1
end
end Mi

set_option Elab.async false
set_option linter.all false
set_option maxRecDepth 100000
set_option maxHeartbeats 4000000
namespace Mi
open PySem PySem.Spec PyProof.Rows L2
/-! ### a def that is handed the error which a suite holds, and tells its class as a text -/
section
variable {P : Program} {w : World} {K : Frag} {mg : Str → Option Value} {base : Heap}
structure ClassOk (P : Program) (w : World) (K : Frag) (mg : Str → Option Value) (base : Heap) (T : Kv.Errs K mg) (lv : Nat) (f : Addr) (fd : FuncData) (pn : Str := "error") : Prop where
  run : ∀ (A : Around) (outer : List Env) (s : Shared) (H : Hp) (args : Args) (us : List Value) (Q : VK) (p : Addr × Obj) (er : Kv.Er), L2H.RoomH lv A → L2H.PinOk outer H s p → Zc (.ref (T.exa er)) none p.2 → (∃ vs, p.2.data = .fields vs) →
    Env0 P w K mg base A outer s H → BindsTo s fd args (([pn] : List Str).zip us) → Vals [.ref p.1] us → (∀ q, H q = none → Q (.str er.nm) (upd H q (.lst [.str er.nm]))) →
    codeAny (model P w) A (.call (.ref f) args) (CR CX0 outer P w H s Q E0) s
theorem class_of {nm pn : Str} {T : Kv.Errs K mg} {lv : Nat} {f : Addr} {fd : FuncData} {st : Stmt} {N : List Str} (F : Fun K nm nm st f fd) (S : FnScope N [pn] (defScope st))
    (hb : ∀ (cdv : Value) (A : Around) (outer : List Env) (s : Shared) (H : Hp) (Q : VK) (p : Addr × Obj) (er : Kv.Er), Zc (.ref (T.exa er)) none p.2 → (∃ vs, p.2.data = .fields vs) → (∀ q, H q = none → Q (.str er.nm) (upd H q (.lst [.str er.nm]))) →
      ∃ t, PSs (L2H.cxH CX0 P w K mg base N nm (defScope st) f cdv A outer s H E0 p) (defBody st) t ∧ t { nx := fun _ H' => Q .non H', rt := Q } (start N [.ref p.1]) H) :
    ClassOk P w K mg base T (lv + 1) f fd pn := by
  obtain ⟨oc, od, kV, doc, pm, an, cdv, ct, osl, rfl, lk, hcd⟩ := F.ex
  refine ⟨fun A outer s H args us Q p er hr hpin hz hf e0 hbi r hk => ?_⟩
  have KX : K.In s.heap := e0.mod.kin.keeps fun b o e => (e0.bs b o e).1
  have lim : s.heap.NoLimit := e0.mod.nolimit.keeps fun b o e => (e0.bs b o e).1
  have kinds : ∀ y ∈ ([pn] : List Str).zip us, (defScope st).names.lookup y.1 = some .local ∨ ((defScope st).names.lookup y.1 = some .cell ∧ ((cellsFrom (s.heap.objs.size + 1) (defScope st).names []).lookup y.1).isSome = true) := by
    intro ⟨n, v⟩ hy
    rcases S.par n (List.of_mem_zip hy).1 with z | z
    · exact .inl z
    · exact .inr ⟨z, PySem.W.cellsFrom_some _ _ _ (.inl z)⟩
  refine codeAny_call_function hr.depth (KX _ _ lk) rfl S.co S.gen rfl (PySem.W.codeRec_of KX hcd) (hbi _ _ _ _ ?_)
  refine wpAny_newFunctionEnv_cells S.kind kinds fun env he s1 x => ?_
  subst he
  refine ⟨lim.keeps x.toInCall.keep, codeAny_func ?_⟩
  obtain ⟨t, ht, hq⟩ := hb cdv A outer s H Q p er hz hf hk
  have I := L2H.inv_startH (CX := CX0) (E := E0) S hpin e0 (show ([.ref p.1] : List V).length = ([pn] : List Str).length from rfl) r x
  refine wpAny_mono (ht.run [] s1 _ H _ I hq) (fun fl s' hs => ?_) fun e s' hs => hs
  have fin : ∀ {σ' : L2.St} {H' : Hp} {v : V} {u : Value}, L2.Inv _ [] σ' H' s' → RelV v u → Q v H' → CE outer P w H s Q u s' :=
    fun {σ' H' v u} (J : L2.Inv (L2H.cxH CX0 P w K mg base N nm (defScope st) f cdv A outer s H E0 p) [] σ' H' s') rv qq => ⟨v, H', J.os, J.bare, J.base, J.hok, rv, qq⟩
  cases fl with
  | next =>
    obtain ⟨σ', H', J, qq⟩ := hs
    exact fin (v := V.non) (u := Value.none) J rfl qq
  | ret u =>
    obtain ⟨v, σ', H', J, rv, qq⟩ := hs
    exact fin J rv qq
  | brk =>
    obtain ⟨_, _, _, qq⟩ := hs
    exact qq.elim
  | cont =>
    obtain ⟨_, _, _, qq⟩ := hs
    exact qq.elim
end
section
variable {X : Cx} {CX : CXT} {f : Addr} {fd : FuncData} {lv : Nat} {x : Str} {q pos : Pos} {e : Expr} {te : TE}
def tClass {K : Frag} {mg : Str → Option Value} (T : Kv.Errs K mg) (cls : Value) (d : Option Addr) (a : Addr) (ta : TA) : TE := fun σ H Q => ta σ H fun vs H1 => vs = [.ref a] ∧ d = none ∧ ∃ er, cls = .ref (T.exa er) ∧ ∀ r, H1 r = none → Q (.str er.nm) (upd H1 r (.lst [.str er.nm]))
theorem pe_class {pn : Str} {a : Addr} {oe : Obj} {cls : Value} {d : Option Addr} {P : Program} {w : World} {K : Frag} {mg : Str → Option Value} {base : Heap} {T : Kv.Errs K mg} {ta : TA} (F : ClassOk P w K mg base T lv f fd pn) (hz : Zc cls d oe) (hf : ∃ vs, oe.data = .fields vs) (hp : (a, oe) ∈ X.pn) (hr : L2H.RoomH lv X.A) (hg : Gl X x)
    (hm : X.mg x = some (.ref f)) (hk : PySem.W.keepIn K (.ref f) = true) (hb : Binds K fd [pn] []) (ha : PA X [e] ta) (hP : X.prog = P := by rfl) (hw : X.w = w := by rfl) (hK : X.K = K := by rfl) (hM : X.mg = mg := by rfl) (hB : X.base = base := by rfl) (hdb : (x == ("__debug__" : Str)) = false := by decide)
    (he : starEach (e :: []) X.env = (false, eval e X.env) :: starEach [] X.env := by rfl) (hpl : (backTo pos (starEach [] X.env)).any (·.1) = false := by rfl) :
    PE X (.Call (.Name x q) [e] [] pos) (tClass T cls d a ta) := by
  subst hP hw hK hM hB
  refine ⟨fun pins s σ H Q I h => ?_⟩
  refine wpAny_Call_Name_kw (ld_glob I hg hm ?_ hdb)
  refine PySem.W.callWith_K (h₀ := X.base) I.ok.mod.kin hk (thn (ha.run pos pins s σ H _ I h) fun us s1 ⟨vs, H1, I1, r, e1, e2, er, e3, k⟩ => ⟨I1.kIn, ?_⟩) he hpl
  subst e1 e2 e3
  have P1 := I1.pin (a, oe) (List.mem_append.mpr (.inl hp))
  have hl : us.length = 1 := r.length.symm
  have b := hb s1 us I1.kIn (by rw [List.append_nil]; exact hl)
  rw [List.append_nil] at b
  have hpin : L2H.PinOk X.stack H1 s1 (a, oe) := ⟨P1.1, P1.2.1, fun hm => (List.mem_cons.mp (I1.stkSub a hm)).elim P1.2.2.1 P1.2.2.2.1, P1.2.2.2.2⟩
  refine wpAny_call (codeAny_mono (F.run _ X.stack s1 H1 ⟨us, []⟩ us Q (a, oe) er hr hpin hz hf I1.env0 b r k) fun r' s' hq => ?_)
  cases r' with
  | error e => exact False.elim hq
  | ok fl =>
    cases fl with
    | ret u => exact I1.after hq
    | next => exact False.elim hq
    | brk => exact False.elim hq
    | cont => exact False.elim hq
end
section
variable {K : Frag} {E : Kv.Er → L2.St → Hp → Prop} {ta : TE} {ma : M EV}
def mClass (er : Kv.Er) (me : M EV) : M EV := fun st => (me st).bind fun ev st1 => match ev with
  | .exc => .ok (.dat (.str er.nm)) st1
  | _ => .stuck
theorem sE_class {mg : Str → Option Value} {T : Kv.Errs K mg} {c : Str → Addr} {a : Addr} {er : Kv.Er} (ha : SimE K (c, a, false) E ta ma) : SimE K (c, a, false) E (tClass T (.ref (T.exa er)) none a (tCons ta tNil)) (mClass er ma) := by
  intro W σ H st I Q q
  refine ha W σ H st I _ (Res.imp (Res.bind q) fun ev st1 W1 H1 hm1 I1 x1 q1 v k => ?_)
  split at q1
  · have k : v = .ref W1.xa.1 := k
    refine ⟨by rw [k, I1.xeq], rfl, er, rfl, fun r hr => ?_⟩
    exact q1 _ _ (I1.new0 hr) (Ext.new0 hr) _ (.str _)
  · exact q1.elim
theorem rp_class {er : Kv.Er} {st : St} {k : EV → St → Prop} {e : Kv.Er → St → Prop} : Rp (mClass er ma st) k e = Rp (ma st) (fun ev st1 => ev = .exc ∧ k (.dat (.str er.nm)) st1) e := by
  unfold mClass
  rw [rp_bind]
  congr 1
  funext ev st1
  cases ev <;> simp [Rp]
end
theorem rp_sqA {kf : Fl → St → Prop} {e : Kv.Er → St → Prop} {st : St} {m1 m2 : M Fl} (h : Rp (m1 st) (SqEnd (fun st1 => Rp (m2 st1) kf e) kf) e) : Rp (mSeq m1 m2 st) kf e := by rw [rp_sq]; exact h
theorem rp_isIf {kf : Fl → St → Prop} {e : Kv.Er → St → Prop} {st : St} {mt : M Bool} {ma mb m2 : M Fl} (h : Rp (mSeq (mIfS mt ma mb) m2 st) kf e) : Rp (mSeq (mIfS mt ma mb) m2 st) kf e := h
section
variable {N : St → Prop} {kf : Fl → St → Prop} {st : St} {ev : EV}
theorem sq_nx (h : N st) : SqEnd N kf .nx st := h
theorem sq_rt (h : kf (.ret ev) st) : SqEnd N kf (.ret ev) st := h
theorem sq_bk (h : kf .brk st) : SqEnd N kf .brk st := h
theorem sq_ct (h : kf .cont st) : SqEnd N kf .cont st := h
theorem lp_nx (h : N st) : LpEnd N kf .nx st := h
theorem lp_ct (h : N st) : LpEnd N kf .cont st := h
theorem lp_bk (h : kf .nx st) : LpEnd N kf .brk st := h
theorem lp_rt (h : kf (.ret ev) st) : LpEnd N kf (.ret ev) st := h
end
theorem is_ex {α : Sort _} {p : α → Prop} (h : ∃ x, p x) : ∃ x, p x := h
theorem is_and {p q : Prop} (h : p ∧ q) : p ∧ q := h
theorem is_ite {c : Prop} [Decidable c] {A B : Prop} (h : if c then A else B) : if c then A else B := h
theorem rp_id {α : Type} {r : R α} {k : α → St → Prop} {e : Kv.Er → St → Prop} (h : Rp r k e) : Rp r k e := h
/-! ### texts and numbers among some -/
theorem scL_strs : ∀ ys : List Str, scL (ys.map D.str) = some (ys.map V.str)
  | [] => rfl
  | y :: r => by rw [List.map_cons, scL, scL_strs r]; rfl
theorem scL_ints : ∀ ys : List Int, scL (ys.map D.int) = some (ys.map V.int)
  | [] => rfl
  | y :: r => by rw [List.map_cons, scL, scL_ints r]; rfl
theorem flat_strs : ∀ ys : List Str, (ys.map V.str).all flatV = true
  | [] => rfl
  | y :: r => by rw [List.map_cons, List.all_cons, flat_strs r]; rfl
theorem flat_ints : ∀ ys : List Int, (ys.map V.int).all flatV = true
  | [] => rfl
  | y :: r => by rw [List.map_cons, List.all_cons, flat_ints r]; rfl
theorem inV_strs (r : Str) : ∀ ys : List Str, inV (.str r) (ys.map V.str) = decide (r ∈ ys)
  | [] => by simp [inV]
  | y :: t => by
    have ih := inV_strs r t
    unfold inV at ih ⊢
    rw [List.map_cons, List.any_cons, ih]
    simp only [eqV, List.mem_cons]
    by_cases c : r = y
    · subst c; simp
    · have : (y == r) = false := by simpa using fun z => c z.symm
      simp [c, this]
theorem in_strsT (neg : Bool) (r : Str) (ys : List Str) : fIn neg (.str r) (.tup (ys.map D.str)) = some (.bl (if neg then !decide (r ∈ ys) else decide (r ∈ ys))) := by
  unfold fIn
  dsimp only [scV]
  rw [scL_strs]
  dsimp only
  rw [if_pos ⟨rfl, flat_strs ys⟩, inV_strs]
theorem in_strsL (neg : Bool) (r : Str) (ys : List Str) : fIn neg (.str r) (.lst (ys.map D.str)) = some (.bl (if neg then !decide (r ∈ ys) else decide (r ∈ ys))) := by
  unfold fIn
  dsimp only [scV]
  rw [scL_strs]
  dsimp only
  rw [if_pos ⟨rfl, flat_strs ys⟩, inV_strs]
theorem in_intsL (neg : Bool) (r : Int) (ys : List Int) : fIn neg (.int r) (.lst (ys.map D.int)) = some (.bl (if neg then !decide (r ∈ ys) else decide (r ∈ ys))) := by
  unfold fIn
  dsimp only [scV]
  rw [scL_ints]
  dsimp only
  rw [if_pos ⟨rfl, flat_ints ys⟩, Kv.inV_ints]
theorem idxT_strs (r : Str) (ys : List Str) {j : Nat} (h : ys.findIdx? (fun w => decide (w = r)) = some j) : fIdxT (.tup (ys.map D.str)) (.str r) = some (.int (j : Nat)) := by
  unfold fIdxT
  dsimp only
  rw [strsD_map]
  dsimp only
  rw [h]
  rfl
theorem idxL_strs (r : Str) (ys : List Str) {j : Nat} (h : ys.findIdx? (fun w => decide (w = r)) = some j) : fIdxL (.lst (ys.map D.str)) (.str r) = some (.int (j : Nat)) := by
  unfold fIdxL
  dsimp only [scV]
  rw [scL_strs]
  dsimp only
  rw [if_pos ⟨rfl, flat_strs ys⟩, List.findIdx?_map]
  have : ((fun z => eqV z (V.str r)) ∘ V.str) = fun w => decide (w = r) := by
    funext w
    show (w == r) = _
    rw [Bool.eq_iff_iff]
    simp
  rw [this, h]
  rfl
/-! ### a def by one equation, whatever its end -/
def EndR (X : RF) : Fl → St → Prop
  | .nx, st => X = .ok (.dat .non) st.io st.S
  | .ret (.dat d), st => X = .ok (.dat d) st.io st.S
  | .ret (.tp b), st => X = .ok (.new b) st.io st.S
  | .ret (.sl i), st => ∃ b, st.env[i]? = some (some (.own b)) ∧ X = .ok (.new b) st.io st.S
  | _, _ => False
def ErrR (X : RF) : Kv.Er → St → Prop := fun x st => X = .err x st.io st.S
theorem er_nx {X : RF} {st : St} : EndR X .nx st = (X = .ok (.dat .non) st.io st.S) := rfl
theorem er_rt {X : RF} {d : D} {st : St} : EndR X (.ret (.dat d)) st = (X = .ok (.dat d) st.io st.S) := rfl
theorem er_tp {X : RF} {b : BX} {st : St} : EndR X (.ret (.tp b)) st = (X = .ok (.new b) st.io st.S) := rfl
theorem er_sl {X : RF} {i : Nat} {st : St} : EndR X (.ret (.sl i)) st = ∃ b, st.env[i]? = some (some (.own b)) ∧ X = .ok (.new b) st.io st.S := rfl
theorem er_er {X : RF} {x : Kv.Er} {st : St} : ErrR X x st = (X = .err x st.io st.S) := rfl
theorem run_is {n : Nat} {ms : M Fl} {as : List AV} {io : List BX} {S : List Ob} {X : RF}
    (h : Rp (ms ⟨as.map (fun a => some a.sv) ++ List.replicate (n - as.length) none, io, S⟩) (EndR X) (ErrR X)) : runF n ms as io S = X := by
  unfold runF
  cases e : ms ⟨as.map (fun a => some a.sv) ++ List.replicate (n - as.length) none, io, S⟩ with
  | stuck => rw [e] at h; exact h.elim
  | err x st => rw [e] at h; exact (Eq.symm h)
  | ok f st =>
    rw [e] at h
    cases f with
    | nx => exact (Eq.symm h)
    | brk => exact h.elim
    | cont => exact h.elim
    | ret ev =>
      cases ev with
      | dat d => exact (Eq.symm h)
      | tp b => exact (Eq.symm h)
      | sl i =>
        obtain ⟨b, e1, h⟩ := h
        dsimp only
        rw [e1]
        exact (Eq.symm h)
      | _ => exact h.elim
theorem run_isN {n : Nat} {ms : M Fl} {as : List AV} {io : List BX} {S : List Ob} {X : RF}
    (h : Rp (ms ⟨as.map (fun a => some a.sv) ++ List.replicate (n - as.length) none, io, S⟩) (EndR X) (fun _ _ => False)) : noErrF (runF n ms) as io S = X := by
  have h2 := run_is (X := X) (rp_imp h (fun _ _ z => z) (fun _ _ z => z.elim))
  unfold noErrF
  rw [h2]
  cases X with
  | err x io' S' =>
    exfalso
    cases e : ms ⟨as.map (fun a => some a.sv) ++ List.replicate (n - as.length) none, io, S⟩ with
    | stuck => rw [e] at h; exact h.elim
    | err x st => rw [e] at h; exact h.elim
    | ok f st =>
      rw [e] at h
      cases f with
      | nx => cases h
      | brk => exact h.elim
      | cont => exact h.elim
      | ret ev =>
        cases ev with
        | dat d => cases h
        | tp b => cases h
        | sl i => obtain ⟨b, _, h⟩ := h; cases h
        | _ => exact h.elim
  | ok _ _ _ => rfl
  | stuck => rfl
/-- what a caller goes on with -/
def RpF (X : RF) (st : St) (kx : EV ⊕ BX → St → Prop) (e : Kv.Er → St → Prop) : Prop := match X with
  | .ok (.dat d) [] S' => kx (.inl (.dat d)) { st with S := S' }
  | .ok (.new b) [] S' => kx (.inr b) { st with S := S' }
  | .err x [] S' => e x { st with S := S' }
  | _ => False
section
variable {st : St} {kx : EV ⊕ BX → St → Prop} {e : Kv.Er → St → Prop}
theorem rpF_ok {d : D} {S' : List Ob} : RpF (.ok (.dat d) [] S') st kx e = kx (.inl (.dat d)) { st with S := S' } := rfl
theorem rpF_new {b : BX} {S' : List Ob} : RpF (.ok (.new b) [] S') st kx e = kx (.inr b) { st with S := S' } := rfl
theorem rpF_err {x : Kv.Er} {S' : List Ob} : RpF (.err x [] S') st kx e = e x { st with S := S' } := rfl
theorem rpF_ite {c : Prop} [Decidable c] {A B : RF} : RpF (if c then A else B) st kx e = if c then RpF A st kx e else RpF B st kx e := by split <;> rfl
theorem rfE_some {er : Kv.Er} {io : List BX} {S : List Ob} {d : D} : rfE er io S (some d) = .ok (.dat d) io S := rfl
theorem rfE_none {er : Kv.Er} {io : List BX} {S : List Ob} : rfE er io S none = .err er io S := rfl
theorem rfE_ite {c : Prop} [Decidable c] {er : Kv.Er} {io : List BX} {S : List Ob} {a b : Option D} : rfE er io S (if c then a else b) = if c then rfE er io S a else rfE er io S b := by split <;> rfl
theorem rp_callIs {n : Nat} {m : Fn} {evs : List EV} {as : List AV} {X : RF} (h : m as [] st.S = X) (hs : splitA st 0 evs = some (as, [], [])) (hn : as.length = n) (hk : RpF X st kx e) : Rp (callR n m evs st) kx e := by
  unfold callR
  rw [hs]
  dsimp only
  rw [if_pos ⟨by simp [tagsOf], hn⟩, h]
  cases X with
  | stuck => exact hk.elim
  | err x io S' =>
    cases io with
    | nil => exact hk
    | cons _ _ => exact hk.elim
  | ok rv io S' =>
    cases rv with
    | io k => exact hk.elim
    | dat d =>
      cases io with
      | nil => exact hk
      | cons _ _ => exact hk.elim
    | new b =>
      cases io with
      | nil => exact hk
      | cons _ _ => exact hk.elim
end
theorem ownB_sl {st : St} {i : Nat} : ownB st (.sl i) = (match st.env[i]? with
    | some (some (.own b)) => some b
    | _ => none) := rfl
theorem ownB_io {st : St} {k : Nat} : ownB st (.io k) = st.io[k]? := rfl
/-! ### steps at an object, for the walk -/
section
variable {st : St} {c f m : Str} {j : Nat} {fs : List (Str × FV)} {d : D} {kvs : List (Key × D)} {ds : List D}
theorem ob_fld {k : D → Prop} (h : st.S[j]? = some (.ins c fs)) (hl : fs.lookup f = some (.dat d)) (hk : k d) : ∃ j' fs', obFs st c (.dat (.ob j)) = some (j', fs') ∧ ∃ d', fs'.lookup f = some (.dat d') ∧ k d' := ⟨_, _, obF_of h, _, hl, hk⟩
theorem ob_rd {k : List (Key × D) → Prop} (h : st.S[j]? = some (.bx (.dct kvs))) (hk : k kvs) : ∃ q, rdct st (.dat (.ob j)) = some q ∧ k q := ⟨_, rdct_ob h, hk⟩
theorem ob_rz {k : List (Key × D) → Prop} (h : st.S[j]? = some (.bx (.fz kvs))) (hk : k kvs) : ∃ q, rdct st (.dat (.ob j)) = some q ∧ k q := ⟨_, rdct_fz h, hk⟩
theorem ob_ownD {k : List (Key × D) → Prop} (h : st.S[j]? = some (.bx (.dct kvs))) (hk : k kvs) : ∃ q, ownB st (.dat (.ob j)) = some (.dct q) ∧ k q := ⟨_, ownB_ob h, hk⟩
theorem ob_ownL {k : List D → Prop} (h : st.S[j]? = some (.bx (.lst ds))) (hk : k ds) : ∃ q, ownB st (.dat (.ob j)) = some (.lst q) ∧ k q := ⟨_, ownB_ob h, hk⟩
theorem ob_meth {k : Prop} (h : st.S[j]? = some (.ins c fs)) (hm : fs.lookup m = none) (hk : k) : obM st c m (.dat (.ob j)) = true ∧ k := ⟨obM_of h hm, hk⟩
theorem ob_set {k : Nat → List (Str × FV) → Prop} (h : st.S[j]? = some (.ins c fs)) (hl : fs.length < 1000) (hk : k j fs) : ∃ j' fs', obFs st c (.dat (.ob j)) = some (j', fs') ∧ fs'.length < 1000 ∧ k j' fs' := ⟨_, _, obF_of h, hl, hk⟩
theorem ob_peek {k : D → Prop} (h : st.S[j]? = some (.bx (.lst ds))) (hk : k (.lst ds)) : ∃ x, peek st (.dat (.ob j)) = some x ∧ k x := ⟨_, peek_ob h, hk⟩
theorem ob_peekL {k : List D → Prop} (h : st.S[j]? = some (.bx (.lst ds))) (hk : k ds) : ∃ x, peek st (.dat (.ob j)) = some (.lst x) ∧ k x := ⟨_, peek_ob h, hk⟩
end
theorem nx_exc {d : D} : (∀ z : EV, EV.dat d = z → z ≠ EV.exc) = True := eq_true fun z e => by subst e; exact fun h => by cases h
theorem sz0 {n : Nat} (h : n ≤ 100000) : n ≤ sizeLine := Nat.le_trans h (by decide)
theorem sz0t {n : Nat} (h : n ≤ 100000) : n < sizeLine := Nat.lt_of_le_of_lt h (by decide)
theorem ne_bb {a b : Bool} : fNe (.bl a) (.bl b) = some (.bl (!decide (a = b))) := by cases a <;> cases b <;> rfl
theorem eq_bb {a b : Bool} : fEq (.bl a) (.bl b) = some (.bl (decide (a = b))) := by cases a <;> cases b <;> rfl
theorem sz_and {n : Nat} {P : Prop} (h : n ≤ 100000) (k : P) : n ≤ sizeLine ∧ P := ⟨Nat.le_trans h (by decide), k⟩
theorem sz_andt {n : Nat} {P : Prop} (h : n ≤ 100000) (k : P) : n < sizeLine ∧ P := ⟨Nat.lt_of_le_of_lt h (by decide), k⟩
theorem nm_1 : Kv.Er.nm .badValue = "BadValue" := rfl
theorem nm_2 : Kv.Er.nm .badDay = "BadDay" := rfl
theorem nm_3 : Kv.Er.nm .missing = "Missing" := rfl
theorem nm_4 : Kv.Er.nm .refused = "Refused" := rfl
theorem nm_5 : Kv.Er.nm .full = "Full" := rfl
theorem nm_6 : Kv.Er.nm .notAllowed = "NotAllowed" := rfl
theorem nm_7 : Kv.Er.nm .damaged = "Damaged" := rfl
end Mi

set_option Elab.async false
set_option linter.all false
set_option maxRecDepth 100000
set_option maxHeartbeats 4000000
namespace Mi
open PySem PySem.Spec PyProof.Rows L2
section
variable {K : Frag} {cl : (Str → Addr) × Addr × Bool} {E : Kv.Er → L2.St → Hp → Prop} {W : Wd} {σ : L2.St} {H : Hp} {ta tb tc : TE} {ma mb mc : M EV}
/-! ### t[a:b] of a tuple, not all of it -/
def mSlA (ma : M EV) (ml mh : M (Option Int)) : M EV := fun st => (ma st).bind fun a st1 => (ml st1).bind fun lo st2 => (mh st2).bind fun hi st3 => match a with
  | .dat (.tup ds) => if ¬ (HT.sIx ds.length 0 lo = 0 ∧ HT.sIx ds.length ds.length hi = ds.length) then .ok (.dat (.tup (cutD ds lo hi))) st3 else .stuck
  | _ => .stuck
theorem sE_slA {tl th : TO} {ml mh : M (Option Int)} (ha : SimE K cl E ta ma) (hl : SimO K cl E tl ml) (hh : SimO K cl E th mh) : SimE K cl E (tSl (rSlT K) ta tl th) (mSlA ma ml mh) := by
  intro W σ H st I Q q
  refine ha W σ H st I _ (Res.imp (Res.bind q) fun a st1 W1 H1 hm1 I1 x1 q1 va ka => ?_)
  refine hl W1 σ H1 st1 I1 _ (Res.imp (Res.bind q1) fun lo st2 W2 H2 hm2 I2 x2 q2 => ?_)
  refine hh W2 σ H2 st2 I2 _ (Res.imp (Res.bind q2) fun hi st3 W3 H3 hm3 I3 x3 q3 => ?_)
  split at q3
  · rename_i ds
    cases ka with
    | @tup p vs _ ht r =>
    split at q3
    · rename_i hc
      refine ⟨p, vs, rfl, Kv.same_tup ((x2.sF.trans x3.sF).trans I3.sub) ht, by rw [r.len]; exact hc, fun p hp => ?_⟩
      have r3 := (r.ext x2).ext x3
      refine q3 _ _ (I3.new hp) (Ext.new I3 hp) _ (.tup (SqT.of upd_same) ?_)
      unfold cutV cutD
      rw [r.len]
      exact ((r3.drop _).take _).mono (Kv.same_upd (I3.free hp).2) (List.prefix_refl _)
    · exact q3.elim
  · exact q3.elim
/-! ### tuple(xs) -/
def mTupOf (ma : M EV) : M EV := fun st => (ma st).bind fun a st1 => match peek st1 a with
  | some (.lst ds) => .ok (.dat (.tup ds)) st1
  | some (.tup ds) => .ok (.dat (.tup ds)) st1
  | _ => .stuck
theorem sE_tupOf (ha : SimE K cl E ta ma) : SimE K cl E (tCB (fun xs H Q => ∃ p ys, xs = [.ref p] ∧ ((SqL K H p ys ∧ ∀ l, H l = none → Q (.ref l) (upd H l (.tup ys))) ∨ (SqT K H p ys ∧ Q (.ref p) H))) (tCons ta tNil)) (mTupOf ma) := by
  intro W σ H st I Q q
  refine ha W σ H st I _ (Res.imp (Res.bind q) fun a st1 W1 H1 hm1 I1 x1 q1 va ka => ?_)
  split at q1
  · rename_i ds e
    obtain ⟨p, vs, rfl, hq, r⟩ := peek_ok I1 ka e
    refine ⟨p, vs, rfl, .inl ⟨hq, fun l hp => ?_⟩⟩
    exact q1 _ _ (I1.new hp) (Ext.new I1 hp) _ (.tup (SqT.of upd_same) (r.mono (Kv.same_upd (I1.free hp).2) (List.prefix_refl _)))
  · rename_i ds e
    have k := peek_ok I1 ka e
    cases k with
    | @tup p vs _ ht r => exact ⟨p, vs, rfl, .inr ⟨Kv.same_tup I1.sub ht, q1.now I1 _ (.tup ht r)⟩⟩
  · exact q1.elim
/-! ### xs[i] op= e -/
def mAugL (f : D → D → Option D) (mo mi me : M EV) : M Fl := fun st => (mo st).bind fun o st1 => (mi st1).bind fun i st2 => match peek st2 o, i with
  | some (.lst xs), .dat (.int k) => if 0 ≤ k then match xs[k.toNat]? with
    | some x => (me st2).bind fun b st3 => match b with
      | .dat y => match f x y with
        | some z => match ownB st3 o with
          | some (.lst xs') => match ixN xs'.length k with
            | some j => match setH st3 o (.lst (xs'.set j z)) with
              | some st4 => .ok .nx st4
              | none => .stuck
            | none => .stuck
          | _ => .stuck
        | none => .stuck
      | _ => .stuck
    | none => .stuck
    else .stuck
  | _, _ => .stuck
def AuIp (tip : TIp) (g : D → D → Option D) : Prop := ∀ x y z, g x y = some z → ∃ vx vy vz, scV x = some vx ∧ scV y = some vy ∧ scV z = some vz ∧ ∀ H (Q : VK), Q vz H → tip vx vy H Q
theorem ai_of {g : Int → Int → Int} : AuIp (ipI g) (iOp (fun _ _ => True) fun i j => .int (g i j)) := fun x y z e => by
  cases x <;> cases y <;> simp only [iOp, reduceCtorEq] at e
  simp only [if_pos, Option.some.injEq] at e
  subst e
  exact ⟨_, _, _, rfl, rfl, rfl, fun H Q q => ⟨_, _, rfl, rfl, q⟩⟩
theorem sS_augL {to ti te : TE} {mo mi me : M EV} {tip : TIp} {g : D → D → Option D} (hg : AuIp tip g) (ho : SimE K cl E to mo) (hi : SimE K cl E ti mi) (he : SimE K cl E te me) : SimS K cl E (tAugS to ti te (Kv.rGetL K) tip rSetL) (mAugL g mo mi me) := by
  intro W σ H st I D q
  refine ho W σ H st I _ (Res.imp (ResS.bind q) fun o st1 W1 H1 _ I1 x1 q1 vo ko => ?_)
  refine hi W1 σ H1 st1 I1 _ (Res.imp (ResS.bind q1) fun i st2 W2 H2 _ I2 x2 q2 vi ki => ?_)
  split at q2
  rotate_left
  · exact q2.elim
  rename_i xs k e1 _
  split at q2
  rotate_left
  · exact q2.elim
  rename_i k0
  split at q2
  rotate_left
  · exact q2.elim
  rename_i x ex
  obtain ⟨p, us, rfl, hq, r⟩ := peek_ok I2 (ko.ext x2) e1
  cases ki
  obtain ⟨v, ev, rv⟩ := r.get ex
  refine ⟨p, us, k, v, rfl, rfl, hq, k0, ev, he W2 σ H2 st2 I2 _ (Res.imp (ResS.bind q2) fun b st3 W3 H3 _ I3 x3 q3 vb kb => ?_)⟩
  split at q3
  rotate_left
  · exact q3.elim
  rename_i y _
  split at q3
  rotate_left
  · exact q3.elim
  rename_i z ez
  obtain ⟨vx, vy, vz, ex, ey, ed, kk⟩ := hg x y z ez
  rw [scV_rep ex rv, scV_rep ey kb]
  refine kk H3 _ ?_
  split at q3
  rotate_left
  · exact q3.elim
  rename_i xs' e4
  split at q3
  rotate_left
  · exact q3.elim
  rename_i j ej
  obtain ⟨p', t, ep, ho', hn, ⟨us', h1, r1⟩, hm⟩ := own_mut I3 ((ko.ext x2).ext x3) e4
  cases ep
  obtain ⟨st4, e5, I5⟩ := hm (.lst (us'.set j vz)) (.lst (xs'.set j z)) (BxOk.new (RepL.set (scV_mk ed) j r1))
  rw [e5] at q3
  exact ⟨p, us', k, j, rfl, rfl, h1, by rw [r1.len]; exact ej, q3 σ W3 _ I5 (Ext.mut ho' hn (nofz h1 nofz_lst))⟩
end
section
variable {k : EV → St → Prop} {kf : Fl → St → Prop} {e : Kv.Er → St → Prop} {st : St} {ma mo mi me : M EV} {ml mh : M (Option Int)}
theorem rp_slA : Rp (mSlA ma ml mh st) k e = Rp (ma st) (fun a st1 => Rp (ml st1) (fun lo st2 => Rp (mh st2) (fun hi st3 => ∃ ds, a = .dat (.tup ds) ∧ ¬ (HT.sIx ds.length 0 lo = 0 ∧ HT.sIx ds.length ds.length hi = ds.length) ∧ k (.dat (.tup (cutD ds lo hi))) st3) e) e) e := by
  unfold mSlA
  simp only [rp_bind]
  congr 1
  funext a st1
  congr 1
  funext lo st2
  congr 1
  funext hi st3
  split
  · rename_i ds
    simp only [EV.dat.injEq, D.tup.injEq, exists_eq_left']
    split
    · rename_i h; simp only [h, not_false_eq_true, true_and]; rfl
    · rename_i h; simp only [h, false_and]; rfl
  · rename_i h
    simp only [Rp, eq_iff_iff, false_iff]
    rintro ⟨ds, e1, _⟩
    exact h ds e1
theorem rp_tupOf : Rp (mTupOf ma st) k e = Rp (ma st) (fun a st1 => ∃ x, peek st1 a = some x ∧ ∃ ds, (x = .lst ds ∨ x = .tup ds) ∧ k (.dat (.tup ds)) st1) e := by
  unfold mTupOf
  rw [rp_bind]
  congr 1
  funext a st1
  split
  · rename_i ds h; rw [h, ex_sm]; simp [Rp]
  · rename_i ds h; rw [h, ex_sm]; simp [Rp]
  · rename_i h1 h2
    simp only [Rp, eq_iff_iff, false_iff]
    rintro ⟨x, e1, ds, e2, _⟩
    rcases e2 with rfl | rfl
    · exact h1 ds e1
    · exact h2 ds e1
theorem rp_augL {f : D → D → Option D} : Rp (mAugL f mo mi me st) kf e = Rp (mo st) (fun o st1 => Rp (mi st1) (fun i st2 => ∃ xs, peek st2 o = some (.lst xs) ∧ ∃ kk, i = .dat (.int kk) ∧ 0 ≤ kk ∧ ∃ x, xs[kk.toNat]? = some x ∧ Rp (me st2) (fun b st3 => ∃ y, b = .dat y ∧ ∃ z, f x y = some z ∧ ∃ xs', ownB st3 o = some (.lst xs') ∧ ∃ j, ixN xs'.length kk = some j ∧ ∃ st4, setH st3 o (.lst (xs'.set j z)) = some st4 ∧ kf .nx st4) e) e) e := by
  unfold mAugL
  simp only [rp_bind]
  congr 1
  funext o st1
  congr 1
  funext i st2
  split
  · rename_i xs kk h1
    rw [h1]
    simp only [Option.some.injEq, D.lst.injEq, exists_eq_left', EV.dat.injEq, D.int.injEq]
    split
    · rename_i h2
      simp only [h2, true_and]
      cases h3 : xs[kk.toNat]? with
      | none => rw [ex_nn]; rfl
      | some x =>
        rw [ex_sm]
        dsimp only
        rw [rp_bind]
        congr 1
        funext b st3
        cases b with
        | dat y =>
          simp only [EV.dat.injEq, exists_eq_left']
          cases h4 : f x y with
          | none => rw [ex_nn]; rfl
          | some z =>
            rw [ex_sm]
            dsimp only
            split
            · rename_i xs' h5
              rw [h5]
              simp only [Option.some.injEq, BX.lst.injEq, exists_eq_left']
              cases h6 : ixN xs'.length kk with
              | none => rw [ex_nn]; rfl
              | some j =>
                rw [ex_sm]
                dsimp only
                cases h7 : setH st3 o (.lst (xs'.set j z)) with
                | none => rw [ex_nn]; rfl
                | some st4 => rw [ex_sm]; rfl
            · rename_i h5
              simp only [Rp, eq_iff_iff, false_iff]
              rintro ⟨xs', e1, _⟩
              exact h5 xs' e1
        | _ => simp [Rp]
    · rename_i h2
      simp [h2, Rp]
  · rename_i h
    simp only [Rp, eq_iff_iff, false_iff]
    rintro ⟨xs, e1, kk, e2, _⟩
    exact h xs kk e1 e2
end
theorem op_catK {X : Cx} {K : Frag} (hK : X.K = K := by rfl) : OpR X (binaryOp .Add) (Kv.rCatS K) := by subst hK; exact Kv.op_catS
end Mi

set_option Elab.async false
set_option linter.all false
set_option autoImplicit false
set_option maxRecDepth 100000
open PySem PySem.Spec PyProof.Rows L2
namespace Mi
/-! ### max and min of a list of whole numbers; a field read inside a comprehension -/
theorem pe_fldK (K : PySem.W.Frag) {X : Cx} {e : Expr} {f : String} {ta : TE} {pos : Pos} (he : PE X e ta) (hb : attributeBase e f X.env (eval e X.env) = eval e X.env) (h : X.K = K := by rfl) : PE X (.Attribute e f pos) (tFld K ta f) := by
  subst h
  exact pe_fld he hb
def maxI : Int → List Int → Int
  | m, [] => m
  | m, x :: r => maxI (if x > m then x else m) r
def minI : Int → List Int → Int
  | m, [] => m
  | m, x :: r => minI (if x < m then x else m) r
theorem maxI_le : ∀ (r : List Int) (m : Int), m ≤ maxI m r ∧ (∀ y ∈ r, y ≤ maxI m r) ∧ (maxI m r = m ∨ maxI m r ∈ r)
  | [], m => ⟨Int.le_refl _, fun _ h => (nomatch h), .inl rfl⟩
  | x :: r, m => by
    obtain ⟨h1, h2, h3⟩ := maxI_le r (if x > m then x else m)
    rw [maxI]
    refine ⟨?_, ?_, ?_⟩
    · split at h1 <;> split <;> omega
    · intro y hy
      rcases List.mem_cons.mp hy with rfl | hy
      · split at h1 <;> split <;> omega
      · exact h2 y hy
    · rcases h3 with h3 | h3
      · by_cases c : x > m
        · rw [if_pos c] at h3 ⊢
          exact .inr (by rw [h3]; exact List.mem_cons_self)
        · rw [if_neg c] at h3 ⊢
          exact .inl h3
      · exact .inr (List.mem_cons_of_mem _ h3)
theorem minI_le : ∀ (r : List Int) (m : Int), minI m r ≤ m ∧ (∀ y ∈ r, minI m r ≤ y) ∧ (minI m r = m ∨ minI m r ∈ r)
  | [], m => ⟨Int.le_refl _, fun _ h => (nomatch h), .inl rfl⟩
  | x :: r, m => by
    obtain ⟨h1, h2, h3⟩ := minI_le r (if x < m then x else m)
    rw [minI]
    refine ⟨?_, ?_, ?_⟩
    · split at h1 <;> split <;> omega
    · intro y hy
      rcases List.mem_cons.mp hy with rfl | hy
      · split at h1 <;> split <;> omega
      · exact h2 y hy
    · rcases h3 with h3 | h3
      · by_cases c : x < m
        · rw [if_pos c] at h3 ⊢
          exact .inr (by rw [h3]; exact List.mem_cons_self)
        · rw [if_neg c] at h3 ⊢
          exact .inl h3
      · exact .inr (List.mem_cons_of_mem _ h3)
def maxL : List Int → Option D
  | [] => none
  | x :: r => some (.int (maxI x r))
def minL : List Int → Option D
  | [] => none
  | x :: r => some (.int (minI x r))
def fMaxL : List D → Option D
  | [.lst ds] => (intsD ds).bind maxL
  | _ => none
def fMinL : List D → Option D
  | [.lst ds] => (intsD ds).bind minL
  | _ => none
section
variable {K : PySem.W.Frag}
theorem pk_maxL : PkC K (rMax K) fMaxL := by
  intro W H vs ds d s ks e
  unfold fMaxL at e
  split at e
  · rename_i es
    cases ks with
    | cons k t =>
      cases t
      obtain ⟨a, us, rfl, q, r⟩ := k
      cases c : intsD es with
      | none => rw [c] at e; cases e
      | some ns =>
        rw [c] at e
        cases ns with
        | nil => cases e
        | cons x l =>
          cases e
          rw [intsD_rep c r] at q
          refine ⟨_, .int _, fun Q k => ⟨a, x :: l, rfl, q, Nat.succ_pos _, fun m hm hle => ?_⟩⟩
          obtain ⟨h1, h2, h3⟩ := maxI_le l x
          have : m = maxI x l := by
            apply Int.le_antisymm
            · rcases List.mem_cons.mp hm with rfl | hm
              · exact h1
              · exact h2 _ hm
            · refine hle _ ?_
              rcases h3 with h3 | h3
              · rw [h3]; exact List.mem_cons_self
              · exact List.mem_cons_of_mem _ h3
          rw [this]
          exact k
  · cases e
theorem pk_minL : PkC K (rMin K) fMinL := by
  intro W H vs ds d s ks e
  unfold fMinL at e
  split at e
  · rename_i es
    cases ks with
    | cons k t =>
      cases t
      obtain ⟨a, us, rfl, q, r⟩ := k
      cases c : intsD es with
      | none => rw [c] at e; cases e
      | some ns =>
        rw [c] at e
        cases ns with
        | nil => cases e
        | cons x l =>
          cases e
          rw [intsD_rep c r] at q
          refine ⟨_, .int _, fun Q k => ⟨a, x :: l, rfl, q, Nat.succ_pos _, fun m hm hle => ?_⟩⟩
          obtain ⟨h1, h2, h3⟩ := minI_le l x
          have : m = minI x l := by
            apply Int.le_antisymm
            · refine hle _ ?_
              rcases h3 with h3 | h3
              · rw [h3]; exact List.mem_cons_self
              · exact List.mem_cons_of_mem _ h3
            · rcases List.mem_cons.mp hm with rfl | hm
              · exact h1
              · exact h2 _ hm
          rw [this]
          exact k
  · cases e
theorem fMaxL_some (x : Int) (r : List Int) : fMaxL [.lst ((x :: r).map D.int)] = some (.int (maxI x r)) := by
  show (intsD ((x :: r).map D.int)).bind maxL = _
  rw [intsD_map]
  rfl
theorem fMinL_some (x : Int) (r : List Int) : fMinL [.lst ((x :: r).map D.int)] = some (.int (minI x r)) := by
  show (intsD ((x :: r).map D.int)).bind minL = _
  rw [intsD_map]
  rfl
end
/-! ### more walks and comprehensions, read -/
section
variable {vs : List Nat} {mg : EV → M Unit} {me ma : M EV} {mt : M Bool} {m1 : M Fl} {kf : Fl → St → Prop} {e : Kv.Er → St → Prop} {st : St} {mas : M (List EV)}
theorem rp_zip_it (I : List D → St → Prop) (h : Rp (mas st) (fun as st1 => ∃ xs ys, as = [.dat (.lst xs), .dat (.lst ys)] ∧ I (zipD xs ys) st1) e) (hs : ∀ d r st, I (d :: r) st → Rp (mg (.dat d) st) (fun _ st1 => Rp (m1 st1) (LpEnd (I r) kf) e) e) (hd : ∀ st, I [] st → kf .nx st) : Rp (mFor (mIZip mas) mg m1 st) kf e := by
  unfold mFor mIZip
  rw [rp_bind, rp_bind]
  refine rp_imp h (fun as st1 g => ?_) (fun _ _ z => z)
  obtain ⟨xs, ys, rfl, h1⟩ := g
  dsimp only
  rw [rp_ite, if_neg (by simp [isSl])]
  simp only [peek]
  rw [rp_ok]
  exact rp_forR I (fun _ _ _ => by simp) hs hd _ st1 h1
theorem rp_enum_it (I : List D → St → Prop) (h : Rp (mas st) (fun as st1 => ∃ xs, as = [.dat (.lst xs)] ∧ I (enumD 0 xs) st1) e) (hs : ∀ d r st, I (d :: r) st → Rp (mg (.dat d) st) (fun _ st1 => Rp (m1 st1) (LpEnd (I r) kf) e) e) (hd : ∀ st, I [] st → kf .nx st) : Rp (mFor (mIEnum mas) mg m1 st) kf e := by
  unfold mFor mIEnum
  rw [rp_bind, rp_bind]
  refine rp_imp h (fun as st1 g => ?_) (fun _ _ z => z)
  obtain ⟨xs, rfl, h1⟩ := g
  dsimp only
  rw [rp_ite, if_neg (by simp [isSl])]
  simp only [peek]
  rw [rp_ok]
  exact rp_forR I (fun _ _ _ => trivial) hs hd _ st1 h1
open Classical in
theorem rp_lc_lst (I : List D → List D → St → Prop) {a : EV} {ds : List D} {st0 : St} {kx : BX → St → Prop} (h1 : ma st = .ok a st0) (ns : isSl a = false) (hp : peek st0 a = some (.lst ds)) (h0 : I ds [] st0) (hc : ∀ r acc st', I r acc st' → peek (st'.wiped vs) a = some (.lst ds))
    (hs : ∀ d r acc st', I (d :: r) acc st' → Rp (mg (.dat d) (st'.wiped vs)) (fun _ st1 => Rp (mt st1) (fun b st2 => if b = true then Rp (me st2) (fun ev st3 => Rp (toD ev st3) (fun x st4 => acc.length < sizeLine ∧ I r (acc ++ [x]) st4) (fun _ _ => False)) (fun _ _ => False) else I r acc st2) (fun _ _ => False)) (fun _ _ => False))
    (hd : ∀ acc st', I [] acc st' → kx (.lst acc) { st' with env := restE st0.env st'.env vs }) : Rp (mLc vs (mIList ma) mg mt me st) kx e := by
  refine rp_lcF (it := ⟨ds, fun st2 => peek st2 a = some (.lst ds)⟩) (st0 := st0) ?_ ?_
  · unfold mIList
    rw [h1]
    show (if isSl a = true then R.stuck else match peek st0 a with
      | some (.lst ds) => R.ok ⟨ds, fun st2 => peek st2 a = some (.lst ds)⟩ st0
      | _ => .stuck : R Itr) = _
    rw [if_neg (by rw [ns]; decide), hp]
  · exact rp_lcFl I hc hs (fun acc st' g => hd acc st' g) ds [] st0 h0
theorem rp_lst_pk (I : List D → St → Prop) (h : Rp (ma st) (fun ev st1 => isSl ev = false ∧ ∃ ds, peek st1 ev = some (.lst ds) ∧ I ds st1 ∧ ∀ r st', I r st' → peek st' ev = some (.lst ds)) e) (hs : ∀ d r st, I (d :: r) st → Rp (mg (.dat d) st) (fun _ st1 => Rp (m1 st1) (LpEnd (I r) kf) e) e) (hd : ∀ st, I [] st → kf .nx st) : Rp (mFor (mIList ma) mg m1 st) kf e := by
  unfold mFor mIList
  rw [rp_bind, rp_bind]
  refine rp_imp h (fun ev st1 g => ?_) (fun _ _ z => z)
  obtain ⟨ns, ds, h1, h2, h3⟩ := g
  rw [rp_ite, if_neg (by rw [ns]; decide), h1]
  dsimp only
  rw [rp_ok]
  exact rp_forR I h3 hs hd ds st1 h2
theorem rp_callME {n : Nat} {m : Fn} {evs : List EV} {kx : EV ⊕ BX → St → Prop} {as : List AV} {hs : List EV} {bs io : List BX} {S : List Ob} {x : Kv.Er} (hm : m as bs st.S = .err x io S) (hsp : splitA st 0 evs = some (as, hs, bs)) (hn : as.length = n) (hnd : (tagsOf hs).Nodup) (hl : io.length = hs.length) (hk : e x (mPut hs st io S)) : Rp (callR n m evs st) kx e := by
  unfold callR
  rw [hsp]
  dsimp only
  rw [if_pos ⟨hnd, hn⟩, hm]
  dsimp only
  rw [if_pos hl]
  exact hk
theorem mFld_ok {c f : Str} {st1 : St} {j : Nat} {fs : List (Str × FV)} {d : D} (h1 : ma st = .ok (.dat (.ob j)) st1) (h2 : st1.S[j]? = some (.ins c fs)) (h3 : fs.lookup f = some (.dat d)) : mFld c f ma st = .ok (.dat d) st1 := by
  unfold mFld
  rw [h1]
  show (match obFs st1 c (.dat (.ob j)) with
    | some (_, fs) => match fs.lookup f with
      | some (.dat d) => R.ok (EV.dat d) st1
      | _ => .stuck
    | none => .stuck : R EV) = _
  rw [obF_of h2]
  dsimp only
  rw [h3]
theorem rp_zip_pk (I : List D → St → Prop) (h : Rp (mas st) (fun as st1 => ∃ a b, as = [a, b] ∧ isSl a = false ∧ isSl b = false ∧ ∃ xs ys, peek st1 a = some (.lst xs) ∧ peek st1 b = some (.lst ys) ∧ I (zipD xs ys) st1 ∧ ∀ r st', I r st' → peek st' a = some (.lst xs) ∧ peek st' b = some (.lst ys)) e) (hs : ∀ d r st, I (d :: r) st → Rp (mg (.dat d) st) (fun _ st1 => Rp (m1 st1) (LpEnd (I r) kf) e) e) (hd : ∀ st, I [] st → kf .nx st) : Rp (mFor (mIZip mas) mg m1 st) kf e := by
  unfold mFor mIZip
  rw [rp_bind, rp_bind]
  refine rp_imp h (fun as st1 g => ?_) (fun _ _ z => z)
  obtain ⟨a, b, rfl, na, nb, xs, ys, ea, eb, h1, h2⟩ := g
  dsimp only
  rw [rp_ite, if_neg (by rw [na, nb]; decide), ea, eb]
  dsimp only
  rw [rp_ok]
  exact rp_forR I h2 hs hd _ st1 h1
end
end Mi

set_option Elab.async false
set_option linter.all false
set_option maxRecDepth 100000
set_option maxHeartbeats 4000000
/-! Mi22: an item of what may be a list or a tuple; a def that calls itself -/
namespace Mi
open PySem PySem.Spec PyProof.Rows L2
section
variable {K : Frag}
def fIxA : D → D → Option D
  | .lst ds, .int i => atI ds i
  | .tup ds, .int i => atI ds i
  | _, _ => none
theorem pk_ixA : PkOp K (rIx K) fIxA := by
  intro W H vx vy x y d s kx ky e
  unfold fIxA at e
  split at e
  · obtain ⟨v, rv, h⟩ := pk_ixL W H vx vy (.lst _) (.int _) d s kx ky e
    exact ⟨v, rv, fun Q k => .inl (h Q k)⟩
  · obtain ⟨v, rv, h⟩ := pk_ixT W H vx vy (.tup _) (.int _) d s kx ky e
    exact ⟨v, rv, fun Q k => .inr (.inl (h Q k))⟩
  · cases e
theorem ixa (K : Frag) {X : Cx} (h : X.K = K := by rfl) : IxR X (rIx K) := by subst h; exact ix_seq
theorem spM_stuck {c : Str → Addr} {ex : Kv.Er → Addr} {n : Nat} {vs : List V} {H : Hp} {Q : VK} {E : XK} (h : spM K c ex n (noErrF (fun _ _ _ => .stuck)) vs H Q E) : False := by
  obtain ⟨_, xa, W, io, S, as, _, _, _, q⟩ := h
  exact q
end
theorem kit_nb : kitB "NoneType" "bool" = some false := by decide +kernel
theorem kit_ni : kitB "NoneType" "int" = some false := by decide +kernel
theorem kit_ns : kitB "NoneType" "str" = some false := by decide +kernel
theorem kit_nl : kitB "NoneType" "list" = some false := by decide +kernel
theorem kit_nt : kitB "NoneType" "tuple" = some false := by decide +kernel
theorem kit_bi : kitB "bool" "int" = some true := by decide +kernel
theorem kit_bs : kitB "bool" "str" = some false := by decide +kernel
theorem kit_bl : kitB "bool" "list" = some false := by decide +kernel
theorem kit_bt : kitB "bool" "tuple" = some false := by decide +kernel
theorem kit_is : kitB "int" "str" = some false := by decide +kernel
theorem kit_il : kitB "int" "list" = some false := by decide +kernel
theorem kit_it : kitB "int" "tuple" = some false := by decide +kernel
theorem kit_sb : kitB "str" "bool" = some false := by decide +kernel
theorem kit_si : kitB "str" "int" = some false := by decide +kernel
theorem kit_sl : kitB "str" "list" = some false := by decide +kernel
theorem kit_st : kitB "str" "tuple" = some false := by decide +kernel
theorem kit_lb : kitB "list" "bool" = some false := by decide +kernel
theorem kit_li : kitB "list" "int" = some false := by decide +kernel
theorem kit_ls : kitB "list" "str" = some false := by decide +kernel
theorem kit_lt : kitB "list" "tuple" = some false := by decide +kernel
theorem kit_tb : kitB "tuple" "bool" = some false := by decide +kernel
theorem kit_ti : kitB "tuple" "int" = some false := by decide +kernel
theorem kit_ts : kitB "tuple" "str" = some false := by decide +kernel
theorem kit_tl : kitB "tuple" "list" = some false := by decide +kernel
section
variable {k : EV → St → Prop} {e : Kv.Er → St → Prop} {st : St} {ma mb : M EV}
theorem rp_catA : Rp (mCatA ma mb st) k e = Rp (ma st) (fun a st1 => Rp (mb st1) (fun b st2 => ∃ xs, a = .dat (.tup xs) ∧ ∃ ys, b = .dat (.tup ys) ∧ xs.length + ys.length ≤ sizeLine ∧ k (.dat (.tup (xs ++ ys))) st2) e) e := by
  unfold mCatA
  simp only [rp_bind]
  congr 1
  funext a st1
  congr 1
  funext b st2
  split
  · rename_i xs ys
    simp only [EV.dat.injEq, D.tup.injEq, exists_eq_left']
    split
    · rename_i h; simp only [h, true_and]; rfl
    · rename_i h; simp only [h, false_and]; rfl
  · rename_i h
    simp only [Rp, eq_iff_iff, false_iff]
    rintro ⟨xs, e1, ys, e2, _⟩
    exact h xs ys e1 e2
end
/-! ### a if c else b, as a test -/
def tIfT (t ta tb : TT) : TT := fun σ H Q => t σ H fun c H1 => if c = true then ta σ H1 Q else tb σ H1 Q
theorem pt_ifE {X : Cx} {c a b : Expr} {pos : Pos} {tc ta tb : TT} (hc : PT X c tc) (ha : PT X a ta) (hb : PT X b tb) : PT X (.IfExp c a b pos) (tIfT tc ta tb) := by
  refine ⟨fun pins s σ H Q I h => ?_⟩
  refine isTrue_IfExp (thn (hc.run pins s σ H _ I h) fun d s1 ⟨H1, I1, q1⟩ => ?_)
  cases d with
  | true => exact ha.run pins s1 σ H1 Q I1 q1
  | false => exact hb.run pins s1 σ H1 Q I1 q1
def mIfT (mt ma mb : M Bool) : M Bool := fun st => (mt st).bind fun b st1 => if b = true then ma st1 else mb st1
theorem sT_ifE {K : Frag} {cl : (Str → Addr) × Addr × Bool} {E : Kv.Er → L2.St → Hp → Prop} {t ta tb : TT} {mt ma mb : M Bool} (hc : SimT K cl E t mt) (h1 : SimT K cl E ta ma) (h2 : SimT K cl E tb mb) : SimT K cl E (tIfT t ta tb) (mIfT mt ma mb) := by
  intro W σ H st I Q q
  refine hc W σ H st I _ (Res.imp (Res.bind q) fun b st1 W1 H1 hm1 I1 x1 q1 => ?_)
  split at q1
  · rename_i c; rw [if_pos c]; exact h1 W1 σ H1 st1 I1 Q q1
  · rename_i c; rw [if_neg c]; exact h2 W1 σ H1 st1 I1 Q q1
theorem rp_ifT {mt ma mb : M Bool} {st : St} {kb : Bool → St → Prop} {e : Kv.Er → St → Prop} : Rp (mIfT mt ma mb st) kb e = Rp (mt st) (fun b st1 => if b = true then Rp (ma st1) kb e else Rp (mb st1) kb e) e := by
  unfold mIfT; rw [rp_bind]; congr 1; funext b st1; rw [rp_ite]
/-- a reading that is not to be run -/
@[irreducible] def RpI {α : Type} (r : R α) (k : α → St → Prop) (e : Kv.Er → St → Prop) : Prop := Rp r k e
theorem RpI.of {α : Type} {r : R α} {k : α → St → Prop} {e : Kv.Er → St → Prop} (h : Rp r k e) : RpI r k e := by
  unfold RpI
  exact h
theorem RpI.to {α : Type} {r : R α} {k : α → St → Prop} {e : Kv.Er → St → Prop} (h : RpI r k e) : Rp r k e := by
  unfold RpI at h
  exact h
/-! ### a part of a def, apart -/
theorem lpW {r : R Fl} {I : St → Prop} {kf : Fl → St → Prop} {e : Kv.Er → St → Prop} (h : Rp r (LpEnd I (fun _ _ => False)) (fun _ _ => False)) : Rp r (LpEnd I kf) e := by
  refine rp_imp h (fun f st g => ?_) (fun _ _ z => z.elim)
  cases f with
  | nx => exact g
  | cont => exact g
  | brk => exact g.elim
  | ret v => exact g.elim
theorem sqG {r : R Fl} {I N : St → Prop} {kf : Fl → St → Prop} {e : Kv.Er → St → Prop} (h : Rp r (SqEnd I (fun _ _ => False)) (fun _ _ => False)) (k : ∀ st, I st → N st) : Rp r (SqEnd N kf) e := by
  refine rp_imp h (fun f st g => ?_) (fun _ _ z => z.elim)
  cases f with
  | nx => exact k _ g
  | cont => exact g.elim
  | brk => exact g.elim
  | ret v => exact g.elim
theorem sqW {r : R Fl} {I : St → Prop} {kf : Fl → St → Prop} {e : Kv.Er → St → Prop} (h : Rp r (SqEnd I (fun _ _ => False)) (fun _ _ => False)) : Rp r (SqEnd I kf) e := sqG h fun _ z => z
end Mi

set_option Elab.async false
set_option linter.all false
set_option maxRecDepth 100000
set_option maxHeartbeats 4000000
/-! Mi23: dicts written out; a walk over a numbered list behind a handle -/
namespace Mi
open PySem PySem.Spec PyProof.Rows L2
section
variable {K : Frag} {cl : (Str → Addr) × Addr × Bool} {E : Kv.Er → L2.St → Hp → Prop} {W : Wd} {σ : L2.St} {H : Hp} {tk tv : TE} {mk mv : M EV} {trs : List (TE × TE)} {mp : M (List (Key × D))}
def mPsNil : M (List (Key × D)) := M.pure []
def mPsCons (mk mv : M EV) (mp : M (List (Key × D))) : M (List (Key × D)) := fun st => (mk st).bind fun k st1 => (mv st1).bind fun v st2 => match keyE k, v with
  | some q, .dat d => (mp st2).bind fun r st3 => .ok ((q, d) :: r) st3
  | _, _ => .stuck
def SimPs (K : Frag) (cl : (Str → Addr) × Addr × Bool) (E : Kv.Er → L2.St → Hp → Prop) (trs : List (TE × TE)) (mp : M (List (Key × D))) : Prop := ∀ W σ H st, Inv K cl W σ H st → ∀ Q : List (V × V) → Hp → Prop,
  Res K cl E W σ H (mp st) (fun kvs _ W' H' => ∀ us, KvR K W'.F W'.ρ us kvs → Q (us.map fun kv => (kV kv.1, kv.2)) H') → tPairs trs σ H Q
theorem sPs_nil : SimPs K cl E [] mPsNil := by
  intro W σ H st I Q q
  exact q.now I [] .nil
theorem sPs_cons (hk : SimE K cl E tk mk) (hv : SimE K cl E tv mv) (hr : SimPs K cl E trs mp) : SimPs K cl E ((tk, tv) :: trs) (mPsCons mk mv mp) := by
  intro W σ H st I Q q
  refine hk W σ H st I _ (Res.imp (Res.bind q) fun k st1 W1 H1 hm1 I1 x1 q1 x kx => ?_)
  refine hv W1 σ H1 st1 I1 _ (Res.imp (Res.bind q1) fun v st2 W2 H2 hm2 I2 x2 q2 y ky => ?_)
  split at q2
  · rename_i qk d e
    refine hr W2 σ H2 st2 I2 _ (Res.imp (Res.bind q2) fun r st3 W3 H3 hm3 I3 x3 q3 us hus => ?_)
    have ex := keyE_ok (kx.ext x2) e
    subst ex
    exact q3.now I3 ((qk, y) :: us) (.cons (Rep.ext x3 ky) hus)
  · exact q2.elim
theorem KvR.merge {F : Hp} {ρ : List Addr} {us : List (Key × V)} {kvs : List (Key × D)} (g : KvR K F ρ us kvs) : ∀ {a : List (Key × V)} {b : List (Key × D)}, KvR K F ρ a b → KvR K F ρ (mergeK a us) (kvs.foldl (fun acc kv => dPut acc kv.1 kv.2) b) := by
  induction g with
  | nil => intro a b h; exact h
  | cons h t ih => intro a b g; exact ih (g.put h)
def mDisp (mp : M (List (Key × D))) : M BX := fun st => (mp st).bind fun kvs st1 => if kvs.length ≤ 15 then .ok (.dct (kvs.foldl (fun acc kv => dPut acc kv.1 kv.2) [])) st1 else .stuck
theorem sN_disp (h : SimPs K cl E trs mp) : SimN K cl E (tDisp trs) (mDisp mp) := by
  intro W σ H st I Q q p hp
  obtain ⟨z1, z2⟩ := I.free hp
  have x0 : Ext W H W (upd H p (.dK [])) := Ext.new0 hp
  refine h W σ _ st (I.new0 hp) _ ?_
  unfold mDisp at q
  cases e : mp st with
  | stuck => rw [e] at q; exact q.elim
  | err er st1 =>
    rw [e] at q
    exact fun W' H' I' x' => q W' H' I' (x0.trans x')
  | ok kvs st1 =>
    rw [e] at q
    intro W' H' I' x' us hus
    have e1 := x'.un p _ upd_same (.inl z1)
    have n1 := x'.nw p _ upd_same z1
    have f1 := x'.fz p _ upd_same z1 z2
    by_cases hl : kvs.length ≤ 15
    · have q : Res K cl E W σ H (if kvs.length ≤ 15 then R.ok (BX.dct (kvs.foldl (fun acc kv => dPut acc kv.1 kv.2) [])) st1 else .stuck) _ := q
      rw [if_pos hl] at q
      refine ⟨e1, us, rfl, by rw [hus.len]; exact hl, ?_⟩
      exact q W' _ (I'.tmp f1 n1) ((x0.trans x').tmp hp) p hp f1 n1 (BxOk.dct upd_same (hus.merge .nil))
    · have q : Res K cl E W σ H (if kvs.length ≤ 15 then R.ok (BX.dct (kvs.foldl (fun acc kv => dPut acc kv.1 kv.2) [])) st1 else .stuck) _ := q
      rw [if_neg hl] at q
      exact q.elim
end
section
variable {k : List (Key × D) → St → Prop} {kx : BX → St → Prop} {e : Kv.Er → St → Prop} {st : St} {mk mv : M EV} {mp : M (List (Key × D))}
theorem rp_psNil : Rp (mPsNil st) k e = k [] st := rfl
theorem rp_psCons : Rp (mPsCons mk mv mp st) k e = Rp (mk st) (fun a st1 => Rp (mv st1) (fun v st2 => ∃ q, keyE a = some q ∧ ∃ d, v = .dat d ∧ Rp (mp st2) (fun r st3 => k ((q, d) :: r) st3) e) e) e := by
  unfold mPsCons
  simp only [rp_bind]
  congr 1
  funext a st1
  congr 1
  funext v st2
  split
  · rename_i q d h
    rw [h]
    simp only [Option.some.injEq, exists_eq_left', EV.dat.injEq]
    rw [rp_bind]
    rfl
  · rename_i h
    simp only [Rp, eq_iff_iff, false_iff]
    rintro ⟨q, e1, d, e2, _⟩
    exact h q d e1 e2
theorem rp_disp : Rp (mDisp mp st) kx e = Rp (mp st) (fun kvs st1 => kvs.length ≤ 15 ∧ kx (.dct (kvs.foldl (fun acc kv => dPut acc kv.1 kv.2) [])) st1) e := by
  unfold mDisp
  rw [rp_bind]
  congr 1
  funext kvs st1
  by_cases h : kvs.length ≤ 15
  · rw [if_pos h]
    simp only [h, true_and]
    rfl
  · rw [if_neg h]
    simp only [h, false_and]
    rfl
end
section
variable {mas : M (List EV)} {mg : EV → M Unit} {m1 : M Fl} {st : St} {kf : Fl → St → Prop} {e : Kv.Er → St → Prop}
theorem rp_enum_pk (I : List D → St → Prop) (h : Rp (mas st) (fun as st1 => ∃ a, as = [a] ∧ isSl a = false ∧ ∃ ds, peek st1 a = some (.lst ds) ∧ I (enumD 0 ds) st1 ∧ ∀ r st', I r st' → peek st' a = some (.lst ds)) e) (hs : ∀ d r st, I (d :: r) st → Rp (mg (.dat d) st) (fun _ st1 => Rp (m1 st1) (LpEnd (I r) kf) e) e) (hd : ∀ st, I [] st → kf .nx st) : Rp (mFor (mIEnum mas) mg m1 st) kf e := by
  unfold mFor mIEnum
  rw [rp_bind, rp_bind]
  refine rp_imp h (fun as st1 g => ?_) (fun _ _ z => z)
  obtain ⟨a, rfl, ns, ds, h1, h2, h3⟩ := g
  dsimp only
  rw [rp_ite, if_neg (by rw [ns]; decide), h1]
  dsimp only
  rw [rp_ok]
  exact rp_forR I h3 hs hd _ st1 h2
theorem rp_tup_it {ma : M EV} (I : List D → St → Prop) (h : Rp (ma st) (fun ev st1 => ∃ ds, ev = .dat (.tup ds) ∧ I ds st1) e) (hs : ∀ d r st, I (d :: r) st → Rp (mg (.dat d) st) (fun _ st1 => Rp (m1 st1) (LpEnd (I r) kf) e) e) (hd : ∀ st, I [] st → kf .nx st) : Rp (mFor (mITup ma) mg m1 st) kf e := by
  unfold mFor mITup
  rw [rp_bind, rp_bind]
  refine rp_imp h (fun ev st1 g => ?_) (fun _ _ z => z)
  obtain ⟨ds, rfl, h1⟩ := g
  dsimp only
  rw [rp_ok]
  exact rp_forR I (fun _ _ _ => trivial) hs hd ds st1 h1
end
theorem sqI {r : R Fl} {I : St → Prop} {kf : Fl → St → Prop} {e : Kv.Er → St → Prop} (h : RpI r (SqEnd I (fun _ _ => False)) (fun _ _ => False)) : Rp r (SqEnd I kf) e := sqW h.to
end Mi

set_option Elab.async false
set_option linter.all false
set_option maxRecDepth 100000
set_option maxHeartbeats 4000000
/-! Mi24: a try whose body is told apart -/
namespace Mi
open PySem PySem.Spec PyProof.Rows L2
theorem sS_tryE {K : Frag} {E : Kv.Er → L2.St → Hp → Prop} {t : TS} {c : Str → Addr} {xa : Addr} {ex : Kv.Er → Addr} {cv : Value} {i : Nat} {tb : WX → TS} {tsu : Addr → Value → Option Addr → TS} {Wout : WX} {mb : M Fl} {ms : Kv.Er → M Fl} {hit : Kv.Er → Bool}
    (hb : ∀ Wx : WX, SimS K (c, xa, false) (fun e σ H => Wx (.ref (ex e)) none σ H) (tb Wx) mb) (hs : ∀ a er, SimS K (c, a, false) EF (tsu a (.ref (ex er)) none) (ms er)) (hm : ∀ er, PySem.W.exmOne K (.ref (ex er)) cv = some (hit er))
    (e : t = fun D σ H => tb (wAs K cv i tsu Wout D) D σ H) (ho : ∀ e σ H, E e σ H → Wout (.ref (ex e)) none σ H) : SimS K (c, xa, false) E t (mTry i hit mb ms) := by
  subst e
  exact sS_try hb hs hm ho
theorem sS_tryOE {K : Frag} {E : Kv.Er → L2.St → Hp → Prop} {t : TS} {c : Str → Addr} {xa : Addr} {ex : Kv.Er → Addr} {cv : Value} {tb : WX → TS} {tsu : Addr → Value → Option Addr → TS} {Wout : WX} {mb : M Fl} {ms : Kv.Er → M Fl} {hit : Kv.Er → Bool}
    (hb : ∀ Wx : WX, SimS K (c, xa, false) (fun e σ H => Wx (.ref (ex e)) none σ H) (tb Wx) mb) (hs : ∀ a er, SimS K (c, xa, false) EF (tsu a (.ref (ex er)) none) (ms er)) (hm : ∀ er, PySem.W.exmOne K (.ref (ex er)) cv = some (hit er))
    (e : t = fun D σ H => tb (wOnly K cv tsu Wout D) D σ H) (ho : ∀ e σ H, E e σ H → Wout (.ref (ex e)) none σ H) : SimS K (c, xa, false) E t (mTryO hit mb ms) := by
  subst e
  exact sS_tryO hb hs hm ho
/-! ### a def by what holds of its end -/
def EndV (P : RF → Prop) : Fl → St → Prop
  | .nx, st => P (.ok (.dat .non) st.io st.S)
  | .ret (.dat d), st => P (.ok (.dat d) st.io st.S)
  | .ret (.tp b), st => P (.ok (.new b) st.io st.S)
  | .ret (.sl i), st => ∃ b, st.env[i]? = some (some (.own b)) ∧ P (.ok (.new b) st.io st.S)
  | _, _ => False
def ErrV (P : RF → Prop) : Kv.Er → St → Prop := fun x st => P (.err x st.io st.S)
theorem ev_nx {P : RF → Prop} {st : St} : EndV P .nx st = P (.ok (.dat .non) st.io st.S) := rfl
theorem ev_rt {P : RF → Prop} {d : D} {st : St} : EndV P (.ret (.dat d)) st = P (.ok (.dat d) st.io st.S) := rfl
theorem ev_tp {P : RF → Prop} {b : BX} {st : St} : EndV P (.ret (.tp b)) st = P (.ok (.new b) st.io st.S) := rfl
theorem ev_sl {P : RF → Prop} {i : Nat} {st : St} : EndV P (.ret (.sl i)) st = ∃ b, st.env[i]? = some (some (.own b)) ∧ P (.ok (.new b) st.io st.S) := rfl
theorem ev_er {P : RF → Prop} {x : Kv.Er} {st : St} : ErrV P x st = P (.err x st.io st.S) := rfl
theorem run_v {n : Nat} {ms : M Fl} {as : List AV} {io : List BX} {S : List Ob} {P : RF → Prop}
    (h : Rp (ms ⟨as.map (fun a => some a.sv) ++ List.replicate (n - as.length) none, io, S⟩) (EndV P) (ErrV P)) : P (runF n ms as io S) := by
  unfold runF
  cases e : ms ⟨as.map (fun a => some a.sv) ++ List.replicate (n - as.length) none, io, S⟩ with
  | stuck => rw [e] at h; exact h.elim
  | err x st => rw [e] at h; exact h
  | ok f st =>
    rw [e] at h
    cases f with
    | nx => exact h
    | brk => exact h.elim
    | cont => exact h.elim
    | ret ev =>
      cases ev with
      | dat d => exact h
      | tp b => exact h
      | sl i =>
        obtain ⟨b, e1, h⟩ := h
        dsimp only
        rw [e1]
        exact h
      | _ => exact h.elim
theorem run_vN {n : Nat} {ms : M Fl} {as : List AV} {io : List BX} {S : List Ob} {P : RF → Prop}
    (h : Rp (ms ⟨as.map (fun a => some a.sv) ++ List.replicate (n - as.length) none, io, S⟩) (EndV P) (fun _ _ => False)) : P (noErrF (runF n ms) as io S) := by
  have h2 : (∃ v io' S', runF n ms as io S = .ok v io' S') ∧ P (runF n ms as io S) := run_v (P := fun X => (∃ v io' S', X = .ok v io' S') ∧ P X) (rp_imp h (fun f st z => by
    cases f with
    | nx => exact ⟨⟨_, _, _, rfl⟩, z⟩
    | brk => exact z
    | cont => exact z
    | ret ev =>
      cases ev with
      | dat d => exact ⟨⟨_, _, _, rfl⟩, z⟩
      | tp b => exact ⟨⟨_, _, _, rfl⟩, z⟩
      | sl i =>
        obtain ⟨b, e1, z⟩ := z
        exact ⟨b, e1, ⟨_, _, _, rfl⟩, z⟩
      | _ => exact z) (fun _ _ z => z.elim))
  obtain ⟨⟨v, io', S', e⟩, h3⟩ := h2
  unfold noErrF
  rw [e] at h3 ⊢
  exact h3
/-- a call by what its end is -/
theorem rp_callV {n : Nat} {m : Fn} {evs : List EV} {st : St} {kx : EV ⊕ BX → St → Prop} {e : Kv.Er → St → Prop} {as : List AV} {P : RF → Prop} (h : P (m as [] st.S)) (hs : splitA st 0 evs = some (as, [], [])) (hn : as.length = n) (hk : ∀ X, P X → RpF X st kx e) : Rp (callR n m evs st) kx e := rp_callIs rfl hs hn (hk _ h)
end Mi

set_option Elab.async false
set_option linter.all false
set_option maxRecDepth 100000
set_option maxHeartbeats 4000000
/-! Mi25: a text with some of the error classes, which are caught and told -/
namespace Mi
open PySem PySem.Spec PyProof.Rows L2
open Kv (Er veChain)
def errOneQ (K : Frag) (a : Er → Addr) (b : Addr) (es : List Er) (e : Er) : Bool :=
  Kv.errAllP K a b [e] && (PySem.W.findIn K (.ref (a e)) "__getattribute__" == some (some (.builtin "BaseException.__getattribute__"))) && (PySem.W.findIn K (.ref (a e)) "__getattr__" == some none) && PySem.W.hasDictIn K (a e) &&
  (PySem.W.findIn K (.ref (a e)) "__class__" == some (some (.builtin "object.__class__"))) && (PySem.W.mroIn K (a e) (.type "object") == some true) && (es.all fun d => PySem.W.kitOne K (.ref (a e)) (.ref (a d)) == some (decide (e = d)))
def errAllQ (K : Frag) (a : Er → Addr) (b : Addr) (es : List Er) : Bool :=
  (PySem.W.specialIn K (.builtin "object.__class__") "__get__" == some (some (.builtin "getset_descriptor.__get__"))) && (PySem.W.takesIn K (.builtin "object.__class__") == some true) && Er.every.all (errOneQ K a b es)
structure ErrsQ (K : Frag) (mg : Str → Option Value) (es : List Er) where
  exa : Er → Addr
  exgP : ∀ e, e ∈ es → mg e.nm = some (.ref (exa e))
  a_BankError : Addr
  g_BankError : mg "BankError" = some (.ref a_BankError)
  exAll : errAllQ K exa a_BankError es = true
namespace ErrsQ
variable {K : Frag} {mg : Str → Option Value} {es : List Er} (T : ErrsQ K mg es)
theorem one (e : Er) : errOneQ K T.exa T.a_BankError es e = true := by
  have h := T.exAll
  unfold errAllQ at h
  simp only [Bool.and_eq_true, List.all_eq_true] at h
  exact h.2 e e.mem
theorem two (e : Er) : PySem.W.excIn K (T.exa e) veChain "ValueError.__new__" = true ∧ PySem.W.keepIn K (.ref (T.exa e)) = true ∧ PySem.W.subIn K (.ref (T.exa e)) (.type "BaseException") = some true ∧ PySem.W.typeIn K (.ref (T.exa e)) = some (.type "type") ∧
    PySem.W.exmOne K (.ref (T.exa e)) (.ref T.a_BankError) = some true := by
  have h := T.one e
  unfold errOneQ at h
  simp only [Bool.and_eq_true] at h
  have g : Kv.errAllP K T.exa T.a_BankError [e] = true := h.1.1.1.1.1.1
  unfold Kv.errAllP at g
  simp only [Bool.and_eq_true, List.all_eq_true, beq_iff_eq] at g
  obtain ⟨⟨⟨⟨h1, h2⟩, h3⟩, h4⟩, h5⟩ := g.2 e (List.mem_singleton.mpr rfl)
  exact ⟨h1, h2, h3, h4, h5⟩
theorem exg (e : Er) (he : e ∈ es := by decide) : mg e.nm = some (.ref (T.exa e)) := T.exgP e he
theorem exx (e : Er) : PySem.W.excIn K (T.exa e) veChain "ValueError.__new__" = true := (T.two e).1
theorem exk (e : Er) : PySem.W.keepIn K (.ref (T.exa e)) = true := (T.two e).2.1
theorem exb (e : Er) : PySem.W.subIn K (.ref (T.exa e)) (.type "BaseException") = some true := (T.two e).2.2.1
theorem ext (e : Er) : PySem.W.typeIn K (.ref (T.exa e)) = some (.type "type") := (T.two e).2.2.2.1
theorem exm (e : Er) : PySem.W.exmOne K (.ref (T.exa e)) (.ref T.a_BankError) = some true := (T.two e).2.2.2.2
theorem exc (e : Er) : ExcC K (T.exa e) := by
  have h := T.one e
  have g := T.exAll
  unfold errOneQ at h
  unfold errAllQ at g
  simp only [Bool.and_eq_true, List.all_eq_true, beq_iff_eq] at h g
  obtain ⟨⟨⟨⟨⟨⟨h1, h5⟩, h6⟩, h7⟩, h8⟩, h9⟩, h11⟩ := h
  exact ⟨h5, h6, T.exb e, h7, h8, g.1.1, g.1.2, h9⟩
theorem exi (e d : Er) (hd : d ∈ es := by decide) : PySem.W.kitOne K (.ref (T.exa e)) (.ref (T.exa d)) = some (decide (e = d)) := by
  have h := T.one e
  unfold errOneQ at h
  simp only [Bool.and_eq_true, List.all_eq_true, beq_iff_eq] at h
  exact h.2 d hd
end ErrsQ
/-! ### a def that is handed the error which a suite holds, and tells its class as a text -/
section
variable {P : Program} {w : World} {K : Frag} {mg : Str → Option Value} {base : Heap}
structure ClassG (P : Program) (w : World) (K : Frag) (mg : Str → Option Value) (base : Heap) (ex : Kv.Er → Addr) (cl : Kv.Er → Option Str) (lv : Nat) (f : Addr) (fd : FuncData) (pn : Str := "error") : Prop where
  run : ∀ (A : Around) (outer : List Env) (s : Shared) (H : Hp) (args : Args) (us : List Value) (Q : VK) (p : Addr × Obj) (er : Kv.Er), L2H.RoomH lv A → L2H.PinOk outer H s p → Zc (.ref (ex er)) none p.2 → (∃ vs, p.2.data = .fields vs) →
    Env0 P w K mg base A outer s H → BindsTo s fd args (([pn] : List Str).zip us) → Vals [.ref p.1] us → (∀ q, H q = none → Q (.str ((cl er).getD "odd")) (upd H q (.lst ((cl er).toList.map V.str)))) →
    codeAny (model P w) A (.call (.ref f) args) (CR CX0 outer P w H s Q E0) s
theorem class_ofG {nm pn : Str} {ex : Kv.Er → Addr} {cl : Kv.Er → Option Str} {lv : Nat} {f : Addr} {fd : FuncData} {st : Stmt} {N : List Str} (F : Fun K nm nm st f fd) (S : FnScope N [pn] (defScope st))
    (hb : ∀ (cdv : Value) (A : Around) (outer : List Env) (s : Shared) (H : Hp) (Q : VK) (p : Addr × Obj) (er : Kv.Er), Zc (.ref (ex er)) none p.2 → (∃ vs, p.2.data = .fields vs) → (∀ q, H q = none → Q (.str ((cl er).getD "odd")) (upd H q (.lst ((cl er).toList.map V.str)))) →
      ∃ t, PSs (L2H.cxH CX0 P w K mg base N nm (defScope st) f cdv A outer s H E0 p) (defBody st) t ∧ t { nx := fun _ H' => Q .non H', rt := Q } (start N [.ref p.1]) H) :
    ClassG P w K mg base ex cl (lv + 1) f fd pn := by
  obtain ⟨oc, od, kV, doc, pm, an, cdv, ct, osl, rfl, lk, hcd⟩ := F.ex
  refine ⟨fun A outer s H args us Q p er hr hpin hz hf e0 hbi r hk => ?_⟩
  have KX : K.In s.heap := e0.mod.kin.keeps fun b o e => (e0.bs b o e).1
  have lim : s.heap.NoLimit := e0.mod.nolimit.keeps fun b o e => (e0.bs b o e).1
  have kinds : ∀ y ∈ ([pn] : List Str).zip us, (defScope st).names.lookup y.1 = some .local ∨ ((defScope st).names.lookup y.1 = some .cell ∧ ((cellsFrom (s.heap.objs.size + 1) (defScope st).names []).lookup y.1).isSome = true) := by
    intro ⟨n, v⟩ hy
    rcases S.par n (List.of_mem_zip hy).1 with z | z
    · exact .inl z
    · exact .inr ⟨z, PySem.W.cellsFrom_some _ _ _ (.inl z)⟩
  refine codeAny_call_function hr.depth (KX _ _ lk) rfl S.co S.gen rfl (PySem.W.codeRec_of KX hcd) (hbi _ _ _ _ ?_)
  refine wpAny_newFunctionEnv_cells S.kind kinds fun env he s1 x => ?_
  subst he
  refine ⟨lim.keeps x.toInCall.keep, codeAny_func ?_⟩
  obtain ⟨t, ht, hq⟩ := hb cdv A outer s H Q p er hz hf hk
  have I := L2H.inv_startH (CX := CX0) (E := E0) S hpin e0 (show ([.ref p.1] : List V).length = ([pn] : List Str).length from rfl) r x
  refine wpAny_mono (ht.run [] s1 _ H _ I hq) (fun fl s' hs => ?_) fun e s' hs => hs
  have fin : ∀ {σ' : L2.St} {H' : Hp} {v : V} {u : Value}, L2.Inv _ [] σ' H' s' → RelV v u → Q v H' → CE outer P w H s Q u s' :=
    fun {σ' H' v u} (J : L2.Inv (L2H.cxH CX0 P w K mg base N nm (defScope st) f cdv A outer s H E0 p) [] σ' H' s') rv qq => ⟨v, H', J.os, J.bare, J.base, J.hok, rv, qq⟩
  cases fl with
  | next =>
    obtain ⟨σ', H', J, qq⟩ := hs
    exact fin (v := V.non) (u := Value.none) J rfl qq
  | ret u =>
    obtain ⟨v, σ', H', J, rv, qq⟩ := hs
    exact fin J rv qq
  | brk =>
    obtain ⟨_, _, _, qq⟩ := hs
    exact qq.elim
  | cont =>
    obtain ⟨_, _, _, qq⟩ := hs
    exact qq.elim
end
section
variable {X : Cx} {CX : CXT} {f : Addr} {fd : FuncData} {lv : Nat} {x : Str} {q pos : Pos} {e : Expr} {te : TE}
def tClassG (ex : Kv.Er → Addr) (cl : Kv.Er → Option Str) (cls : Value) (d : Option Addr) (a : Addr) (ta : TA) : TE := fun σ H Q => ta σ H fun vs H1 => vs = [.ref a] ∧ d = none ∧ ∃ er, cls = .ref (ex er) ∧ ∀ r, H1 r = none → Q (.str ((cl er).getD "odd")) (upd H1 r (.lst ((cl er).toList.map V.str)))
theorem pe_classG {pn : Str} {a : Addr} {oe : Obj} {cls : Value} {d : Option Addr} {P : Program} {w : World} {K : Frag} {mg : Str → Option Value} {base : Heap} {ex : Kv.Er → Addr} {cl : Kv.Er → Option Str} {ta : TA} (F : ClassG P w K mg base ex cl lv f fd pn) (hz : Zc cls d oe) (hf : ∃ vs, oe.data = .fields vs) (hp : (a, oe) ∈ X.pn) (hr : L2H.RoomH lv X.A) (hg : Gl X x)
    (hm : X.mg x = some (.ref f)) (hk : PySem.W.keepIn K (.ref f) = true) (hb : Binds K fd [pn] []) (ha : PA X [e] ta) (hP : X.prog = P := by rfl) (hw : X.w = w := by rfl) (hK : X.K = K := by rfl) (hM : X.mg = mg := by rfl) (hB : X.base = base := by rfl) (hdb : (x == ("__debug__" : Str)) = false := by decide)
    (he : starEach (e :: []) X.env = (false, eval e X.env) :: starEach [] X.env := by rfl) (hpl : (backTo pos (starEach [] X.env)).any (·.1) = false := by rfl) :
    PE X (.Call (.Name x q) [e] [] pos) (tClassG ex cl cls d a ta) := by
  subst hP hw hK hM hB
  refine ⟨fun pins s σ H Q I h => ?_⟩
  refine wpAny_Call_Name_kw (ld_glob I hg hm ?_ hdb)
  refine PySem.W.callWith_K (h₀ := X.base) I.ok.mod.kin hk (thn (ha.run pos pins s σ H _ I h) fun us s1 ⟨vs, H1, I1, r, e1, e2, er, e3, k⟩ => ⟨I1.kIn, ?_⟩) he hpl
  subst e1 e2 e3
  have P1 := I1.pin (a, oe) (List.mem_append.mpr (.inl hp))
  have hl : us.length = 1 := r.length.symm
  have b := hb s1 us I1.kIn (by rw [List.append_nil]; exact hl)
  rw [List.append_nil] at b
  have hpin : L2H.PinOk X.stack H1 s1 (a, oe) := ⟨P1.1, P1.2.1, fun hm => (List.mem_cons.mp (I1.stkSub a hm)).elim P1.2.2.1 P1.2.2.2.1, P1.2.2.2.2⟩
  refine wpAny_call (codeAny_mono (F.run _ X.stack s1 H1 ⟨us, []⟩ us Q (a, oe) er hr hpin hz hf I1.env0 b r k) fun r' s' hq => ?_)
  cases r' with
  | error e => exact False.elim hq
  | ok fl =>
    cases fl with
    | ret u => exact I1.after hq
    | next => exact False.elim hq
    | brk => exact False.elim hq
    | cont => exact False.elim hq
end
section
variable {K : Frag} {E : Kv.Er → L2.St → Hp → Prop} {ta : TE} {ma : M EV}
def mClassG (cl : Kv.Er → Option Str) (er : Kv.Er) (me : M EV) : M EV := fun st => (me st).bind fun ev st1 => match ev with
  | .exc => .ok (.dat (.str ((cl er).getD "odd"))) st1
  | _ => .stuck
theorem sE_classG {ex : Kv.Er → Addr} {cl : Kv.Er → Option Str} {c : Str → Addr} {a : Addr} {er : Kv.Er} (ha : SimE K (c, a, false) E ta ma) : SimE K (c, a, false) E (tClassG ex cl (.ref (ex er)) none a (tCons ta tNil)) (mClassG cl er ma) := by
  intro W σ H st I Q q
  refine ha W σ H st I _ (Res.imp (Res.bind q) fun ev st1 W1 H1 hm1 I1 x1 q1 v k => ?_)
  split at q1
  · have k : v = .ref W1.xa.1 := k
    refine ⟨by rw [k, I1.xeq], rfl, er, rfl, fun r hr => ?_⟩
    exact q1 _ _ (I1.new0 hr) (Ext.new0 hr) _ (.str _)
  · exact q1.elim
theorem rp_classG {cl : Kv.Er → Option Str} {er : Kv.Er} {st : St} {k : EV → St → Prop} {e : Kv.Er → St → Prop} : Rp (mClassG cl er ma st) k e = Rp (ma st) (fun ev st1 => ev = .exc ∧ k (.dat (.str ((cl er).getD "odd"))) st1) e := by
  unfold mClassG
  rw [rp_bind]
  congr 1
  funext ev st1
  cases ev <;> simp [Rp]
end
end Mi

set_option Elab.async false
set_option linter.all false
set_option maxRecDepth 100000
set_option maxHeartbeats 4000000
/-! Mi26: a list is emptied -/
namespace Mi
open PySem PySem.Spec PyProof.Rows L2
def fClear (xs ys : List D) : Option (List D × D) := match ys with
  | [] => some ([], .non)
  | _ => none
theorem pk_clear {K : Frag} : PkMut K rClear fClear := by
  intro W H p vs xs us ys zs d s h r ru e
  unfold fClear at e
  split at e
  · cases e
    cases ru
    exact ⟨[], .non, .nil, .non, fun Q q => ⟨p, vs, rfl, rfl, h, q⟩⟩
  · cases e
theorem clear_some {xs : List D} {z : List D × D} : (fClear xs [] = some z) = (([], D.non) = z) := by
  unfold fClear
  simp
section
variable {vs : List Nat} {mg : EV → M Unit} {me ma mb : M EV}
/-- a comprehension over a range with two bounds -/
theorem rp_lc_rng2 (lo n : Int) (I : Nat → List D → St → Prop) {st st0 : St} {kx : BX → St → Prop} {e : Kv.Er → St → Prop} (hn : -4611686018427387904 ≤ lo ∧ lo < 4611686018427387904 ∧ -4611686018427387904 ≤ n ∧ n < 4611686018427387904) (hm : n - lo ≤ 1000000) (ha : (mCons ma (mCons mb (M.pure []))) st = .ok [.dat (.int lo), .dat (.int n)] st0) (h0 : I 0 [] st0)
    (hs : ∀ (i : Nat) acc st, lo + (i : Int) < n → I i acc st → acc.length = i → Rp (mg (.dat (.int (lo + (i : Int)))) (st.wiped vs)) (fun _ st1 => Rp (me st1) (fun ev st2 => Rp (toD ev st2) (fun x st3 => I (i + 1) (acc ++ [x]) st3) noE) noE) noE)
    (hd : ∀ acc st1, I (n - lo).toNat acc st1 → acc.length = (n - lo).toNat → kx (.lst acc) { st1 with env := restE st0.env st1.env vs }) : Rp (mLc vs (mIRng2 (mCons ma (mCons mb (M.pure [])))) mg (M.pure true) me st) kx e := by
  have hz : sizeLine = 16777216 := by decide
  have hlen : (rngD lo (n - lo).toNat).length = (n - lo).toNat := by simp [rngD]
  refine rp_lc_of (it := ⟨rngD lo (n - lo).toNat, fun _ => True⟩) (st0 := st0) ?_ ?_
  · unfold mIRng2
    rw [ha]
    simp only [R.bind]
    rw [if_pos (show -2 ^ 62 ≤ lo ∧ lo < 2 ^ 62 ∧ -2 ^ 62 ≤ n ∧ n < 2 ^ 62 from hn)]
  · refine rp_lcL I _ 0 [] st0 h0 rfl (by rw [hlen]; omega) (fun _ _ _ _ => trivial) (fun i d acc st _ ed g hl => ?_) (fun acc st g hl => hd acc st ?_ ?_)
    · obtain ⟨rfl, hi⟩ := rng_get ed
      exact hs i acc st (by omega) g hl
    · rw [Nat.zero_add, hlen] at g
      exact g
    · rw [Nat.zero_add, hlen] at hl
      exact hl
end
end Mi

set_option Elab.async false
set_option linter.all false
set_option maxRecDepth 100000
set_option maxHeartbeats 4000000
/-! Mi27: `len(set(xs))` of a list of texts, however many and however alike -/
namespace MiSet
open PySem PySem.Spec PyProof.Rows
/-- how many different ones -/
def nd {K : Type} [DecidableEq K] : List K → Nat
  | [] => 0
  | x :: r => if x ∈ r then nd r else nd r + 1
theorem nd_le {K : Type} [DecidableEq K] : ∀ l : List K, nd l ≤ l.length
  | [] => Nat.le_refl _
  | x :: r => by
    have := nd_le r
    unfold nd
    split <;> simp only [List.length_cons] <;> omega
theorem nd_all {K : Type} [DecidableEq K] : ∀ {l : List K}, l.Nodup → nd l = l.length
  | [], _ => rfl
  | x :: r, h => by
    obtain ⟨h1, h2⟩ := List.nodup_cons.mp h
    unfold nd
    rw [if_neg h1, nd_all h2]
    rfl
section
variable {prog : Program} {w : World} {K : Type} [DecidableEq K] {knd : KeyKind prog w K}
/-- the set at a holds the keys of l -/
def Holds (knd : KeyKind prog w K) (h : Heap) (a : Addr) (l : List K) : Prop := h.SetOf knd a (fun k => decide (k ∈ l)) (nd l)
theorem Holds.keep {h h' : Heap} {a : Addr} {l : List K} (x : Holds knd h a l) (e : ∀ o, h.get? a = some o → h'.get? a = some o) : Holds knd h' a l := by
  obtain ⟨o, es, ep, t, ho, r⟩ := x
  exact ⟨o, es, ep, t, e o ho, r⟩
variable {A : Around} {E : Value → Shared → Prop} {s : Shared}
theorem Holds.put {a : Addr} {l : List K} {k : K} {v : Value} {Q : Bool → Shared → Prop} (x : Holds knd s.heap a l) (hv : knd.is k v = true) (hs : v.scannable = true) (hr : l.length + 1 < scanBound)
    (h : ∀ b h' tk, s.toks ≤ tk → Heap.SameBut a s.heap h' → Holds knd h' a (k :: l) → Q b { s with heap := h', toks := tk }) : wpAny (model prog w) A (setAdd a v) Q E s := by
  unfold setAdd
  refine wpAny_holding (wpAny_bind (knd.pyHash hv ?_))
  have hn := nd_le l
  refine wpAny_setAddHashed_of (s := { s with toks := s.toks + 1 }) hv hs x (by omega) fun h' sb y => h _ h' _ (Nat.le_succ _) sb ?_
  have e1 : (fun k' => decide (k' ∈ l) || decide (k' = k)) = fun k' => decide (k' ∈ k :: l) := by
    funext k'
    rw [Bool.eq_iff_iff]
    simp only [Bool.or_eq_true, decide_eq_true_eq, List.mem_cons]
    exact Or.comm
  have e2 : (if decide (k ∈ l) = true then nd l else nd l + 1) = nd (k :: l) := by
    show _ = if k ∈ l then nd l else nd l + 1
    by_cases m : k ∈ l
    · rw [if_pos m, if_pos (decide_eq_true m)]
    · rw [if_neg m, if_neg (by simpa using m)]
  unfold Holds
  rw [← e1, ← e2]
  exact y
end
section
variable {prog : Program} {w : World} {K : Type} [DecidableEq K] {knd : KeyKind prog w K} {A : Around} {R : Result → Shared → Prop} {I S : Addr} {fp wr : List Addr} {G : Array GenState → Array GenState → Prop} {n : Nat} {P : Nat → Value → Prop} {St : Nat → Shared → Prop}
/-- what is still to come is put into the set, one by one -/
theorem fill {ks : List K} (W : WalksS prog w A.in1 I fp wr G n P St) (apart : S ∉ fp) (val : ∀ i v, P i v → ∃ k, ks[i]? = some k ∧ knd.is k v = true ∧ v.scannable = true) (hn : ks.length = n) (hb : n + 1 < scanBound) :
    ∀ (rest done : List K) (s : Shared), ks = done ++ rest → St done.length s → Holds knd s.heap S done.reverse →
      (∀ s', Moved (S :: wr) G s s' → Holds knd s'.heap S ks.reverse → R (.ok (.ret .none)) s') → codeAny (model prog w) A (.builtin "set.update.loop" ⟨[.ref S, .ref I], []⟩) R s
  | [], done, s, e, st, hs, q => by
    rw [List.append_nil] at e
    subst e
    refine codeAny_builtin PyProof.Rows.F.entry_set_update_loop ?_
    rw [Around.under_plainId PyProof.Rows.F.plain_set_update_loop _]
    show wpAny _ A.in1 (pyNext (.ref I) >>= _) _ _ s
    rw [hn] at st
    refine wpAny_bind (W.done s _ _ st fun s' m => wpAny_pure (q s' ?_ ?_))
    · exact ⟨fun b o hb => m.heap b o fun hh => hb (List.mem_cons_of_mem _ hh), m.gens, m.drawn, m.os, m.toks⟩
    · exact hs.keep fun o => m.heap S o fun hh => apart (W.sub _ hh)
  | x :: rest, done, s, e, st, hs, q => by
    have hlt : done.length < n := by
      rw [← hn, e]
      simp only [List.length_append, List.length_cons]
      omega
    refine codeAny_builtin PyProof.Rows.F.entry_set_update_loop ?_
    rw [Around.under_plainId PyProof.Rows.F.plain_set_update_loop _]
    show wpAny _ A.in1 (pyNext (.ref I) >>= _) _ _ s
    refine wpAny_bind (W.item _ s _ _ hlt st fun v s1 hP st1 m => ?_)
    obtain ⟨k, hk, hv, hsc⟩ := val _ v hP
    have ek : k = x := by
      rw [e, List.getElem?_append_right (Nat.le_refl _), Nat.sub_self] at hk
      exact (Option.some.inj hk).symm
    subst ek
    refine wpAny_bind (wpAny_holding (Holds.put (s := s1) (hs.keep fun o => m.heap S o fun hh => apart (W.sub _ hh)) hv hsc (by rw [List.length_reverse]; omega) fun b h' tk ht sb hs' => ?_))
    refine wpAny_pure ⟨plainId_quiet PyProof.Rows.F.plain_set_update_loop _, ?_⟩
    refine fill W apart val hn hb rest (done ++ [k]) _ (by rw [e, List.append_assoc]; rfl) ?_ (by rw [List.reverse_append]; exact hs') fun s2 m2 hs2 => q s2 ?_ hs2
    · rw [List.length_append]
      exact W.frame _ s1 _ _ st1 ht fun b hb o hg => by
        rw [sb.2 b fun hh : b = S => apart (hh ▸ hb)]
        exact hg
    · refine Moved.trans W.gtrans ?_ m2
      refine ⟨fun b o hb hg => ?_, m.gens, m.drawn, m.os, Nat.le_trans m.toks ht⟩
      show h'.get? b = some o
      rw [sb.2 b fun hh => hb (hh ▸ List.mem_cons_self)]
      exact m.heap b o (fun hh => hb (List.mem_cons_of_mem _ hh)) hg
end
section
variable {prog : Program} {w : World} {K : Type} [DecidableEq K] {knd : KeyKind prog w K} {A : Around} {E : Value → Shared → Prop} {s : Shared}
/-- an empty set -/
abbrev bare (led : Bool) : Obj := { cls := .type "set", dict := none, data := .set #[] 0 (.fresh 0 0 led) }
theorem bare_holds {h : Heap} {a : Addr} {led : Bool} (e : h.get? a = some (bare led)) : Holds knd h a [] :=
  ⟨_, #[], 0, _, e, ⟨rfl, rfl, rfl⟩, rfl, fun _ hm => by simp at hm, fun k => by simp, by decide, by rfl, rfl⟩
/-- `__init__` of an empty set, with a list -/
theorem init_list {a l : Addr} {items : Array Value} {led : Bool} {ks : List K} {Q : Value → Shared → Prop} (hh : A.handled = none) (ha : s.heap.get? a = some (bare led)) (hl : s.heap.IsList l items) (hal : a ≠ l) (hn : ks.length = items.size) (hb : items.size + 1 < scanBound)
    (val : ∀ (i : Nat) v, items[i]? = some v → ∃ k, ks[i]? = some k ∧ knd.is k v = true ∧ v.scannable = true)
    (h : ∀ h' tk, Holds knd h' a ks.reverse → (∀ b o, b < s.heap.objs.size → b ≠ a → s.heap.get? b = some o → h'.get? b = some o) → Q .none { s with heap := h', toks := tk }) :
    codeAny (model prog w) A (.call (.builtin "set.__init__") ⟨[.ref a, .ref l], []⟩) (wants Q E) s := by
  have hT : s.TypeIs (.ref a) "set" := ⟨_, ha, rfl⟩
  have hla : l < s.heap.objs.size := by
    obtain ⟨o, ho, _⟩ := hl
    exact Heap.lt_size ho
  have haa : a < s.heap.objs.size := Heap.lt_size ha
  refine codeAny_call_builtin PySem.F.called_set.init.plain PySem.F.entry_set_init (check_set_init_1 hT ?_)
  have h1 := PySem.F.sub_list_set
  have h2 := PySem.F.sub_list_frozenset
  have h3 : (Value.type "list" == Value.type "dict") = false := by decide
  have hl2 := hl
  obtain ⟨⟨c, d, dt, sl⟩, ho, hc, n, hd⟩ := hl
  simp only at hc hd
  subst hc
  subst hd
  unfold Builtin.«set.__init__» noKeywords Builtin.Frozenset.updateFrom
  generalize hPI : pyIter = PI
  wp_walk
  subst hPI
  refine wpAny_pyIter_list hl2 ?_
  refine wpAny_bind (wpAny_runValue ?_)
  have hi : A.in1.in1.handled = none := by simp [hh]
  have e1 : l ≠ s.heap.objs.size := Nat.ne_of_lt hla
  have e2 : a ≠ s.heap.objs.size := Nat.ne_of_lt haa
  refine fill (knd := knd) ((Walks.list hi _ l e1 items).toS) (S := a) (by simp [hal, e2]) val hn hb ks [] _ rfl ?_ ?_ fun s1 m hs => ?_
  · exact ⟨⟨_, Heap.get?_push_size _ rfl, rfl, rfl⟩, hl2.push _⟩
  · exact bare_holds (led := led) (Heap.get?_push_of_some _ ha)
  have q := h s1.heap s1.toks hs fun b o hb hne e => m.heap b o (by simp [hne, Nat.ne_of_lt hb]) (Heap.get?_push_of_some _ e)
  have e3 : s1 = { s with heap := s1.heap, toks := s1.toks } := by
    have g1 := m.gens
    have g2 := m.drawn
    have g3 := m.os
    cases s1
    cases s
    simp only at g1 g2 g3
    rw [g1, g2, g3]
  show wpAny _ _ _ _ _ _
  refine wpAny_pure ?_
  show wpAny _ _ (ret Value.none) _ _ _
  refine wpAny_pure ?_
  show Q .none s1
  rw [e3]
  exact q
/-- set(xs) of a list -/
theorem set_of {l : Addr} {items : Array Value} {ks : List K} {Q : Value → Shared → Prop} (hh : A.handled = none) (hl : s.heap.IsList l items) (hn : ks.length = items.size) (hb : items.size + 1 < scanBound)
    (val : ∀ (i : Nat) v, items[i]? = some v → ∃ k, ks[i]? = some k ∧ knd.is k v = true ∧ v.scannable = true)
    (h : ∀ a h' tk, Holds knd h' a ks.reverse → (∀ b o, s.heap.get? b = some o → h'.get? b = some o) → Q (.ref a) { s with heap := h', toks := tk }) :
    wpAny (model prog w) A (call (.type "set") [.ref l]) Q E s := by
  have hla : l < s.heap.objs.size := by
    obtain ⟨o, ho, _⟩ := hl
    exact Heap.lt_size ho
  obtain ⟨c, tl, hmro⟩ := PySem.F.called_set.mro
  have f1 := PySem.F.called_set.made
  have f2 := PySem.F.called_set.sub
  have f3 := PySem.F.called_set.notType
  have f4 := PySem.F.called_set.canCreate
  have f5 := PySem.F.typeCall_set_1 (.ref l)
  refine wpAny_call (codeAny_of_tree ?_)
  show wpAny _ _ (callAny (.type "set") _) _ _ _
  refine wpAny_pure ⟨Code.quiet_builtin _ (by decide +kernel), codeAny_builtin PySem.F.entry_type_call ?_⟩
  rw [Around.under_plain (weight_type_call_type "set" [.ref l] []) rfl]
  repeat (any_goals (first | assumption | wp_step))
  refine codeAny_mono (code_set_new_1 (.ref l) (E := E) (Q₁ := fun v s1 => ∃ led : Bool, v = .ref s.heap.objs.size ∧ s1 = { s with heap := s.heap.push (bare led) }) fun led => ⟨led, rfl, rfl⟩) fun r s1 hr => ?_
  rcases r with e | (v | _) <;> try exact hr
  obtain ⟨led, rfl, rfl⟩ := hr
  have g1 : (s.heap.push (bare led)).get? s.heap.objs.size = some (bare led) := Heap.get?_push_size _ rfl
  have hT : Shared.TypeIs { s with heap := s.heap.push (bare led) } (.ref s.heap.objs.size) "set" := ⟨_, g1, rfl⟩
  have f6 := PySem.F.called_set.init.lookup
  have f7 := PySem.F.called_set.init.bind (.ref s.heap.objs.size)
  repeat (any_goals (first | assumption | wp_step))
  refine codeAny_mono (init_list (knd := knd) (s := { s with heap := s.heap.push (bare led) }) (E := E) (Q := fun v s2 => v = .none ∧ ∃ h' tk, s2 = { s with heap := h', toks := tk } ∧ Holds knd h' s.heap.objs.size ks.reverse ∧ ∀ b o, s.heap.get? b = some o → h'.get? b = some o)
    ?_ g1 (hl.push _) (Nat.ne_of_gt hla) hn hb val fun h' tk x y => ⟨rfl, h', tk, rfl, x, fun b o e => ?_⟩) fun r2 s2 hr2 => ?_
  · simp [hh]
  · exact y b o (by rw [Heap.size_push]; exact Nat.lt_succ_of_lt (Heap.lt_size e)) (Nat.ne_of_lt (Heap.lt_size e)) (Heap.get?_push_of_some _ e)
  · rcases r2 with e | (v | _) <;> try exact hr2
    obtain ⟨rfl, h', tk, rfl, x, y⟩ := hr2
    repeat (any_goals (first | assumption | wp_step))
    exact h _ _ _ x y
end
end MiSet

namespace Mi
open PySem PySem.Spec PyProof.Rows L2 MiSet
def rLenSet (K : Frag) : List V → Hp → VK → Prop := fun vs H Q => ∃ l, ∃ xs : List Str, vs = [V.ref l] ∧ SqL K H l (xs.map V.str) ∧ xs.length < 4000 ∧ Q (.int (nd xs.reverse : Nat)) H
theorem pe_lenSetS {X : Cx} {a : Expr} {ta : TA} {p p2 q pos : Pos} (hc : X.calm = true) (hg : Gl X "len") (hm : X.mg "len" = none) (hg2 : Gl X "set") (hm2 : X.mg "set" = none) (ha : PA X [a] ta)
    (na : starEach [a] X.env = (false, eval a X.env) :: starEach [] X.env := by rfl) : PE X (.Call (.Name "len" p) [.Call (.Name "set" p2) [a] [] q] [] pos) (tCB (rLenSet X.K) ta) := by
  refine ⟨fun pins s σ H Q I h => ?_⟩
  refine Call_ (ld_blt I hg hm boot_len ?_)
  refine PyProof.Rows.callWith_builtin1 (PyProof.Rows.args_cons ?_ rfl) rfl rfl
  refine Call_ (ld_blt I hg2 hm2 boot_set ?_)
  refine PyProof.Rows.callWith_type1 (thn (ha.run q pins s σ H _ I h) fun us s1 ⟨vs, H1, I1, r1, q1⟩ => ?_) na rfl
  obtain ⟨l, xs, rfl, hq, hz, q1⟩ := q1
  obtain ⟨u, rfl, ru⟩ := vals1 r1
  cases ru
  obtain ⟨its, r, pl, _⟩ := I1.list hq
  have hl : its.length = xs.length := by rw [← r.length, List.length_map]
  refine set_of (knd := PySem.strKind X.prog X.w) (ks := xs) (I1.ok.hd hc) pl.isList (by rw [List.size_toArray, hl]) (by rw [List.size_toArray, hl]; unfold scanBound; omega) ?_ fun b h' tk hs hk => ?_
  · intro i v hv
    have hv' : its[i]? = some v := by simpa using hv
    obtain ⟨hi, _⟩ := List.getElem?_eq_some_iff.mp hv'
    rw [hl] at hi
    obtain ⟨u, hu, t, hu'⟩ := r.get (i := i) (x := .str xs[i]) (by simp [hi])
    rw [hv'] at hu
    cases hu
    subst hu'
    exact ⟨xs[i], List.getElem?_eq_getElem hi, strKind_is _ _ _ _, rfl⟩
  · refine PyProof.Rows.args_nil ?_
    obtain ⟨o, es, ep, t, ho, hex, hd, _, _, _, hf, hn⟩ := hs
    have I2 : L2.Inv X pins σ H1 { s1 with heap := h', toks := tk } := I1.kept hk
    have hn2 := nd_le xs.reverse
    rw [List.length_reverse] at hn2
    exact call_len_set ho hex hd hf (by rw [hn]; omega) ⟨.int (nd xs.reverse : Nat), H1, I2.tok _, ⟨_, by rw [hn]⟩, q1⟩
/-- the texts of a list -/
def strsOf : List D → Option (List Str)
  | [] => some []
  | .str z :: r => (strsOf r).map (z :: ·)
  | _ => none
theorem strsOf_some : ∀ {ds : List D} {xs : List Str}, strsOf ds = some xs → ds = xs.map D.str
  | [], xs, e => by cases e; rfl
  | d :: r, xs, e => by
    cases d <;> simp only [strsOf, Option.map_eq_some_iff, reduceCtorEq] at e
    obtain ⟨ys, e1, rfl⟩ := e
    rw [strsOf_some e1]
    rfl
theorem strsOf_map : ∀ xs : List Str, strsOf (xs.map D.str) = some xs
  | [] => rfl
  | x :: r => by
    show (strsOf (r.map D.str)).map (x :: ·) = _
    rw [strsOf_map r]
    rfl
def fLenSet : List D → Option D
  | [.lst ds] => match strsOf ds with
    | some xs => if xs.length < 4000 then some (.int (nd xs.reverse : Nat)) else none
    | none => none
  | _ => none
theorem lenSet_some {xs : List Str} {d : D} : (fLenSet [.lst (xs.map D.str)] = some d) = (.int (nd xs.reverse : Nat) = d ∧ xs.length < 4000) := by
  have e : fLenSet [.lst (xs.map D.str)] = if xs.length < 4000 then some (.int (nd xs.reverse : Nat)) else none := by
    show (match strsOf (xs.map D.str) with
      | some xs => if xs.length < 4000 then some (D.int (nd xs.reverse : Nat)) else none
      | none => none) = _
    rw [strsOf_map]
  rw [e]
  split <;> simp [*]
theorem reps_strs {K : Frag} {F : Hp} {ρ : List Addr} : ∀ {xs : List Str} {vs : List V}, RepL K F ρ vs (xs.map D.str) → vs = xs.map V.str
  | [], _, h => by cases h; rfl
  | x :: r, _, h => by
    cases h with
    | cons a b =>
      cases a
      rw [reps_strs b]
      rfl
theorem pk_lenSet {K : Frag} : PkC K (rLenSet K) fLenSet := by
  intro W H vs ds d s ks e
  unfold fLenSet at e
  split at e
  · rename_i ys
    split at e
    · rename_i xs hx
      split at e
      · rename_i hz
        cases e
        cases ks with
        | cons k t =>
          cases t
          obtain ⟨a, us, rfl, q, r⟩ := k
          rw [strsOf_some hx] at r
          rw [reps_strs r] at q
          exact ⟨_, .int _, fun Q k => ⟨a, xs, rfl, q, hz, k⟩⟩
      · cases e
    · cases e
  · cases e
end Mi

set_option Elab.async false
set_option linter.all false
set_option maxRecDepth 100000
set_option maxHeartbeats 4000000
/-! Mi28: a comprehension over a tuple -/
namespace Mi
open PySem PySem.Spec PyProof.Rows L2
section
variable {vs : List Nat} {ma : M EV} {mg : EV → M Unit} {mt : M Bool} {me : M EV} {st : St} {e : Kv.Er → St → Prop}
open Classical in
theorem rp_lc_tup (I : List D → List D → St → Prop) {ds : List D} {st0 : St} {kx : BX → St → Prop} (h1 : ma st = .ok (.dat (.tup ds)) st0) (h0 : I ds [] st0)
    (hs : ∀ d r acc st', I (d :: r) acc st' → Rp (mg (.dat d) (st'.wiped vs)) (fun _ st1 => Rp (mt st1) (fun b st2 => if b = true then Rp (me st2) (fun ev st3 => Rp (toD ev st3) (fun x st4 => acc.length < sizeLine ∧ I r (acc ++ [x]) st4) (fun _ _ => False)) (fun _ _ => False) else I r acc st2) (fun _ _ => False)) (fun _ _ => False))
    (hd : ∀ acc st', I [] acc st' → kx (.lst acc) { st' with env := restE st0.env st'.env vs }) : Rp (mLc vs (mITup ma) mg mt me st) kx e := by
  refine rp_lcF (it := ⟨ds, fun _ => True⟩) (st0 := st0) ?_ ?_
  · unfold mITup
    rw [h1]
    rfl
  · exact rp_lcFl I (fun _ _ _ _ => trivial) hs (fun acc st' g => hd acc st' g) ds [] st0 h0
open Classical in
/-- over a range, with a filter -/
theorem rp_lc_rngF (n : Int) (I : Nat → List D → St → Prop) {st0 : St} {kx : BX → St → Prop} (hn : -4611686018427387904 ≤ n ∧ n < 4611686018427387904) (ha : ma st = .ok (.dat (.int n)) st0) (h0 : I 0 [] st0)
    (hs : ∀ (i : Nat) acc st', (i : Int) < n → I i acc st' → Rp (mg (.dat (.int (i : Int))) (st'.wiped vs)) (fun _ st1 => Rp (mt st1) (fun b st2 => if b = true then Rp (me st2) (fun ev st3 => Rp (toD ev st3) (fun x st4 => acc.length < sizeLine ∧ I (i + 1) (acc ++ [x]) st4) (fun _ _ => False)) (fun _ _ => False) else I (i + 1) acc st2) (fun _ _ => False)) (fun _ _ => False))
    (hd : ∀ acc st', I n.toNat acc st' → kx (.lst acc) { st' with env := restE st0.env st'.env vs }) : Rp (mLc vs (mIRng1 (mCons ma (M.pure []))) mg mt me st) kx e := by
  have hlen : (rngD 0 n.toNat).length = n.toNat := by simp [rngD]
  refine rp_lcF (it := ⟨rngD 0 n.toNat, fun _ => True⟩) (st0 := st0) ?_ ?_
  · unfold mIRng1 mCons
    rw [ha]
    simp only [R.bind, notTp, if_true, M.pure]
    rw [if_pos (show -2 ^ 62 ≤ n ∧ n < 2 ^ 62 from hn)]
  · refine rp_lcFl (fun r acc st' => ∃ i, r = (rngD 0 n.toNat).drop i ∧ i ≤ n.toNat ∧ I i acc st') (fun _ _ _ _ => trivial) (fun d r acc st' g => ?_) (fun acc st' g => ?_) _ [] st0 ⟨0, rfl, Nat.zero_le _, h0⟩
    · obtain ⟨i, hr, hi, g⟩ := g
      have hl : i < (rngD 0 n.toNat).length := by
        have := congrArg List.length hr
        rw [List.length_cons, List.length_drop] at this
        omega
      rw [List.drop_eq_getElem_cons hl] at hr
      injection hr with e1 e2
      obtain ⟨e3, _⟩ := rng_get (List.getElem?_eq_getElem hl)
      rw [← e1] at e3
      subst e3
      have hlt : i < n.toNat := by omega
      have := hs i acc st' (by omega) g
      rw [Int.zero_add]
      refine rp_imp this (fun _ st1 h1 => rp_imp h1 (fun b st2 h2 => ?_) fun _ _ z => z) fun _ _ z => z
      by_cases c : b = true
      · rw [if_pos c] at h2 ⊢
        exact rp_imp h2 (fun ev st3 h3 => rp_imp h3 (fun x st4 h4 => ⟨h4.1, i + 1, e2, by omega, h4.2⟩) fun _ _ z => z) fun _ _ z => z
      · rw [if_neg c] at h2 ⊢
        exact ⟨i + 1, e2, by omega, h2⟩
    · obtain ⟨i, hr, hi, g⟩ := g
      have : n.toNat ≤ i := by
        have := congrArg List.length hr
        rw [List.length_nil, List.length_drop, hlen] at this
        omega
      rw [show i = n.toNat by omega] at g
      exact hd acc st' g
end
end Mi

set_option Elab.async false
set_option linter.all false
set_option maxRecDepth 100000
set_option maxHeartbeats 4000000
/-! Mi29: list(xs) inside a try; a loop's name set without running what follows -/
namespace Mi
open PySem PySem.Spec PyProof.Rows L2
theorem call_listK (K : Frag) {X : Cx} (h : X.K = K := by rfl) : CallR X (.type "list") (fun xs H Q => ∃ p ys, xs = [.ref p] ∧ (SqL K H p ys ∨ SqT K H p ys) ∧ ∀ l, H l = none → Q (.ref l) (upd H l (.lst ys))) := by subst h; exact call_list_of
theorem nmD {i : Nat} {d : D} {st : St} {k : Unit → St → Prop} {e : Kv.Er → St → Prop} (h : k () { st with env := st.env.set i (some (.dat d)) }) : Rp (mgName i (.dat d) st) k e := by
  unfold mgName
  exact h
/-- the name of a loop is set, then a part that is told apart -/
theorem nmB {i : Nat} {d : D} {st st1 : St} {B : M Fl} {I : St → Prop} {kf : Fl → St → Prop} {e : Kv.Er → St → Prop} (hs : { st with env := st.env.set i (some (.dat d)) } = st1) (h : RpI (B st1) (LpEnd I (fun _ _ => False)) (fun _ _ => False)) : Rp (mgName i (.dat d) st) (fun _ st2 => Rp (B st2) (LpEnd I kf) e) e := by
  refine nmD ?_
  rw [hs]
  exact lpW (RpI.to h)
end Mi

set_option Elab.async false
set_option linter.all false
set_option maxRecDepth 100000
set_option maxHeartbeats 4000000
/-! Mi30: a slice inside a comprehension or a try -/
namespace Mi
open PySem PySem.Spec PyProof.Rows L2
theorem slt (K : Frag) {X : Cx} (h : X.K = K := by rfl) : SlR X (rSlT K) := by subst h; exact sl_tup
theorem sll (K : Frag) {X : Cx} (h : X.K = K := by rfl) : SlR X (rSlL K) := by subst h; exact sl_list
end Mi

set_option Elab.async false
set_option linter.all false
set_option autoImplicit false
set_option maxRecDepth 100000
set_option maxHeartbeats 4000000
namespace Mi
open PySem PySem.Spec PyProof.Rows L2
/-- a method with no argument inside a try -/
theorem pe_bm0T (K : Frag) {X : Cx} {T name id : String} {r : V → List V → Hp → VK → Prop} {o : Expr} {to : TE} {apos cpos : Pos} (pa : PlainAttrs T) (slot : Slot T name id) (hty : typeOf (.builtin id) = pure (.type "method_descriptor")) (hm : MtR X id r) (ho : PE X o to)
    (hbase : attributeBase o name X.env (eval o X.env) = eval o X.env := by rfl) (hline : (apos.endLine == cpos.line) = true := by rfl) (h : X.K = K := by rfl) :
    PE X (.Call (.Attribute o name apos) [] [] cpos) (tBM0 K T r to) := by subst h; exact pe_bm0 pa slot hty hm ho hbase hline
end Mi

set_option Elab.async false
set_option linter.all false
set_option autoImplicit false
set_option maxRecDepth 100000
set_option maxHeartbeats 4000000
/-! Mi32: a list compared with an empty one, whatever its items are -/
namespace Mi
open PySem PySem.Spec PyProof.Rows L2
def rEqE (K : Frag) : R2 := fun x y H Q => ∃ p q xs ys, x = .ref p ∧ y = .ref q ∧ SqL K H p xs ∧ SqL K H q ys ∧ (xs.length = 0 ∨ ys.length = 0) ∧ Q (.bl (decide (xs.length = ys.length))) H
def rNeE (K : Frag) : R2 := fun x y H Q => ∃ p q xs ys, x = .ref p ∧ y = .ref q ∧ SqL K H p xs ∧ SqL K H q ys ∧ (xs.length = 0 ∨ ys.length = 0) ∧ Q (.bl (!decide (xs.length = ys.length))) H
section
variable {X : Cx}
theorem op_eqE (hu : X.A.units + 64 < cLine) : OpR X (compareOp .Eq) (rEqE X.K) := by
  intro pins s σ H x y v u Q I rx ry h
  obtain ⟨p, q, xs, ys, rfl, rfl, hx, hy, he, hq⟩ := h
  obtain rfl : v = Value.ref p := rx
  obtain rfl : u = Value.ref q := ry
  obtain ⟨us, r1, p1, _⟩ := I.list hx
  obtain ⟨ws, r2, p2, _⟩ := I.list hy
  have s1 : us.toArray.size = xs.length := by rw [List.size_toArray, ← r1.length]
  have s2 : ws.toArray.size = ys.length := by rw [List.size_toArray, ← r2.length]
  by_cases c : xs.length = ys.length
  · have h := SeqAt.RcAt.lists (A := X.A) (s := s) (e := fun _ => true) p1.isList p2.isList (by rw [s1, s2, c]) (by omega) (fun j h1 h2 => by omega)
    rw [show ((List.range us.toArray.size).all fun _ => true) = true from List.all_eq_true.mpr fun _ _ => rfl] at h
    rw [decide_eq_true c] at hq
    exact h _ _ _ _ ⟨.bl true, H, I, rfl, hq⟩
  · have h := SeqAt.RcAt.lists_lengths (A := X.A) (s := s) p1.isList p2.isList (by rw [s1, s2]; simpa using c) (by omega)
    rw [decide_eq_false c] at hq
    exact h _ _ _ _ ⟨.bl false, H, I, rfl, hq⟩
theorem op_neE (hu : X.A.units + 64 < cLine) : OpR X (compareOp .NotEq) (rNeE X.K) := by
  intro pins s σ H x y v u Q I rx ry h
  obtain ⟨p, q, xs, ys, rfl, rfl, hx, hy, he, hq⟩ := h
  obtain rfl : v = Value.ref p := rx
  obtain rfl : u = Value.ref q := ry
  obtain ⟨us, r1, p1, _⟩ := I.list hx
  obtain ⟨ws, r2, p2, _⟩ := I.list hy
  have s1 : us.toArray.size = xs.length := by rw [List.size_toArray, ← r1.length]
  have s2 : ws.toArray.size = ys.length := by rw [List.size_toArray, ← r2.length]
  by_cases c : xs.length = ys.length
  · have h := SeqAt.RcNeAt.lists (A := X.A) (s := s) (e := fun _ => true) p1.isList p2.isList (by rw [s1, s2, c]) (by omega) (fun j h1 h2 => by omega)
    rw [show ((List.range us.toArray.size).all fun _ => true) = true from List.all_eq_true.mpr fun _ _ => rfl] at h
    rw [decide_eq_true c] at hq
    exact h _ _ _ _ ⟨.bl false, H, I, rfl, hq⟩
  · have h := SeqAt.RcNeAt.lists_lengths (A := X.A) (s := s) p1.isList p2.isList (by rw [s1, s2]; simpa using c) (by omega)
    rw [decide_eq_false c] at hq
    exact h _ _ _ _ ⟨.bl true, H, I, rfl, hq⟩
end
def fEqE (x y : D) : Option D := match x, y with
  | .lst xs, .lst ys => if xs.length = 0 ∨ ys.length = 0 then some (.bl (decide (xs.length = ys.length))) else none
  | _, _ => none
def fNeE (x y : D) : Option D := match x, y with
  | .lst xs, .lst ys => if xs.length = 0 ∨ ys.length = 0 then some (.bl (!decide (xs.length = ys.length))) else none
  | _, _ => none
section
variable {K : Frag}
theorem pk_eqE : PkOp K (rEqE K) fEqE := by
  intro W H vx vy x y d s kx ky e
  unfold fEqE at e
  split at e
  · split at e
    · rename_i c
      cases e
      obtain ⟨a, us, rfl, q1, r1⟩ := kx
      obtain ⟨b, ws, rfl, q2, r2⟩ := ky
      exact ⟨_, .bl _, fun Q k => ⟨a, b, us, ws, rfl, rfl, q1, q2, by rw [r1.len, r2.len]; exact c, by rw [r1.len, r2.len]; exact k⟩⟩
    · cases e
  · cases e
theorem pk_neE : PkOp K (rNeE K) fNeE := by
  intro W H vx vy x y d s kx ky e
  unfold fNeE at e
  split at e
  · split at e
    · rename_i c
      cases e
      obtain ⟨a, us, rfl, q1, r1⟩ := kx
      obtain ⟨b, ws, rfl, q2, r2⟩ := ky
      exact ⟨_, .bl _, fun Q k => ⟨a, b, us, ws, rfl, rfl, q1, q2, by rw [r1.len, r2.len]; exact c, by rw [r1.len, r2.len]; exact k⟩⟩
    · cases e
  · cases e
end
theorem eqE_nil (xs : List D) : fEqE (.lst xs) (.lst []) = some (.bl (decide (xs.length = 0))) := by
  unfold fEqE
  dsimp only
  rw [if_pos (.inr rfl)]
  rfl
theorem neE_nil (xs : List D) : fNeE (.lst xs) (.lst []) = some (.bl (!decide (xs.length = 0))) := by
  unfold fNeE
  dsimp only
  rw [if_pos (.inr rfl)]
  rfl
end Mi

set_option Elab.async false
set_option linter.all false
set_option autoImplicit false
set_option maxRecDepth 100000
set_option maxHeartbeats 4000000
/-! Mi33: isinstance inside a try -/
namespace Mi
open PySem PySem.Spec PyProof.Rows L2
theorem call_isiK (K : Frag) {X : Cx} (h : X.K = K := by rfl) : CallR X (.builtin "isinstance") (rIsi K) := by subst h; exact call_isi
end Mi

set_option Elab.async false
set_option linter.all false
set_option autoImplicit false
/-! Mi34: membership, with K of the outside -/
namespace Mi
open PySem PySem.Spec PyProof.Rows L2
theorem op_inK (K : Frag) {X : Cx} (h : X.K = K := by rfl) : OpR X (compareOp .In) (rIn K false) := by subst h; exact op_in_seq
theorem op_notInK (K : Frag) {X : Cx} (h : X.K = K := by rfl) : OpR X (compareOp .NotIn) (rIn K true) := by subst h; exact op_notIn_seq
end Mi

set_option Elab.async false
set_option linter.all false
set_option autoImplicit false
/-! Mi35: readings: while with its fuel, enumerate over a list with a place, a comprehension over a zip, a comprehension of a dict -/
namespace Mi
open PySem PySem.Spec PyProof.Rows L2
section
variable {mc : M Bool} {m1 mb : M Fl} {mas : M (List EV)} {kf : Fl → St → Prop} {e : Kv.Er → St → Prop} {vs : List Nat} {st : St} {mg : EV → M Unit} {mt : M Bool} {mk me ma : M EV}
theorem rp_wh (I : Nat → St → Prop) (hs : ∀ m st, I m st → Rp (mc st) (fun b st1 => if b = true then ∃ m', m = m' + 1 ∧ Rp (mb st1) (LpEnd (I m') kf) e else kf .nx st1) e) : ∀ (n m : Nat) (st : St), m < n → I m st → Rp (whL mc mb n st) kf e
  | 0, _, _, h, _ => absurd h (Nat.not_lt_zero _)
  | n + 1, m, st, hm, h => by
    unfold whL
    rw [rp_bind]
    refine rp_imp (hs m st h) (fun b st1 g => ?_) (fun _ _ z => z)
    by_cases c : b = true
    · rw [if_pos c] at g ⊢
      obtain ⟨m', rfl, g⟩ := g
      rw [rp_bind]
      refine rp_imp g (fun f st2 g => ?_) (fun _ _ z => z)
      cases f with
      | nx => exact rp_wh I hs n m' st2 (by omega) g
      | cont => exact rp_wh I hs n m' st2 (by omega) g
      | brk => exact g
      | ret ev => exact g
    · rw [if_neg c] at g ⊢
      exact g
theorem rp_lc_zip (I : List D → List D → St → Prop) {a b : EV} {xs ys : List D} {st0 : St} {kx : BX → St → Prop} (h1 : mas st = .ok [a, b] st0) (na : isSl a = false) (nb : isSl b = false) (pa : peek st0 a = some (.lst xs)) (pb : peek st0 b = some (.lst ys)) (h0 : I (zipD xs ys) [] st0) (hc : ∀ r acc st', I r acc st' → peek (st'.wiped vs) a = some (.lst xs) ∧ peek (st'.wiped vs) b = some (.lst ys))
    (hs : ∀ d r acc st', I (d :: r) acc st' → Rp (mg (.dat d) (st'.wiped vs)) (fun _ st1 => Rp (mt st1) (fun b st2 => if b = true then Rp (me st2) (fun ev st3 => Rp (toD ev st3) (fun x st4 => acc.length < sizeLine ∧ I r (acc ++ [x]) st4) (fun _ _ => False)) (fun _ _ => False) else I r acc st2) (fun _ _ => False)) (fun _ _ => False))
    (hd : ∀ acc st', I [] acc st' → kx (.lst acc) { st' with env := restE st0.env st'.env vs }) : Rp (mLc vs (mIZip mas) mg mt me st) kx e := by
  refine rp_lcF (it := ⟨zipD xs ys, fun st2 => peek st2 a = some (.lst xs) ∧ peek st2 b = some (.lst ys)⟩) (st0 := st0) ?_ ?_
  · unfold mIZip
    rw [h1]
    show (if isSl a = true ∨ isSl b = true then R.stuck else match peek st0 a, peek st0 b with
      | some (.lst xs), some (.lst ys) => R.ok ⟨zipD xs ys, fun st2 => peek st2 a = some (.lst xs) ∧ peek st2 b = some (.lst ys)⟩ st0
      | _, _ => .stuck : R Itr) = _
    rw [if_neg (by rw [na, nb]; decide), pa, pb]
  · exact rp_lcFl I hc hs (fun acc st' g => hd acc st' g) _ [] st0 h0
open Classical in
theorem rp_dcL (I : List (Key × D) → List (Key × D) → St → Prop) {kl : List (Key × D) → St → Prop}
    (hs : ∀ q d r acc st', I ((q, d) :: r) acc st' → Rp (mg (.dat (dK q)) (st'.wiped vs)) (fun _ st1 => Rp (mk st1) (fun kv st2 => ∃ p, keyE kv = some p ∧ Rp (me st2) (fun ev st3 => ∃ x, ev = .dat x ∧ acc.length < sizeLine ∧ I r (dPut acc p x) st3) (fun _ _ => False)) (fun _ _ => False)) (fun _ _ => False))
    (hd : ∀ acc st', I [] acc st' → kl acc st') : ∀ (l acc : List (Key × D)) (st : St), I l acc st → Rp (dcL vs (fun _ => True) mg (M.pure true) mk me (l.map fun kv => dK kv.1) acc st) kl (fun _ _ => False)
  | [], acc, st, h => by
    show Rp (if True then R.ok acc st else .stuck) kl _
    rw [if_pos trivial]
    exact hd acc st h
  | (q, d) :: l, acc, st, h => by
    show Rp (if True then (mg (.dat (dK q)) (st.wiped vs)).bind fun _ st1 => (mk st1).bind fun kv st3 => (me st3).bind fun ev st4 => dcR (fun acc => dcL vs (fun _ => True) mg (M.pure true) mk me (l.map fun kv => dK kv.1) acc) acc (keyE kv) ev st4 else .stuck) kl _
    rw [if_pos trivial, rp_bind]
    refine rp_imp (hs q d l acc st h) (fun _ st1 g => ?_) (fun _ _ z => z)
    rw [rp_bind]
    refine rp_imp g (fun kv st2 g => ?_) (fun _ _ z => z)
    obtain ⟨p, ep, g⟩ := g
    rw [rp_bind]
    refine rp_imp g (fun ev st3 g => ?_) (fun _ _ z => z)
    obtain ⟨x, rfl, hl, g⟩ := g
    unfold dcR
    rw [ep]
    dsimp only
    rw [if_pos hl]
    exact rp_dcL I hs hd l _ st3 g
open Classical in
theorem rp_dc {j : Nat} {kvs : List (Key × D)} {st0 : St} {kx : BX → St → Prop} (I : List (Key × D) → List (Key × D) → St → Prop) (h1 : ma st = .ok (.dat (.ob j)) st0) (h2 : st0.S[j]? = some (.bx (.fz kvs))) (h0 : I kvs [] st0)
    (hs : ∀ q d r acc st', I ((q, d) :: r) acc st' → Rp (mg (.dat (dK q)) (st'.wiped vs)) (fun _ st1 => Rp (mk st1) (fun kv st2 => ∃ p, keyE kv = some p ∧ Rp (me st2) (fun ev st3 => ∃ x, ev = .dat x ∧ acc.length < sizeLine ∧ I r (dPut acc p x) st3) (fun _ _ => False)) (fun _ _ => False)) (fun _ _ => False))
    (hd : ∀ acc st', I [] acc st' → kx (.dct acc) { st' with env := restE st0.env st'.env vs }) : Rp (mDc vs (mIKeys ma) mg (M.pure true) mk me st) kx e := by
  have hL := rp_dcL (vs := vs) (mg := mg) (mk := mk) (me := me) I (kl := fun acc st' => kx (.dct acc) { st' with env := restE st0.env st'.env vs }) hs hd kvs [] st0 h0
  have hi : mIKeys ma st = .ok ⟨kvs.map fun kv => dK kv.1, fun _ => True⟩ st0 := by
    unfold mIKeys
    rw [h1]
    show (match st0.S[j]? with
      | some (.bx (.fz kvs)) => R.ok ⟨kvs.map fun kv => dK kv.1, fun _ => True⟩ st0
      | _ => .stuck : R Itr) = _
    rw [h2]
  unfold mDc
  rw [hi]
  dsimp only [R.bind]
  have e1 : ∀ inst, @dcL vs (fun _ => True) mg (M.pure true) mk me inst (kvs.map fun kv => dK kv.1) [] st0 = dcL vs (fun _ => True) mg (M.pure true) mk me (kvs.map fun kv => dK kv.1) [] st0 := fun inst => by congr
  rw [e1]
  revert hL
  generalize dcL vs (fun _ => True) mg (M.pure true) mk me (kvs.map fun kv => dK kv.1) [] st0 = r
  intro hL
  cases r with
  | ok ds st2 => exact hL
  | err _ _ => exact hL.elim
  | stuck => exact hL.elim
end
/-- the law's end, the parameter's name at will -/
theorem walkL (x : Str) {l : PySem.W.OpenLaw} {k : Nat} {q : Program} {loose : List Str} {XP : (Str → Option Value) → Heap → Prop} {YP : World → Heap → Prop} {d : DefRec} {K : Params → Frag}
    (hn : l.most = some 63) (hdf : d.params.defaults = []) (hr : Room k callerA) (hY : ∀ (w : World) (h : Heap), YP w h → (K w.params).In h)
    (F : ∀ (w : World) (mg : Str → Option Value) (fa : Addr) (h : Heap), (K w.params).In h → h.Ns mainGlobals mg → mg d.name = some (.ref fa) →
      ∃ fd : FuncData, (∀ (s : Shared) (u : Value), BindsTo s fd ⟨[u], []⟩ [(x, u)]) ∧ ∀ base : Heap, (K w.params).In base → base.Ns mainGlobals mg → FnOk l.prog w (K w.params) mg base CX0 k fa fd [x] (Kv.spLaw (K w.params))) :
    PySem.W.WalkO q loose XP YP l.row.toRowW d [] (fun f vs => PySem.call f vs) :=
  L2.walk_ofB (n := 63) (k := k) (x := x) (CX := fun _ => CX0) (sp := fun w => Kv.spLaw (K w.params)) hn (by decide) hdf hr hY F
    (fun _ _ a ns hl hb _ hS => ⟨a, ns, rfl, hS, hl, hb, fun _ => rfl⟩) fun _ _ _ _ _ z => z
end Mi

set_option Elab.async false
set_option linter.all false
set_option autoImplicit false
/-! Mi36: membership in a list of lists or tuples -/
namespace Mi
open PySem PySem.Spec PyProof.Rows L2
theorem op_inDK {X : Cx} {K : Frag} {k : Nat} (hr : Room k X.A) (hK : X.K = K := by rfl) : OpR X (compareOp .In) (rInD K) := by subst hK; exact op_inD (by have := hr.un; omega)
theorem op_notInDK {X : Cx} {K : Frag} {k : Nat} (hr : Room k X.A) (hK : X.K = K := by rfl) : OpR X (compareOp .NotIn) (rNotInD K) := by subst hK; exact op_notInD (by have := hr.un; omega)
def fInD (x y : D) : Option D := match x.pd, y.pd with
  | some a, some (.list bs) => if SeqAt.shaped a = true ∧ SeqAt.shaped (.list bs) = true then some (.bl (bs.any fun z => PyData.eqv z a)) else none
  | _, _ => none
def fNinD (x y : D) : Option D := match x.pd, y.pd with
  | some a, some (.list bs) => if SeqAt.shaped a = true ∧ SeqAt.shaped (.list bs) = true then some (.bl (!bs.any fun z => PyData.eqv z a)) else none
  | _, _ => none
section
variable {K : Frag}
theorem pk_inD : PkOp K (rInD K) fInD := by
  intro W H vx vy x y d s kx ky e
  unfold fInD at e
  split at e
  · rename_i a bs e1 e2
    split at e
    · rename_i c
      cases e
      exact ⟨_, .bl _, fun Q k => ⟨a, bs, dp_of (kx.rep s) e1, dp_of (ky.rep s) e2, c.1, c.2, k⟩⟩
    · cases e
  · cases e
theorem pk_ninD : PkOp K (rNotInD K) fNinD := by
  intro W H vx vy x y d s kx ky e
  unfold fNinD at e
  split at e
  · rename_i a bs e1 e2
    split at e
    · rename_i c
      cases e
      exact ⟨_, .bl _, fun Q k => ⟨a, bs, dp_of (kx.rep s) e1, dp_of (ky.rep s) e2, c.1, c.2, k⟩⟩
    · cases e
  · cases e
end
/-! a comprehension within a comprehension -/
def relS (sc scope : Scope) : Scope := { scope with names := scope.names.map fun (n, k) => if (k == NameKind.free && sc.kind == .function && sc.names.lookup n == some .cell) then (n, NameKind.cell) else (n, k) }
theorem blkOk_in {N : List Str} {X : Cx} {s : Shared} {H : Hp} {fp : List Addr} {cl : List (Str × Addr)} {C : Addr} {scope1 scope : Scope} {own : List (Str × Nat)} (sc0 : Scope) (e : X.env.scope = sc0) (h : blkC N (relS sc0 scope1) scope own = true) : BlkOk N (X.blk s H scope1 (compEnvC scope1 cl C X.env) fp).env.scope scope own := by
  subst e
  exact blkOk_by (sc := relS X.env.scope scope1) h
theorem pi_listK (K : Frag) {X : Cx} {tg l : Expr} {tl : TE} (hl : PE X l tl) (h : X.K = K := by rfl) : PI X tg l (iList K tl) := by subst h; exact pi_list hl
end Mi

set_option Elab.async false
set_option linter.all false
set_option autoImplicit false
set_option maxRecDepth 100000
set_option maxHeartbeats 4000000
namespace K34
open PySem PySem.Spec PyProof.Rows L2
local macro_rules | `(tactic| walk_at "mi") => `(tactic| simp only [Mi.runF, Mi.noErrF, Mi.AV.sv, Mi.mSeq, Mi.mDrop, Mi.mRet, Mi.mRetX, Mi.mRetN, Mi.mNext, Mi.mBrk, Mi.mCont, Mi.mIfS, Mi.mAsg, Mi.mAsgN, Mi.mgName, Mi.setD, Mi.mgTup, Mi.mgCons, Mi.mgNil, Mi.mgSub, Mi.mAug, Mi.mTru, Mi.truD, Mi.mChain, Mi.mB, Mi.mAnd, Mi.mOr, Mi.mNot, Mi.mAndV, Mi.mOrV, Mi.mNotV, Mi.mIf, Mi.mPk, Mi.peek, Mi.peeks, Mi.iOp, Mi.sOp, Mi.fEq, Mi.fNe, Mi.fIsN, Mi.fNotN, Mi.isNon, Mi.scV, Mi.fIxL, Mi.fIxT, Mi.fIxS, Mi.mUn, Mi.fNeg, Mi.mM1, Mi.mM0, Mi.mM2, Mi.fIsdigit, Mi.fZfill, Mi.fFind, Mi.fEndswith, Mi.fStartswith, Mi.fRemoveprefix, Mi.fRemovesuffix, Mi.fLjust2, Mi.fJoin, Mi.mPartition, Mi.mSplit, Mi.mNew2, Mi.fCatL, Mi.mNewC, Mi.fListOf, Mi.mPart, Mi.mSlL, Mi.mSlS, Mi.mMut, Mi.ownB, Mi.setH, Mi.mPut, Mi.putH, Mi.St.wiped, Mi.wipeE, Mi.restE, Mi.fAppend, Mi.mPkC, Mi.fLenQ, Mi.fLenS, Mi.fAbs, Mi.fMax2, Mi.fMin2, Mi.fInt1, Mi.fStrI, Mi.fOrd, Mi.fIntS, Mi.fSum, Mi.fAll, Mi.fIsi, Mi.tyD, Mi.mCatA, Mi.mPar, Mi.mC, Mi.mD, Mi.toD, Mi.mVar, Mi.mTup, Mi.mLst, Mi.mFrz, Mi.mCons, Mi.mConsN, Mi.dats, Mi.notTp, Mi.M.pure, Mi.M.stuck, Mi.R.bind, Mi.mCall, Mi.mCall0, Mi.mCallN, Mi.callR, Mi.splitA, Mi.boxOf, Mi.isH, Mi.tagsOf, Mi.hTagAt, Mi.mPut, Mi.putH, Mi.St.wiped, Mi.wipeE, Mi.restE, Mi.backV, Mi.frzR, Mi.newR, Mi.mTry, Mi.mTryO, Mi.mKinds, Mi.mIsE, Mi.mRaise, Mi.noExc, Mi.isSl, Mi.mIList, Mi.mITup, Mi.mIStr, Mi.mIRng1, Mi.mIRng2, Mi.mIEnum, Mi.mIZip, Mi.fMulS, Mi.fEqD, Mi.fNeD, Mi.D.pd, Mi.pdL, Mi.mFor, Kv.sc_ii, Kv.sc_ss, Kv.sc_bb, Kv.sc_nn, Kv.sc_ni, Kv.sc_in, Kv.sc_sn, Kv.sc_ns, Kv.sc_bn, Kv.sc_nb, Kv.sc_is, Kv.sc_si, Kv.cdiv_1, Kv.cdiv_2, Kv.cdiv_3, Kv.cdiv_4, Kv.cdiv_5, Kv.cdiv_6, Kv.cdiv_7, Kv.cdiv_8, Kv.cdiv_9, Kv.cdiv_10, Kv.cdiv_16, Kv.cdiv_20, Kv.cdiv_100, Kv.cdiv_1000, Kv.cdiv_10000,
  List.map_cons, List.map_nil, List.cons_append, List.nil_append, List.append_nil, List.length_cons, List.length_nil, List.replicate, List.replicate_succ, List.replicate_zero, List.getElem?_cons_zero, List.getElem?_cons_succ, List.getElem?_nil, List.set_cons_zero, List.set_cons_succ, List.set_nil, List.length_map, List.mapIdx_cons, List.mapIdx_nil, List.nodup_cons, List.not_mem_nil, List.mem_cons, List.nodup_nil, not_false_eq_true, Function.comp, Mi.Tag.sl.injEq, Mi.Tag.io.injEq, Mi.Tag.tm.injEq, Option.map_some, Option.map_none, Option.bind_some, Option.bind_none, Option.some.injEq, V.int.injEq, V.str.injEq, V.bl.injEq, Bool.not_eq_true', Bool.true_and, Bool.and_true, Bool.false_and, Bool.and_false, Bool.or_false, Bool.false_or, Bool.not_true, Bool.not_false, Bool.false_eq_true, if_true, if_false, ite_true, ite_false, and_true, true_and, and_self, or_false, false_or, or_self, and_false, false_and, reduceCtorEq, Nat.reduceSub, Nat.reduceAdd, Nat.reduceLeDiff, Nat.reduceLT, Nat.reduceEqDiff, Nat.reduceMul, Nat.zero_add, Nat.add_zero, Int.reduceLT, Int.reduceLE, Int.reduceAdd, Int.reduceMul, Int.reduceSub, Int.reducePow, Int.reduceToNat, Int.reduceNeg, Nat.reducePow, decide_eq_true_eq, decide_true, decide_false, decide_eq_false_iff_not, not_true_eq_false, ite_self])
local macro_rules | `(tactic| walk_at "rp") => `(tactic| simp only [Mi.rp_ok, Mi.rp_fld, Mi.rp_fldS, Mi.rp_fldA, Mi.rp_box, Mi.rp_meth, Mi.rp_methN, Mi.rp_make, Mi.rp_mutN, Mi.EndQ, Mi.EndA, Mi.er_nx, Mi.er_rt, Mi.er_tp, Mi.er_sl, Mi.er_er, Mi.rp_slA, Mi.rp_tupOf, Mi.rp_augL, Mi.s_set_new, List.append_assoc, List.length_append, Nat.add_assoc, Mi.ne_bb, Mi.eq_bb, Mi.nx_exc, Mi.nm_1, Mi.nm_2, Mi.nm_3, Mi.nm_4, Mi.nm_5, Mi.nm_6, Mi.nm_7, Option.isSome_some, Option.isSome_none, Mi.rpF_ok, Mi.rpF_new, Mi.rpF_err, Mi.rpF_ite, Mi.rfE_some, Mi.rfE_none, Mi.rfE_ite, Mi.RF.ok.injEq, Mi.RF.err.injEq, Mi.RV.dat.injEq, Mi.rp_class, Mi.rp_dget, Mi.rp_din, Mi.rp_dget1, Mi.rp_dget2, Mi.rp_dput, Mi.rp_daug, Mi.rp_dnew, Mi.rp_dlen, Mi.rp_dlist, Mi.rp_dcopy, Mi.keyE_int, Mi.keyE_str, Mi.rp_idxL, Mi.rp_idxT, Mi.setH_ob, Mi.BX.dct.injEq, Mi.rp_catA, Mi.rp_ifT, Mi.kit_nb, Mi.kit_ni, Mi.kit_ns, Mi.kit_nl, Mi.kit_nt, Mi.kit_bi, Mi.kit_bs, Mi.kit_bl, Mi.kit_bt, Mi.kit_is, Mi.kit_il, Mi.kit_it, Mi.kit_sb, Mi.kit_si, Mi.kit_sl, Mi.kit_st, Mi.kit_lb, Mi.kit_li, Mi.kit_ls, Mi.kit_lt, Mi.kit_tb, Mi.kit_ti, Mi.kit_ts, Mi.kit_tl, Mi.rp_psNil, Mi.rp_psCons, Mi.rp_disp, Mi.ev_nx, Mi.ev_rt, Mi.ev_tp, Mi.ev_sl, Mi.ev_er, Mi.rp_classG, Mi.clear_some, Mi.lenSet_some,  Mi.rp_err, Mi.rp_stuck, Mi.rp_pure, Mi.rp_c, Mi.rp_pk, Mi.rp_pkC, Mi.rp_un, Mi.rp_m1, Mi.rp_m0, Mi.rp_m2, Mi.rp_partition, Mi.rp_cons, Mi.rp_consN, Mi.rp_d, Mi.rp_frz, Mi.rp_tup, Mi.rp_lst, Mi.rp_new2, Mi.rp_newC, Mi.rp_part, Mi.rp_slL, Mi.rp_slS, Mi.rp_mut, Mi.rp_b, Mi.rp_and, Mi.rp_or, Mi.rp_not, Mi.rp_tru, Mi.rp_andV, Mi.rp_orV, Mi.rp_notV, Mi.rp_ifE, Mi.rp_chain, Mi.rp_next, Mi.rp_drop, Mi.rp_ret, Mi.rp_retX, Mi.rp_retN, Mi.rp_ifS, Mi.rp_asg, Mi.rp_asgN, Mi.rp_raise, Mi.rp_call, Mi.rp_callN, Mi.rp_kinds, Mi.rp_isE, Mi.rp_mgSub, Mi.kit_tt, Mi.kit_ss, Mi.kit_ii, Mi.kit_ib, Mi.kit_ll, Mi.kit_bb, Mi.ixN_2_0, Mi.ixN_2_1, Mi.ixN_3_0, Mi.ixN_3_1, Mi.ixN_3_2, Mi.atI_c0, Mi.atI_c1, Mi.atI_c2, Mi.atI_c3, Mi.atI_c4, Mi.rp_new_r, Mi.rp_frz_l, Mi.rp_frz_r, Mi.rp_ite, Mi.rp_try, Mi.rp_tryO, Mi.rp_split, Mi.rp_bind, Mi.iOp_some, Mi.sOp_some, Mi.eq_ii, Mi.eq_ss, Mi.ne_ii, Mi.ne_ss, Mi.fIxL_some, Mi.fIxT_some, Mi.append_some, Mi.EndD, Mi.EndN, Mi.EndG, Mi.SqEnd, Mi.LpEnd, Mi.AV.sv, Mi.mgName, Mi.mgTup, Mi.mgLst, Mi.mgCons, Mi.mgNil, Mi.setD, Mi.peek_int, Mi.peek_str, Mi.peek_bl, Mi.peek_non, Mi.peek_lst, Mi.peek_tup, Mi.peek_ty, Mi.peek_tp, Mi.peek_ioU, Mi.peek_slU, Mi.peeks, Mi.cpow_6, Mi.cpow_9, Mi.cpow_12, Mi.cpow_13, Mi.cpow_18, Mi.cdiv_p12, Mi.cdiv_p13, Mi.cdiv_p18,  Mi.toD, Mi.mVar, Mi.dats, Mi.notTp, Mi.isSl, Mi.ownB_sl, Mi.ownB_io, Mi.setH, Mi.mPut, Mi.putH, Mi.St.wiped, Mi.wipeE, Mi.restE, Mi.fNeg, Mi.fInt1, Mi.fAbs, Mi.strI_some, Mi.lenS_some, Mi.mulS_some, Mi.ljust2_some, Mi.rmp_some, Mi.catL_some, Mi.fLenQ, Mi.fSum, Mi.fMax2, Mi.fMin2, Mi.fStartswith, Mi.fFind, Mi.fIsdigit, Mi.fIsN, Mi.fNotN, Mi.isNon, Mi.fIsi, Mi.tyD, Mi.truD, Mi.noExc, exists_eq_left', exists_eq_left, and_assoc, Option.some.injEq, Mi.D.int.injEq, Mi.D.str.injEq, Mi.D.bl.injEq, Mi.D.lst.injEq, Mi.D.tup.injEq, Mi.EV.dat.injEq, Mi.BX.lst.injEq, Mi.St.mk.injEq, List.cons.injEq, Mi.SV.dat.injEq, Mi.SV.own.injEq, Mi.Fl.ret.injEq, List.map_cons, List.map_nil, List.cons_append, List.nil_append, List.append_nil, List.length_cons, List.length_nil, List.replicate, List.replicate_succ, List.replicate_zero, List.getElem?_cons_zero, List.getElem?_cons_succ, List.getElem?_nil, List.set_cons_zero, List.set_cons_succ, List.set_nil, Option.map_some, Option.map_none, decide_eq_true_eq, decide_true, decide_false, Bool.not_eq_true', decide_eq_false_iff_not, Bool.false_eq_true, if_true, if_false, and_true, true_and, and_self, and_false, false_and, reduceCtorEq, Nat.reduceSub, Nat.reduceAdd, Nat.reduceLeDiff, Nat.reduceLT, Nat.reduceEqDiff, Int.reduceLT, Int.reduceLE, Int.reducePow, Int.reduceToNat, Int.reduceNeg, Int.reduceMul, Int.reduceAdd, Int.reduceSub, Kv.cdiv_1, Kv.cdiv_2, Kv.cdiv_3, Kv.cdiv_4, Kv.cdiv_5, Kv.cdiv_6, Kv.cdiv_7, Kv.cdiv_8, Kv.cdiv_9, Kv.cdiv_10, not_true_eq_false, not_false_eq_true, ite_self])
local macro_rules | `(tactic| walk_at "rs") => `(tactic| with_reducible refine Mi.rp_step fun U hU => ?_)
local macro_rules | `(tactic| walk_at "sq") => `(tactic| rw [Mi.rp_sq])
local macro_rules | `(tactic| walk_at "cl") => `(tactic| fail)
local macro_rules | `(tactic| walk_at "ne") => `(tactic| first | assumption | exact Ne.symm (by assumption) | decide | omega)
local macro_rules | `(tactic| walk_at "S") => `(tactic| first | assumption | with_reducible exact Mi.s_new | ((with_reducible refine Mi.s_eq ?_); walk_at "S") | ((with_reducible refine Mi.s_ne ?_ ?_); (focus walk_at "ne"); walk_at "S") | ((with_reducible refine Mi.s_app ?_); walk_at "S"))
local macro_rules | `(tactic| walk_at "oc") => `(tactic| first
  | ((with_reducible apply Mi.ob_fld); (focus walk_at "S"); (focus exact rfl))
  | ((with_reducible apply Mi.ob_rd); (focus walk_at "S"))
  | ((with_reducible apply Mi.ob_rz); (focus walk_at "S"))
  | ((with_reducible apply Mi.ob_ownD); (focus walk_at "S"))
  | ((with_reducible apply Mi.ob_ownL); (focus walk_at "S"))
  | ((with_reducible apply Mi.ob_peek); (focus walk_at "S"))
  | ((with_reducible apply Mi.ob_peekL); (focus walk_at "S"))
  | ((with_reducible apply Mi.ob_set); (focus walk_at "S"); (focus first | decide | exact Nat.le_of_ble_eq_true rfl)))
local macro_rules | `(tactic| walk_at "ob") => `(tactic| first
  | ((with_reducible refine Mi.is_ex ?_); walk_at "oc")
  | ((with_reducible refine Mi.is_and ?_); (with_reducible apply Mi.ob_meth); (focus walk_at "S"); (focus exact rfl)))
local macro_rules | `(tactic| walk_at "if") => `(tactic| (with_reducible refine Mi.rp_isIf ?_); (with_reducible refine Mi.rp_sqA ?_); walk_at "rp")
local macro_rules | `(tactic| walk_at "go") => `(tactic| repeat (first | (fail_if_success with_reducible refine Mi.rp_isIf ?_); with_reducible refine Mi.rp_sqA ?_ | ((fail_if_success with_reducible refine Mi.is_ite ?_); walk_at "rp") | with_reducible refine Mi.sq_nx ?_ | with_reducible refine Mi.lp_nx ?_ | with_reducible refine Mi.lp_ct ?_ | with_reducible refine Mi.lp_bk ?_ | with_reducible refine Mi.lp_rt ?_ | with_reducible refine Mi.sq_rt ?_ | with_reducible refine Mi.sq_bk ?_ | with_reducible refine Mi.sq_ct ?_ | walk_at "cl" | walk_at "ob" | ((with_reducible refine Mi.sz_and ?_ ?_); (focus (first | decide | omega))) | ((with_reducible refine Mi.sz0 ?_); (focus (first | decide | omega))) | ((with_reducible refine Mi.sz0t ?_); (focus (first | decide | omega))) | ((with_reducible refine Mi.sz_andt ?_ ?_); (focus (first | decide | omega))) | ((with_reducible refine Mi.is_ite ?_); simp only [↓reduceIte, Option.isSome_some, Option.isSome_none, Bool.not_true, Bool.not_false, Bool.false_eq_true, Bool.true_eq_false, decide_true, decide_false, reduceCtorEq, not_true_eq_false, not_false_eq_true])))
noncomputable def b_wall : Mi.M Mi.Fl := (Mi.whL (Mi.mB (Mi.mC (.bl true))) Mi.mNext 1000)
noncomputable def m_wall : Mi.Fn := Mi.noErrF (Mi.runF 1 b_wall)
noncomputable def b_is_amount : Mi.M Mi.Fl := (Mi.mRet (Mi.mChain Mi.fLe Mi.fLe (Mi.mC (.int 1)) (Mi.mVar 0) (Mi.mC (.int 1000000000))))
noncomputable def m_is_amount : Mi.Fn := Mi.noErrF (Mi.runF 1 b_is_amount)
noncomputable def b_is_name : Mi.M Mi.Fl := (Mi.mSeq (Mi.mIfS (Mi.mNot (Mi.mB (Mi.mChain Mi.fLe Mi.fLe (Mi.mC (.int 1)) (Mi.mPkC Mi.fLenS (Mi.mCons (Mi.mVar 0) (Mi.M.pure []))) (Mi.mC (.int 12))))) (Mi.mRet (Mi.mC (.bl false))) Mi.mNext) 
    (Mi.mRet (Mi.mAndV (Mi.mPk Mi.fInS (Mi.mPk Mi.fIxS (Mi.mVar 0) (Mi.mC (.int 0))) (Mi.mC (.str "abcdefghijklmnopqrstuvwxyz"))) (Mi.mPkC Mi.fAll (Mi.mCons (Mi.mFrz (Mi.mLc [1] (Mi.mIStr (Mi.mVar 0)) (Mi.mgName 1) (Mi.M.pure true) (Mi.mOrV (Mi.mPk Mi.fInS (Mi.mVar 1) (Mi.mC (.str "abcdefghijklmnopqrstuvwxyz"))) (Mi.mPk Mi.fInS (Mi.mVar 1) (Mi.mC (.str "0123456789")))))) (Mi.M.pure []))))))
noncomputable def m_is_name : Mi.Fn := Mi.noErrF (Mi.runF 2 b_is_name)
noncomputable def b_Clearing___init : Mi.M Mi.Fl := (Mi.mSeq (Mi.mFldS "Clearing" "_balances" (Mi.mVar 0) (Mi.mBox Mi.mDNew)) 
    (Mi.mSeq (Mi.mFldS "Clearing" "_floors" (Mi.mVar 0) (Mi.mBox Mi.mDNew)) 
    (Mi.mSeq (Mi.mFldS "Clearing" "_queue" (Mi.mVar 0) (Mi.mBox (Mi.mLst (Mi.M.pure [])))) 
    (Mi.mFldS "Clearing" "_keys" (Mi.mVar 0) (Mi.mBox Mi.mDNew)))))
noncomputable def m_Clearing___init : Mi.Fn := Mi.noErrF (Mi.runF 1 b_Clearing___init)
noncomputable def b_Clearing_check_member : Mi.M Mi.Fl := (Mi.mIfS (Mi.mB (Mi.mDIn true (Mi.mVar 1) (Mi.mFld "Clearing" "_balances" (Mi.mVar 0)))) (Mi.mRaise .missing) Mi.mNext)
noncomputable def m_Clearing_check_member : Mi.Fn := Mi.runF 2 b_Clearing_check_member
noncomputable def b_Clearing_members : Mi.M Mi.Fl := (Mi.mRet (Mi.mFrz (Mi.mDList (Mi.mFld "Clearing" "_balances" (Mi.mVar 0)))))
noncomputable def m_Clearing_members : Mi.Fn := Mi.noErrF (Mi.runF 1 b_Clearing_members)
noncomputable def b_Clearing_queue : Mi.M Mi.Fl := (Mi.mRet (Mi.mFrz (Mi.mNewC Mi.fListOf (Mi.mCons (Mi.mFld "Clearing" "_queue" (Mi.mVar 0)) (Mi.M.pure [])))))
noncomputable def m_Clearing_queue : Mi.Fn := Mi.noErrF (Mi.runF 1 b_Clearing_queue)
noncomputable def b_Clearing_find_short : Mi.M Mi.Fl := (Mi.mSeq (Mi.lockM (Mi.mVar 1) (Mi.mFor (Mi.mIKeys (Mi.mVar 1)) (Mi.mgName 2) (Mi.mIfS (Mi.mB (Mi.mPk Mi.fLt (Mi.mDGet (Mi.mVar 1) (Mi.mVar 2)) (Mi.mDGet (Mi.mFld "Clearing" "_floors" (Mi.mVar 0)) (Mi.mVar 2)))) (Mi.mRet (Mi.mVar 2)) Mi.mNext))) 
    (Mi.mRet (Mi.mC .non)))
noncomputable def m_Clearing_find_short : Mi.Fn := Mi.noErrF (Mi.runF 3 b_Clearing_find_short)
noncomputable def b_L_cell : Mi.M Mi.Fl := (Mi.mSeq (Mi.mIfS (Mi.mB (Mi.mPk Mi.fLt (Mi.mVar 1) (Mi.mPkC Mi.fLenQ (Mi.mCons (Mi.mVar 0) (Mi.M.pure []))))) (Mi.mRet (Mi.mPk Mi.fIxL (Mi.mVar 0) (Mi.mVar 1))) Mi.mNext) 
    (Mi.mRet (Mi.mC (.int 0))))
noncomputable def m_L_cell : Mi.Fn := Mi.noErrF (Mi.runF 2 b_L_cell)
noncomputable def b_L_source : Mi.M Mi.Fl := (Mi.mSeq (Mi.mIfS (Mi.mB (Mi.mPk Mi.fGe (Mi.mVar 0) (Mi.mPk Mi.fPow (Mi.mC (.int 10)) (Mi.mC (.int 18))))) (Mi.mRetX (Mi.mLst (Mi.mCons (Mi.mD (Mi.mPk Mi.fSub (Mi.mVar 0) (Mi.mPk Mi.fPow (Mi.mC (.int 10)) (Mi.mC (.int 18))))) (Mi.mCons (Mi.mD (Mi.mPk Mi.fAdd (Mi.mVar 1) (Mi.mC (.int 1)))) (Mi.M.pure []))))) Mi.mNext) 
    (Mi.mRetX (Mi.mLst (Mi.mCons (Mi.mC (.int 0)) (Mi.mCons (Mi.mD (Mi.mPk Mi.fMod (Mi.mPkC Mi.fInt1 (Mi.mCons (Mi.mPk Mi.fAdd (Mi.mPk Mi.fAdd (Mi.mPk Mi.fMul (Mi.mVar 0) (Mi.mC (.int 7919))) (Mi.mPk Mi.fMul (Mi.mVar 1) (Mi.mC (.int 104729)))) (Mi.mC (.int 1))) (Mi.M.pure []))) (Mi.mC (.int 2147483647)))) (Mi.M.pure []))))))
noncomputable def m_L_source : Mi.Fn := Mi.noErrF (Mi.runF 2 b_L_source)
noncomputable def b_L_pick : Mi.M Mi.Fl := (Mi.mSeq (Mi.mIfS (Mi.mB (Mi.mPk Mi.fGt (Mi.mPk Mi.fIxL (Mi.mVar 0) (Mi.mC (.int 0))) (Mi.mC (.int 1)))) (Mi.mSeq (Mi.mAsg (Mi.mPk Mi.fMod (Mi.mPkC Mi.fInt1 (Mi.mCons (Mi.mPk Mi.fIxL (Mi.mVar 0) (Mi.mC (.int 0))) (Mi.M.pure []))) (Mi.mVar 1)) (Mi.mgName 2)) 
      (Mi.mSeq (Mi.mAsg (Mi.mD (Mi.mPk Mi.fDiv (Mi.mPk Mi.fIxL (Mi.mVar 0) (Mi.mC (.int 0))) (Mi.mVar 1))) (Mi.mgSub (Mi.mVar 0) (Mi.mC (.int 0)))) 
      (Mi.mRet (Mi.mVar 2)))) Mi.mNext) 
    (Mi.mSeq (Mi.mAsg (Mi.mD (Mi.mPk Mi.fMod (Mi.mPkC Mi.fInt1 (Mi.mCons (Mi.mPk Mi.fAdd (Mi.mPk Mi.fMul (Mi.mPk Mi.fIxL (Mi.mVar 0) (Mi.mC (.int 1))) (Mi.mC (.int 48271))) (Mi.mC (.int 12345))) (Mi.M.pure []))) (Mi.mC (.int 2147483647)))) (Mi.mgSub (Mi.mVar 0) (Mi.mC (.int 1)))) 
    (Mi.mSeq (Mi.mAsg (Mi.mPk Mi.fMod (Mi.mPkC Mi.fInt1 (Mi.mCons (Mi.mPk Mi.fAdd (Mi.mPk Mi.fAdd (Mi.mPk Mi.fMul (Mi.mPk Mi.fIxL (Mi.mVar 0) (Mi.mC (.int 1))) (Mi.mC (.int 69621))) (Mi.mPk Mi.fDiv (Mi.mPk Mi.fIxL (Mi.mVar 0) (Mi.mC (.int 1))) (Mi.mC (.int 127)))) (Mi.mC (.int 7))) (Mi.M.pure []))) (Mi.mC (.int 2147483629))) (Mi.mgName 3)) 
    (Mi.mRet (Mi.mPk Mi.fMod (Mi.mPkC Mi.fInt1 (Mi.mCons (Mi.mPk Mi.fDiv (Mi.mVar 3) (Mi.mC (.int 16))) (Mi.M.pure []))) (Mi.mVar 1))))))
noncomputable def m_L_pick : Mi.Fn := Mi.noErrF (Mi.runF 4 b_L_pick)
noncomputable def b_L_is_number : Mi.M Mi.Fl := (Mi.mRet (Mi.mAndV (Mi.mPkC Mi.fIsi (Mi.mCons (Mi.mVar 0) (Mi.mCons (Mi.mC (.ty "int")) (Mi.M.pure [])))) (Mi.mAndV (Mi.mNotV (Mi.mPkC Mi.fIsi (Mi.mCons (Mi.mVar 0) (Mi.mCons (Mi.mC (.ty "bool")) (Mi.M.pure []))))) (Mi.mPk Mi.fEq (Mi.mVar 0) (Mi.mVar 1)))))
noncomputable def m_L_is_number : Mi.Fn := Mi.noErrF (Mi.runF 2 b_L_is_number)
noncomputable def b_L_moved_1 : Mi.M Mi.Fl := (Mi.mSeq (Mi.mIfS (Mi.mB (Mi.mPk Mi.fEq (Mi.mPk Mi.fIxT (Mi.mVar 3) (Mi.mC (.int 1))) (Mi.mPk Mi.fIxL (Mi.mVar 2) (Mi.mC (.int 0))))) (Mi.mAsg (Mi.mD (Mi.mPk Mi.fSub (Mi.mPk Mi.fIxL (Mi.mVar 2) (Mi.mC (.int 2))) (Mi.mPk Mi.fIxT (Mi.mVar 3) (Mi.mC (.int 3))))) (Mi.mgSub (Mi.mVar 2) (Mi.mC (.int 2)))) Mi.mNext) 
        (Mi.mIfS (Mi.mB (Mi.mPk Mi.fEq (Mi.mPk Mi.fIxT (Mi.mVar 3) (Mi.mC (.int 2))) (Mi.mPk Mi.fIxL (Mi.mVar 2) (Mi.mC (.int 0))))) (Mi.mAsg (Mi.mD (Mi.mPk Mi.fAdd (Mi.mPk Mi.fIxL (Mi.mVar 2) (Mi.mC (.int 2))) (Mi.mPk Mi.fIxT (Mi.mVar 3) (Mi.mC (.int 3))))) (Mi.mgSub (Mi.mVar 2) (Mi.mC (.int 2)))) Mi.mNext))
noncomputable def b_L_moved_f2 : Mi.M Mi.Fl := (Mi.mFor (Mi.mIList (Mi.mVar 1)) (Mi.mgName 3) b_L_moved_1)
noncomputable def b_L_moved_3 : Mi.M Mi.Fl := b_L_moved_f2
noncomputable def b_L_moved_f4 : Mi.M Mi.Fl := (Mi.mFor (Mi.mIList (Mi.mVar 0)) (Mi.mgName 2) b_L_moved_f2)
noncomputable def b_L_moved : Mi.M Mi.Fl := b_L_moved_f4
noncomputable def m_L_moved : Mi.Fn := Mi.noErrF (Mi.runF 4 b_L_moved)
noncomputable def b_check_amount : Mi.M Mi.Fl := (Mi.mIfS (Mi.mNot (Mi.mB (Mi.mCall 1 m_is_amount (Mi.mCons (Mi.mD (Mi.mVar 0)) (Mi.M.pure []))))) (Mi.mRaise .badValue) Mi.mNext)
noncomputable def m_check_amount : Mi.Fn := Mi.runF 1 b_check_amount
noncomputable def b_check_name : Mi.M Mi.Fl := (Mi.mIfS (Mi.mNot (Mi.mB (Mi.mCall 1 m_is_name (Mi.mCons (Mi.mD (Mi.mVar 0)) (Mi.M.pure []))))) (Mi.mRaise .badValue) Mi.mNext)
noncomputable def m_check_name : Mi.Fn := Mi.runF 1 b_check_name
noncomputable def b_Clearing_balance_of : Mi.M Mi.Fl := (Mi.mSeq (Mi.mDrop (Mi.mMeth "Clearing" "check_member" 2 m_Clearing_check_member (Mi.mVar 0) (Mi.mCons (Mi.mD (Mi.mVar 1)) (Mi.M.pure [])))) 
    (Mi.mRet (Mi.mDGet (Mi.mFld "Clearing" "_balances" (Mi.mVar 0)) (Mi.mVar 1))))
noncomputable def m_Clearing_balance_of : Mi.Fn := Mi.runF 2 b_Clearing_balance_of
noncomputable def b_Clearing_floor_of : Mi.M Mi.Fl := (Mi.mDrop (Mi.mCall 1 m_wall (Mi.mCons (Mi.mC (.int 0)) (Mi.M.pure []))))
noncomputable def m_Clearing_floor_of : Mi.Fn := Mi.noErrF (Mi.runF 2 b_Clearing_floor_of)
noncomputable def b_Clearing_fund : Mi.M Mi.Fl := (Mi.mSeq (Mi.mDrop (Mi.mMeth "Clearing" "check_member" 2 m_Clearing_check_member (Mi.mVar 0) (Mi.mCons (Mi.mD (Mi.mVar 1)) (Mi.M.pure [])))) 
    (Mi.mSeq (Mi.mIfS (Mi.mNot (Mi.mB (Mi.mChain Mi.fLe Mi.fLe (Mi.mUn Mi.fNeg (Mi.mC (.int 1000000000))) (Mi.mVar 2) (Mi.mC (.int 1000000000))))) (Mi.mRaise .badValue) Mi.mNext) 
    (Mi.mSeq (Mi.mIfS (Mi.mB (Mi.mPk Mi.fLt (Mi.mPk Mi.fAdd (Mi.mDGet (Mi.mFld "Clearing" "_balances" (Mi.mVar 0)) (Mi.mVar 1)) (Mi.mVar 2)) (Mi.mDGet (Mi.mFld "Clearing" "_floors" (Mi.mVar 0)) (Mi.mVar 1)))) (Mi.mRaise .refused) Mi.mNext) 
    (Mi.mDAug Mi.fAdd (Mi.mFld "Clearing" "_balances" (Mi.mVar 0)) (Mi.mVar 1) (Mi.mVar 2)))))
noncomputable def m_Clearing_fund : Mi.Fn := Mi.runF 3 b_Clearing_fund
noncomputable def b_Clearing_find_choice : Mi.M Mi.Fl := (Mi.mSeq (Mi.mAsg (Mi.mBox (Mi.mDCopy (Mi.mFld "Clearing" "_balances" (Mi.mVar 0)))) (Mi.mgName 1)) 
    (Mi.mSeq (Mi.mAsg (Mi.mBox (Mi.lockM (Mi.mVar 1) (Mi.mDc [3] (Mi.mIKeys (Mi.mVar 1)) (Mi.mgName 3) (Mi.M.pure true) (Mi.mVar 3) (Mi.mBox (Mi.mLst (Mi.M.pure [])))))) (Mi.mgName 2)) 
    (Mi.mSeq (Mi.mFor (Mi.mIEnum (Mi.mCons (Mi.mFld "Clearing" "_queue" (Mi.mVar 0)) (Mi.M.pure []))) (Mi.mgTup 2 (Mi.mgCons (Mi.mgName 4) (Mi.mgCons (Mi.mgTup 4 (Mi.mgCons (Mi.mgName 5) (Mi.mgCons (Mi.mgName 6) (Mi.mgCons (Mi.mgName 7) (Mi.mgCons (Mi.mgName 8) Mi.mgNil))))) Mi.mgNil))) (Mi.mSeq (Mi.mDrop (Mi.mMut Mi.fAppend (Mi.mDGet (Mi.mVar 2) (Mi.mVar 6)) (Mi.mCons (Mi.mD (Mi.mVar 4)) (Mi.M.pure [])))) 
      (Mi.mSeq (Mi.mDAug Mi.fSub (Mi.mVar 1) (Mi.mVar 6) (Mi.mVar 8)) 
      (Mi.mDAug Mi.fAdd (Mi.mVar 1) (Mi.mVar 7) (Mi.mVar 8))))) 
    (Mi.mSeq (Mi.mAsgN 9 (Mi.mNew2 Mi.fRepL (Mi.mFrz (Mi.mLst (Mi.mCons (Mi.mC (.bl true)) (Mi.M.pure [])))) (Mi.mPkC Mi.fLenQ (Mi.mCons (Mi.mFld "Clearing" "_queue" (Mi.mVar 0)) (Mi.M.pure []))))) 
    (Mi.mSeq (Mi.mAsg (Mi.mMeth "Clearing" "find_short" 2 m_Clearing_find_short (Mi.mVar 0) (Mi.mCons (Mi.mVar 1) (Mi.M.pure []))) (Mi.mgName 10)) 
    (Mi.mSeq (Mi.whL (Mi.mB (Mi.mPk Mi.fNotN (Mi.mVar 10) (Mi.mC .non))) (Mi.mSeq (Mi.mAsg (Mi.mMut Mi.fPop (Mi.mDGet (Mi.mVar 2) (Mi.mVar 10)) (Mi.M.pure [])) (Mi.mgName 4)) 
      (Mi.mSeq (Mi.mAsg (Mi.mPk Mi.fIxL (Mi.mFld "Clearing" "_queue" (Mi.mVar 0)) (Mi.mVar 4)) (Mi.mgTup 4 (Mi.mgCons (Mi.mgName 5) (Mi.mgCons (Mi.mgName 6) (Mi.mgCons (Mi.mgName 7) (Mi.mgCons (Mi.mgName 8) Mi.mgNil)))))) 
      (Mi.mSeq (Mi.mAsg (Mi.mC (.bl false)) (Mi.mgSub (Mi.mVar 9) (Mi.mVar 4))) 
      (Mi.mSeq (Mi.mDAug Mi.fAdd (Mi.mVar 1) (Mi.mVar 6) (Mi.mVar 8)) 
      (Mi.mSeq (Mi.mDAug Mi.fSub (Mi.mVar 1) (Mi.mVar 7) (Mi.mVar 8)) 
      (Mi.mAsg (Mi.mMeth "Clearing" "find_short" 2 m_Clearing_find_short (Mi.mVar 0) (Mi.mCons (Mi.mVar 1) (Mi.M.pure []))) (Mi.mgName 10))))))) 100) 
    (Mi.mRet (Mi.mTup (Mi.mCons (Mi.mD (Mi.mVar 9)) (Mi.mCons (Mi.mD (Mi.mVar 1)) (Mi.M.pure [])))))))))))
noncomputable def m_Clearing_find_choice : Mi.Fn := Mi.noErrF (Mi.runF 11 b_Clearing_find_choice)
noncomputable def b_L_name : Mi.M Mi.Fl := (Mi.mSeq (Mi.mAsg (Mi.mC (.str "abcdefghijklmnopqrstuvwxyz0123456789")) (Mi.mgName 1)) 
    (Mi.mSeq (Mi.mAsg (Mi.mPk Mi.fIxS (Mi.mVar 1) (Mi.mCall 2 m_L_pick (Mi.mCons (Mi.mVar 0) (Mi.mCons (Mi.mC (.int 26)) (Mi.M.pure []))))) (Mi.mgName 2)) 
    (Mi.mSeq (Mi.mFor (Mi.mIRng1 (Mi.mCons (Mi.mCall 2 m_L_pick (Mi.mCons (Mi.mVar 0) (Mi.mCons (Mi.mC (.int 12)) (Mi.M.pure [])))) (Mi.M.pure []))) (Mi.mgName 3) (Mi.mAsg (Mi.mPk Mi.fCat (Mi.mVar 2) (Mi.mPk Mi.fIxS (Mi.mVar 1) (Mi.mCall 2 m_L_pick (Mi.mCons (Mi.mVar 0) (Mi.mCons (Mi.mC (.int 36)) (Mi.M.pure [])))))) (Mi.mgName 2))) 
    (Mi.mRet (Mi.mVar 2)))))
noncomputable def m_L_name : Mi.Fn := Mi.noErrF (Mi.runF 4 b_L_name)
noncomputable def b_L_pairs : Mi.M Mi.Fl := (Mi.mSeq (Mi.mAsg (Mi.mCall 2 m_L_pick (Mi.mCons (Mi.mVar 0) (Mi.mCons (Mi.mD (Mi.mVar 1)) (Mi.M.pure [])))) (Mi.mgName 2)) 
    (Mi.mRet (Mi.mFrz (Mi.mLst (Mi.mCons (Mi.mD (Mi.mVar 2)) (Mi.mCons (Mi.mD (Mi.mPk Mi.fMod (Mi.mPkC Mi.fInt1 (Mi.mCons (Mi.mPk Mi.fAdd (Mi.mPk Mi.fAdd (Mi.mVar 2) (Mi.mC (.int 1))) (Mi.mCall 2 m_L_pick (Mi.mCons (Mi.mVar 0) (Mi.mCons (Mi.mD (Mi.mPk Mi.fSub (Mi.mVar 1) (Mi.mC (.int 1)))) (Mi.M.pure []))))) (Mi.M.pure []))) (Mi.mVar 1))) (Mi.M.pure [])))))))
noncomputable def m_L_pairs : Mi.Fn := Mi.noErrF (Mi.runF 3 b_L_pairs)
noncomputable def b_Clearing_add_member : Mi.M Mi.Fl := (Mi.mSeq (Mi.mDrop (Mi.mCall 1 m_check_name (Mi.mCons (Mi.mD (Mi.mVar 1)) (Mi.M.pure [])))) 
    (Mi.mSeq (Mi.mIfS (Mi.mNot (Mi.mB (Mi.mChain Mi.fLe Mi.fLe (Mi.mUn Mi.fNeg (Mi.mC (.int 1000000000))) (Mi.mVar 2) (Mi.mC (.int 0))))) (Mi.mRaise .badValue) Mi.mNext) 
    (Mi.mSeq (Mi.mIfS (Mi.mB (Mi.mDIn false (Mi.mVar 1) (Mi.mFld "Clearing" "_balances" (Mi.mVar 0)))) (Mi.mRaise .refused) Mi.mNext) 
    (Mi.mSeq (Mi.mIfS (Mi.mB (Mi.mPk Mi.fGe (Mi.mDLen (Mi.mFld "Clearing" "_balances" (Mi.mVar 0))) (Mi.mC (.int 6)))) (Mi.mRaise .full) Mi.mNext) 
    (Mi.mSeq (Mi.mDPut (Mi.mFld "Clearing" "_balances" (Mi.mVar 0)) (Mi.mVar 1) (Mi.mC (.int 0))) 
    (Mi.mDPut (Mi.mFld "Clearing" "_floors" (Mi.mVar 0)) (Mi.mVar 1) (Mi.mVar 2)))))))
noncomputable def m_Clearing_add_member : Mi.Fn := Mi.runF 3 b_Clearing_add_member
noncomputable def b_Clearing_submit : Mi.M Mi.Fl := (Mi.mSeq (Mi.mIfS (Mi.mNot (Mi.mB (Mi.mChain Mi.fLe Mi.fLe (Mi.mC (.int 1)) (Mi.mPkC Mi.fLenS (Mi.mCons (Mi.mVar 1) (Mi.M.pure []))) (Mi.mC (.int 40))))) (Mi.mRaise .badValue) Mi.mNext) 
    (Mi.mSeq (Mi.mDrop (Mi.mMeth "Clearing" "check_member" 2 m_Clearing_check_member (Mi.mVar 0) (Mi.mCons (Mi.mD (Mi.mVar 2)) (Mi.M.pure [])))) 
    (Mi.mSeq (Mi.mDrop (Mi.mMeth "Clearing" "check_member" 2 m_Clearing_check_member (Mi.mVar 0) (Mi.mCons (Mi.mD (Mi.mVar 3)) (Mi.M.pure [])))) 
    (Mi.mSeq (Mi.mIfS (Mi.mB (Mi.mPk Mi.fEq (Mi.mVar 2) (Mi.mVar 3))) (Mi.mRaise .refused) Mi.mNext) 
    (Mi.mSeq (Mi.mDrop (Mi.mCall 1 m_check_amount (Mi.mCons (Mi.mD (Mi.mVar 4)) (Mi.M.pure [])))) 
    (Mi.mSeq (Mi.mIfS (Mi.mB (Mi.mDIn false (Mi.mVar 1) (Mi.mFld "Clearing" "_keys" (Mi.mVar 0)))) (Mi.mRaise .refused) Mi.mNext) 
    (Mi.mSeq (Mi.mDPut (Mi.mFld "Clearing" "_keys" (Mi.mVar 0)) (Mi.mVar 1) (Mi.mC (.bl true))) 
    (Mi.mDrop (Mi.mMut Mi.fAppend (Mi.mFld "Clearing" "_queue" (Mi.mVar 0)) (Mi.mCons (Mi.mD (Mi.mTup (Mi.mCons (Mi.mD (Mi.mVar 1)) (Mi.mCons (Mi.mD (Mi.mVar 2)) (Mi.mCons (Mi.mD (Mi.mVar 3)) (Mi.mCons (Mi.mD (Mi.mVar 4)) (Mi.M.pure []))))))) (Mi.M.pure [])))))))))))
noncomputable def m_Clearing_submit : Mi.Fn := Mi.runF 5 b_Clearing_submit
noncomputable def b_Clearing_settle : Mi.M Mi.Fl := (Mi.mSeq (Mi.mAsg (Mi.mMeth "Clearing" "find_choice" 1 m_Clearing_find_choice (Mi.mVar 0) (Mi.M.pure [])) (Mi.mgTup 2 (Mi.mgCons (Mi.mgName 1) (Mi.mgCons (Mi.mgName 2) Mi.mgNil)))) 
    (Mi.mSeq (Mi.mAsgN 3 (Mi.mLc [4, 5] (Mi.mIZip (Mi.mCons (Mi.mFld "Clearing" "_queue" (Mi.mVar 0)) (Mi.mCons (Mi.mVar 1) (Mi.M.pure [])))) (Mi.mgTup 2 (Mi.mgCons (Mi.mgName 4) (Mi.mgCons (Mi.mgName 5) Mi.mgNil))) (Mi.mB (Mi.mVar 5)) (Mi.mVar 4))) 
    (Mi.mSeq (Mi.mFldS "Clearing" "_queue" (Mi.mVar 0) (Mi.mBox (Mi.mLc [4, 5] (Mi.mIZip (Mi.mCons (Mi.mFld "Clearing" "_queue" (Mi.mVar 0)) (Mi.mCons (Mi.mVar 1) (Mi.M.pure [])))) (Mi.mgTup 2 (Mi.mgCons (Mi.mgName 4) (Mi.mgCons (Mi.mgName 5) Mi.mgNil))) (Mi.mNot (Mi.mB (Mi.mVar 5))) (Mi.mVar 4)))) 
    (Mi.mSeq (Mi.mFldS "Clearing" "_balances" (Mi.mVar 0) (Mi.mVar 2)) 
    (Mi.mRet (Mi.mVar 3))))))
noncomputable def m_Clearing_settle : Mi.Fn := Mi.noErrF (Mi.runF 6 b_Clearing_settle)
noncomputable def b_L_names : Mi.M Mi.Fl := (Mi.mSeq (Mi.mAsgN 2 (Mi.mLst (Mi.M.pure []))) 
    (Mi.mSeq (Mi.mAsg (Mi.mSlS (Mi.mCall 1 m_L_name (Mi.mCons (Mi.mVar 0) (Mi.M.pure []))) (Mi.M.pure none) (Mi.mPart (Mi.mCall 2 m_L_pick (Mi.mCons (Mi.mVar 0) (Mi.mCons (Mi.mC (.int 9)) (Mi.M.pure [])))))) (Mi.mgName 3)) 
    (Mi.mSeq (Mi.mFor (Mi.mIRng1 (Mi.mCons (Mi.mVar 1) (Mi.M.pure []))) (Mi.mgName 4) (Mi.mSeq (Mi.mAsg (Mi.mSlS (Mi.mPk Mi.fCat (Mi.mVar 3) (Mi.mCall 1 m_L_name (Mi.mCons (Mi.mVar 0) (Mi.M.pure [])))) (Mi.M.pure none) (Mi.mPart (Mi.mC (.int 12)))) (Mi.mgName 5)) 
      (Mi.mSeq (Mi.mIfS (Mi.mOr (Mi.mB (Mi.mPk (Mi.fIn false) (Mi.mVar 5) (Mi.mVar 2))) (Mi.mB (Mi.mPk Mi.fEq (Mi.mVar 5) (Mi.mC (.str "clearing"))))) (Mi.mAsg (Mi.mPk Mi.fIxL (Mi.mFrz (Mi.mLc [6] (Mi.mIList (Mi.mFrz (Mi.mLst (Mi.mCons (Mi.mC (.str "a")) (Mi.mCons (Mi.mC (.str "b")) (Mi.mCons (Mi.mC (.str "c")) (Mi.mCons (Mi.mC (.str "d")) (Mi.mCons (Mi.mC (.str "e")) (Mi.mCons (Mi.mC (.str "f")) (Mi.mCons (Mi.mC (.str "g")) (Mi.M.pure []))))))))))) (Mi.mgName 6) (Mi.mB (Mi.mPk (Mi.fIn true) (Mi.mVar 6) (Mi.mVar 2))) (Mi.mVar 6))) (Mi.mC (.int 0))) (Mi.mgName 5)) Mi.mNext) 
      (Mi.mDrop (Mi.mMut Mi.fAppend (Mi.mVar 2) (Mi.mCons (Mi.mD (Mi.mVar 5)) (Mi.M.pure []))))))) 
    (Mi.mRet (Mi.mVar 2)))))
noncomputable def m_L_names : Mi.Fn := Mi.noErrF (Mi.runF 7 b_L_names)
noncomputable def b_L_payment : Mi.M Mi.Fl := (Mi.mSeq (Mi.mAsg (Mi.mCall 2 m_L_pairs (Mi.mCons (Mi.mVar 0) (Mi.mCons (Mi.mD (Mi.mPkC Mi.fLenQ (Mi.mCons (Mi.mVar 2) (Mi.M.pure [])))) (Mi.M.pure [])))) (Mi.mgName 4)) 
    (Mi.mRet (Mi.mTup (Mi.mCons (Mi.mD (Mi.mPk Mi.fCat (Mi.mPk Mi.fCat (Mi.mCall 1 m_L_name (Mi.mCons (Mi.mVar 0) (Mi.M.pure []))) (Mi.mC (.str "/"))) (Mi.mPkC Mi.fStrI (Mi.mCons (Mi.mVar 1) (Mi.M.pure []))))) (Mi.mCons (Mi.mD (Mi.mPk Mi.fIxL (Mi.mVar 2) (Mi.mPk Mi.fIxL (Mi.mVar 4) (Mi.mC (.int 0))))) (Mi.mCons (Mi.mD (Mi.mPk Mi.fIxL (Mi.mVar 2) (Mi.mPk Mi.fIxL (Mi.mVar 4) (Mi.mC (.int 1))))) (Mi.mCons (Mi.mD (Mi.mPk Mi.fAdd (Mi.mC (.int 1)) (Mi.mCall 2 m_L_pick (Mi.mCons (Mi.mVar 0) (Mi.mCons (Mi.mD (Mi.mVar 3)) (Mi.M.pure [])))))) (Mi.M.pure []))))))))
noncomputable def m_L_payment : Mi.Fn := Mi.noErrF (Mi.runF 5 b_L_payment)
noncomputable def b_L_agrees : Mi.M Mi.Fl := (Mi.mSeq (Mi.mFor (Mi.mIList (Mi.mVar 1)) (Mi.mgName 2) (Mi.mIfS (Mi.mOr (Mi.mNot (Mi.mB (Mi.mCall 2 m_L_is_number (Mi.mCons (Mi.mD (Mi.mMeth "Clearing" "balance_of" 2 m_Clearing_balance_of (Mi.mVar 0) (Mi.mCons (Mi.mD (Mi.mPk Mi.fIxL (Mi.mVar 2) (Mi.mC (.int 0)))) (Mi.M.pure [])))) (Mi.mCons (Mi.mD (Mi.mPk Mi.fIxL (Mi.mVar 2) (Mi.mC (.int 2)))) (Mi.M.pure [])))))) (Mi.mB (Mi.mPk Mi.fLt (Mi.mPk Mi.fIxL (Mi.mVar 2) (Mi.mC (.int 2))) (Mi.mPk Mi.fIxL (Mi.mVar 2) (Mi.mC (.int 1)))))) (Mi.mRet (Mi.mC (.bl false))) Mi.mNext)) 
    (Mi.mRet (Mi.mC (.bl true))))
noncomputable def m_L_agrees : Mi.Fn := Mi.noErrF (Mi.runF 3 b_L_agrees)
noncomputable def b_L_funded : Mi.M Mi.Fl := (Mi.mSeq (Mi.mAsg (Mi.mPk Mi.fIxL (Mi.mVar 1) (Mi.mCall 2 m_L_pick (Mi.mCons (Mi.mVar 2) (Mi.mCons (Mi.mD (Mi.mPkC Mi.fLenQ (Mi.mCons (Mi.mVar 1) (Mi.M.pure [])))) (Mi.M.pure []))))) (Mi.mgName 4)) 
    (Mi.mSeq (Mi.mAsg (Mi.mPk Mi.fIxL (Mi.mFrz (Mi.mLst (Mi.mCons (Mi.mD (Mi.mCall 2 m_L_pick (Mi.mCons (Mi.mVar 2) (Mi.mCons (Mi.mD (Mi.mVar 3)) (Mi.M.pure []))))) (Mi.mCons (Mi.mD (Mi.mPk Mi.fSub (Mi.mC (.int 0)) (Mi.mCall 2 m_L_pick (Mi.mCons (Mi.mVar 2) (Mi.mCons (Mi.mD (Mi.mPk Mi.fAdd (Mi.mPk Mi.fSub (Mi.mPk Mi.fIxL (Mi.mVar 4) (Mi.mC (.int 2))) (Mi.mPk Mi.fIxL (Mi.mVar 4) (Mi.mC (.int 1)))) (Mi.mC (.int 1)))) (Mi.M.pure [])))))) (Mi.M.pure []))))) (Mi.mCall 2 m_L_pick (Mi.mCons (Mi.mVar 2) (Mi.mCons (Mi.mC (.int 2)) (Mi.M.pure []))))) (Mi.mgName 5)) 
    (Mi.mIfS (Mi.mB (Mi.mPk Mi.fGe (Mi.mVar 5) (Mi.mPk Mi.fSub (Mi.mC (.int 0)) (Mi.mC (.int 1000000000))))) (Mi.mSeq (Mi.mDrop (Mi.mMeth "Clearing" "fund" 3 m_Clearing_fund (Mi.mVar 0) (Mi.mCons (Mi.mD (Mi.mPk Mi.fIxL (Mi.mVar 4) (Mi.mC (.int 0)))) (Mi.mCons (Mi.mD (Mi.mVar 5)) (Mi.M.pure []))))) 
      (Mi.mAsg (Mi.mD (Mi.mPk Mi.fAdd (Mi.mPk Mi.fIxL (Mi.mVar 4) (Mi.mC (.int 2))) (Mi.mVar 5))) (Mi.mgSub (Mi.mVar 4) (Mi.mC (.int 2))))) Mi.mNext)))
noncomputable def m_L_funded : Mi.Fn := Mi.noErrF (Mi.runF 6 b_L_funded)
noncomputable def b_L_filled_1 : Mi.M Mi.Fl := (Mi.mSeq (Mi.mAsg (Mi.mPk Mi.fIxL (Mi.mFrz (Mi.mLst (Mi.mCons (Mi.mC (.int 0)) (Mi.mCons (Mi.mD (Mi.mPk Mi.fSub (Mi.mC (.int 0)) (Mi.mCall 2 m_L_pick (Mi.mCons (Mi.mVar 0) (Mi.mCons (Mi.mD (Mi.mVar 4)) (Mi.M.pure [])))))) (Mi.M.pure []))))) (Mi.mCall 2 m_L_pick (Mi.mCons (Mi.mVar 0) (Mi.mCons (Mi.mC (.int 2)) (Mi.M.pure []))))) (Mi.mgName 6)) 
      (Mi.mSeq (Mi.mAsg (Mi.mCall 2 m_L_pick (Mi.mCons (Mi.mVar 0) (Mi.mCons (Mi.mD (Mi.mVar 4)) (Mi.M.pure [])))) (Mi.mgName 7)) 
      (Mi.mSeq (Mi.mDrop (Mi.mMeth "Clearing" "add_member" 3 m_Clearing_add_member (Mi.mVar 2) (Mi.mCons (Mi.mD (Mi.mVar 5)) (Mi.mCons (Mi.mD (Mi.mVar 6)) (Mi.M.pure []))))) 
      (Mi.mSeq (Mi.mDrop (Mi.mMeth "Clearing" "fund" 3 m_Clearing_fund (Mi.mVar 2) (Mi.mCons (Mi.mD (Mi.mVar 5)) (Mi.mCons (Mi.mD (Mi.mVar 7)) (Mi.M.pure []))))) 
      (Mi.mDrop (Mi.mMut Mi.fAppend (Mi.mVar 3) (Mi.mCons (Mi.mD (Mi.mBox (Mi.mLst (Mi.mCons (Mi.mD (Mi.mVar 5)) (Mi.mCons (Mi.mD (Mi.mVar 6)) (Mi.mCons (Mi.mD (Mi.mVar 7)) (Mi.M.pure []))))))) (Mi.M.pure []))))))))
noncomputable def b_L_filled_f2 : Mi.M Mi.Fl := (Mi.mFor (Mi.mIList (Mi.mVar 1)) (Mi.mgName 5) b_L_filled_1)
noncomputable def b_L_filled : Mi.M Mi.Fl := (Mi.mSeq (Mi.mAsg (Mi.mMake "Clearing" 1 m_Clearing___init (Mi.M.pure [])) (Mi.mgName 2)) 
    (Mi.mSeq (Mi.mAsgN 3 (Mi.mLst (Mi.M.pure []))) 
    (Mi.mSeq (Mi.mAsg (Mi.mPk Mi.fIxL (Mi.mFrz (Mi.mLst (Mi.mCons (Mi.mC (.int 5)) (Mi.mCons (Mi.mC (.int 100)) (Mi.mCons (Mi.mC (.int 1000000000)) (Mi.M.pure [])))))) (Mi.mCall 2 m_L_pick (Mi.mCons (Mi.mVar 0) (Mi.mCons (Mi.mC (.int 3)) (Mi.M.pure []))))) (Mi.mgName 4)) 
    (Mi.mSeq b_L_filled_f2 
    (Mi.mRet (Mi.mFrz (Mi.mLst (Mi.mCons (Mi.mD (Mi.mVar 2)) (Mi.mCons (Mi.mD (Mi.mVar 3)) (Mi.mCons (Mi.mD (Mi.mVar 4)) (Mi.M.pure [])))))))))))
noncomputable def m_L_filled : Mi.Fn := Mi.noErrF (Mi.runF 8 b_L_filled)
noncomputable def b_L_settled_1 : Mi.M Mi.Fl := (Mi.mSeq (Mi.mIfS (Mi.mB (Mi.mPk (Mi.fIn false) (Mi.mPk Mi.fIxT (Mi.mVar 8) (Mi.mC (.int 1))) (Mi.mVar 7))) (Mi.mRet (Mi.mC .non)) Mi.mNext) 
        (Mi.mAsg (Mi.mPk Mi.fAdd (Mi.mVar 5) (Mi.mC (.int 1))) (Mi.mgName 5)))
noncomputable def b_L_settled_2 : Mi.M Mi.Fl := (Mi.mSeq (Mi.mDrop (Mi.mMut Mi.fAppend (Mi.mVar 6) (Mi.mCons (Mi.mD (Mi.mVar 8)) (Mi.M.pure [])))) 
        (Mi.mDrop (Mi.mMut Mi.fAppend (Mi.mVar 7) (Mi.mCons (Mi.mD (Mi.mPk Mi.fIxT (Mi.mVar 8) (Mi.mC (.int 1)))) (Mi.M.pure [])))))
noncomputable def b_L_settled_3 : Mi.M Mi.Fl := (Mi.mIfS (Mi.mAnd (Mi.mB (Mi.mPk Mi.fLt (Mi.mVar 5) (Mi.mPkC Mi.fLenQ (Mi.mCons (Mi.mVar 4) (Mi.M.pure []))))) (Mi.mAnd (Mi.mB (Mi.mPkC Mi.fIsi (Mi.mCons (Mi.mPk Mi.fIxL (Mi.mVar 4) (Mi.mVar 5)) (Mi.mCons (Mi.mC (.ty "tuple")) (Mi.M.pure []))))) (Mi.mB (Mi.mPk Mi.fEqD (Mi.mPk Mi.fIxL (Mi.mVar 4) (Mi.mVar 5)) (Mi.mVar 8))))) b_L_settled_1 b_L_settled_2)
noncomputable def b_L_settled_f4 : Mi.M Mi.Fl := (Mi.mFor (Mi.mIList (Mi.mVar 2)) (Mi.mgName 8) b_L_settled_3)
noncomputable def b_L_settled : Mi.M Mi.Fl := (Mi.mSeq (Mi.mAsgN 3 (Mi.mMethN "Clearing" "settle" 1 m_Clearing_settle (Mi.mVar 0) (Mi.M.pure []))) 
    (Mi.mSeq (Mi.mIfS (Mi.mNot (Mi.mB (Mi.mPkC Mi.fIsi (Mi.mCons (Mi.mVar 3) (Mi.mCons (Mi.mC (.ty "list")) (Mi.M.pure [])))))) (Mi.mRet (Mi.mC .non)) Mi.mNext) 
    (Mi.mSeq (Mi.mAsg (Mi.mFrz (Mi.mNewC Mi.fListOf (Mi.mCons (Mi.mVar 3) (Mi.M.pure [])))) (Mi.mgName 4)) 
    (Mi.mSeq (Mi.mDrop (Mi.mMut Mi.fAppend (Mi.mVar 3) (Mi.mCons (Mi.mD (Mi.mTup (Mi.mCons (Mi.mC (.str "more")) (Mi.mCons (Mi.mC (.str "a")) (Mi.mCons (Mi.mC (.str "b")) (Mi.mCons (Mi.mC (.int 1)) (Mi.M.pure []))))))) (Mi.M.pure [])))) 
    (Mi.mSeq (Mi.mAsg (Mi.mC (.int 0)) (Mi.mgName 5)) 
    (Mi.mSeq (Mi.mAsgN 6 (Mi.mLst (Mi.M.pure []))) 
    (Mi.mSeq (Mi.mAsgN 7 (Mi.mLst (Mi.M.pure []))) 
    (Mi.mSeq b_L_settled_f4 
    (Mi.mSeq (Mi.mIfS (Mi.mOr (Mi.mB (Mi.mPk Mi.fNe (Mi.mVar 5) (Mi.mPkC Mi.fLenQ (Mi.mCons (Mi.mVar 4) (Mi.M.pure []))))) (Mi.mB (Mi.mPk Mi.fNeD (Mi.mMeth "Clearing" "queue" 1 m_Clearing_queue (Mi.mVar 0) (Mi.M.pure [])) (Mi.mVar 6)))) (Mi.mRet (Mi.mC .non)) Mi.mNext) 
    (Mi.mSeq (Mi.mDrop (Mi.mCall 2 m_L_moved (Mi.mCons (Mi.mVar 1) (Mi.mCons (Mi.mVar 4) (Mi.M.pure []))))) 
    (Mi.mSeq (Mi.mIfS (Mi.mNot (Mi.mB (Mi.mCall 2 m_L_agrees (Mi.mCons (Mi.mVar 0) (Mi.mCons (Mi.mVar 1) (Mi.M.pure [])))))) (Mi.mRet (Mi.mC .non)) Mi.mNext) 
    (Mi.mRet (Mi.mVar 6)))))))))))))
noncomputable def m_L_settled : Mi.Fn := Mi.noErrF (Mi.runF 9 b_L_settled)
/-! ### digits: the texts of amounts as lists of signs -/
def fix : Nat → Nat → List Nat
  | 0, _ => []
  | d + 1, m => fix d (m / 10) ++ [48 + m % 10]
theorem fix_len : ∀ d m : Nat, (fix d m).length = d
  | 0, _ => rfl
  | d + 1, m => by
    rw [fix, List.length_append, fix_len d]
    rfl
theorem fix_digits : ∀ d m : Nat, NumText.AllDigits (fix d m)
  | 0, _ => fun c h => by cases h
  | d + 1, m => fun c h => by
    rw [fix] at h
    rcases List.mem_append.mp h with h | h
    · exact fix_digits d (m / 10) c h
    · rw [List.mem_singleton.mp h]
      omega
theorem val_app : ∀ (d : Nat) (p : List Nat) (m : Nat), NumText.digitsVal (p ++ fix d m) = NumText.digitsVal p * 10 ^ d + m % 10 ^ d
  | 0, p, m => by
    rw [fix, List.append_nil, Nat.pow_zero, Nat.mod_one]
    omega
  | d + 1, p, m => by
    have ih := val_app d p (m / 10)
    rw [fix, ← List.append_assoc]
    have s : NumText.digitsVal ((p ++ fix d (m / 10)) ++ [48 + m % 10]) = NumText.digitsVal (p ++ fix d (m / 10)) * 10 + (48 + m % 10 - 48) := by
      unfold NumText.digitsVal
      rw [List.foldl_append]
      rfl
    have e : m % 10 ^ (d + 1) = 10 * (m / 10 % 10 ^ d) + m % 10 := by
      rw [Nat.pow_succ, Nat.mul_comm (10 ^ d) 10, Nat.mod_mul]
      omega
    rw [s, ih, e, Nat.pow_succ, Nat.add_mul, Nat.mul_assoc]
    omega
theorem val_num (d w m : Nat) : NumText.digitsVal (TL.numL w ++ fix d m) = w * 10 ^ d + m % 10 ^ d := by
  rw [val_app, TL.numL_val]
/-- a long one: its head, then so many last digits -/
theorem num_split : ∀ (d n : Nat), 10 ^ d ≤ n → TL.numL n = TL.numL (n / 10 ^ d) ++ fix d n
  | 0, n, _ => by rw [fix, List.append_nil, Nat.pow_zero, Nat.div_one]
  | d + 1, n, h => by
    have p : 0 < 10 ^ d := Nat.pow_pos (by decide)
    rw [Nat.pow_succ] at h
    have ih := num_split d (n / 10) (by rw [Nat.le_div_iff_mul_le (by decide)]; exact h)
    rw [TL.numL_step (by omega), ih, fix, List.append_assoc, Nat.div_div_eq_div_mul, Nat.pow_succ, Nat.mul_comm 10]
/-- a short one, filled with zeros -/
theorem num_fill : ∀ (d m : Nat), m < 10 ^ (d + 1) → List.replicate (d + 1 - (TL.numL m).length) 48 ++ TL.numL m = fix (d + 1) m
  | 0, m, h => by
    rw [Nat.pow_one] at h
    rw [TL.numL_lt h, fix, fix, Nat.mod_eq_of_lt h]
    rfl
  | d + 1, m, h => by
    rcases Nat.lt_or_ge m 10 with c | c
    · have ih := num_fill d 0 (Nat.pow_pos (by decide))
      rw [TL.numL_lt (by decide)] at ih
      rw [TL.numL_lt c, fix, Nat.mod_eq_of_lt c, show m / 10 = 0 by omega, ← ih]
      simp only [List.length_singleton, Nat.add_sub_cancel]
      rw [List.replicate_succ']
    · have ih := num_fill d (m / 10) (by rw [Nat.pow_succ] at h; omega)
      rw [TL.numL_step c, fix, ← ih, List.length_append, List.length_singleton, ← List.append_assoc]
      rw [show d + 1 + 1 - ((TL.numL (m / 10)).length + 1) = d + 1 - (TL.numL (m / 10)).length by omega]
theorem fix_mod : ∀ (d n : Nat), fix d (n % 10 ^ d) = fix d n
  | 0, _ => rfl
  | d + 1, n => by
    have p : 0 < 10 ^ d := Nat.pow_pos (by decide)
    have e : n % 10 ^ (d + 1) = 10 * (n / 10 % 10 ^ d) + n % 10 := by
      rw [Nat.pow_succ, Nat.mul_comm (10 ^ d) 10, Nat.mod_mul]
      omega
    rw [fix, fix, e, show (10 * (n / 10 % 10 ^ d) + n % 10) / 10 = n / 10 % 10 ^ d by omega, fix_mod d (n / 10), show (10 * (n / 10 % 10 ^ d) + n % 10) % 10 = n % 10 by omega]
/-- filled to one digit more than d -/
theorem num_full (d n : Nat) : List.replicate (d + 1 - (TL.numL n).length) 48 ++ TL.numL n = TL.numL (n / 10 ^ d) ++ fix d n := by
  rcases Nat.lt_or_ge n (10 ^ d) with c | c
  · have e := num_fill d n (Nat.lt_of_lt_of_le c (Nat.pow_le_pow_right (by decide) (by omega)))
    rw [e, Nat.div_eq_of_lt c, TL.numL_lt (by decide)]
    have f : ∀ (d n : Nat), n < 10 ^ d → fix (d + 1) n = 48 :: fix d n := by
      intro d
      induction d with
      | zero => intro n h; rw [Nat.pow_zero] at h; rw [show n = 0 by omega]; rfl
      | succ d ih =>
        intro n h
        rw [fix, ih (n / 10) (by rw [Nat.pow_succ] at h; omega)]
        rfl
    rw [f d n c]
    rfl
  · have e := num_split d n c
    have l : d + 1 ≤ (TL.numL n).length := by
      rw [e, List.length_append, fix_len]
      have := List.length_pos_iff.mpr (TL.numL_ne (n / 10 ^ d))
      omega
    rw [Nat.sub_eq_zero_of_le l, List.replicate_zero, List.nil_append, e]
/-- str.zfill, str.ljust with "0" -/
theorem zfill_num {d m : Nat} (h : m < 10 ^ (d + 1)) : Txt.zfill (SX.S (TL.numL m)) ((d + 1 : Nat) : Int) = SX.S (fix (d + 1) m) := by
  have l := TL.numL_len (k := d + 1) (by omega) h
  have hh : ∀ c, (TL.numL m)[0]? = some c → 48 ≤ c ∧ c ≤ 57 := fun c e => TL.numL_digits m c (List.mem_of_getElem? e)
  unfold Txt.zfill
  rw [SX.S_len]
  split
  · rename_i c
    have e := num_fill d m h
    rw [show d + 1 - (TL.numL m).length = 0 by omega, List.replicate_zero, List.nil_append] at e
    rw [e]
  · unfold zfilled
    have z : (SX.S (TL.numL m)).cps[0]? = (TL.numL m)[0]? := by simp [SX.S]
    rw [z]
    split
    · rename_i e; have := hh _ e; omega
    · rename_i e; have := hh _ e; omega
    · unfold Builtin.Str.padded
      rw [← num_fill d m h]
      simp
theorem fix_zero : ∀ k : Nat, fix k 0 = List.replicate k 48
  | 0 => rfl
  | k + 1 => by rw [fix, Nat.zero_div, fix_zero k, List.replicate_succ']
theorem ljust_fix (d j m : Nat) : Txt.ljustF (SX.S (fix j m)) (d : Int) 48 = SX.S (fix j m ++ fix (d - j) 0) := by
  unfold Txt.ljustF
  rw [SX.S_len, fix_len, fix_zero]
  split
  · rename_i c
    rw [show d - j = 0 by omega, List.replicate_zero, List.append_nil]
  · unfold Builtin.Str.padded
    simp
theorem one_digit : ∀ n : _root_.Fin 10, Unicode.isDigit (48 + n.val) = true := by decide +kernel
theorem isdigit_S {a : List Nat} (h : NumText.AllDigits a) (hne : a ≠ []) : Txt.isdigit (SX.S a) = true := by
  unfold Txt.isdigit
  rw [SX.S_len, Bool.and_eq_true]
  refine ⟨decide_eq_true (List.length_pos_iff.mpr hne), ?_⟩
  simp only [SX.S, List.all_toArray, List.all_eq_true]
  intro c hc
  have r := h c hc
  have := one_digit ⟨c - 48, by omega⟩
  rw [show 48 + (c - 48) = c by omega] at this
  exact this
theorem starts_S (c d : Nat) (l : List Nat) : Txt.startswith (SX.S (c :: l)) (SX.S [d]) = decide (c = d) := by
  unfold Txt.startswith
  rw [StrLaws.subAt_eq, SX.S_len, SX.S_len]
  simp
  by_cases e : c = d <;> simp [e]
theorem rmp_hit (l : List Nat) : Txt.removeprefix (SX.S (45 :: l)) (SX.S [45]) = SX.S l := by
  unfold Txt.removeprefix
  rw [StrLaws.subAt_eq, SX.S_len, SX.S_len]
  simp [Txt.affix]
  rw [if_neg (by rw [SX.S_len]; simp)]
  refine TL.ext_tl ?_
  rw [TL.tl_strSub]
  simp [TL.tl]
theorem rmp_miss {c : Nat} (l : List Nat) (h : c ≠ 45) : Txt.removeprefix (SX.S (c :: l)) (SX.S [45]) = SX.S (c :: l) := by
  unfold Txt.removeprefix
  rw [StrLaws.subAt_eq, SX.S_len, SX.S_len]
  simp [Txt.affix, h]
theorem numL_head : ∀ n : Nat, ∃ c l, TL.numL n = c :: l ∧ 48 ≤ c ∧ c ≤ 57 ∧ (n ≠ 0 → c ≠ 48) ∧ (n = 0 → c = 48 ∧ l = []) := by
  intro n
  induction n using Nat.strongRecOn with
  | _ n ih =>
    rcases Nat.lt_or_ge n 10 with h | h
    · exact ⟨48 + n, [], TL.numL_lt h, by omega, by omega, by omega, fun z => ⟨by omega, rfl⟩⟩
    · obtain ⟨c, l, e, h1, h2, h3, _⟩ := ih (n / 10) (by omega)
      exact ⟨c, l ++ [48 + n % 10], by rw [TL.numL_step h, e]; rfl, h1, h2, fun _ => h3 (by omega), by omega⟩
section
variable {X : Cx}
/-- text.ljust(width, sign) -/
theorem mt_ljustF : MtR X "str.ljust" (fun x xs H Q => ∃ (a f : Str) (i : Int), x = .str a ∧ xs = [.int i, .str f] ∧ PadOk i = true ∧ f.length = 1 ∧ Q (.str (Txt.ljustF a i (f.cps.getD 0 0))) H) := by
  intro pins s σ H x xs v us Q I rx rs h
  obtain ⟨a, f, i, rfl, rfl, hp, hf, h⟩ := h
  obtain ⟨t, rfl⟩ := rx
  cases rs with
  | cons r1 rs =>
    cases rs with
    | cons r2 rs =>
      cases rs
      obtain ⟨u, rfl⟩ := r1
      obtain ⟨z, rfl⟩ := r2
      exact PyProof.Rows.ljust_fill hp hf fun t' k => ⟨.str _, H, I.tok k, ⟨t', rfl⟩, h⟩
end

--== cut
/-! ### the cells of a script, and what is drawn of them -/
theorem szl {n : Nat} (h : n ≤ 100000) : n ≤ sizeLine := Nat.le_trans h (by decide)
theorem cell_eq (ns : List Int) (k : Nat) (S : List Mi.Ob) : m_L_cell [.dat (.lst (ns.map Mi.D.int)), .dat (.int k)] [] S = .ok (.dat (.int (Mi.getI ns k))) [] S := by
  refine Mi.pure_eq ?_
  unfold b_L_cell
  walk_at "sq"
  walk_at "rp"
  rw [List.length_map]
  split
  · rw [Mi.atI_ints (n := ns.length) rfl (by omega)]
    exact ⟨_, rfl, rfl⟩
  · unfold Mi.getI
    rw [List.getD, List.getElem?_eq_none (by omega)]
    rfl
def Sr (b : Mi.BX) : Prop := ∃ x y : Int, b = .lst [.int x, .int y] ∧ 0 ≤ y ∧ y < 2147483648
theorem source_eq (c : Int) (bc : Builtin.Int.intBits c ≤ 1048576) (k : Nat) (hk : k ≤ 100000) (S : List Mi.Ob) : ∃ b, m_L_source [.dat (.int c), .dat (.int k)] [] S = .ok (.new b) [] S ∧ Sr b := by
  refine Mi.new_run ?_
  unfold b_L_source
  walk_at "sq"
  walk_at "rp"
  split
  · exact ⟨by decide, _, _, rfl, by omega, by omega⟩
  · refine ⟨Kv.mulX bc (b := 64) (by decide), Kv.mulX (a := 64) (b := 64) (Kv.bits64 (by omega) (by omega)) (by decide), by decide, _, _, rfl, Int.emod_nonneg _ (by decide), ?_⟩
    have := Int.emod_lt_of_pos (c * 7919 + (k : Int) * 104729 + 1) (show (0 : Int) < 2147483647 by decide)
    omega
theorem pick_eq {b : Mi.BX} (hb : Sr b) {many : Int} (h0 : 0 < many) (h1 : many < 2 ^ 60) (S : List Mi.Ob) : ∃ r b', m_L_pick [.io 0, .dat (.int many)] [b] S = .ok (.dat (.int r)) [b'] S ∧ 0 ≤ r ∧ r < many ∧ Sr b' := by
  have : ∃ d io', m_L_pick [.io 0, .dat (.int many)] [b] S = .ok (.dat d) io' S ∧ ∃ r b', d = .int r ∧ io' = [b'] ∧ 0 ≤ r ∧ r < many ∧ Sr b' := by
    refine Mi.gen_run ?_
    obtain ⟨x, y, rfl, y0, y1⟩ := hb
    have hdv : ∀ i : Int, CDivW i many := fun i => ⟨h0, by
      have : many.natAbs.log2 < 64 := PySem.Flt.log2_lt_of (k := 64) (by decide) (by omega)
      omega⟩
    unfold b_L_pick
    walk_at "sq"
    walk_at "rp"
    split
    · walk_at "sq"
      walk_at "rp"
      refine ⟨h0, ?_⟩
      walk_at "sq"
      walk_at "rp"
      exact ⟨hdv _, _, _, rfl, rfl, Int.emod_nonneg _ (by omega), Int.emod_lt_of_pos _ h0, _, _, rfl, y0, y1⟩
    · have e1 : 0 ≤ (y * 48271 + 12345) % 2147483647 := Int.emod_nonneg _ (by decide)
      have e2 : (y * 48271 + 12345) % 2147483647 < 2147483647 := Int.emod_lt_of_pos _ (by decide)
      have by1 : Builtin.Int.intBits y ≤ 64 := Kv.bits64 (by omega) (by omega)
      walk_at "sq"
      walk_at "rp"
      refine ⟨Kv.mulX by1 (b := 64) (by decide), ?_⟩
      generalize (y * 48271 + 12345) % 2147483647 = z at *
      have by2 : Builtin.Int.intBits z ≤ 64 := Kv.bits64 (by omega) (by omega)
      walk_at "sq"
      walk_at "rp"
      exact ⟨Kv.mulX by2 (b := 64) (by decide), ⟨by decide, by decide⟩, Kv.cdiv_16 ▸ trivial, h0, _, _, rfl, rfl, Int.emod_nonneg _ (by omega), Int.emod_lt_of_pos _ h0, _, _, rfl, e1, by omega⟩
  obtain ⟨_, _, e, r, b', rfl, rfl, h⟩ := this
  exact ⟨r, b', e, h⟩

/-! ### names and texts -/
def lets : List Nat := (Str.ofString "abcdefghijklmnopqrstuvwxyz").cps.toList
def digs : List Nat := (Str.ofString "0123456789").cps.toList
def lds : List Nat := (Str.ofString "abcdefghijklmnopqrstuvwxyz0123456789").cps.toList
theorem sLets : Str.ofString "abcdefghijklmnopqrstuvwxyz" = SX.S lets := rfl
theorem sDigs : Str.ofString "0123456789" = SX.S digs := rfl
theorem sLds : Str.ofString "abcdefghijklmnopqrstuvwxyz0123456789" = SX.S lds := rfl
theorem sE : Str.ofString "" = SX.S [] := rfl
theorem s0 : Str.ofString "0" = SX.S [48] := rfl
theorem sBar : Str.ofString "|" = SX.S [124] := rfl
theorem isz {u v : List Nat} : (SX.S u = SX.S v) = (u = v) := propext ⟨SX.S_inj, fun z => by rw [z]⟩
theorem fIxS_S {l : List Nat} {i : Int} {c : Nat} (hl : l.length ≤ 100000) (h : atI l i = some c) : Mi.fIxS (.str (SX.S l)) (.int i) = some (.str (SX.S [c])) := by
  show (if (SX.S l).length ≤ sizeLine then (atI l i).map fun c => Mi.D.str ⟨#[c]⟩ else none) = _
  rw [SX.S_len, if_pos (szl hl), h]
  rfl
theorem atI_at {α : Type} {l : List α} {n : Int} (h0 : 0 ≤ n) (h1 : n < l.length) : ∃ c, atI l n = some c ∧ l[n.toNat]? = some c := by
  obtain ⟨k, hk⟩ := Int.eq_ofNat_of_zero_le h0
  have hk2 : k < l.length := by omega
  subst hk
  exact ⟨l[k], atI_nat (List.getElem?_eq_getElem hk2), by simp [hk2]⟩
def NmOk (l : List Nat) : Prop := 1 ≤ l.length ∧ l.length ≤ 12 ∧ (∃ c ∈ l.head?, c ∈ lets) ∧ ∀ c ∈ l, c ∈ lets ∨ c ∈ digs
theorem lds26 : ∀ k : _root_.Fin 26, ∃ c ∈ lds[k.val]?, c ∈ lets := by decide +kernel
theorem ldsl : lds.length = 36 := by decide +kernel
theorem lds36 : ∀ c ∈ lds, c ∈ lets ∨ c ∈ digs := by decide +kernel
def invNm (S : List Mi.Ob) : Nat → Mi.St → Prop := fun i st => ∃ (l : List Nat) (x : Option Mi.SV) (b : Mi.BX), st = ⟨[some (.io 0), some (.dat (.str (SX.S lds))), some (.dat (.str (SX.S l))), x], [b], S⟩ ∧ Sr b ∧ l.length = i + 1 ∧ (∃ c ∈ l.head?, c ∈ lets) ∧ ∀ c ∈ l, c ∈ lets ∨ c ∈ digs
theorem name_eq {b : Mi.BX} (hb : Sr b) (S : List Mi.Ob) : ∃ l b', m_L_name [.io 0] [b] S = .ok (.dat (.str (SX.S l))) [b'] S ∧ NmOk l ∧ Sr b' := by
  have : ∃ d io', m_L_name [.io 0] [b] S = .ok (.dat d) io' S ∧ ∃ l b', d = .str (SX.S l) ∧ io' = [b'] ∧ NmOk l ∧ Sr b' := by
    refine Mi.gen_run ?_
    obtain ⟨r, b1, e1, r0, r1, hb1⟩ := pick_eq hb (many := 26) (by decide) (by decide) S
    obtain ⟨c, c1, c2⟩ := atI_at (l := lds) r0 (by rw [ldsl]; omega)
    have hc : c ∈ lets := by
      obtain ⟨k, hk⟩ := Int.eq_ofNat_of_zero_le r0
      obtain ⟨c', h1, h2⟩ := lds26 ⟨k, by omega⟩
      rw [hk] at c2
      rw [Int.toNat_natCast, h1] at c2
      cases c2
      exact h2
    unfold b_L_name
    walk_at "sq"
    walk_at "rp"
    rw [sLds]
    refine Mi.rp_cut (fun st => st = ⟨[some (.io 0), some (.dat (.str (SX.S lds))), some (.dat (.str (SX.S [c]))), none], [b1], S⟩) ?_ ?_
    · walk_at "rp"
      refine Mi.rp_callM e1 rfl rfl Mi.nod1 rfl rfl ?_
      walk_at "rp"
      exact ⟨_, fIxS_S (by decide +kernel) c1, by walk_at "rp"⟩
    intro st h
    subst h
    obtain ⟨n, b2, e2, n0, n1, hb2⟩ := pick_eq hb1 (many := 12) (by decide) (by decide) S
    walk_at "sq"
    with_reducible refine Mi.rp_rng1 n (invNm S) (by omega) ?_ ?_ ?_
    · walk_at "rp"
      refine Mi.rp_callM e2 rfl rfl Mi.nod1 rfl rfl ?_
      walk_at "rp"
      exact ⟨[c], _, _, rfl, hb2, rfl, ⟨c, rfl, hc⟩, fun x hx => by rw [List.mem_singleton.mp hx]; exact .inl hc⟩
    · intro i st hi h
      obtain ⟨l, x, b, rfl, hb, hl, hh, ha⟩ := h
      obtain ⟨r, b', e, r0, r1, hb'⟩ := pick_eq hb (many := 36) (by decide) (by decide) S
      obtain ⟨c, c1, c2⟩ := atI_at (l := lds) r0 (by rw [ldsl]; omega)
      walk_at "rp"
      refine Mi.rp_callM e rfl rfl Mi.nod1 rfl rfl ?_
      walk_at "rp"
      refine ⟨_, fIxS_S (by decide +kernel) c1, ?_⟩
      walk_at "rp"
      rw [SX.S_cat, SX.S_len, SX.S_len]
      refine ⟨szl (by simp only [List.length_singleton]; omega), l ++ [c], _, _, rfl, hb', by simp [hl], ?_, ?_⟩
      · obtain ⟨d, h1, h2⟩ := hh
        cases l with
        | nil => cases h1
        | cons u r => exact ⟨d, h1, h2⟩
      · intro u hu
        rcases List.mem_append.mp hu with hu | hu
        · exact ha u hu
        · rw [List.mem_singleton.mp hu]
          exact lds36 c (List.mem_of_getElem? c2)
    · intro st h
      obtain ⟨l, x, b, rfl, hb, hl, hh, ha⟩ := h
      walk_at "rp"
      exact ⟨l, b, rfl, rfl, ⟨by omega, by omega, hh, ha⟩, hb⟩
  obtain ⟨_, _, e, l, b', rfl, rfl, h⟩ := this
  exact ⟨l, b', e, h⟩

def signsT : List Nat := (Str.ofString " !\"#$&'()*+,-./0123456789:;<=>?@ABCDEFGHIJKLMNOPQRSTUVWXYZ[\\]^_`").cps.toList ++ (Str.ofString "abcdefghijklmnopqrstuvwxyz{}~").cps.toList
theorem sTa : Str.ofString " !\"#$&'()*+,-./0123456789:;<=>?@ABCDEFGHIJKLMNOPQRSTUVWXYZ[\\]^_`" ++ Str.ofString "abcdefghijklmnopqrstuvwxyz{}~" = SX.S signsT := SX.S_cat _ _
theorem signsTl : signsT.length = 93 := by decide +kernel
def Fd (l : List Nat) : Prop := ∀ c ∈ l, 32 ≤ c ∧ c ≤ 126 ∧ c ≠ 124
theorem signsT_ok : Fd signsT := by unfold Fd; decide +kernel

/-! ### names are told apart -/
instance (l : List Nat) : Decidable (NmOk l) := by unfold NmOk; infer_instance

/-! ### the project's: names, letters written -/
theorem in_S (c : Nat) (l : List Nat) : (!(Builtin.Str.occurrences (SX.S l) (SX.S [c]) 0 (SX.S l).length 1).isEmpty) = decide (c ∈ l) := SX.in_one l c
theorem in_S2 (c : Nat) (l : List Nat) : (Builtin.Str.occurrences (SX.S l) (SX.S [c]) 0 (SX.S l).length 1).isEmpty = !decide (c ∈ l) := by rw [← in_S, Bool.not_not]
theorem in_S3 (c : Nat) (l : List Nat) : (Builtin.Str.occurrences (SX.S l) (SX.S [c]) 0 l.length 1).isEmpty = !decide (c ∈ l) := by have := in_S2 c l; rw [SX.S_len] at this; exact this
def invIn (t : List Nat) (S : List Mi.Ob) : Nat → List Mi.D → Mi.St → Prop := fun i acc st => ∃ x : Option Mi.SV, st = ⟨[some (.dat (.str (SX.S t))), x], [], S⟩ ∧ acc = (t.take i).map fun c => Mi.D.bl (decide (c ∈ lets) || decide (c ∈ digs))
theorem bsD_map (f : Nat → Bool) : ∀ l : List Nat, Mi.bsD (l.map fun c => Mi.D.bl (f c)) = some (l.map f)
  | [] => rfl
  | c :: l => by rw [List.map_cons, List.map_cons]; unfold Mi.bsD; rw [bsD_map f l]; rfl
theorem is_name_eq {t : List Nat} (hl : t.length ≤ 1000) (S : List Mi.Ob) : m_is_name [.dat (.str (SX.S t))] [] S = .ok (.dat (.bl (decide (NmOk t)))) [] S := by
  refine Mi.pure_eq ?_
  unfold b_is_name
  walk_at "sq"
  walk_at "rp"
  rw [SX.S_len]
  refine ⟨szl (by omega), ?_⟩
  by_cases c1 : 1 ≤ t.length
  rotate_left
  · rw [if_neg (by omega), decide_eq_false (fun h : NmOk t => c1 h.1)]
  rw [if_pos (by omega)]
  by_cases c2 : t.length ≤ 12
  rotate_left
  · rw [if_pos (by omega), decide_eq_false (fun h : NmOk t => c2 h.2.1)]
  rw [if_neg (by omega)]
  cases t with
  | nil => exact absurd c1 (by simp)
  | cons c r =>
    refine ⟨_, fIxS_S (c := c) (by omega) Mi.atI_c0, ?_⟩
    walk_at "rp"
    rw [sLets, sDigs, in_S2]
    by_cases c3 : c ∈ lets
    rotate_left
    · rw [if_neg (by simpa using c3), decide_eq_false (fun h : NmOk (c :: r) => by obtain ⟨u, hu, hu2⟩ := h.2.2.1; cases hu; exact c3 hu2)]
    rw [if_pos (by simpa using c3)]
    refine Mi.rp_lc_str (c :: r) (invIn (c :: r) S) (by omega) rfl ⟨none, rfl, rfl⟩ ?_ ?_
    · intro i u acc st hi h hl
      obtain ⟨x, rfl, rfl⟩ := h
      walk_at "rp"
      simp only [in_S2]
      have fin : ∀ b : Bool, b = (decide (u ∈ lets) || decide (u ∈ digs)) → invIn (c :: r) S (i + 1) (((c :: r).take i).map (fun c => Mi.D.bl (decide (c ∈ lets) || decide (c ∈ digs))) ++ [.bl b]) ⟨[some (.dat (.str (SX.S (c :: r)))), some (.dat (.str (SX.S [u])))], [], S⟩ := by
        rintro b rfl
        refine ⟨_, rfl, ?_⟩
        have hlt := (List.getElem?_eq_some_iff.mp hi).1
        rw [List.take_succ_eq_append_getElem hlt, List.map_append, (List.getElem?_eq_some_iff.mp hi).2]
        rfl
      by_cases cu : u ∈ lets
      · rw [if_pos (by simp [cu])]
        exact fin _ (by simp [cu])
      · rw [if_neg (by simp [cu])]
        exact fin _ (by simp [cu])
    · intro acc st h hl
      obtain ⟨x, rfl, rfl⟩ := h
      walk_at "rp"
      rw [show List.take (r.length + 1) (c :: r) = c :: r from List.take_length (l := c :: r)]
      have e : Mi.fAll [.lst ((c :: r).map fun c => Mi.D.bl (decide (c ∈ lets) || decide (c ∈ digs)))] = some (.bl (decide (NmOk (c :: r)))) := by
        unfold Mi.fAll
        dsimp only
        rw [bsD_map]
        refine congrArg (fun b => some (Mi.D.bl b)) ?_
        rw [Bool.eq_iff_iff]
        simp only [List.all_eq_true, List.mem_map, id, decide_eq_true_eq]
        constructor
        · intro h
          refine ⟨c1, c2, ⟨c, rfl, c3⟩, fun u hu => ?_⟩
          have := h _ ⟨u, hu, rfl⟩
          simpa using this
        · rintro h _ ⟨u, hu, rfl⟩
          simpa using h.2.2.2 u hu
      exact ⟨_, e, rfl⟩
theorem check_name_eq {t : List Nat} (hl : t.length ≤ 1000) (S : List Mi.Ob) : m_check_name [.dat (.str (SX.S t))] [] S = Mi.rfE .badValue [] S (if NmOk t then some .non else none) := by
  refine Mi.pure_runE ?_
  unfold b_check_name
  walk_at "rp"
  refine Mi.rp_callD (is_name_eq hl S) rfl rfl ?_
  walk_at "rp"
  by_cases h : NmOk t
  · rw [if_neg (by simpa using h), if_pos h]
  · rw [if_pos (by simpa using h), if_neg h]

--== cut
/-! ### the clearing: what it holds, and where -/
structure Pa where
  key : Str
  payer : Str
  payee : Str
  amount : Int
def paD (p : Pa) : Mi.D := .tup [.str p.key, .str p.payer, .str p.payee, .int p.amount]
abbrev Bal := List (Str × Int)
def bkv (b : Bal) : List (Key × Mi.D) := b.map fun p => (.inr p.1, .int p.2)
def val : Bal → Str → Option Int
  | [], _ => none
  | p :: r, s => if p.1 = s then some p.2 else val r s
theorem dVal_bkv (s : Str) : ∀ b : Bal, Mi.dVal (bkv b) (.inr s) = (val b s).map Mi.D.int
  | [] => rfl
  | p :: r => by
    show Mi.dVal ((.inr p.1, .int p.2) :: bkv r) (.inr s) = _
    rw [Mi.dVal_cons, dVal_bkv s r, val]
    by_cases c : p.1 = s
    · rw [if_pos c, if_pos (by rw [c])]
      rfl
    · rw [if_neg c, if_neg (by intro z; cases z; exact c rfl)]
theorem bkv_len (b : Bal) : (bkv b).length = b.length := List.length_map ..
def updB (b : Bal) (s : Str) (z : Int) : Bal := b.map fun p => if p.1 = s then (p.1, z) else p
theorem dPut_bkv {b : Bal} {s : Str} {x : Int} (h : val b s = some x) (z : Int) : Mi.dPut (bkv b) (.inr s) (.int z) = bkv (updB b s z) := by
  rw [Mi.dPut_some (x := .int x) (by rw [dVal_bkv, h]; rfl)]
  unfold bkv updB
  rw [List.map_map, List.map_map]
  refine List.map_congr_left fun p _ => ?_
  by_cases c : p.1 = s
  · simp [c]
  · simp [c]
theorem dPut_new {b : Bal} {s : Str} (h : val b s = none) (z : Int) : Mi.dPut (bkv b) (.inr s) (.int z) = bkv (b ++ [(s, z)]) := by
  rw [Mi.dPut_none (by rw [dVal_bkv, h]; rfl)]
  unfold bkv
  rw [List.map_append]
  rfl
theorem val_mem {s : Str} : ∀ {b : Bal}, (val b s).isSome = true ↔ s ∈ b.map (·.1)
  | [] => by simp [val]
  | p :: r => by
    rw [val, List.map_cons, List.mem_cons]
    by_cases c : p.1 = s
    · simp [c]
    · rw [if_neg c, val_mem (b := r)]
      exact ⟨.inr, fun z => z.resolve_left fun q => c q.symm⟩
theorem val_map (f : Str → Int → Int) (s : Str) : ∀ b : Bal, val (b.map fun p => (p.1, f p.1 p.2)) s = (val b s).map (f s)
  | [] => rfl
  | p :: r => by
    rw [List.map_cons, val, val, val_map f s r]
    by_cases c : p.1 = s
    · rw [if_pos c, if_pos c]
      subst c
      rfl
    · rw [if_neg c, if_neg c]
def kkv (ks : List Str) : List (Key × Mi.D) := ks.map fun s => (.inr s, .bl true)
theorem dVal_kkv (s : Str) : ∀ ks : List Str, (Mi.dVal (kkv ks) (.inr s)).isSome = decide (s ∈ ks)
  | [] => by simp [kkv, Mi.dVal_nil]
  | p :: r => by
    show (Mi.dVal ((.inr p, .bl true) :: kkv r) (.inr s)).isSome = _
    rw [Mi.dVal_cons]
    by_cases c : p = s
    · simp [c]
    · rw [if_neg (by intro z; cases z; exact c rfl), dVal_kkv s r]
      have : ¬ s = p := fun q => c q.symm
      simp [this]
theorem dPut_kkv {ks : List Str} {s : Str} (h : ¬ s ∈ ks) : Mi.dPut (kkv ks) (.inr s) (.bl true) = kkv (ks ++ [s]) := by
  rw [Mi.dPut_none ?_]
  · unfold kkv
    rw [List.map_append]
    rfl
  · have := dVal_kkv s ks
    cases e : Mi.dVal (kkv ks) (.inr s) with
    | none => rfl
    | some d => rw [e] at this; simp [h] at this
def clFs (b f q k : Nat) : List (Str × Mi.FV) := [("_balances", .dat (.ob b)), ("_floors", .dat (.ob f)), ("_queue", .dat (.ob q)), ("_keys", .dat (.ob k))]
structure Cl (S : List Mi.Ob) (o b f q k : Nat) (bs fl : Bal) (ps : List Pa) (ks : List Str) : Prop where
  c0 : S[o]? = some (.ins "Clearing" (clFs b f q k))
  cb : S[b]? = some (.bx (.dct (bkv bs)))
  cf : S[f]? = some (.bx (.dct (bkv fl)))
  cq : S[q]? = some (.bx (.lst (ps.map paD)))
  ck : S[k]? = some (.bx (.dct (kkv ks)))
  n1 : b ≠ f
  n2 : b ≠ k
  n3 : f ≠ k
  nm : bs.map (·.1) = fl.map (·.1)
  nd : (bs.map (·.1)).Nodup
  l6 : bs.length ≤ 6
  lq : ps.length ≤ 100
  lk : ks.length ≤ 100
section
variable {S : List Mi.Ob} {o b f q k : Nat} {bs fl : Bal} {ps : List Pa} {ks : List Str}
theorem cinit_eq (S : List Mi.Ob) : m_Clearing___init [.dat (.ob S.length)] [] (S ++ [.ins "Clearing" []]) = .ok (.dat .non) [] (S ++ [.ins "Clearing" (clFs (S.length + 1) (S.length + 2) (S.length + 3) (S.length + 4)), .bx (.dct []), .bx (.dct []), .bx (.lst []), .bx (.dct [])]) := by
  refine Mi.run_isN ?_
  unfold b_Clearing___init
  walk_at "go"
  rfl
theorem check_member_eq (h : Cl S o b f q k bs fl ps ks) (s : Str) : m_Clearing_check_member [.dat (.ob o), .dat (.str s)] [] S = if (val bs s).isSome = true then .ok (.dat .non) [] S else .err .missing [] S := by
  have c0 := h.c0
  have cb := h.cb
  refine Mi.run_is ?_
  unfold b_Clearing_check_member
  walk_at "go"
  rw [dVal_bkv]
  cases val bs s <;> simp
theorem members_eq (h : Cl S o b f q k bs fl ps ks) : m_Clearing_members [.dat (.ob o)] [] S = .ok (.dat (.lst ((bs.map (·.1)).map Mi.D.str))) [] S := by
  have c0 := h.c0
  have cb := h.cb
  have e : (bkv bs).map (fun kv => Mi.dK kv.1) = (bs.map (·.1)).map Mi.D.str := by
    unfold bkv
    rw [List.map_map, List.map_map]
    rfl
  refine Mi.run_isN ?_
  unfold b_Clearing_members
  walk_at "go"
  exact e.symm
theorem balance_of_eq (h : Cl S o b f q k bs fl ps ks) {s : Str} {x : Int} (hx : val bs s = some x) : m_Clearing_balance_of [.dat (.ob o), .dat (.str s)] [] S = .ok (.dat (.int x)) [] S := by
  have c0 := h.c0
  have cb := h.cb
  have ec : m_Clearing_check_member [.dat (.ob o), .dat (.str s)] [] S = .ok (.dat .non) [] S := by rw [check_member_eq h s, hx]; rfl
  have v1 := dVal_bkv s bs
  rw [hx] at v1
  refine Mi.run_is ?_
  unfold b_Clearing_balance_of
  generalize m_Clearing_check_member = M1 at ec ⊢
  walk_at "go"
  refine Mi.rp_callIs ec rfl rfl ?_
  walk_at "go"
  have v1 : Mi.dVal (bkv bs) (.inr s) = some (.int x) := v1
  exact ⟨_, v1, rfl⟩
theorem fund_eq (h : Cl S o b f q k bs fl ps ks) {s : Str} {x y z : Int} (hx : val bs s = some x) (hy : val fl s = some y) (hz : -1000000000 ≤ z ∧ z ≤ 1000000000) (hf : y ≤ x + z) : m_Clearing_fund [.dat (.ob o), .dat (.str s), .dat (.int z)] [] S = .ok (.dat .non) [] (S.set b (.bx (.dct (bkv (updB bs s (x + z)))))) := by
  have c0 := h.c0
  have cb := h.cb
  have cf := h.cf
  have ec : m_Clearing_check_member [.dat (.ob o), .dat (.str s)] [] S = .ok (.dat .non) [] S := by rw [check_member_eq h s, hx]; rfl
  have v1 := dVal_bkv s bs
  have v2 := dVal_bkv s fl
  rw [hx] at v1
  rw [hy] at v2
  refine Mi.run_is ?_
  unfold b_Clearing_fund
  generalize m_Clearing_check_member = M1 at ec ⊢
  walk_at "go"
  refine Mi.rp_callIs ec rfl rfl ?_
  walk_at "go"
  walk_at "if"
  rw [if_pos hz.1, if_neg (not_not_intro hz.2)]
  walk_at "if"
  walk_at "go"
  have v1 : Mi.dVal (bkv bs) (.inr s) = some (.int x) := v1
  have v2 : Mi.dVal (bkv fl) (.inr s) = some (.int y) := v2
  refine ⟨_, v1, ?_⟩
  walk_at "go"
  refine ⟨_, v2, ?_⟩
  walk_at "go"
  rw [if_neg (by omega)]
  walk_at "go"
  refine ⟨_, v1, .int (x + z), by simp only [Mi.fAdd, Mi.iOp, if_true], _, Mi.ownB_ob (st := ⟨_, _, S⟩) cb, Nat.lt_of_le_of_lt (show _ ≤ 6 by rw [bkv_len]; exact h.l6) (by decide), ?_⟩
  rw [dPut_bkv hx]
theorem is_amount_eq (z : Int) (S : List Mi.Ob) : m_is_amount [.dat (.int z)] [] S = .ok (.dat (.bl (decide (1 ≤ z ∧ z ≤ 1000000000)))) [] S := by
  refine Mi.run_isN ?_
  unfold b_is_amount
  walk_at "go"
  by_cases c : 1 ≤ z
  · rw [if_pos c]
    by_cases c2 : z ≤ 1000000000 <;> simp [c, c2]
  · rw [if_neg c]
    exact fun q => c q.1
theorem check_amount_eq (z : Int) (S : List Mi.Ob) : m_check_amount [.dat (.int z)] [] S = if 1 ≤ z ∧ z ≤ 1000000000 then .ok (.dat .non) [] S else .err .badValue [] S := by
  refine Mi.run_is ?_
  unfold b_check_amount
  walk_at "go"
  refine Mi.rp_callIs (is_amount_eq z S) rfl rfl ?_
  walk_at "go"
  by_cases c : 1 ≤ z ∧ z ≤ 1000000000
  · rw [if_neg (by simpa using c), if_pos c]
  · rw [if_pos (by simpa using c), if_neg c]
def subE (bs : Bal) (ks : List Str) (p : Pa) : Option Kv.Er := if ¬ (1 ≤ p.key.length ∧ p.key.length ≤ 40) then some .badValue else if val bs p.payer = none then some .missing else if val bs p.payee = none then some .missing else if p.payer = p.payee then some .refused else if ¬ (1 ≤ p.amount ∧ p.amount ≤ 1000000000) then some .badValue else if p.key ∈ ks then some .refused else none
def subS (S : List Mi.Ob) (q k : Nat) (ps : List Pa) (ks : List Str) (p : Pa) : List Mi.Ob := (S.set k (.bx (.dct (kkv (ks ++ [p.key]))))).set q (.bx (.lst ((ps ++ [p]).map paD)))
theorem submit_eq (h : Cl S o b f q k bs fl ps ks) (hl : ps.length < 100) (hk : ks.length < 100) (p : Pa) (hz : p.key.length ≤ 1000) : m_Clearing_submit [.dat (.ob o), .dat (.str p.key), .dat (.str p.payer), .dat (.str p.payee), .dat (.int p.amount)] [] S = match subE bs ks p with
    | some er => .err er [] S
    | none => .ok (.dat .non) [] (subS S q k ps ks p) := by
  obtain ⟨key, payer, payee, am⟩ := p
  have c0 := h.c0
  have cq := h.cq
  have ck := h.ck
  have e1 := check_member_eq h payer
  have e2 := check_member_eq h payee
  have ea := check_amount_eq am S
  have v1 := dVal_kkv key ks
  have hz1 : key.length ≤ sizeLine := szl (Nat.le_trans hz (by decide))
  generalize hE : subE bs ks ⟨key, payer, payee, am⟩ = E
  unfold subE at hE
  dsimp only at hE
  unfold subS
  dsimp only
  refine Mi.run_is ?_
  unfold b_Clearing_submit
  generalize m_Clearing_check_member = M1 at e1 e2 ⊢
  generalize m_check_amount = M2 at ea ⊢
  walk_at "if"
  refine ⟨hz1, ?_⟩
  by_cases g1 : 1 ≤ key.length ∧ key.length ≤ 40
  rotate_left
  · rw [if_pos g1] at hE
    subst hE
    by_cases g2 : 1 ≤ key.length
    · rw [if_pos (by omega), if_pos (by omega)]
    · rw [if_neg (by omega)]
  rw [if_neg (not_not_intro g1)] at hE
  rw [if_pos (by omega), if_neg (by omega)]
  walk_at "go"
  cases w1 : val bs payer with
  | none =>
    rw [w1, if_neg (by decide)] at e1
    rw [if_pos w1] at hE
    subst hE
    refine Mi.rp_callIs e1 rfl rfl ?_
    rfl
  | some x1 =>
  rw [w1, if_pos (c := (some x1).isSome = true) rfl] at e1
  rw [if_neg (by rw [w1]; simp)] at hE
  refine Mi.rp_callIs e1 rfl rfl ?_
  walk_at "go"
  cases w2 : val bs payee with
  | none =>
    rw [w2, if_neg (by decide)] at e2
    rw [if_pos w2] at hE
    subst hE
    refine Mi.rp_callIs e2 rfl rfl ?_
    rfl
  | some x2 =>
  rw [w2, if_pos (c := (some x2).isSome = true) rfl] at e2
  rw [if_neg (by rw [w2]; simp)] at hE
  refine Mi.rp_callIs e2 rfl rfl ?_
  walk_at "go"
  walk_at "if"
  by_cases g2 : payer = payee
  · rw [if_pos g2] at hE ⊢
    subst hE
    rfl
  rw [if_neg g2] at hE ⊢
  walk_at "go"
  by_cases g3 : 1 ≤ am ∧ am ≤ 1000000000
  rotate_left
  · rw [if_neg g3] at ea
    rw [if_pos g3] at hE
    subst hE
    refine Mi.rp_callIs ea rfl rfl ?_
    rfl
  rw [if_pos g3] at ea
  rw [if_neg (not_not_intro g3)] at hE
  refine Mi.rp_callIs ea rfl rfl ?_
  walk_at "go"
  walk_at "if"
  walk_at "go"
  rw [v1]
  by_cases g4 : key ∈ ks
  · rw [if_pos g4] at hE
    subst hE
    rw [if_pos (by simpa using g4)]
  rw [if_neg g4] at hE
  subst hE
  have nkq : k ≠ q := fun z => by rw [z, cq] at ck; cases ck
  rw [if_neg (by simpa using g4)]
  walk_at "go"
  have hkl : (kkv ks).length = ks.length := List.length_map ..
  refine ⟨Nat.lt_of_le_of_lt (show _ ≤ 100 by omega) (by decide), ?_⟩
  have c0' : (S.set k (.bx (.dct (Mi.dPut (kkv ks) (.inr key) (.bl true)))))[o]? = some (.ins "Clearing" (clFs b f q k)) := by
    rw [List.getElem?_set_ne (fun z => by rw [z, c0] at ck; cases ck)]
    exact c0
  have cq' : (S.set k (.bx (.dct (Mi.dPut (kkv ks) (.inr key) (.bl true)))))[q]? = some (.bx (.lst (ps.map paD))) := by
    rw [List.getElem?_set_ne nkq]
    exact cq
  rw [dPut_kkv g4] at c0' cq' ⊢
  generalize S.set k (.bx (.dct (kkv (ks ++ [key])))) = S' at c0' cq' ⊢
  walk_at "go"
  refine ⟨by rw [List.length_map]; exact Nat.lt_of_le_of_lt (show _ ≤ 100 by omega) (by decide), ?_⟩
  rw [List.map_append]
  rfl
end

/-! ### the queue, plain -/
section
variable {S : List Mi.Ob} {o b f q k : Nat} {bs fl : Bal} {ps : List Pa} {ks : List Str}
theorem queue_eq (h : Cl S o b f q k bs fl ps ks) : m_Clearing_queue [.dat (.ob o)] [] S = .ok (.dat (.lst (ps.map paD))) [] S := by
  have c0 := h.c0
  have cq := h.cq
  refine Mi.run_isN ?_
  unfold b_Clearing_queue
  walk_at "go"
  rw [Mi.peek_ob (st := ⟨_, _, S⟩) cq]
  exact ⟨_, rfl, _, rfl, rfl⟩
end

--== cut
/-! ### who is below the floor -/
def short (xs fl : Bal) : Option Str := (xs.find? fun p => decide (p.2 < (val fl p.1).getD 0)).map (·.1)
def optS : Option Str → Mi.D
  | none => .non
  | some s => .str s
theorem val_get : ∀ {b : Bal} {p : Str × Int}, (b.map (·.1)).Nodup → p ∈ b → val b p.1 = some p.2
  | [], _, _, h => by cases h
  | c :: r, p, nd, h => by
    rw [List.map_cons, List.nodup_cons] at nd
    rw [val]
    rcases List.mem_cons.mp h with rfl | h
    · rw [if_pos rfl]
    · rw [if_neg, val_get nd.2 h]
      intro z
      exact nd.1 (by rw [z]; exact List.mem_map_of_mem h)
def fsSt (o j : Nat) (x : Option Mi.SV) (S : List Mi.Ob) : Mi.St := ⟨[some (.dat (.ob o)), some (.dat (.ob j)), x], [], S⟩
def invFs (o j : Nat) (xs fl : Bal) (S : List Mi.Ob) : List (Key × Mi.D) → Mi.St → Prop := fun r st => ∃ (x : Option Mi.SV) (dn us : Bal), st = fsSt o j x S ∧ xs = dn ++ us ∧ r = bkv us ∧ ∀ p ∈ dn, ¬ p.2 < (val fl p.1).getD 0
theorem set_back {S : List Mi.Ob} {j : Nat} {a b : Mi.Ob} (h : S[j]? = some b) : (S.set j a).set j b = S := by
  rw [List.set_set]
  refine List.ext_getElem? fun i => ?_
  by_cases c : j = i
  · subst c
    rw [List.getElem?_set_self (List.getElem?_eq_some_iff.mp h).1, h]
  · rw [List.getElem?_set_ne c]
theorem find_short_eq {S : List Mi.Ob} {o b f q k j : Nat} {xs fl : Bal} (c0 : S[o]? = some (.ins "Clearing" (clFs b f q k))) (cf : S[f]? = some (.bx (.dct (bkv fl)))) (cj : S[j]? = some (.bx (.dct (bkv xs)))) (nj : j ≠ f) (nm : xs.map (·.1) = fl.map (·.1)) (nd : (xs.map (·.1)).Nodup) : m_Clearing_find_short [.dat (.ob o), .dat (.ob j)] [] S = .ok (.dat (optS (short xs fl))) [] S := by
  have jl := (List.getElem?_eq_some_iff.mp cj).1
  have noj : o ≠ j := fun z => by rw [z, cj] at c0; cases c0
  refine Mi.run_isN ?_
  unfold b_Clearing_find_short
  walk_at "go"
  refine Mi.rp_lock (j := j) rfl cj ?_
  have hf : (S.set j (.bx (.fz (bkv xs))))[j]? = some (.bx (.fz (bkv xs))) := List.getElem?_set_self jl
  have c0' : (S.set j (.bx (.fz (bkv xs))))[o]? = some (.ins "Clearing" (clFs b f q k)) := by rw [List.getElem?_set_ne (Ne.symm noj)]; exact c0
  have cf' : (S.set j (.bx (.fz (bkv xs))))[f]? = some (.bx (.dct (bkv fl))) := by rw [List.getElem?_set_ne nj]; exact cf
  have bk : (S.set j (.bx (.fz (bkv xs)))).set j (.bx (.dct (bkv xs))) = S := set_back cj
  show Mi.Rp (Mi.mFor _ _ _ (fsSt o j none (S.set j (.bx (.fz (bkv xs)))))) _ _
  generalize S.set j (.bx (.fz (bkv xs))) = S' at hf c0' cf' bk ⊢
  with_reducible refine Mi.rp_keys (j := j) (kvs := bkv xs) (invFs o j xs fl S') rfl hf ?_ ?_ ?_
  · exact ⟨none, [], xs, rfl, rfl, rfl, fun p hp => by cases hp⟩
  · intro qq d r st g
    obtain ⟨x, dn, us, rfl, he, hr, ho⟩ := g
    cases us with
    | nil => cases hr
    | cons u us =>
    obtain ⟨s, z⟩ := u
    cases hr
    have hm : (s, z) ∈ xs := by rw [he]; simp
    have v1 : Mi.dVal (bkv xs) (.inr s) = some (.int z) := by rw [dVal_bkv, val_get nd hm]; rfl
    obtain ⟨y, hy⟩ : ∃ y, val fl s = some y := by
      have : s ∈ fl.map (·.1) := by rw [← nm]; exact List.mem_map_of_mem hm
      cases e : val fl s with
      | none => have := val_mem.mpr this; rw [e] at this; cases this
      | some y => exact ⟨y, rfl⟩
    have v2 : Mi.dVal (bkv fl) (.inr s) = some (.int y) := by rw [dVal_bkv, hy]; rfl
    unfold fsSt
    walk_at "go"
    refine ⟨_, rfl, _, v1, ?_⟩
    walk_at "go"
    refine ⟨_, rfl, _, v2, ?_⟩
    walk_at "go"
    by_cases c : z < y
    · rw [if_pos c]
      refine ⟨bkv xs, hf, ?_, bk.symm⟩
      have hs : short xs fl = some s := by
        unfold short
        rw [he, List.find?_append, List.find?_eq_none.mpr fun p hp => by simpa using ho p hp, Option.none_or, List.find?_cons_of_pos (by simp [hy, c])]
        rfl
      rw [hs]
      rfl
    · rw [if_neg c]
      refine ⟨_, dn ++ [(s, z)], us, rfl, by simp [he], rfl, fun p hp => ?_⟩
      rcases List.mem_append.mp hp with hp | hp
      · exact ho p hp
      · rw [List.mem_singleton.mp hp, hy]
        exact c
  · intro st g
    obtain ⟨x, dn, us, rfl, he, hr, ho⟩ := g
    cases us with
    | cons u us => cases hr
    | nil =>
    rw [List.append_nil] at he
    subst he
    unfold fsSt
    refine ⟨bkv xs, hf, ?_⟩
    have hs : short xs fl = none := by
      unfold short
      rw [List.find?_eq_none.mpr fun p hp => by simpa using ho p hp]
      rfl
    rw [hs]
    exact ⟨rfl, rfl, bk.symm⟩

--== cut
/-! ### a choice of payments, and what it makes of the balances -/
def ef (p : Pa) (s : Str) : Int := (if p.payee = s then p.amount else 0) - (if p.payer = s then p.amount else 0)
def net : List Pa → List Bool → Str → Int
  | p :: ps, c :: cs, s => (if c = true then ef p s else 0) + net ps cs s
  | _, _, _ => 0
def addB (bs : Bal) (ps : List Pa) (cs : List Bool) : Bal := bs.map fun p => (p.1, p.2 + net ps cs p.1)
/-- the places of the chosen payments of a payer -/
def plc : List Pa → List Bool → Str → Nat → List Nat
  | p :: ps, c :: cs, s, i => (if c = true ∧ p.payer = s then [i] else []) ++ plc ps cs s (i + 1)
  | _, _, _, _ => []
theorem addB_fst (bs : Bal) (ps : List Pa) (cs : List Bool) : (addB bs ps cs).map (·.1) = bs.map (·.1) := by
  unfold addB
  rw [List.map_map]
  rfl
theorem val_addB (bs : Bal) (ps : List Pa) (cs : List Bool) (s : Str) : val (addB bs ps cs) s = (val bs s).map (· + net ps cs s) := val_map (fun s z => z + net ps cs s) s bs
theorem net_set : ∀ {ps : List Pa} {cs : List Bool} {i : Nat} {p : Pa} {c b : Bool}, ps[i]? = some p → cs[i]? = some c → ∀ s, net ps (cs.set i b) s = net ps cs s + ((if b = true then ef p s else 0) - (if c = true then ef p s else 0))
  | [], _, _, _, _, _, h, _, _ => by cases h
  | p :: ps, [], _, _, _, _, _, h, _ => by cases h
  | p :: ps, c :: cs, 0, _, _, b, h1, h2, s => by
    cases h1
    cases h2
    rw [List.set_cons_zero, net, net]
    omega
  | p :: ps, c :: cs, i + 1, _, _, b, h1, h2, s => by
    rw [List.set_cons_succ, net, net, net_set (ps := ps) (cs := cs) h1 h2 s]
    omega
theorem plc_lt {s : Str} : ∀ {ps : List Pa} {cs : List Bool} {n i : Nat}, i ∈ plc ps cs s n → n ≤ i ∧ ∃ p, ps[i - n]? = some p ∧ cs[i - n]? = some true ∧ p.payer = s
  | [], _, _, _, h => by cases h
  | p :: ps, [], _, _, h => by cases h
  | p :: ps, c :: cs, n, i, h => by
    rw [plc, List.mem_append] at h
    rcases h with h | h
    · by_cases q : c = true ∧ p.payer = s
      · rw [if_pos q] at h
        rw [List.mem_singleton.mp h]
        refine ⟨Nat.le_refl _, p, ?_, ?_, q.2⟩
        · rw [Nat.sub_self]; rfl
        · rw [Nat.sub_self, q.1]; rfl
      · rw [if_neg q] at h
        cases h
    · obtain ⟨h1, p', e1, e2, e3⟩ := plc_lt h
      have : i - n = (i - (n + 1)) + 1 := by omega
      rw [this]
      exact ⟨by omega, p', e1, e2, e3⟩
/-- with no place left, nothing was taken away -/
theorem net_nil {s : Str} : ∀ {ps : List Pa} {cs : List Bool} {n : Nat}, (∀ p ∈ ps, 0 ≤ p.amount) → plc ps cs s n = [] → 0 ≤ net ps cs s
  | [], _, _, _, _ => Int.le_refl _
  | p :: ps, [], _, _, _ => Int.le_refl _
  | p :: ps, c :: cs, n, ha, h => by
    rw [plc, List.append_eq_nil_iff] at h
    have := net_nil (fun p hp => ha p (List.mem_cons_of_mem _ hp)) h.2
    have h0 := ha p List.mem_cons_self
    rw [net]
    by_cases q : c = true
    · rw [if_pos q]
      have hp : ¬ p.payer = s := fun z => by
        rw [if_pos ⟨q, z⟩] at h
        cases h.1
      unfold ef
      rw [if_neg hp]
      split <;> omega
    · rw [if_neg q]
      omega
/-- a choice whose last chosen payment of a payer goes away -/
theorem plc_last {s : Str} {t : Str} : ∀ {ps : List Pa} {cs : List Bool} {n i : Nat} {l : List Nat}, plc ps cs s n = l ++ [i] → plc ps (cs.set (i - n) false) t n = if t = s then l else plc ps cs t n
  | [], _, _, _, l, h => by
    have := congrArg List.length h
    simp [plc] at this
  | p :: ps, [], _, _, l, h => by
    have := congrArg List.length h
    simp [plc] at this
  | p :: ps, c :: cs, n, i, l, h => by
    have hm : i ∈ plc (p :: ps) (c :: cs) s n := by rw [h]; simp
    rw [plc] at h hm
    cases hr : plc ps cs s (n + 1) with
    | nil =>
      rw [hr, List.append_nil] at h hm
      by_cases q : c = true ∧ p.payer = s
      · rw [if_pos q] at h hm
        rw [List.mem_singleton.mp hm] at h ⊢
        have hl : l = [] := by
          cases l with
          | nil => rfl
          | cons a l => have := congrArg List.length h; simp at this
        subst hl
        rw [Nat.sub_self, List.set_cons_zero, plc, if_neg (by simp), List.nil_append]
        by_cases z : t = s
        · rw [if_pos z, z, hr]
        · rw [if_neg z, plc, if_neg (fun y : c = true ∧ p.payer = t => z (y.2.symm.trans q.2)), List.nil_append]
      · rw [if_neg q] at hm
        cases hm
    | cons a r =>
      have hi : i ∈ plc ps cs s (n + 1) := by
        rcases List.mem_append.mp hm with y | y
        · have hlast := congrArg List.getLast? h
          rw [hr, List.getLast?_append, List.getLast?_append] at hlast
          have : (a :: r).getLast? = some i := by
            cases e : (a :: r).getLast? with
            | none => simp at e
            | some w => rw [e] at hlast; simpa using hlast
          rw [hr]
          exact List.mem_of_getLast? this
        · exact y
      obtain ⟨h1, _⟩ := plc_lt hi
      obtain ⟨l', hl'⟩ : ∃ l', plc ps cs s (n + 1) = l' ++ [i] ∧ l = (if c = true ∧ p.payer = s then [n] else []) ++ l' := by
        rcases List.eq_nil_or_concat (plc ps cs s (n + 1)) with y | ⟨l', w, y⟩
        · rw [y] at hr; cases hr
        · rw [List.concat_eq_append] at y
          rw [y, ← List.append_assoc] at h
          obtain ⟨y1, y2⟩ := List.append_inj' h rfl
          cases y2
          exact ⟨l', y, y1.symm⟩
      have ih := plc_last (t := t) hl'.1
      have e1 : i - n = (i - (n + 1)) + 1 := by omega
      rw [e1, List.set_cons_succ, plc, ih, plc]
      by_cases z : t = s
      · rw [if_pos z, if_pos z, hl'.2, z]
      · rw [if_neg z, if_neg z]
/-- how many are chosen -/
def many : List Bool → Nat
  | [] => 0
  | c :: cs => (if c = true then 1 else 0) + many cs
theorem many_le : ∀ cs : List Bool, many cs ≤ cs.length
  | [] => Nat.le_refl _
  | c :: cs => by
    have := many_le cs
    rw [many, List.length_cons]
    split <;> omega
theorem many_set : ∀ {cs : List Bool} {i : Nat}, cs[i]? = some true → many cs = many (cs.set i false) + 1
  | [], _, h => by cases h
  | c :: cs, 0, h => by
    cases h
    rw [List.set_cons_zero, many, many, if_pos rfl, if_neg (by decide)]
    omega
  | c :: cs, i + 1, h => by
    rw [List.set_cons_succ, many, many, many_set (cs := cs) h]
    omega
theorem net_snoc {p : Pa} {s : Str} : ∀ {ps : List Pa} {cs : List Bool}, cs.length = ps.length → net (ps ++ [p]) (cs ++ [true]) s = net ps cs s + ef p s
  | [], [], _ => by simp [net]
  | [], c :: cs, h => by cases h
  | q :: ps, [], h => by cases h
  | q :: ps, c :: cs, h => by
    rw [List.cons_append, List.cons_append, net, net, net_snoc (ps := ps) (cs := cs) (Nat.succ.inj h)]
    omega
theorem plc_snoc {p : Pa} {s : Str} : ∀ {ps : List Pa} {cs : List Bool} {n : Nat}, cs.length = ps.length → plc (ps ++ [p]) (cs ++ [true]) s n = plc ps cs s n ++ (if p.payer = s then [n + ps.length] else [])
  | [], [], n, _ => by simp [plc]
  | [], c :: cs, _, h => by cases h
  | q :: ps, [], _, h => by cases h
  | q :: ps, c :: cs, n, h => by
    rw [List.cons_append, List.cons_append, plc, plc, plc_snoc (ps := ps) (cs := cs) (Nat.succ.inj h), List.append_assoc, List.length_cons, show n + 1 + ps.length = n + (ps.length + 1) by omega]

--== cut
/-! ### the heap in the midst of a choice -/
def idx (bs : Bal) (s : Str) : Option Nat := bs.findIdx? fun p => decide (p.1 = s)
def pkv : Bal → Nat → List (Key × Mi.D)
  | [], _ => []
  | p :: r, n => (.inr p.1, .ob n) :: pkv r (n + 1)
theorem dVal_pkv (s : Str) : ∀ (bs : Bal) (n : Nat), Mi.dVal (pkv bs n) (.inr s) = (idx bs s).map fun i => .ob (n + i)
  | [], _ => rfl
  | p :: r, n => by
    rw [pkv, Mi.dVal_cons, dVal_pkv s r (n + 1)]
    unfold idx
    rw [List.findIdx?_cons]
    by_cases c : p.1 = s
    · rw [if_pos (by rw [c])]
      simp [c]
    · rw [if_neg (by intro z; cases z; exact c rfl)]
      simp only [c, decide_false, Bool.false_eq_true, if_false, Option.map_map]
      congr 1
      funext i
      show Mi.D.ob _ = Mi.D.ob _
      congr 1
      show n + 1 + i = n + (i + 1)
      omega
theorem idx_get {bs : Bal} {s : Str} {i : Nat} (h : idx bs s = some i) : ∃ z, bs[i]? = some (s, z) := by
  obtain ⟨hi, h1, _⟩ := List.findIdx?_eq_some_iff_getElem.mp h
  have h1 : bs[i].1 = s := by simpa using h1
  refine ⟨bs[i].2, ?_⟩
  rw [List.getElem?_eq_getElem hi, ← h1]
theorem idx_some {bs : Bal} {s : Str} (h : s ∈ bs.map (·.1)) : ∃ i, idx bs s = some i := by
  obtain ⟨p, hp, rfl⟩ := List.mem_map.mp h
  cases e : idx bs p.1 with
  | some i => exact ⟨i, rfl⟩
  | none =>
    have := List.findIdx?_eq_none_iff.mp e p hp
    simp at this
def upd {α : Type} (F : Str → α) (s : Str) (x : α) : Str → α := fun t => if t = s then x else F t
def balF (bs : Bal) (F : Str → Int) : Bal := bs.map fun p => (p.1, F p.1)
def plD (l : List Nat) : Mi.Ob := .bx (.lst (l.map fun (i : Nat) => Mi.D.int (i : Int)))
def FS (S : List Mi.Ob) (bs : Bal) (F : Str → Int) (G : Str → List Nat) : List Mi.Ob := S ++ (.bx (.dct (bkv (balF bs F))) :: ((bs.map fun p => plD (G p.1)) ++ [.bx (.dct (pkv bs (S.length + 1)))]))
section
variable {S : List Mi.Ob} {bs : Bal} {F : Str → Int} {G : Str → List Nat}
theorem fs_old {i : Nat} (h : i < S.length) : (FS S bs F G)[i]? = S[i]? := List.getElem?_append_left h
theorem fs_bal : (FS S bs F G)[S.length]? = some (.bx (.dct (bkv (balF bs F)))) := by
  unfold FS
  rw [List.getElem?_append_right (Nat.le_refl _), Nat.sub_self]
  rfl
theorem fs_plc {s : Str} {i : Nat} (h : idx bs s = some i) : (FS S bs F G)[S.length + 1 + i]? = some (plD (G s)) := by
  obtain ⟨z, hz⟩ := idx_get h
  unfold FS
  rw [List.getElem?_append_right (by omega), show S.length + 1 + i - S.length = i + 1 by omega, List.getElem?_cons_succ, List.getElem?_append_left (by rw [List.length_map]; exact (List.getElem?_eq_some_iff.mp hz).1), List.getElem?_map, hz]
  rfl
theorem fs_dct : (FS S bs F G)[S.length + 1 + bs.length]? = some (.bx (.dct (pkv bs (S.length + 1)))) := by
  unfold FS
  rw [List.getElem?_append_right (by omega), show S.length + 1 + bs.length - S.length = bs.length + 1 by omega, List.getElem?_cons_succ, List.getElem?_append_right (by rw [List.length_map]; exact Nat.le_refl _), List.length_map, Nat.sub_self]
  rfl
theorem val_balF {s : Str} (h : s ∈ bs.map (·.1)) : val (balF bs F) s = some (F s) := by
  have := val_map (fun s _ => F s) s bs
  unfold balF
  rw [this]
  cases e : val bs s with
  | none => have := val_mem.mpr h; rw [e] at this; cases this
  | some x => rfl
theorem updB_balF (s : Str) (z : Int) : updB (balF bs F) s z = balF bs (upd F s z) := by
  unfold updB balF upd
  rw [List.map_map]
  refine List.map_congr_left fun p _ => ?_
  by_cases c : p.1 = s
  · simp [c]
  · simp [c]
theorem fs_setB (F' : Str → Int) : (FS S bs F G).set S.length (.bx (.dct (bkv (balF bs F')))) = FS S bs F' G := by
  unfold FS
  rw [List.set_append_right _ _ (Nat.le_refl _), Nat.sub_self, List.set_cons_zero]
theorem fs_setP {s : Str} {i : Nat} (nd : (bs.map (·.1)).Nodup) (h : idx bs s = some i) (l : List Nat) : (FS S bs F G).set (S.length + 1 + i) (plD l) = FS S bs F (upd G s l) := by
  obtain ⟨z, hz⟩ := idx_get h
  have hi := (List.getElem?_eq_some_iff.mp hz).1
  unfold FS
  rw [List.set_append_right _ _ (by omega), show S.length + 1 + i - S.length = i + 1 by omega, List.set_cons_succ, List.set_append_left _ _ (by rw [List.length_map]; exact hi)]
  congr 2
  congr 1
  refine List.ext_getElem? fun k => ?_
  rw [List.getElem?_set, List.getElem?_map, List.getElem?_map]
  by_cases c : i = k
  · subst c
    rw [if_pos rfl, if_pos (by rw [List.length_map]; exact hi), hz]
    show some (plD l) = some (plD (upd G s l s))
    unfold upd
    rw [if_pos rfl]
  · rw [if_neg c]
    cases e : bs[k]? with
    | none => rfl
    | some p =>
      show some (plD (G p.1)) = some (plD (upd G s l p.1))
      unfold upd
      rw [if_neg]
      intro y
      refine c ?_
      have e1 : (bs.map (·.1))[i]? = some s := by rw [List.getElem?_map, hz]; rfl
      have e2 : (bs.map (·.1))[k]? = some s := by rw [List.getElem?_map, e, ← y]; rfl
      exact (List.getElem?_inj (by rw [List.length_map]; exact hi) nd).mp (e1.trans e2.symm)
end

--== cut
/-! ### a choice begins: copies and empty places -/
theorem pkv_snoc (u : Str × Int) : ∀ (dn : Bal) (n : Nat), pkv (dn ++ [u]) n = pkv dn n ++ [(.inr u.1, .ob (n + dn.length))]
  | [], n => by simp [pkv]
  | p :: r, n => by
    rw [List.cons_append, pkv, pkv_snoc u r (n + 1), pkv, List.cons_append, List.length_cons, show n + 1 + r.length = n + (r.length + 1) by omega]
theorem pkv_len : ∀ (bs : Bal) (n : Nat), (pkv bs n).length = bs.length
  | [], _ => rfl
  | p :: r, n => by rw [pkv, List.length_cons, pkv_len r, List.length_cons]
def fcSt (o : Nat) (x1 x2 x3 x4 x5 x6 x7 x8 x9 x10 : Option Mi.SV) (S : List Mi.Ob) : Mi.St := ⟨[some (.dat (.ob o)), x1, x2, x3, x4, x5, x6, x7, x8, x9, x10], [], S⟩
def dcI (o : Nat) (bs : Bal) (S : List Mi.Ob) : List (Key × Mi.D) → List (Key × Mi.D) → Mi.St → Prop := fun r acc st => ∃ (dn us : Bal) (x3 : Option Mi.SV), st = fcSt o (some (.dat (.ob S.length))) none x3 none none none none none none none (S ++ .bx (.fz (bkv bs)) :: dn.map fun _ => plD []) ∧ bs = dn ++ us ∧ r = bkv us ∧ acc = pkv dn (S.length + 1)
def f0 (bs : Bal) : Str → Int := fun s => (val bs s).getD 0
theorem balF_f0 {bs : Bal} (nd : (bs.map (·.1)).Nodup) : balF bs (f0 bs) = bs := by
  unfold balF f0
  have : ∀ p ∈ bs, ((p.1, (val bs p.1).getD 0) : Str × Int) = p := fun p hp => by rw [val_get nd hp]; rfl
  rw [List.map_congr_left this, List.map_id']
section
variable {S : List Mi.Ob} {o b f q k : Nat} {bs fl : Bal} {ps : List Pa} {ks : List Str}
theorem fc_begin (h : Cl S o b f q k bs fl ps ks) {M : Mi.M Mi.Fl} {kf : Mi.Fl → Mi.St → Prop} {e : Kv.Er → Mi.St → Prop} (hk : ∀ x3, Mi.Rp (M (fcSt o (some (.dat (.ob S.length))) (some (.dat (.ob (S.length + 1 + bs.length)))) x3 none none none none none none none (FS S bs (f0 bs) (fun _ => [])))) kf e) : Mi.Rp ((Mi.mSeq (Mi.mAsg (Mi.mBox (Mi.mDCopy (Mi.mFld "Clearing" "_balances" (Mi.mVar 0)))) (Mi.mgName 1)) (Mi.mSeq (Mi.mAsg (Mi.mBox (Mi.lockM (Mi.mVar 1) (Mi.mDc [3] (Mi.mIKeys (Mi.mVar 1)) (Mi.mgName 3) (Mi.M.pure true) (Mi.mVar 3) (Mi.mBox (Mi.mLst (Mi.M.pure [])))))) (Mi.mgName 2)) M)) (fcSt o none none none none none none none none none none S)) kf e := by
  have c0 := h.c0
  have cb := h.cb
  refine Mi.rp_cut (fun st => st = fcSt o (some (.dat (.ob S.length))) none none none none none none none none none (S ++ [.bx (.dct (bkv bs))])) ?_ ?_
  · unfold fcSt
    walk_at "go"
  intro st g
  subst g
  refine Mi.rp_cut (fun st => ∃ x3, st = fcSt o (some (.dat (.ob S.length))) (some (.dat (.ob (S.length + 1 + bs.length)))) x3 none none none none none none none (FS S bs (f0 bs) (fun _ => []))) ?_ ?_
  rotate_left
  · intro st g
    obtain ⟨x3, rfl⟩ := g
    exact hk x3
  unfold fcSt
  walk_at "go"
  refine Mi.rp_lock (j := S.length) (kvs := bkv bs) rfl Mi.s_new ?_
  show Mi.Rp (Mi.mDc _ _ _ _ _ _ ⟨_, _, (S ++ [Mi.Ob.bx (.dct (bkv bs))]).set S.length (.bx (.fz (bkv bs)))⟩) _ _
  rw [Mi.s_set_new]
  refine Mi.rp_dc (j := S.length) (kvs := bkv bs) (dcI o bs S) rfl Mi.s_new ⟨[], bs, none, rfl, rfl, rfl, rfl⟩ ?_ ?_
  · intro qq d r acc st g
    obtain ⟨dn, us, x3, rfl, he, hr, rfl⟩ := g
    cases us with
    | nil => cases hr
    | cons u us =>
    cases hr
    unfold fcSt
    walk_at "go"
    have hd : dn.length ≤ 6 := by
      have := congrArg List.length he
      have := h.l6
      rw [List.length_append] at *
      omega
    have hnd := h.nd
    rw [he, List.map_append, List.map_cons, List.nodup_append] at hnd
    have hix : idx dn u.1 = none := by
      cases e : idx dn u.1 with
      | none => rfl
      | some i =>
        obtain ⟨z, hz⟩ := idx_get e
        exact absurd rfl (hnd.2.2 u.1 (List.mem_map.mpr ⟨_, List.mem_of_getElem? hz, rfl⟩) u.1 List.mem_cons_self)
    refine ⟨.inr u.1, rfl, Nat.zero_le _, by rw [pkv_len]; exact Nat.lt_of_le_of_lt hd (by decide), dn ++ [u], us, some (.dat (.str u.1)), ?_, by simp [he], rfl, ?_⟩
    · unfold fcSt
      rw [List.map_append]
      rfl
    · rw [Mi.dPut_none (by rw [dVal_pkv, hix]; rfl), pkv_snoc, List.length_map, show S.length + (dn.length + 1) = S.length + 1 + dn.length by omega]
  · intro acc st g
    obtain ⟨dn, us, x3, rfl, he, hr, rfl⟩ := g
    cases us with
    | cons u us => cases hr
    | nil =>
    rw [List.append_nil] at he
    subst he
    unfold fcSt
    refine ⟨bkv bs, Mi.s_new, none, ?_⟩
    have e1 : (S ++ Mi.Ob.bx (.fz (bkv bs)) :: bs.map fun _ => plD []).set S.length (.bx (.dct (bkv bs))) = S ++ Mi.Ob.bx (.dct (bkv bs)) :: bs.map fun _ => plD [] := Mi.s_set_new
    dsimp only [Mi.restE]
    rw [e1]
    refine ⟨?_, rfl, ?_⟩
    · rw [List.length_append, List.length_cons, List.length_map, show bs.length + 1 = 1 + bs.length by omega]
      rfl
    · unfold FS
      rw [balF_f0 h.nd, List.append_assoc, List.cons_append]
end

--== cut
/-! ### a choice: each payment noted -/
theorem plc_len {s : Str} : ∀ {ps : List Pa} {cs : List Bool} {n : Nat}, (plc ps cs s n).length ≤ ps.length
  | [], _, _ => by simp [plc]
  | p :: ps, [], _ => by simp [plc]
  | p :: ps, c :: cs, n => by
    have := plc_len (s := s) (ps := ps) (cs := cs) (n := n + 1)
    rw [plc, List.length_append, List.length_cons]
    split
    · rw [List.length_singleton]; omega
    · rw [List.length_nil]; omega
def tr (n : Nat) : List Bool := List.replicate n true
def FN (bs : Bal) (ps : List Pa) (cs : List Bool) : Str → Int := fun s => f0 bs s + net ps cs s
def GN (ps : List Pa) (cs : List Bool) : Str → List Nat := fun s => plc ps cs s 0
def PaOk (bs : Bal) (p : Pa) : Prop := p.payer ∈ bs.map (·.1) ∧ p.payee ∈ bs.map (·.1) ∧ p.payer ≠ p.payee
def fcB (S : List Mi.Ob) : Option Mi.SV := some (.dat (.ob S.length))
def fcP (S : List Mi.Ob) (bs : Bal) : Option Mi.SV := some (.dat (.ob (S.length + 1 + bs.length)))
def invF1 (o : Nat) (bs : Bal) (ps : List Pa) (S : List Mi.Ob) : List Mi.D → Mi.St → Prop := fun r st => ∃ (dn us : List Pa) (x3 x4 x5 x6 x7 x8 : Option Mi.SV), st = fcSt o (fcB S) (fcP S bs) x3 x4 x5 x6 x7 x8 none none (FS S bs (FN bs dn (tr dn.length)) (GN dn (tr dn.length))) ∧ ps = dn ++ us ∧ r = Mi.enumD dn.length (us.map paD)
section
variable {S : List Mi.Ob} {o b f q k : Nat} {bs fl : Bal} {ps : List Pa} {ks : List Str}
theorem fc_loop1 (h : Cl S o b f q k bs fl ps ks) (hp : ∀ p ∈ ps, PaOk bs p) (x3 : Option Mi.SV) : Mi.Rp (Mi.mFor (Mi.mIEnum (Mi.mCons (Mi.mFld "Clearing" "_queue" (Mi.mVar 0)) (Mi.M.pure []))) (Mi.mgTup 2 (Mi.mgCons (Mi.mgName 4) (Mi.mgCons (Mi.mgTup 4 (Mi.mgCons (Mi.mgName 5) (Mi.mgCons (Mi.mgName 6) (Mi.mgCons (Mi.mgName 7) (Mi.mgCons (Mi.mgName 8) Mi.mgNil))))) Mi.mgNil))) (Mi.mSeq (Mi.mDrop (Mi.mMut Mi.fAppend (Mi.mDGet (Mi.mVar 2) (Mi.mVar 6)) (Mi.mCons (Mi.mD (Mi.mVar 4)) (Mi.M.pure [])))) (Mi.mSeq (Mi.mDAug Mi.fSub (Mi.mVar 1) (Mi.mVar 6) (Mi.mVar 8)) (Mi.mDAug Mi.fAdd (Mi.mVar 1) (Mi.mVar 7) (Mi.mVar 8)))) (fcSt o (fcB S) (fcP S bs) x3 none none none none none none none (FS S bs (f0 bs) (fun _ => [])))) (Mi.SqEnd (fun st => ∃ x3 x4 x5 x6 x7 x8, st = fcSt o (fcB S) (fcP S bs) x3 x4 x5 x6 x7 x8 none none (FS S bs (FN bs ps (tr ps.length)) (GN ps (tr ps.length)))) (fun _ _ => False)) (fun _ _ => False) := by
  have c0 := h.c0
  have cq := h.cq
  have ol := (List.getElem?_eq_some_iff.mp c0).1
  have ql := (List.getElem?_eq_some_iff.mp cq).1
  have cqF : ∀ F G, (FS S bs F G)[q]? = some (.bx (.lst (ps.map paD))) := fun F G => (fs_old ql).trans cq
  have c0F : ∀ F G, (FS S bs F G)[o]? = some (.ins "Clearing" (clFs b f q k)) := fun F G => (fs_old ol).trans c0
  with_reducible refine Mi.rp_enum_pk (invF1 o bs ps S) ?_ ?_ ?_
  · have c0' := c0F (f0 bs) (fun _ => [])
    have e0 : FS S bs (f0 bs) (fun _ => []) = FS S bs (FN bs [] (tr 0)) (GN [] (tr 0)) := by
      congr 1
      funext s
      unfold FN
      rw [show net [] (tr 0) s = 0 from rfl, Int.add_zero]
    unfold fcSt
    walk_at "go"
    rw [Mi.peek_ob (st := ⟨_, _, FS S bs (f0 bs) fun _ => []⟩) (cqF (f0 bs) fun _ => [])]
    refine ⟨_, rfl, ⟨[], ps, x3, none, none, none, none, none, ?_, rfl, rfl⟩, fun r st' g => ?_⟩
    · rw [e0]
      rfl
    · obtain ⟨dn, us, x3, x4, x5, x6, x7, x8, rfl, _⟩ := g
      exact Mi.peek_ob (st := ⟨_, _, FS S bs (FN bs dn (tr dn.length)) (GN dn (tr dn.length))⟩) (cqF _ _)
  · intro d r st g
    with_reducible refine Mi.RpI.to ?_
    obtain ⟨dn, us, x3, x4, x5, x6, x7, x8, rfl, he, hr⟩ := g
    cases us with
    | nil => cases hr
    | cons p us =>
    obtain ⟨key, payer, payee, am⟩ := p
    cases hr
    have pok := hp ⟨key, payer, payee, am⟩ (by rw [he]; simp)
    obtain ⟨i, hi⟩ := idx_some pok.1
    have hD := fs_dct (S := S) (bs := bs) (F := FN bs dn (tr dn.length)) (G := GN dn (tr dn.length))
    have hP := fs_plc (S := S) (bs := bs) (F := FN bs dn (tr dn.length)) (G := GN dn (tr dn.length)) hi
    have vD : Mi.dVal (pkv bs (S.length + 1)) (.inr payer) = some (.ob (S.length + 1 + i)) := by rw [dVal_pkv, hi]; rfl
    unfold paD
    refine Mi.RpI.of ?_
    unfold fcSt fcB fcP
    unfold plD at hP
    rw [Nat.add_assoc] at hD hP vD
    walk_at "go"
    refine ⟨_, vD, _, Mi.ownB_ob (st := ⟨_, _, FS S bs (FN bs dn (tr dn.length)) (GN dn (tr dn.length))⟩) hP, _, Mi.ownB_ob (st := ⟨_, _, FS S bs (FN bs dn (tr dn.length)) (GN dn (tr dn.length))⟩) hP, ?_, _, rfl, ?_⟩
    · rw [List.length_map]
      have hl := h.lq
      rw [he, List.length_append] at hl
      exact Nat.lt_of_le_of_lt (show _ ≤ 100 from Nat.le_trans plc_len (by omega)) (by decide)
    have hS : (FS S bs (FN bs dn (tr dn.length)) (GN dn (tr dn.length))).set (S.length + (1 + i)) (.bx (.lst (List.map (fun (i : Nat) => Mi.D.int (i : Int)) (GN dn (tr dn.length) payer) ++ [.int (dn.length : Int)]))) = FS S bs (FN bs dn (tr dn.length)) (upd (GN dn (tr dn.length)) payer (GN dn (tr dn.length) payer ++ [dn.length])) := by
      rw [← Nat.add_assoc, ← fs_setP h.nd hi]
      unfold plD
      rw [List.map_append]
      rfl
    rw [hS]
    clear hS hP hD
    have hG : upd (GN dn (tr dn.length)) payer (GN dn (tr dn.length) payer ++ [dn.length]) = GN (dn ++ [⟨key, payer, payee, am⟩]) (tr (dn.length + 1)) := by
      funext s
      unfold upd GN
      rw [show tr (dn.length + 1) = tr dn.length ++ [true] from List.replicate_succ', plc_snoc (by unfold tr; rw [List.length_replicate])]
      by_cases c : s = payer
      · subst c
        rw [if_pos rfl, if_pos rfl, Nat.zero_add]
      · rw [if_neg c, if_neg (fun y : payer = s => c y.symm), List.append_nil]
    rw [hG]
    have hF : upd (upd (FN bs dn (tr dn.length)) payer (FN bs dn (tr dn.length) payer - am)) payee (FN bs dn (tr dn.length) payee + am) = FN bs (dn ++ [⟨key, payer, payee, am⟩]) (tr (dn.length + 1)) := by
      funext s
      unfold upd FN
      rw [show tr (dn.length + 1) = tr dn.length ++ [true] from List.replicate_succ', net_snoc (by unfold tr; rw [List.length_replicate])]
      unfold ef
      dsimp only
      have n3 : payer ≠ payee := pok.2.2
      by_cases c : s = payee
      · subst c
        rw [if_pos rfl, if_pos rfl, if_neg n3]
        omega
      · rw [if_neg c, if_neg (fun y : payee = s => c y.symm)]
        by_cases c2 : s = payer
        · subst c2
          rw [if_pos rfl, if_pos rfl]
          omega
        · rw [if_neg c2, if_neg (fun y : payer = s => c2 y.symm)]
          omega
    have inv : ∀ st, st = fcSt o (fcB S) (fcP S bs) x3 (some (.dat (.int (dn.length : Int)))) (some (.dat (.str key))) (some (.dat (.str payer))) (some (.dat (.str payee))) (some (.dat (.int am))) none none (FS S bs (FN bs (dn ++ [⟨key, payer, payee, am⟩]) (tr (dn.length + 1))) (GN (dn ++ [⟨key, payer, payee, am⟩]) (tr (dn.length + 1)))) → invF1 o bs ps S (Mi.enumD (dn.length + 1) (us.map paD)) st := fun st e => ⟨dn ++ [⟨key, payer, payee, am⟩], us, x3, _, _, _, _, _, by rw [List.length_append]; exact e, by rw [he]; simp, by rw [List.length_append]; rfl⟩
    rw [← hF] at inv
    generalize GN (dn ++ [⟨key, payer, payee, am⟩]) (tr (dn.length + 1)) = G at inv ⊢
    generalize FN bs dn (tr dn.length) = F at inv ⊢
    have hB := fs_bal (S := S) (bs := bs) (F := F) (G := G)
    have vB : Mi.dVal (bkv (balF bs F)) (.inr payer) = some (.int (F payer)) := by rw [dVal_bkv, val_balF pok.1]; rfl
    walk_at "go"
    have blen : ∀ F, (bkv (balF bs F)).length < sizeLine := fun F => Nat.lt_of_le_of_lt (show _ ≤ 6 by rw [bkv_len]; unfold balF; rw [List.length_map]; exact h.l6) (by decide)
    refine ⟨_, vB, .int (F payer - am), Mi.sub_ii, _, Mi.ownB_ob (st := ⟨_, _, FS S bs F G⟩) hB, blen _, ?_⟩
    rw [dPut_bkv (val_balF pok.1), updB_balF, fs_setB]
    have hB2 := fs_bal (S := S) (bs := bs) (F := upd F payer (F payer - am)) (G := G)
    have vB2 : Mi.dVal (bkv (balF bs (upd F payer (F payer - am)))) (.inr payee) = some (.int (F payee)) := by
      rw [dVal_bkv, val_balF pok.2.1]
      unfold upd
      rw [if_neg (Ne.symm pok.2.2)]
      rfl
    refine ⟨_, Mi.rdct_ob (st := ⟨_, _, FS S bs (upd F payer (F payer - am)) G⟩) hB2, _, vB2, .int (F payee + am), Mi.add_ii, _, Mi.ownB_ob (st := ⟨_, _, FS S bs (upd F payer (F payer - am)) G⟩) hB2, blen _, ?_⟩
    rw [dPut_bkv (val_balF pok.2.1), updB_balF, fs_setB]
    exact inv _ (by unfold fcSt fcB fcP; rw [Nat.add_assoc])
  · intro st g
    obtain ⟨dn, us, x3, x4, x5, x6, x7, x8, rfl, he, hr⟩ := g
    cases us with
    | cons p us => cases hr
    | nil =>
    rw [List.append_nil] at he
    subst he
    exact ⟨x3, x4, x5, x6, x7, x8, rfl⟩
end

--== cut
/-! ### a choice: payments of a short payer go away -/
/-- the choices that the search comes through -/
inductive Rch (bs fl : Bal) (ps : List Pa) : List Bool → Prop where
  | all : Rch bs fl ps (tr ps.length)
  | step {cs : List Bool} {s : Str} {l : List Nat} {i : Nat} : Rch bs fl ps cs → short (balF bs (FN bs ps cs)) fl = some s → GN ps cs s = l ++ [i] → Rch bs fl ps (cs.set i false)
theorem Rch.len {bs fl : Bal} {ps : List Pa} {cs : List Bool} (h : Rch bs fl ps cs) : cs.length = ps.length := by
  induction h with
  | all => unfold tr; rw [List.length_replicate]
  | step _ _ _ ih => rw [List.length_set]; exact ih
def wcSt (o : Nat) (S : List Mi.Ob) (bs fl : Bal) (ps : List Pa) (cs : List Bool) (x3 x4 x5 x6 x7 x8 : Option Mi.SV) : Mi.St := fcSt o (fcB S) (fcP S bs) x3 x4 x5 x6 x7 x8 (some (.own (.lst (cs.map Mi.D.bl)))) (some (.dat (optS (short (balF bs (FN bs ps cs)) fl)))) (FS S bs (FN bs ps cs) (GN ps cs))
def invWc (o : Nat) (S : List Mi.Ob) (bs fl : Bal) (ps : List Pa) : Nat → Mi.St → Prop := fun m st => ∃ (cs : List Bool) (x3 x4 x5 x6 x7 x8 : Option Mi.SV), st = wcSt o S bs fl ps cs x3 x4 x5 x6 x7 x8 ∧ Rch bs fl ps cs ∧ many cs = m
theorem short_some {xs fl : Bal} {s : Str} (h : short xs fl = some s) : ∃ z, (s, z) ∈ xs ∧ z < (val fl s).getD 0 := by
  unfold short at h
  cases e : xs.find? fun p => decide (p.2 < (val fl p.1).getD 0) with
  | none => rw [e] at h; cases h
  | some p =>
    rw [e] at h
    cases h
    exact ⟨p.2, List.mem_of_find?_eq_some e, by simpa using List.find?_some e⟩
theorem pop_snoc {A B : List Mi.D} {x : Mi.D} (h : B = [x]) : Mi.fPop (A ++ B) [] = some (A, x) := by
  subst h
  unfold Mi.fPop
  have e1 : (A ++ [x])[(A ++ [x]).length - 1]? = some x := by
    rw [List.length_append, List.length_singleton, Nat.add_sub_cancel, List.getElem?_append_right (Nat.le_refl _), Nat.sub_self]
    rfl
  rw [e1, List.dropLast_append_of_ne_nil (by simp)]
  simp
theorem ixN_at {n j : Nat} (hj : j < n) : ixN n (j : Int) = some j := by
  unfold ixN
  rw [if_pos (by omega), if_pos (by omega)]
  rfl
section
variable {S : List Mi.Ob} {o b f q k : Nat} {bs fl : Bal} {ps : List Pa} {ks : List Str}
theorem fc_loop2 (h : Cl S o b f q k bs fl ps ks) (hp : ∀ p ∈ ps, PaOk bs p) (ha : ∀ p ∈ ps, 0 ≤ p.amount) (hf : ∀ s z, val bs s = some z → (val fl s).getD 0 ≤ z) (cs0 : List Bool) (hc : Rch bs fl ps cs0) (hl : ps.length < 100) (x3 x4 x5 x6 x7 x8 : Option Mi.SV) : Mi.Rp (Mi.whL (Mi.mB (Mi.mPk Mi.fNotN (Mi.mVar 10) (Mi.mC .non))) (Mi.mSeq (Mi.mAsg (Mi.mMut Mi.fPop (Mi.mDGet (Mi.mVar 2) (Mi.mVar 10)) (Mi.M.pure [])) (Mi.mgName 4)) (Mi.mSeq (Mi.mAsg (Mi.mPk Mi.fIxL (Mi.mFld "Clearing" "_queue" (Mi.mVar 0)) (Mi.mVar 4)) (Mi.mgTup 4 (Mi.mgCons (Mi.mgName 5) (Mi.mgCons (Mi.mgName 6) (Mi.mgCons (Mi.mgName 7) (Mi.mgCons (Mi.mgName 8) Mi.mgNil)))))) (Mi.mSeq (Mi.mAsg (Mi.mC (.bl false)) (Mi.mgSub (Mi.mVar 9) (Mi.mVar 4))) (Mi.mSeq (Mi.mDAug Mi.fAdd (Mi.mVar 1) (Mi.mVar 6) (Mi.mVar 8)) (Mi.mSeq (Mi.mDAug Mi.fSub (Mi.mVar 1) (Mi.mVar 7) (Mi.mVar 8)) (Mi.mAsg (Mi.mMeth "Clearing" "find_short" 2 m_Clearing_find_short (Mi.mVar 0) (Mi.mCons (Mi.mVar 1) (Mi.M.pure []))) (Mi.mgName 10))))))) 100 (wcSt o S bs fl ps cs0 x3 x4 x5 x6 x7 x8)) (Mi.SqEnd (fun st => ∃ cs x3 x4 x5 x6 x7 x8, st = wcSt o S bs fl ps cs x3 x4 x5 x6 x7 x8 ∧ Rch bs fl ps cs ∧ short (balF bs (FN bs ps cs)) fl = none) (fun _ _ => False)) (fun _ _ => False) := by
  refine Mi.rp_wh (invWc o S bs fl ps) ?_ 100 (many cs0) _ (Nat.lt_of_le_of_lt (many_le cs0) (by rw [hc.len]; exact hl)) ⟨cs0, x3, x4, x5, x6, x7, x8, rfl, hc, rfl⟩
  intro m st g
  obtain ⟨cs, x3, x4, x5, x6, x7, x8, rfl, hr, hm⟩ := g
  have hcl := hr.len
  unfold wcSt fcSt
  cases hs : short (balF bs (FN bs ps cs)) fl with
  | none =>
    walk_at "go"
    refine ⟨_, rfl, ?_⟩
    rw [if_neg (by decide)]
    exact ⟨cs, _, _, _, _, _, _, rfl, rfl, rfl, rfl, rfl, rfl, rfl, by rw [hs], rfl, hr, hs⟩
  | some t =>
    obtain ⟨z, hz, hlt⟩ := short_some hs
    have hs' := hs
    obtain ⟨⟨s, x⟩, hmem, e1⟩ := List.mem_map.mp hz
    cases e1
    have hsn : s ∈ bs.map (·.1) := List.mem_map.mpr ⟨_, hmem, rfl⟩
    have hvs := val_get h.nd hmem
    have hfs := hf s x hvs
    have hne : GN ps cs s ≠ [] := fun y => by
      have := net_nil ha y
      have h1 : FN bs ps cs s = x + net ps cs s := by
        unfold FN f0
        rw [hvs]
        rfl
      have hlt : FN bs ps cs s < (val fl s).getD 0 := hlt
      omega
    obtain ⟨l, i, hli⟩ : ∃ l i, GN ps cs s = l ++ [i] := by
      rcases List.eq_nil_or_concat (GN ps cs s) with y | ⟨l, i, y⟩
      · exact absurd y hne
      · exact ⟨l, i, by rw [y, List.concat_eq_append]⟩
    obtain ⟨_, p, ep, ec, epy⟩ := plc_lt (show i ∈ plc ps cs s 0 by rw [show plc ps cs s 0 = l ++ [i] from hli]; simp)
    rw [Nat.sub_zero] at ep ec
    obtain ⟨j, hj⟩ := idx_some hsn
    have hms := many_set ec
    walk_at "go"
    refine ⟨_, rfl, ?_⟩
    unfold optS
    dsimp only
    rw [if_pos rfl]
    refine ⟨many (cs.set i false), by rw [← hm, hms], ?_⟩
    obtain ⟨key, payer, payee, am⟩ := p
    have hpp := List.mem_of_getElem? ep
    have pok := hp _ hpp
    have epy : payer = s := epy
    subst epy
    have n3 : payer ≠ payee := pok.2.2
    have il : i < ps.length := (List.getElem?_eq_some_iff.mp ep).1
    have c0 := h.c0
    have cq := h.cq
    have ol := (List.getElem?_eq_some_iff.mp c0).1
    have ql := (List.getElem?_eq_some_iff.mp cq).1
    have cqF : ∀ F G, (FS S bs F G)[q]? = some (.bx (.lst (ps.map paD))) := fun F G => (fs_old ql).trans cq
    have c0F : ∀ F G, (FS S bs F G)[o]? = some (.ins "Clearing" (clFs b f q k)) := fun F G => (fs_old ol).trans c0
    have hD := fs_dct (S := S) (bs := bs) (F := FN bs ps cs) (G := GN ps cs)
    have hP := fs_plc (S := S) (bs := bs) (F := FN bs ps cs) (G := GN ps cs) hj
    have vD : Mi.dVal (pkv bs (S.length + 1)) (.inr payer) = some (.ob (S.length + 1 + j)) := by rw [dVal_pkv, hj]; rfl
    unfold fcB fcP
    unfold plD at hP
    rw [Nat.add_assoc] at hD hP vD
    rw [hli, List.map_append] at hP
    walk_at "go"
    refine ⟨_, vD, _, Mi.ownB_ob (st := ⟨_, _, FS S bs (FN bs ps cs) (GN ps cs)⟩) hP, _, Mi.ownB_ob (st := ⟨_, _, FS S bs (FN bs ps cs) (GN ps cs)⟩) hP, _, pop_snoc rfl, _, rfl, ?_⟩
    have hS : (FS S bs (FN bs ps cs) (GN ps cs)).set (S.length + (1 + j)) (.bx (.lst (List.map (fun (i : Nat) => Mi.D.int (i : Int)) l))) = FS S bs (FN bs ps cs) (upd (GN ps cs) payer l) := by
      rw [← Nat.add_assoc, ← fs_setP h.nd hj]
      rfl
    dsimp only
    rw [hS]
    clear hS hP hD
    have hG : upd (GN ps cs) payer l = GN ps (cs.set i false) := by
      funext t
      have := plc_last (t := t) (show plc ps cs payer 0 = l ++ [i] from hli)
      rw [Nat.sub_zero] at this
      unfold upd GN
      rw [this]
    rw [hG]
    have hF : upd (upd (FN bs ps cs) payer (FN bs ps cs payer + am)) payee (FN bs ps cs payee - am) = FN bs ps (cs.set i false) := by
      funext t
      have := net_set (b := false) ep ec t
      unfold upd FN
      rw [this]
      unfold ef
      dsimp only
      by_cases c : t = payee
      · subst c
        rw [if_pos rfl, if_pos rfl, if_neg n3]
        simp
        omega
      · rw [if_neg c, if_neg (fun y : payee = t => c y.symm)]
        by_cases c2 : t = payer
        · subst c2
          rw [if_pos rfl, if_pos rfl]
          simp
          omega
        · rw [if_neg c2, if_neg (fun y : payer = t => c2 y.symm)]
          simp
    have ei : atI (ps.map paD) (i : Int) = some (paD ⟨key, payer, payee, am⟩) := atI_nat (by rw [List.getElem?_map, ep]; rfl)
    have c0' := c0F (FN bs ps cs) (GN ps (cs.set i false))
    walk_at "go"
    rw [Mi.peek_ob (st := ⟨_, _, FS S bs (FN bs ps cs) (GN ps (cs.set i false))⟩) (cqF _ _)]
    refine ⟨_, rfl, _, ei, ?_⟩
    unfold paD
    dsimp only
    walk_at "go"
    refine ⟨i, ixN_at (by rw [List.length_map, hcl]; exact il), ?_⟩
    have eC : (List.map Mi.D.bl cs).set i (.bl false) = List.map Mi.D.bl (cs.set i false) := by rw [List.map_set]
    rw [eC]
    have inv : ∀ st, st = wcSt o S bs fl ps (cs.set i false) x3 (some (.dat (.int (i : Int)))) (some (.dat (.str key))) (some (.dat (.str payer))) (some (.dat (.str payee))) (some (.dat (.int am))) → invWc o S bs fl ps (many (cs.set i false)) st := fun st e => ⟨cs.set i false, x3, _, _, _, _, _, e, .step hr hs' hli, rfl⟩
    unfold wcSt at inv
    have fsh := find_short_eq (c0F (FN bs ps (cs.set i false)) (GN ps (cs.set i false))) ((fs_old (List.getElem?_eq_some_iff.mp h.cf).1).trans h.cf) fs_bal (by have := (List.getElem?_eq_some_iff.mp h.cf).1; omega) (by rw [← h.nm]; unfold balF; rw [List.map_map]; rfl) (by unfold balF; rw [List.map_map]; exact h.nd)
    rw [← hF] at inv fsh
    generalize GN ps (cs.set i false) = G at inv fsh c0' ⊢
    generalize FN bs ps cs = F at inv fsh c0' ⊢
    have hB := fs_bal (S := S) (bs := bs) (F := F) (G := G)
    have vB : Mi.dVal (bkv (balF bs F)) (.inr payer) = some (.int (F payer)) := by rw [dVal_bkv, val_balF pok.1]; rfl
    have blen : ∀ F, (bkv (balF bs F)).length < sizeLine := fun F => Nat.lt_of_le_of_lt (show _ ≤ 6 by rw [bkv_len]; unfold balF; rw [List.length_map]; exact h.l6) (by decide)
    walk_at "go"
    refine ⟨_, vB, .int (F payer + am), Mi.add_ii, _, Mi.ownB_ob (st := ⟨_, _, FS S bs F G⟩) hB, blen _, ?_⟩
    rw [dPut_bkv (val_balF pok.1), updB_balF, fs_setB]
    have hB2 := fs_bal (S := S) (bs := bs) (F := upd F payer (F payer + am)) (G := G)
    have vB2 : Mi.dVal (bkv (balF bs (upd F payer (F payer + am)))) (.inr payee) = some (.int (F payee)) := by
      rw [dVal_bkv, val_balF pok.2.1]
      unfold upd
      rw [if_neg (Ne.symm pok.2.2)]
      rfl
    walk_at "go"
    refine ⟨_, vB2, .int (F payee - am), Mi.sub_ii, _, Mi.ownB_ob (st := ⟨_, _, FS S bs (upd F payer (F payer + am)) G⟩) hB2, blen _, ?_⟩
    rw [dPut_bkv (val_balF pok.2.1), updB_balF, fs_setB]
    have c0'' := c0F (upd (upd F payer (F payer + am)) payee (F payee - am)) G
    walk_at "go"
    refine Mi.rp_callIs fsh rfl rfl ?_
    walk_at "go"
    exact inv _ (by unfold fcSt fcB fcP; rw [Nat.add_assoc])
end

--== cut
/-! ### a choice, whole -/
section
variable {S : List Mi.Ob} {o b f q k : Nat} {bs fl : Bal} {ps : List Pa} {ks : List Str}
theorem rep_true : ∀ n : Nat, List.flatten (List.replicate n [Mi.D.bl true]) = (tr n).map Mi.D.bl
  | 0 => rfl
  | n + 1 => by
    rw [List.replicate_succ, List.flatten_cons, rep_true n]
    rfl
theorem find_choice_eq (h : Cl S o b f q k bs fl ps ks) (hp : ∀ p ∈ ps, PaOk bs p) (ha : ∀ p ∈ ps, 0 ≤ p.amount) (hf : ∀ s z, val bs s = some z → (val fl s).getD 0 ≤ z) (hl : ps.length < 100) : ∃ cs, m_Clearing_find_choice [.dat (.ob o)] [] S = .ok (.dat (.tup [.lst (cs.map Mi.D.bl), .ob S.length])) [] (FS S bs (FN bs ps cs) (GN ps cs)) ∧ Rch bs fl ps cs ∧ short (balF bs (FN bs ps cs)) fl = none := by
  have : ∃ d io' S', m_Clearing_find_choice [.dat (.ob o)] [] S = .ok (.dat d) io' S' ∧ ∃ cs, d = .tup [.lst (cs.map Mi.D.bl), .ob S.length] ∧ io' = [] ∧ S' = FS S bs (FN bs ps cs) (GN ps cs) ∧ Rch bs fl ps cs ∧ short (balF bs (FN bs ps cs)) fl = none := by
    refine Mi.all_run ?_
    have c0 := h.c0
    have cq := h.cq
    have ol := (List.getElem?_eq_some_iff.mp c0).1
    have ql := (List.getElem?_eq_some_iff.mp cq).1
    have cqF : ∀ F G, (FS S bs F G)[q]? = some (.bx (.lst (ps.map paD))) := fun F G => (fs_old ql).trans cq
    have c0F : ∀ F G, (FS S bs F G)[o]? = some (.ins "Clearing" (clFs b f q k)) := fun F G => (fs_old ol).trans c0
    show Mi.Rp (b_Clearing_find_choice (fcSt o none none none none none none none none none none S)) _ _
    unfold b_Clearing_find_choice
    refine fc_begin h fun x3 => ?_
    refine Mi.rp_cut (fun st => ∃ x3 x4 x5 x6 x7 x8, st = fcSt o (fcB S) (fcP S bs) x3 x4 x5 x6 x7 x8 none none (FS S bs (FN bs ps (tr ps.length)) (GN ps (tr ps.length)))) ?_ ?_
    · exact Mi.sqW (fc_loop1 h hp x3)
    intro st g
    clear x3
    obtain ⟨x3, x4, x5, x6, x7, x8, rfl⟩ := g
    refine Mi.rp_cut (fun st => st = fcSt o (fcB S) (fcP S bs) x3 x4 x5 x6 x7 x8 (some (.own (.lst ((tr ps.length).map Mi.D.bl)))) none (FS S bs (FN bs ps (tr ps.length)) (GN ps (tr ps.length)))) ?_ ?_
    · have c0' := c0F (FN bs ps (tr ps.length)) (GN ps (tr ps.length))
      unfold fcSt
      walk_at "go"
      rw [Mi.peek_ob (st := ⟨_, _, FS S bs (FN bs ps (tr ps.length)) (GN ps (tr ps.length))⟩) (cqF _ _)]
      refine ⟨_, rfl, _, rfl, _, rfl, _, ?_, rfl⟩
      unfold Mi.fRepL
      dsimp only
      have hle : 1 * ps.length ≤ sizeLine := Nat.le_trans (show _ ≤ 100 by omega) (by decide)
      rw [List.length_map, Int.toNat_natCast, if_pos ⟨by omega, by omega, hle⟩, rep_true]
    intro st g
    subst g
    refine Mi.rp_cut (fun st => st = wcSt o S bs fl ps (tr ps.length) x3 x4 x5 x6 x7 x8) ?_ ?_
    · have c0' := c0F (FN bs ps (tr ps.length)) (GN ps (tr ps.length))
      have fsh := find_short_eq (xs := balF bs (FN bs ps (tr ps.length))) c0' ((fs_old (List.getElem?_eq_some_iff.mp h.cf).1).trans h.cf) fs_bal (by have := (List.getElem?_eq_some_iff.mp h.cf).1; omega) (by rw [← h.nm]; unfold balF; rw [List.map_map]; rfl) (by unfold balF; rw [List.map_map]; exact h.nd)
      unfold wcSt fcSt fcB fcP
      walk_at "go"
      refine Mi.rp_callIs fsh rfl rfl ?_
      walk_at "go"
    intro st g
    subst g
    refine Mi.rp_cut (fun st => ∃ cs x3 x4 x5 x6 x7 x8, st = wcSt o S bs fl ps cs x3 x4 x5 x6 x7 x8 ∧ Rch bs fl ps cs ∧ short (balF bs (FN bs ps cs)) fl = none) ?_ ?_
    · exact Mi.sqW (fc_loop2 h hp ha hf _ .all hl x3 x4 x5 x6 x7 x8)
    intro st g
    clear x3 x4 x5 x6 x7 x8
    obtain ⟨cs, x3, x4, x5, x6, x7, x8, rfl, hr, hs⟩ := g
    unfold wcSt fcSt fcB
    walk_at "go"
    exact ⟨cs, rfl, rfl, hr, hs⟩
  obtain ⟨_, _, _, e, cs, rfl, rfl, rfl, h⟩ := this
  exact ⟨cs, e, h⟩
end

--== cut
/-! ### settle -/
def pick : List Pa → List Bool → Bool → List Pa
  | p :: ps, c :: cs, b => if c = b then p :: pick ps cs b else pick ps cs b
  | _, _, _ => []
theorem pick_snoc {p : Pa} {c b : Bool} : ∀ {ps : List Pa} {cs : List Bool}, cs.length = ps.length → pick (ps ++ [p]) (cs ++ [c]) b = pick ps cs b ++ (if c = b then [p] else [])
  | [], [], _ => by simp [pick]
  | [], c :: cs, h => by cases h
  | q :: ps, [], h => by cases h
  | q :: ps, d :: cs, h => by
    rw [List.cons_append, List.cons_append, pick, pick, pick_snoc (ps := ps) (cs := cs) (Nat.succ.inj h)]
    split
    · rw [List.cons_append]
    · rfl
theorem pick_len {b : Bool} : ∀ {ps : List Pa} {cs : List Bool}, (pick ps cs b).length ≤ ps.length
  | [], _ => by simp [pick]
  | p :: ps, [] => by simp [pick]
  | p :: ps, c :: cs => by
    have := pick_len (b := b) (ps := ps) (cs := cs)
    rw [pick]
    split
    · rw [List.length_cons, List.length_cons]; omega
    · rw [List.length_cons]; omega
def seSt (o j : Nat) (cs : List Bool) (x3 x4 x5 : Option Mi.SV) (S : List Mi.Ob) : Mi.St := ⟨[some (.dat (.ob o)), some (.dat (.lst (cs.map Mi.D.bl))), some (.dat (.ob j)), x3, x4, x5], [], S⟩
def invSe (o j : Nat) (ps : List Pa) (cs : List Bool) (b : Bool) (x3 : Option Mi.SV) (S : List Mi.Ob) : List Mi.D → List Mi.D → Mi.St → Prop := fun r acc st => ∃ (dn us : List Pa) (dc uc : List Bool) (x4 x5 : Option Mi.SV), st = seSt o j cs x3 x4 x5 S ∧ ps = dn ++ us ∧ cs = dc ++ uc ∧ dc.length = dn.length ∧ r = Mi.zipD (us.map paD) (uc.map Mi.D.bl) ∧ acc = (pick dn dc b).map paD
theorem rp_ok {α : Type} {r : Mi.R α} {a : α} {st : Mi.St} (h : Mi.Rp r (fun x s => x = a ∧ s = st) (fun _ _ => False)) : r = .ok a st := by
  cases r with
  | ok x s => obtain ⟨rfl, rfl⟩ := h; rfl
  | err x s => exact h.elim
  | stuck => exact h.elim
theorem se_lcT {T : List Mi.Ob} {o b f q k j : Nat} {ps : List Pa} {cs : List Bool} (c0 : T[o]? = some (.ins "Clearing" (clFs b f q k))) (cq : T[q]? = some (.bx (.lst (ps.map paD)))) (hcl : cs.length = ps.length) (hl : ps.length < 100) (x3 : Option Mi.SV) {kx : Mi.BX → Mi.St → Prop} {e : Kv.Er → Mi.St → Prop} (hk : kx (.lst ((pick ps cs true).map paD)) (seSt o j cs x3 none none T)) : Mi.Rp (Mi.mLc [4, 5] (Mi.mIZip (Mi.mCons (Mi.mFld "Clearing" "_queue" (Mi.mVar 0)) (Mi.mCons (Mi.mVar 1) (Mi.M.pure [])))) (Mi.mgTup 2 (Mi.mgCons (Mi.mgName 4) (Mi.mgCons (Mi.mgName 5) Mi.mgNil))) (Mi.mB (Mi.mVar 5)) (Mi.mVar 4) (seSt o j cs x3 none none T)) kx e := by
  have pq : ∀ st : Mi.St, st.S = T → Mi.peek st (.dat (.ob q)) = some (.lst (ps.map paD)) := fun st y => Mi.peek_ob (by rw [y]; exact cq)
  refine Mi.rp_lc_zip (a := .dat (.ob q)) (b := .dat (.lst (cs.map Mi.D.bl))) (xs := ps.map paD) (ys := cs.map Mi.D.bl) (st0 := seSt o j cs x3 none none T) (invSe o j ps cs true x3 T) (rp_ok ?_) rfl rfl (pq _ rfl) rfl ⟨[], ps, [], cs, none, none, rfl, rfl, rfl, rfl, rfl, rfl⟩ ?_ ?_ ?_
  · unfold seSt
    walk_at "go"
  · intro r acc st g
    obtain ⟨dn, us, dc, uc, x4, x5, rfl, _⟩ := g
    exact ⟨pq _ rfl, rfl⟩
  · intro d r acc st g
    obtain ⟨dn, us, dc, uc, x4, x5, rfl, he, hc, hd, hr, rfl⟩ := g
    cases us with
    | nil => cases hr
    | cons p us =>
    cases uc with
    | nil => cases hr
    | cons c uc =>
    cases hr
    unfold seSt
    walk_at "go"
    have hln : (List.map paD (pick dn dc true)).length < sizeLine := by
      have := pick_len (b := true) (ps := dn) (cs := dc)
      have e1 := congrArg List.length he
      rw [List.length_append] at e1
      rw [List.length_map]
      exact Nat.lt_of_le_of_lt (show _ ≤ 100 by omega) (by decide)
    cases c with
    | true => exact ⟨hln, dn ++ [p], us, dc ++ [true], uc, _, _, rfl, by simp [he], by simp [hc], by simp [hd], rfl, by rw [pick_snoc hd, if_pos rfl, List.map_append]; rfl⟩
    | false => exact ⟨dn ++ [p], us, dc ++ [false], uc, _, _, rfl, by simp [he], by simp [hc], by simp [hd], rfl, by rw [pick_snoc hd, if_neg (by decide), List.append_nil]⟩
  · intro acc st g
    obtain ⟨dn, us, dc, uc, x4, x5, rfl, he, hc, hd, hr, rfl⟩ := g
    have e1 := congrArg List.length he
    have e2 := congrArg List.length hc
    rw [List.length_append] at e1 e2
    cases us with
    | cons p us =>
      cases uc with
      | cons c uc => cases hr
      | nil => rw [List.length_cons] at e1; rw [List.length_nil] at e2; omega
    | nil =>
    cases uc with
    | cons c uc => rw [List.length_cons] at e2; rw [List.length_nil] at e1; omega
    | nil =>
    rw [List.append_nil] at he hc
    subst he
    subst hc
    exact hk
theorem se_lcF {T : List Mi.Ob} {o b f q k j : Nat} {ps : List Pa} {cs : List Bool} (c0 : T[o]? = some (.ins "Clearing" (clFs b f q k))) (cq : T[q]? = some (.bx (.lst (ps.map paD)))) (hcl : cs.length = ps.length) (hl : ps.length < 100) (x3 : Option Mi.SV) {kx : Mi.BX → Mi.St → Prop} {e : Kv.Er → Mi.St → Prop} (hk : kx (.lst ((pick ps cs false).map paD)) (seSt o j cs x3 none none T)) : Mi.Rp (Mi.mLc [4, 5] (Mi.mIZip (Mi.mCons (Mi.mFld "Clearing" "_queue" (Mi.mVar 0)) (Mi.mCons (Mi.mVar 1) (Mi.M.pure [])))) (Mi.mgTup 2 (Mi.mgCons (Mi.mgName 4) (Mi.mgCons (Mi.mgName 5) Mi.mgNil))) (Mi.mNot (Mi.mB (Mi.mVar 5))) (Mi.mVar 4) (seSt o j cs x3 none none T)) kx e := by
  have pq : ∀ st : Mi.St, st.S = T → Mi.peek st (.dat (.ob q)) = some (.lst (ps.map paD)) := fun st y => Mi.peek_ob (by rw [y]; exact cq)
  refine Mi.rp_lc_zip (a := .dat (.ob q)) (b := .dat (.lst (cs.map Mi.D.bl))) (xs := ps.map paD) (ys := cs.map Mi.D.bl) (st0 := seSt o j cs x3 none none T) (invSe o j ps cs false x3 T) (rp_ok ?_) rfl rfl (pq _ rfl) rfl ⟨[], ps, [], cs, none, none, rfl, rfl, rfl, rfl, rfl, rfl⟩ ?_ ?_ ?_
  · unfold seSt
    walk_at "go"
  · intro r acc st g
    obtain ⟨dn, us, dc, uc, x4, x5, rfl, _⟩ := g
    exact ⟨pq _ rfl, rfl⟩
  · intro d r acc st g
    obtain ⟨dn, us, dc, uc, x4, x5, rfl, he, hc, hd, hr, rfl⟩ := g
    cases us with
    | nil => cases hr
    | cons p us =>
    cases uc with
    | nil => cases hr
    | cons c uc =>
    cases hr
    unfold seSt
    walk_at "go"
    have hln : (List.map paD (pick dn dc false)).length < sizeLine := by
      have := pick_len (b := false) (ps := dn) (cs := dc)
      have e1 := congrArg List.length he
      rw [List.length_append] at e1
      rw [List.length_map]
      exact Nat.lt_of_le_of_lt (show _ ≤ 100 by omega) (by decide)
    cases c with
    | true => exact ⟨dn ++ [p], us, dc ++ [true], uc, _, _, rfl, by simp [he], by simp [hc], by simp [hd], rfl, by rw [pick_snoc hd, if_neg (by decide), List.append_nil]⟩
    | false => exact ⟨hln, dn ++ [p], us, dc ++ [false], uc, _, _, rfl, by simp [he], by simp [hc], by simp [hd], rfl, by rw [pick_snoc hd, if_pos rfl, List.map_append]; rfl⟩
  · intro acc st g
    obtain ⟨dn, us, dc, uc, x4, x5, rfl, he, hc, hd, hr, rfl⟩ := g
    have e1 := congrArg List.length he
    have e2 := congrArg List.length hc
    rw [List.length_append] at e1 e2
    cases us with
    | cons p us =>
      cases uc with
      | cons c uc => cases hr
      | nil => rw [List.length_cons] at e1; rw [List.length_nil] at e2; omega
    | nil =>
    cases uc with
    | cons c uc => rw [List.length_cons] at e2; rw [List.length_nil] at e1; omega
    | nil =>
    rw [List.append_nil] at he hc
    subst he
    subst hc
    exact hk
section
variable {S : List Mi.Ob} {o b f q k : Nat} {bs fl : Bal} {ps : List Pa} {ks : List Str}
theorem settle_eq2 (h : Cl S o b f q k bs fl ps ks) (hp : ∀ p ∈ ps, PaOk bs p) (ha : ∀ p ∈ ps, 0 ≤ p.amount) (hf : ∀ s z, val bs s = some z → (val fl s).getD 0 ≤ z) (hl : ps.length < 100) : ∃ cs b' q' S', m_Clearing_settle [.dat (.ob o)] [] S = .ok (.new (.lst ((pick ps cs true).map paD))) [] S' ∧ Cl S' o b' f q' k (balF bs (FN bs ps cs)) fl (pick ps cs false) ks ∧ (Rch bs fl ps cs ∧ short (balF bs (FN bs ps cs)) fl = none) ∧ (∀ i x, i < S.length → S[i]? = some x → i ≠ o → S'[i]? = some x) ∧ S.length ≤ q' := by
  obtain ⟨cs, efc, hr, hs⟩ := find_choice_eq h hp ha hf hl
  have : ∃ S', m_Clearing_settle [.dat (.ob o)] [] S = .ok (.new (.lst ((pick ps cs true).map paD))) [] S' ∧ ∃ b' q', Cl S' o b' f q' k (balF bs (FN bs ps cs)) fl (pick ps cs false) ks ∧ (∀ i x, i < S.length → S[i]? = some x → i ≠ o → S'[i]? = some x) ∧ S.length ≤ q' := by
    refine Mi.run_vN (P := fun X => ∃ S', X = .ok (.new (.lst ((pick ps cs true).map paD))) [] S' ∧ ∃ b' q', Cl S' o b' f q' k (balF bs (FN bs ps cs)) fl (pick ps cs false) ks ∧ (∀ i x, i < S.length → S[i]? = some x → i ≠ o → S'[i]? = some x) ∧ S.length ≤ q') ?_
    have c0 := h.c0
    have cq := h.cq
    have ol := (List.getElem?_eq_some_iff.mp c0).1
    have ql := (List.getElem?_eq_some_iff.mp cq).1
    have cqF := (fs_old (S := S) (bs := bs) (F := FN bs ps cs) (G := GN ps cs) ql).trans cq
    have c0F := (fs_old (S := S) (bs := bs) (F := FN bs ps cs) (G := GN ps cs) ol).trans c0
    have hcl := hr.len
    unfold b_Clearing_settle
    walk_at "go"
    refine Mi.rp_callIs efc rfl rfl ?_
    have hTl : S.length < (FS S bs (FN bs ps cs) (GN ps cs)).length := (List.getElem?_eq_some_iff.mp (fs_bal (S := S) (bs := bs) (F := FN bs ps cs) (G := GN ps cs))).1
    have hB := fs_bal (S := S) (bs := bs) (F := FN bs ps cs) (G := GN ps cs)
    have hO : ∀ i, i < S.length → (FS S bs (FN bs ps cs) (GN ps cs))[i]? = S[i]? := fun i => fs_old
    generalize FS S bs (FN bs ps cs) (GN ps cs) = T at hTl hB hO cqF c0F ⊢
    walk_at "go"
    refine se_lcT c0F cqF hcl hl none ?_
    walk_at "go"
    refine se_lcF c0F cqF hcl hl _ ?_
    have oT : o < T.length := (List.getElem?_eq_some_iff.mp c0F).1
    have c1 : (T ++ [Mi.Ob.bx (.lst ((pick ps cs false).map paD))])[o]? = some (.ins "Clearing" (clFs b f q k)) := by rw [List.getElem?_append_left oT]; exact c0F
    unfold seSt
    walk_at "go"
    refine ⟨o, clFs b f T.length k, Mi.obF_of (List.getElem?_set_self (List.getElem?_eq_some_iff.mp c1).1), (show 4 < 1000 by decide), S.length, T.length, ?_⟩
    rw [List.set_set]
    show Cl ((T ++ [Mi.Ob.bx (.lst ((pick ps cs false).map paD))]).set o (.ins "Clearing" (clFs S.length f T.length k))) _ _ _ _ _ _ _ _ _ ∧ (∀ i x, i < S.length → S[i]? = some x → i ≠ o → ((T ++ [Mi.Ob.bx (.lst ((pick ps cs false).map paD))]).set o (.ins "Clearing" (clFs S.length f T.length k)))[i]? = some x) ∧ _
    have low : ∀ i x, i < S.length → S[i]? = some x → i ≠ o → ((T ++ [Mi.Ob.bx (.lst ((pick ps cs false).map paD))]).set o (.ins "Clearing" (clFs S.length f T.length k)))[i]? = some x := by
      intro i x il hx hne
      rw [List.getElem?_set_ne (Ne.symm hne), List.getElem?_append_left (by omega), hO i il]
      exact hx
    have fl' := (List.getElem?_eq_some_iff.mp h.cf).1
    have kl' := (List.getElem?_eq_some_iff.mp h.ck).1
    refine ⟨?_, low, by omega⟩
    refine ⟨?_, ?_, ?_, ?_, ?_, ?_, ?_, h.n3, ?_, ?_, ?_, ?_, h.lk⟩
    · exact List.getElem?_set_self (List.getElem?_eq_some_iff.mp c1).1
    · rw [List.getElem?_set_ne (by omega), List.getElem?_append_left hTl]
      exact hB
    · exact low f _ fl' h.cf (fun z => by have := h.cf; rw [z, c0] at this; cases this)
    · rw [List.getElem?_set_ne (by omega), List.getElem?_append_right (Nat.le_refl _), Nat.sub_self]
      rfl
    · exact low k _ kl' h.ck (fun z => by have := h.ck; rw [z, c0] at this; cases this)
    · omega
    · omega
    · rw [← h.nm]; unfold balF; rw [List.map_map]; rfl
    · unfold balF; rw [List.map_map]; exact h.nd
    · unfold balF; rw [List.length_map]; exact h.l6
    · have := pick_len (b := false) (ps := ps) (cs := cs)
      have := h.lq
      omega
  obtain ⟨S', e, b', q', h', hlow, hq⟩ := this
  exact ⟨cs, b', q', S', e, h', ⟨hr, hs⟩, hlow, hq⟩
theorem settle_eq (h : Cl S o b f q k bs fl ps ks) (hp : ∀ p ∈ ps, PaOk bs p) (ha : ∀ p ∈ ps, 0 ≤ p.amount) (hf : ∀ s z, val bs s = some z → (val fl s).getD 0 ≤ z) (hl : ps.length < 100) : ∃ cs b' q' S', m_Clearing_settle [.dat (.ob o)] [] S = .ok (.new (.lst ((pick ps cs true).map paD))) [] S' ∧ Cl S' o b' f q' k (balF bs (FN bs ps cs)) fl (pick ps cs false) ks ∧ Rch bs fl ps cs ∧ short (balF bs (FN bs ps cs)) fl = none := by
  obtain ⟨cs, b', q', S', e, h', hr, _⟩ := settle_eq2 h hp ha hf hl
  exact ⟨cs, b', q', S', e, h', hr⟩
end

--== cut
/-! ### members, and what stays -/
section
variable {S : List Mi.Ob} {o b f q k : Nat} {bs fl : Bal} {ps : List Pa} {ks : List Str}
theorem cl_set {n : Nat} {x : Mi.Ob} (hn : n < S.length) : (S.set n x)[n]? = some x := List.getElem?_set_self hn
theorem Cl.ob (h : Cl S o b f q k bs fl ps ks) {b2 f2 q2 k2 : Nat} : o ≠ b ∧ o ≠ f ∧ o ≠ q ∧ o ≠ k := by
  have c0 := h.c0
  refine ⟨fun z => ?_, fun z => ?_, fun z => ?_, fun z => ?_⟩
  · rw [z, h.cb] at c0; cases c0
  · rw [z, h.cf] at c0; cases c0
  · rw [z, h.cq] at c0; cases c0
  · rw [z, h.ck] at c0; cases c0
theorem Cl.nq (h : Cl S o b f q k bs fl ps ks) : q ≠ b ∧ q ≠ f ∧ q ≠ k := by
  have cq := h.cq
  refine ⟨fun z => ?_, fun z => ?_, fun z => ?_⟩
  · rw [z, h.cb] at cq; cases cq
  · rw [z, h.cf] at cq; cases cq
  · rw [z, h.ck] at cq; cases cq
theorem Cl.bal (h : Cl S o b f q k bs fl ps ks) {bs' : Bal} (e : bs'.map (·.1) = bs.map (·.1)) : Cl (S.set b (.bx (.dct (bkv bs')))) o b f q k bs' fl ps ks := by
  have ⟨a1, a2, a3, a4⟩ := h.ob (b2 := 0) (f2 := 0) (q2 := 0) (k2 := 0)
  have ⟨d1, d2, d3⟩ := h.nq
  have bl := (List.getElem?_eq_some_iff.mp h.cb).1
  refine ⟨?_, cl_set bl, ?_, ?_, ?_, h.n1, h.n2, h.n3, e.trans h.nm, by rw [e]; exact h.nd, ?_, h.lq, h.lk⟩
  · rw [List.getElem?_set_ne (Ne.symm a1)]; exact h.c0
  · rw [List.getElem?_set_ne h.n1]; exact h.cf
  · rw [List.getElem?_set_ne (Ne.symm d1)]; exact h.cq
  · rw [List.getElem?_set_ne h.n2]; exact h.ck
  · have := congrArg List.length e
    rw [List.length_map, List.length_map] at this
    have := h.l6
    omega
theorem Cl.sub (h : Cl S o b f q k bs fl ps ks) (p : Pa) (hl : ps.length < 100) (hk : ks.length < 100) : Cl (subS S q k ps ks p) o b f q k bs fl (ps ++ [p]) (ks ++ [p.key]) := by
  have ⟨a1, a2, a3, a4⟩ := h.ob (b2 := 0) (f2 := 0) (q2 := 0) (k2 := 0)
  have ⟨d1, d2, d3⟩ := h.nq
  have ql := (List.getElem?_eq_some_iff.mp h.cq).1
  have kl := (List.getElem?_eq_some_iff.mp h.ck).1
  unfold subS
  refine ⟨?_, ?_, ?_, ?_, ?_, h.n1, h.n2, h.n3, h.nm, h.nd, h.l6, ?_, ?_⟩
  · rw [List.getElem?_set_ne (Ne.symm a3), List.getElem?_set_ne (Ne.symm a4)]; exact h.c0
  · rw [List.getElem?_set_ne d1, List.getElem?_set_ne (Ne.symm h.n2)]; exact h.cb
  · rw [List.getElem?_set_ne d2, List.getElem?_set_ne (Ne.symm h.n3)]; exact h.cf
  · exact cl_set (by rw [List.length_set]; exact ql)
  · rw [List.getElem?_set_ne d3]; exact cl_set kl
  · rw [List.length_append, List.length_singleton]; omega
  · rw [List.length_append, List.length_singleton]; omega
def addS (S : List Mi.Ob) (b f : Nat) (bs fl : Bal) (s : Str) (z : Int) : List Mi.Ob := (S.set b (.bx (.dct (bkv (bs ++ [(s, 0)]))))).set f (.bx (.dct (bkv (fl ++ [(s, z)]))))
theorem val_none {b : Bal} {s : Str} (h : ¬ s ∈ b.map (·.1)) : val b s = none := by
  cases e : val b s with
  | none => rfl
  | some x => exact absurd (val_mem.mp (by rw [e]; rfl)) h
theorem Cl.add (h : Cl S o b f q k bs fl ps ks) {s : Str} (hs : ¬ s ∈ bs.map (·.1)) (z : Int) (h6 : bs.length < 6) : Cl (addS S b f bs fl s z) o b f q k (bs ++ [(s, 0)]) (fl ++ [(s, z)]) ps ks := by
  have ⟨a1, a2, a3, a4⟩ := h.ob (b2 := 0) (f2 := 0) (q2 := 0) (k2 := 0)
  have ⟨d1, d2, d3⟩ := h.nq
  have bl := (List.getElem?_eq_some_iff.mp h.cb).1
  have fl' := (List.getElem?_eq_some_iff.mp h.cf).1
  unfold addS
  refine ⟨?_, ?_, ?_, ?_, ?_, h.n1, h.n2, h.n3, ?_, ?_, ?_, h.lq, h.lk⟩
  · rw [List.getElem?_set_ne (Ne.symm a2), List.getElem?_set_ne (Ne.symm a1)]; exact h.c0
  · rw [List.getElem?_set_ne (Ne.symm h.n1)]; exact cl_set bl
  · exact cl_set (by rw [List.length_set]; exact fl')
  · rw [List.getElem?_set_ne (Ne.symm d2), List.getElem?_set_ne (Ne.symm d1)]; exact h.cq
  · rw [List.getElem?_set_ne h.n3, List.getElem?_set_ne h.n2]; exact h.ck
  · rw [List.map_append, List.map_append, h.nm]; rfl
  · rw [List.map_append]
    refine List.nodup_append.mpr ⟨h.nd, by simp, fun x hx y hy => ?_⟩
    rw [List.map_singleton, List.mem_singleton] at hy
    subst hy
    intro z
    subst z
    exact hs hx
  · rw [List.length_append, List.length_singleton]; omega
theorem add_member_eq (h : Cl S o b f q k bs fl ps ks) {l : List Nat} (hn : NmOk l) {z : Int} (hz : -1000000000 ≤ z ∧ z ≤ 0) (hs : ¬ SX.S l ∈ bs.map (·.1)) (h6 : bs.length < 6) : m_Clearing_add_member [.dat (.ob o), .dat (.str (SX.S l)), .dat (.int z)] [] S = .ok (.dat .non) [] (addS S b f bs fl (SX.S l) z) := by
  have c0 := h.c0
  have cb := h.cb
  have cf := h.cf
  have ec : m_check_name [.dat (.str (SX.S l))] [] S = .ok (.dat .non) [] S := by rw [check_name_eq (by have := hn.2.1; omega) S, if_pos hn]; rfl
  have v1 : Mi.dVal (bkv bs) (.inr (SX.S l)) = none := by rw [dVal_bkv, val_none hs]; rfl
  refine Mi.run_is ?_
  unfold b_Clearing_add_member
  walk_at "go"
  refine Mi.rp_callIs ec rfl rfl ?_
  walk_at "go"
  walk_at "if"
  rw [if_pos hz.1, if_neg (not_not_intro hz.2)]
  walk_at "if"
  refine ⟨o, clFs b f q k, Mi.obF_of c0, .ob b, rfl, _, Mi.rdct_ob (st := ⟨_, _, S⟩) cb, ?_⟩
  rw [v1, if_neg (by decide)]
  walk_at "if"
  refine ⟨o, clFs b f q k, Mi.obF_of c0, .ob b, rfl, _, Mi.ownB_ob (st := ⟨_, _, S⟩) cb, ?_⟩
  rw [bkv_len, if_neg (by omega)]
  have bln : ∀ B : Bal, B.length ≤ 6 → (bkv B).length < sizeLine := fun B hB => Nat.lt_of_le_of_lt (show _ ≤ 6 by rw [bkv_len]; exact hB) (by decide)
  have hc := h.add (s := SX.S l) hs z h6
  have ⟨a1, a2, a3, a4⟩ := h.ob (b2 := 0) (f2 := 0) (q2 := 0) (k2 := 0)
  have c0b : (S.set b (.bx (.dct (bkv (bs ++ [(SX.S l, 0)])))))[o]? = some (.ins "Clearing" (clFs b f q k)) := by rw [List.getElem?_set_ne (Ne.symm a1)]; exact c0
  have cfb : (S.set b (.bx (.dct (bkv (bs ++ [(SX.S l, 0)])))))[f]? = some (.bx (.dct (bkv fl))) := by rw [List.getElem?_set_ne h.n1]; exact cf
  have p1 := dPut_new (val_none hs) 0
  have p2 := dPut_new (b := fl) (s := SX.S l) (val_none (by rw [← h.nm]; exact hs)) z
  walk_at "go"
  refine ⟨bln _ (by omega), ?_⟩
  have p1' : Mi.dPut (bkv bs) (Sum.inr (SX.S l)) (Mi.D.int 0) = bkv (bs ++ [(SX.S l, 0)]) := p1
  rw [p1']
  have lfl : fl.length ≤ 6 := by have := congrArg List.length h.nm; rw [List.length_map, List.length_map] at this; omega
  refine ⟨o, clFs b f q k, Mi.obF_of c0b, .ob f, rfl, _, Mi.ownB_ob (st := ⟨_, _, S.set b (.bx (.dct (bkv (bs ++ [(SX.S l, 0)]))))⟩) cfb, bln _ lfl, _, rfl, ?_⟩
  have p2' : Mi.dPut (bkv fl) (Sum.inr (SX.S l)) (Mi.D.int z) = bkv (fl ++ [(SX.S l, z)]) := p2
  dsimp only
  rw [p2']
  exact ⟨rfl, rfl⟩
end

--== cut
/-! ### the law's own: names -/
theorem cutS_to {a : List Nat} {i : Int} (h : 0 ≤ i) : cutS (SX.S a) none (some i) = SX.S (a.take i.toNat) := by rw [C8.cutS_slice, SX.slice_to h]
theorem nm_sz {l : List Nat} (h : l.length ≤ 100000) : (SX.S l).length ≤ sizeLine := by rw [SX.S_len]; exact szl h
def spare : List (List Nat) := [[97], [98], [99], [100], [101], [102], [103]]
theorem nm_take {c l : List Nat} {n : Nat} (hc : NmOk c) (hl : NmOk l) : NmOk ((c.take n ++ l).take 12) := by
  obtain ⟨c1, c2, ⟨x, hx, hx2⟩, c4⟩ := hc
  obtain ⟨l1, l2, ⟨y, hy, hy2⟩, l4⟩ := hl
  refine ⟨?_, ?_, ?_, ?_⟩
  · rw [List.length_take, List.length_append]; omega
  · rw [List.length_take]; omega
  · cases n with
    | zero =>
      rw [List.take_zero, List.nil_append]
      cases l with
      | nil => cases hy
      | cons a r => exact ⟨y, by simpa using hy, hy2⟩
    | succ n =>
      cases c with
      | nil => cases hx
      | cons a r => exact ⟨x, by simpa using hx, hx2⟩
  · intro z hz
    have hz := List.mem_of_mem_take hz
    rcases List.mem_append.mp hz with hz | hz
    · exact c4 z (List.mem_of_mem_take hz)
    · exact l4 z hz
theorem spare_ok : ∀ l ∈ spare, NmOk l := by decide +kernel
theorem spare_left {xs : List (List Nat)} (h : xs.length < 7) : ∃ a r, spare.filter (fun l => decide (l ∉ xs)) = a :: r := by
  cases e : spare.filter (fun l => decide (l ∉ xs)) with
  | cons a r => exact ⟨a, r, rfl⟩
  | nil =>
    rw [List.filter_eq_nil_iff] at e
    have hs : spare ⊆ xs := fun l hl => by have := e l hl; simpa using this
    have := List.Nodup.length_le_of_subset (l₁ := spare) (by decide +kernel) hs
    have e7 : spare.length = 7 := rfl
    omega
def sts (ts : List (List Nat)) : List Mi.D := ts.map fun f => Mi.D.str (SX.S f)
def nmSt (co : List Nat) (many : Int) (xs : List (List Nat)) (x4 x5 x6 : Option Mi.SV) (b : Mi.BX) (S : List Mi.Ob) : Mi.St := ⟨[some (.io 0), some (.dat (.int many)), some (.own (.lst (sts xs))), some (.dat (.str (SX.S co))), x4, x5, x6], [b], S⟩
theorem in_sts (b : Bool) (l : List Nat) (xs : List (List Nat)) : Mi.fIn b (.str (SX.S l)) (.lst (sts xs)) = some (.bl (if b = true then decide (l ∉ xs) else decide (l ∈ xs))) := by
  have e1 : sts xs = (xs.map SX.S).map Mi.D.str := by unfold sts; rw [List.map_map]; rfl
  have e2 : (SX.S l ∈ xs.map SX.S) = (l ∈ xs) := by
    refine propext ⟨fun h => ?_, fun h => List.mem_map_of_mem h⟩
    obtain ⟨y, hy, e⟩ := List.mem_map.mp h
    rw [← SX.S_inj e]
    exact hy
  rw [e1, Mi.in_strsL]
  simp only [e2]
  cases b <;> simp
def invSp (co : List Nat) (many : Int) (xs : List (List Nat)) (x4 x5 : Option Mi.SV) (b : Mi.BX) (S : List Mi.Ob) : List Mi.D → List Mi.D → Mi.St → Prop := fun r acc st => ∃ (dn us : List (List Nat)) (x6 : Option Mi.SV), st = nmSt co many xs x4 x5 x6 b S ∧ spare = dn ++ us ∧ r = sts us ∧ acc = sts (dn.filter (fun l => decide (l ∉ xs)))
theorem sp_lc {co : List Nat} {many : Int} {xs : List (List Nat)} {x4 x5 x6 : Option Mi.SV} {b : Mi.BX} {S : List Mi.Ob} {kx : Mi.BX → Mi.St → Prop} {e : Kv.Er → Mi.St → Prop} (hk : ∀ x6, kx (.lst (sts (spare.filter (fun l => decide (l ∉ xs))))) (nmSt co many xs x4 x5 x6 b S)) : Mi.Rp (Mi.mLc [6] (Mi.mIList (Mi.mFrz (Mi.mLst (Mi.mCons (Mi.mC (Mi.D.str (Str.ofString "a"))) (Mi.mCons (Mi.mC (Mi.D.str (Str.ofString "b"))) (Mi.mCons (Mi.mC (Mi.D.str (Str.ofString "c"))) (Mi.mCons (Mi.mC (Mi.D.str (Str.ofString "d"))) (Mi.mCons (Mi.mC (Mi.D.str (Str.ofString "e"))) (Mi.mCons (Mi.mC (Mi.D.str (Str.ofString "f"))) (Mi.mCons (Mi.mC (Mi.D.str (Str.ofString "g"))) (Mi.M.pure []))))))))))) (Mi.mgName 6) (Mi.mB (Mi.mPk (Mi.fIn true) (Mi.mVar 6) (Mi.mVar 2))) (Mi.mVar 6) (nmSt co many xs x4 x5 x6 b S)) kx e := by
  refine Mi.rp_lc_lst (a := .dat (.lst (sts spare))) (ds := sts spare) (st0 := nmSt co many xs x4 x5 x6 b S) (invSp co many xs x4 x5 b S) rfl rfl rfl ⟨[], spare, x6, rfl, rfl, rfl, rfl⟩ ?_ ?_ ?_
  · intro r acc st g
    rfl
  · intro d r acc st g
    obtain ⟨dn, us, x6, rfl, he, hr, rfl⟩ := g
    cases us with
    | nil => cases hr
    | cons u us =>
    cases hr
    unfold nmSt
    walk_at "go"
    rw [in_sts]
    have hln : (sts (dn.filter (fun l => decide (l ∉ xs)))).length < sizeLine := by
      have := congrArg List.length he
      rw [List.length_append, show spare.length = 7 from rfl] at this
      have h2 := List.length_filter_le (fun l => decide (l ∉ xs)) dn
      unfold sts
      rw [List.length_map]
      exact Nat.lt_of_le_of_lt (show _ ≤ 7 by omega) (by decide)
    refine ⟨_, rfl, _, rfl, ?_⟩
    rw [if_pos rfl]
    by_cases c : u ∈ xs
    · rw [if_neg (by simp [c])]
      exact ⟨dn ++ [u], us, _, rfl, by simp [he], rfl, by rw [List.filter_append]; simp [c]⟩
    · rw [if_pos (by simp [c])]
      refine ⟨hln, dn ++ [u], us, _, rfl, by simp [he], rfl, by rw [List.filter_append]; simp [c, sts]⟩
  · intro acc st g
    obtain ⟨dn, us, x6', rfl, he, hr, rfl⟩ := g
    cases us with
    | cons u us => cases hr
    | nil =>
    rw [List.append_nil] at he
    rw [he] at hk
    exact hk _
def invNs (co : List Nat) (many : Int) (S : List Mi.Ob) : Nat → Mi.St → Prop := fun i st => ∃ (xs : List (List Nat)) (x4 x5 x6 : Option Mi.SV) (b : Mi.BX), st = nmSt co many xs x4 x5 x6 b S ∧ Sr b ∧ xs.length = i ∧ (∀ l ∈ xs, NmOk l) ∧ xs.Nodup
theorem names_eq {b : Mi.BX} (hb : Sr b) {many : Int} (m0 : 0 ≤ many) (m6 : many ≤ 6) (S : List Mi.Ob) : ∃ xs b', m_L_names [.io 0, .dat (.int many)] [b] S = .ok (.new (.lst (sts xs))) [b'] S ∧ (xs.length : Int) = many ∧ (∀ l ∈ xs, NmOk l) ∧ xs.Nodup ∧ Sr b' := by
    refine Mi.run_vN (P := fun X => ∃ xs b', X = .ok (.new (.lst (sts xs))) [b'] S ∧ (xs.length : Int) = many ∧ (∀ l ∈ xs, NmOk l) ∧ xs.Nodup ∧ Sr b') ?_
    obtain ⟨c0, b1, e1, h1, hb1⟩ := name_eq hb S
    obtain ⟨n, b2, e2, n0, n1, hb2⟩ := pick_eq hb1 (many := 9) (by decide) (by decide) S
    unfold b_L_names
    walk_at "go"
    refine Mi.rp_callM e1 rfl rfl Mi.nod1 rfl rfl ?_
    walk_at "go"
    refine Mi.rp_callM e2 rfl rfl Mi.nod1 rfl rfl ?_
    walk_at "go"
    refine ⟨nm_sz (by have := h1.2.1; omega), ?_⟩
    rw [cutS_to n0]
    refine Mi.rp_cut (invNs (c0.take n.toNat) many S many.toNat) ?_ ?_
    · with_reducible refine Mi.rp_rng1 many (invNs (c0.take n.toNat) many S) ⟨by omega, by omega⟩ ?_ ?_ ?_
      · walk_at "go"
        exact ⟨[], none, none, none, b2, rfl, hb2, rfl, fun l hl => (by cases hl), List.nodup_nil⟩
      · intro i st him g
        obtain ⟨xs, x4, x5, x6, b3, rfl, hb3, hi, hok, hnd⟩ := g
        obtain ⟨l, b4, e4, h4, hb4⟩ := name_eq hb3 S
        unfold nmSt
        walk_at "go"
        refine Mi.rp_callM e4 rfl rfl Mi.nod1 rfl rfl ?_
        walk_at "go"
        have hc := nm_take (n := n.toNat) h1 h4
        have l1 : (c0.take n.toNat).length ≤ 12 := by have := h1.2.1; rw [List.length_take]; omega
        have l4 := h4.2.1
        refine ⟨by rw [SX.S_len, SX.S_len]; exact szl (by omega), by rw [SX.S_cat, SX.S_len, List.length_append]; exact szl (by omega), ?_⟩
        rw [SX.S_cat, cutS_to (by decide)]
        show Mi.Rp (Mi.mSeq _ _ (nmSt (c0.take n.toNat) many xs (some (.dat (.int (i : Int)))) (some (.dat (.str (SX.S ((c0.take n.toNat ++ l).take 12))))) x6 b4 S)) _ _
        generalize (c0.take n.toNat ++ l).take 12 = nw at hc ⊢
        refine Mi.rp_cut (fun st => ∃ nw x6, st = nmSt (c0.take n.toNat) many xs (some (.dat (.int (i : Int)))) (some (.dat (.str (SX.S nw)))) x6 b4 S ∧ NmOk nw ∧ ¬ nw ∈ xs) ?_ ?_
        · unfold nmSt
          walk_at "go"
          rw [in_sts]
          refine ⟨_, rfl, _, rfl, ?_⟩
          have sp : ∀ {ee : Kv.Er → Mi.St → Prop}, Mi.Rp (Mi.mLc [6] (Mi.mIList (Mi.mFrz (Mi.mLst (Mi.mCons (Mi.mC (Mi.D.str (Str.ofString "a"))) (Mi.mCons (Mi.mC (Mi.D.str (Str.ofString "b"))) (Mi.mCons (Mi.mC (Mi.D.str (Str.ofString "c"))) (Mi.mCons (Mi.mC (Mi.D.str (Str.ofString "d"))) (Mi.mCons (Mi.mC (Mi.D.str (Str.ofString "e"))) (Mi.mCons (Mi.mC (Mi.D.str (Str.ofString "f"))) (Mi.mCons (Mi.mC (Mi.D.str (Str.ofString "g"))) (Mi.M.pure []))))))))))) (Mi.mgName 6) (Mi.mB (Mi.mPk (Mi.fIn true) (Mi.mVar 6) (Mi.mVar 2))) (Mi.mVar 6) (nmSt (c0.take n.toNat) many xs (some (.dat (.int (i : Int)))) (some (.dat (.str (SX.S nw)))) x6 b4 S)) (fun b st1 => ∃ ds, b = Mi.BX.lst ds ∧ ∃ d, atI ds 0 = some d ∧ ∃ nw x6, st1.env.set 5 (some (Mi.SV.dat d)) = [some (Mi.SV.io 0), some (Mi.SV.dat (Mi.D.int many)), some (Mi.SV.own (Mi.BX.lst (sts xs))), some (Mi.SV.dat (Mi.D.str (SX.S (List.take n.toNat c0)))), some (Mi.SV.dat (Mi.D.int (i : Int))), some (Mi.SV.dat (Mi.D.str (SX.S nw))), x6] ∧ st1.io = [b4] ∧ st1.S = S ∧ NmOk nw ∧ ¬nw ∈ xs) ee := by
            refine sp_lc fun x6 => ?_
            obtain ⟨a, r, ea⟩ := spare_left (xs := xs) (by omega)
            have ha : a ∈ spare.filter (fun l => decide (l ∉ xs)) := by rw [ea]; simp
            rw [List.mem_filter] at ha
            rw [ea]
            exact ⟨_, rfl, _, Mi.atI_c0, a, x6, rfl, rfl, rfl, spare_ok a ha.1, by simpa using ha.2⟩
          by_cases c : nw ∈ xs
          · rw [if_pos (by simp [c])]
            exact sp
          · rw [if_neg (by simp [c])]
            by_cases c2 : SX.S nw = Str.ofString "clearing"
            · rw [if_pos c2]
              exact sp
            · rw [if_neg c2]
              exact ⟨nw, x6, rfl, rfl, hc, c⟩
        intro st g
        obtain ⟨nw, x6, rfl, hn, hx⟩ := g
        unfold nmSt
        walk_at "go"
        have esn : sts xs ++ [Mi.D.str (SX.S nw)] = sts (xs ++ [nw]) := by unfold sts; rw [List.map_append]; rfl
        rw [esn]
        refine ⟨Nat.lt_of_le_of_lt (show _ ≤ 7 by unfold sts; rw [List.length_map]; omega) (by decide), xs ++ [nw], _, _, _, b4, rfl, hb4, by simp [hi], fun l hl => ?_, ?_⟩
        · rcases List.mem_append.mp hl with hl | hl
          · exact hok l hl
          · rw [List.mem_singleton.mp hl]; exact hn
        · refine List.nodup_append.mpr ⟨hnd, by simp, fun x hx' y hy => ?_⟩
          rw [List.mem_singleton] at hy
          subst hy
          intro z
          subst z
          exact hx hx'
      · intro st g
        exact g
    intro st g
    obtain ⟨xs, x4, x5, x6, b3, rfl, hb3, hi, hok, hnd⟩ := g
    unfold nmSt
    walk_at "go"
    exact ⟨xs, b3, rfl, rfl, by omega, hok, hnd, hb3⟩

--== cut
/-! ### the law's own: units, two places, a key -/
theorem pairs_eq {b : Mi.BX} (hb : Sr b) {many : Int} (m0 : 2 ≤ many) (m6 : many ≤ 6) (S : List Mi.Ob) : ∃ x y b', m_L_pairs [.io 0, .dat (.int many)] [b] S = .ok (.dat (.lst [.int x, .int y])) [b'] S ∧ 0 ≤ x ∧ x < many ∧ 0 ≤ y ∧ y < many ∧ x ≠ y ∧ Sr b' := by
  have : ∃ d io', m_L_pairs [.io 0, .dat (.int many)] [b] S = .ok (.dat d) io' S ∧ ∃ x y b', d = .lst [.int x, .int y] ∧ io' = [b'] ∧ 0 ≤ x ∧ x < many ∧ 0 ≤ y ∧ y < many ∧ x ≠ y ∧ Sr b' := by
    refine Mi.gen_run ?_
    obtain ⟨x, b1, e1, x0, x1, hb1⟩ := pick_eq hb (many := many) (by omega) (by omega) S
    obtain ⟨v, b2, e2, v0, v1, hb2⟩ := pick_eq hb1 (many := many - 1) (by omega) (by omega) S
    unfold b_L_pairs
    walk_at "go"
    refine Mi.rp_callM e1 rfl rfl Mi.nod1 rfl rfl ?_
    walk_at "go"
    refine Mi.rp_callM e2 rfl rfl Mi.nod1 rfl rfl ?_
    walk_at "go"
    have ym : ∀ m : Int, many = m → 0 ≤ (x + 1 + v) % m ∧ (x + 1 + v) % m < m ∧ x ≠ (x + 1 + v) % m := by
      intro m hm
      rcases (by omega : m = 2 ∨ m = 3 ∨ m = 4 ∨ m = 5 ∨ m = 6) with rfl | rfl | rfl | rfl | rfl <;> omega
    obtain ⟨y0, y1, y2⟩ := ym many rfl
    exact ⟨by omega, szl (by decide), x, _, b2, rfl, rfl, rfl, x0, x1, y0, y1, y2, hb2⟩
  obtain ⟨_, _, e, x, y, b', rfl, rfl, h⟩ := this
  exact ⟨x, y, b', e, h⟩
theorem S_ok {l : List Nat} (h : ∀ c ∈ l, c < 1114112) : PyData.strOk (SX.S l) = true := by
  unfold PyData.strOk
  rw [Array.all_eq_true']
  intro x hx
  have : x ∈ l := by simpa [SX.S] using hx
  exact decide_eq_true (h x this)
def TOk (t : Str) : Prop := t.length ≤ 100 ∧ PyData.strOk t = true
def kt (k : Nat) : List Nat := (Str.ofString (toString (k : Int))).cps.toList
theorem kt_S (k : Nat) : Str.ofString (toString (k : Int)) = SX.S (kt k) := rfl
theorem kt_ok : ∀ k : _root_.Fin 70, ∀ c ∈ kt k.val, c < 1114112 := by decide +kernel
theorem kt_len : ∀ k : _root_.Fin 70, (kt k.val).length ≤ 2 := by decide +kernel
def kext : List Nat := (Str.ofString "abcdefghijklmnopqrstuvwxyz0123456789 .,-!").cps.toList
theorem kext_S : Str.ofString "abcdefghijklmnopqrstuvwxyz0123456789 .,-!" = SX.S kext := rfl
theorem kext_ok : ∀ c ∈ kext, c < 1114112 := by decide +kernel
theorem kext_len : kext.length = 41 := by decide +kernel
theorem atI_map {α β : Type} {f : α → β} {l : List α} {i : Int} {c : α} (h : atI l i = some c) : atI (l.map f) i = some (f c) := by
  unfold atI at h ⊢
  rw [List.length_map]
  cases e : ixN l.length i with
  | none => rw [e] at h; cases h
  | some j =>
    rw [e] at h
    show (l.map f)[j]? = some (f c)
    rw [List.getElem?_map, show l[j]? = some c from h]
    rfl

--== cut
/-! ### the law's own: a payment drawn, what is due -/

--== cut
/-! ### data that compare well -/
def Nice (n : Nat) (d : Mi.D) : Prop := ∃ a : PyData, d.pd = some a ∧ a.canLay0 = true ∧ a.depth ≤ n ∧ PyData.eqv a a = true
theorem nice_mono {n m : Nat} {d : Mi.D} (h : Nice n d) (hm : n ≤ m) : Nice m d := by
  obtain ⟨a, h1, h2, h3, h4⟩ := h
  exact ⟨a, h1, h2, Nat.le_trans h3 hm, h4⟩
theorem nice_int (i : Int) : Nice 0 (.int i) := ⟨.int i, rfl, rfl, Nat.le_refl _, by simp [PyData.eqv]⟩
theorem nice_non : Nice 0 .non := ⟨.none, rfl, rfl, Nat.le_refl _, by simp [PyData.eqv]⟩
theorem nice_bl (b : Bool) : Nice 0 (.bl b) := ⟨.bool b, rfl, rfl, Nat.le_refl _, by simp [PyData.eqv]⟩
theorem nice_str {s : Str} (h : PyData.strOk s = true) : Nice 0 (.str s) := ⟨.str s, rfl, h, Nat.le_refl _, by simp [PyData.eqv]⟩
theorem nice_all {n : Nat} : ∀ ds : List Mi.D, (∀ d ∈ ds, Nice n d) → ∃ as, Mi.pdL ds = some as ∧ PyData.canLayAll0 as = true ∧ PyData.depthAll as ≤ n ∧ PyData.eqvAll as as = true ∧ as.length = ds.length
  | [], _ => ⟨[], by unfold Mi.pdL; rfl, rfl, Nat.zero_le _, rfl, rfl⟩
  | d :: r, h => by
    obtain ⟨a, h1, h2, h3, h4⟩ := h d List.mem_cons_self
    obtain ⟨as, g1, g2, g3, g4, g5⟩ := nice_all r fun x hx => h x (List.mem_cons_of_mem _ hx)
    refine ⟨a :: as, by unfold Mi.pdL; rw [h1, g1], by simp [PyData.canLayAll0, h2, g2], by simp only [PyData.depthAll]; omega, by simp [PyData.eqvAll, h4, g4], by simp [g5]⟩
theorem nice_tup {n : Nat} {ds : List Mi.D} (h : ∀ d ∈ ds, Nice n d) : Nice (n + 1) (.tup ds) := by
  obtain ⟨as, g1, g2, g3, g4, _⟩ := nice_all ds h
  refine ⟨.tuple as, ?_, by simp only [PyData.canLay0]; exact g2, by simp only [PyData.depth]; omega, by simp only [PyData.eqv]; exact g4⟩
  show (Mi.pdL ds).map PyData.tuple = _
  rw [g1]
  rfl
theorem nice_lst {n : Nat} {ds : List Mi.D} (h : ∀ d ∈ ds, Nice n d) : Nice (n + 1) (.lst ds) := by
  obtain ⟨as, g1, g2, g3, g4, _⟩ := nice_all ds h
  refine ⟨.list as, ?_, by simp only [PyData.canLay0]; exact g2, by simp only [PyData.depth]; omega, by simp only [PyData.eqv]; exact g4⟩
  show (Mi.pdL ds).map PyData.list = _
  rw [g1]
  rfl
theorem neD_self {n : Nat} {d : Mi.D} (h : Nice n d) (hn : n ≤ 60) : Mi.fNeD d d = some (.bl false) := by
  obtain ⟨a, h1, h2, h3, h4⟩ := h
  have sh : SeqAt.shaped a = true := Kv.shaped_of h2 (by omega)
  unfold Mi.fNeD
  rw [h1]
  dsimp only
  rw [if_pos ⟨sh, sh⟩, h4]
  rfl
theorem eqD_self {n : Nat} {d : Mi.D} (h : Nice n d) (hn : n ≤ 60) : Mi.fEqD d d = some (.bl true) := by
  obtain ⟨a, h1, h2, h3, h4⟩ := h
  have sh : SeqAt.shaped a = true := Kv.shaped_of h2 (by omega)
  unfold Mi.fEqD
  rw [h1]
  dsimp only
  rw [if_pos ⟨sh, sh⟩, h4]
theorem neD_nil {n : Nat} {ds : List Mi.D} (h : ∀ d ∈ ds, Nice n d) (hn : n ≤ 59) : Mi.fNeD (.lst ds) (.lst []) = some (.bl (decide (ds ≠ []))) := by
  obtain ⟨as, g1, g2, g3, g4, g5⟩ := nice_all ds h
  have p1 : (Mi.D.lst ds).pd = some (.list as) := by
    show (Mi.pdL ds).map PyData.list = _
    rw [g1]
    rfl
  have s1 : SeqAt.shaped (.list as) = true := Kv.shaped_of (by simp only [PyData.canLay0]; exact g2) (by simp only [PyData.depth]; omega)
  have s2 : SeqAt.shaped (.list []) = true := by decide
  unfold Mi.fNeD
  rw [p1]
  show (if SeqAt.shaped (.list as) = true ∧ SeqAt.shaped (.list []) = true then some (Mi.D.bl (!PyData.eqv (.list as) (.list []))) else none) = _
  rw [if_pos ⟨s1, s2⟩]
  cases as with
  | nil =>
    have : ds = [] := List.length_eq_zero_iff.mp g5.symm
    subst this
    rfl
  | cons a as =>
    have : ds ≠ [] := fun z => by rw [z] at g5; cases g5
    simp [PyData.eqv, PyData.eqvAll, this]

/-! ### the law's own: a payment submitted, the queue compared -/
theorem val_none_iff {b : Bal} {s : Str} : val b s = none ↔ ¬ s ∈ b.map (·.1) := by
  refine ⟨fun z y => ?_, val_none⟩
  have := val_mem.mpr y
  rw [z] at this
  cases this
/-- what compares well -/
structure POk (p : Pa) : Prop where
  k1 : PyData.strOk p.key = true
  k2 : PyData.strOk p.payer = true
  k3 : PyData.strOk p.payee = true
theorem pa_nice {p : Pa} (h : POk p) : Nice 1 (paD p) := by
  unfold paD
  refine nice_tup fun d hd => ?_
  rcases List.mem_cons.mp hd with rfl | hd
  · exact nice_str h.k1
  rcases List.mem_cons.mp hd with rfl | hd
  · exact nice_str h.k2
  rcases List.mem_cons.mp hd with rfl | hd
  · exact nice_str h.k3
  · rw [List.mem_singleton.mp hd]
    exact nice_int _

--== cut
/-! ### payments told apart -/
instance : DecidableEq Pa := fun a b => decidable_of_iff (a.key = b.key ∧ a.payer = b.payer ∧ a.payee = b.payee ∧ a.amount = b.amount) ⟨fun h => by
  obtain ⟨k, x, y, z⟩ := a
  obtain ⟨k', x', y', z'⟩ := b
  obtain ⟨h1, h2, h3, h4⟩ := h
  dsimp only at h1 h2 h3 h4
  rw [h1, h2, h3, h4], fun h => by rw [h]; exact ⟨rfl, rfl, rfl, rfl⟩⟩
def pdP (p : Pa) : PyData := .tuple [.str p.key, .str p.payer, .str p.payee, .int p.amount]
theorem pd_pa (p : Pa) : (paD p).pd = some (pdP p) := rfl
theorem eqv_pa (a b : Pa) : PyData.eqv (pdP a) (pdP b) = decide (a = b) := by
  have e1 : PyData.eqv (pdP a) (pdP b) = (a.key == b.key && (a.payer == b.payer && (a.payee == b.payee && (a.amount == b.amount && true)))) := by
    unfold pdP
    simp only [PyData.eqv, PyData.eqvAll]
  rw [e1, Bool.eq_iff_iff]
  simp only [Bool.and_eq_true, beq_iff_eq, Bool.and_true, decide_eq_true_eq]
  refine ⟨fun h => ?_, fun h => by rw [h]; exact ⟨rfl, rfl, rfl, rfl⟩⟩
  obtain ⟨k, x, y, z⟩ := a
  obtain ⟨k', x', y', z'⟩ := b
  obtain ⟨h1, h2, h3, h4⟩ := h
  dsimp only at h1 h2 h3 h4
  rw [h1, h2, h3, h4]
theorem lay_pa {p : Pa} (h : POk p) : (pdP p).canLay0 = true := by
  unfold pdP
  simp only [PyData.canLay0, PyData.canLayAll0, h.k1, h.k2, h.k3, Bool.and_self]
theorem sh_pa {p : Pa} (h : POk p) : SeqAt.shaped (pdP p) = true := Kv.shaped_of (lay_pa h) (by unfold pdP; simp only [PyData.depth, PyData.depthAll]; omega)
theorem pdl_pa : ∀ L : List Pa, Mi.pdL (L.map paD) = some (L.map pdP)
  | [] => by unfold Mi.pdL; rfl
  | p :: L => by rw [List.map_cons]; unfold Mi.pdL; rw [pd_pa, pdl_pa L]; rfl
theorem sh_pas {L : List Pa} (h : ∀ p ∈ L, POk p) : SeqAt.shaped (.list (L.map pdP)) = true := by
  have h1 : ∀ L : List Pa, (∀ p ∈ L, POk p) → PyData.canLayAll0 (L.map pdP) = true := by
    intro L
    induction L with
    | nil => intro _; rfl
    | cons p L ih =>
      intro h
      rw [List.map_cons]
      simp only [PyData.canLayAll0, lay_pa (h p List.mem_cons_self), ih fun q hq => h q (List.mem_cons_of_mem _ hq), Bool.and_self]
  have h2 : ∀ L : List Pa, PyData.depthAll (L.map pdP) ≤ 2 := by
    intro L
    induction L with
    | nil => exact Nat.zero_le _
    | cons p L ih =>
      rw [List.map_cons]
      simp only [PyData.depthAll]
      have : (pdP p).depth ≤ 2 := by unfold pdP; simp only [PyData.depth, PyData.depthAll]; omega
      omega
  exact Kv.shaped_of (by simp only [PyData.canLay0]; exact h1 L h) (by simp only [PyData.depth]; have := h2 L; omega)
theorem any_pa (p : Pa) (L : List Pa) : ((L.map pdP).any fun z => PyData.eqv z (pdP p)) = decide (p ∈ L) := by
  rw [Bool.eq_iff_iff, List.any_eq_true, decide_eq_true_eq]
  refine ⟨fun ⟨z, hz, h⟩ => ?_, fun h => ⟨pdP p, List.mem_map_of_mem h, by rw [eqv_pa]; simp⟩⟩
  obtain ⟨q, hq, rfl⟩ := List.mem_map.mp hz
  rw [eqv_pa, decide_eq_true_eq] at h
  rw [← h]
  exact hq
theorem nin_pa {p : Pa} {L : List Pa} (hp : POk p) (h : ∀ p ∈ L, POk p) : Mi.fNinD (paD p) (.lst (L.map paD)) = some (.bl (decide (p ∉ L))) := by
  have e : (Mi.D.lst (L.map paD)).pd = some (.list (L.map pdP)) := by
    show (Mi.pdL (L.map paD)).map PyData.list = _
    rw [pdl_pa]
    rfl
  unfold Mi.fNinD
  rw [pd_pa, e]
  dsimp only
  rw [if_pos ⟨sh_pa hp, sh_pas h⟩, any_pa]
  simp
theorem pick_mem {b : Bool} {p : Pa} : ∀ {ps : List Pa} {cs : List Bool}, p ∈ pick ps cs b → p ∈ ps
  | [], _, h => by simp [pick] at h
  | q :: ps, [], h => by simp [pick] at h
  | q :: ps, c :: cs, h => by
    rw [pick] at h
    split at h
    · rcases List.mem_cons.mp h with rfl | h
      · exact List.mem_cons_self
      · exact List.mem_cons_of_mem _ (pick_mem h)
    · exact List.mem_cons_of_mem _ (pick_mem h)
theorem pick_sub {b : Bool} : ∀ {ps : List Pa} {cs : List Bool}, (pick ps cs b).Sublist ps
  | [], _ => by rw [show pick [] _ b = [] by simp [pick]]; exact List.Sublist.refl _
  | q :: ps, [] => by rw [show pick (q :: ps) [] b = [] by simp [pick]]; exact List.nil_sublist _
  | q :: ps, c :: cs => by
    rw [pick]
    split
    · exact List.Sublist.cons_cons _ pick_sub
    · exact List.Sublist.cons _ pick_sub
theorem pick_rest : ∀ {ps : List Pa} {cs : List Bool}, cs.length = ps.length → (ps.map Pa.key).Nodup → ps.filter (fun p => decide (p ∉ pick ps cs true)) = pick ps cs false
  | [], _, _, _ => by simp [pick]
  | q :: ps, [], h, _ => by cases h
  | q :: ps, c :: cs, h, nd => by
    rw [List.map_cons, List.nodup_cons] at nd
    have hq : ∀ r ∈ ps, r ≠ q := fun r hr z => nd.1 (by rw [← z]; exact List.mem_map_of_mem hr)
    have ih := pick_rest (Nat.succ.inj h) nd.2
    rw [List.filter_cons, pick, pick]
    cases c with
    | true =>
      rw [if_pos rfl, if_neg (by simp), if_neg (by decide), ← ih]
      refine List.filter_congr fun r hr => ?_
      simp [hq r hr]
    | false =>
      have hn : q ∉ pick ps cs true := fun z => hq q (pick_mem z) rfl
      rw [if_neg (show ¬ (false = true) by decide), if_pos (show false = false from rfl), if_pos (decide_eq_true hn), ih]

--== cut
/-! ### the clearing in the midst of a law -/
structure Wd (S : List Mi.Ob) (o : Nat) (bs fl : Bal) (ps : List Pa) (ks : List Str) : Prop where
  cl : ∃ b f q k, Cl S o b f q k bs fl ps ks
  hf : ∀ s z, val bs s = some z → (val fl s).getD 0 ≤ z
  pa : ∀ p ∈ ps, PaOk bs p ∧ 0 ≤ p.amount ∧ POk p ∧ p.key ∈ ks
  kn : (ps.map Pa.key).Nodup
theorem nm_ok {l : List Nat} (h : NmOk l) : PyData.strOk (SX.S l) = true := by
  have e : ∀ c ∈ l, c < 1114112 := fun c hc => by
    have h1 : ∀ c ∈ lets, c < 1114112 := by decide +kernel
    have h2 : ∀ c ∈ digs, c < 1114112 := by decide +kernel
    rcases h.2.2.2 c hc with y | y
    · exact h1 c y
    · exact h2 c y
  exact S_ok e
theorem val_of {b : Bal} {s : Str} {z : Int} : val b s = some z → (s, z) ∈ b := by
  induction b with
  | nil => intro h; cases h
  | cons p r ih =>
    intro h
    rw [val] at h
    by_cases c : p.1 = s
    · rw [if_pos c] at h
      cases h
      rw [← c]
      exact List.mem_cons_self
    · rw [if_neg c] at h
      exact List.mem_cons_of_mem _ (ih h)
theorem short_none {xs fl : Bal} (h : short xs fl = none) : ∀ p ∈ xs, (val fl p.1).getD 0 ≤ p.2 := by
  intro p hp
  unfold short at h
  rw [Option.map_eq_none_iff] at h
  have := List.find?_eq_none.mp h p hp
  simpa using this
theorem balF_fst {bs : Bal} {F : Str → Int} : (balF bs F).map (·.1) = bs.map (·.1) := by unfold balF; rw [List.map_map]; rfl
theorem wd_settle {S : List Mi.Ob} {o b f q k : Nat} {bs fl : Bal} {ps : List Pa} {ks : List Str} (W : Wd S o bs fl ps ks) (h : Cl S o b f q k bs fl ps ks) (hl : ps.length < 100) : ∃ cs b' q' S', m_Clearing_settle [.dat (.ob o)] [] S = .ok (.new (.lst ((pick ps cs true).map paD))) [] S' ∧ Cl S' o b' f q' k (balF bs (FN bs ps cs)) fl (pick ps cs false) ks ∧ Wd S' o (balF bs (FN bs ps cs)) fl (pick ps cs false) ks ∧ Rch bs fl ps cs ∧ short (balF bs (FN bs ps cs)) fl = none ∧ (∀ i x, i < S.length → S[i]? = some x → i ≠ o → S'[i]? = some x) ∧ S.length ≤ q' := by
  obtain ⟨cs, b', q', S', e, h', ⟨hr, hs⟩, hlow, hq⟩ := settle_eq2 h (fun p hp => (W.pa p hp).1) (fun p hp => (W.pa p hp).2.1) W.hf hl
  refine ⟨cs, b', q', S', e, h', ⟨⟨b', f, q', k, h'⟩, fun s z hv => short_none hs _ (val_of hv), fun p hp => ?_, W.kn.sublist (pick_sub.map _)⟩, hr, hs, hlow, hq⟩
  obtain ⟨h1, h2, h3, h4⟩ := W.pa p (pick_mem hp)
  refine ⟨?_, h2, h3, h4⟩
  unfold PaOk
  rw [balF_fst]
  exact h1
theorem wd_sub {S : List Mi.Ob} {o : Nat} {bs fl : Bal} {ps : List Pa} {ks : List Str} (W : Wd S o bs fl ps ks) (hl : ps.length < 100) (hk : ks.length < 100) {p : Pa} (he : subE bs ks p = none) (hp : PyData.strOk p.key = true) (nms : ∀ s ∈ bs.map (·.1), PyData.strOk s = true) {b f q k : Nat} (h : Cl S o b f q k bs fl ps ks) : Wd (subS S q k ps ks p) o bs fl (ps ++ [p]) (ks ++ [p.key]) := by
  unfold subE at he
  split at he
  · cases he
  split at he
  · cases he
  rename_i _ v1
  split at he
  · cases he
  rename_i v2
  split at he
  · cases he
  rename_i ne
  split at he
  · cases he
  rename_i am
  split at he
  · cases he
  rename_i nk
  have m1 : p.payer ∈ bs.map (·.1) := Classical.byContradiction fun z => v1 (val_none_iff.mpr z)
  have m2 : p.payee ∈ bs.map (·.1) := Classical.byContradiction fun z => v2 (val_none_iff.mpr z)
  have am' : 1 ≤ p.amount ∧ p.amount ≤ 1000000000 := Classical.byContradiction fun z => am z
  refine ⟨⟨b, f, q, k, h.sub p hl hk⟩, W.hf, fun r hr => ?_, ?_⟩
  · rcases List.mem_append.mp hr with hr | hr
    · obtain ⟨h1, h2, h3, h4⟩ := W.pa r hr
      exact ⟨h1, h2, h3, List.mem_append_left _ h4⟩
    · rw [List.mem_singleton.mp hr]
      exact ⟨⟨m1, m2, ne⟩, by omega, ⟨hp, nms _ m1, nms _ m2⟩, by simp⟩
  · rw [List.map_append]
    refine List.nodup_append.mpr ⟨W.kn, by simp, fun x hx y hy => ?_⟩
    rw [List.map_singleton, List.mem_singleton] at hy
    subst hy
    intro z
    obtain ⟨r, hr, e⟩ := List.mem_map.mp hx
    have := (W.pa r hr).2.2.2
    rw [e, z] at this
    exact nk this

--== cut
/-! ### a member comes, and owns something -/
theorem bval_app (s : Str) (z : Int) (t : Str) : ∀ b : Bal, val (b ++ [(s, z)]) t = match val b t with
    | some x => some x
    | none => if s = t then some z else none
  | [] => rfl
  | p :: r => by
    rw [List.cons_append, val, val, bval_app s z t r]
    by_cases c : p.1 = t
    · rw [if_pos c, if_pos c]
    · rw [if_neg c, if_neg c]
theorem val_updB (s : Str) (z : Int) (t : Str) (b : Bal) : val (updB b s z) t = (val b t).map fun x => if t = s then z else x := by
  have e : updB b s z = b.map fun p => (p.1, (fun q x => if q = s then z else x) p.1 p.2) := by
    unfold updB
    refine List.map_congr_left fun p _ => ?_
    by_cases c : p.1 = s
    · simp [c]
    · simp [c]
  exact (congrArg (val · t) e).trans (val_map (fun q x => if q = s then z else x) t b)
theorem updB_fst (s : Str) (z : Int) (b : Bal) : (updB b s z).map (·.1) = b.map (·.1) := by
  unfold updB
  rw [List.map_map]
  refine List.map_congr_left fun p _ => ?_
  show (if p.1 = s then (p.1, z) else p).1 = p.1
  split <;> rfl
def HF (bs fl : Bal) : Prop := ∀ s z, val bs s = some z → (val fl s).getD 0 ≤ z
theorem mem_add2 {S : List Mi.Ob} {o b f q k : Nat} {bs fl : Bal} {ps : List Pa} {ks : List Str} (h : Cl S o b f q k bs fl ps ks) (hf : HF bs fl) {l : List Nat} (hn : NmOk l) (hs : ¬ SX.S l ∈ bs.map (·.1)) (h6 : bs.length < 6) {z y : Int} (hz : -1000000000 ≤ z ∧ z ≤ 0) (hy : 0 ≤ y ∧ y ≤ 1000000000) : ∃ S1 S2, m_Clearing_add_member [.dat (.ob o), .dat (.str (SX.S l)), .dat (.int z)] [] S = .ok (.dat .non) [] S1 ∧ Cl S1 o b f q k (bs ++ [(SX.S l, 0)]) (fl ++ [(SX.S l, z)]) ps ks ∧ m_Clearing_fund [.dat (.ob o), .dat (.str (SX.S l)), .dat (.int y)] [] S1 = .ok (.dat .non) [] S2 ∧ Cl S2 o b f q k (updB (bs ++ [(SX.S l, 0)]) (SX.S l) y) (fl ++ [(SX.S l, z)]) ps ks ∧ HF (updB (bs ++ [(SX.S l, 0)]) (SX.S l) y) (fl ++ [(SX.S l, z)]) ∧ (updB (bs ++ [(SX.S l, 0)]) (SX.S l) y).map (·.1) = bs.map (·.1) ++ [SX.S l] ∧ (∀ i, i ≠ b → i ≠ f → S2[i]? = S[i]?) ∧ S2.length = S.length := by
  have hA := h.add hs z h6
  have v0 := val_none hs
  have v1 : val (bs ++ [(SX.S l, 0)]) (SX.S l) = some 0 := by rw [bval_app, v0]; simp
  have w0 : val fl (SX.S l) = none := val_none (by rw [← h.nm]; exact hs)
  have v2 : val (fl ++ [(SX.S l, z)]) (SX.S l) = some z := by rw [bval_app, w0]; simp
  have ef := fund_eq hA v1 v2 (z := y) (by omega) (by omega)
  rw [Int.zero_add] at ef
  refine ⟨_, _, add_member_eq h hn hz hs h6, hA, ef, hA.bal (updB_fst _ _ _), ?_, by rw [updB_fst, List.map_append]; rfl, fun i h1 h2 => by unfold addS; rw [List.getElem?_set_ne (Ne.symm h1), List.getElem?_set_ne (Ne.symm h2), List.getElem?_set_ne (Ne.symm h1)], by unfold addS; simp⟩
  intro t x hx
  rw [val_updB, bval_app] at hx
  rw [bval_app]
  by_cases c : t = SX.S l
  · subst c
    rw [v0] at hx
    rw [w0]
    simp at hx ⊢
    omega
  · cases e : val bs t with
    | none =>
      rw [e] at hx
      dsimp only at hx
      rw [if_neg (fun y : SX.S l = t => c y.symm)] at hx
      cases hx
    | some x0 =>
      rw [e] at hx
      simp [c] at hx
      subst hx
      have := hf t x0 e
      cases e2 : val fl t with
      | none =>
        rw [e2] at this
        dsimp only
        rw [if_neg (fun y : SX.S l = t => c y.symm)]
        exact this
      | some w => rw [e2] at this; exact this
theorem mem_add {S : List Mi.Ob} {o b f q k : Nat} {bs fl : Bal} {ps : List Pa} {ks : List Str} (h : Cl S o b f q k bs fl ps ks) (hf : HF bs fl) {l : List Nat} (hn : NmOk l) (hs : ¬ SX.S l ∈ bs.map (·.1)) (h6 : bs.length < 6) {z y : Int} (hz : -1000000000 ≤ z ∧ z ≤ 0) (hy : 0 ≤ y ∧ y ≤ 1000000000) : ∃ S1 S2, m_Clearing_add_member [.dat (.ob o), .dat (.str (SX.S l)), .dat (.int z)] [] S = .ok (.dat .non) [] S1 ∧ Cl S1 o b f q k (bs ++ [(SX.S l, 0)]) (fl ++ [(SX.S l, z)]) ps ks ∧ m_Clearing_fund [.dat (.ob o), .dat (.str (SX.S l)), .dat (.int y)] [] S1 = .ok (.dat .non) [] S2 ∧ Cl S2 o b f q k (updB (bs ++ [(SX.S l, 0)]) (SX.S l) y) (fl ++ [(SX.S l, z)]) ps ks ∧ HF (updB (bs ++ [(SX.S l, 0)]) (SX.S l) y) (fl ++ [(SX.S l, z)]) ∧ (updB (bs ++ [(SX.S l, 0)]) (SX.S l) y).map (·.1) = bs.map (·.1) ++ [SX.S l] := by
  obtain ⟨S1, S2, h1, h2, h3, h4, h5, h6, _⟩ := mem_add2 h hf hn hs h6 hz hy
  exact ⟨S1, S2, h1, h2, h3, h4, h5, h6⟩
theorem nms_next {dn us nm : List (List Nat)} {l : List Nat} (he : nm = dn ++ l :: us) (nd : nm.Nodup) {xs : List Str} (hx : xs = dn.map SX.S) : ¬ SX.S l ∈ xs := by
  rw [hx]
  intro h
  obtain ⟨y, hy, e⟩ := List.mem_map.mp h
  have e := SX.S_inj e
  subst e
  rw [he, List.nodup_append] at nd
  exact nd.2.2 y hy y (List.mem_cons_self) rfl

--== cut
/-! ### choices: prefixes, the largest one -/
def cnt : List Pa → List Bool → Str → Int
  | p :: ps, c :: cs, s => (if c = true ∧ p.payer = s then 1 else 0) + cnt ps cs s
  | _, _, _ => 0
def tot : List Pa → Str → Int
  | [], _ => 0
  | p :: ps, s => (if p.payer = s then 1 else 0) + tot ps s
def sel (r : Str → Int) : List Pa → List Bool
  | [] => []
  | p :: ps => if 0 < r p.payer then true :: sel (upd r p.payer (r p.payer - 1)) ps else false :: sel r ps
termination_by ps => ps.length
theorem sel_nil (r : Str → Int) : sel r [] = [] := by rw [sel]
theorem sel_yes {r : Str → Int} {p : Pa} {ps : List Pa} (h : 0 < r p.payer) : sel r (p :: ps) = true :: sel (upd r p.payer (r p.payer - 1)) ps := by rw [sel, if_pos h]
theorem sel_no {r : Str → Int} {p : Pa} {ps : List Pa} (h : ¬ 0 < r p.payer) : sel r (p :: ps) = false :: sel r ps := by rw [sel, if_neg h]
theorem sel_len : ∀ (ps : List Pa) (r : Str → Int), (sel r ps).length = ps.length
  | [], r => by rw [sel_nil]; rfl
  | p :: ps, r => by
    by_cases h : 0 < r p.payer
    · rw [sel_yes h, List.length_cons, sel_len ps, List.length_cons]
    · rw [sel_no h, List.length_cons, sel_len ps, List.length_cons]
theorem cnt_nn (s : Str) : ∀ (ps : List Pa) (cs : List Bool), 0 ≤ cnt ps cs s
  | [], _ => by rw [cnt]; exact Int.le_refl _; intros; simp_all
  | p :: ps, [] => by rw [cnt]; exact Int.le_refl _; intros; simp_all
  | p :: ps, c :: cs => by
    have := cnt_nn s ps cs
    rw [cnt]
    split <;> omega
theorem tot_nn (s : Str) : ∀ ps : List Pa, 0 ≤ tot ps s
  | [] => Int.le_refl _
  | p :: ps => by
    have := tot_nn s ps
    rw [tot]
    split <;> omega
/-- a choice of first ones -/
def Pre (ps : List Pa) (cs : List Bool) : Prop := ∀ (i j : Nat) (p q : Pa), i < j → ps[i]? = some p → ps[j]? = some q → p.payer = q.payer → cs[j]? = some true → cs[i]? = some true
theorem Pre.tail {p : Pa} {ps : List Pa} {c : Bool} {cs : List Bool} (h : Pre (p :: ps) (c :: cs)) : Pre ps cs := fun i j x y ij hx hy e hj => h (i + 1) (j + 1) x y (by omega) hx hy e hj
theorem cnt_zero {s : Str} : ∀ {ps : List Pa} {cs : List Bool}, (∀ (j : Nat) (q : Pa), ps[j]? = some q → cs[j]? = some true → q.payer ≠ s) → cnt ps cs s = 0
  | [], _, _ => by rw [cnt]; intros; simp_all
  | p :: ps, [], _ => by rw [cnt]; intros; simp_all
  | p :: ps, c :: cs, h => by
    rw [cnt, cnt_zero (ps := ps) (cs := cs) fun j q h1 h2 => h (j + 1) q h1 h2, if_neg]
    · rfl
    · rintro ⟨h1, h2⟩
      exact h 0 p rfl (by rw [h1]; rfl) h2
theorem sel_cnt : ∀ {ps : List Pa} {cs : List Bool}, cs.length = ps.length → Pre ps cs → sel (cnt ps cs) ps = cs
  | [], [], _, _ => by rw [sel_nil]
  | [], c :: cs, h, _ => by cases h
  | p :: ps, [], h, _ => by cases h
  | p :: ps, c :: cs, h, hp => by
    have ih := sel_cnt (Nat.succ.inj h) hp.tail
    cases c with
    | true =>
      have e : upd (cnt (p :: ps) (true :: cs)) p.payer (cnt (p :: ps) (true :: cs) p.payer - 1) = cnt ps cs := by
        funext s
        unfold upd
        by_cases z : s = p.payer
        · subst z
          rw [if_pos rfl, cnt, if_pos ⟨rfl, rfl⟩]
          omega
        · rw [if_neg z, cnt, if_neg (fun y => z y.2.symm)]
          omega
      rw [sel_yes, e, ih]
      have := cnt_nn p.payer ps cs
      rw [cnt, if_pos ⟨rfl, rfl⟩]
      omega
    | false =>
      have e : cnt (p :: ps) (false :: cs) = cnt ps cs := by
        funext s
        rw [cnt, if_neg (fun y => by cases y.1)]
        omega
      have z : cnt ps cs p.payer = 0 := cnt_zero fun j q h1 h2 e => by
        have := hp 0 (j + 1) p q (by omega) rfl h1 e.symm h2
        cases this
      rw [e, sel_no (by omega), ih]
theorem sel_none {s : Str} : ∀ {ps : List Pa} {r : Str → Int}, ¬ 0 < r s → ∀ (j : Nat) (q : Pa), ps[j]? = some q → (sel r ps)[j]? = some true → q.payer ≠ s
  | [], _, _, _, _, h, _ => by simp at h
  | p :: ps, r, hr, j, q, h1, h2 => by
    by_cases c : 0 < r p.payer
    · rw [sel_yes c] at h2
      have hps : p.payer ≠ s := fun z => hr (by rw [← z]; exact c)
      cases j with
      | zero => cases h1; exact hps
      | succ j => exact sel_none (r := upd r p.payer (r p.payer - 1)) (by unfold upd; rw [if_neg (Ne.symm hps)]; exact hr) j q h1 h2
    · rw [sel_no c] at h2
      cases j with
      | zero => cases h2
      | succ j => exact sel_none hr j q h1 h2
theorem pre_sel : ∀ (ps : List Pa) (r : Str → Int), Pre ps (sel r ps)
  | [], _ => fun i j p q _ h => by simp at h
  | p :: ps, r => fun i j x y ij hx hy e hj => by
    cases j with
    | zero => omega
    | succ j =>
    by_cases c : 0 < r p.payer
    · rw [sel_yes c] at hj ⊢
      cases i with
      | zero => rfl
      | succ i => exact pre_sel ps _ i j x y (by omega) hx hy e hj
    · rw [sel_no c] at hj ⊢
      cases i with
      | zero =>
        cases hx
        exact absurd e.symm (sel_none c j y hy hj)
      | succ i => exact pre_sel ps _ i j x y (by omega) hx hy e hj
theorem cnt_sel {s : Str} : ∀ {ps : List Pa} {r : Str → Int}, 0 ≤ r s → r s ≤ tot ps s → cnt ps (sel r ps) s = r s
  | [], r, h0, h1 => by
    rw [tot] at h1
    rw [cnt]
    · omega
    · intros; simp_all
  | p :: ps, r, h0, h1 => by
    rw [tot] at h1
    have tn := tot_nn s ps
    by_cases c : 0 < r p.payer
    · rw [sel_yes c, cnt]
      by_cases z : p.payer = s
      · rw [if_pos ⟨rfl, z⟩]
        rw [if_pos z] at h1
        have e : upd r p.payer (r p.payer - 1) s = r s - 1 := by unfold upd; rw [if_pos z.symm, z]
        rw [z] at c
        rw [cnt_sel (ps := ps) (r := upd r p.payer (r p.payer - 1)) (by rw [e]; omega) (by rw [e]; omega), e]
        omega
      · rw [if_neg (fun y => z y.2)]
        rw [if_neg z] at h1
        have e : upd r p.payer (r p.payer - 1) s = r s := by unfold upd; rw [if_neg (fun y => z y.symm)]
        rw [cnt_sel (ps := ps) (r := upd r p.payer (r p.payer - 1)) (by rw [e]; exact h0) (by rw [e]; omega), e]
        omega
    · rw [sel_no c, cnt, if_neg (fun y => by cases y.1)]
      by_cases z : p.payer = s
      · rw [z] at c
        rw [cnt_sel (ps := ps) (r := r) h0 (by omega)]
        omega
      · rw [if_neg z] at h1
        rw [cnt_sel (ps := ps) (r := r) h0 (by omega)]
        omega
def Sub (as cs : List Bool) : Prop := ∀ i : Nat, as[i]? = some true → cs[i]? = some true
theorem cnt_mono {s : Str} : ∀ {ps : List Pa} {as cs : List Bool}, as.length = ps.length → cs.length = ps.length → Sub as cs → cnt ps as s ≤ cnt ps cs s
  | [], [], [], _, _, _ => Int.le_refl _
  | [], a :: as, _, h, _, _ => by cases h
  | [], [], c :: cs, _, h, _ => by cases h
  | p :: ps, [], _, h, _, _ => by cases h
  | p :: ps, a :: as, [], _, h, _ => by cases h
  | p :: ps, a :: as, c :: cs, h1, h2, h => by
    have ih := cnt_mono (s := s) (Nat.succ.inj h1) (Nat.succ.inj h2) fun i hi => h (i + 1) hi
    have h0 : a = true → c = true := fun z => by
      have := h 0 (by rw [z]; rfl)
      simpa using this
    rw [cnt, cnt]
    by_cases y : a = true ∧ p.payer = s
    · rw [if_pos y, if_pos ⟨h0 y.1, y.2⟩]
      omega
    · rw [if_neg y]
      split <;> omega
theorem net_mono {s : Str} : ∀ {ps : List Pa} {as cs : List Bool}, as.length = ps.length → cs.length = ps.length → Sub as cs → (∀ p ∈ ps, 0 ≤ p.amount) → (∀ (i : Nat) p, ps[i]? = some p → p.payer = s → cs[i]? = some true → as[i]? = some true) → net ps as s ≤ net ps cs s
  | [], [], [], _, _, _, _, _ => Int.le_refl _
  | [], a :: as, _, h, _, _, _, _ => by cases h
  | [], [], c :: cs, _, h, _, _, _ => by cases h
  | p :: ps, [], _, h, _, _, _, _ => by cases h
  | p :: ps, a :: as, [], _, h, _, _, _ => by cases h
  | p :: ps, a :: as, c :: cs, h1, h2, h, ha, hb => by
    have ih := net_mono (s := s) (Nat.succ.inj h1) (Nat.succ.inj h2) (fun i hi => h (i + 1) hi) (fun q hq => ha q (List.mem_cons_of_mem _ hq)) fun i q h1 h2 h3 => hb (i + 1) q h1 h2 h3
    have h0 : a = true → c = true := fun z => by
      have := h 0 (by rw [z]; rfl)
      simpa using this
    have hp := ha p List.mem_cons_self
    rw [net, net]
    by_cases y : a = true
    · rw [if_pos y, if_pos (h0 y)]
      omega
    · rw [if_neg y]
      by_cases z : c = true
      · rw [if_pos z]
        have hne : p.payer ≠ s := fun w => y (by
          have := hb 0 p rfl w (by rw [z]; rfl)
          simpa using this)
        unfold ef
        rw [if_neg hne]
        split <;> omega
      · rw [if_neg z]
        omega
theorem plc_mem {s : Str} : ∀ {ps : List Pa} {cs : List Bool} {n j : Nat} {p : Pa}, ps[j]? = some p → cs[j]? = some true → p.payer = s → n + j ∈ plc ps cs s n
  | [], _, _, _, _, h, _, _ => by simp at h
  | q :: ps, [], _, _, _, _, h, _ => by simp at h
  | q :: ps, c :: cs, n, 0, _, h1, h2, h3 => by
    cases h1
    have : c = true := by simpa using h2
    rw [plc, if_pos ⟨this, h3⟩]
    simp
  | q :: ps, c :: cs, n, j + 1, _, h1, h2, h3 => by
    rw [plc]
    refine List.mem_append_right _ ?_
    have := plc_mem (ps := ps) (cs := cs) (n := n + 1) h1 h2 h3
    rw [show n + 1 + j = n + (j + 1) by omega] at this
    exact this
theorem plc_sorted {s : Str} : ∀ {ps : List Pa} {cs : List Bool} {n : Nat}, (plc ps cs s n).Pairwise (· < ·)
  | [], _, _ => by simp [plc]
  | q :: ps, [], _ => by simp [plc]
  | q :: ps, c :: cs, n => by
    rw [plc, List.pairwise_append]
    refine ⟨by split <;> simp, plc_sorted, fun a ha b hb => ?_⟩
    have := (plc_lt hb).1
    split at ha
    · rw [List.mem_singleton.mp ha]; omega
    · cases ha
theorem last_max {s : Str} {ps : List Pa} {cs : List Bool} {l : List Nat} {i : Nat} (h : GN ps cs s = l ++ [i]) : (∃ p, ps[i]? = some p ∧ cs[i]? = some true ∧ p.payer = s) ∧ ∀ (j : Nat) (q : Pa), ps[j]? = some q → cs[j]? = some true → q.payer = s → j ≤ i := by
  have hm : i ∈ plc ps cs s 0 := by rw [show plc ps cs s 0 = l ++ [i] from h]; simp
  refine ⟨?_, fun j q h1 h2 h3 => ?_⟩
  · obtain ⟨_, p, e1, e2, e3⟩ := plc_lt hm
    exact ⟨p, e1, e2, e3⟩
  · have hj := plc_mem (n := 0) h1 h2 h3
    rw [Nat.zero_add, show plc ps cs s 0 = l ++ [i] from h] at hj
    have hs := plc_sorted (s := s) (ps := ps) (cs := cs) (n := 0)
    rw [show plc ps cs s 0 = l ++ [i] from h, List.pairwise_append] at hs
    rcases List.mem_append.mp hj with hj | hj
    · exact Nat.le_of_lt (hs.2.2 j hj i (by simp))
    · rw [List.mem_singleton.mp hj]; exact Nat.le_refl _
theorem set_true {cs : List Bool} {i j : Nat} (h : (cs.set i false)[j]? = some true) : j ≠ i ∧ cs[j]? = some true := by
  rw [List.getElem?_set] at h
  by_cases c : i = j
  · rw [if_pos c] at h
    split at h <;> cases h
  · rw [if_neg c] at h
    exact ⟨fun z => c z.symm, h⟩
theorem Rch.pre {bs fl : Bal} {ps : List Pa} {cs : List Bool} (h : Rch bs fl ps cs) : Pre ps cs := by
  induction h with
  | all =>
    intro i j p q ij hi hj e h
    unfold tr
    have := (List.getElem?_eq_some_iff.mp hi).1
    rw [List.getElem?_replicate, if_pos this]
  | step hr hs hg ih =>
    rename_i cs s l i0
    obtain ⟨⟨p0, e0, c0, y0⟩, hmax⟩ := last_max hg
    intro i j p q ij hi hj e h
    obtain ⟨hne, hc⟩ := set_true h
    have hci := ih i j p q ij hi hj e hc
    have : i0 ≠ i := fun z => by
      subst z
      rw [e0] at hi
      cases hi
      have := hmax j q hj hc (e.symm.trans y0)
      omega
    rw [List.getElem?_set_ne this]
    exact hci
/-- what fits lies within the choice found -/
theorem Rch.largest {bs fl : Bal} {ps : List Pa} {as cs : List Bool} (h : Rch bs fl ps cs) (ha : ∀ p ∈ ps, 0 ≤ p.amount) (hl : as.length = ps.length) (hp : Pre ps as) (hf : ∀ s, s ∈ bs.map (·.1) → (val fl s).getD 0 ≤ f0 bs s + net ps as s) : Sub as cs := by
  induction h with
  | all =>
    intro i hi
    have := (List.getElem?_eq_some_iff.mp hi).1
    unfold tr
    rw [List.getElem?_replicate, if_pos (by omega)]
  | step hr hs hg ih =>
    rename_i cs s l i0
    obtain ⟨⟨p0, e0, c0, y0⟩, hmax⟩ := last_max hg
    intro i hi
    have hci := ih i hi
    by_cases c : i0 = i
    · exfalso
      subst c
      have hm := net_mono (s := s) hl hr.len ih ha fun j q h1 h2 h3 => by
        have hj := hmax j q h1 h3 h2
        by_cases z : j = i0
        · rw [z]; exact hi
        · exact hp j i0 q p0 (by omega) h1 e0 (h2.trans y0.symm) hi
      obtain ⟨z, hz, hlt⟩ := short_some hs
      obtain ⟨y, hmem, e1⟩ := List.mem_map.mp hz
      have es : y.1 = s := congrArg Prod.fst e1
      have ez : FN bs ps cs y.1 = z := congrArg Prod.snd e1
      rw [es] at ez
      have := hf s (List.mem_map.mpr ⟨y, hmem, es⟩)
      unfold FN at ez
      omega
    · rw [List.getElem?_set_ne c]
      exact hci

--== cut
/-! ### the law's own: payments with keys of their own; members filled -/
theorem cut47 {a b : List Nat} : ∀ {l l' : List Nat}, 47 ∉ l → 47 ∉ l' → l ++ 47 :: a = l' ++ 47 :: b → a = b
  | [], [], _, _, h => by simpa using h
  | [], x :: l', _, h2, h => by
    rw [List.nil_append, List.cons_append] at h
    injection h with h1 _
    exact absurd (by rw [h1]; exact List.mem_cons_self) h2
  | x :: l, [], h1, _, h => by
    rw [List.nil_append, List.cons_append] at h
    injection h with h2 _
    exact absurd (by rw [← h2]; exact List.mem_cons_self) h1
  | x :: l, y :: l', h1, h2, h => by
    rw [List.cons_append, List.cons_append] at h
    injection h with _ h
    exact cut47 (fun z => h1 (List.mem_cons_of_mem _ z)) (fun z => h2 (List.mem_cons_of_mem _ z)) h
theorem kt_inj : ∀ i j : _root_.Fin 70, kt i.val = kt j.val → i = j := by decide +kernel
theorem nm47 {l : List Nat} (h : NmOk l) : 47 ∉ l := fun z => by
  have := h.2.2.2 47 z
  revert this
  decide +kernel
def keyS (l : List Nat) (k : Nat) : Str := SX.S (l ++ 47 :: kt k)
theorem keyS_inj {l l' : List Nat} {k k' : Nat} (h : NmOk l) (h' : NmOk l') (hk : k < 70) (hk' : k' < 70) (e : keyS l k = keyS l' k') : k = k' := by
  have := cut47 (nm47 h) (nm47 h') (SX.S_inj e)
  have := kt_inj ⟨k, hk⟩ ⟨k', hk'⟩ this
  exact congrArg (·.val) this
theorem keyS_len {l : List Nat} {k : Nat} (h : NmOk l) (hk : k < 70) : 1 ≤ (keyS l k).length ∧ (keyS l k).length ≤ 40 := by
  unfold keyS
  rw [SX.S_len, List.length_append, List.length_cons]
  have h1 : (kt k).length ≤ 2 := kt_len ⟨k, hk⟩
  have := h.2.1
  omega
theorem keyS_ok {l : List Nat} {k : Nat} (h : NmOk l) (hk : k < 70) : PyData.strOk (keyS l k) = true := by
  refine S_ok fun c hc => ?_
  rcases List.mem_append.mp hc with hc | hc
  · have h1 : ∀ c ∈ lets, c < 1114112 := by decide +kernel
    have h2 : ∀ c ∈ digs, c < 1114112 := by decide +kernel
    rcases h.2.2.2 c hc with y | y
    · exact h1 c y
    · exact h2 c y
  · rcases List.mem_cons.mp hc with rfl | hc
    · decide
    · exact kt_ok ⟨k, hk⟩ c hc
theorem payment_eq {b : Mi.BX} (hb : Sr b) {k : Nat} (hk : k < 70) (nm : List (List Nat)) (hn : 2 ≤ nm.length ∧ nm.length ≤ 6) (nd : nm.Nodup) {sc : Int} (s0 : 1 ≤ sc) (s1 : sc ≤ 1000000000) (S : List Mi.Ob) : ∃ (p : Pa) (l : List Nat) (b' : Mi.BX), m_L_payment [.io 0, .dat (.int (k : Int)), .dat (.lst (sts nm)), .dat (.int sc)] [b] S = .ok (.dat (paD p)) [b'] S ∧ NmOk l ∧ p.key = keyS l k ∧ p.payer ∈ nm.map SX.S ∧ p.payee ∈ nm.map SX.S ∧ p.payer ≠ p.payee ∧ 1 ≤ p.amount ∧ p.amount ≤ 1000000000 := by
  have : ∃ d io', m_L_payment [.io 0, .dat (.int (k : Int)), .dat (.lst (sts nm)), .dat (.int sc)] [b] S = .ok (.dat d) io' S ∧ ∃ (p : Pa) (l : List Nat) (b' : Mi.BX), d = paD p ∧ io' = [b'] ∧ NmOk l ∧ p.key = keyS l k ∧ p.payer ∈ nm.map SX.S ∧ p.payee ∈ nm.map SX.S ∧ p.payer ≠ p.payee ∧ 1 ≤ p.amount ∧ p.amount ≤ 1000000000 := by
    refine Mi.gen_run ?_
    obtain ⟨x, y, b1, e1, x0, x1, y0, y1, hxy, hb1⟩ := pairs_eq hb (many := ((sts nm).length : Int)) (by unfold sts; rw [List.length_map]; omega) (by unfold sts; rw [List.length_map]; omega) S
    obtain ⟨l, b2, e2, h2, hb2⟩ := name_eq hb1 S
    obtain ⟨a, b3, e3, a0, a1, hb3⟩ := pick_eq hb2 (many := sc) (by omega) (by omega) S
    have hl : (sts nm).length = nm.length := by unfold sts; rw [List.length_map]
    rw [hl] at x1 y1
    obtain ⟨u, eu, gu⟩ := atI_at x0 x1
    obtain ⟨v, ev, gv⟩ := atI_at y0 y1
    have eu : atI (sts nm) x = some (.str (SX.S u)) := atI_map eu
    have ev : atI (sts nm) y = some (.str (SX.S v)) := atI_map ev
    have huv : SX.S u ≠ SX.S v := fun z => hxy (by
      have z := SX.S_inj z
      subst z
      have := (List.getElem?_inj (List.getElem?_eq_some_iff.mp gu).1 nd).mp (gu.trans gv.symm)
      omega)
    have hkl : (kt k).length ≤ 2 := kt_len ⟨k, hk⟩
    have hl2 := h2.2.1
    unfold b_L_payment
    walk_at "go"
    refine Mi.rp_callM e1 rfl rfl Mi.nod1 rfl rfl ?_
    walk_at "go"
    refine Mi.rp_callM e2 rfl rfl Mi.nod1 rfl rfl ?_
    walk_at "go"
    have eY : SX.S l ++ Str.ofString "/" ++ Str.ofString (toString (k : Int)) = keyS l k := by
      unfold keyS
      rw [kt_S, show Str.ofString "/" = SX.S [47] from rfl, SX.S_cat, SX.S_cat, List.append_assoc]
      rfl
    refine ⟨by rw [SX.S_len, show (Str.ofString "/").length = 1 from rfl]; exact szl (by omega), Nat.lt_of_le_of_lt (Nat.log2_le_self _) (by omega), by rw [show Str.ofString "/" = SX.S [47] from rfl, SX.S_cat, SX.S_len, kt_S, SX.S_len, List.length_append, List.length_singleton]; exact szl (by omega), ?_⟩
    rw [eY]
    refine ⟨_, eu, _, ev, ?_⟩
    walk_at "go"
    refine Mi.rp_callM e3 rfl rfl Mi.nod1 rfl rfl ?_
    walk_at "go"
    exact ⟨⟨keyS l k, SX.S u, SX.S v, 1 + a⟩, l, b3, rfl, rfl, h2, rfl, List.mem_map_of_mem (List.mem_of_getElem? gu), List.mem_map_of_mem (List.mem_of_getElem? gv), huv, show 1 ≤ 1 + a by omega, show 1 + a ≤ 1000000000 by omega⟩
  obtain ⟨_, _, e, p, l, b', rfl, rfl, h⟩ := this
  exact ⟨p, l, b', e, h⟩
theorem payment_eq2 {b : Mi.BX} (hb : Sr b) {k : Nat} (hk : k < 70) (nm : List (List Nat)) (hn : 2 ≤ nm.length ∧ nm.length ≤ 6) (nd : nm.Nodup) {sc : Int} (s0 : 1 ≤ sc) (s1 : sc ≤ 1000000000) (S : List Mi.Ob) : ∃ (p : Pa) (l : List Nat) (b' : Mi.BX), m_L_payment [.io 0, .dat (.int (k : Int)), .dat (.lst (sts nm)), .dat (.int sc)] [b] S = .ok (.dat (paD p)) [b'] S ∧ NmOk l ∧ p.key = keyS l k ∧ p.payer ∈ nm.map SX.S ∧ p.payee ∈ nm.map SX.S ∧ p.payer ≠ p.payee ∧ 1 ≤ p.amount ∧ p.amount ≤ 1000000000 ∧ Sr b' := by
  have : ∃ d io', m_L_payment [.io 0, .dat (.int (k : Int)), .dat (.lst (sts nm)), .dat (.int sc)] [b] S = .ok (.dat d) io' S ∧ ∃ (p : Pa) (l : List Nat) (b' : Mi.BX), d = paD p ∧ io' = [b'] ∧ NmOk l ∧ p.key = keyS l k ∧ p.payer ∈ nm.map SX.S ∧ p.payee ∈ nm.map SX.S ∧ p.payer ≠ p.payee ∧ 1 ≤ p.amount ∧ p.amount ≤ 1000000000 ∧ Sr b' := by
    refine Mi.gen_run ?_
    obtain ⟨x, y, b1, e1, x0, x1, y0, y1, hxy, hb1⟩ := pairs_eq hb (many := ((sts nm).length : Int)) (by unfold sts; rw [List.length_map]; omega) (by unfold sts; rw [List.length_map]; omega) S
    obtain ⟨l, b2, e2, h2, hb2⟩ := name_eq hb1 S
    obtain ⟨a, b3, e3, a0, a1, hb3⟩ := pick_eq hb2 (many := sc) (by omega) (by omega) S
    have hl : (sts nm).length = nm.length := by unfold sts; rw [List.length_map]
    rw [hl] at x1 y1
    obtain ⟨u, eu, gu⟩ := atI_at x0 x1
    obtain ⟨v, ev, gv⟩ := atI_at y0 y1
    have eu : atI (sts nm) x = some (.str (SX.S u)) := atI_map eu
    have ev : atI (sts nm) y = some (.str (SX.S v)) := atI_map ev
    have huv : SX.S u ≠ SX.S v := fun z => hxy (by
      have z := SX.S_inj z
      subst z
      have := (List.getElem?_inj (List.getElem?_eq_some_iff.mp gu).1 nd).mp (gu.trans gv.symm)
      omega)
    have hkl : (kt k).length ≤ 2 := kt_len ⟨k, hk⟩
    have hl2 := h2.2.1
    unfold b_L_payment
    walk_at "go"
    refine Mi.rp_callM e1 rfl rfl Mi.nod1 rfl rfl ?_
    walk_at "go"
    refine Mi.rp_callM e2 rfl rfl Mi.nod1 rfl rfl ?_
    walk_at "go"
    have eY : SX.S l ++ Str.ofString "/" ++ Str.ofString (toString (k : Int)) = keyS l k := by
      unfold keyS
      rw [kt_S, show Str.ofString "/" = SX.S [47] from rfl, SX.S_cat, SX.S_cat, List.append_assoc]
      rfl
    refine ⟨by rw [SX.S_len, show (Str.ofString "/").length = 1 from rfl]; exact szl (by omega), Nat.lt_of_le_of_lt (Nat.log2_le_self _) (by omega), by rw [show Str.ofString "/" = SX.S [47] from rfl, SX.S_cat, SX.S_len, kt_S, SX.S_len, List.length_append, List.length_singleton]; exact szl (by omega), ?_⟩
    rw [eY]
    refine ⟨_, eu, _, ev, ?_⟩
    walk_at "go"
    refine Mi.rp_callM e3 rfl rfl Mi.nod1 rfl rfl ?_
    walk_at "go"
    exact ⟨⟨keyS l k, SX.S u, SX.S v, 1 + a⟩, l, b3, rfl, rfl, h2, rfl, List.mem_map_of_mem (List.mem_of_getElem? gu), List.mem_map_of_mem (List.mem_of_getElem? gv), huv, show 1 ≤ 1 + a by omega, show 1 + a ≤ 1000000000 by omega, hb3⟩
  obtain ⟨_, _, e, p, l, b', rfl, rfl, h⟩ := this
  exact ⟨p, l, b', e, h⟩

--== cut
/-! ### what payments make of a balance -/
def esum : List Pa → Str → Int
  | [], _ => 0
  | p :: L, s => ef p s + esum L s
theorem esum_app (s : Str) : ∀ A B : List Pa, esum (A ++ B) s = esum A s + esum B s
  | [], B => by rw [List.nil_append, esum]; omega
  | p :: A, B => by rw [List.cons_append, esum, esum, esum_app s A B]; omega
theorem esum_pick (s : Str) : ∀ (ps : List Pa) (cs : List Bool), esum (pick ps cs true) s = net ps cs s
  | [], _ => by
    rw [show pick [] _ true = [] by simp [pick], esum, net]
    intros; simp_all
  | p :: ps, [] => by
    rw [show pick (p :: ps) [] true = [] by simp [pick], esum, net]
    intros; simp_all
  | p :: ps, c :: cs => by
    rw [pick, net]
    by_cases h : c = true
    · rw [if_pos h, if_pos h, esum, esum_pick s ps cs]
    · rw [if_neg h, if_neg h, esum_pick s ps cs]
      omega

--== cut
/-! ### rows with places of their own -/
def rwB (fl u : Str → Int) (s : Str) : Mi.Ob := .bx (.lst [.str s, .int (fl s), .int (u s)])
structure Rows (S : List Mi.Ob) (nms : List Str) (g : Str → Nat) (fl u : Str → Int) : Prop where
  pl : ∀ s ∈ nms, S[g s]? = some (rwB fl u s)
  inj : ∀ s ∈ nms, ∀ t ∈ nms, g s = g t → s = t
def toldG (nms : List Str) (g : Str → Nat) : List Mi.D := nms.map fun s => .ob (g s)
structure Tl (nms : List Str) (bs flB : Bal) (fl u : Str → Int) : Prop where
  nm : bs.map (·.1) = nms
  bu : ∀ s ∈ nms, val bs s = some (u s)
  bf : ∀ s ∈ nms, val flB s = some (fl s)
theorem Cl.same {S S' : List Mi.Ob} {o b f q k : Nat} {bs fl : Bal} {ps : List Pa} {ks : List Str} (h : Cl S o b f q k bs fl ps ks) (e : ∀ j, (j = o ∨ j = b ∨ j = f ∨ j = q ∨ j = k) → S'[j]? = S[j]?) : Cl S' o b f q k bs fl ps ks :=
  ⟨(e o (.inl rfl)).trans h.c0, (e b (.inr (.inl rfl))).trans h.cb, (e f (.inr (.inr (.inl rfl)))).trans h.cf, (e q (.inr (.inr (.inr (.inl rfl))))).trans h.cq, (e k (.inr (.inr (.inr (.inr rfl))))).trans h.ck, h.n1, h.n2, h.n3, h.nm, h.nd, h.l6, h.lq, h.lk⟩
theorem is_number_eq (a : Int) (S : List Mi.Ob) : m_L_is_number [.dat (.int a), .dat (.int a)] [] S = .ok (.dat (.bl true)) [] S := by
  refine Mi.run_isN ?_
  unfold b_L_is_number
  walk_at "go"
  exact ⟨_, rfl⟩
def invAg (nms : List Str) (g : Str → Nat) (o : Nat) (S : List Mi.Ob) : List Mi.D → Mi.St → Prop := fun r st => ∃ (dn us : List Str) (x2 : Option Mi.SV), st = ⟨[some (.dat (.ob o)), some (.dat (.lst (toldG nms g))), x2], [], S⟩ ∧ nms = dn ++ us ∧ r = toldG us g
theorem agrees_eq {S : List Mi.Ob} {o b f q k : Nat} {bs flB : Bal} {ps : List Pa} {ks : List Str} (hC : Cl S o b f q k bs flB ps ks) {nms : List Str} {g : Str → Nat} {fl u : Str → Int} (R : Rows S nms g fl u) (T : Tl nms bs flB fl u) (hf : ∀ s ∈ nms, fl s ≤ u s) : m_L_agrees [.dat (.ob o), .dat (.lst (toldG nms g))] [] S = .ok (.dat (.bl true)) [] S := by
  have c0 := hC.c0
  refine Mi.run_isN ?_
  unfold b_L_agrees
  with_reducible refine Mi.rp_cut (invAg nms g o S []) ?_ ?_
  · with_reducible refine Mi.rp_lst_it (invAg nms g o S) ?_ ?_ ?_
    · walk_at "go"
      exact ⟨[], nms, none, rfl, rfl, rfl⟩
    · intro d r st gg
      with_reducible refine Mi.RpI.to ?_
      obtain ⟨dn, us, x2, rfl, he, hr⟩ := gg
      cases us with
      | nil => cases hr
      | cons s us =>
      cases hr
      have hs : s ∈ nms := by rw [he]; simp
      have hp := R.pl s hs
      unfold rwB at hp
      have eb := balance_of_eq hC (T.bu s hs)
      have hfs := hf s hs
      refine Mi.RpI.of ?_
      walk_at "go"
      refine Mi.rp_callIs eb rfl rfl ?_
      walk_at "go"
      refine Mi.rp_callM (is_number_eq (u s) S) rfl rfl Mi.nod0 rfl rfl ?_
      walk_at "go"
      rw [if_neg (by omega)]
      exact ⟨dn ++ [s], us, _, rfl, by simp [he], rfl⟩
    · intro st gg
      exact gg
  intro st gg
  with_reducible refine Mi.RpI.to ?_
  obtain ⟨dn, us, x2, rfl, _, _⟩ := gg
  refine Mi.RpI.of ?_
  walk_at "go"
/-- the rows once payments have moved -/
def mvS (S : List Mi.Ob) (g : Str → Nat) (fl : Str → Int) (s : Str) (z : Int) : List Mi.Ob := S.set (g s) (.bx (.lst [.str s, .int (fl s), .int z]))
def invMv (nms : List Str) (g : Str → Nat) (fl : Str → Int) (L : List Pa) (s : Str) (z : Int) (S : List Mi.Ob) : List Mi.D → Mi.St → Prop := fun r st => ∃ (dn us : List Pa) (x3 : Option Mi.SV), st = ⟨[some (.dat (.lst (toldG nms g))), some (.dat (.lst (L.map paD))), some (.dat (.ob (g s))), x3], [], mvS S g fl s (z + esum dn s)⟩ ∧ L = dn ++ us ∧ r = us.map paD
theorem moved_f2 {nms : List Str} {g : Str → Nat} {fl : Str → Int} {L : List Pa} {s : Str} {z : Int} {S : List Mi.Ob} (hp : S[g s]? = some (.bx (.lst [.str s, .int (fl s), .int z]))) (x3 : Option Mi.SV) : Mi.RpI (b_L_moved_f2 ⟨[some (.dat (.lst (toldG nms g))), some (.dat (.lst (L.map paD))), some (.dat (.ob (g s))), x3], [], S⟩) (Mi.SqEnd (invMv nms g fl L s z S []) (fun _ _ => False)) (fun _ _ => False) := by
  have hl := (List.getElem?_eq_some_iff.mp hp).1
  have h0 : mvS S g fl s (z + esum [] s) = S := by
    unfold mvS
    rw [show esum [] s = 0 from rfl, Int.add_zero]
    refine List.ext_getElem? fun i => ?_
    by_cases c : g s = i
    · subst c
      rw [List.getElem?_set_self hl, hp]
    · rw [List.getElem?_set_ne c]
  refine Mi.RpI.of ?_
  unfold b_L_moved_f2
  with_reducible refine Mi.rp_lst_it (invMv nms g fl L s z S) ?_ ?_ ?_
  · walk_at "go"
    exact ⟨[], L, x3, by rw [h0], rfl, rfl⟩
  · intro d r st gg
    with_reducible refine Mi.RpI.to ?_
    obtain ⟨dn, us, x3, rfl, he, hr⟩ := gg
    cases us with
    | nil => cases hr
    | cons p us =>
    cases hr
    have e1 : esum (dn ++ [p]) s = esum dn s + ef p s := by rw [esum_app, esum, esum]; omega
    have fin : ∀ w : Int, w = z + esum (dn ++ [p]) s → invMv nms g fl L s z S (us.map paD) ⟨[some (.dat (.lst (toldG nms g))), some (.dat (.lst (L.map paD))), some (.dat (.ob (g s))), some (.dat (paD p))], [], mvS S g fl s w⟩ := fun w hw => ⟨dn ++ [p], us, some (.dat (paD p)), by rw [hw], by simp [he], rfl⟩
    have hb : ∀ w, (mvS S g fl s w)[g s]? = some (.bx (.lst [.str s, .int (fl s), .int w])) := fun w => List.getElem?_set_self hl
    have hset : ∀ w w', (mvS S g fl s w).set (g s) (.bx (.lst [.str s, .int (fl s), .int w'])) = mvS S g fl s w' := fun w w' => by unfold mvS; rw [List.set_set]
    have hb1 := hb (z + esum dn s)
    refine Mi.RpI.of ?_
    unfold b_L_moved_1
    walk_at "go"
    with_reducible refine Mi.rp_cut (fun st => st = ⟨[some (.dat (.lst (toldG nms g))), some (.dat (.lst (L.map paD))), some (.dat (.ob (g s))), some (.dat (paD p))], [], mvS S g fl s (z + esum dn s - (if p.payer = s then p.amount else 0))⟩) ?_ ?_
    · walk_at "go"
      refine ⟨_, rfl, _, Mi.atI_c1, _, Mi.peek_ob (st := ⟨_, _, mvS S g fl s (z + esum dn s)⟩) hb1, _, Mi.atI_c0, _, rfl, ?_⟩
      walk_at "go"
      by_cases c : p.payer = s
      · rw [if_pos c, if_pos c]
        refine ⟨_, Mi.peek_ob (st := ⟨_, _, mvS S g fl s (z + esum dn s)⟩) hb1, _, Mi.atI_c2, _, rfl, _, Mi.atI_c3, _, rfl, _, rfl, .int (z + esum dn s - p.amount), Mi.sub_ii, _, Mi.ownB_ob (st := ⟨_, _, mvS S g fl s (z + esum dn s)⟩) hb1, 2, rfl, ?_⟩
        exact hset _ _
      · rw [if_neg c, if_neg c, Int.sub_zero]
    intro st gg
    with_reducible refine Mi.RpI.to ?_
    subst gg
    have hb2 := hb (z + esum dn s - (if p.payer = s then p.amount else 0))
    refine Mi.RpI.of ?_
    walk_at "go"
    refine ⟨_, rfl, _, Mi.atI_c2, _, Mi.peek_ob (st := ⟨_, _, mvS S g fl s (z + esum dn s - (if p.payer = s then p.amount else 0))⟩) hb2, _, Mi.atI_c0, _, rfl, ?_⟩
    walk_at "go"
    by_cases c : p.payee = s
    · rw [if_pos c]
      refine ⟨_, Mi.peek_ob (st := ⟨_, _, mvS S g fl s (z + esum dn s - (if p.payer = s then p.amount else 0))⟩) hb2, _, Mi.atI_c2, _, rfl, _, Mi.atI_c3, _, rfl, _, rfl, .int (z + esum dn s - (if p.payer = s then p.amount else 0) + p.amount), Mi.add_ii, _, Mi.ownB_ob (st := ⟨_, _, mvS S g fl s (z + esum dn s - (if p.payer = s then p.amount else 0))⟩) hb2, 2, rfl, ?_⟩
      rw [show ([Mi.D.str s, Mi.D.int (fl s), Mi.D.int (z + esum dn s - if p.payer = s then p.amount else 0)].set 2 (Mi.D.int ((z + esum dn s - if p.payer = s then p.amount else 0) + p.amount))) = [.str s, .int (fl s), .int ((z + esum dn s - if p.payer = s then p.amount else 0) + p.amount)] from rfl, hset]
      refine fin _ ?_
      rw [e1]
      unfold ef
      rw [if_pos c]
      omega
    · rw [if_neg c]
      refine fin _ ?_
      rw [e1]
      unfold ef
      rw [if_neg c]
      omega
  · intro st gg
    exact gg
def invMw (nms : List Str) (g : Str → Nat) (fl u : Str → Int) (L : List Pa) (S : List Mi.Ob) : List Mi.D → Mi.St → Prop := fun r st => ∃ (dn us : List Str) (x2 x3 : Option Mi.SV) (u' : Str → Int) (S' : List Mi.Ob), st = ⟨[some (.dat (.lst (toldG nms g))), some (.dat (.lst (L.map paD))), x2, x3], [], S'⟩ ∧ nms = dn ++ us ∧ r = toldG us g ∧ Rows S' nms g fl u' ∧ (∀ s, u' s = if s ∈ dn then u s + esum L s else u s) ∧ (∀ j, (∀ s ∈ nms, j ≠ g s) → S'[j]? = S[j]?) ∧ S'.length = S.length
theorem moved_eq {nms : List Str} (nd : nms.Nodup) {g : Str → Nat} {fl u : Str → Int} (L : List Pa) {S : List Mi.Ob} (R : Rows S nms g fl u) : ∃ S', m_L_moved [.dat (.lst (toldG nms g)), .dat (.lst (L.map paD))] [] S = .ok (.dat .non) [] S' ∧ Rows S' nms g fl (fun s => u s + esum L s) ∧ (∀ j, (∀ s ∈ nms, j ≠ g s) → S'[j]? = S[j]?) ∧ S'.length = S.length := by
  refine Mi.run_vN (P := fun X => ∃ S', X = .ok (.dat .non) [] S' ∧ Rows S' nms g fl (fun s => u s + esum L s) ∧ (∀ j, (∀ s ∈ nms, j ≠ g s) → S'[j]? = S[j]?) ∧ S'.length = S.length) ?_
  unfold b_L_moved b_L_moved_f4
  with_reducible refine Mi.rp_lst_it (invMw nms g fl u L S) ?_ ?_ ?_
  · walk_at "go"
    exact ⟨[], nms, none, none, u, S, rfl, rfl, rfl, R, fun s => (by simp), fun _ _ => rfl, rfl⟩
  · intro d r st gg
    with_reducible refine Mi.RpI.to ?_
    obtain ⟨dn, us, x2, x3, u', S', rfl, he, hr, R', hu, hS, hlen⟩ := gg
    cases us with
    | nil => cases hr
    | cons s us =>
    cases hr
    have hs : s ∈ nms := by rw [he]; simp
    have hns : ¬ s ∈ dn := by
      intro z
      rw [he, List.nodup_append] at nd
      exact nd.2.2 s z s List.mem_cons_self rfl
    have hp := R'.pl s hs
    have hl := (List.getElem?_eq_some_iff.mp hp).1
    have hus : u' s = u s := by rw [hu, if_neg hns]
    unfold rwB at hp
    have h2 := moved_f2 (nms := nms) (L := L) hp x3
    refine Mi.RpI.of ?_
    walk_at "go"
    with_reducible refine Mi.rp_imp (Mi.RpI.to h2) (fun f st gg => ?_) (fun _ _ z => z.elim)
    cases f with
    | cont => exact gg.elim
    | brk => exact gg.elim
    | ret ev => exact gg.elim
    | nx =>
    obtain ⟨dn', us', x3', rfl, he', hr'⟩ := gg
    have hus' : us' = [] := by
      cases us' with
      | nil => rfl
      | cons p us => cases hr'
    subst hus'
    rw [List.append_nil] at he'
    subst he'
    have hne : ∀ t ∈ nms, t ≠ s → g s ≠ g t := fun t ht c z => c (R.inj t ht s hs z.symm)
    refine ⟨dn ++ [s], us, _, _, upd u' s (u s + esum L s), _, rfl, by simp [he], rfl, ⟨fun t ht => ?_, R.inj⟩, fun t => ?_, fun j hj => ?_, ?_⟩
    · unfold mvS rwB upd
      by_cases c : t = s
      · subst c
        rw [List.getElem?_set_self hl, if_pos rfl, hus]
      · rw [List.getElem?_set_ne (hne t ht c), if_neg c]
        exact R'.pl t ht
    · unfold upd
      by_cases c : t = s
      · rw [if_pos c, if_pos (by rw [c]; simp), c]
      · rw [if_neg c, hu]
        by_cases z : t ∈ dn
        · rw [if_pos z, if_pos (List.mem_append_left _ z)]
        · rw [if_neg z, if_neg (fun w => (List.mem_append.mp w).elim z (by simpa using c))]
    · unfold mvS
      rw [List.getElem?_set_ne (fun z => hj s hs z.symm)]
      exact hS j hj
    · unfold mvS
      rw [List.length_set]
      exact hlen
  · intro st gg
    obtain ⟨dn, us, x2, x3, u', S', rfl, he, hr, R', hu, hS, hlen⟩ := gg
    have hus' : us = [] := by
      cases us with
      | nil => rfl
      | cons p us => cases hr
    subst hus'
    rw [List.append_nil] at he
    subst he
    refine ⟨S', rfl, ⟨fun t ht => ?_, R.inj⟩, hS, hlen⟩
    rw [R'.pl t ht]
    unfold rwB
    rw [hu, if_pos ht]

--== cut
/-! ### the clearing and the told rows together -/
theorem Rows.off {S : List Mi.Ob} {nms : List Str} {g : Str → Nat} {fl u : Str → Int} (R : Rows S nms g fl u) {o b f q k : Nat} {bs flB : Bal} {ps : List Pa} {ks : List Str} (hC : Cl S o b f q k bs flB ps ks) (hq : ∀ s ∈ nms, g s ≠ q) {s : Str} (hs : s ∈ nms) : g s ≠ o ∧ g s ≠ b ∧ g s ≠ f ∧ g s ≠ q ∧ g s ≠ k := by
  have hp := R.pl s hs
  unfold rwB at hp
  refine ⟨fun z => ?_, fun z => ?_, fun z => ?_, hq s hs, fun z => ?_⟩
  · rw [z, hC.c0] at hp; cases hp
  · rw [z, hC.cb] at hp; cases hp
  · rw [z, hC.cf] at hp; cases hp
  · rw [z, hC.ck] at hp; cases hp
theorem Rows.keep {S S' : List Mi.Ob} {nms : List Str} {g : Str → Nat} {fl u : Str → Int} (R : Rows S nms g fl u) (h : ∀ s ∈ nms, S'[g s]? = S[g s]?) : Rows S' nms g fl u := ⟨fun s hs => (h s hs).trans (R.pl s hs), R.inj⟩
theorem funded_eq {S : List Mi.Ob} {o b f q k : Nat} {bs flB : Bal} {ps : List Pa} {ks : List Str} (hC : Cl S o b f q k bs flB ps ks) {nms : List Str} (hn : 1 ≤ nms.length ∧ nms.length ≤ 6) {g : Str → Nat} {fl u : Str → Int} (R : Rows S nms g fl u) (hq : ∀ s ∈ nms, g s ≠ q) (T : Tl nms bs flB fl u) (hf : ∀ s ∈ nms, fl s ≤ u s) (hB : ∀ s ∈ nms, u s - fl s < 1000000000000000) {sc : Int} (s0 : 1 ≤ sc) (s1 : sc ≤ 1000000000) {bb : Mi.BX} (hb : Sr bb) : ∃ S' bb' bs' u', m_L_funded [.dat (.ob o), .dat (.lst (toldG nms g)), .io 0, .dat (.int sc)] [bb] S = .ok (.dat .non) [bb'] S' ∧ Sr bb' ∧ Cl S' o b f q k bs' flB ps ks ∧ Rows S' nms g fl u' ∧ Tl nms bs' flB fl u' ∧ (∀ s ∈ nms, fl s ≤ u' s) ∧ (∀ s ∈ nms, u' s ≤ u s + 1000000000) := by
  refine Mi.run_vN (P := fun X => ∃ S' bb' bs' u', X = .ok (.dat .non) [bb'] S' ∧ Sr bb' ∧ Cl S' o b f q k bs' flB ps ks ∧ Rows S' nms g fl u' ∧ Tl nms bs' flB fl u' ∧ (∀ s ∈ nms, fl s ≤ u' s) ∧ (∀ s ∈ nms, u' s ≤ u s + 1000000000)) ?_
  have hgl : (toldG nms g).length = nms.length := List.length_map ..
  obtain ⟨r, b1, e1, r0, r1, hb1⟩ := pick_eq hb (many := ((toldG nms g).length : Int)) (by rw [hgl]; omega) (by rw [hgl]; omega) S
  rw [hgl] at r1
  obtain ⟨s, es, gs⟩ := atI_at r0 r1
  have hs := List.mem_of_getElem? gs
  have er : atI (toldG nms g) r = some (.ob (g s)) := atI_map es
  have hp := R.pl s hs
  unfold rwB at hp
  have hfs := hf s hs
  have hBs := hB s hs
  have ⟨o1, o2, o3, o4, o5⟩ := R.off hC hq hs
  obtain ⟨a, b2, e2, a0, a1, hb2⟩ := pick_eq hb1 (many := sc) (by omega) (by omega) S
  obtain ⟨c, b3, e3, c0', c1', hb3⟩ := pick_eq hb2 (many := u s - fl s + 1) (by omega) (by omega) S
  obtain ⟨w, b4, e4, w0, w1, hb4⟩ := pick_eq hb3 (many := 2) (by omega) (by omega) S
  obtain ⟨z, hz, z1, z2⟩ : ∃ z : Int, atI [Mi.D.int a, .int (0 - c)] w = some (.int z) ∧ fl s ≤ u s + z ∧ z ≤ 1000000000 := by
    rcases (by omega : w = 0 ∨ w = 1) with rfl | rfl
    · exact ⟨a, Mi.atI_c0, by omega, by omega⟩
    · exact ⟨0 - c, Mi.atI_c1, by omega, by omega⟩
  have cc := hC.c0
  unfold b_L_funded
  walk_at "go"
  refine Mi.rp_callM e1 rfl rfl Mi.nod1 rfl rfl ?_
  walk_at "go"
  refine ⟨_, er, ?_⟩
  walk_at "go"
  refine Mi.rp_callM e2 rfl rfl Mi.nod1 rfl rfl ?_
  walk_at "go"
  refine Mi.rp_callM e3 rfl rfl Mi.nod1 rfl rfl ?_
  walk_at "go"
  refine Mi.rp_callM e4 rfl rfl Mi.nod1 rfl rfl ?_
  walk_at "go"
  refine ⟨_, hz, ?_⟩
  walk_at "go"
  by_cases y : 0 - 1000000000 ≤ z
  rotate_left
  · rw [if_neg (by omega)]
    exact ⟨S, b4, bs, u, rfl, rfl, hb4, hC, R, T, hf, fun t ht => by omega⟩
  rw [if_pos (by omega)]
  have ef := fund_eq hC (T.bu s hs) (T.bf s hs) (z := z) ⟨by omega, z2⟩ z1
  have hC1 := hC.bal (updB_fst s (u s + z) bs)
  have cc1 := hC1.c0
  have hp1 : (S.set b (.bx (.dct (bkv (updB bs s (u s + z))))))[g s]? = some (.bx (.lst [.str s, .int (fl s), .int (u s)])) := by rw [List.getElem?_set_ne (Ne.symm o2)]; exact hp
  have T1 : Tl nms (updB bs s (u s + z)) flB fl (upd u s (u s + z)) := ⟨by rw [updB_fst]; exact T.nm, fun t ht => by
    rw [val_updB, T.bu t ht]
    unfold upd
    by_cases w : t = s
    · rw [if_pos w]; simp [w]
    · rw [if_neg w]; simp [w], T.bf⟩
  have hC2 : Cl ((S.set b (.bx (.dct (bkv (updB bs s (u s + z)))))).set (g s) (.bx (.lst [.str s, .int (fl s), .int (u s + z)]))) o b f q k (updB bs s (u s + z)) flB ps ks := hC1.same fun j hj => by
    rw [List.getElem?_set_ne]
    rcases hj with rfl | rfl | rfl | rfl | rfl <;> assumption
  have gl := (List.getElem?_eq_some_iff.mp hp1).1
  have R2 : Rows ((S.set b (.bx (.dct (bkv (updB bs s (u s + z)))))).set (g s) (.bx (.lst [.str s, .int (fl s), .int (u s + z)]))) nms g fl (upd u s (u s + z)) := ⟨fun t ht => by
    unfold rwB upd
    by_cases w : t = s
    · rw [w, List.getElem?_set_self gl, if_pos rfl]
    · have tb := (R.off hC hq ht).2.1
      rw [List.getElem?_set_ne (fun v => w (R.inj t ht s hs v.symm)), List.getElem?_set_ne (Ne.symm tb), if_neg w]
      exact R.pl t ht, R.inj⟩
  walk_at "go"
  refine Mi.rp_callM ef rfl rfl Mi.nod0 rfl rfl ?_
  walk_at "go"
  exact ⟨_, b4, _, upd u s (u s + z), rfl, rfl, hb4, hC2, R2, T1, fun t ht => by
    unfold upd
    by_cases w : t = s
    · rw [if_pos w, w]; exact z1
    · rw [if_neg w]; exact hf t ht, fun t ht => by
    unfold upd
    by_cases w : t = s
    · rw [if_pos w, w]; omega
    · rw [if_neg w]; omega⟩
/-! ### two choices, one after the other -/
def mrg : List Bool → List Bool → List Bool
  | true :: cs, ds => true :: mrg cs ds
  | false :: cs, d :: ds => d :: mrg cs ds
  | false :: cs, [] => false :: mrg cs []
  | [], _ => []
theorem mrg_len : ∀ (cs ds : List Bool), (mrg cs ds).length = cs.length
  | true :: cs, ds => by rw [mrg, List.length_cons, mrg_len, List.length_cons]
  | false :: cs, d :: ds => by rw [mrg, List.length_cons, mrg_len, List.length_cons]
  | false :: cs, [] => by rw [mrg, List.length_cons, mrg_len, List.length_cons]
  | [], ds => by rw [show mrg [] ds = [] by simp [mrg]]
theorem mrg_net (s : Str) : ∀ {ps : List Pa} {cs ds : List Bool}, cs.length = ps.length → ds.length = (pick ps cs false).length → net ps (mrg cs ds) s = net ps cs s + net (pick ps cs false) ds s
  | [], [], ds, _, h => by
    rw [show pick [] [] false = [] by simp [pick]] at h ⊢
    rw [show mrg [] ds = [] by simp [mrg]]
    simp [net]
  | [], c :: cs, _, h, _ => by cases h
  | p :: ps, [], _, h, _ => by cases h
  | p :: ps, true :: cs, ds, h, h2 => by
    rw [pick, if_neg (by decide)] at h2 ⊢
    rw [mrg, net, net, mrg_net s (Nat.succ.inj h) h2]
    omega
  | p :: ps, false :: cs, [], h, h2 => by
    rw [pick, if_pos rfl] at h2
    cases h2
  | p :: ps, false :: cs, d :: ds, h, h2 => by
    rw [pick, if_pos rfl] at h2 ⊢
    rw [mrg, net, net, net, mrg_net s (Nat.succ.inj h) (Nat.succ.inj h2), if_neg (show ¬ (false = true) by decide)]
    omega
/-- Pre, told of the head -/
theorem pre_cons {p : Pa} {ps : List Pa} {c : Bool} {cs : List Bool} : Pre (p :: ps) (c :: cs) ↔ (c = true ∨ ∀ (j : Nat) (q : Pa), ps[j]? = some q → p.payer = q.payer → cs[j]? ≠ some true) ∧ Pre ps cs := by
  refine ⟨fun h => ⟨?_, h.tail⟩, fun ⟨h1, h2⟩ => ?_⟩
  · cases c with
    | true => exact .inl rfl
    | false =>
      refine .inr fun j q hq e hj => ?_
      have := h 0 (j + 1) p q (by omega) rfl hq e hj
      cases this
  · intro i j x y ij hx hy e hj
    cases j with
    | zero => omega
    | succ j =>
    cases i with
    | zero =>
      cases hx
      rcases h1 with rfl | h1
      · rfl
      · exact absurd hj (h1 j y hy e)
    | succ i => exact h2 i j x y (by omega) hx hy e hj

--== cut
/-! ### a second choice finds nothing -/
theorem mrg_at : ∀ {ps : List Pa} {cs ds : List Bool} {j : Nat} {q : Pa}, ps[j]? = some q → (mrg cs ds)[j]? = some true → cs.length = ps.length → cs[j]? = some true ∨ ∃ (j' : Nat), (pick ps cs false)[j']? = some q ∧ ds[j']? = some true
  | [], _, _, _, _, h, _, _ => by simp at h
  | p :: ps, [], _, _, _, _, _, h => by cases h
  | p :: ps, true :: cs, ds, 0, q, _, _, _ => .inl rfl
  | p :: ps, true :: cs, ds, j + 1, q, h1, h2, h => by
    rw [mrg] at h2
    rcases mrg_at (ps := ps) (cs := cs) (ds := ds) h1 h2 (Nat.succ.inj h) with y | ⟨j', y1, y2⟩
    · exact .inl y
    · exact .inr ⟨j', by rw [pick, if_neg (by decide)]; exact y1, y2⟩
  | p :: ps, false :: cs, [], 0, q, h1, h2, h => by rw [mrg] at h2; cases h2
  | p :: ps, false :: cs, [], j + 1, q, h1, h2, h => by
    rw [mrg] at h2
    rcases mrg_at (ps := ps) (cs := cs) (ds := []) h1 h2 (Nat.succ.inj h) with y | ⟨j', y1, y2⟩
    · exact .inl y
    · simp at y2
  | p :: ps, false :: cs, d :: ds, 0, q, h1, h2, h => by
    rw [mrg] at h2
    cases h1
    exact .inr ⟨0, by rw [pick, if_pos rfl]; rfl, by simpa using h2⟩
  | p :: ps, false :: cs, d :: ds, j + 1, q, h1, h2, h => by
    rw [mrg] at h2
    rcases mrg_at (ps := ps) (cs := cs) (ds := ds) h1 h2 (Nat.succ.inj h) with y | ⟨j', y1, y2⟩
    · exact .inl y
    · exact .inr ⟨j' + 1, by rw [pick, if_pos rfl]; exact y1, y2⟩
theorem mrg_pre : ∀ {ps : List Pa} {cs ds : List Bool}, cs.length = ps.length → ds.length = (pick ps cs false).length → Pre ps cs → Pre (pick ps cs false) ds → Pre ps (mrg cs ds)
  | [], _, _, _, _, _, _ => fun i j p q _ h => by simp at h
  | p :: ps, [], _, h, _, _, _ => by cases h
  | p :: ps, true :: cs, ds, h, h2, hp, hd => by
    rw [pick, if_neg (by decide)] at h2 hd
    rw [mrg]
    exact pre_cons.mpr ⟨.inl rfl, mrg_pre (Nat.succ.inj h) h2 hp.tail hd⟩
  | p :: ps, false :: cs, [], h, h2, _, _ => by
    rw [pick, if_pos rfl] at h2
    cases h2
  | p :: ps, false :: cs, d :: ds, h, h2, hp, hd => by
    rw [pick, if_pos rfl] at h2 hd
    rw [mrg]
    refine pre_cons.mpr ⟨?_, mrg_pre (Nat.succ.inj h) (Nat.succ.inj h2) hp.tail hd.tail⟩
    cases d with
    | true => exact .inl rfl
    | false =>
      refine .inr fun j q hq e hj => ?_
      rcases mrg_at hq hj (Nat.succ.inj h) with y | ⟨j', y1, y2⟩
      · exact ((pre_cons.mp hp).1.resolve_left (by decide)) j q hq e y
      · exact ((pre_cons.mp hd).1.resolve_left (by decide)) j' q y1 e y2
theorem mrg_at2 : ∀ {cs ds : List Bool} {j' : Nat}, ds[j']? = some true → j' < cs.length → ds.length = (cs.filter (fun c => !c)).length → ∃ (j : Nat), (mrg cs ds)[j]? = some true ∧ cs[j]? = some false
  | [], ds, j', _, h, _ => by simp at h
  | true :: cs, ds, j', h1, _, h3 => by
    have h3 : ds.length = (cs.filter (fun c => !c)).length := by simpa using h3
    have hj : j' < cs.length := by
      have := (List.getElem?_eq_some_iff.mp h1).1
      have := List.length_filter_le (fun c : Bool => !c) cs
      omega
    obtain ⟨j, y1, y2⟩ := mrg_at2 h1 hj h3
    exact ⟨j + 1, by rw [mrg]; exact y1, y2⟩
  | false :: cs, [], j', h1, _, _ => by simp at h1
  | false :: cs, d :: ds, 0, h1, _, _ => ⟨0, by rw [mrg]; simpa using h1, rfl⟩
  | false :: cs, d :: ds, j' + 1, h1, h2, h3 => by
    have h3 : ds.length = (cs.filter (fun c => !c)).length := by simpa using h3
    obtain ⟨j, y1, y2⟩ := mrg_at2 (cs := cs) (ds := ds) (j' := j') h1 (by rw [List.length_cons] at h2; omega) h3
    exact ⟨j + 1, by rw [mrg]; exact y1, y2⟩
theorem pick_cnt : ∀ {ps : List Pa} {cs : List Bool}, cs.length = ps.length → (pick ps cs false).length = (cs.filter (fun c => !c)).length
  | [], [], _ => by simp [pick]
  | [], c :: cs, h => by cases h
  | p :: ps, [], h => by cases h
  | p :: ps, c :: cs, h => by
    have ih := pick_cnt (Nat.succ.inj h)
    rw [pick]
    cases c with
    | true => rw [if_neg (by decide), ih]; rfl
    | false => rw [if_pos rfl, List.length_cons, ih]; rfl
theorem pick_nil : ∀ {ps : List Pa} {cs : List Bool}, (∀ i : Nat, cs[i]? ≠ some true) → pick ps cs true = []
  | [], _, _ => by simp [pick]
  | p :: ps, [], _ => by simp [pick]
  | p :: ps, c :: cs, h => by
    have h0 : c ≠ true := fun z => h 0 (by rw [z]; rfl)
    rw [pick, if_neg h0]
    exact pick_nil fun i => h (i + 1)
theorem pick_all : ∀ {ps : List Pa} {cs : List Bool}, cs.length = ps.length → (∀ i : Nat, cs[i]? ≠ some true) → pick ps cs false = ps
  | [], [], _, _ => by simp [pick]
  | [], c :: cs, h, _ => by cases h
  | p :: ps, [], h, _ => by cases h
  | p :: ps, c :: cs, hl, h => by
    have h0 : c = false := by
      cases c with
      | false => rfl
      | true => exact absurd rfl (h 0)
    rw [pick, if_pos h0, pick_all (Nat.succ.inj hl) fun i => h (i + 1)]
theorem second_none {bs fl : Bal} (nd : (bs.map (·.1)).Nodup) {ps : List Pa} {cs ds : List Bool} (ha : ∀ p ∈ ps, 0 ≤ p.amount) (hr : Rch bs fl ps cs) (hr2 : Rch (balF bs (FN bs ps cs)) fl (pick ps cs false) ds) (hs : short (balF (balF bs (FN bs ps cs)) (FN (balF bs (FN bs ps cs)) (pick ps cs false) ds)) fl = none) : ∀ i : Nat, ds[i]? ≠ some true := by
  have hsub : Sub (mrg cs ds) cs := by
    refine hr.largest ha (by rw [mrg_len]; exact hr.len) (mrg_pre hr.len hr2.len hr.pre hr2.pre) fun s hsn => ?_
    rw [mrg_net s hr.len hr2.len]
    have hm : (s, FN (balF bs (FN bs ps cs)) (pick ps cs false) ds s) ∈ balF (balF bs (FN bs ps cs)) (FN (balF bs (FN bs ps cs)) (pick ps cs false) ds) := by
      obtain ⟨y, hy, e⟩ := List.mem_map.mp hsn
      unfold balF
      rw [List.map_map]
      exact List.mem_map.mpr ⟨y, hy, by show (y.1, _) = _; rw [e]⟩
    have := short_none hs _ hm
    dsimp only at this
    have e : FN (balF bs (FN bs ps cs)) (pick ps cs false) ds s = FN bs ps cs s + net (pick ps cs false) ds s := by
      show f0 (balF bs (FN bs ps cs)) s + _ = _
      unfold f0
      rw [val_balF hsn]
      rfl
    rw [e] at this
    unfold FN at this
    omega
  intro i hi
  have hi2 : i < cs.length := by
    have h1 := (List.getElem?_eq_some_iff.mp hi).1
    have h2 := hr2.len
    have h3 := pick_len (b := false) (ps := ps) (cs := cs)
    have h4 := hr.len
    omega
  obtain ⟨j, y1, y2⟩ := mrg_at2 hi hi2 (by rw [hr2.len, pick_cnt hr.len])
  have := hsub j y1
  rw [y2] at this
  cases this

--== cut
/-! ### settled: chosen ones in their order, first ones of their payer -/
theorem eqD_pa {p q : Pa} (hp : POk p) (hq : POk q) : Mi.fEqD (paD p) (paD q) = some (.bl (decide (p = q))) := by
  unfold Mi.fEqD
  rw [pd_pa, pd_pa]
  dsimp only
  rw [if_pos ⟨sh_pa hp, sh_pa hq⟩, eqv_pa]
theorem pick_app {b : Bool} : ∀ {A B : List Pa} {C D : List Bool}, C.length = A.length → pick (A ++ B) (C ++ D) b = pick A C b ++ pick B D b
  | [], B, [], D, _ => by simp [pick]
  | [], _, c :: C, _, h => by cases h
  | p :: A, _, [], _, h => by cases h
  | p :: A, B, c :: C, D, h => by
    rw [List.cons_append, List.cons_append, pick, pick, pick_app (A := A) (C := C) (Nat.succ.inj h)]
    split
    · rw [List.cons_append]
    · rfl
theorem pick_at {b : Bool} {p : Pa} : ∀ {ps : List Pa} {cs : List Bool}, p ∈ pick ps cs b → ∃ (i : Nat), ps[i]? = some p ∧ cs[i]? = some b
  | [], _, h => by simp [pick] at h
  | q :: ps, [], h => by simp [pick] at h
  | q :: ps, c :: cs, h => by
    rw [pick] at h
    by_cases y : c = b
    · rw [if_pos y] at h
      rcases List.mem_cons.mp h with rfl | h
      · exact ⟨0, rfl, by rw [y]; rfl⟩
      · obtain ⟨i, h1, h2⟩ := pick_at h
        exact ⟨i + 1, h1, h2⟩
    · rw [if_neg y] at h
      obtain ⟨i, h1, h2⟩ := pick_at h
      exact ⟨i + 1, h1, h2⟩
def sdSt (o : Nat) (nms : List Str) (g : Str → Nat) (ps : List Pa) (x3 : Option Mi.SV) (L : List Pa) (at' : Nat) (lf : List Pa) (x8 : Option Mi.SV) (S : List Mi.Ob) : Mi.St := ⟨[some (.dat (.ob o)), some (.dat (.lst (toldG nms g))), some (.io 0), x3, some (.dat (.lst (L.map paD))), some (.dat (.int (at' : Int))), some (.own (.lst (lf.map paD))), some (.own (.lst ((lf.map Pa.payer).map Mi.D.str))), x8], [.lst (ps.map paD)], S⟩
def invSd (o : Nat) (nms : List Str) (g : Str → Nat) (ps : List Pa) (cs : List Bool) (x3 : Option Mi.SV) (S : List Mi.Ob) : List Mi.D → Mi.St → Prop := fun r st => ∃ (dn us : List Pa) (dc uc : List Bool) (x8 : Option Mi.SV), st = sdSt o nms g ps x3 (pick ps cs true) (pick dn dc true).length (pick dn dc false) x8 S ∧ ps = dn ++ us ∧ cs = dc ++ uc ∧ dc.length = dn.length ∧ r = us.map paD
theorem settled_f4 {o : Nat} {nms : List Str} {g : Str → Nat} {ps : List Pa} {cs : List Bool} (hl : ps.length < 100) (hcl : cs.length = ps.length) (hp : Pre ps cs) (kn : (ps.map Pa.key).Nodup) (ok : ∀ p ∈ ps, POk p) (x3 : Option Mi.SV) (S : List Mi.Ob) : Mi.RpI (b_L_settled_f4 (sdSt o nms g ps x3 (pick ps cs true) 0 [] none S)) (Mi.SqEnd (invSd o nms g ps cs x3 S []) (fun _ _ => False)) (fun _ _ => False) := by
  refine Mi.RpI.of ?_
  unfold b_L_settled_f4
  with_reducible refine Mi.rp_lst_pk (invSd o nms g ps cs x3 S) ?_ ?_ ?_
  · unfold sdSt
    walk_at "go"
    refine ⟨⟨[], ps, [], cs, none, ?_, rfl, rfl, rfl, rfl⟩, fun r st' gg => ?_⟩
    · rfl
    · obtain ⟨dn, us, dc, uc, x8, rfl, _⟩ := gg
      rfl
  · intro d r st gg
    with_reducible refine Mi.RpI.to ?_
    obtain ⟨dn, us, dc, uc, x8, rfl, he, hc, hd, hr⟩ := gg
    cases us with
    | nil => cases hr
    | cons p us =>
    cases hr
    obtain ⟨c, uc, rfl⟩ : ∃ c uc', uc = c :: uc' := by
      cases uc with
      | nil =>
        have h1 := congrArg List.length he
        have h2 := congrArg List.length hc
        rw [List.length_append, List.length_cons] at h1
        rw [List.length_append, List.length_nil] at h2
        omega
      | cons c uc => exact ⟨c, uc, rfl⟩
    have hpm : p ∈ ps := by rw [he]; simp
    have hdone : pick ps cs true = pick dn dc true ++ pick (p :: us) (c :: uc) true := by rw [he, hc, pick_app hd]
    have hlen : ∀ b, (pick dn dc b).length < sizeLine := fun b => by
      have := pick_len (b := b) (ps := dn) (cs := dc)
      have h1 := congrArg List.length he
      rw [List.length_append] at h1
      exact Nat.lt_of_le_of_lt (show _ ≤ 100 by omega) (by decide)
    have hat : ps[dn.length]? = some p := by rw [he, List.getElem?_append_right (Nat.le_refl _), Nat.sub_self]; rfl
    have hct : cs[dn.length]? = some c := by rw [hc, ← hd, List.getElem?_append_right (Nat.le_refl _), Nat.sub_self]; rfl
    refine Mi.RpI.of ?_
    unfold b_L_settled_3 sdSt
    cases c with
    | true =>
      have hns : ¬ p.payer ∈ (pick dn dc false).map Pa.payer := by
        intro z
        obtain ⟨q, hq, e⟩ := List.mem_map.mp z
        obtain ⟨i, h1, h2⟩ := pick_at hq
        have i1 := (List.getElem?_eq_some_iff.mp h1).1
        have g1 : ps[i]? = some q := by rw [he, List.getElem?_append_left i1]; exact h1
        have g2 : cs[i]? = some false := by rw [hc, List.getElem?_append_left (by omega)]; exact h2
        have := hp i dn.length q p i1 g1 hat e hct
        rw [g2] at this
        cases this
      have hdone : pick ps cs true = pick dn dc true ++ p :: pick us uc true := by rw [hdone, pick, if_pos rfl]
      have ei : atI ((pick ps cs true).map paD) ((pick dn dc true).length : Int) = some (paD p) := atI_nat (by rw [List.getElem?_map, hdone, List.getElem?_append_right (Nat.le_refl _), Nat.sub_self]; rfl)
      have hlt : (pick dn dc true).length < (pick ps cs true).length := by rw [hdone, List.length_append, List.length_cons]; omega
      walk_at "go"
      rw [if_pos (by rw [List.length_map]; omega)]
      refine ⟨_, ei, _, rfl, .bl true, rfl, true, rfl, ?_⟩
      rw [if_pos rfl]
      refine ⟨_, ei, _, rfl, _, rfl, _, eqD_pa (ok p hpm) (ok p hpm), _, rfl, ?_⟩
      rw [if_pos (by simp)]
      unfold b_L_settled_1
      walk_at "go"
      with_reducible refine Mi.rp_cut (fun st => st = sdSt o nms g ps x3 (pick ps cs true) (pick dn dc true).length (pick dn dc false) (some (.dat (paD p))) S) ?_ ?_
      · walk_at "go"
        have e0 : decide (p.payer ∈ (pick dn dc false).map Pa.payer) = false := decide_eq_false hns
        refine ⟨_, rfl, _, Mi.atI_c1, _, rfl, _, Mi.in_strsL _ _ _, _, rfl, ?_⟩
        rw [if_neg (by rw [if_neg (show ¬ (false = true) by decide), e0]; decide)]
        rfl
      intro st gg
      with_reducible refine Mi.RpI.to ?_
      subst gg
      refine Mi.RpI.of ?_
      unfold sdSt
      walk_at "go"
      have f1 : pick (dn ++ [p]) (dc ++ [true]) true = pick dn dc true ++ [p] := by rw [pick_snoc hd, if_pos rfl]
      have f2 : pick (dn ++ [p]) (dc ++ [true]) false = pick dn dc false := by rw [pick_snoc hd, if_neg (by decide), List.append_nil]
      refine ⟨dn ++ [p], us, dc ++ [true], uc, some (.dat (paD p)), ?_, by simp [he], by simp [hc], by simp [hd], rfl⟩
      unfold sdSt
      rw [f1, f2, List.length_append, List.length_singleton, Int.natCast_add]
      rfl
    | false =>
      have h2 : Mi.RpI (b_L_settled_2 (sdSt o nms g ps x3 (pick ps cs true) (pick dn dc true).length (pick dn dc false) (some (.dat (paD p))) S)) (Mi.LpEnd (invSd o nms g ps cs x3 S (us.map paD)) (fun _ _ => False)) (fun _ _ => False) := by
        refine Mi.RpI.of ?_
        unfold b_L_settled_2 sdSt
        walk_at "go"
        have f1 : pick (dn ++ [p]) (dc ++ [false]) true = pick dn dc true := by rw [pick_snoc hd, if_neg (by decide), List.append_nil]
        have f2 : pick (dn ++ [p]) (dc ++ [false]) false = pick dn dc false ++ [p] := by rw [pick_snoc hd, if_pos rfl]
        refine ⟨by rw [List.length_map]; exact hlen false, _, rfl, _, Mi.atI_c1, by rw [List.length_map, List.length_map]; exact hlen false, dn ++ [p], us, dc ++ [false], uc, some (.dat (paD p)), ?_, by simp [he], by simp [hc], by simp [hd], rfl⟩
        unfold sdSt
        rw [f1, f2, List.map_append, List.map_append, List.map_append]
        rfl
      unfold sdSt at h2
      walk_at "go"
      by_cases y : (pick dn dc true).length < (pick ps cs true).length
      · rw [if_pos (by rw [List.length_map]; omega)]
        have hdone : pick ps cs true = pick dn dc true ++ pick us uc true := by rw [hdone, pick, if_neg (by decide)]
        obtain ⟨q, eq, hq⟩ : ∃ q, (pick ps cs true)[(pick dn dc true).length]? = some q ∧ q ∈ us := by
          rw [hdone, List.length_append] at y
          refine ⟨(pick us uc true)[0]'(by omega), ?_, pick_mem (List.getElem_mem _)⟩
          rw [hdone, List.getElem?_append_right (Nat.le_refl _), Nat.sub_self]
          exact List.getElem?_eq_getElem _
        have hqp : q ∈ ps := by rw [he]; exact List.mem_append_right _ (List.mem_cons_of_mem _ hq)
        have hne : ¬ q = p := by
          intro z
          subst z
          rw [he, List.map_append, List.map_cons, List.nodup_append, List.nodup_cons] at kn
          exact kn.2.1.1 (List.mem_map_of_mem hq)
        have ei : atI ((pick ps cs true).map paD) ((pick dn dc true).length : Int) = some (paD q) := atI_nat (by rw [List.getElem?_map, eq]; rfl)
        refine ⟨_, ei, _, rfl, .bl true, rfl, true, rfl, ?_⟩
        rw [if_pos rfl]
        refine ⟨_, ei, _, rfl, _, rfl, _, eqD_pa (ok q hqp) (ok p hpm), _, rfl, ?_⟩
        rw [if_neg (by simp [hne])]
        exact Mi.lpW h2.to
      · rw [if_neg (by rw [List.length_map]; omega)]
        exact Mi.lpW h2.to
  · intro st gg
    exact gg
def sumA (L : List Pa) : Int := 1000000000 * (L.length : Int)
theorem esum_le {s : Str} : ∀ {L : List Pa}, (∀ p ∈ L, 0 ≤ p.amount ∧ p.amount ≤ 1000000000) → esum L s ≤ sumA L
  | [], _ => Int.le_refl _
  | p :: L, h => by
    have ih := esum_le (s := s) fun q hq => h q (List.mem_cons_of_mem _ hq)
    have hp := h p List.mem_cons_self
    unfold sumA at ih ⊢
    rw [esum, List.length_cons]
    unfold ef
    split <;> split <;> omega
theorem settled_eq {S : List Mi.Ob} {o b f q k : Nat} {bs flB : Bal} {ps : List Pa} {ks : List Str} (W : Wd S o bs flB ps ks) (hC : Cl S o b f q k bs flB ps ks) (hl : ps.length < 100) {nms : List Str} (nd : nms.Nodup) {g : Str → Nat} {fl u : Str → Int} (R : Rows S nms g fl u) (hq : ∀ s ∈ nms, g s ≠ q) (T : Tl nms bs flB fl u) : ∃ cs b' q' S', m_L_settled [.dat (.ob o), .dat (.lst (toldG nms g)), .io 0] [.lst (ps.map paD)] S = .ok (.new (.lst ((pick ps cs false).map paD))) [.lst (ps.map paD)] S' ∧ Cl S' o b' f q' k (balF bs (FN bs ps cs)) flB (pick ps cs false) ks ∧ Wd S' o (balF bs (FN bs ps cs)) flB (pick ps cs false) ks ∧ Rows S' nms g fl (fun s => u s + esum (pick ps cs true) s) ∧ (∀ s ∈ nms, g s ≠ q') ∧ Tl nms (balF bs (FN bs ps cs)) flB fl (fun s => u s + esum (pick ps cs true) s) ∧ (∀ s ∈ nms, fl s ≤ u s + esum (pick ps cs true) s) ∧ Rch bs flB ps cs ∧ short (balF bs (FN bs ps cs)) flB = none := by
  obtain ⟨cs, b', q', S1, est, hC1, W1, hr, hsh, hlow, hq1⟩ := wd_settle W hC hl
  have okW : ∀ p ∈ ps, POk p := fun p hp => (W.pa p hp).2.2.1
  have hgl : ∀ s ∈ nms, g s < S.length := fun s hs => (List.getElem?_eq_some_iff.mp (R.pl s hs)).1
  have R1 : Rows S1 nms g fl u := R.keep fun s hs => by
    rw [R.pl s hs]
    exact hlow _ _ (hgl s hs) (R.pl s hs) (R.off hC hq hs).1
  have hq2 : ∀ s ∈ nms, g s ≠ q' := fun s hs => by have := hgl s hs; omega
  obtain ⟨S2, emv, R2, hS2, hl2⟩ := moved_eq nd (pick ps cs true) R1
  have hC2 := hC1.same (S' := S2) fun j hj => hS2 j fun s hs => by
    obtain ⟨o1, o2, o3, o4, o5⟩ := R1.off hC1 hq2 hs
    rcases hj with rfl | rfl | rfl | rfl | rfl
    · exact Ne.symm o1
    · exact Ne.symm o2
    · exact Ne.symm o3
    · exact Ne.symm o4
    · exact Ne.symm o5
  have hFN : ∀ s ∈ nms, FN bs ps cs s = u s + esum (pick ps cs true) s := fun s hs => by
    rw [esum_pick]
    unfold FN f0
    rw [T.bu s hs]
    rfl
  have T2 : Tl nms (balF bs (FN bs ps cs)) flB fl (fun s => u s + esum (pick ps cs true) s) := ⟨by rw [balF_fst]; exact T.nm, fun s hs => by rw [val_balF (by rw [T.nm]; exact hs), hFN s hs], T.bf⟩
  have hf2 : ∀ s ∈ nms, fl s ≤ u s + esum (pick ps cs true) s := fun s hs => by
    have := W1.hf s _ (T2.bu s hs)
    rw [T.bf s hs] at this
    exact this
  have eag := agrees_eq hC2 R2 T2 hf2
  refine ⟨cs, b', q', S2, ?_, hC2, ⟨⟨b', f, q', k, hC2⟩, W1.hf, W1.pa, W1.kn⟩, R2, hq2, T2, hf2, hr, hsh⟩
  refine Mi.run_isN ?_
  have c0 := hC.c0
  have c1 := hC1.c0
  have h4 := settled_f4 (o := o) (nms := nms) (g := g) hl hr.len hr.pre W.kn okW (some (.own (.lst ((pick ps cs true).map paD ++ [.tup [.str "more", .str "a", .str "b", .int 1]])))) S1
  unfold sdSt at h4
  unfold b_L_settled
  walk_at "go"
  refine Mi.rp_callM est rfl rfl Mi.nod0 rfl rfl ?_
  walk_at "go"
  with_reducible refine Mi.rp_cut (fun st => st = ⟨[some (.dat (.ob o)), some (.dat (.lst (toldG nms g))), some (.io 0), some (.own (.lst ((pick ps cs true).map paD))), none, none, none, none, none], [.lst (ps.map paD)], S1⟩) ?_ ?_
  · walk_at "go"
  intro st gg
  with_reducible refine Mi.RpI.to ?_
  subst gg
  refine Mi.RpI.of ?_
  walk_at "go"
  have hpl := pick_len (b := true) (ps := ps) (cs := cs)
  refine ⟨_, rfl, ?_⟩
  walk_at "go"
  refine ⟨Nat.lt_of_le_of_lt (show _ ≤ 100 by rw [List.length_map]; omega) (by decide), ?_⟩
  walk_at "go"
  refine Mi.sqG (Mi.RpI.to h4) ?_
  intro st gg
  with_reducible refine Mi.RpI.to ?_
  obtain ⟨dn, us, dc, uc, x8, rfl, he, hc, hd, hr'⟩ := gg
  have hus : us = [] := by
    cases us with
    | nil => rfl
    | cons p us => cases hr'
  subst hus
  rw [List.append_nil] at he
  subst he
  have huc : uc = [] := by
    have h1 := congrArg List.length hc
    rw [List.length_append, hr.len, hd] at h1
    exact List.length_eq_zero_iff.mp (by omega)
  subst huc
  rw [List.append_nil] at hc
  subst hc
  refine Mi.RpI.of ?_
  unfold sdSt
  with_reducible refine Mi.rp_cut (fun st => st = sdSt o nms g ps (some (.own (.lst ((pick ps cs true).map paD ++ [.tup [.str "more", .str "a", .str "b", .int 1]])))) (pick ps cs true) (pick ps cs true).length (pick ps cs false) x8 S1) ?_ ?_
  · walk_at "go"
    rw [if_neg (not_not_intro (by rw [List.length_map]))]
    walk_at "go"
    refine Mi.rp_callM (queue_eq hC1) rfl rfl Mi.nod0 rfl rfl ?_
    walk_at "go"
    have nl : Nice 2 (.lst ((pick ps cs false).map paD)) := nice_lst fun d hd => by
      obtain ⟨p, hp, rfl⟩ := List.mem_map.mp hd
      exact pa_nice (okW p (pick_mem hp))
    exact ⟨_, neD_self nl (by decide), false, rfl, by rw [if_neg (by decide)]; rfl⟩
  intro st gg
  with_reducible refine Mi.RpI.to ?_
  subst gg
  refine Mi.RpI.of ?_
  unfold sdSt
  walk_at "go"
  refine Mi.rp_callM emv rfl rfl Mi.nod0 rfl rfl ?_
  walk_at "go"
  with_reducible refine Mi.rp_cut (fun st => st = sdSt o nms g ps (some (.own (.lst ((pick ps cs true).map paD ++ [.tup [.str "more", .str "a", .str "b", .int 1]])))) (pick ps cs true) (pick ps cs true).length (pick ps cs false) x8 S2) ?_ ?_
  · walk_at "go"
    refine Mi.rp_callM eag rfl rfl Mi.nod0 rfl rfl ?_
    walk_at "go"
    rfl
  intro st gg
  with_reducible refine Mi.RpI.to ?_
  subst gg
  refine Mi.RpI.of ?_
  unfold sdSt
  walk_at "go"

--== cut
/-! ### members filled, their rows in boxes -/
def fdSt (nm : List (List Nat)) (told : List Mi.D) (sc : Int) (x5 x6 x7 : Option Mi.SV) (b : Mi.BX) (o : Nat) (S : List Mi.Ob) : Mi.St := ⟨[some (.io 0), some (.dat (.lst (sts nm))), some (.dat (.ob o)), some (.own (.lst told)), some (.dat (.int sc)), x5, x6, x7], [b], S⟩
def invFd (nm : List (List Nat)) (sc : Int) (o : Nat) : List Mi.D → Mi.St → Prop := fun r st => ∃ (dn us : List (List Nat)) (bs flB : Bal) (fl u : Str → Int) (g : Str → Nat) (x5 x6 x7 : Option Mi.SV) (b : Mi.BX) (q1 q2 q3 q4 : Nat) (S : List Mi.Ob), st = fdSt nm (toldG (dn.map SX.S) g) sc x5 x6 x7 b o S ∧ Sr b ∧ nm = dn ++ us ∧ r = sts us ∧ Cl S o q1 q2 q3 q4 bs flB [] [] ∧ HF bs flB ∧ Tl (dn.map SX.S) bs flB fl u ∧ Rows S (dn.map SX.S) g fl u ∧ (∀ s ∈ dn.map SX.S, g s ≠ q3) ∧ ∀ s ∈ dn.map SX.S, u s ≤ 1000000000 ∧ -1000000000 ≤ fl s
theorem Cl.more {S : List Mi.Ob} {o b f q k : Nat} {bs fl : Bal} {ps : List Pa} {ks : List Str} (h : Cl S o b f q k bs fl ps ks) (x : Mi.Ob) : Cl (S ++ [x]) o b f q k bs fl ps ks := h.same fun j hj => by
  refine List.getElem?_append_left ?_
  rcases hj with rfl | rfl | rfl | rfl | rfl
  · exact (List.getElem?_eq_some_iff.mp h.c0).1
  · exact (List.getElem?_eq_some_iff.mp h.cb).1
  · exact (List.getElem?_eq_some_iff.mp h.cf).1
  · exact (List.getElem?_eq_some_iff.mp h.cq).1
  · exact (List.getElem?_eq_some_iff.mp h.ck).1
theorem toldG_ext {nms : List Str} {g g' : Str → Nat} (h : ∀ s ∈ nms, g s = g' s) : toldG nms g = toldG nms g' := by
  unfold toldG
  refine List.map_congr_left fun s hs => ?_
  rw [h s hs]
theorem filled_f2 {nm : List (List Nat)} (hn : nm.length ≤ 6) (nok : ∀ l ∈ nm, NmOk l) (nd : nm.Nodup) {sc : Int} (s0 : 1 ≤ sc) (s1 : sc ≤ 1000000000) {o q1 q2 q3 q4 : Nat} {b : Mi.BX} (hb : Sr b) {S : List Mi.Ob} (hC : Cl S o q1 q2 q3 q4 [] [] [] []) : Mi.RpI (b_L_filled_f2 (fdSt nm [] sc none none none b o S)) (Mi.SqEnd (invFd nm sc o []) (fun _ _ => False)) (fun _ _ => False) := by
  refine Mi.RpI.of ?_
  unfold b_L_filled_f2
  with_reducible refine Mi.rp_lst_it (invFd nm sc o) ?_ ?_ ?_
  · unfold fdSt
    walk_at "go"
    exact ⟨[], nm, [], [], fun _ => 0, fun _ => 0, fun _ => 0, _, _, _, b, q1, q2, q3, q4, S, rfl, hb, rfl, rfl, hC, fun s z h => (by cases h), ⟨rfl, fun s h => (by cases h), fun s h => (by cases h)⟩, ⟨fun s h => (by cases h), fun s h => (by cases h)⟩, fun s h => (by cases h), fun s h => (by cases h)⟩
  · intro d rr st gg
    with_reducible refine Mi.RpI.to ?_
    obtain ⟨dn, us, bs, flB, fl, u, g, x5, x6, x7, b, q1, q2, q3, q4, S, rfl, hb, he, hr, hC, hF, hT, hR, hq, hbd⟩ := gg
    cases us with
    | nil => cases hr
    | cons l us =>
    cases hr
    have hlen : bs.length = dn.length := by have := congrArg List.length hT.nm; rw [List.length_map, List.length_map] at this; exact this
    have h6 : bs.length < 6 := by have := hn; rw [he, List.length_append, List.length_cons] at this; omega
    obtain ⟨a, b1, e1, a0, a1, hb1⟩ := pick_eq hb (many := sc) (by omega) (by omega) S
    obtain ⟨w, b2, e2, w0, w1, hb2⟩ := pick_eq hb1 (many := 2) (by omega) (by omega) S
    obtain ⟨y, b3, e3, y0, y1, hb3⟩ := pick_eq hb2 (many := sc) (by omega) (by omega) S
    obtain ⟨z, hz, z0, z1⟩ : ∃ z : Int, atI [Mi.D.int 0, .int (0 - a)] w = some (.int z) ∧ -1000000000 ≤ z ∧ z ≤ 0 := by
      rcases (by omega : w = 0 ∨ w = 1) with rfl | rfl
      · exact ⟨0, Mi.atI_c0, by omega, by omega⟩
      · exact ⟨0 - a, Mi.atI_c1, by omega, by omega⟩
    have hs := nms_next he nd hT.nm
    obtain ⟨S1, S2, ea, hC1, ef, hC2, hF2, hn2, hfr, hl2⟩ := mem_add2 hC hF (nok l (by rw [he]; simp)) hs h6 (z := z) (y := y) ⟨z0, z1⟩ (by omega)
    have c0 := hC.c0
    have c1 := hC1.c0
    refine Mi.RpI.of ?_
    unfold b_L_filled_1 fdSt
    walk_at "go"
    refine Mi.rp_callM e1 rfl rfl Mi.nod1 rfl rfl ?_
    walk_at "go"
    refine Mi.rp_callM e2 rfl rfl Mi.nod1 rfl rfl ?_
    walk_at "go"
    refine ⟨_, hz, ?_⟩
    walk_at "go"
    refine Mi.rp_callM e3 rfl rfl Mi.nod1 rfl rfl ?_
    walk_at "go"
    refine Mi.rp_callM ea rfl rfl Mi.nod0 rfl rfl ?_
    walk_at "go"
    refine Mi.rp_callM ef rfl rfl Mi.nod0 rfl rfl ?_
    walk_at "go"
    have etd : toldG (dn.map SX.S) g ++ [.ob S2.length] = toldG ((dn ++ [l]).map SX.S) (upd g (SX.S l) S2.length) := by
      rw [List.map_append, toldG_ext (nms := dn.map SX.S) (g' := upd g (SX.S l) S2.length)]
      · unfold toldG
        rw [List.map_append]
        congr 1
        unfold upd
        simp
      · intro t ht
        have : t ≠ SX.S l := fun w => hs (by rw [hT.nm, ← w]; exact ht)
        unfold upd
        rw [if_neg this]
    rw [etd]
    have hgl : ∀ t ∈ dn.map SX.S, g t < S2.length := fun t ht => by rw [hl2]; exact (List.getElem?_eq_some_iff.mp (hR.pl t ht)).1
    have hns : ∀ t ∈ dn.map SX.S, t ≠ SX.S l := fun t ht w => hs (by rw [hT.nm, ← w]; exact ht)
    have cas : ∀ t ∈ (dn ++ [l]).map SX.S, t = SX.S l ∨ t ∈ dn.map SX.S := fun t ht => by
      rw [List.map_append] at ht
      rcases List.mem_append.mp ht with ht | ht
      · exact .inr ht
      · exact .inl (by simpa using ht)
    have hRn : Rows (S2 ++ [.bx (.lst [.str (SX.S l), .int z, .int y])]) ((dn ++ [l]).map SX.S) (upd g (SX.S l) S2.length) (upd fl (SX.S l) z) (upd u (SX.S l) y) := by
      refine ⟨fun t ht => ?_, fun t ht w hw e => ?_⟩
      · unfold rwB upd
        rcases cas t ht with rfl | ht
        · rw [if_pos rfl, if_pos rfl, if_pos rfl, List.getElem?_append_right (Nat.le_refl _), Nat.sub_self]
          rfl
        · rw [if_neg (hns t ht), if_neg (hns t ht), if_neg (hns t ht), List.getElem?_append_left (hgl t ht)]
          obtain ⟨o1, o2, o3, o4, o5⟩ := hR.off hC hq ht
          rw [hfr _ o2 o3]
          exact hR.pl t ht
      · unfold upd at e
        rcases cas t ht with rfl | ht <;> rcases cas w hw with rfl | hw
        · rfl
        · rw [if_pos rfl, if_neg (hns w hw)] at e
          have := hgl w hw
          omega
        · rw [if_neg (hns t ht), if_pos rfl] at e
          have := hgl t ht
          omega
        · rw [if_neg (hns t ht), if_neg (hns w hw)] at e
          exact hR.inj t ht w hw e
    have hqn : ∀ t ∈ (dn ++ [l]).map SX.S, upd g (SX.S l) S2.length t ≠ q3 := fun t ht => by
      unfold upd
      rcases cas t ht with rfl | ht
      · rw [if_pos rfl]
        have := (List.getElem?_eq_some_iff.mp hC2.cq).1
        omega
      · rw [if_neg (hns t ht)]
        exact hq t ht
    have hbn : ∀ t ∈ (dn ++ [l]).map SX.S, upd u (SX.S l) y t ≤ 1000000000 ∧ -1000000000 ≤ upd fl (SX.S l) z t := fun t ht => by
      unfold upd
      rcases cas t ht with rfl | ht
      · rw [if_pos rfl, if_pos rfl]; omega
      · rw [if_neg (hns t ht), if_neg (hns t ht)]; exact hbd t ht
    have hTn : Tl ((dn ++ [l]).map SX.S) (updB (bs ++ [(SX.S l, 0)]) (SX.S l) y) (flB ++ [(SX.S l, z)]) (upd fl (SX.S l) z) (upd u (SX.S l) y) := by
      have v0 := val_none hs
      have w0 : val flB (SX.S l) = none := val_none (by rw [← hC.nm]; exact hs)
      refine ⟨by rw [hn2, hT.nm, List.map_append]; rfl, fun t ht => ?_, fun t ht => ?_⟩
      · rw [val_updB, bval_app]
        unfold upd
        by_cases c : t = SX.S l
        · rw [if_pos c, c, v0]
          simp
        · rw [List.map_append] at ht
          have ht' : t ∈ dn.map SX.S := (List.mem_append.mp ht).resolve_right (by simpa using c)
          rw [if_neg c, hT.bu t ht']
          simp [c]
      · rw [bval_app]
        unfold upd
        by_cases c : t = SX.S l
        · rw [if_pos c, c, w0]
          simp
        · rw [List.map_append] at ht
          have ht' : t ∈ dn.map SX.S := (List.mem_append.mp ht).resolve_right (by simpa using c)
          rw [if_neg c, hT.bf t ht']
    have hdl : dn.length ≤ 6 := by omega
    exact ⟨Nat.lt_of_le_of_lt (show _ ≤ 6 by unfold toldG; rw [List.length_map, List.length_map]; exact hdl) (by decide), dn ++ [l], us, _, _, upd fl (SX.S l) z, upd u (SX.S l) y, upd g (SX.S l) S2.length, _, _, _, b3, q1, q2, q3, q4, _, rfl, hb3, by simp [he], rfl, hC2.more _, hF2, hTn, hRn, hqn, hbn⟩
  · intro st g
    exact g
theorem at_new {S L : List Mi.Ob} (i : Nat) : (S ++ L)[S.length + i]? = L[i]? := by
  rw [List.getElem?_append_right (by omega)]
  congr 1
  omega
theorem cl_new (S : List Mi.Ob) : Cl (S ++ [.ins "Clearing" (clFs (S.length + 1) (S.length + 2) (S.length + 3) (S.length + 4)), .bx (.dct []), .bx (.dct []), .bx (.lst []), .bx (.dct [])]) S.length (S.length + 1) (S.length + 2) (S.length + 3) (S.length + 4) [] [] [] [] :=
  ⟨at_new 0, at_new 1, at_new 2, at_new 3, at_new 4, by omega, by omega, by omega, rfl, List.nodup_nil, by decide, by decide, by decide⟩
theorem filled_eq {nm : List (List Nat)} (hn : nm.length ≤ 6) (nok : ∀ l ∈ nm, NmOk l) (nd : nm.Nodup) {b : Mi.BX} (hb : Sr b) (S : List Mi.Ob) : ∃ (sc : Int) (fl u : Str → Int) (g : Str → Nat) (b' : Mi.BX) (S' : List Mi.Ob) (bs flB : Bal) (q1 q2 q3 q4 : Nat), m_L_filled [.io 0, .dat (.lst (sts nm))] [b] S = .ok (.dat (.lst [.ob S.length, .lst (toldG (nm.map SX.S) g), .int sc])) [b'] S' ∧ 1 ≤ sc ∧ sc ≤ 1000000000 ∧ Sr b' ∧ Cl S' S.length q1 q2 q3 q4 bs flB [] [] ∧ HF bs flB ∧ Tl (nm.map SX.S) bs flB fl u ∧ Rows S' (nm.map SX.S) g fl u ∧ (∀ s ∈ nm.map SX.S, g s ≠ q3) ∧ ∀ s ∈ nm.map SX.S, u s ≤ 1000000000 ∧ -1000000000 ≤ fl s := by
  have : ∃ d io' S', m_L_filled [.io 0, .dat (.lst (sts nm))] [b] S = .ok (.dat d) io' S' ∧ ∃ (sc : Int) (fl u : Str → Int) (g : Str → Nat) (b' : Mi.BX) (bs flB : Bal) (q1 q2 q3 q4 : Nat), d = .lst [.ob S.length, .lst (toldG (nm.map SX.S) g), .int sc] ∧ io' = [b'] ∧ 1 ≤ sc ∧ sc ≤ 1000000000 ∧ Sr b' ∧ Cl S' S.length q1 q2 q3 q4 bs flB [] [] ∧ HF bs flB ∧ Tl (nm.map SX.S) bs flB fl u ∧ Rows S' (nm.map SX.S) g fl u ∧ (∀ s ∈ nm.map SX.S, g s ≠ q3) ∧ ∀ s ∈ nm.map SX.S, u s ≤ 1000000000 ∧ -1000000000 ≤ fl s := by
    refine Mi.all_run ?_
    obtain ⟨r, b1, e1, r0, r1, hb1⟩ := pick_eq hb (many := 3) (by decide) (by decide) (S ++ [.ins "Clearing" (clFs (S.length + 1) (S.length + 2) (S.length + 3) (S.length + 4)), .bx (.dct []), .bx (.dct []), .bx (.lst []), .bx (.dct [])])
    obtain ⟨sc, hsc, sc0, sc1⟩ : ∃ m : Int, atI [Mi.D.int 5, .int 100, .int 1000000000] r = some (.int m) ∧ 1 ≤ m ∧ m ≤ 1000000000 := by
      rcases (by omega : r = 0 ∨ r = 1 ∨ r = 2) with rfl | rfl | rfl
      · exact ⟨5, Mi.atI_c0, by omega, by omega⟩
      · exact ⟨100, Mi.atI_c1, by omega, by omega⟩
      · exact ⟨1000000000, Mi.atI_c2, by omega, by omega⟩
    unfold b_L_filled
    walk_at "go"
    refine Mi.rp_callM (cinit_eq S) rfl rfl Mi.nod0 rfl rfl ?_
    walk_at "go"
    refine Mi.rp_callM e1 rfl rfl Mi.nod1 rfl rfl ?_
    walk_at "go"
    refine ⟨_, hsc, ?_⟩
    walk_at "go"
    have h2 := filled_f2 hn nok nd sc0 sc1 hb1 (cl_new S)
    unfold fdSt at h2
    with_reducible refine Mi.sqG (Mi.RpI.to h2) ?_
    intro st gg
    with_reducible refine Mi.RpI.to ?_
    obtain ⟨dn, us, bs, flB, fl, u, g, x5, x6, x7, b, q1, q2, q3, q4, S', rfl, hb', he, hr, hC, hF, hT, hR, hq, hbd⟩ := gg
    have hus : us = [] := by
      cases us with
      | nil => rfl
      | cons s us => cases hr
    subst hus
    rw [List.append_nil] at he
    subst he
    refine Mi.RpI.of ?_
    unfold fdSt
    walk_at "go"
    exact ⟨sc, fl, u, g, b, bs, flB, q1, q2, q3, q4, rfl, rfl, rfl, sc0, sc1, hb', hC, hF, hT, hR, hq, hbd⟩
  obtain ⟨_, _, S', e, sc, fl, u, g, b', bs, flB, q1, q2, q3, q4, rfl, rfl, h⟩ := this
  exact ⟨sc, fl, u, g, b', S', bs, flB, q1, q2, q3, q4, e, h⟩

--== cut
noncomputable def b_law_1 : Mi.M Mi.Fl := (Mi.mSeq (Mi.mAsgN 6 (Mi.mCallN 3 m_L_settled (Mi.mCons (Mi.mVar 4) (Mi.mCons (Mi.mVar 5) (Mi.mCons (Mi.mVar 6) (Mi.M.pure [])))))) 
          (Mi.mIfS (Mi.mB (Mi.mPk Mi.fIsN (Mi.mVar 6) (Mi.mC .non))) (Mi.mRet (Mi.mC (.bl false))) Mi.mNext))
noncomputable def b_law_2 : Mi.M Mi.Fl := (Mi.mSeq (Mi.mAsgN 8 (Mi.mCallN 2 m_L_source (Mi.mCons (Mi.mD (Mi.mCall 2 m_L_cell (Mi.mCons (Mi.mVar 0) (Mi.mCons (Mi.mD (Mi.mVar 7)) (Mi.M.pure []))))) (Mi.mCons (Mi.mD (Mi.mVar 7)) (Mi.M.pure []))))) 
        (Mi.mSeq (Mi.mAsg (Mi.mCall 4 m_L_payment (Mi.mCons (Mi.mVar 8) (Mi.mCons (Mi.mD (Mi.mVar 7)) (Mi.mCons (Mi.mVar 2) (Mi.mCons (Mi.mD (Mi.mPk Mi.fIxL (Mi.mVar 3) (Mi.mC (.int 2)))) (Mi.M.pure [])))))) (Mi.mgName 9)) 
        (Mi.mSeq (Mi.mDrop (Mi.mMeth "Clearing" "submit" 5 m_Clearing_submit (Mi.mVar 4) (Mi.mCons (Mi.mD (Mi.mPk Mi.fIxT (Mi.mVar 9) (Mi.mC (.int 0)))) (Mi.mCons (Mi.mD (Mi.mPk Mi.fIxT (Mi.mVar 9) (Mi.mC (.int 1)))) (Mi.mCons (Mi.mD (Mi.mPk Mi.fIxT (Mi.mVar 9) (Mi.mC (.int 2)))) (Mi.mCons (Mi.mD (Mi.mPk Mi.fIxT (Mi.mVar 9) (Mi.mC (.int 3)))) (Mi.M.pure []))))))) 
        (Mi.mSeq (Mi.mDrop (Mi.mMut Mi.fAppend (Mi.mVar 6) (Mi.mCons (Mi.mD (Mi.mVar 9)) (Mi.M.pure [])))) 
        (Mi.mSeq (Mi.mAsg (Mi.mCall 2 m_L_pick (Mi.mCons (Mi.mVar 8) (Mi.mCons (Mi.mC (.int 8)) (Mi.M.pure [])))) (Mi.mgName 10)) 
        (Mi.mSeq (Mi.mIfS (Mi.mB (Mi.mPk Mi.fEq (Mi.mVar 10) (Mi.mC (.int 0)))) (Mi.mDrop (Mi.mCall 4 m_L_funded (Mi.mCons (Mi.mVar 4) (Mi.mCons (Mi.mVar 5) (Mi.mCons (Mi.mVar 8) (Mi.mCons (Mi.mD (Mi.mPk Mi.fIxL (Mi.mVar 3) (Mi.mC (.int 2)))) (Mi.M.pure []))))))) Mi.mNext) 
        (Mi.mSeq (Mi.mIfS (Mi.mB (Mi.mPk Mi.fEq (Mi.mVar 10) (Mi.mC (.int 1)))) b_law_1 Mi.mNext) 
        (Mi.mIfS (Mi.mNot (Mi.mB (Mi.mCall 2 m_L_agrees (Mi.mCons (Mi.mVar 4) (Mi.mCons (Mi.mVar 5) (Mi.M.pure [])))))) (Mi.mRet (Mi.mC (.bl false))) Mi.mNext))))))))
noncomputable def b_law_3 : Mi.M Mi.Fl := (Mi.mIfS (Mi.mOr (Mi.mB (Mi.mPk Mi.fLt (Mi.mVar 7) (Mi.mPkC Mi.fLenQ (Mi.mCons (Mi.mVar 0) (Mi.M.pure []))))) (Mi.mB (Mi.mPk Mi.fLt (Mi.mVar 7) (Mi.mC (.int 5))))) b_law_2 Mi.mNext)
noncomputable def b_law_f4 : Mi.M Mi.Fl := (Mi.mFor (Mi.mIRng2 (Mi.mCons (Mi.mC (.int 1)) (Mi.mCons (Mi.mC (.int 61)) (Mi.M.pure [])))) (Mi.mgName 7) b_law_3)
noncomputable def b_law : Mi.M Mi.Fl := (Mi.mSeq (Mi.mAsgN 1 (Mi.mCallN 2 m_L_source (Mi.mCons (Mi.mD (Mi.mCall 2 m_L_cell (Mi.mCons (Mi.mVar 0) (Mi.mCons (Mi.mC (.int 0)) (Mi.M.pure []))))) (Mi.mCons (Mi.mC (.int 0)) (Mi.M.pure []))))) 
    (Mi.mSeq (Mi.mAsg (Mi.mCall 2 m_L_names (Mi.mCons (Mi.mVar 1) (Mi.mCons (Mi.mD (Mi.mPk Mi.fAdd (Mi.mC (.int 2)) (Mi.mCall 2 m_L_pick (Mi.mCons (Mi.mVar 1) (Mi.mCons (Mi.mC (.int 5)) (Mi.M.pure [])))))) (Mi.M.pure [])))) (Mi.mgName 2)) 
    (Mi.mSeq (Mi.mAsg (Mi.mCall 2 m_L_filled (Mi.mCons (Mi.mVar 1) (Mi.mCons (Mi.mVar 2) (Mi.M.pure [])))) (Mi.mgName 3)) 
    (Mi.mSeq (Mi.mAsg (Mi.mPk Mi.fIxL (Mi.mVar 3) (Mi.mC (.int 0))) (Mi.mgName 4)) 
    (Mi.mSeq (Mi.mAsg (Mi.mPk Mi.fIxL (Mi.mVar 3) (Mi.mC (.int 1))) (Mi.mgName 5)) 
    (Mi.mSeq (Mi.mAsgN 6 (Mi.mLst (Mi.M.pure []))) 
    (Mi.mSeq b_law_f4 
    (Mi.mSeq (Mi.mAsgN 6 (Mi.mCallN 3 m_L_settled (Mi.mCons (Mi.mVar 4) (Mi.mCons (Mi.mVar 5) (Mi.mCons (Mi.mVar 6) (Mi.M.pure [])))))) 
    (Mi.mRet (Mi.mAndV (Mi.mPk Mi.fNotN (Mi.mVar 6) (Mi.mC .non)) (Mi.mAndV (Mi.mPk Mi.fEqD (Mi.mMeth "Clearing" "settle" 1 m_Clearing_settle (Mi.mVar 4) (Mi.M.pure [])) (Mi.mFrz (Mi.mLst (Mi.M.pure [])))) (Mi.mAndV (Mi.mPk Mi.fEqD (Mi.mMeth "Clearing" "queue" 1 m_Clearing_queue (Mi.mVar 4) (Mi.M.pure [])) (Mi.mVar 6)) (Mi.mCall 2 m_L_agrees (Mi.mCons (Mi.mVar 4) (Mi.mCons (Mi.mVar 5) (Mi.M.pure []))))))))))))))))
noncomputable def m_law : Mi.Fn := Mi.noErrF (Mi.runF 11 b_law)
/-! ### the law -/
structure Nms (nm : List (List Nat)) : Prop where
  n2 : 2 ≤ nm.length
  n6 : nm.length ≤ 6
  ok : ∀ l ∈ nm, NmOk l
  nd : nm.Nodup
theorem Nms.nd2 {nm : List (List Nat)} (N : Nms nm) : (nm.map SX.S).Nodup := by
  refine List.Pairwise.map _ (fun a b h z => h (SX.S_inj z)) N.nd
theorem Nms.l6 {nm : List (List Nat)} (N : Nms nm) : (nm.map SX.S).length ≤ 6 := by rw [List.length_map]; exact N.n6
def KsOk (ks : List Str) (n : Nat) : Prop := ks.length ≤ n ∧ ∀ t ∈ ks, ∃ l k, NmOk l ∧ k < n + 1 ∧ t = keyS l k
def PsOk (ps : List Pa) (n : Nat) : Prop := ps.length ≤ n ∧ ∀ p ∈ ps, p.amount ≤ 1000000000
def l4St (ns : List Int) (b0 : Mi.BX) (nm : List (List Nat)) (sc : Int) (g : Str → Nat) (ps : List Pa) (x7 x8 x9 x10 : Option Mi.SV) (S : List Mi.Ob) : Mi.St := ⟨[some (.dat (.lst (ns.map Mi.D.int))), some (.own b0), some (.dat (.lst (sts nm))), some (.dat (.lst [.ob 0, .lst (toldG (nm.map SX.S) g), .int sc])), some (.dat (.ob 0)), some (.dat (.lst (toldG (nm.map SX.S) g))), some (.own (.lst (ps.map paD))), x7, x8, x9, x10], [], S⟩
/-- the world between two rounds -/
structure W4 (nm : List (List Nat)) (g : Str → Nat) (fl : Str → Int) (flB : Bal) (ps : List Pa) (ks : List Str) (i : Nat) (S : List Mi.Ob) : Prop where
  c : ∃ b f q k bs u, Cl S 0 b f q k bs flB ps ks ∧ Wd S 0 bs flB ps ks ∧ Rows S (nm.map SX.S) g fl u ∧ (∀ s ∈ nm.map SX.S, g s ≠ q) ∧ Tl (nm.map SX.S) bs flB fl u ∧ (∀ s ∈ nm.map SX.S, fl s ≤ u s) ∧ ∀ s ∈ nm.map SX.S, u s ≤ 1000000000 + 200000000000 * (i : Int)
  pk : PsOk ps i
  kk : KsOk ks i
  lo : ∀ s ∈ nm.map SX.S, -1000000000 ≤ fl s
def inv4 (ns : List Int) (b0 : Mi.BX) (nm : List (List Nat)) (sc : Int) (g : Str → Nat) (fl : Str → Int) (flB : Bal) : Nat → Mi.St → Prop := fun i st => ∃ (ps : List Pa) (ks : List Str) (x7 x8 x9 x10 : Option Mi.SV) (S : List Mi.Ob), st = l4St ns b0 nm sc g ps x7 x8 x9 x10 S ∧ W4 nm g fl flB ps ks i S
/-- the world within a round: one more payment -/
def md4 (ns : List Int) (b0 : Mi.BX) (nm : List (List Nat)) (sc : Int) (g : Str → Nat) (fl : Str → Int) (flB : Bal) (i : Nat) (m : Int) (w : Int) : Mi.St → Prop := fun st => ∃ (ps : List Pa) (ks : List Str) (x7 x9 : Option Mi.SV) (b1 : Mi.BX) (S : List Mi.Ob), st = l4St ns b0 nm sc g ps x7 (some (.own b1)) x9 (some (.dat (.int w))) S ∧ Sr b1 ∧ PsOk ps (i + 1) ∧ KsOk ks (i + 1) ∧ ∃ b f q k bs u, Cl S 0 b f q k bs flB ps ks ∧ Wd S 0 bs flB ps ks ∧ Rows S (nm.map SX.S) g fl u ∧ (∀ s ∈ nm.map SX.S, g s ≠ q) ∧ Tl (nm.map SX.S) bs flB fl u ∧ (∀ s ∈ nm.map SX.S, fl s ≤ u s) ∧ ∀ s ∈ nm.map SX.S, u s ≤ 1000000000 + 200000000000 * (i : Int) + m
theorem Tl.hF {nms : List Str} {bs flB : Bal} {fl u : Str → Int} (T : Tl nms bs flB fl u) (hf : ∀ s ∈ nms, fl s ≤ u s) : ∀ s z, val bs s = some z → (val flB s).getD 0 ≤ z := fun s z hv => by
  have hs : s ∈ nms := by rw [← T.nm]; exact val_mem.mp (by rw [hv]; rfl)
  have := T.bu s hs
  rw [hv] at this
  cases this
  rw [T.bf s hs]
  exact hf s hs
theorem Wd.rebal {S S' : List Mi.Ob} {o : Nat} {bs bs' flB : Bal} {ps : List Pa} {ks : List Str} (W : Wd S o bs flB ps ks) {b f q k : Nat} (hC : Cl S' o b f q k bs' flB ps ks) {nms : List Str} {fl u u' : Str → Int} (T : Tl nms bs flB fl u) (T' : Tl nms bs' flB fl u') (hf : ∀ s ∈ nms, fl s ≤ u' s) : Wd S' o bs' flB ps ks := ⟨⟨b, f, q, k, hC⟩, T'.hF hf, fun p hp => by
  obtain ⟨h1, h2⟩ := W.pa p hp
  refine ⟨?_, h2⟩
  unfold PaOk at h1 ⊢
  rw [T'.nm]
  rw [T.nm] at h1
  exact h1, W.kn⟩
theorem law4_2 {ns : List Int} (hb : ∀ k, Builtin.Int.intBits (Mi.getI ns k) ≤ 1048576) {b0 : Mi.BX} {nm : List (List Nat)} (N : Nms nm) {sc : Int} (s0 : 1 ≤ sc) (s1 : sc ≤ 1000000000) {g : Str → Nat} {fl : Str → Int} {flB : Bal} {ps : List Pa} {ks : List Str} {x8 x9 x10 : Option Mi.SV} {S : List Mi.Ob} {i : Nat} (hi : i < 60) (W : W4 nm g fl flB ps ks i S) : Mi.RpI (b_law_2 (l4St ns b0 nm sc g ps (some (.dat (.int ((1 + i : Nat) : Int)))) x8 x9 x10 S)) (Mi.LpEnd (inv4 ns b0 nm sc g fl flB (i + 1)) (fun _ _ => False)) (fun _ _ => False) := by
  obtain ⟨⟨b, f, q, k, bs, u, hC, Wd0, R, hq, T, hf, hbd⟩, hP, hK, hlo⟩ := W
  have hP1 := hP.1
  have hK1 := hK.1
  obtain ⟨s0', es0, hs0⟩ := source_eq (Mi.getI ns (1 + i)) (hb (1 + i)) (1 + i) (by omega) S
  obtain ⟨p, l, s1', es1, hl, hkey, h1, h2, hne, a0, a1, hs1⟩ := payment_eq2 hs0 (k := 1 + i) (by omega) nm ⟨N.n2, N.n6⟩ N.nd s0 s1 S
  have hkl := keyS_len hl (k := 1 + i) (by omega)
  have hnk : ¬ p.key ∈ ks := by
    intro z
    obtain ⟨l', k', h', hk', e⟩ := hK.2 _ z
    rw [hkey] at e
    have := keyS_inj hl h' (by omega) (by omega) e
    omega
  have hv : ∀ s ∈ nm.map SX.S, ¬ val bs s = none := fun s hs z => by rw [T.bu s hs] at z; cases z
  have hE : subE bs ks p = none := by
    unfold subE
    rw [if_neg (not_not_intro (by rw [hkey]; exact hkl)), if_neg (hv _ h1), if_neg (hv _ h2), if_neg hne, if_neg (not_not_intro ⟨a0, a1⟩), if_neg hnk]
  have es := submit_eq hC (by omega) (by omega) p (by rw [hkey]; omega)
  rw [hE] at es
  have es : _ = Mi.RF.ok (.dat .non) [] (subS S q k ps ks p) := es
  have snm : ∀ s ∈ bs.map (·.1), PyData.strOk s = true := by
    intro s h
    rw [T.nm] at h
    obtain ⟨l, hl, rfl⟩ := List.mem_map.mp h
    exact nm_ok (N.ok l hl)
  have hC' := hC.sub p (by omega) (by omega)
  have Wd' := wd_sub Wd0 (by omega) (by omega) hE (by rw [hkey]; exact keyS_ok hl (by omega)) snm hC
  have R' : Rows (subS S q k ps ks p) (nm.map SX.S) g fl u := R.keep fun s hs => by
    obtain ⟨o1, o2, o3, o4, o5⟩ := R.off hC hq hs
    unfold subS
    rw [List.getElem?_set_ne (Ne.symm o4), List.getElem?_set_ne (Ne.symm o5)]
  have hP' : PsOk (ps ++ [p]) (i + 1) := ⟨by rw [List.length_append, List.length_singleton]; omega, fun r hr => by
    rcases List.mem_append.mp hr with hr | hr
    · exact hP.2 r hr
    · rw [List.mem_singleton.mp hr]; exact a1⟩
  have hK' : KsOk (ks ++ [p.key]) (i + 1) := ⟨by rw [List.length_append, List.length_singleton]; omega, fun t ht => by
    rcases List.mem_append.mp ht with ht | ht
    · obtain ⟨l, k, h1, h2, h3⟩ := hK.2 t ht
      exact ⟨l, k, h1, by omega, h3⟩
    · rw [List.mem_singleton.mp ht]
      exact ⟨l, 1 + i, hl, by omega, hkey⟩⟩
  obtain ⟨w, s2', es2, w0, w1, hs2⟩ := pick_eq hs1 (many := 8) (by decide) (by decide) (subS S q k ps ks p)
  have c0 := hC.c0
  refine Mi.RpI.of ?_
  unfold b_law_2 l4St
  walk_at "go"
  refine Mi.rp_callD (cell_eq ns (1 + i) S) rfl rfl ?_
  walk_at "go"
  refine Mi.rp_callX es0 rfl rfl ?_
  walk_at "go"
  refine Mi.rp_callM es1 rfl rfl Mi.nod1 rfl rfl ?_
  walk_at "go"
  refine ⟨_, rfl, .str p.key, Mi.atI_c0, _, rfl, .str p.payer, Mi.atI_c1, _, rfl, .str p.payee, Mi.atI_c2, _, rfl, .int p.amount, Mi.atI_c3, ?_⟩
  refine Mi.rp_callM es rfl rfl Mi.nod0 rfl rfl ?_
  walk_at "go"
  refine ⟨Nat.lt_of_le_of_lt (show _ ≤ 100 by rw [List.length_map]; omega) (by decide), ?_⟩
  walk_at "go"
  refine Mi.rp_callM es2 rfl rfl Mi.nod1 rfl rfl ?_
  walk_at "go"
  have ea : ps.map paD ++ [paD p] = (ps ++ [p]).map paD := by rw [List.map_append]; rfl
  rw [ea]
  with_reducible refine Mi.rp_cut (md4 ns b0 nm sc g fl flB i 1000000000 w) ?_ ?_
  · have base : md4 ns b0 nm sc g fl flB i 1000000000 w (l4St ns b0 nm sc g (ps ++ [p]) (some (.dat (.int ((1 + i : Nat) : Int)))) (some (.own s2')) (some (.dat (paD p))) (some (.dat (.int w))) (subS S q k ps ks p)) := ⟨ps ++ [p], _, _, _, s2', _, rfl, hs2, hP', hK', b, f, q, k, bs, u, hC', Wd', R', hq, T, hf, fun s hs => by have := hbd s hs; omega⟩
    have hn4 : 1 ≤ (nm.map SX.S).length ∧ (nm.map SX.S).length ≤ 6 := ⟨by rw [List.length_map]; have := N.n2; omega, N.l6⟩
    obtain ⟨S3, bb', bs', u', efd, hbb, hC3, R3, T3, hf3, hbd3⟩ := funded_eq hC' hn4 R' hq T hf (fun s hs => by have := hbd s hs; have := hlo s hs; omega) s0 s1 hs2
    walk_at "go"
    by_cases y : w = 0
    · rw [if_pos y]
      refine Mi.rp_callM efd rfl rfl Mi.nod1 rfl rfl ?_
      walk_at "go"
      exact ⟨ps ++ [p], _, _, _, bb', S3, rfl, hbb, hP', hK', b, f, q, k, bs', u', hC3, Wd'.rebal hC3 T T3 hf3, R3, hq, T3, hf3, fun s hs => by have := hbd s hs; have := hbd3 s hs; omega⟩
    · rw [if_neg y]
      exact base
  intro st gg
  with_reducible refine Mi.RpI.to ?_
  clear es es0 es1 es2 hC' Wd' R' hC Wd0 R T hf hbd hq hP hK hP' hK'
  obtain ⟨ps, ks, x7, x9, b1, S, rfl, hb1, hP, hK, b, f, q, k, bs, u, hC, Wd0, R, hq, T, hf, hbd⟩ := gg
  refine Mi.RpI.of ?_
  with_reducible refine Mi.rp_cut (md4 ns b0 nm sc g fl flB i 199000000000 w) ?_ ?_
  · have base : md4 ns b0 nm sc g fl flB i 199000000000 w (l4St ns b0 nm sc g ps x7 (some (.own b1)) x9 (some (.dat (.int w))) S) := ⟨ps, ks, _, _, b1, S, rfl, hb1, hP, hK, b, f, q, k, bs, u, hC, Wd0, R, hq, T, hf, fun s hs => by have := hbd s hs; omega⟩
    have hP1 := hP.1
    obtain ⟨cs, b', q', S3, est, hC3, Wd3, R3, hq3, T3, hf3, _, _⟩ := settled_eq Wd0 hC (by omega) N.nd2 R hq T
    have hes : ∀ s, esum (pick ps cs true) s ≤ 100000000000 := fun s => by
      have h1 := esum_le (s := s) (L := pick ps cs true) fun p hp => ⟨(Wd0.pa p (pick_mem hp)).2.1, hP.2 p (pick_mem hp)⟩
      have h2 := pick_len (b := true) (ps := ps) (cs := cs)
      unfold sumA at h1
      omega
    unfold l4St at base ⊢
    walk_at "go"
    by_cases y : w = 1
    · rw [if_pos y]
      unfold b_law_1
      walk_at "go"
      refine Mi.rp_callM est rfl rfl Mi.nod1 rfl rfl ?_
      walk_at "go"
      exact ⟨pick ps cs false, ks, _, _, b1, S3, rfl, hb1, ⟨Nat.le_trans pick_len hP.1, fun p hp => hP.2 p (pick_mem hp)⟩, hK, b', f, q', k, _, _, hC3, Wd3, R3, hq3, T3, hf3, fun s hs => by have := hbd s hs; have := hes s; omega⟩
    · rw [if_neg y]
      exact base
  intro st gg
  with_reducible refine Mi.RpI.to ?_
  clear hC Wd0 R T hf hbd hq hP hK
  obtain ⟨ps, ks, x7, x9, b1, S, rfl, hb1, hP, hK, b, f, q, k, bs, u, hC, Wd0, R, hq, T, hf, hbd⟩ := gg
  have eag := agrees_eq hC R T hf
  have fin : ∀ x8 x9 x10, inv4 ns b0 nm sc g fl flB (i + 1) (l4St ns b0 nm sc g ps x7 x8 x9 x10 S) := fun x8 x9 x10 => ⟨ps, ks, _, _, _, _, S, rfl, ⟨b, f, q, k, bs, u, hC, Wd0, R, hq, T, hf, fun s hs => by have := hbd s hs; omega⟩, hP, hK, hlo⟩
  refine Mi.RpI.of ?_
  unfold l4St at fin ⊢
  walk_at "go"
  refine Mi.rp_callM eag rfl rfl Mi.nod0 rfl rfl ?_
  walk_at "go"
  exact fin _ _ _
theorem law_f4 {ns : List Int} (hb : ∀ k, Builtin.Int.intBits (Mi.getI ns k) ≤ 1048576) (b0 : Mi.BX) {nm : List (List Nat)} (N : Nms nm) {sc : Int} (s0 : 1 ≤ sc) (s1 : sc ≤ 1000000000) {g : Str → Nat} {fl : Str → Int} {flB : Bal} {S : List Mi.Ob} (W : W4 nm g fl flB [] [] 0 S) : Mi.RpI (b_law_f4 (l4St ns b0 nm sc g [] none none none none S)) (Mi.SqEnd (inv4 ns b0 nm sc g fl flB 60) (fun _ _ => False)) (fun _ _ => False) := by
  refine Mi.RpI.of ?_
  unfold b_law_f4
  with_reducible refine Mi.rp_rng2 1 61 (inv4 ns b0 nm sc g fl flB) ?_ ?_ ?_ ?_
  · decide
  · unfold l4St
    walk_at "go"
    exact ⟨[], [], _, _, _, _, S, rfl, W⟩
  · intro i st hi gg
    with_reducible refine Mi.RpI.to ?_
    obtain ⟨ps, ks, x7, x8, x9, x10, S, rfl, W⟩ := gg
    have e1 : (1 : Int) + (i : Int) = ((1 + i : Nat) : Int) := by omega
    rw [e1]
    have l2 := law4_2 (b0 := b0) (x8 := x8) (x9 := x9) (x10 := x10) hb N s0 s1 (show i < 60 by omega) W
    have done : ∀ x7, inv4 ns b0 nm sc g fl flB (i + 1) (l4St ns b0 nm sc g ps x7 x8 x9 x10 S) := fun x7 => by
      obtain ⟨⟨b, f, q, k, bs, u, hC, Wd0, R, hq, T, hf, hbd⟩, hP, hK, hlo⟩ := W
      exact ⟨ps, ks, _, _, _, _, S, rfl, ⟨b, f, q, k, bs, u, hC, Wd0, R, hq, T, hf, fun s hs => by have := hbd s hs; omega⟩, ⟨by have := hP.1; omega, hP.2⟩, ⟨by have := hK.1; omega, fun t ht => by
        obtain ⟨l, k, h1, h2, h3⟩ := hK.2 t ht
        exact ⟨l, k, h1, by omega, h3⟩⟩, hlo⟩
    refine Mi.RpI.of ?_
    unfold b_law_3
    unfold l4St at l2 done ⊢
    walk_at "go"
    split
    · exact Mi.lpW l2.to
    · split
      · exact Mi.lpW l2.to
      · exact done _
  · intro st gg
    exact gg
theorem law_true (ns : List Int) (hl : ns.length ≤ 63) (hb : ∀ z ∈ ns, Builtin.Int.intBits z ≤ 1048576) : ∃ io S, m_law [.dat (.lst (ns.map Mi.D.int))] [] [] = .ok (.dat (.bl true)) io S := by
  have : ∃ d io' S', m_law [.dat (.lst (ns.map Mi.D.int))] [] [] = .ok (.dat d) io' S' ∧ d = .bl true := by
    refine Mi.all_run ?_
    have hg : ∀ k, Builtin.Int.intBits (Mi.getI ns k) ≤ 1048576 := fun k => by
      unfold Mi.getI
      by_cases c : k < ns.length
      · rw [List.getD, List.getElem?_eq_getElem c]
        exact hb _ (List.getElem_mem c)
      · rw [List.getD, List.getElem?_eq_none (by omega)]
        decide
    obtain ⟨s0, es0, hs0⟩ := source_eq _ (hg 0) 0 (by omega) []
    obtain ⟨r, s1, es1, r0, r1, hs1⟩ := pick_eq hs0 (many := 5) (by decide) (by decide) []
    obtain ⟨nm, s2, es2, nl, nok, nnd, hs2⟩ := names_eq hs1 (many := 2 + r) (by omega) (by omega) []
    have N : Nms nm := ⟨by omega, by omega, nok, nnd⟩
    obtain ⟨sc, fl, u, g, s3, S3, bs, flB, q1, q2, q3, q4, es3, sc0, sc1, hs3, hC, hF, hT, hR, hq, hbd⟩ := filled_eq (by have := N.n6; omega) nok nnd hs2 []
    have hfl : ∀ s ∈ nm.map SX.S, fl s ≤ u s := fun s hs => by
      have := hF s _ (hT.bu s hs)
      rw [hT.bf s hs] at this
      exact this
    have W : W4 nm g fl flB [] [] 0 S3 := ⟨⟨q1, q2, q3, q4, bs, u, hC, ⟨⟨q1, q2, q3, q4, hC⟩, hF, fun p hp => (by cases hp), List.nodup_nil⟩, hR, hq, hT, hfl, fun s hs => by have := (hbd s hs).1; omega⟩, ⟨Nat.le_refl _, fun p hp => (by cases hp)⟩, ⟨Nat.le_refl _, fun p hp => (by cases hp)⟩, fun s hs => (hbd s hs).2⟩
    have h4 := law_f4 hg s3 N sc0 sc1 W
    unfold b_law
    walk_at "go"
    refine Mi.rp_callD (cell_eq ns 0 []) rfl rfl ?_
    walk_at "go"
    refine Mi.rp_callX es0 rfl rfl ?_
    walk_at "go"
    refine Mi.rp_callM es1 rfl rfl Mi.nod1 rfl rfl ?_
    walk_at "go"
    refine Mi.rp_callM es2 rfl rfl Mi.nod1 rfl rfl ?_
    walk_at "go"
    refine Mi.rp_callM es3 rfl rfl Mi.nod1 rfl rfl ?_
    unfold l4St at h4
    walk_at "go"
    refine Mi.sqG (Mi.RpI.to h4) ?_
    intro st gg
    with_reducible refine Mi.RpI.to ?_
    clear h4 W es3 hC hF hT hR hq hfl hbd bs u
    obtain ⟨ps, ks, x7, x8, x9, x10, S, rfl, ⟨b, f, q, k, bs, u, hC, Wd0, R, hq, T, hf, hbd⟩, hP, hK, hlo⟩ := gg
    have hP1 := hP.1
    obtain ⟨cs, b', q', S4, est, hC4, Wd4, R4, hq4, T4, hf4, hr4, hs4⟩ := settled_eq Wd0 hC (by omega) N.nd2 R hq T
    have hpl := pick_len (b := false) (ps := ps) (cs := cs)
    obtain ⟨ds, b5, q5, S5, est5, hC5, Wd5, hr5, hs5, hlow5, hq5⟩ := wd_settle Wd4 hC4 (by omega)
    have hz := second_none hC.nd (fun p hp => (Wd0.pa p hp).2.1) hr4 hr5 hs5
    rw [pick_nil hz] at est5
    rw [pick_all hr5.len hz] at hC5
    refine Mi.RpI.of ?_
    unfold l4St
    walk_at "go"
    refine Mi.rp_callM est rfl rfl Mi.nod1 rfl rfl ?_
    have c4 := hC4.c0
    have c5 := hC5.c0
    walk_at "go"
    refine Mi.rp_callM est5 rfl rfl Mi.nod0 rfl rfl ?_
    walk_at "go"
    have okW : ∀ p ∈ pick ps cs false, POk p := fun p hp => (Wd0.pa p (pick_mem hp)).2.2.1
    have nl : Nice 2 (.lst ((pick ps cs false).map paD)) := nice_lst fun d hd => by
      obtain ⟨p, hp, rfl⟩ := List.mem_map.mp hd
      exact pa_nice (okW p hp)
    have n0 : Nice 2 (.lst []) := nice_lst fun d hd => by cases hd
    have R5 : Rows S5 (nm.map SX.S) g fl (fun s => u s + esum (pick ps cs true) s) := R4.keep fun s hs => by
      rw [R4.pl s hs]
      exact hlow5 _ _ (List.getElem?_eq_some_iff.mp (R4.pl s hs)).1 (R4.pl s hs) (R4.off hC4 hq4 hs).1
    have T5 : Tl (nm.map SX.S) (balF (balF bs (FN bs ps cs)) (FN (balF bs (FN bs ps cs)) (pick ps cs false) ds)) flB fl (fun s => u s + esum (pick ps cs true) s) := ⟨by rw [balF_fst]; exact T4.nm, fun s hs => by
      have hm : s ∈ (balF bs (FN bs ps cs)).map (·.1) := by rw [T4.nm]; exact hs
      have en : net (pick ps cs false) ds s = 0 := by rw [← esum_pick, pick_nil hz]; rfl
      rw [val_balF hm]
      show some (f0 (balF bs (FN bs ps cs)) s + net (pick ps cs false) ds s) = _
      rw [en, Int.add_zero]
      unfold f0
      rw [T4.bu s hs]
      rfl, T4.bf⟩
    have eag := agrees_eq hC5 R5 T5 hf4
    refine ⟨_, eqD_self n0 (by decide), true, rfl, ?_⟩
    rw [if_pos rfl]
    walk_at "go"
    refine Mi.rp_callM (queue_eq hC5) rfl rfl Mi.nod0 rfl rfl ?_
    walk_at "go"
    refine ⟨_, eqD_self nl (by decide), true, rfl, ?_⟩
    rw [if_pos rfl]
    walk_at "go"
    refine Mi.rp_callM eag rfl rfl Mi.nod0 rfl rfl ?_
    walk_at "go"
  obtain ⟨_, _, _, e, rfl⟩ := this
  exact ⟨_, _, e⟩

def top (i : Nat) : Stmt := PySem.Challenge.pw_corebank_k34_whole_settle_keeps.main.body.getD i (.Pass ⟨0, 0, 0, 0⟩)
abbrev s_wall : Stmt := top 0
abbrev s_is_amount : Stmt := top 12
abbrev s_check_amount : Stmt := top 13
abbrev s_is_name : Stmt := top 18
abbrev s_check_name : Stmt := top 19
abbrev s_Clearing___init : Stmt := inClass (top 23) 0
abbrev s_Clearing_check_member : Stmt := inClass (top 23) 1
abbrev s_Clearing_add_member : Stmt := inClass (top 23) 2
abbrev s_Clearing_members : Stmt := inClass (top 23) 3
abbrev s_Clearing_balance_of : Stmt := inClass (top 23) 4
abbrev s_Clearing_floor_of : Stmt := inClass (top 23) 5
abbrev s_Clearing_fund : Stmt := inClass (top 23) 6
abbrev s_Clearing_submit : Stmt := inClass (top 23) 7
abbrev s_Clearing_queue : Stmt := inClass (top 23) 8
abbrev s_Clearing_find_short : Stmt := inClass (top 23) 9
abbrev s_Clearing_find_choice : Stmt := inClass (top 23) 10
abbrev s_Clearing_settle : Stmt := inClass (top 23) 11
abbrev s_L_cell : Stmt := top 25
abbrev s_L_source : Stmt := top 26
abbrev s_L_pick : Stmt := top 27
abbrev s_L_name : Stmt := top 28
abbrev s_L_names : Stmt := top 29
abbrev s_L_is_number : Stmt := top 31
abbrev s_L_pairs : Stmt := top 33
abbrev s_L_filled : Stmt := top 34
abbrev s_L_payment : Stmt := top 35
abbrev s_L_moved : Stmt := top 36
abbrev s_L_agrees : Stmt := top 37
abbrev s_L_settled : Stmt := top 38
abbrev s_L_funded : Stmt := top 39
abbrev s_law : Stmt := top 40
theorem sc_wall : FnScope ["k"] ["k"] (defScope s_wall) := ⟨rfl, rfl, rfl, by decide +kernel, rfl, by decide +kernel, by decide +kernel⟩
theorem sc_is_amount : FnScope ["number"] ["number"] (defScope s_is_amount) := ⟨rfl, rfl, rfl, by decide +kernel, rfl, by decide +kernel, by decide +kernel⟩
theorem sc_check_amount : FnScope ["amount"] ["amount"] (defScope s_check_amount) := ⟨rfl, rfl, rfl, by decide +kernel, rfl, by decide +kernel, by decide +kernel⟩
theorem sc_is_name : FnScope ["text", "sign"] ["text"] (defScope s_is_name) := ⟨rfl, rfl, rfl, by decide +kernel, rfl, by decide +kernel, by decide +kernel⟩
theorem sc_check_name : FnScope ["text"] ["text"] (defScope s_check_name) := ⟨rfl, rfl, rfl, by decide +kernel, rfl, by decide +kernel, by decide +kernel⟩
theorem sc_Clearing___init : FnScope ["self"] ["self"] (defScope s_Clearing___init) := ⟨rfl, rfl, rfl, by decide +kernel, rfl, by decide +kernel, by decide +kernel⟩
theorem sc_Clearing_check_member : FnScope ["self", "name"] ["self", "name"] (defScope s_Clearing_check_member) := ⟨rfl, rfl, rfl, by decide +kernel, rfl, by decide +kernel, by decide +kernel⟩
theorem sc_Clearing_add_member : FnScope ["self", "name", "floor"] ["self", "name", "floor"] (defScope s_Clearing_add_member) := ⟨rfl, rfl, rfl, by decide +kernel, rfl, by decide +kernel, by decide +kernel⟩
theorem sc_Clearing_members : FnScope ["self"] ["self"] (defScope s_Clearing_members) := ⟨rfl, rfl, rfl, by decide +kernel, rfl, by decide +kernel, by decide +kernel⟩
theorem sc_Clearing_balance_of : FnScope ["self", "name"] ["self", "name"] (defScope s_Clearing_balance_of) := ⟨rfl, rfl, rfl, by decide +kernel, rfl, by decide +kernel, by decide +kernel⟩
theorem sc_Clearing_floor_of : FnScope ["self", "name"] ["self", "name"] (defScope s_Clearing_floor_of) := ⟨rfl, rfl, rfl, by decide +kernel, rfl, by decide +kernel, by decide +kernel⟩
theorem sc_Clearing_fund : FnScope ["self", "name", "units"] ["self", "name", "units"] (defScope s_Clearing_fund) := ⟨rfl, rfl, rfl, by decide +kernel, rfl, by decide +kernel, by decide +kernel⟩
theorem sc_Clearing_submit : FnScope ["self", "key", "payer", "payee", "amount"] ["self", "key", "payer", "payee", "amount"] (defScope s_Clearing_submit) := ⟨rfl, rfl, rfl, by decide +kernel, rfl, by decide +kernel, by decide +kernel⟩
theorem sc_Clearing_queue : FnScope ["self"] ["self"] (defScope s_Clearing_queue) := ⟨rfl, rfl, rfl, by decide +kernel, rfl, by decide +kernel, by decide +kernel⟩
theorem sc_Clearing_find_short : FnScope ["self", "balances", "name"] ["self", "balances"] (defScope s_Clearing_find_short) := ⟨rfl, rfl, rfl, by decide +kernel, rfl, by decide +kernel, by decide +kernel⟩
theorem sc_Clearing_find_choice : FnScope ["self", "balances", "places", "name", "place", "_", "payer", "payee", "amount", "chosen", "short"] ["self"] (defScope s_Clearing_find_choice) := ⟨rfl, rfl, rfl, by decide +kernel, rfl, by decide +kernel, by decide +kernel⟩
theorem sc_Clearing_settle : FnScope ["self", "chosen", "balances", "settled", "payment", "done"] ["self"] (defScope s_Clearing_settle) := ⟨rfl, rfl, rfl, by decide +kernel, rfl, by decide +kernel, by decide +kernel⟩
theorem sc_L_cell : FnScope ["script", "k"] ["script", "k"] (defScope s_L_cell) := ⟨rfl, rfl, rfl, by decide +kernel, rfl, by decide +kernel, by decide +kernel⟩
theorem sc_L_source : FnScope ["cell", "k"] ["cell", "k"] (defScope s_L_source) := ⟨rfl, rfl, rfl, by decide +kernel, rfl, by decide +kernel, by decide +kernel⟩
theorem sc_L_pick : FnScope ["source", "many", "picked", "mixed"] ["source", "many"] (defScope s_L_pick) := ⟨rfl, rfl, rfl, by decide +kernel, rfl, by decide +kernel, by decide +kernel⟩
theorem sc_L_name : FnScope ["source", "signs", "name", "k"] ["source"] (defScope s_L_name) := ⟨rfl, rfl, rfl, by decide +kernel, rfl, by decide +kernel, by decide +kernel⟩
theorem sc_L_names : FnScope ["source", "many", "names", "common", "k", "name", "spare"] ["source", "many"] (defScope s_L_names) := ⟨rfl, rfl, rfl, by decide +kernel, rfl, by decide +kernel, by decide +kernel⟩
theorem sc_L_is_number : FnScope ["actual", "expected"] ["actual", "expected"] (defScope s_L_is_number) := ⟨rfl, rfl, rfl, by decide +kernel, rfl, by decide +kernel, by decide +kernel⟩
theorem sc_L_pairs : FnScope ["source", "many", "payer"] ["source", "many"] (defScope s_L_pairs) := ⟨rfl, rfl, rfl, by decide +kernel, rfl, by decide +kernel, by decide +kernel⟩
theorem sc_L_filled : FnScope ["source", "names", "clearing", "told", "scale", "name", "floor", "units"] ["source", "names"] (defScope s_L_filled) := ⟨rfl, rfl, rfl, by decide +kernel, rfl, by decide +kernel, by decide +kernel⟩
theorem sc_L_payment : FnScope ["source", "k", "names", "scale", "pair"] ["source", "k", "names", "scale"] (defScope s_L_payment) := ⟨rfl, rfl, rfl, by decide +kernel, rfl, by decide +kernel, by decide +kernel⟩
theorem sc_L_moved : FnScope ["told", "payments", "row", "payment"] ["told", "payments"] (defScope s_L_moved) := ⟨rfl, rfl, rfl, by decide +kernel, rfl, by decide +kernel, by decide +kernel⟩
theorem sc_L_agrees : FnScope ["clearing", "told", "row"] ["clearing", "told"] (defScope s_L_agrees) := ⟨rfl, rfl, rfl, by decide +kernel, rfl, by decide +kernel, by decide +kernel⟩
theorem sc_L_settled : FnScope ["clearing", "told", "waits", "given", "done", "at", "left", "stopped", "payment"] ["clearing", "told", "waits"] (defScope s_L_settled) := ⟨rfl, rfl, rfl, by decide +kernel, rfl, by decide +kernel, by decide +kernel⟩
theorem sc_L_funded : FnScope ["clearing", "told", "source", "scale", "row", "units"] ["clearing", "told", "source", "scale"] (defScope s_L_funded) := ⟨rfl, rfl, rfl, by decide +kernel, rfl, by decide +kernel, by decide +kernel⟩
theorem sc_law : FnScope ["script", "first", "names", "filled", "clearing", "told", "waits", "k", "source", "payment", "which"] ["script"] (defScope s_law) := ⟨rfl, rfl, rfl, by decide +kernel, rfl, by decide +kernel, by decide +kernel⟩
set_option genInjectivity false in
set_option genSizeOf false in
structure Txt (K : PySem.W.Frag) (mg : Str → Option Value) extends Kv.ErrsP K mg [.badValue, .missing, .refused, .full] where
  a__wall : Addr
  d__wall : FuncData
  g__wall : mg "_wall" = some (.ref a__wall)
  F__wall : Fun K "_wall" "_wall" s_wall a__wall d__wall
  b__wall : Binds K d__wall ["k"] []
  a_is_amount : Addr
  d_is_amount : FuncData
  g_is_amount : mg "is_amount" = some (.ref a_is_amount)
  F_is_amount : Fun K "is_amount" "is_amount" s_is_amount a_is_amount d_is_amount
  b_is_amount : Binds K d_is_amount ["number"] []
  a_check_amount : Addr
  d_check_amount : FuncData
  g_check_amount : mg "check_amount" = some (.ref a_check_amount)
  F_check_amount : Fun K "check_amount" "check_amount" s_check_amount a_check_amount d_check_amount
  b_check_amount : Binds K d_check_amount ["amount"] []
  a_is_name : Addr
  d_is_name : FuncData
  g_is_name : mg "is_name" = some (.ref a_is_name)
  F_is_name : Fun K "is_name" "is_name" s_is_name a_is_name d_is_name
  b_is_name : Binds K d_is_name ["text"] []
  a_check_name : Addr
  d_check_name : FuncData
  g_check_name : mg "check_name" = some (.ref a_check_name)
  F_check_name : Fun K "check_name" "check_name" s_check_name a_check_name d_check_name
  b_check_name : Binds K d_check_name ["text"] []
  a_Clearing___init : Addr
  d_Clearing___init : FuncData
  F_Clearing___init : Fun K "__init__" "Clearing.__init__" s_Clearing___init a_Clearing___init d_Clearing___init
  b_Clearing___init : Binds K d_Clearing___init ["self"] []
  a_Clearing_check_member : Addr
  d_Clearing_check_member : FuncData
  F_Clearing_check_member : Fun K "check_member" "Clearing.check_member" s_Clearing_check_member a_Clearing_check_member d_Clearing_check_member
  b_Clearing_check_member : Binds K d_Clearing_check_member ["self", "name"] []
  a_Clearing_add_member : Addr
  d_Clearing_add_member : FuncData
  F_Clearing_add_member : Fun K "add_member" "Clearing.add_member" s_Clearing_add_member a_Clearing_add_member d_Clearing_add_member
  b_Clearing_add_member : Binds K d_Clearing_add_member ["self", "name", "floor"] []
  a_Clearing_members : Addr
  d_Clearing_members : FuncData
  F_Clearing_members : Fun K "members" "Clearing.members" s_Clearing_members a_Clearing_members d_Clearing_members
  b_Clearing_members : Binds K d_Clearing_members ["self"] []
  a_Clearing_balance_of : Addr
  d_Clearing_balance_of : FuncData
  F_Clearing_balance_of : Fun K "balance_of" "Clearing.balance_of" s_Clearing_balance_of a_Clearing_balance_of d_Clearing_balance_of
  b_Clearing_balance_of : Binds K d_Clearing_balance_of ["self", "name"] []
  a_Clearing_floor_of : Addr
  d_Clearing_floor_of : FuncData
  F_Clearing_floor_of : Fun K "floor_of" "Clearing.floor_of" s_Clearing_floor_of a_Clearing_floor_of d_Clearing_floor_of
  b_Clearing_floor_of : Binds K d_Clearing_floor_of ["self", "name"] []
  a_Clearing_fund : Addr
  d_Clearing_fund : FuncData
  F_Clearing_fund : Fun K "fund" "Clearing.fund" s_Clearing_fund a_Clearing_fund d_Clearing_fund
  b_Clearing_fund : Binds K d_Clearing_fund ["self", "name", "units"] []
  a_Clearing_submit : Addr
  d_Clearing_submit : FuncData
  F_Clearing_submit : Fun K "submit" "Clearing.submit" s_Clearing_submit a_Clearing_submit d_Clearing_submit
  b_Clearing_submit : Binds K d_Clearing_submit ["self", "key", "payer", "payee", "amount"] []
  a_Clearing_queue : Addr
  d_Clearing_queue : FuncData
  F_Clearing_queue : Fun K "queue" "Clearing.queue" s_Clearing_queue a_Clearing_queue d_Clearing_queue
  b_Clearing_queue : Binds K d_Clearing_queue ["self"] []
  a_Clearing_find_short : Addr
  d_Clearing_find_short : FuncData
  F_Clearing_find_short : Fun K "find_short" "Clearing.find_short" s_Clearing_find_short a_Clearing_find_short d_Clearing_find_short
  b_Clearing_find_short : Binds K d_Clearing_find_short ["self", "balances"] []
  a_Clearing_find_choice : Addr
  d_Clearing_find_choice : FuncData
  F_Clearing_find_choice : Fun K "find_choice" "Clearing.find_choice" s_Clearing_find_choice a_Clearing_find_choice d_Clearing_find_choice
  b_Clearing_find_choice : Binds K d_Clearing_find_choice ["self"] []
  a_Clearing_settle : Addr
  d_Clearing_settle : FuncData
  F_Clearing_settle : Fun K "settle" "Clearing.settle" s_Clearing_settle a_Clearing_settle d_Clearing_settle
  b_Clearing_settle : Binds K d_Clearing_settle ["self"] []
  a__law_cell : Addr
  d__law_cell : FuncData
  g__law_cell : mg "_law_cell" = some (.ref a__law_cell)
  F__law_cell : Fun K "_law_cell" "_law_cell" s_L_cell a__law_cell d__law_cell
  b__law_cell : Binds K d__law_cell ["script", "k"] []
  a__law_source : Addr
  d__law_source : FuncData
  g__law_source : mg "_law_source" = some (.ref a__law_source)
  F__law_source : Fun K "_law_source" "_law_source" s_L_source a__law_source d__law_source
  b__law_source : Binds K d__law_source ["cell", "k"] []
  a__law_pick : Addr
  d__law_pick : FuncData
  g__law_pick : mg "_law_pick" = some (.ref a__law_pick)
  F__law_pick : Fun K "_law_pick" "_law_pick" s_L_pick a__law_pick d__law_pick
  b__law_pick : Binds K d__law_pick ["source", "many"] []
  a__law_name : Addr
  d__law_name : FuncData
  g__law_name : mg "_law_name" = some (.ref a__law_name)
  F__law_name : Fun K "_law_name" "_law_name" s_L_name a__law_name d__law_name
  b__law_name : Binds K d__law_name ["source"] []
  a__law_names : Addr
  d__law_names : FuncData
  g__law_names : mg "_law_names" = some (.ref a__law_names)
  F__law_names : Fun K "_law_names" "_law_names" s_L_names a__law_names d__law_names
  b__law_names : Binds K d__law_names ["source", "many"] []
  a__law_is_number : Addr
  d__law_is_number : FuncData
  g__law_is_number : mg "_law_is_number" = some (.ref a__law_is_number)
  F__law_is_number : Fun K "_law_is_number" "_law_is_number" s_L_is_number a__law_is_number d__law_is_number
  b__law_is_number : Binds K d__law_is_number ["actual", "expected"] []
  a__law_pairs : Addr
  d__law_pairs : FuncData
  g__law_pairs : mg "_law_pairs" = some (.ref a__law_pairs)
  F__law_pairs : Fun K "_law_pairs" "_law_pairs" s_L_pairs a__law_pairs d__law_pairs
  b__law_pairs : Binds K d__law_pairs ["source", "many"] []
  a__law_filled : Addr
  d__law_filled : FuncData
  g__law_filled : mg "_law_filled" = some (.ref a__law_filled)
  F__law_filled : Fun K "_law_filled" "_law_filled" s_L_filled a__law_filled d__law_filled
  b__law_filled : Binds K d__law_filled ["source", "names"] []
  a__law_payment : Addr
  d__law_payment : FuncData
  g__law_payment : mg "_law_payment" = some (.ref a__law_payment)
  F__law_payment : Fun K "_law_payment" "_law_payment" s_L_payment a__law_payment d__law_payment
  b__law_payment : Binds K d__law_payment ["source", "k", "names", "scale"] []
  a__law_moved : Addr
  d__law_moved : FuncData
  g__law_moved : mg "_law_moved" = some (.ref a__law_moved)
  F__law_moved : Fun K "_law_moved" "_law_moved" s_L_moved a__law_moved d__law_moved
  b__law_moved : Binds K d__law_moved ["told", "payments"] []
  a__law_agrees : Addr
  d__law_agrees : FuncData
  g__law_agrees : mg "_law_agrees" = some (.ref a__law_agrees)
  F__law_agrees : Fun K "_law_agrees" "_law_agrees" s_L_agrees a__law_agrees d__law_agrees
  b__law_agrees : Binds K d__law_agrees ["clearing", "told"] []
  a__law_settled : Addr
  d__law_settled : FuncData
  g__law_settled : mg "_law_settled" = some (.ref a__law_settled)
  F__law_settled : Fun K "_law_settled" "_law_settled" s_L_settled a__law_settled d__law_settled
  b__law_settled : Binds K d__law_settled ["clearing", "told", "waits"] []
  a__law_funded : Addr
  d__law_funded : FuncData
  g__law_funded : mg "_law_funded" = some (.ref a__law_funded)
  F__law_funded : Fun K "_law_funded" "_law_funded" s_L_funded a__law_funded d__law_funded
  b__law_funded : Binds K d__law_funded ["clearing", "told", "source", "scale"] []
  a_law : Addr
  d_law : FuncData
  g_law : mg "law" = some (.ref a_law)
  F_law : Fun K "law" "law" s_law a_law d_law
  b_law : Binds K d_law ["script"] []
  u_LIMIT : Value
  g_LIMIT : mg "LIMIT" = some u_LIMIT
  r_LIMIT : RelV (.int 1000000000) u_LIMIT
  u_LETTERS : Value
  g_LETTERS : mg "LETTERS" = some u_LETTERS
  r_LETTERS : RelV (.str "abcdefghijklmnopqrstuvwxyz") u_LETTERS
  u_DIGITS : Value
  g_DIGITS : mg "DIGITS" = some u_DIGITS
  r_DIGITS : RelV (.str "0123456789") u_DIGITS
  u_LONGEST_NAME : Value
  g_LONGEST_NAME : mg "LONGEST_NAME" = some u_LONGEST_NAME
  r_LONGEST_NAME : RelV (.int 12) u_LONGEST_NAME
  u_MOST_MEMBERS : Value
  g_MOST_MEMBERS : mg "MOST_MEMBERS" = some u_MOST_MEMBERS
  r_MOST_MEMBERS : RelV (.int 6) u_MOST_MEMBERS
  u_LONGEST_KEY : Value
  g_LONGEST_KEY : mg "LONGEST_KEY" = some u_LONGEST_KEY
  r_LONGEST_KEY : RelV (.int 40) u_LONGEST_KEY
  n_all : mg "all" = none
  n_bool : mg "bool" = none
  n_dict : mg "dict" = none
  n_enumerate : mg "enumerate" = none
  n_int : mg "int" = none
  n_isinstance : mg "isinstance" = none
  n_len : mg "len" = none
  n_list : mg "list" = none
  n_range : mg "range" = none
  n_str : mg "str" = none
  n_tuple : mg "tuple" = none
  n_zip : mg "zip" = none
  a_Clearing : Addr
  g_Clearing : mg "Clearing" = some (.ref a_Clearing)
  cl_Clearing : Cls K a_Clearing
  mk_Clearing : Mk K a_Clearing a_Clearing___init
  no_Clearing__balances : NoAttr K a_Clearing "_balances"
  no_Clearing__floors : NoAttr K a_Clearing "_floors"
  no_Clearing__queue : NoAttr K a_Clearing "_queue"
  no_Clearing__keys : NoAttr K a_Clearing "_keys"
  m_Clearing_check_member : Meth K a_Clearing "check_member" a_Clearing_check_member
  m_Clearing_add_member : Meth K a_Clearing "add_member" a_Clearing_add_member
  m_Clearing_members : Meth K a_Clearing "members" a_Clearing_members
  m_Clearing_balance_of : Meth K a_Clearing "balance_of" a_Clearing_balance_of
  m_Clearing_floor_of : Meth K a_Clearing "floor_of" a_Clearing_floor_of
  m_Clearing_fund : Meth K a_Clearing "fund" a_Clearing_fund
  m_Clearing_submit : Meth K a_Clearing "submit" a_Clearing_submit
  m_Clearing_queue : Meth K a_Clearing "queue" a_Clearing_queue
  m_Clearing_find_short : Meth K a_Clearing "find_short" a_Clearing_find_short
  m_Clearing_find_choice : Meth K a_Clearing "find_choice" a_Clearing_find_choice
  m_Clearing_settle : Meth K a_Clearing "settle" a_Clearing_settle
def Txt.cls {K : PySem.W.Frag} {mg : Str → Option Value} (T : Txt K mg) : Str → Addr := fun s => if s = "Clearing" then T.a_Clearing else 0
theorem Txt.cls_Clearing {K : PySem.W.Frag} {mg : Str → Option Value} (T : Txt K mg) : T.cls "Clearing" = T.a_Clearing := by unfold Txt.cls; repeat (first | rw [if_pos rfl] | rw [if_neg (by decide)])
local macro_rules | `(tactic| walk_at "rd") => `(tactic| try simp only [L2.start, tSeq, tIfS, tTest, tOp, tVar, tC, tRet, tRetN, tNext, tAsg, gName, tDrop, tCons, tNil, tCB, tB, rI0, rI, rEq, rNe, tAnd, tOr, tNot, tAndV, tOrV, tNotV, tIf, tUn, rU, Kv.sc_ii, Kv.sc_ss, Kv.sc_bb, Kv.sc_nn, Kv.sc_ni, Kv.sc_in, Kv.sc_sn, Kv.sc_ns, Kv.sc_bn, Kv.sc_nb, Kv.sc_is, Kv.sc_si, cxOf, and_assoc, rAppend, Kv.rIsP, L2H.cxH, tCall, tCallS, tTup, tLst, tBM, tBM0, tM0, tM1, tSl, tPart, tNoPart, tAug, ipI, gSub, tPar, tBreak, tCont, Kv.tKinds, tChain, tAugS, rIsB, rNotB, tYes, tCKw, wipe, List.foldl_cons, List.foldl_nil, iList, iTup, iRng1, iRng2, iEnum, iZip, Kv.tFor_eq, Kv.tLc_eq, Kv.sz_0, Kv.szl_0, Kv.sz_1, Kv.szl_1, Kv.sz_2, Kv.szl_2, Kv.sz_3, Kv.szl_3, Kv.sz_4, Kv.szl_4, Kv.sz_5, Kv.szl_5, Kv.sz_6, Kv.szl_6, Kv.sz_7, Kv.szl_7, Kv.sz_8, Kv.szl_8, Kv.sz_9, Kv.szl_9, Kv.sz_10, Kv.szl_10, Kv.sz_11, Kv.szl_11, Kv.sz_12, Kv.szl_12, Kv.sz_13, Kv.szl_13, Kv.sz_14, Kv.szl_14, Kv.sz_15, Kv.szl_15, Kv.sz_16, Kv.szl_16, Kv.sz_17, Kv.szl_17, Kv.sz_18, Kv.szl_18, Kv.sz_19, Kv.szl_19, Kv.sz_20, Kv.szl_20, Kv.sz_21, Kv.szl_21, Kv.sz_22, Kv.szl_22, Kv.sz_23, Kv.szl_23, Kv.sz_24, Kv.szl_24, Kv.sz_25, Kv.szl_25, Kv.sz_26, Kv.szl_26, Kv.cdiv_1, Kv.cdiv_2, Kv.cdiv_3, Kv.cdiv_4, Kv.cdiv_5, Kv.cdiv_6, Kv.cdiv_7, Kv.cdiv_8, Kv.cdiv_9, Kv.cdiv_10, Kv.cdiv_11, Kv.cdiv_12, Kv.cdiv_13, Kv.cdiv_14, Kv.cdiv_16, Kv.cdiv_20, Kv.cdiv_30, Kv.cdiv_50, Kv.cdiv_60, Kv.cdiv_64, Kv.cdiv_100, Kv.cdiv_400, Kv.cdiv_1000, Kv.cdiv_2000, Kv.cdiv_10000, Kv.cdiv_1000000,
  CPow, List.map_cons, List.map_nil, List.cons_append, List.nil_append, List.append_nil, List.length_cons, List.length_nil, List.replicate,
  List.getElem?_cons_zero, List.getElem?_cons_succ, List.set_cons_zero, List.set_cons_succ, Option.some.injEq, exists_eq_left', exists_eq_left, exists_eq_right, exists_eq_right', V.int.injEq, V.str.injEq, V.bl.injEq, V.ref.injEq, List.cons.injEq, exists_and_left, exists_and_right, and_true, true_and, and_self, false_and, and_false, or_false, false_or, exists_false, exists_const, reduceCtorEq, Nat.reduceSub, Nat.reduceAdd, Nat.reduceLeDiff, Nat.reduceLT,
  Int.reduceLT, Int.reduceLE, Int.reduceAdd, Int.reduceMul, Int.reduceSub, Int.reducePow, Int.reduceToNat, Int.reduceNeg, Int.reduceAbs, Nat.reducePow, decide_eq_true_eq, Bool.not_true, Bool.not_false, Bool.false_eq_true, ite_true, ite_false, if_true, if_false, decide_true, decide_false, Bool.not_eq_true', decide_eq_false_iff_not, not_true, not_false_eq_true, ne_eq])
local macro_rules | `(tactic| walk_at "st") => `(tactic| ((first | with_reducible refine Kv.seq_step fun U hU => ?_ | with_reducible refine Kv.gseq_step fun U hU => ?_); walk_at "rd"))
local macro_rules | `(tactic| walk_at "shp") => `(tactic| (refine Kv.shaped_of ?_ ?_ <;> (simp only [PyData.canLay0, PyData.canLayAll0, PyData.depth, PyData.depthAll, Bool.and_true, Bool.true_and]) <;> first | done | decide +kernel | omega))
local macro_rules | `(tactic| walk_at "eqv") => `(tactic| simp [PyData.eqv, PyData.eqvAll])
local macro_rules | `(tactic| walk_at "nx") => `(tactic| (subst_vars; (try dsimp only); first | walk_at "st" | walk_at "rd"))
section
variable {P : Program} {w : World} {K : PySem.W.Frag} {mg : Str → Option Value} {base : Heap}
theorem ok_wall (T : Txt K mg) : FnOk P w K mg base CX0 1 T.a__wall T.d__wall ["k"] (Mi.spM K T.cls T.exa 1 m_wall) := by
  refine T.F__wall.ok sc_wall (fun vs H Q E h => h.1) (fun cdv A outer s H vs Q E hr h => ?_)
  refine Mi.fin0 (ex := T.exa) (X := E) (
      (pss_one (ps_while PassesOwn.never (pt_val pe_bl) 
        (pss_one ps_pass)))) (fun xa => ?_) h
  exact (Mi.sS_while 1000 (Mi.sT_B Mi.sE_c) Mi.sS_next)
theorem ok_is_amount (T : Txt K mg) : FnOk P w K mg base CX0 1 T.a_is_amount T.d_is_amount ["number"] (Mi.spM K T.cls T.exa 1 m_is_amount) := by
  refine T.F_is_amount.ok sc_is_amount (fun vs H Q E h => h.1) (fun cdv A outer s H vs Q E hr h => ?_)
  refine Mi.fin0 (ex := T.exa) (X := E) (
      (pss_one (ps_ret (pe_chain op_le op_le pe_int (pv 0) (pe_glob (by rfl) T.g_LIMIT T.r_LIMIT))))) (fun xa => ?_) h
  exact (Mi.sS_ret (Mi.sE_chain Mi.pk_le Mi.pk_le Mi.sE_c Mi.sE_var Mi.sE_c))
theorem ok_is_name (T : Txt K mg) : FnOk P w K mg base CX0 1 T.a_is_name T.d_is_name ["text"] (Mi.spM K T.cls T.exa 1 m_is_name) := by
  refine T.F_is_name.ok sc_is_name (fun vs H Q E h => h.1) (fun cdv A outer s H vs Q E hr h => ?_)
  refine Mi.fin0 (ex := T.exa) (X := E) (
      (pss_cons (ps_if (pt_not (pt_chain op_le op_le pe_int (pe_callB call_len_str (by rfl) T.n_len PySem.boot_len (pa_cons (pv 0) pa_nil)) (pe_glob (by rfl) T.g_LONGEST_NAME T.r_LONGEST_NAME))) 
        (pss_one (ps_ret pe_bl)) pss_nil)
      (pss_one (ps_ret (pe_and (pe_cmpR op_in_str (pe_ix ix_str (pv 0) pe_int (fun _ _ => rfl)) (pe_glob (by rfl) T.g_LETTERS T.r_LETTERS) (by rfl)) (pe_one (pe_callB (cr_all rfl) (by rfl) T.n_all (by decide +kernel) (pa_cons (pe_lc (own := [("sign", 1)]) (g := gName 1) (tt := tYes) rfl sc_is_name.nd (pi_str (pv 0)) (blkOk_by (N := ["text", "sign"]) (sc := defScope s_is_name) (by decide +kernel)) (fun _ _ _ _ _ => (pg_name (i := 1) sc_is_name.nd rfl (Or.inl rfl))) (fun _ _ _ _ _ => pts_nil) (fun _ _ _ _ _ => (pe_or (pe_cmpR op_in_str (pv 1) (pe_glob (by rfl) T.g_LETTERS T.r_LETTERS) (by rfl)) (pe_one (pe_cmpR op_in_str (pv 1) (pe_glob (by rfl) T.g_DIGITS T.r_DIGITS) (by rfl)))))) pa_nil)))))))) (fun xa => ?_) h
  exact (Mi.sS_seq (Mi.sS_if (Mi.sT_not (Mi.sT_B (Mi.sE_chain Mi.pk_le Mi.pk_le Mi.sE_c (Mi.sE_pkC Mi.pk_lenS (Mi.sA_cons Mi.sE_var Mi.sA_nil)) Mi.sE_c))) (Mi.sS_ret Mi.sE_c) Mi.sS_next) 
    (Mi.sS_ret (Mi.sE_and (Mi.sE_pk Mi.pk_inS (Mi.sE_pk Mi.pk_ixS Mi.sE_var Mi.sE_c) Mi.sE_c) (Mi.sE_pkC Mi.pk_all (Mi.sA_cons (Mi.sE_frz (Mi.sN_lc (vs := [1]) (Mi.sI_str Mi.sE_var) (Mi.sG_name (by decide)) Mi.sT_yes (Mi.sE_or (Mi.sE_pk Mi.pk_inS Mi.sE_var Mi.sE_c) (Mi.sE_pk Mi.pk_inS Mi.sE_var Mi.sE_c)))) Mi.sA_nil)))))
theorem ok_Clearing___init (T : Txt K mg) : FnOk P w K mg base CX0 1 T.a_Clearing___init T.d_Clearing___init ["self"] (Mi.spM K T.cls T.exa 1 m_Clearing___init) := by
  refine T.F_Clearing___init.ok sc_Clearing___init (fun vs H Q E h => h.1) (fun cdv A outer s H vs Q E hr h => ?_)
  refine Mi.fin0 (ex := T.exa) (X := E) (
      (pss_cons (ps_fld (pv 0) pe_dnewK rfl)
      (pss_cons (ps_fld (pv 0) pe_dnewK rfl)
      (pss_cons (ps_fld (pv 0) (pe_lst pa_nil) rfl)
      (pss_one (ps_fld (pv 0) pe_dnewK rfl)))))) (fun xa => ?_) h
  exact (Mi.sS_seq (Mi.sS_fld T.cls_Clearing T.cl_Clearing T.no_Clearing__balances Mi.sE_var (Mi.sE_box Mi.sN_dnew)) 
    (Mi.sS_seq (Mi.sS_fld T.cls_Clearing T.cl_Clearing T.no_Clearing__floors Mi.sE_var (Mi.sE_box Mi.sN_dnew)) 
    (Mi.sS_seq (Mi.sS_fld T.cls_Clearing T.cl_Clearing T.no_Clearing__queue Mi.sE_var (Mi.sE_box (Mi.sN_lst Mi.sA_nil))) 
    (Mi.sS_fld T.cls_Clearing T.cl_Clearing T.no_Clearing__keys Mi.sE_var (Mi.sE_box Mi.sN_dnew)))))
theorem ok_Clearing_check_member (T : Txt K mg) : FnOk P w K mg base (L2.CX P w) 1 T.a_Clearing_check_member T.d_Clearing_check_member ["self", "name"] (Mi.spM K T.cls T.exa 2 m_Clearing_check_member) := by
  refine T.F_Clearing_check_member.okX sc_Clearing_check_member (fun vs H Q E h => h.1) (fun cdv A outer s H vs Q E hr h => ?_)
  refine Mi.finX (ex := T.exa) (X := E) (
      (pss_one (ps_if (pt_cmp (pc_dnotin (hu_of hr) (pv 1) (pe_fld (pv 0) rfl))) 
        (pss_one (ps_raise rfl (takes_of rfl rfl rfl rfl) (pmk_own PySem.F.excBase_ValueError (T.exx .missing) (T.exg .missing) (T.exk .missing) (raises_own (T.exb .missing) (T.ext .missing)) (by rfl)))) pss_nil))) (fun xa => ?_) h
  exact (Mi.sS_if (Mi.sT_B (Mi.sE_dnin Mi.sE_var (Mi.sE_fld T.cls_Clearing T.cl_Clearing T.no_Clearing__balances Mi.sE_var))) (Mi.sS_raise (fun _ _ _ h => h)) Mi.sS_next)
theorem ok_Clearing_members (T : Txt K mg) : FnOk P w K mg base CX0 1 T.a_Clearing_members T.d_Clearing_members ["self"] (Mi.spM K T.cls T.exa 1 m_Clearing_members) := by
  refine T.F_Clearing_members.ok sc_Clearing_members (fun vs H Q E h => h.1) (fun cdv A outer s H vs Q E hr h => ?_)
  refine Mi.fin0 (ex := T.exa) (X := E) (
      (pss_one (ps_ret (pe_callTy (call_list_dK rfl) (by rfl) T.n_list (by decide +kernel) (pa_cons (pe_fld (pv 0) rfl) pa_nil))))) (fun xa => ?_) h
  exact (Mi.sS_ret (Mi.sE_frz (Mi.sN_dlist (Mi.sE_fld T.cls_Clearing T.cl_Clearing T.no_Clearing__balances Mi.sE_var))))
theorem ok_Clearing_queue (T : Txt K mg) : FnOk P w K mg base CX0 1 T.a_Clearing_queue T.d_Clearing_queue ["self"] (Mi.spM K T.cls T.exa 1 m_Clearing_queue) := by
  refine T.F_Clearing_queue.ok sc_Clearing_queue (fun vs H Q E h => h.1) (fun cdv A outer s H vs Q E hr h => ?_)
  refine Mi.fin0 (ex := T.exa) (X := E) (
      (pss_one (ps_ret (pe_callTy call_list_of (by rfl) T.n_list (by decide +kernel) (pa_cons (pe_fld (pv 0) rfl) pa_nil))))) (fun xa => ?_) h
  exact (Mi.sS_ret (Mi.sE_frz (Mi.sN_C Mi.pk_listOf (Mi.sA_cons (Mi.sE_fld T.cls_Clearing T.cl_Clearing T.no_Clearing__queue Mi.sE_var) Mi.sA_nil))))
theorem ok_Clearing_find_short (T : Txt K mg) : FnOk P w K mg base CX0 1 T.a_Clearing_find_short T.d_Clearing_find_short ["self", "balances"] (Mi.spM K T.cls T.exa 2 m_Clearing_find_short) := by
  refine T.F_Clearing_find_short.ok sc_Clearing_find_short (fun vs H Q E h => h.1) (fun cdv A outer s H vs Q E hr h => ?_)
  refine Mi.fin0 (ex := T.exa) (X := E) (
      (pss_cons (ps_lock (ps_for PassesOwn.never rfl (pi_keys (pv 1)) (pg_name (i := 2) sc_Clearing_find_short.nd rfl (Or.inl rfl)) 
        (pss_one (ps_if (pt_cmpR op_lt (pe_dget (hu_of hr) (pv 1) (pv 2) (fun _ _ => rfl)) (pe_dget (hu_of hr) (pe_fld (pv 0) rfl) (pv 2) (fun _ _ => rfl)) (nomark _)) 
          (pss_one (ps_ret (pv 2))) pss_nil))))
      (pss_one (ps_ret pe_non)))) (fun xa => ?_) h
  exact (Mi.sS_seq (Mi.sS_lock (me := (Mi.mVar 1)) (Mi.sS_for (vs := [2]) (Mi.sI_keys Mi.sE_var) (Mi.sG_name (by decide)) (Mi.sS_if (Mi.sT_test (Mi.sE_pk Mi.pk_lt (Mi.sE_dget Mi.sE_var Mi.sE_var) (Mi.sE_dget (Mi.sE_fld T.cls_Clearing T.cl_Clearing T.no_Clearing__floors Mi.sE_var) Mi.sE_var))) (Mi.sS_ret Mi.sE_var) Mi.sS_next))) 
    (Mi.sS_ret Mi.sE_c))
theorem ok_L_cell (T : Txt K mg) : FnOk P w K mg base CX0 1 T.a__law_cell T.d__law_cell ["script", "k"] (Mi.spM K T.cls T.exa 2 m_L_cell) := by
  refine T.F__law_cell.ok sc_L_cell (fun vs H Q E h => h.1) (fun cdv A outer s H vs Q E hr h => ?_)
  refine Mi.fin0 (ex := T.exa) (X := E) (
      (pss_cons (ps_if (pt_cmpR op_lt (pv 1) (pe_callB call_len_seq (by rfl) T.n_len PySem.boot_len (pa_cons (pv 0) pa_nil)) (nomark _)) 
        (pss_one (ps_ret (pe_ix ix_list (pv 0) (pv 1) (fun _ _ => rfl)))) pss_nil)
      (pss_one (ps_ret pe_int)))) (fun xa => ?_) h
  exact (Mi.sS_seq (Mi.sS_if (Mi.sT_test (Mi.sE_pk Mi.pk_lt Mi.sE_var (Mi.sE_pkC Mi.pk_lenQ (Mi.sA_cons Mi.sE_var Mi.sA_nil)))) (Mi.sS_ret (Mi.sE_pk Mi.pk_ixL Mi.sE_var Mi.sE_var)) Mi.sS_next) 
    (Mi.sS_ret Mi.sE_c))
theorem ok_L_source (T : Txt K mg) : FnOk P w K mg base CX0 1 T.a__law_source T.d__law_source ["cell", "k"] (Mi.spM K T.cls T.exa 2 m_L_source) := by
  refine T.F__law_source.ok sc_L_source (fun vs H Q E h => h.1) (fun cdv A outer s H vs Q E hr h => ?_)
  refine Mi.fin0 (ex := T.exa) (X := E) (
      (pss_cons (ps_if (pt_cmpR op_ge (pv 0) (pe_op op_pow pe_int pe_int) (nomark _)) 
        (pss_one (ps_ret (pe_lst (pa_cons (pe_op op_sub (pv 0) (pe_op op_pow pe_int pe_int)) (pa_cons (pe_op op_add (pv 1) pe_int) pa_nil))))) pss_nil)
      (pss_one (ps_ret (pe_lst (pa_cons pe_int (pa_cons (pe_op op_mod (pe_callTy call_int1 (by rfl) T.n_int (by decide +kernel) (pa_cons (pe_op op_add (pe_op op_add (pe_op op_mulX (pv 0) pe_int) (pe_op op_mulX (pv 1) pe_int)) pe_int) pa_nil)) pe_int) pa_nil))))))) (fun xa => ?_) h
  exact (Mi.sS_seq (Mi.sS_if (Mi.sT_test (Mi.sE_pk Mi.pk_ge Mi.sE_var (Mi.sE_pk Mi.pk_pow Mi.sE_c Mi.sE_c))) (Mi.sS_retX (Mi.sN_lst (Mi.sA_cons (Mi.sE_d (Mi.sE_pk Mi.pk_sub Mi.sE_var (Mi.sE_pk Mi.pk_pow Mi.sE_c Mi.sE_c))) (Mi.sA_cons (Mi.sE_d (Mi.sE_pk Mi.pk_add Mi.sE_var Mi.sE_c)) Mi.sA_nil)))) Mi.sS_next) 
    (Mi.sS_retX (Mi.sN_lst (Mi.sA_cons Mi.sE_c (Mi.sA_cons (Mi.sE_d (Mi.sE_pk Mi.pk_mod (Mi.sE_pkC Mi.pk_int1 (Mi.sA_cons (Mi.sE_pk Mi.pk_add (Mi.sE_pk Mi.pk_add (Mi.sE_pk Mi.pk_mul Mi.sE_var Mi.sE_c) (Mi.sE_pk Mi.pk_mul Mi.sE_var Mi.sE_c)) Mi.sE_c) Mi.sA_nil)) Mi.sE_c)) Mi.sA_nil)))))
theorem ok_L_pick (T : Txt K mg) : FnOk P w K mg base CX0 1 T.a__law_pick T.d__law_pick ["source", "many"] (Mi.spM K T.cls T.exa 2 m_L_pick) := by
  refine T.F__law_pick.ok sc_L_pick (fun vs H Q E h => h.1) (fun cdv A outer s H vs Q E hr h => ?_)
  refine Mi.fin0 (ex := T.exa) (X := E) (
      (pss_cons (ps_if (pt_cmpR op_gt (pe_ix ix_list (pv 0) pe_int (fun _ _ => rfl)) pe_int (nomark _)) 
        (pss_cons (ps_set (i := 2) sc_L_pick.nd rfl (Or.inl rfl) (pe_op op_mod (pe_callTy call_int1 (by rfl) T.n_int (by decide +kernel) (pa_cons (pe_ix ix_list (pv 0) pe_int (fun _ _ => rfl)) pa_nil)) (pv 1)))
        (pss_cons (ps_asg (pe_op op_fdivW (pe_ix ix_list (pv 0) pe_int (fun _ _ => rfl)) (pv 1)) (pg_sub (pv 0) pe_int set_list))
        (pss_one (ps_ret (pv 2))))) pss_nil)
      (pss_cons (ps_asg (pe_op op_mod (pe_callTy call_int1 (by rfl) T.n_int (by decide +kernel) (pa_cons (pe_op op_add (pe_op op_mulX (pe_ix ix_list (pv 0) pe_int (fun _ _ => rfl)) pe_int) pe_int) pa_nil)) pe_int) (pg_sub (pv 0) pe_int set_list))
      (pss_cons (ps_set (i := 3) sc_L_pick.nd rfl (Or.inl rfl) (pe_op op_mod (pe_callTy call_int1 (by rfl) T.n_int (by decide +kernel) (pa_cons (pe_op op_add (pe_op op_add (pe_op op_mulX (pe_ix ix_list (pv 0) pe_int (fun _ _ => rfl)) pe_int) (pe_op op_fdivW (pe_ix ix_list (pv 0) pe_int (fun _ _ => rfl)) pe_int)) pe_int) pa_nil)) pe_int))
      (pss_one (ps_ret (pe_op op_mod (pe_callTy call_int1 (by rfl) T.n_int (by decide +kernel) (pa_cons (pe_op op_fdivW (pv 3) pe_int) pa_nil)) (pv 1)))))))) (fun xa => ?_) h
  exact (Mi.sS_seq (Mi.sS_if (Mi.sT_test (Mi.sE_pk Mi.pk_gt (Mi.sE_pk Mi.pk_ixL Mi.sE_var Mi.sE_c) Mi.sE_c)) (Mi.sS_seq (Mi.sS_asg (vs := [2]) (Mi.sE_pk Mi.pk_mod (Mi.sE_pkC Mi.pk_int1 (Mi.sA_cons (Mi.sE_pk Mi.pk_ixL Mi.sE_var Mi.sE_c) Mi.sA_nil)) Mi.sE_var) (Mi.sG_name (by decide))) 
      (Mi.sS_seq (Mi.sS_asg (vs := []) (Mi.sE_d (Mi.sE_pk Mi.pk_div (Mi.sE_pk Mi.pk_ixL Mi.sE_var Mi.sE_c) Mi.sE_var)) (Mi.sG_sub Mi.sE_var Mi.sE_c)) 
      (Mi.sS_ret Mi.sE_var))) Mi.sS_next) 
    (Mi.sS_seq (Mi.sS_asg (vs := []) (Mi.sE_d (Mi.sE_pk Mi.pk_mod (Mi.sE_pkC Mi.pk_int1 (Mi.sA_cons (Mi.sE_pk Mi.pk_add (Mi.sE_pk Mi.pk_mul (Mi.sE_pk Mi.pk_ixL Mi.sE_var Mi.sE_c) Mi.sE_c) Mi.sE_c) Mi.sA_nil)) Mi.sE_c)) (Mi.sG_sub Mi.sE_var Mi.sE_c)) 
    (Mi.sS_seq (Mi.sS_asg (vs := [3]) (Mi.sE_pk Mi.pk_mod (Mi.sE_pkC Mi.pk_int1 (Mi.sA_cons (Mi.sE_pk Mi.pk_add (Mi.sE_pk Mi.pk_add (Mi.sE_pk Mi.pk_mul (Mi.sE_pk Mi.pk_ixL Mi.sE_var Mi.sE_c) Mi.sE_c) (Mi.sE_pk Mi.pk_div (Mi.sE_pk Mi.pk_ixL Mi.sE_var Mi.sE_c) Mi.sE_c)) Mi.sE_c) Mi.sA_nil)) Mi.sE_c) (Mi.sG_name (by decide))) 
    (Mi.sS_ret (Mi.sE_pk Mi.pk_mod (Mi.sE_pkC Mi.pk_int1 (Mi.sA_cons (Mi.sE_pk Mi.pk_div Mi.sE_var Mi.sE_c) Mi.sA_nil)) Mi.sE_var)))))
theorem ok_L_is_number (T : Txt K mg) : FnOk P w K mg base CX0 1 T.a__law_is_number T.d__law_is_number ["actual", "expected"] (Mi.spM K T.cls T.exa 2 m_L_is_number) := by
  refine T.F__law_is_number.ok sc_L_is_number (fun vs H Q E h => h.1) (fun cdv A outer s H vs Q E hr h => ?_)
  refine Mi.fin0 (ex := T.exa) (X := E) (
      (pss_one (ps_ret (pe_and (pe_callB call_isi (by rfl) T.n_isinstance (by decide +kernel) (pa_cons (pv 0) (pa_cons (pe_bltn (v := .ty "int") (by rfl) T.n_int (by decide +kernel) rfl) pa_nil))) (pe_and (pe_not (pe_callB call_isi (by rfl) T.n_isinstance (by decide +kernel) (pa_cons (pv 0) (pa_cons (pe_bltn (v := .ty "bool") (by rfl) T.n_bool (by decide +kernel) rfl) pa_nil)))) (pe_one (pe_cmpR op_eq (pv 0) (pv 1) (nomark _)))))))) (fun xa => ?_) h
  exact (Mi.sS_ret (Mi.sE_and (Mi.sE_pkC Mi.pk_isi (Mi.sA_cons Mi.sE_var (Mi.sA_cons Mi.sE_c Mi.sA_nil))) (Mi.sE_and (Mi.sE_not (Mi.sE_pkC Mi.pk_isi (Mi.sA_cons Mi.sE_var (Mi.sA_cons Mi.sE_c Mi.sA_nil)))) (Mi.sE_pk Mi.pk_eq Mi.sE_var Mi.sE_var))))
theorem ok_L_moved (T : Txt K mg) : FnOk P w K mg base CX0 1 T.a__law_moved T.d__law_moved ["told", "payments"] (Mi.spM K T.cls T.exa 2 m_L_moved) := by
  refine T.F__law_moved.ok sc_L_moved (fun vs H Q E h => h.1) (fun cdv A outer s H vs Q E hr h => ?_)
  refine Mi.fin0 (ex := T.exa) (X := E) (
      (pss_one (ps_for PassesOwn.never rfl (pi_list (pv 0)) (pg_name (i := 2) sc_L_moved.nd rfl (Or.inl rfl)) 
        (pss_one (ps_for PassesOwn.never rfl (pi_list (pv 1)) (pg_name (i := 3) sc_L_moved.nd rfl (Or.inl rfl)) 
          (pss_cons (ps_if (pt_cmpR op_eq (pe_ix ix_tup (pv 3) pe_int (fun _ _ => rfl)) (pe_ix ix_list (pv 2) pe_int (fun _ _ => rfl)) (nomark _)) 
            (pss_one (ps_asg (pe_op op_sub (pe_ix ix_list (pv 2) pe_int (fun _ _ => rfl)) (pe_ix ix_tup (pv 3) pe_int (fun _ _ => rfl))) (pg_sub (pv 2) pe_int set_list))) pss_nil)
          (pss_one (ps_if (pt_cmpR op_eq (pe_ix ix_tup (pv 3) pe_int (fun _ _ => rfl)) (pe_ix ix_list (pv 2) pe_int (fun _ _ => rfl)) (nomark _)) 
            (pss_one (ps_asg (pe_op op_add (pe_ix ix_list (pv 2) pe_int (fun _ _ => rfl)) (pe_ix ix_tup (pv 3) pe_int (fun _ _ => rfl))) (pg_sub (pv 2) pe_int set_list))) pss_nil)))))))) (fun xa => ?_) h
  exact (Mi.sS_for (vs := [2]) (Mi.sI_list Mi.sE_var) (Mi.sG_name (by decide)) (Mi.sS_for (vs := [3]) (Mi.sI_list Mi.sE_var) (Mi.sG_name (by decide)) (Mi.sS_seq (Mi.sS_if (Mi.sT_test (Mi.sE_pk Mi.pk_eq (Mi.sE_pk Mi.pk_ixT Mi.sE_var Mi.sE_c) (Mi.sE_pk Mi.pk_ixL Mi.sE_var Mi.sE_c))) (Mi.sS_asg (vs := []) (Mi.sE_d (Mi.sE_pk Mi.pk_sub (Mi.sE_pk Mi.pk_ixL Mi.sE_var Mi.sE_c) (Mi.sE_pk Mi.pk_ixT Mi.sE_var Mi.sE_c))) (Mi.sG_sub Mi.sE_var Mi.sE_c)) Mi.sS_next) 
        (Mi.sS_if (Mi.sT_test (Mi.sE_pk Mi.pk_eq (Mi.sE_pk Mi.pk_ixT Mi.sE_var Mi.sE_c) (Mi.sE_pk Mi.pk_ixL Mi.sE_var Mi.sE_c))) (Mi.sS_asg (vs := []) (Mi.sE_d (Mi.sE_pk Mi.pk_add (Mi.sE_pk Mi.pk_ixL Mi.sE_var Mi.sE_c) (Mi.sE_pk Mi.pk_ixT Mi.sE_var Mi.sE_c))) (Mi.sG_sub Mi.sE_var Mi.sE_c)) Mi.sS_next))))
theorem ok_check_amount (T : Txt K mg) : FnOk P w K mg base (L2.CX P w) 2 T.a_check_amount T.d_check_amount ["amount"] (Mi.spM K T.cls T.exa 1 m_check_amount) := by
  refine T.F_check_amount.okX sc_check_amount (fun vs H Q E h => h.1) (fun cdv A outer s H vs Q E hr h => ?_)
  refine Mi.finX (ex := T.exa) (X := E) (
      (pss_one (ps_if (pt_not (pt_val (pe_call (ok_is_amount T) (hr.mono (by decide : 1 ≤ _)) (by rfl) T.g_is_amount T.F_is_amount.kp T.b_is_amount .nil pass0 (pa_cons (pv 0) pa_nil)))) 
        (pss_one (ps_raise rfl (takes_of rfl rfl rfl rfl) (pmk_own PySem.F.excBase_ValueError (T.exx .badValue) (T.exg .badValue) (T.exk .badValue) (raises_own (T.exb .badValue) (T.ext .badValue)) (by rfl)))) pss_nil))) (fun xa => ?_) h
  exact (Mi.sS_if (Mi.sT_not (Mi.sT_B (Mi.sE_call (fun _ _ _ h _ => (Mi.hE0 h).elim) (Mi.sA_cons (Mi.sE_d Mi.sE_var) Mi.sA_nil)))) (Mi.sS_raise (fun _ _ _ h => h)) Mi.sS_next)
theorem ok_check_name (T : Txt K mg) : FnOk P w K mg base (L2.CX P w) 2 T.a_check_name T.d_check_name ["text"] (Mi.spM K T.cls T.exa 1 m_check_name) := by
  refine T.F_check_name.okX sc_check_name (fun vs H Q E h => h.1) (fun cdv A outer s H vs Q E hr h => ?_)
  refine Mi.finX (ex := T.exa) (X := E) (
      (pss_one (ps_if (pt_not (pt_val (pe_call (ok_is_name T) (hr.mono (by decide : 1 ≤ _)) (by rfl) T.g_is_name T.F_is_name.kp T.b_is_name .nil pass0 (pa_cons (pv 0) pa_nil)))) 
        (pss_one (ps_raise rfl (takes_of rfl rfl rfl rfl) (pmk_own PySem.F.excBase_ValueError (T.exx .badValue) (T.exg .badValue) (T.exk .badValue) (raises_own (T.exb .badValue) (T.ext .badValue)) (by rfl)))) pss_nil))) (fun xa => ?_) h
  exact (Mi.sS_if (Mi.sT_not (Mi.sT_B (Mi.sE_call (fun _ _ _ h _ => (Mi.hE0 h).elim) (Mi.sA_cons (Mi.sE_d Mi.sE_var) Mi.sA_nil)))) (Mi.sS_raise (fun _ _ _ h => h)) Mi.sS_next)
theorem ok_Clearing_balance_of (T : Txt K mg) : FnOk P w K mg base (L2.CX P w) 2 T.a_Clearing_balance_of T.d_Clearing_balance_of ["self", "name"] (Mi.spM K T.cls T.exa 2 m_Clearing_balance_of) := by
  refine T.F_Clearing_balance_of.okX sc_Clearing_balance_of (fun vs H Q E h => h.1) (fun cdv A outer s H vs Q E hr h => ?_)
  refine Mi.finX (ex := T.exa) (X := E) (
      (pss_cons (ps_expr (pe_meth (pv 0) T.cl_Clearing T.m_Clearing_check_member (ok_Clearing_check_member T) (hr.mono (by decide : 1 ≤ _)) T.b_Clearing_check_member .nil (passes_call (takes_of rfl rfl rfl rfl) (fun _ _ _ _ h => h)) (pa_cons (pv 1) pa_nil)))
      (pss_one (ps_ret (pe_dget (hu_of hr) (pe_fld (pv 0) rfl) (pv 1) (fun _ _ => rfl)))))) (fun xa => ?_) h
  exact (Mi.sS_seq (Mi.sS_drop (Mi.sE_meth T.cls_Clearing (fun _ _ _ _ h => h) Mi.sE_var (Mi.sA_cons (Mi.sE_d Mi.sE_var) Mi.sA_nil))) 
    (Mi.sS_ret (Mi.sE_dget (Mi.sE_fld T.cls_Clearing T.cl_Clearing T.no_Clearing__balances Mi.sE_var) Mi.sE_var)))
theorem ok_Clearing_floor_of (T : Txt K mg) : FnOk P w K mg base CX0 2 T.a_Clearing_floor_of T.d_Clearing_floor_of ["self", "name"] (Mi.spM K T.cls T.exa 2 m_Clearing_floor_of) := by
  refine T.F_Clearing_floor_of.ok sc_Clearing_floor_of (fun vs H Q E h => h.1) (fun cdv A outer s H vs Q E hr h => ?_)
  refine Mi.fin0 (ex := T.exa) (X := E) (
      (pss_one (ps_expr (pe_call (ok_wall T) (hr.mono (by decide : 1 ≤ _)) (by rfl) T.g__wall T.F__wall.kp T.b__wall .nil pass0 (pa_cons pe_int pa_nil))))) (fun xa => ?_) h
  exact (Mi.sS_drop (Mi.sE_call (fun _ _ _ h _ => (Mi.hE0 h).elim) (Mi.sA_cons Mi.sE_c Mi.sA_nil)))
theorem ok_Clearing_fund (T : Txt K mg) : FnOk P w K mg base (L2.CX P w) 2 T.a_Clearing_fund T.d_Clearing_fund ["self", "name", "units"] (Mi.spM K T.cls T.exa 3 m_Clearing_fund) := by
  refine T.F_Clearing_fund.okX sc_Clearing_fund (fun vs H Q E h => h.1) (fun cdv A outer s H vs Q E hr h => ?_)
  refine Mi.finX (ex := T.exa) (X := E) (
      (pss_cons (ps_expr (pe_meth (pv 0) T.cl_Clearing T.m_Clearing_check_member (ok_Clearing_check_member T) (hr.mono (by decide : 1 ≤ _)) T.b_Clearing_check_member .nil (passes_call (takes_of rfl rfl rfl rfl) (fun _ _ _ _ h => h)) (pa_cons (pv 1) pa_nil)))
      (pss_cons (ps_if (pt_not (pt_chain op_le op_le (pe_un un_neg (pe_glob (by rfl) T.g_LIMIT T.r_LIMIT)) (pv 2) (pe_glob (by rfl) T.g_LIMIT T.r_LIMIT))) 
        (pss_one (ps_raise rfl (takes_of rfl rfl rfl rfl) (pmk_own PySem.F.excBase_ValueError (T.exx .badValue) (T.exg .badValue) (T.exk .badValue) (raises_own (T.exb .badValue) (T.ext .badValue)) (by rfl)))) pss_nil)
      (pss_cons (ps_if (pt_cmpR op_lt (pe_op op_add (pe_dget (hu_of hr) (pe_fld (pv 0) rfl) (pv 1) (fun _ _ => rfl)) (pv 2)) (pe_dget (hu_of hr) (pe_fld (pv 0) rfl) (pv 1) (fun _ _ => rfl)) (nomark _)) 
        (pss_one (ps_raise rfl (takes_of rfl rfl rfl rfl) (pmk_own PySem.F.excBase_ValueError (T.exx .refused) (T.exg .refused) (T.exk .refused) (raises_own (T.exb .refused) (T.ext .refused)) (by rfl)))) pss_nil)
      (pss_one (ps_daug (hu_of hr) (pe_fld (pv 0) rfl) (pv 1) (pv 2) in_add (by intros; rfl))))))) (fun xa => ?_) h
  exact (Mi.sS_seq (Mi.sS_drop (Mi.sE_meth T.cls_Clearing (fun _ _ _ _ h => h) Mi.sE_var (Mi.sA_cons (Mi.sE_d Mi.sE_var) Mi.sA_nil))) 
    (Mi.sS_seq (Mi.sS_if (Mi.sT_not (Mi.sT_B (Mi.sE_chain Mi.pk_le Mi.pk_le (Mi.sE_un Mi.pk_neg Mi.sE_c) Mi.sE_var Mi.sE_c))) (Mi.sS_raise (fun _ _ _ h => h)) Mi.sS_next) 
    (Mi.sS_seq (Mi.sS_if (Mi.sT_test (Mi.sE_pk Mi.pk_lt (Mi.sE_pk Mi.pk_add (Mi.sE_dget (Mi.sE_fld T.cls_Clearing T.cl_Clearing T.no_Clearing__balances Mi.sE_var) Mi.sE_var) Mi.sE_var) (Mi.sE_dget (Mi.sE_fld T.cls_Clearing T.cl_Clearing T.no_Clearing__floors Mi.sE_var) Mi.sE_var))) (Mi.sS_raise (fun _ _ _ h => h)) Mi.sS_next) 
    (Mi.sS_daug Mi.au_add (Mi.sE_fld T.cls_Clearing T.cl_Clearing T.no_Clearing__balances Mi.sE_var) Mi.sE_var Mi.sE_var))))
theorem ok_Clearing_find_choice (T : Txt K mg) : FnOk P w K mg base CX0 2 T.a_Clearing_find_choice T.d_Clearing_find_choice ["self"] (Mi.spM K T.cls T.exa 1 m_Clearing_find_choice) := by
  refine T.F_Clearing_find_choice.ok sc_Clearing_find_choice (fun vs H Q E h => h.1) (fun cdv A outer s H vs Q E hr h => ?_)
  refine Mi.fin0 (ex := T.exa) (X := E) (
      (pss_cons (ps_set (i := 1) sc_Clearing_find_choice.nd rfl (Or.inl rfl) (pe_callTy Mi.call_copyD (by rfl) T.n_dict (by decide +kernel) (pa_cons (pe_fld (pv 0) rfl) pa_nil)))
      (pss_cons (ps_lock (Mi.ps_setDc (i := 2) (own := [("name", 3)]) (g := gName 3) (tt := tYes) rfl sc_Clearing_find_choice.nd rfl rfl (Mi.sw_dc rfl rfl rfl (by decide +kernel)) (pi_keys (pv 1)) (blkOk_by (N := ["self", "balances", "places", "name", "place", "_", "payer", "payee", "amount", "chosen", "short"]) (sc := defScope s_Clearing_find_choice) (by decide +kernel)) (fun _ _ _ _ _ => (pg_name (i := 3) sc_Clearing_find_choice.nd rfl (Or.inl rfl))) (fun _ _ _ _ _ => pts_nil) (fun _ _ _ _ _ => (pv 3)) (fun _ _ _ _ _ => (pe_lst pa_nil))))
      (pss_cons (ps_for PassesOwn.never rfl (pi_enum (by rfl) T.n_enumerate (pa_cons (pe_fld (pv 0) rfl) pa_nil)) (pg_tup (n := 2) (by rfl) (pgs_cons (pg_name (i := 4) sc_Clearing_find_choice.nd rfl (Or.inl rfl)) (pgs_cons (pg_tup (n := 4) (by rfl) (pgs_cons (pg_name (i := 5) sc_Clearing_find_choice.nd rfl (Or.inl rfl)) (pgs_cons (pg_name (i := 6) sc_Clearing_find_choice.nd rfl (Or.inl rfl)) (pgs_cons (pg_name (i := 7) sc_Clearing_find_choice.nd rfl (Or.inl rfl)) (pgs_cons (pg_name (i := 8) sc_Clearing_find_choice.nd rfl (Or.inl rfl)) pgs_nil))))) pgs_nil))) 
        (pss_cons (ps_expr (pe_bm PySem.F.plainAttrs_list PySem.F.slot_list_append PySem.F.type_list_append mt_append (pe_dget (hu_of hr) (pv 2) (pv 6) (fun _ _ => rfl)) (pa_cons (pv 4) pa_nil)))
        (pss_cons (ps_daug (hu_of hr) (pv 1) (pv 6) (pv 8) in_sub (by intros; rfl))
        (pss_one (ps_daug (hu_of hr) (pv 1) (pv 7) (pv 8) in_add (by intros; rfl))))))
      (pss_cons (ps_set (i := 9) sc_Clearing_find_choice.nd rfl (Or.inl rfl) (pe_op Mi.op_repS (pe_lst (pa_cons pe_bl pa_nil)) (pe_callB call_len_seq (by rfl) T.n_len PySem.boot_len (pa_cons (pe_fld (pv 0) rfl) pa_nil))))
      (pss_cons (ps_set (i := 10) sc_Clearing_find_choice.nd rfl (Or.inl rfl) (pe_meth (pv 0) T.cl_Clearing T.m_Clearing_find_short (ok_Clearing_find_short T) (hr.mono (by decide : 1 ≤ _)) T.b_Clearing_find_short .nil pass0 (pa_cons (pv 1) pa_nil)))
      (pss_cons (ps_while PassesOwn.never (pt_cmpR op_notN (pv 10) pe_non (nomark _)) 
        (pss_cons (ps_set (i := 4) sc_Clearing_find_choice.nd rfl (Or.inl rfl) (pe_bm0 PySem.F.plainAttrs_list PySem.F.slot_list_pop PySem.F.type_list_pop mt_pop (pe_dget (hu_of hr) (pv 2) (pv 10) (fun _ _ => rfl))))
        (pss_cons (ps_asg (pe_ix ix_list (pe_fld (pv 0) rfl) (pv 4) (fun _ _ => rfl)) (pg_tup (n := 4) (by rfl) (pgs_cons (pg_name (i := 5) sc_Clearing_find_choice.nd rfl (Or.inl rfl)) (pgs_cons (pg_name (i := 6) sc_Clearing_find_choice.nd rfl (Or.inl rfl)) (pgs_cons (pg_name (i := 7) sc_Clearing_find_choice.nd rfl (Or.inl rfl)) (pgs_cons (pg_name (i := 8) sc_Clearing_find_choice.nd rfl (Or.inl rfl)) pgs_nil))))))
        (pss_cons (ps_asg pe_bl (pg_sub (pv 9) (pv 4) set_list))
        (pss_cons (ps_daug (hu_of hr) (pv 1) (pv 6) (pv 8) in_add (by intros; rfl))
        (pss_cons (ps_daug (hu_of hr) (pv 1) (pv 7) (pv 8) in_sub (by intros; rfl))
        (pss_one (ps_set (i := 10) sc_Clearing_find_choice.nd rfl (Or.inl rfl) (pe_meth (pv 0) T.cl_Clearing T.m_Clearing_find_short (ok_Clearing_find_short T) (hr.mono (by decide : 1 ≤ _)) T.b_Clearing_find_short .nil pass0 (pa_cons (pv 1) pa_nil))))))))))
      (pss_one (ps_ret (pe_tup (pa_cons (pv 9) (pa_cons (pv 1) pa_nil)))))))))))) (fun xa => ?_) h
  exact (Mi.sS_seq (Mi.sS_asg (vs := [1]) (Mi.sE_box (Mi.sN_dcopy (Mi.sE_fld T.cls_Clearing T.cl_Clearing T.no_Clearing__balances Mi.sE_var))) (Mi.sG_name (by decide))) 
    (Mi.sS_seq (Mi.sS_asg (vs := [2]) (Mi.sE_box (Mi.sN_lock (me := (Mi.mVar 1)) (Mi.sN_dc (vs := [3]) (Mi.sI_keys Mi.sE_var) (Mi.sG_name (by decide)) Mi.sT_yes Mi.sE_var (Mi.sE_box (Mi.sN_lst Mi.sA_nil))))) (Mi.sG_name (by decide))) 
    (Mi.sS_seq (Mi.sS_for (vs := [4, 5, 6, 7, 8]) (Mi.sI_enum (Mi.sA_cons (Mi.sE_fld T.cls_Clearing T.cl_Clearing T.no_Clearing__queue Mi.sE_var) Mi.sA_nil)) (Mi.sG_tup (Mi.sGs_cons (Mi.sG_name (by decide)) (Mi.sGs_cons (Mi.sG_tup (Mi.sGs_cons (Mi.sG_name (by decide)) (Mi.sGs_cons (Mi.sG_name (by decide)) (Mi.sGs_cons (Mi.sG_name (by decide)) (Mi.sGs_cons (Mi.sG_name (by decide)) Mi.sGs_nil))))) Mi.sGs_nil))) (Mi.sS_seq (Mi.sS_drop (Mi.sE_mut Mi.pk_append (Mi.sE_dget Mi.sE_var Mi.sE_var) (Mi.sA_cons (Mi.sE_d Mi.sE_var) Mi.sA_nil))) 
      (Mi.sS_seq (Mi.sS_daug Mi.au_sub Mi.sE_var Mi.sE_var Mi.sE_var) 
      (Mi.sS_daug Mi.au_add Mi.sE_var Mi.sE_var Mi.sE_var)))) 
    (Mi.sS_seq (Mi.sS_asgN (Mi.sN_2 Mi.pk_repL (Mi.sE_frz (Mi.sN_lst (Mi.sA_cons Mi.sE_c Mi.sA_nil))) (Mi.sE_pkC Mi.pk_lenQ (Mi.sA_cons (Mi.sE_fld T.cls_Clearing T.cl_Clearing T.no_Clearing__queue Mi.sE_var) Mi.sA_nil)))) 
    (Mi.sS_seq (Mi.sS_asg (vs := [10]) (Mi.sE_meth T.cls_Clearing (fun _ _ _ h _ => (Mi.hE0 h).elim) Mi.sE_var (Mi.sA_cons Mi.sE_var Mi.sA_nil)) (Mi.sG_name (by decide))) 
    (Mi.sS_seq (Mi.sS_while 100 (Mi.sT_test (Mi.sE_pk Mi.pk_notN Mi.sE_var Mi.sE_c)) (Mi.sS_seq (Mi.sS_asg (vs := [4]) (Mi.sE_mut0 Mi.pk_pop (Mi.sE_dget Mi.sE_var Mi.sE_var)) (Mi.sG_name (by decide))) 
      (Mi.sS_seq (Mi.sS_asg (vs := [5, 6, 7, 8]) (Mi.sE_pk Mi.pk_ixL (Mi.sE_fld T.cls_Clearing T.cl_Clearing T.no_Clearing__queue Mi.sE_var) Mi.sE_var) (Mi.sG_tup (Mi.sGs_cons (Mi.sG_name (by decide)) (Mi.sGs_cons (Mi.sG_name (by decide)) (Mi.sGs_cons (Mi.sG_name (by decide)) (Mi.sGs_cons (Mi.sG_name (by decide)) Mi.sGs_nil)))))) 
      (Mi.sS_seq (Mi.sS_asg (vs := []) Mi.sE_c (Mi.sG_sub Mi.sE_var Mi.sE_var)) 
      (Mi.sS_seq (Mi.sS_daug Mi.au_add Mi.sE_var Mi.sE_var Mi.sE_var) 
      (Mi.sS_seq (Mi.sS_daug Mi.au_sub Mi.sE_var Mi.sE_var Mi.sE_var) 
      (Mi.sS_asg (vs := [10]) (Mi.sE_meth T.cls_Clearing (fun _ _ _ h _ => (Mi.hE0 h).elim) Mi.sE_var (Mi.sA_cons Mi.sE_var Mi.sA_nil)) (Mi.sG_name (by decide))))))))) 
    (Mi.sS_ret (Mi.sE_tup (Mi.sA_cons (Mi.sE_d Mi.sE_var) (Mi.sA_cons (Mi.sE_d Mi.sE_var) Mi.sA_nil))))))))))
theorem ok_L_name (T : Txt K mg) : FnOk P w K mg base CX0 2 T.a__law_name T.d__law_name ["source"] (Mi.spM K T.cls T.exa 1 m_L_name) := by
  refine T.F__law_name.ok sc_L_name (fun vs H Q E h => h.1) (fun cdv A outer s H vs Q E hr h => ?_)
  refine Mi.fin0 (ex := T.exa) (X := E) (
      (pss_cons (ps_set (i := 1) sc_L_name.nd rfl (Or.inl rfl) pe_str)
      (pss_cons (ps_set (i := 2) sc_L_name.nd rfl (Or.inl rfl) (pe_ix ix_str (pv 1) (pe_call (ok_L_pick T) (hr.mono (by decide : 1 ≤ _)) (by rfl) T.g__law_pick T.F__law_pick.kp T.b__law_pick .nil pass0 (pa_cons (pv 0) (pa_cons pe_int pa_nil))) (fun _ _ => rfl)))
      (pss_cons (ps_for PassesOwn.never rfl (pi_range1 (by rfl) T.n_range (pa_cons (pe_call (ok_L_pick T) (hr.mono (by decide : 1 ≤ _)) (by rfl) T.g__law_pick T.F__law_pick.kp T.b__law_pick .nil pass0 (pa_cons (pv 0) (pa_cons pe_int pa_nil))) pa_nil)) (pg_name (i := 3) sc_L_name.nd rfl (Or.inl rfl)) 
        (pss_one (ps_set (i := 2) sc_L_name.nd rfl (Or.inl rfl) (pe_op op_add_str (pv 2) (pe_ix ix_str (pv 1) (pe_call (ok_L_pick T) (hr.mono (by decide : 1 ≤ _)) (by rfl) T.g__law_pick T.F__law_pick.kp T.b__law_pick .nil pass0 (pa_cons (pv 0) (pa_cons pe_int pa_nil))) (fun _ _ => rfl))))))
      (pss_one (ps_ret (pv 2))))))) (fun xa => ?_) h
  exact (Mi.sS_seq (Mi.sS_asg (vs := [1]) Mi.sE_c (Mi.sG_name (by decide))) 
    (Mi.sS_seq (Mi.sS_asg (vs := [2]) (Mi.sE_pk Mi.pk_ixS Mi.sE_var (Mi.sE_call (fun _ _ _ h _ => (Mi.hE0 h).elim) (Mi.sA_cons Mi.sE_var (Mi.sA_cons Mi.sE_c Mi.sA_nil)))) (Mi.sG_name (by decide))) 
    (Mi.sS_seq (Mi.sS_for (vs := [3]) (Mi.sI_rng1 (Mi.sA_cons (Mi.sE_call (fun _ _ _ h _ => (Mi.hE0 h).elim) (Mi.sA_cons Mi.sE_var (Mi.sA_cons Mi.sE_c Mi.sA_nil))) Mi.sA_nil)) (Mi.sG_name (by decide)) (Mi.sS_asg (vs := [2]) (Mi.sE_pk Mi.pk_cat Mi.sE_var (Mi.sE_pk Mi.pk_ixS Mi.sE_var (Mi.sE_call (fun _ _ _ h _ => (Mi.hE0 h).elim) (Mi.sA_cons Mi.sE_var (Mi.sA_cons Mi.sE_c Mi.sA_nil))))) (Mi.sG_name (by decide)))) 
    (Mi.sS_ret Mi.sE_var))))
theorem ok_L_pairs (T : Txt K mg) : FnOk P w K mg base CX0 2 T.a__law_pairs T.d__law_pairs ["source", "many"] (Mi.spM K T.cls T.exa 2 m_L_pairs) := by
  refine T.F__law_pairs.ok sc_L_pairs (fun vs H Q E h => h.1) (fun cdv A outer s H vs Q E hr h => ?_)
  refine Mi.fin0 (ex := T.exa) (X := E) (
      (pss_cons (ps_set (i := 2) sc_L_pairs.nd rfl (Or.inl rfl) (pe_call (ok_L_pick T) (hr.mono (by decide : 1 ≤ _)) (by rfl) T.g__law_pick T.F__law_pick.kp T.b__law_pick .nil pass0 (pa_cons (pv 0) (pa_cons (pv 1) pa_nil))))
      (pss_one (ps_ret (pe_lst (pa_cons (pv 2) (pa_cons (pe_op op_mod (pe_callTy call_int1 (by rfl) T.n_int (by decide +kernel) (pa_cons (pe_op op_add (pe_op op_add (pv 2) pe_int) (pe_call (ok_L_pick T) (hr.mono (by decide : 1 ≤ _)) (by rfl) T.g__law_pick T.F__law_pick.kp T.b__law_pick .nil pass0 (pa_cons (pv 0) (pa_cons (pe_op op_sub (pv 1) pe_int) pa_nil)))) pa_nil)) (pv 1)) pa_nil))))))) (fun xa => ?_) h
  exact (Mi.sS_seq (Mi.sS_asg (vs := [2]) (Mi.sE_call (fun _ _ _ h _ => (Mi.hE0 h).elim) (Mi.sA_cons Mi.sE_var (Mi.sA_cons (Mi.sE_d Mi.sE_var) Mi.sA_nil))) (Mi.sG_name (by decide))) 
    (Mi.sS_ret (Mi.sE_frz (Mi.sN_lst (Mi.sA_cons (Mi.sE_d Mi.sE_var) (Mi.sA_cons (Mi.sE_d (Mi.sE_pk Mi.pk_mod (Mi.sE_pkC Mi.pk_int1 (Mi.sA_cons (Mi.sE_pk Mi.pk_add (Mi.sE_pk Mi.pk_add Mi.sE_var Mi.sE_c) (Mi.sE_call (fun _ _ _ h _ => (Mi.hE0 h).elim) (Mi.sA_cons Mi.sE_var (Mi.sA_cons (Mi.sE_d (Mi.sE_pk Mi.pk_sub Mi.sE_var Mi.sE_c)) Mi.sA_nil)))) Mi.sA_nil)) Mi.sE_var)) Mi.sA_nil))))))
theorem ok_Clearing_add_member (T : Txt K mg) : FnOk P w K mg base (L2.CX P w) 3 T.a_Clearing_add_member T.d_Clearing_add_member ["self", "name", "floor"] (Mi.spM K T.cls T.exa 3 m_Clearing_add_member) := by
  refine T.F_Clearing_add_member.okX sc_Clearing_add_member (fun vs H Q E h => h.1) (fun cdv A outer s H vs Q E hr h => ?_)
  refine Mi.finX (ex := T.exa) (X := E) (
      (pss_cons (ps_expr (pe_call (ok_check_name T) (hr.mono (by decide : 2 ≤ _)) (by rfl) T.g_check_name T.F_check_name.kp T.b_check_name .nil (passes_call (takes_of rfl rfl rfl rfl) (fun _ _ _ _ h => h)) (pa_cons (pv 1) pa_nil)))
      (pss_cons (ps_if (pt_not (pt_chain op_le op_le (pe_un un_neg (pe_glob (by rfl) T.g_LIMIT T.r_LIMIT)) (pv 2) pe_int)) 
        (pss_one (ps_raise rfl (takes_of rfl rfl rfl rfl) (pmk_own PySem.F.excBase_ValueError (T.exx .badValue) (T.exg .badValue) (T.exk .badValue) (raises_own (T.exb .badValue) (T.ext .badValue)) (by rfl)))) pss_nil)
      (pss_cons (ps_if (pt_cmp (pc_din (hu_of hr) (pv 1) (pe_fld (pv 0) rfl))) 
        (pss_one (ps_raise rfl (takes_of rfl rfl rfl rfl) (pmk_own PySem.F.excBase_ValueError (T.exx .refused) (T.exg .refused) (T.exk .refused) (raises_own (T.exb .refused) (T.ext .refused)) (by rfl)))) pss_nil)
      (pss_cons (ps_if (pt_cmpR op_ge (pe_callB call_lenD (by rfl) T.n_len PySem.boot_len (pa_cons (pe_fld (pv 0) rfl) pa_nil)) (pe_glob (by rfl) T.g_MOST_MEMBERS T.r_MOST_MEMBERS) (nomark _)) 
        (pss_one (ps_raise rfl (takes_of rfl rfl rfl rfl) (pmk_own PySem.F.excBase_ValueError (T.exx .full) (T.exg .full) (T.exk .full) (raises_own (T.exb .full) (T.ext .full)) (by rfl)))) pss_nil)
      (pss_cons (ps_dput (hu_of hr) (pe_fld (pv 0) rfl) (pv 1) pe_int rfl)
      (pss_one (ps_dput (hu_of hr) (pe_fld (pv 0) rfl) (pv 1) (pv 2) rfl)))))))) (fun xa => ?_) h
  exact (Mi.sS_seq (Mi.sS_drop (Mi.sE_call (fun _ _ _ _ h => h) (Mi.sA_cons (Mi.sE_d Mi.sE_var) Mi.sA_nil))) 
    (Mi.sS_seq (Mi.sS_if (Mi.sT_not (Mi.sT_B (Mi.sE_chain Mi.pk_le Mi.pk_le (Mi.sE_un Mi.pk_neg Mi.sE_c) Mi.sE_var Mi.sE_c))) (Mi.sS_raise (fun _ _ _ h => h)) Mi.sS_next) 
    (Mi.sS_seq (Mi.sS_if (Mi.sT_B (Mi.sE_din Mi.sE_var (Mi.sE_fld T.cls_Clearing T.cl_Clearing T.no_Clearing__balances Mi.sE_var))) (Mi.sS_raise (fun _ _ _ h => h)) Mi.sS_next) 
    (Mi.sS_seq (Mi.sS_if (Mi.sT_test (Mi.sE_pk Mi.pk_ge (Mi.sE_dlen (Mi.sE_fld T.cls_Clearing T.cl_Clearing T.no_Clearing__balances Mi.sE_var)) Mi.sE_c)) (Mi.sS_raise (fun _ _ _ h => h)) Mi.sS_next) 
    (Mi.sS_seq (Mi.sS_dput (Mi.sE_fld T.cls_Clearing T.cl_Clearing T.no_Clearing__balances Mi.sE_var) Mi.sE_var Mi.sE_c) 
    (Mi.sS_dput (Mi.sE_fld T.cls_Clearing T.cl_Clearing T.no_Clearing__floors Mi.sE_var) Mi.sE_var Mi.sE_var))))))
theorem ok_Clearing_submit (T : Txt K mg) : FnOk P w K mg base (L2.CX P w) 3 T.a_Clearing_submit T.d_Clearing_submit ["self", "key", "payer", "payee", "amount"] (Mi.spM K T.cls T.exa 5 m_Clearing_submit) := by
  refine T.F_Clearing_submit.okX sc_Clearing_submit (fun vs H Q E h => h.1) (fun cdv A outer s H vs Q E hr h => ?_)
  refine Mi.finX (ex := T.exa) (X := E) (
      (pss_cons (ps_if (pt_not (pt_chain op_le op_le pe_int (pe_callB call_len_str (by rfl) T.n_len PySem.boot_len (pa_cons (pv 1) pa_nil)) (pe_glob (by rfl) T.g_LONGEST_KEY T.r_LONGEST_KEY))) 
        (pss_one (ps_raise rfl (takes_of rfl rfl rfl rfl) (pmk_own PySem.F.excBase_ValueError (T.exx .badValue) (T.exg .badValue) (T.exk .badValue) (raises_own (T.exb .badValue) (T.ext .badValue)) (by rfl)))) pss_nil)
      (pss_cons (ps_expr (pe_meth (pv 0) T.cl_Clearing T.m_Clearing_check_member (ok_Clearing_check_member T) (hr.mono (by decide : 1 ≤ _)) T.b_Clearing_check_member .nil (passes_call (takes_of rfl rfl rfl rfl) (fun _ _ _ _ h => h)) (pa_cons (pv 2) pa_nil)))
      (pss_cons (ps_expr (pe_meth (pv 0) T.cl_Clearing T.m_Clearing_check_member (ok_Clearing_check_member T) (hr.mono (by decide : 1 ≤ _)) T.b_Clearing_check_member .nil (passes_call (takes_of rfl rfl rfl rfl) (fun _ _ _ _ h => h)) (pa_cons (pv 3) pa_nil)))
      (pss_cons (ps_if (pt_cmpR op_eq (pv 2) (pv 3) (nomark _)) 
        (pss_one (ps_raise rfl (takes_of rfl rfl rfl rfl) (pmk_own PySem.F.excBase_ValueError (T.exx .refused) (T.exg .refused) (T.exk .refused) (raises_own (T.exb .refused) (T.ext .refused)) (by rfl)))) pss_nil)
      (pss_cons (ps_expr (pe_call (ok_check_amount T) (hr.mono (by decide : 2 ≤ _)) (by rfl) T.g_check_amount T.F_check_amount.kp T.b_check_amount .nil (passes_call (takes_of rfl rfl rfl rfl) (fun _ _ _ _ h => h)) (pa_cons (pv 4) pa_nil)))
      (pss_cons (ps_if (pt_cmp (pc_din (hu_of hr) (pv 1) (pe_fld (pv 0) rfl))) 
        (pss_one (ps_raise rfl (takes_of rfl rfl rfl rfl) (pmk_own PySem.F.excBase_ValueError (T.exx .refused) (T.exg .refused) (T.exk .refused) (raises_own (T.exb .refused) (T.ext .refused)) (by rfl)))) pss_nil)
      (pss_cons (ps_dput (hu_of hr) (pe_fld (pv 0) rfl) (pv 1) pe_bl rfl)
      (pss_one (ps_expr (pe_bm PySem.F.plainAttrs_list PySem.F.slot_list_append PySem.F.type_list_append mt_append (pe_fld (pv 0) rfl) (pa_cons (pe_tup (pa_cons (pv 1) (pa_cons (pv 2) (pa_cons (pv 3) (pa_cons (pv 4) pa_nil))))) pa_nil)))))))))))) (fun xa => ?_) h
  exact (Mi.sS_seq (Mi.sS_if (Mi.sT_not (Mi.sT_B (Mi.sE_chain Mi.pk_le Mi.pk_le Mi.sE_c (Mi.sE_pkC Mi.pk_lenS (Mi.sA_cons Mi.sE_var Mi.sA_nil)) Mi.sE_c))) (Mi.sS_raise (fun _ _ _ h => h)) Mi.sS_next) 
    (Mi.sS_seq (Mi.sS_drop (Mi.sE_meth T.cls_Clearing (fun _ _ _ _ h => h) Mi.sE_var (Mi.sA_cons (Mi.sE_d Mi.sE_var) Mi.sA_nil))) 
    (Mi.sS_seq (Mi.sS_drop (Mi.sE_meth T.cls_Clearing (fun _ _ _ _ h => h) Mi.sE_var (Mi.sA_cons (Mi.sE_d Mi.sE_var) Mi.sA_nil))) 
    (Mi.sS_seq (Mi.sS_if (Mi.sT_test (Mi.sE_pk Mi.pk_eq Mi.sE_var Mi.sE_var)) (Mi.sS_raise (fun _ _ _ h => h)) Mi.sS_next) 
    (Mi.sS_seq (Mi.sS_drop (Mi.sE_call (fun _ _ _ _ h => h) (Mi.sA_cons (Mi.sE_d Mi.sE_var) Mi.sA_nil))) 
    (Mi.sS_seq (Mi.sS_if (Mi.sT_B (Mi.sE_din Mi.sE_var (Mi.sE_fld T.cls_Clearing T.cl_Clearing T.no_Clearing__keys Mi.sE_var))) (Mi.sS_raise (fun _ _ _ h => h)) Mi.sS_next) 
    (Mi.sS_seq (Mi.sS_dput (Mi.sE_fld T.cls_Clearing T.cl_Clearing T.no_Clearing__keys Mi.sE_var) Mi.sE_var Mi.sE_c) 
    (Mi.sS_drop (Mi.sE_mut Mi.pk_append (Mi.sE_fld T.cls_Clearing T.cl_Clearing T.no_Clearing__queue Mi.sE_var) (Mi.sA_cons (Mi.sE_d (Mi.sE_tup (Mi.sA_cons (Mi.sE_d Mi.sE_var) (Mi.sA_cons (Mi.sE_d Mi.sE_var) (Mi.sA_cons (Mi.sE_d Mi.sE_var) (Mi.sA_cons (Mi.sE_d Mi.sE_var) Mi.sA_nil)))))) Mi.sA_nil))))))))))
theorem ok_Clearing_settle (T : Txt K mg) : FnOk P w K mg base CX0 3 T.a_Clearing_settle T.d_Clearing_settle ["self"] (Mi.spM K T.cls T.exa 1 m_Clearing_settle) := by
  refine T.F_Clearing_settle.ok sc_Clearing_settle (fun vs H Q E h => h.1) (fun cdv A outer s H vs Q E hr h => ?_)
  refine Mi.fin0 (ex := T.exa) (X := E) (
      (pss_cons (ps_asg (pe_meth0 (pv 0) T.cl_Clearing T.m_Clearing_find_choice (ok_Clearing_find_choice T) (hr.mono (by decide : 2 ≤ _)) T.b_Clearing_find_choice .nil pass0) (pg_tup (n := 2) (by rfl) (pgs_cons (pg_name (i := 1) sc_Clearing_settle.nd rfl (Or.inl rfl)) (pgs_cons (pg_name (i := 2) sc_Clearing_settle.nd rfl (Or.inl rfl)) pgs_nil))))
      (pss_cons (ps_setLc (i := 3) (own := [("payment", 4), ("done", 5)]) (g := gTup K 2 (gCons (gName 4) (gCons (gName 5) gNil))) rfl sc_Clearing_settle.nd rfl rfl (sw_true rfl rfl rfl (by decide +kernel)) (pi_zip (by rfl) T.n_zip (pa_cons (pe_fld (pv 0) rfl) (pa_cons (pv 1) pa_nil))) (blkOk_by (N := ["self", "chosen", "balances", "settled", "payment", "done"]) (sc := defScope s_Clearing_settle) (by decide +kernel)) (fun _ _ _ _ _ => (pg_tup (n := 2) (by rfl) (pgs_cons (pg_name (i := 4) sc_Clearing_settle.nd rfl (Or.inl rfl)) (pgs_cons (pg_name (i := 5) sc_Clearing_settle.nd rfl (Or.inl rfl)) pgs_nil)))) (fun _ _ _ _ _ => pts_one (pt_val (pv 5))) (fun _ _ _ _ _ => (pv 4)))
      (pss_cons (ps_fld (pv 0) (pe_lc (own := [("payment", 4), ("done", 5)]) (g := gTup K 2 (gCons (gName 4) (gCons (gName 5) gNil))) rfl sc_Clearing_settle.nd (pi_zip (by rfl) T.n_zip (pa_cons (pe_fld (pv 0) rfl) (pa_cons (pv 1) pa_nil))) (blkOk_by (N := ["self", "chosen", "balances", "settled", "payment", "done"]) (sc := defScope s_Clearing_settle) (by decide +kernel)) (fun _ _ _ _ _ => (pg_tup (n := 2) (by rfl) (pgs_cons (pg_name (i := 4) sc_Clearing_settle.nd rfl (Or.inl rfl)) (pgs_cons (pg_name (i := 5) sc_Clearing_settle.nd rfl (Or.inl rfl)) pgs_nil)))) (fun _ _ _ _ _ => pts_one (pt_not (pt_val (pv 5)))) (fun _ _ _ _ _ => (pv 4))) rfl)
      (pss_cons (ps_fld (pv 0) (pv 2) rfl)
      (pss_one (ps_ret (pv 3)))))))) (fun xa => ?_) h
  exact (Mi.sS_seq (Mi.sS_asg (vs := [1, 2]) (Mi.sE_meth T.cls_Clearing (fun _ _ _ h _ => (Mi.hE0 h).elim) Mi.sE_var Mi.sA_nil) (Mi.sG_tup (Mi.sGs_cons (Mi.sG_name (by decide)) (Mi.sGs_cons (Mi.sG_name (by decide)) Mi.sGs_nil)))) 
    (Mi.sS_seq (Mi.sS_asgN (Mi.sN_lc (vs := [4, 5]) (Mi.sI_zip (Mi.sA_cons (Mi.sE_fld T.cls_Clearing T.cl_Clearing T.no_Clearing__queue Mi.sE_var) (Mi.sA_cons Mi.sE_var Mi.sA_nil))) (Mi.sG_tup (Mi.sGs_cons (Mi.sG_name (by decide)) (Mi.sGs_cons (Mi.sG_name (by decide)) Mi.sGs_nil))) (Mi.sT_B Mi.sE_var) Mi.sE_var)) 
    (Mi.sS_seq (Mi.sS_fld T.cls_Clearing T.cl_Clearing T.no_Clearing__queue Mi.sE_var (Mi.sE_box (Mi.sN_lc (vs := [4, 5]) (Mi.sI_zip (Mi.sA_cons (Mi.sE_fld T.cls_Clearing T.cl_Clearing T.no_Clearing__queue Mi.sE_var) (Mi.sA_cons Mi.sE_var Mi.sA_nil))) (Mi.sG_tup (Mi.sGs_cons (Mi.sG_name (by decide)) (Mi.sGs_cons (Mi.sG_name (by decide)) Mi.sGs_nil))) (Mi.sT_not (Mi.sT_B Mi.sE_var)) Mi.sE_var))) 
    (Mi.sS_seq (Mi.sS_fld T.cls_Clearing T.cl_Clearing T.no_Clearing__balances Mi.sE_var Mi.sE_var) 
    (Mi.sS_ret Mi.sE_var)))))
theorem ok_L_names (T : Txt K mg) : FnOk P w K mg base CX0 3 T.a__law_names T.d__law_names ["source", "many"] (Mi.spM K T.cls T.exa 2 m_L_names) := by
  refine T.F__law_names.ok sc_L_names (fun vs H Q E h => h.1) (fun cdv A outer s H vs Q E hr h => ?_)
  refine Mi.fin0 (ex := T.exa) (X := E) (
      (pss_cons (ps_set (i := 2) sc_L_names.nd rfl (Or.inr rfl) (pe_lst pa_nil))
      (pss_cons (ps_set (i := 3) sc_L_names.nd rfl (Or.inl rfl) (pe_slice sl_str (pe_call (ok_L_name T) (hr.mono (by decide : 2 ≤ _)) (by rfl) T.g__law_name T.F__law_name.kp T.b__law_name .nil pass0 (pa_cons (pv 0) pa_nil)) po_none (po_some (pe_call (ok_L_pick T) (hr.mono (by decide : 1 ≤ _)) (by rfl) T.g__law_pick T.F__law_pick.kp T.b__law_pick .nil pass0 (pa_cons (pv 0) (pa_cons pe_int pa_nil))))))
      (pss_cons (ps_for PassesOwn.never rfl (pi_range1 (by rfl) T.n_range (pa_cons (pv 1) pa_nil)) (pg_name (i := 4) sc_L_names.nd rfl (Or.inl rfl)) 
        (pss_cons (ps_set (i := 5) sc_L_names.nd rfl (Or.inl rfl) (pe_slice sl_str (pe_op op_add_str (pv 3) (pe_call (ok_L_name T) (hr.mono (by decide : 2 ≤ _)) (by rfl) T.g__law_name T.F__law_name.kp T.b__law_name .nil pass0 (pa_cons (pv 0) pa_nil))) po_none (po_some pe_int)))
        (pss_cons (ps_if (PW.pt (pw_or (pt_cmpR (Mi.op_inK K) (pv 5) (pv 2) (by rfl)) (pw_or1 (pt_cmpR op_eq (pv 5) pe_str (nomark _))))) 
          (pss_one (ps_set (i := 5) sc_L_names.nd rfl (Or.inl rfl) (pe_ix ix_list (pe_lc (own := [("spare", 6)]) (g := gName 6) rfl sc_L_names.nd (pi_list (pe_lst (pa_cons pe_str (pa_cons pe_str (pa_cons pe_str (pa_cons pe_str (pa_cons pe_str (pa_cons pe_str (pa_cons pe_str pa_nil))))))))) (blkOk_by (N := ["source", "many", "names", "common", "k", "name", "spare"]) (sc := defScope s_L_names) (by decide +kernel)) (fun _ _ _ _ _ => (pg_name (i := 6) sc_L_names.nd rfl (Or.inl rfl))) (fun _ _ _ _ _ => pts_one (pt_cmpR (Mi.op_notInK K) (pv 6) (pv 2) (by rfl))) (fun _ _ _ _ _ => (pv 6))) pe_int (fun _ _ => rfl)))) pss_nil)
        (pss_one (ps_expr (pe_bm PySem.F.plainAttrs_list PySem.F.slot_list_append PySem.F.type_list_append mt_append (pv 2) (pa_cons (pv 5) pa_nil)))))))
      (pss_one (ps_ret (pv 2))))))) (fun xa => ?_) h
  exact (Mi.sS_seq (Mi.sS_asgN (Mi.sN_lst Mi.sA_nil)) 
    (Mi.sS_seq (Mi.sS_asg (vs := [3]) (Mi.sE_slS (Mi.sE_call (fun _ _ _ h _ => (Mi.hE0 h).elim) (Mi.sA_cons Mi.sE_var Mi.sA_nil)) Mi.sO_none (Mi.sO_some (Mi.sE_call (fun _ _ _ h _ => (Mi.hE0 h).elim) (Mi.sA_cons Mi.sE_var (Mi.sA_cons Mi.sE_c Mi.sA_nil))))) (Mi.sG_name (by decide))) 
    (Mi.sS_seq (Mi.sS_for (vs := [4]) (Mi.sI_rng1 (Mi.sA_cons Mi.sE_var Mi.sA_nil)) (Mi.sG_name (by decide)) (Mi.sS_seq (Mi.sS_asg (vs := [5]) (Mi.sE_slS (Mi.sE_pk Mi.pk_cat Mi.sE_var (Mi.sE_call (fun _ _ _ h _ => (Mi.hE0 h).elim) (Mi.sA_cons Mi.sE_var Mi.sA_nil))) Mi.sO_none (Mi.sO_some Mi.sE_c)) (Mi.sG_name (by decide))) 
      (Mi.sS_seq (Mi.sS_if (Mi.sT_or (Mi.sT_test (Mi.sE_pk (Mi.pk_in (neg := false)) Mi.sE_var Mi.sE_var)) (Mi.sT_test (Mi.sE_pk Mi.pk_eq Mi.sE_var Mi.sE_c))) (Mi.sS_asg (vs := [5]) (Mi.sE_pk Mi.pk_ixL (Mi.sE_frz (Mi.sN_lc (vs := [6]) (Mi.sI_list (Mi.sE_frz (Mi.sN_lst (Mi.sA_cons Mi.sE_c (Mi.sA_cons Mi.sE_c (Mi.sA_cons Mi.sE_c (Mi.sA_cons Mi.sE_c (Mi.sA_cons Mi.sE_c (Mi.sA_cons Mi.sE_c (Mi.sA_cons Mi.sE_c Mi.sA_nil)))))))))) (Mi.sG_name (by decide)) (Mi.sT_test (Mi.sE_pk (Mi.pk_in (neg := true)) Mi.sE_var Mi.sE_var)) Mi.sE_var)) Mi.sE_c) (Mi.sG_name (by decide))) Mi.sS_next) 
      (Mi.sS_drop (Mi.sE_mut Mi.pk_append Mi.sE_var (Mi.sA_cons (Mi.sE_d Mi.sE_var) Mi.sA_nil)))))) 
    (Mi.sS_ret Mi.sE_var))))
theorem ok_L_payment (T : Txt K mg) : FnOk P w K mg base CX0 3 T.a__law_payment T.d__law_payment ["source", "k", "names", "scale"] (Mi.spM K T.cls T.exa 4 m_L_payment) := by
  refine T.F__law_payment.ok sc_L_payment (fun vs H Q E h => h.1) (fun cdv A outer s H vs Q E hr h => ?_)
  refine Mi.fin0 (ex := T.exa) (X := E) (
      (pss_cons (ps_set (i := 4) sc_L_payment.nd rfl (Or.inl rfl) (pe_call (ok_L_pairs T) (hr.mono (by decide : 2 ≤ _)) (by rfl) T.g__law_pairs T.F__law_pairs.kp T.b__law_pairs .nil pass0 (pa_cons (pv 0) (pa_cons (pe_callB call_len_seq (by rfl) T.n_len PySem.boot_len (pa_cons (pv 2) pa_nil)) pa_nil))))
      (pss_one (ps_ret (pe_tup (pa_cons (pe_op op_add_str (pe_op op_add_str (pe_call (ok_L_name T) (hr.mono (by decide : 2 ≤ _)) (by rfl) T.g__law_name T.F__law_name.kp T.b__law_name .nil pass0 (pa_cons (pv 0) pa_nil)) pe_str) (pe_callTy call_str_int (by rfl) T.n_str (by decide +kernel) (pa_cons (pv 1) pa_nil))) (pa_cons (pe_ix ix_list (pv 2) (pe_ix ix_list (pv 4) pe_int (fun _ _ => rfl)) (fun _ _ => rfl)) (pa_cons (pe_ix ix_list (pv 2) (pe_ix ix_list (pv 4) pe_int (fun _ _ => rfl)) (fun _ _ => rfl)) (pa_cons (pe_op op_add pe_int (pe_call (ok_L_pick T) (hr.mono (by decide : 1 ≤ _)) (by rfl) T.g__law_pick T.F__law_pick.kp T.b__law_pick .nil pass0 (pa_cons (pv 0) (pa_cons (pv 3) pa_nil)))) pa_nil))))))))) (fun xa => ?_) h
  exact (Mi.sS_seq (Mi.sS_asg (vs := [4]) (Mi.sE_call (fun _ _ _ h _ => (Mi.hE0 h).elim) (Mi.sA_cons Mi.sE_var (Mi.sA_cons (Mi.sE_d (Mi.sE_pkC Mi.pk_lenQ (Mi.sA_cons Mi.sE_var Mi.sA_nil))) Mi.sA_nil))) (Mi.sG_name (by decide))) 
    (Mi.sS_ret (Mi.sE_tup (Mi.sA_cons (Mi.sE_d (Mi.sE_pk Mi.pk_cat (Mi.sE_pk Mi.pk_cat (Mi.sE_call (fun _ _ _ h _ => (Mi.hE0 h).elim) (Mi.sA_cons Mi.sE_var Mi.sA_nil)) Mi.sE_c) (Mi.sE_pkC Mi.pk_strI (Mi.sA_cons Mi.sE_var Mi.sA_nil)))) (Mi.sA_cons (Mi.sE_d (Mi.sE_pk Mi.pk_ixL Mi.sE_var (Mi.sE_pk Mi.pk_ixL Mi.sE_var Mi.sE_c))) (Mi.sA_cons (Mi.sE_d (Mi.sE_pk Mi.pk_ixL Mi.sE_var (Mi.sE_pk Mi.pk_ixL Mi.sE_var Mi.sE_c))) (Mi.sA_cons (Mi.sE_d (Mi.sE_pk Mi.pk_add Mi.sE_c (Mi.sE_call (fun _ _ _ h _ => (Mi.hE0 h).elim) (Mi.sA_cons Mi.sE_var (Mi.sA_cons (Mi.sE_d Mi.sE_var) Mi.sA_nil))))) Mi.sA_nil)))))))
theorem ok_L_agrees (T : Txt K mg) : FnOk P w K mg base CX0 3 T.a__law_agrees T.d__law_agrees ["clearing", "told"] (Mi.spM K T.cls T.exa 2 m_L_agrees) := by
  refine T.F__law_agrees.ok sc_L_agrees (fun vs H Q E h => h.1) (fun cdv A outer s H vs Q E hr h => ?_)
  refine Mi.fin0 (ex := T.exa) (X := E) (
      (pss_cons (ps_for PassesOwn.never rfl (pi_list (pv 1)) (pg_name (i := 2) sc_L_agrees.nd rfl (Or.inl rfl)) 
        (pss_one (ps_if (PW.pt (pw_or (pt_not (pt_val (pe_call (ok_L_is_number T) (hr.mono (by decide : 1 ≤ _)) (by rfl) T.g__law_is_number T.F__law_is_number.kp T.b__law_is_number .nil pass0 (pa_cons (pe_meth (pv 0) T.cl_Clearing T.m_Clearing_balance_of (ok_Clearing_balance_of T) (hr.mono (by decide : 2 ≤ _)) T.b_Clearing_balance_of .nil passL (pa_cons (pe_ix ix_list (pv 2) pe_int (fun _ _ => rfl)) pa_nil)) (pa_cons (pe_ix ix_list (pv 2) pe_int (fun _ _ => rfl)) pa_nil))))) (pw_or1 (pt_cmpR op_lt (pe_ix ix_list (pv 2) pe_int (fun _ _ => rfl)) (pe_ix ix_list (pv 2) pe_int (fun _ _ => rfl)) (nomark _))))) 
          (pss_one (ps_ret pe_bl)) pss_nil)))
      (pss_one (ps_ret pe_bl)))) (fun xa => ?_) h
  exact (Mi.sS_seq (Mi.sS_for (vs := [2]) (Mi.sI_list Mi.sE_var) (Mi.sG_name (by decide)) (Mi.sS_if (Mi.sT_or (Mi.sT_not (Mi.sT_B (Mi.sE_call (fun _ _ _ h _ => (Mi.hE0 h).elim) (Mi.sA_cons (Mi.sE_d (Mi.sE_meth T.cls_Clearing (fun _ _ _ _ h => h) Mi.sE_var (Mi.sA_cons (Mi.sE_d (Mi.sE_pk Mi.pk_ixL Mi.sE_var Mi.sE_c)) Mi.sA_nil))) (Mi.sA_cons (Mi.sE_d (Mi.sE_pk Mi.pk_ixL Mi.sE_var Mi.sE_c)) Mi.sA_nil))))) (Mi.sT_test (Mi.sE_pk Mi.pk_lt (Mi.sE_pk Mi.pk_ixL Mi.sE_var Mi.sE_c) (Mi.sE_pk Mi.pk_ixL Mi.sE_var Mi.sE_c)))) (Mi.sS_ret Mi.sE_c) Mi.sS_next)) 
    (Mi.sS_ret Mi.sE_c))
theorem ok_L_funded (T : Txt K mg) : FnOk P w K mg base CX0 3 T.a__law_funded T.d__law_funded ["clearing", "told", "source", "scale"] (Mi.spM K T.cls T.exa 4 m_L_funded) := by
  refine T.F__law_funded.ok sc_L_funded (fun vs H Q E h => h.1) (fun cdv A outer s H vs Q E hr h => ?_)
  refine Mi.fin0 (ex := T.exa) (X := E) (
      (pss_cons (ps_set (i := 4) sc_L_funded.nd rfl (Or.inl rfl) (pe_ix ix_list (pv 1) (pe_call (ok_L_pick T) (hr.mono (by decide : 1 ≤ _)) (by rfl) T.g__law_pick T.F__law_pick.kp T.b__law_pick .nil pass0 (pa_cons (pv 2) (pa_cons (pe_callB call_len_seq (by rfl) T.n_len PySem.boot_len (pa_cons (pv 1) pa_nil)) pa_nil))) (fun _ _ => rfl)))
      (pss_cons (ps_set (i := 5) sc_L_funded.nd rfl (Or.inl rfl) (pe_ix ix_list (pe_lst (pa_cons (pe_call (ok_L_pick T) (hr.mono (by decide : 1 ≤ _)) (by rfl) T.g__law_pick T.F__law_pick.kp T.b__law_pick .nil pass0 (pa_cons (pv 2) (pa_cons (pv 3) pa_nil))) (pa_cons (pe_op op_sub pe_int (pe_call (ok_L_pick T) (hr.mono (by decide : 1 ≤ _)) (by rfl) T.g__law_pick T.F__law_pick.kp T.b__law_pick .nil pass0 (pa_cons (pv 2) (pa_cons (pe_op op_add (pe_op op_sub (pe_ix ix_list (pv 4) pe_int (fun _ _ => rfl)) (pe_ix ix_list (pv 4) pe_int (fun _ _ => rfl))) pe_int) pa_nil)))) pa_nil))) (pe_call (ok_L_pick T) (hr.mono (by decide : 1 ≤ _)) (by rfl) T.g__law_pick T.F__law_pick.kp T.b__law_pick .nil pass0 (pa_cons (pv 2) (pa_cons pe_int pa_nil))) (fun _ _ => rfl)))
      (pss_one (ps_if (pt_cmpR op_ge (pv 5) (pe_op op_sub pe_int pe_int) (nomark _)) 
        (pss_cons (ps_expr (pe_meth (pv 0) T.cl_Clearing T.m_Clearing_fund (ok_Clearing_fund T) (hr.mono (by decide : 2 ≤ _)) T.b_Clearing_fund .nil passL (pa_cons (pe_ix ix_list (pv 4) pe_int (fun _ _ => rfl)) (pa_cons (pv 5) pa_nil))))
        (pss_one (ps_asg (pe_op op_add (pe_ix ix_list (pv 4) pe_int (fun _ _ => rfl)) (pv 5)) (pg_sub (pv 4) pe_int set_list)))) pss_nil))))) (fun xa => ?_) h
  exact (Mi.sS_seq (Mi.sS_asg (vs := [4]) (Mi.sE_pk Mi.pk_ixL Mi.sE_var (Mi.sE_call (fun _ _ _ h _ => (Mi.hE0 h).elim) (Mi.sA_cons Mi.sE_var (Mi.sA_cons (Mi.sE_d (Mi.sE_pkC Mi.pk_lenQ (Mi.sA_cons Mi.sE_var Mi.sA_nil))) Mi.sA_nil)))) (Mi.sG_name (by decide))) 
    (Mi.sS_seq (Mi.sS_asg (vs := [5]) (Mi.sE_pk Mi.pk_ixL (Mi.sE_frz (Mi.sN_lst (Mi.sA_cons (Mi.sE_d (Mi.sE_call (fun _ _ _ h _ => (Mi.hE0 h).elim) (Mi.sA_cons Mi.sE_var (Mi.sA_cons (Mi.sE_d Mi.sE_var) Mi.sA_nil)))) (Mi.sA_cons (Mi.sE_d (Mi.sE_pk Mi.pk_sub Mi.sE_c (Mi.sE_call (fun _ _ _ h _ => (Mi.hE0 h).elim) (Mi.sA_cons Mi.sE_var (Mi.sA_cons (Mi.sE_d (Mi.sE_pk Mi.pk_add (Mi.sE_pk Mi.pk_sub (Mi.sE_pk Mi.pk_ixL Mi.sE_var Mi.sE_c) (Mi.sE_pk Mi.pk_ixL Mi.sE_var Mi.sE_c)) Mi.sE_c)) Mi.sA_nil))))) Mi.sA_nil)))) (Mi.sE_call (fun _ _ _ h _ => (Mi.hE0 h).elim) (Mi.sA_cons Mi.sE_var (Mi.sA_cons Mi.sE_c Mi.sA_nil)))) (Mi.sG_name (by decide))) 
    (Mi.sS_if (Mi.sT_test (Mi.sE_pk Mi.pk_ge Mi.sE_var (Mi.sE_pk Mi.pk_sub Mi.sE_c Mi.sE_c))) (Mi.sS_seq (Mi.sS_drop (Mi.sE_meth T.cls_Clearing (fun _ _ _ _ h => h) Mi.sE_var (Mi.sA_cons (Mi.sE_d (Mi.sE_pk Mi.pk_ixL Mi.sE_var Mi.sE_c)) (Mi.sA_cons (Mi.sE_d Mi.sE_var) Mi.sA_nil)))) 
      (Mi.sS_asg (vs := []) (Mi.sE_d (Mi.sE_pk Mi.pk_add (Mi.sE_pk Mi.pk_ixL Mi.sE_var Mi.sE_c) Mi.sE_var)) (Mi.sG_sub Mi.sE_var Mi.sE_c))) Mi.sS_next)))
theorem ok_L_filled (T : Txt K mg) : FnOk P w K mg base CX0 4 T.a__law_filled T.d__law_filled ["source", "names"] (Mi.spM K T.cls T.exa 2 m_L_filled) := by
  refine T.F__law_filled.ok sc_L_filled (fun vs H Q E h => h.1) (fun cdv A outer s H vs Q E hr h => ?_)
  refine Mi.fin0 (ex := T.exa) (X := E) (
      (pss_cons (ps_set (i := 2) sc_L_filled.nd rfl (Or.inl rfl) (pe_make0 T.mk_Clearing (ok_Clearing___init T) (hr.mono (by decide : 2 ≤ _)) (by rfl) T.g_Clearing T.b_Clearing___init .nil pass0))
      (pss_cons (ps_set (i := 3) sc_L_filled.nd rfl (Or.inl rfl) (pe_lst pa_nil))
      (pss_cons (ps_set (i := 4) sc_L_filled.nd rfl (Or.inl rfl) (pe_ix ix_list (pe_lst (pa_cons pe_int (pa_cons pe_int (pa_cons pe_int pa_nil)))) (pe_call (ok_L_pick T) (hr.mono (by decide : 1 ≤ _)) (by rfl) T.g__law_pick T.F__law_pick.kp T.b__law_pick .nil pass0 (pa_cons (pv 0) (pa_cons pe_int pa_nil))) (fun _ _ => rfl)))
      (pss_cons (ps_for PassesOwn.never rfl (pi_list (pv 1)) (pg_name (i := 5) sc_L_filled.nd rfl (Or.inl rfl)) 
        (pss_cons (ps_set (i := 6) sc_L_filled.nd rfl (Or.inl rfl) (pe_ix ix_list (pe_lst (pa_cons pe_int (pa_cons (pe_op op_sub pe_int (pe_call (ok_L_pick T) (hr.mono (by decide : 1 ≤ _)) (by rfl) T.g__law_pick T.F__law_pick.kp T.b__law_pick .nil pass0 (pa_cons (pv 0) (pa_cons (pv 4) pa_nil)))) pa_nil))) (pe_call (ok_L_pick T) (hr.mono (by decide : 1 ≤ _)) (by rfl) T.g__law_pick T.F__law_pick.kp T.b__law_pick .nil pass0 (pa_cons (pv 0) (pa_cons pe_int pa_nil))) (fun _ _ => rfl)))
        (pss_cons (ps_set (i := 7) sc_L_filled.nd rfl (Or.inl rfl) (pe_call (ok_L_pick T) (hr.mono (by decide : 1 ≤ _)) (by rfl) T.g__law_pick T.F__law_pick.kp T.b__law_pick .nil pass0 (pa_cons (pv 0) (pa_cons (pv 4) pa_nil))))
        (pss_cons (ps_expr (pe_meth (pv 2) T.cl_Clearing T.m_Clearing_add_member (ok_Clearing_add_member T) (hr.mono (by decide : 3 ≤ _)) T.b_Clearing_add_member .nil passL (pa_cons (pv 5) (pa_cons (pv 6) pa_nil))))
        (pss_cons (ps_expr (pe_meth (pv 2) T.cl_Clearing T.m_Clearing_fund (ok_Clearing_fund T) (hr.mono (by decide : 2 ≤ _)) T.b_Clearing_fund .nil passL (pa_cons (pv 5) (pa_cons (pv 7) pa_nil))))
        (pss_one (ps_expr (pe_bm PySem.F.plainAttrs_list PySem.F.slot_list_append PySem.F.type_list_append mt_append (pv 3) (pa_cons (pe_lst (pa_cons (pv 5) (pa_cons (pv 6) (pa_cons (pv 7) pa_nil)))) pa_nil)))))))))
      (pss_one (ps_ret (pe_lst (pa_cons (pv 2) (pa_cons (pv 3) (pa_cons (pv 4) pa_nil))))))))))) (fun xa => ?_) h
  exact (Mi.sS_seq (Mi.sS_asg (vs := [2]) (Mi.sE_make T.cls_Clearing (fun _ _ _ h _ => (Mi.hE0 h).elim) Mi.sA_nil) (Mi.sG_name (by decide))) 
    (Mi.sS_seq (Mi.sS_asgN (Mi.sN_lst Mi.sA_nil)) 
    (Mi.sS_seq (Mi.sS_asg (vs := [4]) (Mi.sE_pk Mi.pk_ixL (Mi.sE_frz (Mi.sN_lst (Mi.sA_cons Mi.sE_c (Mi.sA_cons Mi.sE_c (Mi.sA_cons Mi.sE_c Mi.sA_nil))))) (Mi.sE_call (fun _ _ _ h _ => (Mi.hE0 h).elim) (Mi.sA_cons Mi.sE_var (Mi.sA_cons Mi.sE_c Mi.sA_nil)))) (Mi.sG_name (by decide))) 
    (Mi.sS_seq (Mi.sS_for (vs := [5]) (Mi.sI_list Mi.sE_var) (Mi.sG_name (by decide)) (Mi.sS_seq (Mi.sS_asg (vs := [6]) (Mi.sE_pk Mi.pk_ixL (Mi.sE_frz (Mi.sN_lst (Mi.sA_cons Mi.sE_c (Mi.sA_cons (Mi.sE_d (Mi.sE_pk Mi.pk_sub Mi.sE_c (Mi.sE_call (fun _ _ _ h _ => (Mi.hE0 h).elim) (Mi.sA_cons Mi.sE_var (Mi.sA_cons (Mi.sE_d Mi.sE_var) Mi.sA_nil))))) Mi.sA_nil)))) (Mi.sE_call (fun _ _ _ h _ => (Mi.hE0 h).elim) (Mi.sA_cons Mi.sE_var (Mi.sA_cons Mi.sE_c Mi.sA_nil)))) (Mi.sG_name (by decide))) 
      (Mi.sS_seq (Mi.sS_asg (vs := [7]) (Mi.sE_call (fun _ _ _ h _ => (Mi.hE0 h).elim) (Mi.sA_cons Mi.sE_var (Mi.sA_cons (Mi.sE_d Mi.sE_var) Mi.sA_nil))) (Mi.sG_name (by decide))) 
      (Mi.sS_seq (Mi.sS_drop (Mi.sE_meth T.cls_Clearing (fun _ _ _ _ h => h) Mi.sE_var (Mi.sA_cons (Mi.sE_d Mi.sE_var) (Mi.sA_cons (Mi.sE_d Mi.sE_var) Mi.sA_nil)))) 
      (Mi.sS_seq (Mi.sS_drop (Mi.sE_meth T.cls_Clearing (fun _ _ _ _ h => h) Mi.sE_var (Mi.sA_cons (Mi.sE_d Mi.sE_var) (Mi.sA_cons (Mi.sE_d Mi.sE_var) Mi.sA_nil)))) 
      (Mi.sS_drop (Mi.sE_mut Mi.pk_append Mi.sE_var (Mi.sA_cons (Mi.sE_d (Mi.sE_box (Mi.sN_lst (Mi.sA_cons (Mi.sE_d Mi.sE_var) (Mi.sA_cons (Mi.sE_d Mi.sE_var) (Mi.sA_cons (Mi.sE_d Mi.sE_var) Mi.sA_nil)))))) Mi.sA_nil)))))))) 
    (Mi.sS_ret (Mi.sE_frz (Mi.sN_lst (Mi.sA_cons (Mi.sE_d Mi.sE_var) (Mi.sA_cons (Mi.sE_d Mi.sE_var) (Mi.sA_cons (Mi.sE_d Mi.sE_var) Mi.sA_nil))))))))))
theorem ok_L_settled (T : Txt K mg) : FnOk P w K mg base CX0 4 T.a__law_settled T.d__law_settled ["clearing", "told", "waits"] (Mi.spM K T.cls T.exa 3 m_L_settled) := by
  refine T.F__law_settled.ok sc_L_settled (fun vs H Q E h => h.1) (fun cdv A outer s H vs Q E hr h => ?_)
  refine Mi.fin0 (ex := T.exa) (X := E) (
      (pss_cons (ps_set (i := 3) sc_L_settled.nd rfl (Or.inl rfl) (pe_meth0 (pv 0) T.cl_Clearing T.m_Clearing_settle (ok_Clearing_settle T) (hr.mono (by decide : 3 ≤ _)) T.b_Clearing_settle .nil pass0))
      (pss_cons (ps_if (pt_not (pt_val (pe_callB call_isi (by rfl) T.n_isinstance (by decide +kernel) (pa_cons (pv 3) (pa_cons (pe_bltn (v := .ty "list") (by rfl) T.n_list (by decide +kernel) rfl) pa_nil))))) 
        (pss_one (ps_ret pe_non)) pss_nil)
      (pss_cons (ps_set (i := 4) sc_L_settled.nd rfl (Or.inl rfl) (pe_callTy call_list_of (by rfl) T.n_list (by decide +kernel) (pa_cons (pv 3) pa_nil)))
      (pss_cons (ps_expr (pe_bm PySem.F.plainAttrs_list PySem.F.slot_list_append PySem.F.type_list_append mt_append (pv 3) (pa_cons (pe_tup (pa_cons pe_str (pa_cons pe_str (pa_cons pe_str (pa_cons pe_int pa_nil))))) pa_nil)))
      (pss_cons (ps_set (i := 5) sc_L_settled.nd rfl (Or.inl rfl) pe_int)
      (pss_cons (ps_set (i := 6) sc_L_settled.nd rfl (Or.inl rfl) (pe_lst pa_nil))
      (pss_cons (ps_set (i := 7) sc_L_settled.nd rfl (Or.inl rfl) (pe_lst pa_nil))
      (pss_cons (ps_for PassesOwn.never rfl (pi_list (pv 2)) (pg_name (i := 8) sc_L_settled.nd rfl (Or.inl rfl)) 
        (pss_one (ps_if (PW.pt (pw_and (pt_cmpR op_lt (pv 5) (pe_callB call_len_seq (by rfl) T.n_len PySem.boot_len (pa_cons (pv 4) pa_nil)) (nomark _)) (pw_and (pt_val (pe_callB call_isi (by rfl) T.n_isinstance (by decide +kernel) (pa_cons (pe_ix ix_list (pv 4) (pv 5) (fun _ _ => rfl)) (pa_cons (pe_bltn (v := .ty "tuple") (by rfl) T.n_tuple (by decide +kernel) rfl) pa_nil)))) (pw_and1 (pt_cmpR (op_eqD hr.units) (pe_ix ix_list (pv 4) (pv 5) (fun _ _ => rfl)) (pv 8) (nomark _)))))) 
          (pss_cons (ps_if (pt_cmpR (Mi.op_inK K) (pe_ix ix_tup (pv 8) pe_int (fun _ _ => rfl)) (pv 7) (by rfl)) 
            (pss_one (ps_ret pe_non)) pss_nil)
          (pss_one (ps_set (i := 5) sc_L_settled.nd rfl (Or.inl rfl) (pe_op op_add (pv 5) pe_int)))) 
          (pss_cons (ps_expr (pe_bm PySem.F.plainAttrs_list PySem.F.slot_list_append PySem.F.type_list_append mt_append (pv 6) (pa_cons (pv 8) pa_nil)))
          (pss_one (ps_expr (pe_bm PySem.F.plainAttrs_list PySem.F.slot_list_append PySem.F.type_list_append mt_append (pv 7) (pa_cons (pe_ix ix_tup (pv 8) pe_int (fun _ _ => rfl)) pa_nil))))))))
      (pss_cons (ps_if (PW.pt (pw_or (pt_cmpR op_ne (pv 5) (pe_callB call_len_seq (by rfl) T.n_len PySem.boot_len (pa_cons (pv 4) pa_nil)) (nomark _)) (pw_or1 (pt_cmpR (op_neD hr.units) (pe_meth0 (pv 0) T.cl_Clearing T.m_Clearing_queue (ok_Clearing_queue T) (hr.mono (by decide : 1 ≤ _)) T.b_Clearing_queue .nil pass0) (pv 6) (nomark _))))) 
        (pss_one (ps_ret pe_non)) pss_nil)
      (pss_cons (ps_expr (pe_call (ok_L_moved T) (hr.mono (by decide : 1 ≤ _)) (by rfl) T.g__law_moved T.F__law_moved.kp T.b__law_moved .nil pass0 (pa_cons (pv 1) (pa_cons (pv 4) pa_nil))))
      (pss_cons (ps_if (pt_not (pt_val (pe_call (ok_L_agrees T) (hr.mono (by decide : 3 ≤ _)) (by rfl) T.g__law_agrees T.F__law_agrees.kp T.b__law_agrees .nil pass0 (pa_cons (pv 0) (pa_cons (pv 1) pa_nil))))) 
        (pss_one (ps_ret pe_non)) pss_nil)
      (pss_one (ps_ret (pv 6))))))))))))))) (fun xa => ?_) h
  exact (Mi.sS_seq (Mi.sS_asgN (Mi.sN_meth T.cls_Clearing (fun _ _ _ h _ => (Mi.hE0 h).elim) Mi.sE_var Mi.sA_nil)) 
    (Mi.sS_seq (Mi.sS_if (Mi.sT_not (Mi.sT_B (Mi.sE_pkC Mi.pk_isi (Mi.sA_cons Mi.sE_var (Mi.sA_cons Mi.sE_c Mi.sA_nil))))) (Mi.sS_ret Mi.sE_c) Mi.sS_next) 
    (Mi.sS_seq (Mi.sS_asg (vs := [4]) (Mi.sE_frz (Mi.sN_C Mi.pk_listOf (Mi.sA_cons Mi.sE_var Mi.sA_nil))) (Mi.sG_name (by decide))) 
    (Mi.sS_seq (Mi.sS_drop (Mi.sE_mut Mi.pk_append Mi.sE_var (Mi.sA_cons (Mi.sE_d (Mi.sE_tup (Mi.sA_cons Mi.sE_c (Mi.sA_cons Mi.sE_c (Mi.sA_cons Mi.sE_c (Mi.sA_cons Mi.sE_c Mi.sA_nil)))))) Mi.sA_nil))) 
    (Mi.sS_seq (Mi.sS_asg (vs := [5]) Mi.sE_c (Mi.sG_name (by decide))) 
    (Mi.sS_seq (Mi.sS_asgN (Mi.sN_lst Mi.sA_nil)) 
    (Mi.sS_seq (Mi.sS_asgN (Mi.sN_lst Mi.sA_nil)) 
    (Mi.sS_seq (Mi.sS_for (vs := [8]) (Mi.sI_list Mi.sE_var) (Mi.sG_name (by decide)) (Mi.sS_if (Mi.sT_and (Mi.sT_test (Mi.sE_pk Mi.pk_lt Mi.sE_var (Mi.sE_pkC Mi.pk_lenQ (Mi.sA_cons Mi.sE_var Mi.sA_nil)))) (Mi.sT_and (Mi.sT_B (Mi.sE_pkC Mi.pk_isi (Mi.sA_cons (Mi.sE_pk Mi.pk_ixL Mi.sE_var Mi.sE_var) (Mi.sA_cons Mi.sE_c Mi.sA_nil)))) (Mi.sT_test (Mi.sE_pk Mi.pk_eqD (Mi.sE_pk Mi.pk_ixL Mi.sE_var Mi.sE_var) Mi.sE_var)))) (Mi.sS_seq (Mi.sS_if (Mi.sT_test (Mi.sE_pk (Mi.pk_in (neg := false)) (Mi.sE_pk Mi.pk_ixT Mi.sE_var Mi.sE_c) Mi.sE_var)) (Mi.sS_ret Mi.sE_c) Mi.sS_next) 
        (Mi.sS_asg (vs := [5]) (Mi.sE_pk Mi.pk_add Mi.sE_var Mi.sE_c) (Mi.sG_name (by decide)))) (Mi.sS_seq (Mi.sS_drop (Mi.sE_mut Mi.pk_append Mi.sE_var (Mi.sA_cons (Mi.sE_d Mi.sE_var) Mi.sA_nil))) 
        (Mi.sS_drop (Mi.sE_mut Mi.pk_append Mi.sE_var (Mi.sA_cons (Mi.sE_d (Mi.sE_pk Mi.pk_ixT Mi.sE_var Mi.sE_c)) Mi.sA_nil)))))) 
    (Mi.sS_seq (Mi.sS_if (Mi.sT_or (Mi.sT_test (Mi.sE_pk Mi.pk_ne Mi.sE_var (Mi.sE_pkC Mi.pk_lenQ (Mi.sA_cons Mi.sE_var Mi.sA_nil)))) (Mi.sT_test (Mi.sE_pk Mi.pk_neD (Mi.sE_meth T.cls_Clearing (fun _ _ _ h _ => (Mi.hE0 h).elim) Mi.sE_var Mi.sA_nil) Mi.sE_var))) (Mi.sS_ret Mi.sE_c) Mi.sS_next) 
    (Mi.sS_seq (Mi.sS_drop (Mi.sE_call (fun _ _ _ h _ => (Mi.hE0 h).elim) (Mi.sA_cons Mi.sE_var (Mi.sA_cons Mi.sE_var Mi.sA_nil)))) 
    (Mi.sS_seq (Mi.sS_if (Mi.sT_not (Mi.sT_B (Mi.sE_call (fun _ _ _ h _ => (Mi.hE0 h).elim) (Mi.sA_cons Mi.sE_var (Mi.sA_cons Mi.sE_var Mi.sA_nil))))) (Mi.sS_ret Mi.sE_c) Mi.sS_next) 
    (Mi.sS_ret Mi.sE_var))))))))))))
theorem ok_lawM (T : Txt K mg) : FnOk P w K mg base CX0 5 T.a_law T.d_law ["script"] (Mi.spM K T.cls T.exa 1 m_law) := by
  refine T.F_law.ok sc_law (fun vs H Q E h => h.1) (fun cdv A outer s H vs Q E hr h => ?_)
  refine Mi.fin0 (ex := T.exa) (X := E) (
      (pss_cons (ps_set (i := 1) sc_law.nd rfl (Or.inl rfl) (pe_call (ok_L_source T) (hr.mono (by decide : 1 ≤ _)) (by rfl) T.g__law_source T.F__law_source.kp T.b__law_source .nil pass0 (pa_cons (pe_call (ok_L_cell T) (hr.mono (by decide : 1 ≤ _)) (by rfl) T.g__law_cell T.F__law_cell.kp T.b__law_cell .nil pass0 (pa_cons (pv 0) (pa_cons pe_int pa_nil))) (pa_cons pe_int pa_nil))))
      (pss_cons (ps_set (i := 2) sc_law.nd rfl (Or.inl rfl) (pe_call (ok_L_names T) (hr.mono (by decide : 3 ≤ _)) (by rfl) T.g__law_names T.F__law_names.kp T.b__law_names .nil pass0 (pa_cons (pv 1) (pa_cons (pe_op op_add pe_int (pe_call (ok_L_pick T) (hr.mono (by decide : 1 ≤ _)) (by rfl) T.g__law_pick T.F__law_pick.kp T.b__law_pick .nil pass0 (pa_cons (pv 1) (pa_cons pe_int pa_nil)))) pa_nil))))
      (pss_cons (ps_set (i := 3) sc_law.nd rfl (Or.inl rfl) (pe_call (ok_L_filled T) (hr.mono (by decide : 4 ≤ _)) (by rfl) T.g__law_filled T.F__law_filled.kp T.b__law_filled .nil pass0 (pa_cons (pv 1) (pa_cons (pv 2) pa_nil))))
      (pss_cons (ps_set (i := 4) sc_law.nd rfl (Or.inl rfl) (pe_ix ix_list (pv 3) pe_int (fun _ _ => rfl)))
      (pss_cons (ps_set (i := 5) sc_law.nd rfl (Or.inl rfl) (pe_ix ix_list (pv 3) pe_int (fun _ _ => rfl)))
      (pss_cons (ps_set (i := 6) sc_law.nd rfl (Or.inl rfl) (pe_lst pa_nil))
      (pss_cons (ps_for PassesOwn.never rfl (pi_range2 (by rfl) T.n_range (pa_cons pe_int (pa_cons pe_int pa_nil))) (pg_name (i := 7) sc_law.nd rfl (Or.inl rfl)) 
        (pss_one (ps_if (PW.pt (pw_or (pt_cmpR op_lt (pv 7) (pe_callB call_len_seq (by rfl) T.n_len PySem.boot_len (pa_cons (pv 0) pa_nil)) (nomark _)) (pw_or1 (pt_cmpR op_lt (pv 7) pe_int (nomark _))))) 
          (pss_cons (ps_set (i := 8) sc_law.nd rfl (Or.inl rfl) (pe_call (ok_L_source T) (hr.mono (by decide : 1 ≤ _)) (by rfl) T.g__law_source T.F__law_source.kp T.b__law_source .nil pass0 (pa_cons (pe_call (ok_L_cell T) (hr.mono (by decide : 1 ≤ _)) (by rfl) T.g__law_cell T.F__law_cell.kp T.b__law_cell .nil pass0 (pa_cons (pv 0) (pa_cons (pv 7) pa_nil))) (pa_cons (pv 7) pa_nil))))
          (pss_cons (ps_set (i := 9) sc_law.nd rfl (Or.inl rfl) (pe_call (ok_L_payment T) (hr.mono (by decide : 3 ≤ _)) (by rfl) T.g__law_payment T.F__law_payment.kp T.b__law_payment .nil pass0 (pa_cons (pv 8) (pa_cons (pv 7) (pa_cons (pv 2) (pa_cons (pe_ix ix_list (pv 3) pe_int (fun _ _ => rfl)) pa_nil))))))
          (pss_cons (ps_expr (pe_meth (pv 4) T.cl_Clearing T.m_Clearing_submit (ok_Clearing_submit T) (hr.mono (by decide : 3 ≤ _)) T.b_Clearing_submit .nil passL (pa_cons (pe_ix ix_tup (pv 9) pe_int (fun _ _ => rfl)) (pa_cons (pe_ix ix_tup (pv 9) pe_int (fun _ _ => rfl)) (pa_cons (pe_ix ix_tup (pv 9) pe_int (fun _ _ => rfl)) (pa_cons (pe_ix ix_tup (pv 9) pe_int (fun _ _ => rfl)) pa_nil))))))
          (pss_cons (ps_expr (pe_bm PySem.F.plainAttrs_list PySem.F.slot_list_append PySem.F.type_list_append mt_append (pv 6) (pa_cons (pv 9) pa_nil)))
          (pss_cons (ps_set (i := 10) sc_law.nd rfl (Or.inl rfl) (pe_call (ok_L_pick T) (hr.mono (by decide : 1 ≤ _)) (by rfl) T.g__law_pick T.F__law_pick.kp T.b__law_pick .nil pass0 (pa_cons (pv 8) (pa_cons pe_int pa_nil))))
          (pss_cons (ps_if (pt_cmpR op_eq (pv 10) pe_int (nomark _)) 
            (pss_one (ps_expr (pe_call (ok_L_funded T) (hr.mono (by decide : 3 ≤ _)) (by rfl) T.g__law_funded T.F__law_funded.kp T.b__law_funded .nil pass0 (pa_cons (pv 4) (pa_cons (pv 5) (pa_cons (pv 8) (pa_cons (pe_ix ix_list (pv 3) pe_int (fun _ _ => rfl)) pa_nil))))))) pss_nil)
          (pss_cons (ps_if (pt_cmpR op_eq (pv 10) pe_int (nomark _)) 
            (pss_cons (ps_set (i := 6) sc_law.nd rfl (Or.inl rfl) (pe_call (ok_L_settled T) (hr.mono (by decide : 4 ≤ _)) (by rfl) T.g__law_settled T.F__law_settled.kp T.b__law_settled .nil pass0 (pa_cons (pv 4) (pa_cons (pv 5) (pa_cons (pv 6) pa_nil)))))
            (pss_one (ps_if (pt_cmpR op_isN (pv 6) pe_non (nomark _)) 
              (pss_one (ps_ret pe_bl)) pss_nil))) pss_nil)
          (pss_one (ps_if (pt_not (pt_val (pe_call (ok_L_agrees T) (hr.mono (by decide : 3 ≤ _)) (by rfl) T.g__law_agrees T.F__law_agrees.kp T.b__law_agrees .nil pass0 (pa_cons (pv 4) (pa_cons (pv 5) pa_nil))))) 
            (pss_one (ps_ret pe_bl)) pss_nil))))))))) pss_nil)))
      (pss_cons (ps_set (i := 6) sc_law.nd rfl (Or.inl rfl) (pe_call (ok_L_settled T) (hr.mono (by decide : 4 ≤ _)) (by rfl) T.g__law_settled T.F__law_settled.kp T.b__law_settled .nil pass0 (pa_cons (pv 4) (pa_cons (pv 5) (pa_cons (pv 6) pa_nil)))))
      (pss_one (ps_ret (pe_and (pe_cmpR op_notN (pv 6) pe_non (nomark _)) (pe_and (pe_cmpR (op_eqD hr.units) (pe_meth0 (pv 4) T.cl_Clearing T.m_Clearing_settle (ok_Clearing_settle T) (hr.mono (by decide : 3 ≤ _)) T.b_Clearing_settle .nil pass0) (pe_lst pa_nil) (nomark _)) (pe_and (pe_cmpR (op_eqD hr.units) (pe_meth0 (pv 4) T.cl_Clearing T.m_Clearing_queue (ok_Clearing_queue T) (hr.mono (by decide : 1 ≤ _)) T.b_Clearing_queue .nil pass0) (pv 6) (nomark _)) (pe_one (pe_call (ok_L_agrees T) (hr.mono (by decide : 3 ≤ _)) (by rfl) T.g__law_agrees T.F__law_agrees.kp T.b__law_agrees .nil pass0 (pa_cons (pv 4) (pa_cons (pv 5) pa_nil)))))))))))))))))) (fun xa => ?_) h
  exact (Mi.sS_seq (Mi.sS_asgN (Mi.sN_call (fun _ _ _ h _ => (Mi.hE0 h).elim) (Mi.sA_cons (Mi.sE_d (Mi.sE_call (fun _ _ _ h _ => (Mi.hE0 h).elim) (Mi.sA_cons Mi.sE_var (Mi.sA_cons Mi.sE_c Mi.sA_nil)))) (Mi.sA_cons Mi.sE_c Mi.sA_nil)))) 
    (Mi.sS_seq (Mi.sS_asg (vs := [2]) (Mi.sE_call (fun _ _ _ h _ => (Mi.hE0 h).elim) (Mi.sA_cons Mi.sE_var (Mi.sA_cons (Mi.sE_d (Mi.sE_pk Mi.pk_add Mi.sE_c (Mi.sE_call (fun _ _ _ h _ => (Mi.hE0 h).elim) (Mi.sA_cons Mi.sE_var (Mi.sA_cons Mi.sE_c Mi.sA_nil))))) Mi.sA_nil))) (Mi.sG_name (by decide))) 
    (Mi.sS_seq (Mi.sS_asg (vs := [3]) (Mi.sE_call (fun _ _ _ h _ => (Mi.hE0 h).elim) (Mi.sA_cons Mi.sE_var (Mi.sA_cons Mi.sE_var Mi.sA_nil))) (Mi.sG_name (by decide))) 
    (Mi.sS_seq (Mi.sS_asg (vs := [4]) (Mi.sE_pk Mi.pk_ixL Mi.sE_var Mi.sE_c) (Mi.sG_name (by decide))) 
    (Mi.sS_seq (Mi.sS_asg (vs := [5]) (Mi.sE_pk Mi.pk_ixL Mi.sE_var Mi.sE_c) (Mi.sG_name (by decide))) 
    (Mi.sS_seq (Mi.sS_asgN (Mi.sN_lst Mi.sA_nil)) 
    (Mi.sS_seq (Mi.sS_for (vs := [7]) (Mi.sI_rng2 (Mi.sA_cons Mi.sE_c (Mi.sA_cons Mi.sE_c Mi.sA_nil))) (Mi.sG_name (by decide)) (Mi.sS_if (Mi.sT_or (Mi.sT_test (Mi.sE_pk Mi.pk_lt Mi.sE_var (Mi.sE_pkC Mi.pk_lenQ (Mi.sA_cons Mi.sE_var Mi.sA_nil)))) (Mi.sT_test (Mi.sE_pk Mi.pk_lt Mi.sE_var Mi.sE_c))) (Mi.sS_seq (Mi.sS_asgN (Mi.sN_call (fun _ _ _ h _ => (Mi.hE0 h).elim) (Mi.sA_cons (Mi.sE_d (Mi.sE_call (fun _ _ _ h _ => (Mi.hE0 h).elim) (Mi.sA_cons Mi.sE_var (Mi.sA_cons (Mi.sE_d Mi.sE_var) Mi.sA_nil)))) (Mi.sA_cons (Mi.sE_d Mi.sE_var) Mi.sA_nil)))) 
        (Mi.sS_seq (Mi.sS_asg (vs := [9]) (Mi.sE_call (fun _ _ _ h _ => (Mi.hE0 h).elim) (Mi.sA_cons Mi.sE_var (Mi.sA_cons (Mi.sE_d Mi.sE_var) (Mi.sA_cons Mi.sE_var (Mi.sA_cons (Mi.sE_d (Mi.sE_pk Mi.pk_ixL Mi.sE_var Mi.sE_c)) Mi.sA_nil))))) (Mi.sG_name (by decide))) 
        (Mi.sS_seq (Mi.sS_drop (Mi.sE_meth T.cls_Clearing (fun _ _ _ _ h => h) Mi.sE_var (Mi.sA_cons (Mi.sE_d (Mi.sE_pk Mi.pk_ixT Mi.sE_var Mi.sE_c)) (Mi.sA_cons (Mi.sE_d (Mi.sE_pk Mi.pk_ixT Mi.sE_var Mi.sE_c)) (Mi.sA_cons (Mi.sE_d (Mi.sE_pk Mi.pk_ixT Mi.sE_var Mi.sE_c)) (Mi.sA_cons (Mi.sE_d (Mi.sE_pk Mi.pk_ixT Mi.sE_var Mi.sE_c)) Mi.sA_nil)))))) 
        (Mi.sS_seq (Mi.sS_drop (Mi.sE_mut Mi.pk_append Mi.sE_var (Mi.sA_cons (Mi.sE_d Mi.sE_var) Mi.sA_nil))) 
        (Mi.sS_seq (Mi.sS_asg (vs := [10]) (Mi.sE_call (fun _ _ _ h _ => (Mi.hE0 h).elim) (Mi.sA_cons Mi.sE_var (Mi.sA_cons Mi.sE_c Mi.sA_nil))) (Mi.sG_name (by decide))) 
        (Mi.sS_seq (Mi.sS_if (Mi.sT_test (Mi.sE_pk Mi.pk_eq Mi.sE_var Mi.sE_c)) (Mi.sS_drop (Mi.sE_call (fun _ _ _ h _ => (Mi.hE0 h).elim) (Mi.sA_cons Mi.sE_var (Mi.sA_cons Mi.sE_var (Mi.sA_cons Mi.sE_var (Mi.sA_cons (Mi.sE_d (Mi.sE_pk Mi.pk_ixL Mi.sE_var Mi.sE_c)) Mi.sA_nil)))))) Mi.sS_next) 
        (Mi.sS_seq (Mi.sS_if (Mi.sT_test (Mi.sE_pk Mi.pk_eq Mi.sE_var Mi.sE_c)) (Mi.sS_seq (Mi.sS_asgN (Mi.sN_call (fun _ _ _ h _ => (Mi.hE0 h).elim) (Mi.sA_cons Mi.sE_var (Mi.sA_cons Mi.sE_var (Mi.sA_cons Mi.sE_var Mi.sA_nil))))) 
          (Mi.sS_if (Mi.sT_test (Mi.sE_pk Mi.pk_isN Mi.sE_var Mi.sE_c)) (Mi.sS_ret Mi.sE_c) Mi.sS_next)) Mi.sS_next) 
        (Mi.sS_if (Mi.sT_not (Mi.sT_B (Mi.sE_call (fun _ _ _ h _ => (Mi.hE0 h).elim) (Mi.sA_cons Mi.sE_var (Mi.sA_cons Mi.sE_var Mi.sA_nil))))) (Mi.sS_ret Mi.sE_c) Mi.sS_next)))))))) Mi.sS_next)) 
    (Mi.sS_seq (Mi.sS_asgN (Mi.sN_call (fun _ _ _ h _ => (Mi.hE0 h).elim) (Mi.sA_cons Mi.sE_var (Mi.sA_cons Mi.sE_var (Mi.sA_cons Mi.sE_var Mi.sA_nil))))) 
    (Mi.sS_ret (Mi.sE_and (Mi.sE_pk Mi.pk_notN Mi.sE_var Mi.sE_c) (Mi.sE_and (Mi.sE_pk Mi.pk_eqD (Mi.sE_meth T.cls_Clearing (fun _ _ _ h _ => (Mi.hE0 h).elim) Mi.sE_var Mi.sA_nil) (Mi.sE_frz (Mi.sN_lst Mi.sA_nil))) (Mi.sE_and (Mi.sE_pk Mi.pk_eqD (Mi.sE_meth T.cls_Clearing (fun _ _ _ h _ => (Mi.hE0 h).elim) Mi.sE_var Mi.sA_nil) Mi.sE_var) (Mi.sE_call (fun _ _ _ h _ => (Mi.hE0 h).elim) (Mi.sA_cons Mi.sE_var (Mi.sA_cons Mi.sE_var Mi.sA_nil)))))))))))))))
theorem ok_law (T : Txt K mg) : FnOk P w K mg base CX0 5 T.a_law T.d_law ["script"] (Kv.spLaw K) := (ok_lawM T).imp (Mi.law_imp law_true)
end
theorem txt_mk {K : PySem.W.Frag} {mg : Str → Option Value} {h : Heap} (X : K.In h) (G : h.Ns mainGlobals mg)
    {C_BadValue : Addr}
    {C_Missing : Addr}
    {C_Refused : Addr}
    {C_Full : Addr}
    {C_BankError : Addr}
    {C_Clearing : Addr}
    {f__wall : Addr} {od__wall an__wall : Option Addr} {sl__wall : Array (Option Value)} {oc__wall kV__wall dc__wall pm__wall cd__wall ct__wall : Value}
    {f_is_amount : Addr} {od_is_amount an_is_amount : Option Addr} {sl_is_amount : Array (Option Value)} {oc_is_amount kV_is_amount dc_is_amount pm_is_amount cd_is_amount ct_is_amount : Value}
    {f_check_amount : Addr} {od_check_amount an_check_amount : Option Addr} {sl_check_amount : Array (Option Value)} {oc_check_amount kV_check_amount dc_check_amount pm_check_amount cd_check_amount ct_check_amount : Value}
    {f_is_name : Addr} {od_is_name an_is_name : Option Addr} {sl_is_name : Array (Option Value)} {oc_is_name kV_is_name dc_is_name pm_is_name cd_is_name ct_is_name : Value}
    {f_check_name : Addr} {od_check_name an_check_name : Option Addr} {sl_check_name : Array (Option Value)} {oc_check_name kV_check_name dc_check_name pm_check_name cd_check_name ct_check_name : Value}
    {f_Clearing___init : Addr} {od_Clearing___init an_Clearing___init : Option Addr} {sl_Clearing___init : Array (Option Value)} {oc_Clearing___init kV_Clearing___init dc_Clearing___init pm_Clearing___init cd_Clearing___init ct_Clearing___init : Value}
    {f_Clearing_check_member : Addr} {od_Clearing_check_member an_Clearing_check_member : Option Addr} {sl_Clearing_check_member : Array (Option Value)} {oc_Clearing_check_member kV_Clearing_check_member dc_Clearing_check_member pm_Clearing_check_member cd_Clearing_check_member ct_Clearing_check_member : Value}
    {f_Clearing_add_member : Addr} {od_Clearing_add_member an_Clearing_add_member : Option Addr} {sl_Clearing_add_member : Array (Option Value)} {oc_Clearing_add_member kV_Clearing_add_member dc_Clearing_add_member pm_Clearing_add_member cd_Clearing_add_member ct_Clearing_add_member : Value}
    {f_Clearing_members : Addr} {od_Clearing_members an_Clearing_members : Option Addr} {sl_Clearing_members : Array (Option Value)} {oc_Clearing_members kV_Clearing_members dc_Clearing_members pm_Clearing_members cd_Clearing_members ct_Clearing_members : Value}
    {f_Clearing_balance_of : Addr} {od_Clearing_balance_of an_Clearing_balance_of : Option Addr} {sl_Clearing_balance_of : Array (Option Value)} {oc_Clearing_balance_of kV_Clearing_balance_of dc_Clearing_balance_of pm_Clearing_balance_of cd_Clearing_balance_of ct_Clearing_balance_of : Value}
    {f_Clearing_floor_of : Addr} {od_Clearing_floor_of an_Clearing_floor_of : Option Addr} {sl_Clearing_floor_of : Array (Option Value)} {oc_Clearing_floor_of kV_Clearing_floor_of dc_Clearing_floor_of pm_Clearing_floor_of cd_Clearing_floor_of ct_Clearing_floor_of : Value}
    {f_Clearing_fund : Addr} {od_Clearing_fund an_Clearing_fund : Option Addr} {sl_Clearing_fund : Array (Option Value)} {oc_Clearing_fund kV_Clearing_fund dc_Clearing_fund pm_Clearing_fund cd_Clearing_fund ct_Clearing_fund : Value}
    {f_Clearing_submit : Addr} {od_Clearing_submit an_Clearing_submit : Option Addr} {sl_Clearing_submit : Array (Option Value)} {oc_Clearing_submit kV_Clearing_submit dc_Clearing_submit pm_Clearing_submit cd_Clearing_submit ct_Clearing_submit : Value}
    {f_Clearing_queue : Addr} {od_Clearing_queue an_Clearing_queue : Option Addr} {sl_Clearing_queue : Array (Option Value)} {oc_Clearing_queue kV_Clearing_queue dc_Clearing_queue pm_Clearing_queue cd_Clearing_queue ct_Clearing_queue : Value}
    {f_Clearing_find_short : Addr} {od_Clearing_find_short an_Clearing_find_short : Option Addr} {sl_Clearing_find_short : Array (Option Value)} {oc_Clearing_find_short kV_Clearing_find_short dc_Clearing_find_short pm_Clearing_find_short cd_Clearing_find_short ct_Clearing_find_short : Value}
    {f_Clearing_find_choice : Addr} {od_Clearing_find_choice an_Clearing_find_choice : Option Addr} {sl_Clearing_find_choice : Array (Option Value)} {oc_Clearing_find_choice kV_Clearing_find_choice dc_Clearing_find_choice pm_Clearing_find_choice cd_Clearing_find_choice ct_Clearing_find_choice : Value}
    {f_Clearing_settle : Addr} {od_Clearing_settle an_Clearing_settle : Option Addr} {sl_Clearing_settle : Array (Option Value)} {oc_Clearing_settle kV_Clearing_settle dc_Clearing_settle pm_Clearing_settle cd_Clearing_settle ct_Clearing_settle : Value}
    {f__law_cell : Addr} {od__law_cell an__law_cell : Option Addr} {sl__law_cell : Array (Option Value)} {oc__law_cell kV__law_cell dc__law_cell pm__law_cell cd__law_cell ct__law_cell : Value}
    {f__law_source : Addr} {od__law_source an__law_source : Option Addr} {sl__law_source : Array (Option Value)} {oc__law_source kV__law_source dc__law_source pm__law_source cd__law_source ct__law_source : Value}
    {f__law_pick : Addr} {od__law_pick an__law_pick : Option Addr} {sl__law_pick : Array (Option Value)} {oc__law_pick kV__law_pick dc__law_pick pm__law_pick cd__law_pick ct__law_pick : Value}
    {f__law_name : Addr} {od__law_name an__law_name : Option Addr} {sl__law_name : Array (Option Value)} {oc__law_name kV__law_name dc__law_name pm__law_name cd__law_name ct__law_name : Value}
    {f__law_names : Addr} {od__law_names an__law_names : Option Addr} {sl__law_names : Array (Option Value)} {oc__law_names kV__law_names dc__law_names pm__law_names cd__law_names ct__law_names : Value}
    {f__law_is_number : Addr} {od__law_is_number an__law_is_number : Option Addr} {sl__law_is_number : Array (Option Value)} {oc__law_is_number kV__law_is_number dc__law_is_number pm__law_is_number cd__law_is_number ct__law_is_number : Value}
    {f__law_pairs : Addr} {od__law_pairs an__law_pairs : Option Addr} {sl__law_pairs : Array (Option Value)} {oc__law_pairs kV__law_pairs dc__law_pairs pm__law_pairs cd__law_pairs ct__law_pairs : Value}
    {f__law_filled : Addr} {od__law_filled an__law_filled : Option Addr} {sl__law_filled : Array (Option Value)} {oc__law_filled kV__law_filled dc__law_filled pm__law_filled cd__law_filled ct__law_filled : Value}
    {f__law_payment : Addr} {od__law_payment an__law_payment : Option Addr} {sl__law_payment : Array (Option Value)} {oc__law_payment kV__law_payment dc__law_payment pm__law_payment cd__law_payment ct__law_payment : Value}
    {f__law_moved : Addr} {od__law_moved an__law_moved : Option Addr} {sl__law_moved : Array (Option Value)} {oc__law_moved kV__law_moved dc__law_moved pm__law_moved cd__law_moved ct__law_moved : Value}
    {f__law_agrees : Addr} {od__law_agrees an__law_agrees : Option Addr} {sl__law_agrees : Array (Option Value)} {oc__law_agrees kV__law_agrees dc__law_agrees pm__law_agrees cd__law_agrees ct__law_agrees : Value}
    {f__law_settled : Addr} {od__law_settled an__law_settled : Option Addr} {sl__law_settled : Array (Option Value)} {oc__law_settled kV__law_settled dc__law_settled pm__law_settled cd__law_settled ct__law_settled : Value}
    {f__law_funded : Addr} {od__law_funded an__law_funded : Option Addr} {sl__law_funded : Array (Option Value)} {oc__law_funded kV__law_funded dc__law_funded pm__law_funded cd__law_funded ct__law_funded : Value}
    {f_law : Addr} {od_law an_law : Option Addr} {sl_law : Array (Option Value)} {oc_law kV_law dc_law pm_law cd_law ct_law : Value}
    {w_LIMIT : Value}
    {w_LETTERS : Value}
    {w_DIGITS : Value}
    {w_LONGEST_NAME : Value}
    {w_MOST_MEMBERS : Value}
    {w_LONGEST_KEY : Value}
    (e_BadValue : PySem.W.nsIn K mainGlobals "BadValue" = some (some (.ref C_BadValue)))
    (e_Missing : PySem.W.nsIn K mainGlobals "Missing" = some (some (.ref C_Missing)))
    (e_Refused : PySem.W.nsIn K mainGlobals "Refused" = some (some (.ref C_Refused)))
    (e_Full : PySem.W.nsIn K mainGlobals "Full" = some (some (.ref C_Full)))
    (e_BankError : PySem.W.nsIn K mainGlobals "BankError" = some (some (.ref C_BankError)))
    (eAll : Kv.errAllP K (fun e => match e with | .badValue => C_BadValue | .badDay => C_BankError | .missing => C_Missing | .refused => C_Refused | .full => C_Full | .notAllowed => C_BankError | .damaged => C_BankError) C_BankError [.badValue, .missing, .refused, .full] = true)
    (o_Clearing : PySem.W.nsIn K mainGlobals "Clearing" = some (some (.ref C_Clearing)))
    (a__wall : PySem.W.nsIn K mainGlobals "_wall" = some (some (.ref f__wall)))
    (l__wall : K.lookup f__wall = some ⟨oc__wall, od__wall, .func (PySem.W.fnOf "_wall" "_wall" (defArgs s_wall) (defBody s_wall) (defScope s_wall) .none kV__wall dc__wall pm__wall an__wall cd__wall ct__wall), sl__wall⟩)
    (c__wall : PySem.W.codeIn K cd__wall "_wall" = true)
    (k__wall : PySem.W.keepIn K (.ref f__wall) = true)
    (a_is_amount : PySem.W.nsIn K mainGlobals "is_amount" = some (some (.ref f_is_amount)))
    (l_is_amount : K.lookup f_is_amount = some ⟨oc_is_amount, od_is_amount, .func (PySem.W.fnOf "is_amount" "is_amount" (defArgs s_is_amount) (defBody s_is_amount) (defScope s_is_amount) .none kV_is_amount dc_is_amount pm_is_amount an_is_amount cd_is_amount ct_is_amount), sl_is_amount⟩)
    (c_is_amount : PySem.W.codeIn K cd_is_amount "is_amount" = true)
    (k_is_amount : PySem.W.keepIn K (.ref f_is_amount) = true)
    (a_check_amount : PySem.W.nsIn K mainGlobals "check_amount" = some (some (.ref f_check_amount)))
    (l_check_amount : K.lookup f_check_amount = some ⟨oc_check_amount, od_check_amount, .func (PySem.W.fnOf "check_amount" "check_amount" (defArgs s_check_amount) (defBody s_check_amount) (defScope s_check_amount) .none kV_check_amount dc_check_amount pm_check_amount an_check_amount cd_check_amount ct_check_amount), sl_check_amount⟩)
    (c_check_amount : PySem.W.codeIn K cd_check_amount "check_amount" = true)
    (k_check_amount : PySem.W.keepIn K (.ref f_check_amount) = true)
    (a_is_name : PySem.W.nsIn K mainGlobals "is_name" = some (some (.ref f_is_name)))
    (l_is_name : K.lookup f_is_name = some ⟨oc_is_name, od_is_name, .func (PySem.W.fnOf "is_name" "is_name" (defArgs s_is_name) (defBody s_is_name) (defScope s_is_name) .none kV_is_name dc_is_name pm_is_name an_is_name cd_is_name ct_is_name), sl_is_name⟩)
    (c_is_name : PySem.W.codeIn K cd_is_name "is_name" = true)
    (k_is_name : PySem.W.keepIn K (.ref f_is_name) = true)
    (a_check_name : PySem.W.nsIn K mainGlobals "check_name" = some (some (.ref f_check_name)))
    (l_check_name : K.lookup f_check_name = some ⟨oc_check_name, od_check_name, .func (PySem.W.fnOf "check_name" "check_name" (defArgs s_check_name) (defBody s_check_name) (defScope s_check_name) .none kV_check_name dc_check_name pm_check_name an_check_name cd_check_name ct_check_name), sl_check_name⟩)
    (c_check_name : PySem.W.codeIn K cd_check_name "check_name" = true)
    (k_check_name : PySem.W.keepIn K (.ref f_check_name) = true)
    (a_Clearing___init : PySem.W.findIn K (.ref C_Clearing) "__init__" = some (some (.ref f_Clearing___init)))
    (i_Clearing___init : PySem.W.isFn K (.ref f_Clearing___init) = true)
    (l_Clearing___init : K.lookup f_Clearing___init = some ⟨oc_Clearing___init, od_Clearing___init, .func (PySem.W.fnOf "__init__" "Clearing.__init__" (defArgs s_Clearing___init) (defBody s_Clearing___init) (defScope s_Clearing___init) .none kV_Clearing___init dc_Clearing___init pm_Clearing___init an_Clearing___init cd_Clearing___init ct_Clearing___init), sl_Clearing___init⟩)
    (c_Clearing___init : PySem.W.codeIn K cd_Clearing___init "Clearing.__init__" = true)
    (k_Clearing___init : PySem.W.keepIn K (.ref f_Clearing___init) = true)
    (a_Clearing_check_member : PySem.W.findIn K (.ref C_Clearing) "check_member" = some (some (.ref f_Clearing_check_member)))
    (i_Clearing_check_member : PySem.W.isFn K (.ref f_Clearing_check_member) = true)
    (l_Clearing_check_member : K.lookup f_Clearing_check_member = some ⟨oc_Clearing_check_member, od_Clearing_check_member, .func (PySem.W.fnOf "check_member" "Clearing.check_member" (defArgs s_Clearing_check_member) (defBody s_Clearing_check_member) (defScope s_Clearing_check_member) .none kV_Clearing_check_member dc_Clearing_check_member pm_Clearing_check_member an_Clearing_check_member cd_Clearing_check_member ct_Clearing_check_member), sl_Clearing_check_member⟩)
    (c_Clearing_check_member : PySem.W.codeIn K cd_Clearing_check_member "Clearing.check_member" = true)
    (k_Clearing_check_member : PySem.W.keepIn K (.ref f_Clearing_check_member) = true)
    (a_Clearing_add_member : PySem.W.findIn K (.ref C_Clearing) "add_member" = some (some (.ref f_Clearing_add_member)))
    (i_Clearing_add_member : PySem.W.isFn K (.ref f_Clearing_add_member) = true)
    (l_Clearing_add_member : K.lookup f_Clearing_add_member = some ⟨oc_Clearing_add_member, od_Clearing_add_member, .func (PySem.W.fnOf "add_member" "Clearing.add_member" (defArgs s_Clearing_add_member) (defBody s_Clearing_add_member) (defScope s_Clearing_add_member) .none kV_Clearing_add_member dc_Clearing_add_member pm_Clearing_add_member an_Clearing_add_member cd_Clearing_add_member ct_Clearing_add_member), sl_Clearing_add_member⟩)
    (c_Clearing_add_member : PySem.W.codeIn K cd_Clearing_add_member "Clearing.add_member" = true)
    (k_Clearing_add_member : PySem.W.keepIn K (.ref f_Clearing_add_member) = true)
    (a_Clearing_members : PySem.W.findIn K (.ref C_Clearing) "members" = some (some (.ref f_Clearing_members)))
    (i_Clearing_members : PySem.W.isFn K (.ref f_Clearing_members) = true)
    (l_Clearing_members : K.lookup f_Clearing_members = some ⟨oc_Clearing_members, od_Clearing_members, .func (PySem.W.fnOf "members" "Clearing.members" (defArgs s_Clearing_members) (defBody s_Clearing_members) (defScope s_Clearing_members) .none kV_Clearing_members dc_Clearing_members pm_Clearing_members an_Clearing_members cd_Clearing_members ct_Clearing_members), sl_Clearing_members⟩)
    (c_Clearing_members : PySem.W.codeIn K cd_Clearing_members "Clearing.members" = true)
    (k_Clearing_members : PySem.W.keepIn K (.ref f_Clearing_members) = true)
    (a_Clearing_balance_of : PySem.W.findIn K (.ref C_Clearing) "balance_of" = some (some (.ref f_Clearing_balance_of)))
    (i_Clearing_balance_of : PySem.W.isFn K (.ref f_Clearing_balance_of) = true)
    (l_Clearing_balance_of : K.lookup f_Clearing_balance_of = some ⟨oc_Clearing_balance_of, od_Clearing_balance_of, .func (PySem.W.fnOf "balance_of" "Clearing.balance_of" (defArgs s_Clearing_balance_of) (defBody s_Clearing_balance_of) (defScope s_Clearing_balance_of) .none kV_Clearing_balance_of dc_Clearing_balance_of pm_Clearing_balance_of an_Clearing_balance_of cd_Clearing_balance_of ct_Clearing_balance_of), sl_Clearing_balance_of⟩)
    (c_Clearing_balance_of : PySem.W.codeIn K cd_Clearing_balance_of "Clearing.balance_of" = true)
    (k_Clearing_balance_of : PySem.W.keepIn K (.ref f_Clearing_balance_of) = true)
    (a_Clearing_floor_of : PySem.W.findIn K (.ref C_Clearing) "floor_of" = some (some (.ref f_Clearing_floor_of)))
    (i_Clearing_floor_of : PySem.W.isFn K (.ref f_Clearing_floor_of) = true)
    (l_Clearing_floor_of : K.lookup f_Clearing_floor_of = some ⟨oc_Clearing_floor_of, od_Clearing_floor_of, .func (PySem.W.fnOf "floor_of" "Clearing.floor_of" (defArgs s_Clearing_floor_of) (defBody s_Clearing_floor_of) (defScope s_Clearing_floor_of) .none kV_Clearing_floor_of dc_Clearing_floor_of pm_Clearing_floor_of an_Clearing_floor_of cd_Clearing_floor_of ct_Clearing_floor_of), sl_Clearing_floor_of⟩)
    (c_Clearing_floor_of : PySem.W.codeIn K cd_Clearing_floor_of "Clearing.floor_of" = true)
    (k_Clearing_floor_of : PySem.W.keepIn K (.ref f_Clearing_floor_of) = true)
    (a_Clearing_fund : PySem.W.findIn K (.ref C_Clearing) "fund" = some (some (.ref f_Clearing_fund)))
    (i_Clearing_fund : PySem.W.isFn K (.ref f_Clearing_fund) = true)
    (l_Clearing_fund : K.lookup f_Clearing_fund = some ⟨oc_Clearing_fund, od_Clearing_fund, .func (PySem.W.fnOf "fund" "Clearing.fund" (defArgs s_Clearing_fund) (defBody s_Clearing_fund) (defScope s_Clearing_fund) .none kV_Clearing_fund dc_Clearing_fund pm_Clearing_fund an_Clearing_fund cd_Clearing_fund ct_Clearing_fund), sl_Clearing_fund⟩)
    (c_Clearing_fund : PySem.W.codeIn K cd_Clearing_fund "Clearing.fund" = true)
    (k_Clearing_fund : PySem.W.keepIn K (.ref f_Clearing_fund) = true)
    (a_Clearing_submit : PySem.W.findIn K (.ref C_Clearing) "submit" = some (some (.ref f_Clearing_submit)))
    (i_Clearing_submit : PySem.W.isFn K (.ref f_Clearing_submit) = true)
    (l_Clearing_submit : K.lookup f_Clearing_submit = some ⟨oc_Clearing_submit, od_Clearing_submit, .func (PySem.W.fnOf "submit" "Clearing.submit" (defArgs s_Clearing_submit) (defBody s_Clearing_submit) (defScope s_Clearing_submit) .none kV_Clearing_submit dc_Clearing_submit pm_Clearing_submit an_Clearing_submit cd_Clearing_submit ct_Clearing_submit), sl_Clearing_submit⟩)
    (c_Clearing_submit : PySem.W.codeIn K cd_Clearing_submit "Clearing.submit" = true)
    (k_Clearing_submit : PySem.W.keepIn K (.ref f_Clearing_submit) = true)
    (a_Clearing_queue : PySem.W.findIn K (.ref C_Clearing) "queue" = some (some (.ref f_Clearing_queue)))
    (i_Clearing_queue : PySem.W.isFn K (.ref f_Clearing_queue) = true)
    (l_Clearing_queue : K.lookup f_Clearing_queue = some ⟨oc_Clearing_queue, od_Clearing_queue, .func (PySem.W.fnOf "queue" "Clearing.queue" (defArgs s_Clearing_queue) (defBody s_Clearing_queue) (defScope s_Clearing_queue) .none kV_Clearing_queue dc_Clearing_queue pm_Clearing_queue an_Clearing_queue cd_Clearing_queue ct_Clearing_queue), sl_Clearing_queue⟩)
    (c_Clearing_queue : PySem.W.codeIn K cd_Clearing_queue "Clearing.queue" = true)
    (k_Clearing_queue : PySem.W.keepIn K (.ref f_Clearing_queue) = true)
    (a_Clearing_find_short : PySem.W.findIn K (.ref C_Clearing) "find_short" = some (some (.ref f_Clearing_find_short)))
    (i_Clearing_find_short : PySem.W.isFn K (.ref f_Clearing_find_short) = true)
    (l_Clearing_find_short : K.lookup f_Clearing_find_short = some ⟨oc_Clearing_find_short, od_Clearing_find_short, .func (PySem.W.fnOf "find_short" "Clearing.find_short" (defArgs s_Clearing_find_short) (defBody s_Clearing_find_short) (defScope s_Clearing_find_short) .none kV_Clearing_find_short dc_Clearing_find_short pm_Clearing_find_short an_Clearing_find_short cd_Clearing_find_short ct_Clearing_find_short), sl_Clearing_find_short⟩)
    (c_Clearing_find_short : PySem.W.codeIn K cd_Clearing_find_short "Clearing.find_short" = true)
    (k_Clearing_find_short : PySem.W.keepIn K (.ref f_Clearing_find_short) = true)
    (a_Clearing_find_choice : PySem.W.findIn K (.ref C_Clearing) "find_choice" = some (some (.ref f_Clearing_find_choice)))
    (i_Clearing_find_choice : PySem.W.isFn K (.ref f_Clearing_find_choice) = true)
    (l_Clearing_find_choice : K.lookup f_Clearing_find_choice = some ⟨oc_Clearing_find_choice, od_Clearing_find_choice, .func (PySem.W.fnOf "find_choice" "Clearing.find_choice" (defArgs s_Clearing_find_choice) (defBody s_Clearing_find_choice) (defScope s_Clearing_find_choice) .none kV_Clearing_find_choice dc_Clearing_find_choice pm_Clearing_find_choice an_Clearing_find_choice cd_Clearing_find_choice ct_Clearing_find_choice), sl_Clearing_find_choice⟩)
    (c_Clearing_find_choice : PySem.W.codeIn K cd_Clearing_find_choice "Clearing.find_choice" = true)
    (k_Clearing_find_choice : PySem.W.keepIn K (.ref f_Clearing_find_choice) = true)
    (a_Clearing_settle : PySem.W.findIn K (.ref C_Clearing) "settle" = some (some (.ref f_Clearing_settle)))
    (i_Clearing_settle : PySem.W.isFn K (.ref f_Clearing_settle) = true)
    (l_Clearing_settle : K.lookup f_Clearing_settle = some ⟨oc_Clearing_settle, od_Clearing_settle, .func (PySem.W.fnOf "settle" "Clearing.settle" (defArgs s_Clearing_settle) (defBody s_Clearing_settle) (defScope s_Clearing_settle) .none kV_Clearing_settle dc_Clearing_settle pm_Clearing_settle an_Clearing_settle cd_Clearing_settle ct_Clearing_settle), sl_Clearing_settle⟩)
    (c_Clearing_settle : PySem.W.codeIn K cd_Clearing_settle "Clearing.settle" = true)
    (k_Clearing_settle : PySem.W.keepIn K (.ref f_Clearing_settle) = true)
    (a__law_cell : PySem.W.nsIn K mainGlobals "_law_cell" = some (some (.ref f__law_cell)))
    (l__law_cell : K.lookup f__law_cell = some ⟨oc__law_cell, od__law_cell, .func (PySem.W.fnOf "_law_cell" "_law_cell" (defArgs s_L_cell) (defBody s_L_cell) (defScope s_L_cell) .none kV__law_cell dc__law_cell pm__law_cell an__law_cell cd__law_cell ct__law_cell), sl__law_cell⟩)
    (c__law_cell : PySem.W.codeIn K cd__law_cell "_law_cell" = true)
    (k__law_cell : PySem.W.keepIn K (.ref f__law_cell) = true)
    (a__law_source : PySem.W.nsIn K mainGlobals "_law_source" = some (some (.ref f__law_source)))
    (l__law_source : K.lookup f__law_source = some ⟨oc__law_source, od__law_source, .func (PySem.W.fnOf "_law_source" "_law_source" (defArgs s_L_source) (defBody s_L_source) (defScope s_L_source) .none kV__law_source dc__law_source pm__law_source an__law_source cd__law_source ct__law_source), sl__law_source⟩)
    (c__law_source : PySem.W.codeIn K cd__law_source "_law_source" = true)
    (k__law_source : PySem.W.keepIn K (.ref f__law_source) = true)
    (a__law_pick : PySem.W.nsIn K mainGlobals "_law_pick" = some (some (.ref f__law_pick)))
    (l__law_pick : K.lookup f__law_pick = some ⟨oc__law_pick, od__law_pick, .func (PySem.W.fnOf "_law_pick" "_law_pick" (defArgs s_L_pick) (defBody s_L_pick) (defScope s_L_pick) .none kV__law_pick dc__law_pick pm__law_pick an__law_pick cd__law_pick ct__law_pick), sl__law_pick⟩)
    (c__law_pick : PySem.W.codeIn K cd__law_pick "_law_pick" = true)
    (k__law_pick : PySem.W.keepIn K (.ref f__law_pick) = true)
    (a__law_name : PySem.W.nsIn K mainGlobals "_law_name" = some (some (.ref f__law_name)))
    (l__law_name : K.lookup f__law_name = some ⟨oc__law_name, od__law_name, .func (PySem.W.fnOf "_law_name" "_law_name" (defArgs s_L_name) (defBody s_L_name) (defScope s_L_name) .none kV__law_name dc__law_name pm__law_name an__law_name cd__law_name ct__law_name), sl__law_name⟩)
    (c__law_name : PySem.W.codeIn K cd__law_name "_law_name" = true)
    (k__law_name : PySem.W.keepIn K (.ref f__law_name) = true)
    (a__law_names : PySem.W.nsIn K mainGlobals "_law_names" = some (some (.ref f__law_names)))
    (l__law_names : K.lookup f__law_names = some ⟨oc__law_names, od__law_names, .func (PySem.W.fnOf "_law_names" "_law_names" (defArgs s_L_names) (defBody s_L_names) (defScope s_L_names) .none kV__law_names dc__law_names pm__law_names an__law_names cd__law_names ct__law_names), sl__law_names⟩)
    (c__law_names : PySem.W.codeIn K cd__law_names "_law_names" = true)
    (k__law_names : PySem.W.keepIn K (.ref f__law_names) = true)
    (a__law_is_number : PySem.W.nsIn K mainGlobals "_law_is_number" = some (some (.ref f__law_is_number)))
    (l__law_is_number : K.lookup f__law_is_number = some ⟨oc__law_is_number, od__law_is_number, .func (PySem.W.fnOf "_law_is_number" "_law_is_number" (defArgs s_L_is_number) (defBody s_L_is_number) (defScope s_L_is_number) .none kV__law_is_number dc__law_is_number pm__law_is_number an__law_is_number cd__law_is_number ct__law_is_number), sl__law_is_number⟩)
    (c__law_is_number : PySem.W.codeIn K cd__law_is_number "_law_is_number" = true)
    (k__law_is_number : PySem.W.keepIn K (.ref f__law_is_number) = true)
    (a__law_pairs : PySem.W.nsIn K mainGlobals "_law_pairs" = some (some (.ref f__law_pairs)))
    (l__law_pairs : K.lookup f__law_pairs = some ⟨oc__law_pairs, od__law_pairs, .func (PySem.W.fnOf "_law_pairs" "_law_pairs" (defArgs s_L_pairs) (defBody s_L_pairs) (defScope s_L_pairs) .none kV__law_pairs dc__law_pairs pm__law_pairs an__law_pairs cd__law_pairs ct__law_pairs), sl__law_pairs⟩)
    (c__law_pairs : PySem.W.codeIn K cd__law_pairs "_law_pairs" = true)
    (k__law_pairs : PySem.W.keepIn K (.ref f__law_pairs) = true)
    (a__law_filled : PySem.W.nsIn K mainGlobals "_law_filled" = some (some (.ref f__law_filled)))
    (l__law_filled : K.lookup f__law_filled = some ⟨oc__law_filled, od__law_filled, .func (PySem.W.fnOf "_law_filled" "_law_filled" (defArgs s_L_filled) (defBody s_L_filled) (defScope s_L_filled) .none kV__law_filled dc__law_filled pm__law_filled an__law_filled cd__law_filled ct__law_filled), sl__law_filled⟩)
    (c__law_filled : PySem.W.codeIn K cd__law_filled "_law_filled" = true)
    (k__law_filled : PySem.W.keepIn K (.ref f__law_filled) = true)
    (a__law_payment : PySem.W.nsIn K mainGlobals "_law_payment" = some (some (.ref f__law_payment)))
    (l__law_payment : K.lookup f__law_payment = some ⟨oc__law_payment, od__law_payment, .func (PySem.W.fnOf "_law_payment" "_law_payment" (defArgs s_L_payment) (defBody s_L_payment) (defScope s_L_payment) .none kV__law_payment dc__law_payment pm__law_payment an__law_payment cd__law_payment ct__law_payment), sl__law_payment⟩)
    (c__law_payment : PySem.W.codeIn K cd__law_payment "_law_payment" = true)
    (k__law_payment : PySem.W.keepIn K (.ref f__law_payment) = true)
    (a__law_moved : PySem.W.nsIn K mainGlobals "_law_moved" = some (some (.ref f__law_moved)))
    (l__law_moved : K.lookup f__law_moved = some ⟨oc__law_moved, od__law_moved, .func (PySem.W.fnOf "_law_moved" "_law_moved" (defArgs s_L_moved) (defBody s_L_moved) (defScope s_L_moved) .none kV__law_moved dc__law_moved pm__law_moved an__law_moved cd__law_moved ct__law_moved), sl__law_moved⟩)
    (c__law_moved : PySem.W.codeIn K cd__law_moved "_law_moved" = true)
    (k__law_moved : PySem.W.keepIn K (.ref f__law_moved) = true)
    (a__law_agrees : PySem.W.nsIn K mainGlobals "_law_agrees" = some (some (.ref f__law_agrees)))
    (l__law_agrees : K.lookup f__law_agrees = some ⟨oc__law_agrees, od__law_agrees, .func (PySem.W.fnOf "_law_agrees" "_law_agrees" (defArgs s_L_agrees) (defBody s_L_agrees) (defScope s_L_agrees) .none kV__law_agrees dc__law_agrees pm__law_agrees an__law_agrees cd__law_agrees ct__law_agrees), sl__law_agrees⟩)
    (c__law_agrees : PySem.W.codeIn K cd__law_agrees "_law_agrees" = true)
    (k__law_agrees : PySem.W.keepIn K (.ref f__law_agrees) = true)
    (a__law_settled : PySem.W.nsIn K mainGlobals "_law_settled" = some (some (.ref f__law_settled)))
    (l__law_settled : K.lookup f__law_settled = some ⟨oc__law_settled, od__law_settled, .func (PySem.W.fnOf "_law_settled" "_law_settled" (defArgs s_L_settled) (defBody s_L_settled) (defScope s_L_settled) .none kV__law_settled dc__law_settled pm__law_settled an__law_settled cd__law_settled ct__law_settled), sl__law_settled⟩)
    (c__law_settled : PySem.W.codeIn K cd__law_settled "_law_settled" = true)
    (k__law_settled : PySem.W.keepIn K (.ref f__law_settled) = true)
    (a__law_funded : PySem.W.nsIn K mainGlobals "_law_funded" = some (some (.ref f__law_funded)))
    (l__law_funded : K.lookup f__law_funded = some ⟨oc__law_funded, od__law_funded, .func (PySem.W.fnOf "_law_funded" "_law_funded" (defArgs s_L_funded) (defBody s_L_funded) (defScope s_L_funded) .none kV__law_funded dc__law_funded pm__law_funded an__law_funded cd__law_funded ct__law_funded), sl__law_funded⟩)
    (c__law_funded : PySem.W.codeIn K cd__law_funded "_law_funded" = true)
    (k__law_funded : PySem.W.keepIn K (.ref f__law_funded) = true)
    (a_law : PySem.W.nsIn K mainGlobals "law" = some (some (.ref f_law)))
    (l_law : K.lookup f_law = some ⟨oc_law, od_law, .func (PySem.W.fnOf "law" "law" (defArgs s_law) (defBody s_law) (defScope s_law) .none kV_law dc_law pm_law an_law cd_law ct_law), sl_law⟩)
    (c_law : PySem.W.codeIn K cd_law "law" = true)
    (k_law : PySem.W.keepIn K (.ref f_law) = true)
    (v_LIMIT : PySem.W.nsIn K mainGlobals "LIMIT" = some (some w_LIMIT))
    (vr_LIMIT : RelV (.int (1000000000)) w_LIMIT)
    (v_LETTERS : PySem.W.nsIn K mainGlobals "LETTERS" = some (some w_LETTERS))
    (vr_LETTERS : RelV (.str "abcdefghijklmnopqrstuvwxyz") w_LETTERS)
    (v_DIGITS : PySem.W.nsIn K mainGlobals "DIGITS" = some (some w_DIGITS))
    (vr_DIGITS : RelV (.str "0123456789") w_DIGITS)
    (v_LONGEST_NAME : PySem.W.nsIn K mainGlobals "LONGEST_NAME" = some (some w_LONGEST_NAME))
    (vr_LONGEST_NAME : RelV (.int (12)) w_LONGEST_NAME)
    (v_MOST_MEMBERS : PySem.W.nsIn K mainGlobals "MOST_MEMBERS" = some (some w_MOST_MEMBERS))
    (vr_MOST_MEMBERS : RelV (.int (6)) w_MOST_MEMBERS)
    (v_LONGEST_KEY : PySem.W.nsIn K mainGlobals "LONGEST_KEY" = some (some w_LONGEST_KEY))
    (vr_LONGEST_KEY : RelV (.int (40)) w_LONGEST_KEY)
    (n_all : PySem.W.nsIn K mainGlobals "all" = some none)
    (n_bool : PySem.W.nsIn K mainGlobals "bool" = some none)
    (n_dict : PySem.W.nsIn K mainGlobals "dict" = some none)
    (n_enumerate : PySem.W.nsIn K mainGlobals "enumerate" = some none)
    (n_int : PySem.W.nsIn K mainGlobals "int" = some none)
    (n_isinstance : PySem.W.nsIn K mainGlobals "isinstance" = some none)
    (n_len : PySem.W.nsIn K mainGlobals "len" = some none)
    (n_list : PySem.W.nsIn K mainGlobals "list" = some none)
    (n_range : PySem.W.nsIn K mainGlobals "range" = some none)
    (n_str : PySem.W.nsIn K mainGlobals "str" = some none)
    (n_tuple : PySem.W.nsIn K mainGlobals "tuple" = some none)
    (n_zip : PySem.W.nsIn K mainGlobals "zip" = some none)
    (pg_Clearing : PySem.W.plainGet K C_Clearing Str.empty = true)
    (hd_Clearing : PySem.W.hasDictIn K C_Clearing = true)
    (po_Clearing : PySem.W.plainOver K C_Clearing = true)
    (sa_Clearing : PySem.W.findIn K (.ref C_Clearing) "__setattr__" = some (some (.builtin "object.__setattr__")))
    (mk_Clearing : PySem.W.makesIn K C_Clearing = true)
    (kc_Clearing : PySem.W.keepIn K (.ref C_Clearing) = true)
    (no_Clearing__balances : PySem.W.findIn K (.ref C_Clearing) "_balances" = some none)
    (no_Clearing__floors : PySem.W.findIn K (.ref C_Clearing) "_floors" = some none)
    (no_Clearing__queue : PySem.W.findIn K (.ref C_Clearing) "_queue" = some none)
    (no_Clearing__keys : PySem.W.findIn K (.ref C_Clearing) "_keys" = some none) :
    ∃ T : Txt K mg, T.d_law = PySem.W.fnOf "law" "law" (defArgs s_law) (defBody s_law) (defScope s_law) .none kV_law dc_law pm_law an_law cd_law ct_law :=
  ⟨{ exa := fun e => match e with | .badValue => C_BadValue | .badDay => C_BankError | .missing => C_Missing | .refused => C_Refused | .full => C_Full | .notAllowed => C_BankError | .damaged => C_BankError,
       exgP := fun e he => by cases e <;> first | exact PySem.W.mg_of X G e_BadValue | exact PySem.W.mg_of X G e_Missing | exact PySem.W.mg_of X G e_Refused | exact PySem.W.mg_of X G e_Full | exact absurd he (by decide),
       a_BankError := C_BankError,
       g_BankError := PySem.W.mg_of X G e_BankError,
       exAll := eAll,
       a__wall := f__wall,
       d__wall := PySem.W.fnOf "_wall" "_wall" (defArgs s_wall) (defBody s_wall) (defScope s_wall) .none kV__wall dc__wall pm__wall an__wall cd__wall ct__wall,
       g__wall := PySem.W.mg_of X G a__wall,
       F__wall := fun_mk (st := s_wall) l__wall c__wall k__wall,
       b__wall := (fun_mk (st := s_wall) l__wall c__wall k__wall).binds (ps := ["k"]) fun _ _ _ _ _ _ us hl => match us, hl with | [_], _ => rfl,
       a_is_amount := f_is_amount,
       d_is_amount := PySem.W.fnOf "is_amount" "is_amount" (defArgs s_is_amount) (defBody s_is_amount) (defScope s_is_amount) .none kV_is_amount dc_is_amount pm_is_amount an_is_amount cd_is_amount ct_is_amount,
       g_is_amount := PySem.W.mg_of X G a_is_amount,
       F_is_amount := fun_mk (st := s_is_amount) l_is_amount c_is_amount k_is_amount,
       b_is_amount := (fun_mk (st := s_is_amount) l_is_amount c_is_amount k_is_amount).binds (ps := ["number"]) fun _ _ _ _ _ _ us hl => match us, hl with | [_], _ => rfl,
       a_check_amount := f_check_amount,
       d_check_amount := PySem.W.fnOf "check_amount" "check_amount" (defArgs s_check_amount) (defBody s_check_amount) (defScope s_check_amount) .none kV_check_amount dc_check_amount pm_check_amount an_check_amount cd_check_amount ct_check_amount,
       g_check_amount := PySem.W.mg_of X G a_check_amount,
       F_check_amount := fun_mk (st := s_check_amount) l_check_amount c_check_amount k_check_amount,
       b_check_amount := (fun_mk (st := s_check_amount) l_check_amount c_check_amount k_check_amount).binds (ps := ["amount"]) fun _ _ _ _ _ _ us hl => match us, hl with | [_], _ => rfl,
       a_is_name := f_is_name,
       d_is_name := PySem.W.fnOf "is_name" "is_name" (defArgs s_is_name) (defBody s_is_name) (defScope s_is_name) .none kV_is_name dc_is_name pm_is_name an_is_name cd_is_name ct_is_name,
       g_is_name := PySem.W.mg_of X G a_is_name,
       F_is_name := fun_mk (st := s_is_name) l_is_name c_is_name k_is_name,
       b_is_name := (fun_mk (st := s_is_name) l_is_name c_is_name k_is_name).binds (ps := ["text"]) fun _ _ _ _ _ _ us hl => match us, hl with | [_], _ => rfl,
       a_check_name := f_check_name,
       d_check_name := PySem.W.fnOf "check_name" "check_name" (defArgs s_check_name) (defBody s_check_name) (defScope s_check_name) .none kV_check_name dc_check_name pm_check_name an_check_name cd_check_name ct_check_name,
       g_check_name := PySem.W.mg_of X G a_check_name,
       F_check_name := fun_mk (st := s_check_name) l_check_name c_check_name k_check_name,
       b_check_name := (fun_mk (st := s_check_name) l_check_name c_check_name k_check_name).binds (ps := ["text"]) fun _ _ _ _ _ _ us hl => match us, hl with | [_], _ => rfl,
       a_Clearing___init := f_Clearing___init,
       d_Clearing___init := PySem.W.fnOf "__init__" "Clearing.__init__" (defArgs s_Clearing___init) (defBody s_Clearing___init) (defScope s_Clearing___init) .none kV_Clearing___init dc_Clearing___init pm_Clearing___init an_Clearing___init cd_Clearing___init ct_Clearing___init,
       F_Clearing___init := fun_mk (st := s_Clearing___init) l_Clearing___init c_Clearing___init k_Clearing___init,
       b_Clearing___init := (fun_mk (st := s_Clearing___init) l_Clearing___init c_Clearing___init k_Clearing___init).binds (ps := ["self"]) fun _ _ _ _ _ _ us hl => match us, hl with | [_], _ => rfl,
       a_Clearing_check_member := f_Clearing_check_member,
       d_Clearing_check_member := PySem.W.fnOf "check_member" "Clearing.check_member" (defArgs s_Clearing_check_member) (defBody s_Clearing_check_member) (defScope s_Clearing_check_member) .none kV_Clearing_check_member dc_Clearing_check_member pm_Clearing_check_member an_Clearing_check_member cd_Clearing_check_member ct_Clearing_check_member,
       F_Clearing_check_member := fun_mk (st := s_Clearing_check_member) l_Clearing_check_member c_Clearing_check_member k_Clearing_check_member,
       b_Clearing_check_member := (fun_mk (st := s_Clearing_check_member) l_Clearing_check_member c_Clearing_check_member k_Clearing_check_member).binds (ps := ["self", "name"]) fun _ _ _ _ _ _ us hl => match us, hl with | [_, _], _ => rfl,
       a_Clearing_add_member := f_Clearing_add_member,
       d_Clearing_add_member := PySem.W.fnOf "add_member" "Clearing.add_member" (defArgs s_Clearing_add_member) (defBody s_Clearing_add_member) (defScope s_Clearing_add_member) .none kV_Clearing_add_member dc_Clearing_add_member pm_Clearing_add_member an_Clearing_add_member cd_Clearing_add_member ct_Clearing_add_member,
       F_Clearing_add_member := fun_mk (st := s_Clearing_add_member) l_Clearing_add_member c_Clearing_add_member k_Clearing_add_member,
       b_Clearing_add_member := (fun_mk (st := s_Clearing_add_member) l_Clearing_add_member c_Clearing_add_member k_Clearing_add_member).binds (ps := ["self", "name", "floor"]) fun _ _ _ _ _ _ us hl => match us, hl with | [_, _, _], _ => rfl,
       a_Clearing_members := f_Clearing_members,
       d_Clearing_members := PySem.W.fnOf "members" "Clearing.members" (defArgs s_Clearing_members) (defBody s_Clearing_members) (defScope s_Clearing_members) .none kV_Clearing_members dc_Clearing_members pm_Clearing_members an_Clearing_members cd_Clearing_members ct_Clearing_members,
       F_Clearing_members := fun_mk (st := s_Clearing_members) l_Clearing_members c_Clearing_members k_Clearing_members,
       b_Clearing_members := (fun_mk (st := s_Clearing_members) l_Clearing_members c_Clearing_members k_Clearing_members).binds (ps := ["self"]) fun _ _ _ _ _ _ us hl => match us, hl with | [_], _ => rfl,
       a_Clearing_balance_of := f_Clearing_balance_of,
       d_Clearing_balance_of := PySem.W.fnOf "balance_of" "Clearing.balance_of" (defArgs s_Clearing_balance_of) (defBody s_Clearing_balance_of) (defScope s_Clearing_balance_of) .none kV_Clearing_balance_of dc_Clearing_balance_of pm_Clearing_balance_of an_Clearing_balance_of cd_Clearing_balance_of ct_Clearing_balance_of,
       F_Clearing_balance_of := fun_mk (st := s_Clearing_balance_of) l_Clearing_balance_of c_Clearing_balance_of k_Clearing_balance_of,
       b_Clearing_balance_of := (fun_mk (st := s_Clearing_balance_of) l_Clearing_balance_of c_Clearing_balance_of k_Clearing_balance_of).binds (ps := ["self", "name"]) fun _ _ _ _ _ _ us hl => match us, hl with | [_, _], _ => rfl,
       a_Clearing_floor_of := f_Clearing_floor_of,
       d_Clearing_floor_of := PySem.W.fnOf "floor_of" "Clearing.floor_of" (defArgs s_Clearing_floor_of) (defBody s_Clearing_floor_of) (defScope s_Clearing_floor_of) .none kV_Clearing_floor_of dc_Clearing_floor_of pm_Clearing_floor_of an_Clearing_floor_of cd_Clearing_floor_of ct_Clearing_floor_of,
       F_Clearing_floor_of := fun_mk (st := s_Clearing_floor_of) l_Clearing_floor_of c_Clearing_floor_of k_Clearing_floor_of,
       b_Clearing_floor_of := (fun_mk (st := s_Clearing_floor_of) l_Clearing_floor_of c_Clearing_floor_of k_Clearing_floor_of).binds (ps := ["self", "name"]) fun _ _ _ _ _ _ us hl => match us, hl with | [_, _], _ => rfl,
       a_Clearing_fund := f_Clearing_fund,
       d_Clearing_fund := PySem.W.fnOf "fund" "Clearing.fund" (defArgs s_Clearing_fund) (defBody s_Clearing_fund) (defScope s_Clearing_fund) .none kV_Clearing_fund dc_Clearing_fund pm_Clearing_fund an_Clearing_fund cd_Clearing_fund ct_Clearing_fund,
       F_Clearing_fund := fun_mk (st := s_Clearing_fund) l_Clearing_fund c_Clearing_fund k_Clearing_fund,
       b_Clearing_fund := (fun_mk (st := s_Clearing_fund) l_Clearing_fund c_Clearing_fund k_Clearing_fund).binds (ps := ["self", "name", "units"]) fun _ _ _ _ _ _ us hl => match us, hl with | [_, _, _], _ => rfl,
       a_Clearing_submit := f_Clearing_submit,
       d_Clearing_submit := PySem.W.fnOf "submit" "Clearing.submit" (defArgs s_Clearing_submit) (defBody s_Clearing_submit) (defScope s_Clearing_submit) .none kV_Clearing_submit dc_Clearing_submit pm_Clearing_submit an_Clearing_submit cd_Clearing_submit ct_Clearing_submit,
       F_Clearing_submit := fun_mk (st := s_Clearing_submit) l_Clearing_submit c_Clearing_submit k_Clearing_submit,
       b_Clearing_submit := (fun_mk (st := s_Clearing_submit) l_Clearing_submit c_Clearing_submit k_Clearing_submit).binds (ps := ["self", "key", "payer", "payee", "amount"]) fun _ _ _ _ _ _ us hl => match us, hl with | [_, _, _, _, _], _ => rfl,
       a_Clearing_queue := f_Clearing_queue,
       d_Clearing_queue := PySem.W.fnOf "queue" "Clearing.queue" (defArgs s_Clearing_queue) (defBody s_Clearing_queue) (defScope s_Clearing_queue) .none kV_Clearing_queue dc_Clearing_queue pm_Clearing_queue an_Clearing_queue cd_Clearing_queue ct_Clearing_queue,
       F_Clearing_queue := fun_mk (st := s_Clearing_queue) l_Clearing_queue c_Clearing_queue k_Clearing_queue,
       b_Clearing_queue := (fun_mk (st := s_Clearing_queue) l_Clearing_queue c_Clearing_queue k_Clearing_queue).binds (ps := ["self"]) fun _ _ _ _ _ _ us hl => match us, hl with | [_], _ => rfl,
       a_Clearing_find_short := f_Clearing_find_short,
       d_Clearing_find_short := PySem.W.fnOf "find_short" "Clearing.find_short" (defArgs s_Clearing_find_short) (defBody s_Clearing_find_short) (defScope s_Clearing_find_short) .none kV_Clearing_find_short dc_Clearing_find_short pm_Clearing_find_short an_Clearing_find_short cd_Clearing_find_short ct_Clearing_find_short,
       F_Clearing_find_short := fun_mk (st := s_Clearing_find_short) l_Clearing_find_short c_Clearing_find_short k_Clearing_find_short,
       b_Clearing_find_short := (fun_mk (st := s_Clearing_find_short) l_Clearing_find_short c_Clearing_find_short k_Clearing_find_short).binds (ps := ["self", "balances"]) fun _ _ _ _ _ _ us hl => match us, hl with | [_, _], _ => rfl,
       a_Clearing_find_choice := f_Clearing_find_choice,
       d_Clearing_find_choice := PySem.W.fnOf "find_choice" "Clearing.find_choice" (defArgs s_Clearing_find_choice) (defBody s_Clearing_find_choice) (defScope s_Clearing_find_choice) .none kV_Clearing_find_choice dc_Clearing_find_choice pm_Clearing_find_choice an_Clearing_find_choice cd_Clearing_find_choice ct_Clearing_find_choice,
       F_Clearing_find_choice := fun_mk (st := s_Clearing_find_choice) l_Clearing_find_choice c_Clearing_find_choice k_Clearing_find_choice,
       b_Clearing_find_choice := (fun_mk (st := s_Clearing_find_choice) l_Clearing_find_choice c_Clearing_find_choice k_Clearing_find_choice).binds (ps := ["self"]) fun _ _ _ _ _ _ us hl => match us, hl with | [_], _ => rfl,
       a_Clearing_settle := f_Clearing_settle,
       d_Clearing_settle := PySem.W.fnOf "settle" "Clearing.settle" (defArgs s_Clearing_settle) (defBody s_Clearing_settle) (defScope s_Clearing_settle) .none kV_Clearing_settle dc_Clearing_settle pm_Clearing_settle an_Clearing_settle cd_Clearing_settle ct_Clearing_settle,
       F_Clearing_settle := fun_mk (st := s_Clearing_settle) l_Clearing_settle c_Clearing_settle k_Clearing_settle,
       b_Clearing_settle := (fun_mk (st := s_Clearing_settle) l_Clearing_settle c_Clearing_settle k_Clearing_settle).binds (ps := ["self"]) fun _ _ _ _ _ _ us hl => match us, hl with | [_], _ => rfl,
       a__law_cell := f__law_cell,
       d__law_cell := PySem.W.fnOf "_law_cell" "_law_cell" (defArgs s_L_cell) (defBody s_L_cell) (defScope s_L_cell) .none kV__law_cell dc__law_cell pm__law_cell an__law_cell cd__law_cell ct__law_cell,
       g__law_cell := PySem.W.mg_of X G a__law_cell,
       F__law_cell := fun_mk (st := s_L_cell) l__law_cell c__law_cell k__law_cell,
       b__law_cell := (fun_mk (st := s_L_cell) l__law_cell c__law_cell k__law_cell).binds (ps := ["script", "k"]) fun _ _ _ _ _ _ us hl => match us, hl with | [_, _], _ => rfl,
       a__law_source := f__law_source,
       d__law_source := PySem.W.fnOf "_law_source" "_law_source" (defArgs s_L_source) (defBody s_L_source) (defScope s_L_source) .none kV__law_source dc__law_source pm__law_source an__law_source cd__law_source ct__law_source,
       g__law_source := PySem.W.mg_of X G a__law_source,
       F__law_source := fun_mk (st := s_L_source) l__law_source c__law_source k__law_source,
       b__law_source := (fun_mk (st := s_L_source) l__law_source c__law_source k__law_source).binds (ps := ["cell", "k"]) fun _ _ _ _ _ _ us hl => match us, hl with | [_, _], _ => rfl,
       a__law_pick := f__law_pick,
       d__law_pick := PySem.W.fnOf "_law_pick" "_law_pick" (defArgs s_L_pick) (defBody s_L_pick) (defScope s_L_pick) .none kV__law_pick dc__law_pick pm__law_pick an__law_pick cd__law_pick ct__law_pick,
       g__law_pick := PySem.W.mg_of X G a__law_pick,
       F__law_pick := fun_mk (st := s_L_pick) l__law_pick c__law_pick k__law_pick,
       b__law_pick := (fun_mk (st := s_L_pick) l__law_pick c__law_pick k__law_pick).binds (ps := ["source", "many"]) fun _ _ _ _ _ _ us hl => match us, hl with | [_, _], _ => rfl,
       a__law_name := f__law_name,
       d__law_name := PySem.W.fnOf "_law_name" "_law_name" (defArgs s_L_name) (defBody s_L_name) (defScope s_L_name) .none kV__law_name dc__law_name pm__law_name an__law_name cd__law_name ct__law_name,
       g__law_name := PySem.W.mg_of X G a__law_name,
       F__law_name := fun_mk (st := s_L_name) l__law_name c__law_name k__law_name,
       b__law_name := (fun_mk (st := s_L_name) l__law_name c__law_name k__law_name).binds (ps := ["source"]) fun _ _ _ _ _ _ us hl => match us, hl with | [_], _ => rfl,
       a__law_names := f__law_names,
       d__law_names := PySem.W.fnOf "_law_names" "_law_names" (defArgs s_L_names) (defBody s_L_names) (defScope s_L_names) .none kV__law_names dc__law_names pm__law_names an__law_names cd__law_names ct__law_names,
       g__law_names := PySem.W.mg_of X G a__law_names,
       F__law_names := fun_mk (st := s_L_names) l__law_names c__law_names k__law_names,
       b__law_names := (fun_mk (st := s_L_names) l__law_names c__law_names k__law_names).binds (ps := ["source", "many"]) fun _ _ _ _ _ _ us hl => match us, hl with | [_, _], _ => rfl,
       a__law_is_number := f__law_is_number,
       d__law_is_number := PySem.W.fnOf "_law_is_number" "_law_is_number" (defArgs s_L_is_number) (defBody s_L_is_number) (defScope s_L_is_number) .none kV__law_is_number dc__law_is_number pm__law_is_number an__law_is_number cd__law_is_number ct__law_is_number,
       g__law_is_number := PySem.W.mg_of X G a__law_is_number,
       F__law_is_number := fun_mk (st := s_L_is_number) l__law_is_number c__law_is_number k__law_is_number,
       b__law_is_number := (fun_mk (st := s_L_is_number) l__law_is_number c__law_is_number k__law_is_number).binds (ps := ["actual", "expected"]) fun _ _ _ _ _ _ us hl => match us, hl with | [_, _], _ => rfl,
       a__law_pairs := f__law_pairs,
       d__law_pairs := PySem.W.fnOf "_law_pairs" "_law_pairs" (defArgs s_L_pairs) (defBody s_L_pairs) (defScope s_L_pairs) .none kV__law_pairs dc__law_pairs pm__law_pairs an__law_pairs cd__law_pairs ct__law_pairs,
       g__law_pairs := PySem.W.mg_of X G a__law_pairs,
       F__law_pairs := fun_mk (st := s_L_pairs) l__law_pairs c__law_pairs k__law_pairs,
       b__law_pairs := (fun_mk (st := s_L_pairs) l__law_pairs c__law_pairs k__law_pairs).binds (ps := ["source", "many"]) fun _ _ _ _ _ _ us hl => match us, hl with | [_, _], _ => rfl,
       a__law_filled := f__law_filled,
       d__law_filled := PySem.W.fnOf "_law_filled" "_law_filled" (defArgs s_L_filled) (defBody s_L_filled) (defScope s_L_filled) .none kV__law_filled dc__law_filled pm__law_filled an__law_filled cd__law_filled ct__law_filled,
       g__law_filled := PySem.W.mg_of X G a__law_filled,
       F__law_filled := fun_mk (st := s_L_filled) l__law_filled c__law_filled k__law_filled,
       b__law_filled := (fun_mk (st := s_L_filled) l__law_filled c__law_filled k__law_filled).binds (ps := ["source", "names"]) fun _ _ _ _ _ _ us hl => match us, hl with | [_, _], _ => rfl,
       a__law_payment := f__law_payment,
       d__law_payment := PySem.W.fnOf "_law_payment" "_law_payment" (defArgs s_L_payment) (defBody s_L_payment) (defScope s_L_payment) .none kV__law_payment dc__law_payment pm__law_payment an__law_payment cd__law_payment ct__law_payment,
       g__law_payment := PySem.W.mg_of X G a__law_payment,
       F__law_payment := fun_mk (st := s_L_payment) l__law_payment c__law_payment k__law_payment,
       b__law_payment := (fun_mk (st := s_L_payment) l__law_payment c__law_payment k__law_payment).binds (ps := ["source", "k", "names", "scale"]) fun _ _ _ _ _ _ us hl => match us, hl with | [_, _, _, _], _ => rfl,
       a__law_moved := f__law_moved,
       d__law_moved := PySem.W.fnOf "_law_moved" "_law_moved" (defArgs s_L_moved) (defBody s_L_moved) (defScope s_L_moved) .none kV__law_moved dc__law_moved pm__law_moved an__law_moved cd__law_moved ct__law_moved,
       g__law_moved := PySem.W.mg_of X G a__law_moved,
       F__law_moved := fun_mk (st := s_L_moved) l__law_moved c__law_moved k__law_moved,
       b__law_moved := (fun_mk (st := s_L_moved) l__law_moved c__law_moved k__law_moved).binds (ps := ["told", "payments"]) fun _ _ _ _ _ _ us hl => match us, hl with | [_, _], _ => rfl,
       a__law_agrees := f__law_agrees,
       d__law_agrees := PySem.W.fnOf "_law_agrees" "_law_agrees" (defArgs s_L_agrees) (defBody s_L_agrees) (defScope s_L_agrees) .none kV__law_agrees dc__law_agrees pm__law_agrees an__law_agrees cd__law_agrees ct__law_agrees,
       g__law_agrees := PySem.W.mg_of X G a__law_agrees,
       F__law_agrees := fun_mk (st := s_L_agrees) l__law_agrees c__law_agrees k__law_agrees,
       b__law_agrees := (fun_mk (st := s_L_agrees) l__law_agrees c__law_agrees k__law_agrees).binds (ps := ["clearing", "told"]) fun _ _ _ _ _ _ us hl => match us, hl with | [_, _], _ => rfl,
       a__law_settled := f__law_settled,
       d__law_settled := PySem.W.fnOf "_law_settled" "_law_settled" (defArgs s_L_settled) (defBody s_L_settled) (defScope s_L_settled) .none kV__law_settled dc__law_settled pm__law_settled an__law_settled cd__law_settled ct__law_settled,
       g__law_settled := PySem.W.mg_of X G a__law_settled,
       F__law_settled := fun_mk (st := s_L_settled) l__law_settled c__law_settled k__law_settled,
       b__law_settled := (fun_mk (st := s_L_settled) l__law_settled c__law_settled k__law_settled).binds (ps := ["clearing", "told", "waits"]) fun _ _ _ _ _ _ us hl => match us, hl with | [_, _, _], _ => rfl,
       a__law_funded := f__law_funded,
       d__law_funded := PySem.W.fnOf "_law_funded" "_law_funded" (defArgs s_L_funded) (defBody s_L_funded) (defScope s_L_funded) .none kV__law_funded dc__law_funded pm__law_funded an__law_funded cd__law_funded ct__law_funded,
       g__law_funded := PySem.W.mg_of X G a__law_funded,
       F__law_funded := fun_mk (st := s_L_funded) l__law_funded c__law_funded k__law_funded,
       b__law_funded := (fun_mk (st := s_L_funded) l__law_funded c__law_funded k__law_funded).binds (ps := ["clearing", "told", "source", "scale"]) fun _ _ _ _ _ _ us hl => match us, hl with | [_, _, _, _], _ => rfl,
       a_law := f_law,
       d_law := PySem.W.fnOf "law" "law" (defArgs s_law) (defBody s_law) (defScope s_law) .none kV_law dc_law pm_law an_law cd_law ct_law,
       g_law := PySem.W.mg_of X G a_law,
       F_law := fun_mk (st := s_law) l_law c_law k_law,
       b_law := (fun_mk (st := s_law) l_law c_law k_law).binds (ps := ["script"]) fun _ _ _ _ _ _ us hl => match us, hl with | [_], _ => rfl,
       u_LIMIT := w_LIMIT,
       g_LIMIT := PySem.W.mg_of X G v_LIMIT,
       r_LIMIT := vr_LIMIT,
       u_LETTERS := w_LETTERS,
       g_LETTERS := PySem.W.mg_of X G v_LETTERS,
       r_LETTERS := vr_LETTERS,
       u_DIGITS := w_DIGITS,
       g_DIGITS := PySem.W.mg_of X G v_DIGITS,
       r_DIGITS := vr_DIGITS,
       u_LONGEST_NAME := w_LONGEST_NAME,
       g_LONGEST_NAME := PySem.W.mg_of X G v_LONGEST_NAME,
       r_LONGEST_NAME := vr_LONGEST_NAME,
       u_MOST_MEMBERS := w_MOST_MEMBERS,
       g_MOST_MEMBERS := PySem.W.mg_of X G v_MOST_MEMBERS,
       r_MOST_MEMBERS := vr_MOST_MEMBERS,
       u_LONGEST_KEY := w_LONGEST_KEY,
       g_LONGEST_KEY := PySem.W.mg_of X G v_LONGEST_KEY,
       r_LONGEST_KEY := vr_LONGEST_KEY,
       n_all := PySem.W.mg_none_of X G n_all,
       n_bool := PySem.W.mg_none_of X G n_bool,
       n_dict := PySem.W.mg_none_of X G n_dict,
       n_enumerate := PySem.W.mg_none_of X G n_enumerate,
       n_int := PySem.W.mg_none_of X G n_int,
       n_isinstance := PySem.W.mg_none_of X G n_isinstance,
       n_len := PySem.W.mg_none_of X G n_len,
       n_list := PySem.W.mg_none_of X G n_list,
       n_range := PySem.W.mg_none_of X G n_range,
       n_str := PySem.W.mg_none_of X G n_str,
       n_tuple := PySem.W.mg_none_of X G n_tuple,
       n_zip := PySem.W.mg_none_of X G n_zip,
       a_Clearing := C_Clearing,
       g_Clearing := PySem.W.mg_of X G o_Clearing,
       cl_Clearing := ⟨pg_Clearing, hd_Clearing, po_Clearing, sa_Clearing⟩,
       mk_Clearing := ⟨mk_Clearing, a_Clearing___init, i_Clearing___init, kc_Clearing⟩,
       no_Clearing__balances := no_Clearing__balances,
       no_Clearing__floors := no_Clearing__floors,
       no_Clearing__queue := no_Clearing__queue,
       no_Clearing__keys := no_Clearing__keys,
       m_Clearing_check_member := ⟨a_Clearing_check_member, i_Clearing_check_member, k_Clearing_check_member⟩,
       m_Clearing_add_member := ⟨a_Clearing_add_member, i_Clearing_add_member, k_Clearing_add_member⟩,
       m_Clearing_members := ⟨a_Clearing_members, i_Clearing_members, k_Clearing_members⟩,
       m_Clearing_balance_of := ⟨a_Clearing_balance_of, i_Clearing_balance_of, k_Clearing_balance_of⟩,
       m_Clearing_floor_of := ⟨a_Clearing_floor_of, i_Clearing_floor_of, k_Clearing_floor_of⟩,
       m_Clearing_fund := ⟨a_Clearing_fund, i_Clearing_fund, k_Clearing_fund⟩,
       m_Clearing_submit := ⟨a_Clearing_submit, i_Clearing_submit, k_Clearing_submit⟩,
       m_Clearing_queue := ⟨a_Clearing_queue, i_Clearing_queue, k_Clearing_queue⟩,
       m_Clearing_find_short := ⟨a_Clearing_find_short, i_Clearing_find_short, k_Clearing_find_short⟩,
       m_Clearing_find_choice := ⟨a_Clearing_find_choice, i_Clearing_find_choice, k_Clearing_find_choice⟩,
       m_Clearing_settle := ⟨a_Clearing_settle, i_Clearing_settle, k_Clearing_settle⟩ }, rfl⟩
end K34
open PySem PySem.W PyProof.Rows
set_option maxRecDepth 100000 in
set_option maxHeartbeats 0 in
theorem PySem.Challenge.cw_corebank_k34_whole_settle_keeps_holds : PySem.Challenge.rw_corebank_k34_whole_settle_keeps.Holds := by
  w_on; o_law; k_head; (case hw => w_witness2)
  k_fill
  refine Kv.walk (l := PySem.Challenge.rw_corebank_k34_whole_settle_keeps) (k := 5) rfl rfl ⟨rfl, by decide, by decide⟩ (fun w h Y => PySem.W.kIn_of Y) ?F
  case F =>
    intro w mg fa h KX G hmg
    obtain ⟨T, hT⟩ : ∃ T : K34.Txt _ mg, ∃ a b c d e f, T.d_law = PySem.W.fnOf "law" "law" (L2.defArgs K34.s_law) (L2.defBody K34.s_law) (L2.defScope K34.s_law) .none a b c d e f := by
      refine' (fun z => ⟨z.choose, _, _, _, _, _, _, z.choose_spec⟩) (K34.txt_mk KX G ?e_BadValue ?e_Missing ?e_Refused ?e_Full ?e_BankError ?eAll ?o_Clearing ?a__wall ?l__wall ?c__wall ?k__wall ?a_is_amount ?l_is_amount ?c_is_amount ?k_is_amount ?a_check_amount ?l_check_amount ?c_check_amount ?k_check_amount ?a_is_name ?l_is_name ?c_is_name ?k_is_name ?a_check_name ?l_check_name ?c_check_name ?k_check_name ?a_Clearing___init ?i_Clearing___init ?l_Clearing___init ?c_Clearing___init ?k_Clearing___init ?a_Clearing_check_member ?i_Clearing_check_member ?l_Clearing_check_member ?c_Clearing_check_member ?k_Clearing_check_member ?a_Clearing_add_member ?i_Clearing_add_member ?l_Clearing_add_member ?c_Clearing_add_member ?k_Clearing_add_member ?a_Clearing_members ?i_Clearing_members ?l_Clearing_members ?c_Clearing_members ?k_Clearing_members ?a_Clearing_balance_of ?i_Clearing_balance_of ?l_Clearing_balance_of ?c_Clearing_balance_of ?k_Clearing_balance_of ?a_Clearing_floor_of ?i_Clearing_floor_of ?l_Clearing_floor_of ?c_Clearing_floor_of ?k_Clearing_floor_of ?a_Clearing_fund ?i_Clearing_fund ?l_Clearing_fund ?c_Clearing_fund ?k_Clearing_fund ?a_Clearing_submit ?i_Clearing_submit ?l_Clearing_submit ?c_Clearing_submit ?k_Clearing_submit ?a_Clearing_queue ?i_Clearing_queue ?l_Clearing_queue ?c_Clearing_queue ?k_Clearing_queue ?a_Clearing_find_short ?i_Clearing_find_short ?l_Clearing_find_short ?c_Clearing_find_short ?k_Clearing_find_short ?a_Clearing_find_choice ?i_Clearing_find_choice ?l_Clearing_find_choice ?c_Clearing_find_choice ?k_Clearing_find_choice ?a_Clearing_settle ?i_Clearing_settle ?l_Clearing_settle ?c_Clearing_settle ?k_Clearing_settle ?a__law_cell ?l__law_cell ?c__law_cell ?k__law_cell ?a__law_source ?l__law_source ?c__law_source ?k__law_source ?a__law_pick ?l__law_pick ?c__law_pick ?k__law_pick ?a__law_name ?l__law_name ?c__law_name ?k__law_name ?a__law_names ?l__law_names ?c__law_names ?k__law_names ?a__law_is_number ?l__law_is_number ?c__law_is_number ?k__law_is_number ?a__law_pairs ?l__law_pairs ?c__law_pairs ?k__law_pairs ?a__law_filled ?l__law_filled ?c__law_filled ?k__law_filled ?a__law_payment ?l__law_payment ?c__law_payment ?k__law_payment ?a__law_moved ?l__law_moved ?c__law_moved ?k__law_moved ?a__law_agrees ?l__law_agrees ?c__law_agrees ?k__law_agrees ?a__law_settled ?l__law_settled ?c__law_settled ?k__law_settled ?a__law_funded ?l__law_funded ?c__law_funded ?k__law_funded ?a_law ?l_law ?c_law ?k_law ?v_LIMIT ?vr_LIMIT ?v_LETTERS ?vr_LETTERS ?v_DIGITS ?vr_DIGITS ?v_LONGEST_NAME ?vr_LONGEST_NAME ?v_MOST_MEMBERS ?vr_MOST_MEMBERS ?v_LONGEST_KEY ?vr_LONGEST_KEY ?n_all ?n_bool ?n_dict ?n_enumerate ?n_int ?n_isinstance ?n_len ?n_list ?n_range ?n_str ?n_tuple ?n_zip ?pg_Clearing ?hd_Clearing ?po_Clearing ?sa_Clearing ?mk_Clearing ?kc_Clearing ?no_Clearing__balances ?no_Clearing__floors ?no_Clearing__queue ?no_Clearing__keys)
      (case e_BadValue => k_is)
      (case e_Missing => k_is)
      (case e_Refused => k_is)
      (case e_Full => k_is)
      (case e_BankError => k_is)
      (case eAll => first | rfl | with_unfolding_all rfl | kernel_rfl)
      (case o_Clearing => k_is)
      (case a__wall => k_is)
      (case l__wall => k_is)
      (case c__wall => k_is)
      (case k__wall => k_is)
      (case a_is_amount => k_is)
      (case l_is_amount => k_is)
      (case c_is_amount => k_is)
      (case k_is_amount => k_is)
      (case a_check_amount => k_is)
      (case l_check_amount => k_is)
      (case c_check_amount => k_is)
      (case k_check_amount => k_is)
      (case a_is_name => k_is)
      (case l_is_name => k_is)
      (case c_is_name => k_is)
      (case k_is_name => k_is)
      (case a_check_name => k_is)
      (case l_check_name => k_is)
      (case c_check_name => k_is)
      (case k_check_name => k_is)
      (case a_Clearing___init => k_is)
      (case i_Clearing___init => k_is)
      (case l_Clearing___init => k_is)
      (case c_Clearing___init => k_is)
      (case k_Clearing___init => k_is)
      (case a_Clearing_check_member => k_is)
      (case i_Clearing_check_member => k_is)
      (case l_Clearing_check_member => k_is)
      (case c_Clearing_check_member => k_is)
      (case k_Clearing_check_member => k_is)
      (case a_Clearing_add_member => k_is)
      (case i_Clearing_add_member => k_is)
      (case l_Clearing_add_member => k_is)
      (case c_Clearing_add_member => k_is)
      (case k_Clearing_add_member => k_is)
      (case a_Clearing_members => k_is)
      (case i_Clearing_members => k_is)
      (case l_Clearing_members => k_is)
      (case c_Clearing_members => k_is)
      (case k_Clearing_members => k_is)
      (case a_Clearing_balance_of => k_is)
      (case i_Clearing_balance_of => k_is)
      (case l_Clearing_balance_of => k_is)
      (case c_Clearing_balance_of => k_is)
      (case k_Clearing_balance_of => k_is)
      (case a_Clearing_floor_of => k_is)
      (case i_Clearing_floor_of => k_is)
      (case l_Clearing_floor_of => k_is)
      (case c_Clearing_floor_of => k_is)
      (case k_Clearing_floor_of => k_is)
      (case a_Clearing_fund => k_is)
      (case i_Clearing_fund => k_is)
      (case l_Clearing_fund => k_is)
      (case c_Clearing_fund => k_is)
      (case k_Clearing_fund => k_is)
      (case a_Clearing_submit => k_is)
      (case i_Clearing_submit => k_is)
      (case l_Clearing_submit => k_is)
      (case c_Clearing_submit => k_is)
      (case k_Clearing_submit => k_is)
      (case a_Clearing_queue => k_is)
      (case i_Clearing_queue => k_is)
      (case l_Clearing_queue => k_is)
      (case c_Clearing_queue => k_is)
      (case k_Clearing_queue => k_is)
      (case a_Clearing_find_short => k_is)
      (case i_Clearing_find_short => k_is)
      (case l_Clearing_find_short => k_is)
      (case c_Clearing_find_short => k_is)
      (case k_Clearing_find_short => k_is)
      (case a_Clearing_find_choice => k_is)
      (case i_Clearing_find_choice => k_is)
      (case l_Clearing_find_choice => k_is)
      (case c_Clearing_find_choice => k_is)
      (case k_Clearing_find_choice => k_is)
      (case a_Clearing_settle => k_is)
      (case i_Clearing_settle => k_is)
      (case l_Clearing_settle => k_is)
      (case c_Clearing_settle => k_is)
      (case k_Clearing_settle => k_is)
      (case a__law_cell => k_is)
      (case l__law_cell => k_is)
      (case c__law_cell => k_is)
      (case k__law_cell => k_is)
      (case a__law_source => k_is)
      (case l__law_source => k_is)
      (case c__law_source => k_is)
      (case k__law_source => k_is)
      (case a__law_pick => k_is)
      (case l__law_pick => k_is)
      (case c__law_pick => k_is)
      (case k__law_pick => k_is)
      (case a__law_name => k_is)
      (case l__law_name => k_is)
      (case c__law_name => k_is)
      (case k__law_name => k_is)
      (case a__law_names => k_is)
      (case l__law_names => k_is)
      (case c__law_names => k_is)
      (case k__law_names => k_is)
      (case a__law_is_number => k_is)
      (case l__law_is_number => k_is)
      (case c__law_is_number => k_is)
      (case k__law_is_number => k_is)
      (case a__law_pairs => k_is)
      (case l__law_pairs => k_is)
      (case c__law_pairs => k_is)
      (case k__law_pairs => k_is)
      (case a__law_filled => k_is)
      (case l__law_filled => k_is)
      (case c__law_filled => k_is)
      (case k__law_filled => k_is)
      (case a__law_payment => k_is)
      (case l__law_payment => k_is)
      (case c__law_payment => k_is)
      (case k__law_payment => k_is)
      (case a__law_moved => k_is)
      (case l__law_moved => k_is)
      (case c__law_moved => k_is)
      (case k__law_moved => k_is)
      (case a__law_agrees => k_is)
      (case l__law_agrees => k_is)
      (case c__law_agrees => k_is)
      (case k__law_agrees => k_is)
      (case a__law_settled => k_is)
      (case l__law_settled => k_is)
      (case c__law_settled => k_is)
      (case k__law_settled => k_is)
      (case a__law_funded => k_is)
      (case l__law_funded => k_is)
      (case c__law_funded => k_is)
      (case k__law_funded => k_is)
      (case a_law => k_is)
      (case l_law => k_is)
      (case c_law => k_is)
      (case k_law => k_is)
      (case v_LIMIT => k_is)
      (case vr_LIMIT => exact ⟨_, rfl⟩)
      (case v_LETTERS => k_is)
      (case vr_LETTERS => exact ⟨_, rfl⟩)
      (case v_DIGITS => k_is)
      (case vr_DIGITS => exact ⟨_, rfl⟩)
      (case v_LONGEST_NAME => k_is)
      (case vr_LONGEST_NAME => exact ⟨_, rfl⟩)
      (case v_MOST_MEMBERS => k_is)
      (case vr_MOST_MEMBERS => exact ⟨_, rfl⟩)
      (case v_LONGEST_KEY => k_is)
      (case vr_LONGEST_KEY => exact ⟨_, rfl⟩)
      (case n_all => k_is)
      (case n_bool => k_is)
      (case n_dict => k_is)
      (case n_enumerate => k_is)
      (case n_int => k_is)
      (case n_isinstance => k_is)
      (case n_len => k_is)
      (case n_list => k_is)
      (case n_range => k_is)
      (case n_str => k_is)
      (case n_tuple => k_is)
      (case n_zip => k_is)
      (case pg_Clearing => k_is)
      (case hd_Clearing => k_is)
      (case po_Clearing => k_is)
      (case sa_Clearing => k_is)
      (case mk_Clearing => k_is)
      (case kc_Clearing => k_is)
      (case no_Clearing__balances => k_is)
      (case no_Clearing__floors => k_is)
      (case no_Clearing__queue => k_is)
      (case no_Clearing__keys => k_is)
    obtain ⟨_, _, _, _, _, _, hT⟩ := hT
    have ea : fa = T.a_law := by
      have z := hmg.symm.trans T.g_law
      cases z; rfl
    subst ea
    exact ⟨T.d_law, fun s u => by rw [hT]; exact .of_eq rfl, fun base _ _ => K34.ok_law T⟩
#print axioms PySem.Challenge.cw_corebank_k34_whole_settle_keeps_holds

import PyProof.Rows.All
import Wide.All
import OpenK.AllK
import Wide.FinOn
import HandS.ForMost
import HandS.ForExc
import HandS.Wide
import HandS.WideMore
import HandS.WideBits
import HandS.EndBits
import HandS.IsInst
import HandS.ExcIs
import HandS.HotCalls
import HandS.StrMore
import HandS.Style
import HandS.TupAny
import HandS.SortInts
import HandS.SortKw
import HandS.Walk
import HandS.SortRule
import PySem.Challenge.RW_corebank_k08_whole_adjust
set_option Elab.async false
set_option linter.all false
set_option maxRecDepth 100000
set_option maxHeartbeats 4000000
/-! What all the proofs share: the library's errors, lists joined, the def that tells an error's kinds. -/
namespace Kv
open PySem PySem.Spec PyProof.Rows L2
abbrev Frag := PySem.W.Frag
inductive Er where
  | badValue | badDay | missing | refused | full | notAllowed | damaged
  deriving DecidableEq
def Er.nm : Er → Str
  | .badValue => "BadValue" | .badDay => "BadDay" | .missing => "Missing" | .refused => "Refused" | .full => "Full" | .notAllowed => "NotAllowed" | .damaged => "Damaged"
def Er.every : List Er := [.badValue, .badDay, .missing, .refused, .full, .notAllowed, .damaged]
theorem Er.mem (e : Er) : e ∈ Er.every := by cases e <;> decide
abbrev veChain : List Value := [.type "ValueError", .type "Exception", .type "BaseException", .type "object"]
/-- what the written part must say of one error class -/
def errOne (K : Frag) (a : Er → Addr) (b : Addr) (e : Er) : Bool :=
  PySem.W.excIn K (a e) veChain "ValueError.__new__" && PySem.W.keepIn K (.ref (a e)) && (PySem.W.subIn K (.ref (a e)) (.type "BaseException") == some true) && (PySem.W.typeIn K (.ref (a e)) == some (.type "type")) &&
  (PySem.W.findIn K (.ref (a e)) "__getattribute__" == some (some (.builtin "BaseException.__getattribute__"))) && (PySem.W.findIn K (.ref (a e)) "__getattr__" == some none) && PySem.W.hasDictIn K (a e) &&
  (PySem.W.findIn K (.ref (a e)) "__class__" == some (some (.builtin "object.__class__"))) && (PySem.W.mroIn K (a e) (.type "object") == some true) && (PySem.W.exmOne K (.ref (a e)) (.ref b) == some true) &&
  Er.every.all fun d => PySem.W.kitOne K (.ref (a e)) (.ref (a d)) == some (decide (e = d))
def errAll (K : Frag) (a : Er → Addr) (b : Addr) : Bool :=
  (PySem.W.specialIn K (.builtin "object.__class__") "__get__" == some (some (.builtin "getset_descriptor.__get__"))) && (PySem.W.takesIn K (.builtin "object.__class__") == some true) && Er.every.all (errOne K a b)
structure Errs (K : Frag) (mg : Str → Option Value) where
  exa : Er → Addr
  exg : ∀ e, mg e.nm = some (.ref (exa e))
  a_BankError : Addr
  g_BankError : mg "BankError" = some (.ref a_BankError)
  exAll : errAll K exa a_BankError = true
namespace Errs
variable {K : Frag} {mg : Str → Option Value} (T : Errs K mg)
theorem one (e : Er) : errOne K T.exa T.a_BankError e = true := by
  have h := T.exAll
  unfold errAll at h
  simp only [Bool.and_eq_true, List.all_eq_true] at h
  exact h.2 e e.mem
theorem split (e : Er) : PySem.W.excIn K (T.exa e) veChain "ValueError.__new__" = true ∧ PySem.W.keepIn K (.ref (T.exa e)) = true ∧ PySem.W.subIn K (.ref (T.exa e)) (.type "BaseException") = some true ∧ PySem.W.typeIn K (.ref (T.exa e)) = some (.type "type") ∧
    ExcC K (T.exa e) ∧ PySem.W.exmOne K (.ref (T.exa e)) (.ref T.a_BankError) = some true ∧ ∀ d, PySem.W.kitOne K (.ref (T.exa e)) (.ref (T.exa d)) = some (decide (e = d)) := by
  have h := T.one e
  have g := T.exAll
  unfold errOne at h
  unfold errAll at g
  simp only [Bool.and_eq_true, List.all_eq_true, beq_iff_eq] at h g
  obtain ⟨⟨⟨⟨⟨⟨⟨⟨⟨⟨h1, h2⟩, h3⟩, h4⟩, h5⟩, h6⟩, h7⟩, h8⟩, h9⟩, h10⟩, h11⟩ := h
  exact ⟨h1, h2, h3, h4, ⟨h5, h6, h3, h7, h8, g.1.1, g.1.2, h9⟩, h10, fun d => h11 d d.mem⟩
theorem exx (e : Er) : PySem.W.excIn K (T.exa e) veChain "ValueError.__new__" = true := (T.split e).1
theorem exk (e : Er) : PySem.W.keepIn K (.ref (T.exa e)) = true := (T.split e).2.1
theorem exb (e : Er) : PySem.W.subIn K (.ref (T.exa e)) (.type "BaseException") = some true := (T.split e).2.2.1
theorem ext (e : Er) : PySem.W.typeIn K (.ref (T.exa e)) = some (.type "type") := (T.split e).2.2.2.1
theorem exc (e : Er) : ExcC K (T.exa e) := (T.split e).2.2.2.2.1
theorem exm (e : Er) : PySem.W.exmOne K (.ref (T.exa e)) (.ref T.a_BankError) = some true := (T.split e).2.2.2.2.2.1
theorem exi (e d : Er) : PySem.W.kitOne K (.ref (T.exa e)) (.ref (T.exa d)) = some (decide (e = d)) := (T.split e).2.2.2.2.2.2 d
end Errs

/-- .. where the text has some of the classes alone -/
def errAllP (K : Frag) (a : Er → Addr) (b : Addr) (es : List Er) : Bool :=
  (PySem.W.specialIn K (.builtin "object.__class__") "__get__" == some (some (.builtin "getset_descriptor.__get__"))) && (PySem.W.takesIn K (.builtin "object.__class__") == some true) && es.all fun e =>
  PySem.W.excIn K (a e) veChain "ValueError.__new__" && PySem.W.keepIn K (.ref (a e)) && (PySem.W.subIn K (.ref (a e)) (.type "BaseException") == some true) && (PySem.W.typeIn K (.ref (a e)) == some (.type "type")) &&
  (PySem.W.exmOne K (.ref (a e)) (.ref b) == some true)
structure ErrsP (K : Frag) (mg : Str → Option Value) (es : List Er) where
  exa : Er → Addr
  exgP : ∀ e, e ∈ es → mg e.nm = some (.ref (exa e))
  a_BankError : Addr
  g_BankError : mg "BankError" = some (.ref a_BankError)
  exAll : errAllP K exa a_BankError es = true
namespace ErrsP
variable {K : Frag} {mg : Str → Option Value} {es : List Er} (T : ErrsP K mg es)
theorem split (e : Er) (he : e ∈ es) : PySem.W.excIn K (T.exa e) veChain "ValueError.__new__" = true ∧ PySem.W.keepIn K (.ref (T.exa e)) = true ∧ PySem.W.subIn K (.ref (T.exa e)) (.type "BaseException") = some true ∧ PySem.W.typeIn K (.ref (T.exa e)) = some (.type "type") ∧
    PySem.W.exmOne K (.ref (T.exa e)) (.ref T.a_BankError) = some true := by
  have g := T.exAll
  unfold errAllP at g
  simp only [Bool.and_eq_true, List.all_eq_true, beq_iff_eq] at g
  obtain ⟨⟨⟨⟨h1, h2⟩, h3⟩, h4⟩, h5⟩ := g.2 e he
  exact ⟨h1, h2, h3, h4, h5⟩
theorem exg (e : Er) (he : e ∈ es := by decide) : mg e.nm = some (.ref (T.exa e)) := T.exgP e he
theorem exx (e : Er) (he : e ∈ es := by decide) : PySem.W.excIn K (T.exa e) veChain "ValueError.__new__" = true := (T.split e he).1
theorem exk (e : Er) (he : e ∈ es := by decide) : PySem.W.keepIn K (.ref (T.exa e)) = true := (T.split e he).2.1
theorem exb (e : Er) (he : e ∈ es := by decide) : PySem.W.subIn K (.ref (T.exa e)) (.type "BaseException") = some true := (T.split e he).2.2.1
theorem ext (e : Er) (he : e ∈ es := by decide) : PySem.W.typeIn K (.ref (T.exa e)) = some (.type "type") := (T.split e he).2.2.2.1
theorem exm (e : Er) (he : e ∈ es := by decide) : PySem.W.exmOne K (.ref (T.exa e)) (.ref T.a_BankError) = some true := (T.split e he).2.2.2.2
end ErrsP

/-! ### two lists joined, whatever may be read of them -/
section
variable {X : Cx}
def rCatS (K : Frag) : R2 := fun x y H Q => ∃ l b xs zs, x = .ref l ∧ y = .ref b ∧ SqL K H l xs ∧ SqL K H b zs ∧ xs.length + zs.length ≤ sizeLine ∧ ∀ p, H p = none → Q (.ref p) (upd H p (.lst (xs ++ zs)))
theorem op_catS : OpR X (binaryOp .Add) (rCatS X.K) := by
  intro pins s σ H x y v u Q I rx ry h
  obtain ⟨l, b, xs, zs, e1, e2, hl, hb, hz, q⟩ := h
  subst e1 e2
  cases rx
  cases ry
  obtain ⟨i1, r1, p1, z1⟩ := I.list hl
  obtain ⟨i2, r2, p2, z2⟩ := I.list hb
  obtain ⟨⟨c1, d1, t1, w1⟩, n1, g1, k1, m1, j1⟩ := p1
  obtain ⟨⟨c2, d2, t2, w2⟩, n2, g2, k2, m2, j2⟩ := p2
  dsimp only at k1 m1 j1 k2 m2 j2
  subst k1 m1 j1 k2 m2 j2
  have l1 := r1.length
  have l2 := r2.length
  have fits : i1.toArray.size + i2.toArray.size ≤ sizeLine := by
    rw [List.size_toArray, List.size_toArray]
    omega
  have joined : i1.toArray ++ i2.toArray = (i1 ++ i2).toArray := by simp
  have meets := list_addW l b i1.toArray i2.toArray n1 n2 none none w1 w2 fits
  refine concat_meets (s := s) ⟨_, g1, rfl⟩ ⟨_, g2, rfl⟩ noFill_list_add seq_list_add
    PySem.F.slot_list_add PySem.F.entry_list_add (PySem.F.args_list_add_2 _ _) meets ⟨g1, g2, ?_⟩
  rw [joined]
  exact ⟨.ref _, _, I.lnew (t' := s.toks) (r1.append r2) (by rw [List.length_append]; exact hz), rfl, q _ I.fresh⟩
end

/-! ### a def that is handed the error which a suite holds, and tells its kind -/
section
variable {P : Program} {w : World} {K : Frag} {mg : Str → Option Value} {base : Heap}
structure KindsOk (P : Program) (w : World) (K : Frag) (mg : Str → Option Value) (base : Heap) (T : Errs K mg) (lv : Nat) (f : Addr) (fd : FuncData) : Prop where
  run : ∀ (A : Around) (outer : List Env) (s : Shared) (H : Hp) (args : Args) (us : List Value) (Q : VK) (p : Addr × Obj) (er : Er), L2H.RoomH lv A → L2H.PinOk outer H s p → Zc (.ref (T.exa er)) none p.2 → (∃ vs, p.2.data = .fields vs) →
    Env0 P w K mg base A outer s H → BindsTo s fd args ((["error"] : List Str).zip us) → Vals [.ref p.1] us → (∀ q, H q = none → Q (.ref q) (upd H q (.lst [.str er.nm]))) →
    codeAny (model P w) A (.call (.ref f) args) (CR CX0 outer P w H s Q E0) s
/-- isinstance of an error that every state bears -/
def rIsP (K : Frag) (D a : Addr) : List V → Hp → VK → Prop := fun xs H Q => ∃ (C : Addr) (b : Bool), xs = [.ref a, .ref C] ∧ PySem.W.kitOne K (.ref D) (.ref C) = some b ∧ Q (.bl b) H
theorem call_isP {X : Cx} {D : Addr} {p : Addr × Obj} (hp : p ∈ X.pn) (C : ExcC X.K D) (hz : Zc (.ref D) none p.2) (hf : ∃ vs, p.2.data = .fields vs) : CallR X (.builtin "isinstance") (rIsP X.K D p.1) := by
  intro pins s σ H xs us Q I r h
  obtain ⟨c, b, e1, e, q⟩ := h
  subst e1
  cases r with
  | cons rx rr =>
    cases rr with
    | cons rt rr2 =>
      cases rr2
      cases rx
      cases rt
      have hget := (I.pin p (List.mem_append.mpr (.inl hp))).1
      have J : PySem.W.InstAt s.heap p.1 p.2 D none := by
        obtain ⟨pa, oc, od, oda, osl⟩ := p
        obtain ⟨vs, hv⟩ := hf
        obtain ⟨h1, h2⟩ := hz
        dsimp only at h1 h2 hv hget ⊢
        subst h1 h2 hv
        exact ⟨hget, rfl, rfl, trivial⟩
      have kit := PySem.W.handS_kitx_exc C.hg C.hk C.hs C.hd C.ha C.hn C.ht C.hm (x := p.1) (ox := p.2)
      exact PySem.W.kia_one kit I.kIn J e (fun z => nomatch z) fun tk => ⟨.bl b, H, I.kept (t' := tk) fun _ _ z => z, rfl, q⟩
/-- such a def by its body -/
theorem kinds_of {T : Errs K mg} {lv : Nat} {f : Addr} {fd : FuncData} {st : Stmt} {N : List Str} (F : Fun K "_law_kinds" "_law_kinds" st f fd) (S : FnScope N ["error"] (defScope st))
    (hb : ∀ (cdv : Value) (A : Around) (outer : List Env) (s : Shared) (H : Hp) (Q : VK) (p : Addr × Obj) (er : Er), Zc (.ref (T.exa er)) none p.2 → (∃ vs, p.2.data = .fields vs) → (∀ q, H q = none → Q (.ref q) (upd H q (.lst [.str er.nm]))) →
      ∃ t, PSs (L2H.cxH CX0 P w K mg base N "_law_kinds" (defScope st) f cdv A outer s H E0 p) (defBody st) t ∧ t { nx := fun _ H' => Q .non H', rt := Q } (start N [.ref p.1]) H) :
    KindsOk P w K mg base T (lv + 1) f fd := by
  obtain ⟨oc, od, kV, doc, pm, an, cdv, ct, osl, rfl, lk, hcd⟩ := F.ex
  refine ⟨fun A outer s H args us Q p er hr hpin hz hf e0 hbi r hk => ?_⟩
  have KX : K.In s.heap := e0.mod.kin.keeps fun b o e => (e0.bs b o e).1
  have lim : s.heap.NoLimit := e0.mod.nolimit.keeps fun b o e => (e0.bs b o e).1
  have kinds : ∀ y ∈ (["error"] : List Str).zip us, (defScope st).names.lookup y.1 = some .local ∨ ((defScope st).names.lookup y.1 = some .cell ∧ ((cellsFrom (s.heap.objs.size + 1) (defScope st).names []).lookup y.1).isSome = true) := by
    intro ⟨n, v⟩ hy
    rcases S.par n (List.of_mem_zip hy).1 with z | z
    · exact .inl z
    · exact .inr ⟨z, PySem.W.cellsFrom_some _ _ _ (.inl z)⟩
  refine codeAny_call_function hr.depth (KX _ _ lk) rfl S.co S.gen rfl (PySem.W.codeRec_of KX hcd) (hbi _ _ _ _ ?_)
  refine wpAny_newFunctionEnv_cells S.kind kinds fun env he s1 x => ?_
  subst he
  refine ⟨lim.keeps x.toInCall.keep, codeAny_func ?_⟩
  obtain ⟨t, ht, hq⟩ := hb cdv A outer s H Q p er hz hf hk
  have I := L2H.inv_startH (CX := CX0) (E := E0) S hpin e0 (show ([.ref p.1] : List V).length = (["error"] : List Str).length from rfl) r x
  refine wpAny_mono (ht.run [] s1 _ H _ I hq) (fun fl s' hs => ?_) fun e s' hs => hs
  have fin : ∀ {σ' : L2.St} {H' : Hp} {v : V} {u : Value}, Inv _ [] σ' H' s' → RelV v u → Q v H' → CE outer P w H s Q u s' :=
    fun {σ' H' v u} (J : Inv (L2H.cxH CX0 P w K mg base N "_law_kinds" (defScope st) f cdv A outer s H E0 p) [] σ' H' s') rv qq => ⟨v, H', J.os, J.bare, J.base, J.hok, rv, qq⟩
  cases fl with
  | next =>
    obtain ⟨σ', H', J, qq⟩ := hs
    exact fin (v := V.non) (u := Value.none) J rfl qq
  | ret u =>
    obtain ⟨v, σ', H', J, rv, qq⟩ := hs
    exact fin J rv qq
  | brk =>
    obtain ⟨_, _, _, qq⟩ := hs
    exact qq.elim
  | cont =>
    obtain ⟨_, _, _, qq⟩ := hs
    exact qq.elim
end
section
variable {X : Cx} {CX : CXT} {f : Addr} {fd : FuncData} {lv : Nat} {x : Str} {q pos : Pos} {e : Expr} {te : TE}
/-- kinds(e), e the error that the suite holds -/
def tKinds {K : Frag} {mg : Str → Option Value} (T : Errs K mg) (cls : Value) (d : Option Addr) (a : Addr) (ta : TA) : TE := fun σ H Q => ta σ H fun vs H1 => vs = [.ref a] ∧ d = none ∧ ∃ er, cls = .ref (T.exa er) ∧ ∀ r, H1 r = none → Q (.ref r) (upd H1 r (.lst [.str er.nm]))
theorem pe_kinds {a : Addr} {oe : Obj} {cls : Value} {d : Option Addr} {P : Program} {w : World} {K : Frag} {mg : Str → Option Value} {base : Heap} {T : Errs K mg} {ta : TA} (F : KindsOk P w K mg base T lv f fd) (hz : Zc cls d oe) (hf : ∃ vs, oe.data = .fields vs) (hp : (a, oe) ∈ X.pn) (hr : L2H.RoomH lv X.A) (hg : Gl X x)
    (hm : X.mg x = some (.ref f)) (hk : PySem.W.keepIn K (.ref f) = true) (hb : Binds K fd ["error"] []) (ha : PA X [e] ta) (hP : X.prog = P := by rfl) (hw : X.w = w := by rfl) (hK : X.K = K := by rfl) (hM : X.mg = mg := by rfl) (hB : X.base = base := by rfl) (hdb : (x == ("__debug__" : Str)) = false := by decide)
    (he : starEach (e :: []) X.env = (false, eval e X.env) :: starEach [] X.env := by rfl) (hpl : (backTo pos (starEach [] X.env)).any (·.1) = false := by rfl) :
    PE X (.Call (.Name x q) [e] [] pos) (tKinds T cls d a ta) := by
  subst hP hw hK hM hB
  refine ⟨fun pins s σ H Q I h => ?_⟩
  refine wpAny_Call_Name_kw (ld_glob I hg hm ?_ hdb)
  refine PySem.W.callWith_K (h₀ := X.base) I.ok.mod.kin hk (thn (ha.run pos pins s σ H _ I h) fun us s1 ⟨vs, H1, I1, r, e1, e2, er, e3, k⟩ => ⟨I1.kIn, ?_⟩) he hpl
  subst e1 e2 e3
  have P1 := I1.pin (a, oe) (List.mem_append.mpr (.inl hp))
  have hl : us.length = 1 := r.length.symm
  have b := hb s1 us I1.kIn (by rw [List.append_nil]; exact hl)
  rw [List.append_nil] at b
  have hpin : L2H.PinOk X.stack H1 s1 (a, oe) := ⟨P1.1, P1.2.1, fun hm => (List.mem_cons.mp (I1.stkSub a hm)).elim P1.2.2.1 P1.2.2.2.1, P1.2.2.2.2⟩
  refine wpAny_call (codeAny_mono (F.run _ X.stack s1 H1 ⟨us, []⟩ us Q (a, oe) er hr hpin hz hf I1.env0 b r k) fun r' s' hq => ?_)
  cases r' with
  | error e => exact False.elim hq
  | ok fl =>
    cases fl with
    | ret u => exact I1.after hq
    | next => exact False.elim hq
    | brk => exact False.elim hq
    | cont => exact False.elim hq
end
/-! ### what may be compared -/
theorem sc_ii {a b : Int} : scal (.int a) (.int b) = true := rfl
theorem sc_ss {a b : Str} : scal (.str a) (.str b) = true := rfl
theorem sc_bb {a b : Bool} : scal (.bl a) (.bl b) = true := rfl
theorem sc_nn : scal .non .non = true := rfl
theorem sc_ni {a : Int} : scal .non (.int a) = true := rfl
theorem sc_in {a : Int} : scal (.int a) .non = true := rfl
theorem sc_sn {a : Str} : scal (.str a) .non = true := rfl
theorem sc_ns {a : Str} : scal .non (.str a) = true := rfl
theorem sc_bn {a : Bool} : scal (.bl a) .non = true := rfl
theorem sc_nb {a : Bool} : scal .non (.bl a) = true := rfl
theorem sc_is {a : Int} {b : Str} : scal (.int a) (.str b) = true := rfl
theorem sc_si {a : Int} {b : Str} : scal (.str b) (.int a) = true := rfl
theorem isi_int {K : Frag} {z : Int} {n : String} {b : Bool} {H : Hp} {Q : VK} (h : kitB "int" n = some b) (q : Q (.bl b) H) : rIsi K [.int z, .ty n] H Q := ⟨_, _, .type "int", .type n, b, rfl, .ty _, .base (.int _), kit_ty h, q⟩
theorem isi_bl {K : Frag} {z : Bool} {n : String} {b : Bool} {H : Hp} {Q : VK} (h : kitB "bool" n = some b) (q : Q (.bl b) H) : rIsi K [.bl z, .ty n] H Q := ⟨_, _, .type "bool", .type n, b, rfl, .ty _, .base (.bl _), kit_ty h, q⟩
theorem isi_str {K : Frag} {z : Str} {n : String} {b : Bool} {H : Hp} {Q : VK} (h : kitB "str" n = some b) (q : Q (.bl b) H) : rIsi K [.str z, .ty n] H Q := ⟨_, _, .type "str", .type n, b, rfl, .ty _, .base (.str _), kit_ty h, q⟩
theorem isi_tup {K : Frag} {a : Addr} {xs : List V} {n : String} {b : Bool} {H : Hp} {Q : VK} (e : H a = some (.tup xs)) (h : kitB "tuple" n = some b) (q : Q (.bl b) H) : rIsi K [.ref a, .ty n] H Q := ⟨_, _, .type "tuple", .type n, b, rfl, .ty _, .base (.tup e), kit_ty h, q⟩
theorem isi_lst {K : Frag} {a : Addr} {xs : List V} {n : String} {b : Bool} {H : Hp} {Q : VK} (e : H a = some (.lst xs)) (h : kitB "list" n = some b) (q : Q (.bl b) H) : rIsi K [.ref a, .ty n] H Q := ⟨_, _, .type "list", .type n, b, rfl, .ty _, .base (.lst e), kit_ty h, q⟩
theorem isi_non {K : Frag} {n : String} {b : Bool} {H : Hp} {Q : VK} (h : kitB "NoneType" n = some b) (q : Q (.bl b) H) : rIsi K [.non, .ty n] H Q := ⟨_, _, .type "NoneType", .type n, b, rfl, .ty _, .base .non, kit_ty h, q⟩
/-! ### in a comprehension's block, in an except suite: what is read is told by the outer K -/
theorem pe_bmK (K : Frag) {X : Cx} {T name id : String} {r : V → List V → Hp → VK → Prop} {o e : Expr} {es : List Expr} {to : TE} {t : TA} {apos cpos : Pos} (pa : PlainAttrs T) (slot : Slot T name id) (hty : typeOf (.builtin id) = pure (.type "method_descriptor")) (hm : MtR X id r) (ho : PE X o to) (ha : PA X (e :: es) t)
    (hbase : attributeBase o name X.env (eval o X.env) = eval o X.env := by rfl)
    (hfew : ((backTo cpos (starEach (e :: es) X.env)).all (fun x => !x.1) && (backToKw cpos (keywordEach [] X.env)).all (fun x => x.1.isSome)
      && decide ((e :: es).length + ([] : List Keyword).length + (if ([] : List Keyword).isEmpty then 0 else 1) < 30)) = true := by rfl)
    (hline : (apos.endLine == cpos.line) = true := by rfl) (hs : starEach (e :: es) X.env = (false, eval e X.env) :: starEach es X.env := by rfl) (hplain : (backTo cpos (starEach es X.env)).any (·.1) = false := by rfl) (h : X.K = K := by rfl) :
    PE X (.Call (.Attribute o name apos) (e :: es) [] cpos) (tBM K T r to t) := by subst h; exact pe_bm pa slot hty hm ho ha hbase hfew hline hs hplain
theorem call_lenK (K : Frag) {X : Cx} (h : X.K = K := by rfl) : CallR X (.builtin "len") (fun xs H Q => ∃ p ys, xs = [.ref p] ∧ (SqL K H p ys ∨ SqT K H p ys) ∧ Q (.int (ys.length : Nat)) H) := by subst h; exact call_len_seq
theorem ixl (K : Frag) {X : Cx} (h : X.K = K := by rfl) : IxR X (rIxL K) := by subst h; exact ix_list
theorem ixt (K : Frag) {X : Cx} (h : X.K = K := by rfl) : IxR X (rIxT K) := by subst h; exact ix_tup
theorem cdiv_1 {i : Int} : CDivW i 1 = True := eq_true ⟨by decide, by decide⟩
theorem cdiv_2 {i : Int} : CDivW i 2 = True := eq_true ⟨by decide, by decide⟩
theorem cdiv_3 {i : Int} : CDivW i 3 = True := eq_true ⟨by decide, by decide⟩
theorem cdiv_4 {i : Int} : CDivW i 4 = True := eq_true ⟨by decide, by decide⟩
theorem cdiv_5 {i : Int} : CDivW i 5 = True := eq_true ⟨by decide, by decide⟩
theorem cdiv_6 {i : Int} : CDivW i 6 = True := eq_true ⟨by decide, by decide⟩
theorem cdiv_7 {i : Int} : CDivW i 7 = True := eq_true ⟨by decide, by decide⟩
theorem cdiv_8 {i : Int} : CDivW i 8 = True := eq_true ⟨by decide, by decide⟩
theorem cdiv_9 {i : Int} : CDivW i 9 = True := eq_true ⟨by decide, by decide⟩
theorem cdiv_10 {i : Int} : CDivW i 10 = True := eq_true ⟨by decide, by decide⟩
theorem cdiv_11 {i : Int} : CDivW i 11 = True := eq_true ⟨by decide, by decide⟩
theorem cdiv_12 {i : Int} : CDivW i 12 = True := eq_true ⟨by decide, by decide⟩
theorem cdiv_13 {i : Int} : CDivW i 13 = True := eq_true ⟨by decide, by decide⟩
theorem cdiv_14 {i : Int} : CDivW i 14 = True := eq_true ⟨by decide, by decide⟩
theorem cdiv_16 {i : Int} : CDivW i 16 = True := eq_true ⟨by decide, by decide⟩
theorem cdiv_20 {i : Int} : CDivW i 20 = True := eq_true ⟨by decide, by decide⟩
theorem cdiv_30 {i : Int} : CDivW i 30 = True := eq_true ⟨by decide, by decide⟩
theorem cdiv_50 {i : Int} : CDivW i 50 = True := eq_true ⟨by decide, by decide⟩
theorem cdiv_60 {i : Int} : CDivW i 60 = True := eq_true ⟨by decide, by decide⟩
theorem cdiv_64 {i : Int} : CDivW i 64 = True := eq_true ⟨by decide, by decide⟩
theorem cdiv_100 {i : Int} : CDivW i 100 = True := eq_true ⟨by decide, by decide⟩
theorem cdiv_400 {i : Int} : CDivW i 400 = True := eq_true ⟨by decide, by decide⟩
theorem cdiv_1000 {i : Int} : CDivW i 1000 = True := eq_true ⟨by decide, by decide⟩
theorem cdiv_2000 {i : Int} : CDivW i 2000 = True := eq_true ⟨by decide, by decide⟩
theorem cdiv_10000 {i : Int} : CDivW i 10000 = True := eq_true ⟨by decide, by decide⟩
theorem cdiv_1000000 {i : Int} : CDivW i 1000000 = True := eq_true ⟨by decide, by decide⟩
theorem sz_0 : (0 ≤ sizeLine) = True := eq_true (by decide)
theorem szl_0 : (0 < sizeLine) = True := eq_true (by decide)
theorem sz_1 : (1 ≤ sizeLine) = True := eq_true (by decide)
theorem szl_1 : (1 < sizeLine) = True := eq_true (by decide)
theorem sz_2 : (2 ≤ sizeLine) = True := eq_true (by decide)
theorem szl_2 : (2 < sizeLine) = True := eq_true (by decide)
theorem sz_3 : (3 ≤ sizeLine) = True := eq_true (by decide)
theorem szl_3 : (3 < sizeLine) = True := eq_true (by decide)
theorem sz_4 : (4 ≤ sizeLine) = True := eq_true (by decide)
theorem szl_4 : (4 < sizeLine) = True := eq_true (by decide)
theorem sz_5 : (5 ≤ sizeLine) = True := eq_true (by decide)
theorem szl_5 : (5 < sizeLine) = True := eq_true (by decide)
theorem sz_6 : (6 ≤ sizeLine) = True := eq_true (by decide)
theorem szl_6 : (6 < sizeLine) = True := eq_true (by decide)
theorem sz_7 : (7 ≤ sizeLine) = True := eq_true (by decide)
theorem szl_7 : (7 < sizeLine) = True := eq_true (by decide)
theorem sz_8 : (8 ≤ sizeLine) = True := eq_true (by decide)
theorem szl_8 : (8 < sizeLine) = True := eq_true (by decide)
theorem sz_9 : (9 ≤ sizeLine) = True := eq_true (by decide)
theorem szl_9 : (9 < sizeLine) = True := eq_true (by decide)
theorem sz_10 : (10 ≤ sizeLine) = True := eq_true (by decide)
theorem szl_10 : (10 < sizeLine) = True := eq_true (by decide)
theorem sz_11 : (11 ≤ sizeLine) = True := eq_true (by decide)
theorem szl_11 : (11 < sizeLine) = True := eq_true (by decide)
theorem sz_12 : (12 ≤ sizeLine) = True := eq_true (by decide)
theorem szl_12 : (12 < sizeLine) = True := eq_true (by decide)
theorem sz_13 : (13 ≤ sizeLine) = True := eq_true (by decide)
theorem szl_13 : (13 < sizeLine) = True := eq_true (by decide)
theorem sz_14 : (14 ≤ sizeLine) = True := eq_true (by decide)
theorem szl_14 : (14 < sizeLine) = True := eq_true (by decide)
theorem sz_15 : (15 ≤ sizeLine) = True := eq_true (by decide)
theorem szl_15 : (15 < sizeLine) = True := eq_true (by decide)
theorem sz_16 : (16 ≤ sizeLine) = True := eq_true (by decide)
theorem szl_16 : (16 < sizeLine) = True := eq_true (by decide)
theorem sz_17 : (17 ≤ sizeLine) = True := eq_true (by decide)
theorem szl_17 : (17 < sizeLine) = True := eq_true (by decide)
theorem sz_18 : (18 ≤ sizeLine) = True := eq_true (by decide)
theorem szl_18 : (18 < sizeLine) = True := eq_true (by decide)
theorem sz_19 : (19 ≤ sizeLine) = True := eq_true (by decide)
theorem szl_19 : (19 < sizeLine) = True := eq_true (by decide)
theorem sz_20 : (20 ≤ sizeLine) = True := eq_true (by decide)
theorem szl_20 : (20 < sizeLine) = True := eq_true (by decide)
theorem sz_21 : (21 ≤ sizeLine) = True := eq_true (by decide)
theorem szl_21 : (21 < sizeLine) = True := eq_true (by decide)
theorem sz_22 : (22 ≤ sizeLine) = True := eq_true (by decide)
theorem szl_22 : (22 < sizeLine) = True := eq_true (by decide)
theorem sz_23 : (23 ≤ sizeLine) = True := eq_true (by decide)
theorem szl_23 : (23 < sizeLine) = True := eq_true (by decide)
theorem sz_24 : (24 ≤ sizeLine) = True := eq_true (by decide)
theorem szl_24 : (24 < sizeLine) = True := eq_true (by decide)
theorem sz_25 : (25 ≤ sizeLine) = True := eq_true (by decide)
theorem szl_25 : (25 < sizeLine) = True := eq_true (by decide)
theorem sz_26 : (26 ≤ sizeLine) = True := eq_true (by decide)
theorem szl_26 : (26 < sizeLine) = True := eq_true (by decide)
/-! ### small words -/
theorem ne_fresh {H : Hp} {p q : Addr} {o : HO} (h : upd H p o q = none) : q ≠ p := by
  intro e
  subst e
  rw [upd_same] at h
  cases h
theorem fresh_was {H : Hp} {p q : Addr} {o : HO} (h : upd H p o q = none) : H q = none := by
  have e := ne_fresh h
  rw [upd_ne e] at h
  exact h
theorem same_upd {H : Hp} {p : Addr} {o : HO} (h : H p = none) : Same H (upd H p o) := fun b u e => by
  rw [upd_ne (ne_of_none e h)]
  exact e
/-- behind a store to what was not there at first -/
theorem same_mut {H H' : Hp} {p : Addr} {o : HO} (h : H p = none) (k : Same H H') : Same H (upd H' p o) := fun b u e => by
  rw [upd_ne (ne_of_none e h)]
  exact k b u e
theorem same_fresh {H H' : Hp} {p : Addr} (k : Same H H') (h : H' p = none) : H p = none := k.free h
theorem same_tup {K : Frag} {H H' : Hp} {a : Addr} {xs : List V} (e : Same H H') (h : SqT K H a xs) : SqT K H' a xs := by
  rcases h with (h | ⟨o, h⟩) | h
  · exact .inl (.inl (e _ _ h))
  · exact .inl (.inr ⟨o, e _ _ h⟩)
  · exact .inr h
/-- a tuple stays where a list is written -/
theorem tup_keep {H : Hp} {r a : Addr} {xs ys zs : List V} (hr : H r = some (.tup ys)) (ha : H a = some (.lst xs)) : (upd H a (.lst zs)) r = some (.tup ys) := by
  rw [upd_ne (ne_of hr ha (by intro z; cases z))]
  exact hr
theorem bits64 {k : Int} (h1 : -(2 ^ 64) < k) (h2 : k < 2 ^ 64) : Builtin.Int.intBits k ≤ 64 := intBits_le_64 h1 h2
theorem bitsPow {k : Int} {n : Nat} (h0 : 0 < n) (h1 : -(2 ^ n) < k) (h2 : k < 2 ^ n) : Builtin.Int.intBits k ≤ n := by
  have z : k.natAbs < 2 ^ n := by
    have e : ((2 ^ n : Nat) : Int) = (2 : Int) ^ n := by simp
    omega
  unfold Builtin.Int.intBits
  split
  · omega
  · have := PySem.Flt.log2_lt_of h0 z
    omega
theorem bits_mono {i j : Int} (h : i.natAbs ≤ j.natAbs) : Builtin.Int.intBits i ≤ Builtin.Int.intBits j := by
  unfold Builtin.Int.intBits
  by_cases c : i = 0
  · rw [if_pos (beq_iff_eq.mpr c)]
    exact Nat.zero_le _
  · have hj : ¬ j = 0 := by omega
    rw [if_neg (fun z => hj (beq_iff_eq.mp z)), if_neg (fun z => c (beq_iff_eq.mp z))]
    have hi : i.natAbs ≠ 0 := by omega
    have hj' : j.natAbs ≠ 0 := by omega
    have z : i.natAbs.log2 ≤ j.natAbs.log2 := (Nat.le_log2 hj').mpr (Nat.le_trans (Nat.log2_self_le hi) h)
    omega
theorem mulX {i j : Int} {a b : Nat} (h1 : Builtin.Int.intBits i ≤ a) (h2 : Builtin.Int.intBits j ≤ b) (h : a + b ≤ 134217728 := by decide) : CMulX i j := by
  unfold CMulX
  omega
theorem ix_num {K : Frag} {a : Addr} {ns : List Int} {k : Int} {H : Hp} {Q : VK} (hS : SqL K H a (ns.map V.int)) (h : 0 ≤ k ∧ k < (ns.length : Int)) (q : Q (.int (ns.getD k.toNat 0)) H) : rIxL K (.ref a) (.int k) H Q := by
  refine ⟨a, _, k, _, rfl, rfl, hS, ?_, q⟩
  have e : (ns.map V.int)[k.toNat]? = some (V.int (ns.getD k.toNat 0)) := by
    rw [List.getElem?_map, List.getD_eq_getElem?_getD]
    have z : k.toNat < ns.length := by omega
    rw [List.getElem?_eq_getElem z]
    rfl
  exact at_of (j := k.toNat) (by omega) e
theorem ix_at {K : Frag} {a : Addr} {xs : List V} {k : Int} {v : V} {H : Hp} {Q : VK} (hS : SqL K H a xs) (h : 0 ≤ k) (e : xs[k.toNat]? = some v) (q : Q v H) : rIxL K (.ref a) (.int k) H Q :=
  ⟨a, xs, k, v, rfl, rfl, hS, at_of (j := k.toNat) (by omega) e, q⟩
theorem inV_ints {d : Int} : ∀ hs : List Int, inV (.int d) (hs.map V.int) = decide (d ∈ hs)
  | [] => by simp [inV]
  | x :: r => by
    have ih := inV_ints (d := d) r
    unfold inV at ih ⊢
    rw [List.map_cons, List.any_cons, ih]
    by_cases e : x = d
    · subst e; simp [eqV]
    · have e2 : ¬d = x := fun z => e z.symm
      simp [eqV, e, e2]
theorem flat_int (hs : List Int) : (hs.map V.int).all flatV = true := by
  rw [List.all_map]
  exact List.all_eq_true.mpr fun _ _ => rfl
theorem in_ints {K : Frag} {d : Int} {a : Addr} {hs : List Int} {H : Hp} {Q : VK} (hS : SqL K H a (hs.map V.int)) (q : Q (.bl (decide (d ∈ hs))) H) : rIn K false (.int d) (.ref a) H Q :=
  ⟨a, _, rfl, .inl hS, rfl, flat_int hs, by rw [inV_ints]; exact q⟩
theorem nin_ints {K : Frag} {d : Int} {a : Addr} {hs : List Int} {H : Hp} {Q : VK} (hS : SqL K H a (hs.map V.int)) (q : Q (.bl (!decide (d ∈ hs))) H) : rIn K true (.int d) (.ref a) H Q :=
  ⟨a, _, rfl, .inl hS, rfl, flat_int hs, by rw [inV_ints]; exact q⟩
/-- what is known of a number that a law draws -/
theorem num_in {ns : List Int} (hn : ∀ z ∈ ns, 0 ≤ z ∧ z < 10000000000000) (k : Nat) : 0 ≤ ns.getD k 0 ∧ ns.getD k 0 < 10000000000000 := by
  rw [List.getD_eq_getElem?_getD]
  cases e : ns[k]? with
  | none => exact ⟨by decide, by decide⟩
  | some z => exact hn z (List.mem_of_getElem? e)
theorem ix_sign {z : Str} {k : Int} {H : Hp} {Q : VK} (hz : z.length ≤ sizeLine) (h : 0 ≤ k ∧ k < (z.length : Int)) (q : ∀ c, z.cps.toList[k.toNat]? = some c → Q (.str ⟨#[c]⟩) H) : rIxS (.str z) (.int k) H Q := by
  have hl : k.toNat < z.cps.toList.length := by
    rw [Array.length_toList]
    show k.toNat < z.length
    omega
  have e : z.cps.toList[k.toNat]? = some z.cps.toList[k.toNat] := List.getElem?_eq_getElem hl
  refine ⟨z, k, _, rfl, rfl, hz, ?_, q _ e⟩
  unfold atI
  rw [show ixN z.cps.toList.length k = some k.toNat by unfold ixN; rw [if_pos h.1, if_pos (by omega)]]
  exact e
theorem ix_signc {z : Str} {k : Int} {c : Nat} {H : Hp} {Q : VK} (hz : z.length ≤ sizeLine) (h : 0 ≤ k) (e : z.cps.toList[k.toNat]? = some c) (q : Q (.str ⟨#[c]⟩) H) : rIxS (.str z) (.int k) H Q := by
  have hl : k.toNat < z.cps.toList.length := (List.getElem?_eq_some_iff.mp e).1
  refine ⟨z, k, c, rfl, rfl, hz, ?_, q⟩
  unfold atI
  rw [show ixN z.cps.toList.length k = some k.toNat by unfold ixN; rw [if_pos h, if_pos (by omega)]]
  exact e
theorem len_one (c : Nat) : (⟨#[c]⟩ : Str).length = 1 := rfl
theorem ref_num {ns : List Int} {i : Nat} {x : V} (h : (ns.map V.int)[i]? = some x) : ∃ z, ns[i]? = some z ∧ x = .int z := by
  rw [List.getElem?_map] at h
  cases e : ns[i]? with
  | none => rw [e] at h; cases h
  | some z => rw [e] at h; exact ⟨z, rfl, (Option.some.inj h).symm⟩
/-! ### one statement at a time -/
theorem seq_step {t u : TS} {D : Ends} {σ : L2.St} {H : Hp} (h : ∀ U : Ends → L2.St → Hp → Prop, U = u → t { D with nx := U D } σ H) : tSeq t u D σ H := h u rfl
theorem gseq_step {t u : TS} {D : Ends} {i : Nat} {x : V} {σ : L2.St} {H : Hp} (h : ∀ U : Ends → L2.St → Hp → Prop, U = u → t { D with nx := U D } (σ.set i (some x)) H) : gName i x σ H fun σ2 H2 => tSeq t u D σ2 H2 := h u rfl
/-- .. what stands between the two told -/
theorem seq_cut {t u : TS} {D : Ends} {σ : L2.St} {H : Hp} (M : L2.St → Hp → Prop) (h1 : ∀ U : L2.St → Hp → Prop, (∀ σ' H', M σ' H' → U σ' H') → t { D with nx := U } σ H) (h2 : ∀ σ' H', M σ' H' → u D σ' H') : tSeq t u D σ H := h1 (u D) h2
/-! ### a tuple taken apart -/
theorem gtup2 {K : Frag} {p : Addr} {x y : V} {g1 g2 : TG} {σ : L2.St} {H : Hp} {k : L2.St → Hp → Prop} (h : SqT K H p [x, y]) (q : g1 x σ H fun σ1 H1 => g2 y σ1 H1 k) (mono : ∀ v σ H, (∀ Q Q' : L2.St → Hp → Prop, (∀ a b, Q a b → Q' a b) → g1 v σ H Q → g1 v σ H Q') ∧ (∀ Q Q' : L2.St → Hp → Prop, (∀ a b, Q a b → Q' a b) → g2 v σ H Q → g2 v σ H Q')) : gTup K 2 (gCons g1 (gCons g2 gNil)) (.ref p) σ H k :=
  ⟨p, _, rfl, h, rfl, x, [y], rfl, (mono _ _ _).1 _ _ (fun σ1 H1 q1 => ⟨y, [], rfl, (mono _ _ _).2 _ _ (fun _ _ q2 => ⟨rfl, q2⟩) q1⟩) q⟩
theorem gtupN2 {K : Frag} {p : Addr} {x y : V} {i j : Nat} {σ : L2.St} {H : Hp} {k : L2.St → Hp → Prop} (h : SqT K H p [x, y]) (q : k ((σ.set i (some x)).set j (some y)) H) : gTup K 2 (gCons (gName i) (gCons (gName j) gNil)) (.ref p) σ H k :=
  ⟨p, _, rfl, h, rfl, x, [y], rfl, y, [], rfl, rfl, q⟩
theorem gtupN3 {K : Frag} {p : Addr} {x y z : V} {i j l : Nat} {σ : L2.St} {H : Hp} {k : L2.St → Hp → Prop} (h : SqT K H p [x, y, z]) (q : k (((σ.set i (some x)).set j (some y)).set l (some z)) H) : gTup K 3 (gCons (gName i) (gCons (gName j) (gCons (gName l) gNil))) (.ref p) σ H k :=
  ⟨p, _, rfl, h, rfl, x, [y, z], rfl, y, [z], rfl, z, [], rfl, rfl, q⟩
/-! ### lists of texts, lists of ints compared -/
theorem dp_strs {K : Frag} {H : Hp} : ∀ xs : List Str, DpAll K H (xs.map V.str) (xs.map PyData.str)
  | [] => .nil
  | x :: r => .cons (.str x) (dp_strs r)
theorem dp_ints {K : Frag} {H : Hp} : ∀ xs : List Int, DpAll K H (xs.map V.int) (xs.map PyData.int)
  | [] => .nil
  | x :: r => .cons (.int x) (dp_ints r)
theorem eqv_strs : ∀ xs ys : List Str, PyData.eqvAll (xs.map PyData.str) (ys.map PyData.str) = decide (xs = ys)
  | [], [] => by simp [PyData.eqvAll]
  | [], y :: ys => by simp [PyData.eqvAll]
  | x :: xs, [] => by simp [PyData.eqvAll]
  | x :: xs, y :: ys => by
    have ih := eqv_strs xs ys
    simp only [List.map_cons, PyData.eqvAll, PyData.eqv, ih, List.cons.injEq]
    by_cases e : x = y <;> simp [e]
theorem eqv_ints : ∀ xs ys : List Int, PyData.eqvAll (xs.map PyData.int) (ys.map PyData.int) = decide (xs = ys)
  | [], [] => by simp [PyData.eqvAll]
  | [], y :: ys => by simp [PyData.eqvAll]
  | x :: xs, [] => by simp [PyData.eqvAll]
  | x :: xs, y :: ys => by
    have ih := eqv_ints xs ys
    simp only [List.map_cons, PyData.eqvAll, PyData.eqv, ih, List.cons.injEq]
    by_cases e : x = y <;> simp [e]
theorem lay_strs : ∀ xs : List Str, xs.all PyData.strOk = true → PyData.canLayAll0 (xs.map PyData.str) = true
  | [], _ => rfl
  | x :: r, h => by
    rw [List.all_cons, Bool.and_eq_true] at h
    simp only [List.map_cons, PyData.canLayAll0, PyData.canLay0, h.1, lay_strs r h.2, Bool.and_self]
theorem lay_ints : ∀ xs : List Int, PyData.canLayAll0 (xs.map PyData.int) = true
  | [] => rfl
  | x :: r => by simp only [List.map_cons, PyData.canLayAll0, PyData.canLay0, lay_ints r, Bool.and_self]
theorem flat_strs : ∀ xs : List Str, PyData.depthAll (xs.map PyData.str) = 0
  | [] => rfl
  | x :: r => by simp only [List.map_cons, PyData.depthAll, PyData.depth, flat_strs r, Nat.max_self]
theorem flat_ints : ∀ xs : List Int, PyData.depthAll (xs.map PyData.int) = 0
  | [] => rfl
  | x :: r => by simp only [List.map_cons, PyData.depthAll, PyData.depth, flat_ints r, Nat.max_self]
theorem shaped_strs {xs : List Str} (h : xs.all PyData.strOk = true) : SeqAt.shaped (.list (xs.map PyData.str)) = true := by
  unfold SeqAt.shaped
  simp only [PyData.canLay0, lay_strs xs h, PyData.depth, flat_strs, Bool.true_and]
  decide
theorem shaped_ints {xs : List Int} : SeqAt.shaped (.list (xs.map PyData.int)) = true := by
  unfold SeqAt.shaped
  simp only [PyData.canLay0, lay_ints xs, PyData.depth, flat_ints, Bool.true_and]
  decide
theorem ne_strs {K : Frag} {H : Hp} {p q : Addr} {xs ys : List Str} {Q : VK} (hp : SqL K H p (xs.map V.str)) (hq : SqL K H q (ys.map V.str)) (ox : xs.all PyData.strOk = true) (oy : ys.all PyData.strOk = true) (k : Q (.bl (!decide (xs = ys))) H) : rNeD K (.ref p) (.ref q) H Q :=
  ⟨_, _, .lst hp (dp_strs xs), .lst hq (dp_strs ys), shaped_strs ox, shaped_strs oy, by simp only [PyData.eqv, eqv_strs]; exact k⟩
theorem eq_strs {K : Frag} {H : Hp} {p q : Addr} {xs ys : List Str} {Q : VK} (hp : SqL K H p (xs.map V.str)) (hq : SqL K H q (ys.map V.str)) (ox : xs.all PyData.strOk = true) (oy : ys.all PyData.strOk = true) (k : Q (.bl (decide (xs = ys))) H) : rEqD K (.ref p) (.ref q) H Q :=
  ⟨_, _, .lst hp (dp_strs xs), .lst hq (dp_strs ys), shaped_strs ox, shaped_strs oy, by simp only [PyData.eqv, eqv_strs]; exact k⟩
theorem ne_ints {K : Frag} {H : Hp} {p q : Addr} {xs ys : List Int} {Q : VK} (hp : SqL K H p (xs.map V.int)) (hq : SqL K H q (ys.map V.int)) (k : Q (.bl (!decide (xs = ys))) H) : rNeD K (.ref p) (.ref q) H Q :=
  ⟨_, _, .lst hp (dp_ints xs), .lst hq (dp_ints ys), shaped_ints, shaped_ints, by simp only [PyData.eqv, eqv_ints]; exact k⟩
theorem eq_ints {K : Frag} {H : Hp} {p q : Addr} {xs ys : List Int} {Q : VK} (hp : SqL K H p (xs.map V.int)) (hq : SqL K H q (ys.map V.int)) (k : Q (.bl (decide (xs = ys))) H) : rEqD K (.ref p) (.ref q) H Q :=
  ⟨_, _, .lst hp (dp_ints xs), .lst hq (dp_ints ys), shaped_ints, shaped_ints, by simp only [PyData.eqv, eqv_ints]; exact k⟩
/-- kinds as a law compares them -/
theorem ne_kind {K : Frag} {H : Hp} {p q : Addr} {x : Str} {Q : VK} (hp : H p = some (.lst [.str x])) (hq : H q = some (.lst [.str x])) (ox : PyData.strOk x = true) (k : Q (.bl false) H) : rNeD K (.ref p) (.ref q) H Q :=
  ne_strs (xs := [x]) (ys := [x]) (SqL.of hp) (SqL.of hq) (by simp [ox]) (by simp [ox]) (by simpa using k)
theorem shaped_of {d : PyData} (h1 : PyData.canLay0 d = true) (h2 : d.depth ≤ 64) : SeqAt.shaped d = true := by
  unfold SeqAt.shaped
  rw [h1, Bool.true_and]
  exact decide_eq_true h2
/-- two that say the same -/
theorem ne_same {K : Frag} {H : Hp} {x y : V} {d : PyData} {Q : VK} (hx : Dp K H x d) (hy : Dp K H y d) (hs : SeqAt.shaped d = true) (he : PyData.eqv d d = true) (k : Q (.bl false) H) : rNeD K x y H Q :=
  ⟨d, d, hx, hy, hs, hs, by rw [he]; exact k⟩
theorem eq_same {K : Frag} {H : Hp} {x y : V} {d : PyData} {Q : VK} (hx : Dp K H x d) (hy : Dp K H y d) (hs : SeqAt.shaped d = true) (he : PyData.eqv d d = true) (k : Q (.bl true) H) : rEqD K x y H Q :=
  ⟨d, d, hx, hy, hs, hs, by rw [he]; exact k⟩
theorem dp_3 {K : Frag} {H : Hp} {t : Addr} {a b c : Int} (ht : SqT K H t [.int a, .int b, .int c]) : Dp K H (.ref t) (.tuple [.int a, .int b, .int c]) :=
  .tup ht (.cons (.int _) (.cons (.int _) (.cons (.int _) .nil)))
theorem dp_pair {K : Frag} {H : Hp} {t l : Addr} {x y : V} {d e : PyData} (ht : SqT K H t [x, .ref l]) (hx : Dp K H x d) (hl : SqL K H l [y]) (hy : Dp K H y e) : Dp K H (.ref t) (.tuple [d, .list [e]]) :=
  .tup ht (.cons hx (.cons (.lst hl (.cons hy .nil)) .nil))
/-! ### loops -/
theorem tfor_range1 {ta : TA} {g : TG} {tb : TS} {D : Ends} {σ : L2.St} {H : Hp} {n : Int} (ha : ∀ Q : List V → Hp → Prop, Q [.int n] H → ta σ H Q) (hn : -1000000 ≤ n ∧ n ≤ 1000000) (Pv : Nat → L2.St → Hp → Prop) (h0 : Pv 0 σ H)
    (hs : ∀ (i : Nat) σ' H', (i : Int) < n → Pv i σ' H' → g (.int (i : Int)) σ' H' fun σ2 H2 => tb { D with nx := Pv (i + 1), ct := Pv (i + 1), bk := D.nx } σ2 H2) (hd : ∀ σ' H', Pv n.toNat σ' H' → D.nx σ' H') : tFor (iRng1 ta) g tb D σ H :=
  ha _ ⟨n, rfl, by omega, by omega, for_range (lo := 0) (n := n.toNat) Pv h0 (fun i σ' H' hi p => by
    rw [Int.zero_add]
    exact hs i σ' H' (by omega) p) hd⟩
theorem tfor_range2 {ta : TA} {g : TG} {tb : TS} {D : Ends} {σ : L2.St} {H : Hp} {lo hi : Int} (ha : ∀ Q : List V → Hp → Prop, Q [.int lo, .int hi] H → ta σ H Q) (hn : -1000000 ≤ lo ∧ lo ≤ 1000000 ∧ -1000000 ≤ hi ∧ hi ≤ 1000000) (Pv : Nat → L2.St → Hp → Prop) (h0 : Pv 0 σ H)
    (hs : ∀ (i : Nat) σ' H', lo + (i : Int) < hi → Pv i σ' H' → g (.int (lo + (i : Int))) σ' H' fun σ2 H2 => tb { D with nx := Pv (i + 1), ct := Pv (i + 1), bk := D.nx } σ2 H2) (hd : ∀ σ' H', Pv (hi - lo).toNat σ' H' → D.nx σ' H') : tFor (iRng2 ta) g tb D σ H :=
  ha _ ⟨lo, hi, rfl, ⟨by omega, by omega, by omega, by omega⟩, for_range (lo := lo) (n := (hi - lo).toNat) Pv h0 (fun i σ' H' hi p => hs i σ' H' (by omega) p) hd⟩
theorem tfor_lvar {K : Frag} {j : Nat} {a : Addr} {xs : List V} {g : TG} {tb : TS} {D : Ends} {σ : L2.St} {H : Hp} (hj : σ[j]? = some (some (.ref a))) (hS : SqL K H a xs) (Pv : Nat → L2.St → Hp → Prop) (h0 : Pv 0 σ H) (hl : ∀ i σ' H', i ≤ xs.length → Pv i σ' H' → SqL K H' a xs)
    (hs : ∀ i x σ' H', xs[i]? = some x → Pv i σ' H' → g x σ' H' fun σ2 H2 => tb { D with nx := Pv (i + 1), ct := Pv (i + 1), bk := D.nx } σ2 H2) (hd : ∀ σ' H', Pv xs.length σ' H' → D.nx σ' H') : tFor (iList K (tVar j)) g tb D σ H :=
  ⟨_, hj, a, rfl, ⟨xs, hS⟩, for_list (xs := xs) Pv h0 hl hs hd⟩
theorem tfor_five {K : Frag} {j : Nat} {n : Int} {a : Addr} {xs : List V} {g : TG} {tb : TS} {D : Ends} {σ : L2.St} {H : Hp} (hj : σ[j]? = some (some (.ref a))) (hS : SqL K H a xs) (hz : xs.length ≤ 100000)
    (h : ∀ b H1, Same H H1 → H1 b = some (.lst (.int n :: xs)) → H b = none → ∃ Pv : Nat → L2.St → Hp → Prop, Pv 0 σ H1 ∧ (∀ i σ' H', i ≤ (V.int n :: xs).length → Pv i σ' H' → SqL K H' b (.int n :: xs)) ∧
    (∀ i x σ' H', (V.int n :: xs)[i]? = some x → Pv i σ' H' → g x σ' H' fun σ2 H2 => tb { D with nx := Pv (i + 1), ct := Pv (i + 1), bk := D.nx } σ2 H2) ∧ (∀ σ' H', Pv (V.int n :: xs).length σ' H' → D.nx σ' H')) :
    tFor (iList K (tOp (rCatS K) (tLst (tCons (tC (.int n)) tNil)) (tVar j))) g tb D σ H := by
  refine ⟨by show 1 ≤ sizeLine; decide, fun p hp => ⟨_, hj, p, a, [.int n], xs, rfl, rfl, SqL.of upd_same, (same_upd hp).seq hS, ?_, fun b hb => ?_⟩⟩
  · show 1 + xs.length ≤ sizeLine
    exact Nat.le_trans (show 1 + xs.length ≤ 100001 by omega) (by decide)
  · have s2 : Same H (upd (upd H p (.lst [.int n])) b (.lst ([.int n] ++ xs))) := (same_upd hp).trans (same_upd hb)
    obtain ⟨Pv, h0, hl, hs, hd⟩ := h b _ s2 upd_same (fresh_was hb)
    exact ⟨b, rfl, ⟨_, SqL.of upd_same⟩, for_list (xs := V.int n :: xs) Pv h0 hl hs hd⟩
theorem tfor_list {K : Frag} {tl : TE} {g : TG} {tb : TS} {D : Ends} {σ : L2.St} {H : Hp}
    (h : tl σ H fun x H1 => ∃ a xs, x = .ref a ∧ SqL K H1 a xs ∧ ∃ Pv : Nat → L2.St → Hp → Prop, Pv 0 σ H1 ∧ (∀ i σ' H', i ≤ xs.length → Pv i σ' H' → SqL K H' a xs) ∧
      (∀ i x σ' H', xs[i]? = some x → Pv i σ' H' → g x σ' H' fun σ2 H2 => tb { D with nx := Pv (i + 1), ct := Pv (i + 1), bk := D.nx } σ2 H2) ∧ ∀ σ' H', Pv xs.length σ' H' → D.nx σ' H')
    (mono : ∀ Q Q' : VK, (∀ v H', Q v H' → Q' v H') → tl σ H Q → tl σ H Q') : tFor (iList K tl) g tb D σ H :=
  mono _ _ (fun v H' ⟨a, xs, e, hS, Pv, h0, hl, hs, hd⟩ => ⟨a, e, ⟨xs, hS⟩, for_list (xs := xs) Pv h0 hl hs hd⟩) h
theorem tfor_disp {K : Frag} {ta : TA} (vs : List V) {g : TG} {tb : TS} {D : Ends} {σ : L2.St} {H : Hp} (hz : vs.length ≤ 1000) (ha : ∀ Q : List V → Hp → Prop, (∀ H1, Same H H1 → Q vs H1) → ta σ H Q)
    (h : ∀ b H1, Same H H1 → H1 b = some (.lst vs) → H b = none → ∃ Pv : Nat → L2.St → Hp → Prop, Pv 0 σ H1 ∧ (∀ i σ' H', Pv i σ' H' → SqL K H' b vs) ∧
    (∀ i x σ' H', vs[i]? = some x → Pv i σ' H' → g x σ' H' fun σ2 H2 => tb { D with nx := Pv (i + 1), ct := Pv (i + 1), bk := D.nx } σ2 H2) ∧ (∀ σ' H', Pv vs.length σ' H' → D.nx σ' H')) :
    tFor (iList K (tLst ta)) g tb D σ H :=
  ha _ fun H1 s1 => ⟨Nat.le_trans hz (by decide), fun p hp => by
    obtain ⟨Pv, h0, hl, hs, hd⟩ := h p _ (s1.trans (same_upd hp)) upd_same (s1.free hp)
    exact ⟨p, rfl, ⟨_, SqL.of upd_same⟩, for_list (xs := vs) Pv h0 (fun i σ' H' _ => hl i σ' H') hs hd⟩⟩
/-! ### any walk -/
def ForGoal (J : It) (g : TG) (tb : TS) (D : Ends) (σ : L2.St) (H : Hp) : Prop :=
  ∃ W : Nat → Nat → L2.St → Hp → Prop, (∃ m, W 0 m σ H) ∧ ∀ i m σ H, W i m σ H →
      (J.stop i H ∧ D.nx σ H) ∨ (J.go i H ∧ ∃ N : L2.St → Hp → Prop, (∀ σ' H', N σ' H' → ∃ m', m' < m ∧ W (i + 1) m' σ' H') ∧ ∀ x H', J.yld i H x H' → g x σ H' fun σ2 H2 => tb { D with nx := N, ct := N, bk := D.nx } σ2 H2)
theorem tFor_eq {wi : TI} {g : TG} {tb : TS} {D : Ends} {σ : L2.St} {H : Hp} : tFor wi g tb D σ H = wi σ H fun J H1 => ForGoal J g tb D σ H1 := rfl
theorem for_go {J : It} {n : Nat} {G : Hp → Prop} {Y : Nat → Hp → V → Hp → Prop} (w : Walk J n G Y) {g : TG} {tb : TS} {D : Ends} {σ : L2.St} {H : Hp} (Pv : Nat → L2.St → Hp → Prop) (h0 : Pv 0 σ H) (hG : ∀ i σ H, i ≤ n → Pv i σ H → G H)
    (hs : ∀ i x σ H H', i < n → Pv i σ H → Y i H x H' → g x σ H' fun σ2 H2 => tb { D with nx := Pv (i + 1), ct := Pv (i + 1), bk := D.nx } σ2 H2) (hd : ∀ σ H, Pv n σ H → D.nx σ H) : ForGoal J g tb D σ H := for_it w Pv h0 hG hs hd
theorem for_rng {lo : Int} {n : Nat} {g : TG} {tb : TS} {D : Ends} {σ : L2.St} {H : Hp} (Pv : Nat → L2.St → Hp → Prop) (h0 : Pv 0 σ H)
    (hs : ∀ (i : Nat) σ H, i < n → Pv i σ H → g (.int (lo + (i : Int))) σ H fun σ2 H2 => tb { D with nx := Pv (i + 1), ct := Pv (i + 1), bk := D.nx } σ2 H2) (hd : ∀ σ H, Pv n σ H → D.nx σ H) : ForGoal (Itr lo n) g tb D σ H := for_range Pv h0 hs hd
theorem for_rng0 {n : Nat} {g : TG} {tb : TS} {D : Ends} {σ : L2.St} {H : Hp} (Pv : Nat → L2.St → Hp → Prop) (h0 : Pv 0 σ H)
    (hs : ∀ (i : Nat) σ H, i < n → Pv i σ H → g (.int (i : Int)) σ H fun σ2 H2 => tb { D with nx := Pv (i + 1), ct := Pv (i + 1), bk := D.nx } σ2 H2) (hd : ∀ σ H, Pv n σ H → D.nx σ H) : ForGoal (Itr 0 n) g tb D σ H :=
  for_range Pv h0 (fun i σ H hi p => by rw [Int.zero_add]; exact hs i σ H hi p) hd
theorem for_lst {K : Frag} {a : Addr} (xs : List V) {g : TG} {tb : TS} {D : Ends} {σ : L2.St} {H : Hp} (Pv : Nat → L2.St → Hp → Prop) (h0 : Pv 0 σ H) (hl : ∀ i σ H, Pv i σ H → SqL K H a xs)
    (hs : ∀ (i : Nat) x σ H, xs[i]? = some x → Pv i σ H → g x σ H fun σ2 H2 => tb { D with nx := Pv (i + 1), ct := Pv (i + 1), bk := D.nx } σ2 H2) (hd : ∀ σ H, Pv xs.length σ H → D.nx σ H) : ForGoal (Itl K a) g tb D σ H :=
  for_list Pv h0 (fun i σ H _ p => hl i σ H p) hs hd
theorem for_zp {K : Frag} {a b : Addr} (xs ys : List V) (n : Nat) (hn : n = min xs.length ys.length) {g : TG} {tb : TS} {D : Ends} {σ : L2.St} {H : Hp} (Pv : Nat → L2.St → Hp → Prop) (h0 : Pv 0 σ H) (hG : ∀ i σ H, Pv i σ H → SqL K H a xs ∧ SqL K H b ys)
    (hs : ∀ (i : Nat) x y (T : Addr) σ H, i < n → xs[i]? = some x → ys[i]? = some y → Pv i σ H → H T = none → g (.ref T) σ (upd H T (.tup [x, y])) fun σ2 H2 => tb { D with nx := Pv (i + 1), ct := Pv (i + 1), bk := D.nx } σ2 H2) (hd : ∀ σ H, Pv n σ H → D.nx σ H) : ForGoal (Itz K a b) g tb D σ H :=
  for_go (walk_zip hn) Pv h0 (fun i σ H _ p => hG i σ H p) (fun i v σ H H' hi p y => by obtain ⟨T, x, y, rfl, hT, rfl, hx, hy⟩ := y; exact hs i x y T σ H hi hx hy p hT) hd
theorem for_en {K : Frag} {a : Addr} (xs : List V) {g : TG} {tb : TS} {D : Ends} {σ : L2.St} {H : Hp} (Pv : Nat → L2.St → Hp → Prop) (h0 : Pv 0 σ H) (hG : ∀ i σ H, Pv i σ H → SqL K H a xs)
    (hs : ∀ (i : Nat) x (T : Addr) σ H, xs[i]? = some x → Pv i σ H → H T = none → g (.ref T) σ (upd H T (.tup [.int (i : Int), x])) fun σ2 H2 => tb { D with nx := Pv (i + 1), ct := Pv (i + 1), bk := D.nx } σ2 H2) (hd : ∀ σ H, Pv xs.length σ H → D.nx σ H) : ForGoal (Ite K a) g tb D σ H :=
  for_go walk_enum Pv h0 (fun i σ H _ p => hG i σ H p) (fun i v σ H H' hi p y => by obtain ⟨T, x, y, rfl, hT, rfl, hx, hy⟩ := y; cases hx; exact hs i y T σ H hy p hT) hd
/-- the law's own loop, over [n] + script -/
theorem for_cells {K : Frag} {H0 : Hp} {n : Int} {b : Addr} {ns : List Int} {g : TG} {tb : TS} {D : Ends} {σ : L2.St} (hb : H0 b = some (.lst (.int n :: ns.map V.int))) (hn : Builtin.Int.intBits n ≤ 64) (hz : ∀ z ∈ ns, Builtin.Int.intBits z ≤ 1048576) (J : L2.St → Hp → Prop) (h0 : J σ H0) (hl : ∀ σ H, J σ H → Same H0 H)
    (hs : ∀ z σ H, Builtin.Int.intBits z ≤ 1048576 → J σ H → g (.int z) σ H fun σ2 H2 => tb { D with nx := J, ct := J, bk := D.nx } σ2 H2) (hd : ∀ σ H, J σ H → D.nx σ H) : ForGoal (Itl K b) g tb D σ H0 := by
  refine for_lst (.int n :: ns.map V.int) (fun _ => J) h0 (fun _ σ H j => SqL.of (hl σ H j _ _ hb)) (fun i x σ H e j => ?_) hd
  cases i with
  | zero => cases e; exact hs n σ H (Nat.le_trans hn (by decide)) j
  | succ i =>
    obtain ⟨z, e1, rfl⟩ := ref_num (ns := ns) (i := i) e
    exact hs z σ H (hz z (List.mem_of_getElem? e1)) j
theorem tfor_cells {K : Frag} {j : Nat} {n : Int} {a : Addr} {ns : List Int} {g : TG} {tb : TS} {D : Ends} {σ : L2.St} {H0 : Hp} (hj : σ[j]? = some (some (.ref a))) (hS : SqL K H0 a (ns.map V.int)) (hz : ns.length ≤ 63)
    (h : ∀ b H1, Same H0 H1 → H1 b = some (.lst (.int n :: ns.map V.int)) → ForGoal (Itl K b) g tb D σ H1) :
    tFor (iList K (tOp (rCatS K) (tLst (tCons (tC (.int n)) tNil)) (tVar j))) g tb D σ H0 := by
  refine ⟨by show 1 ≤ sizeLine; decide, fun p hp => ⟨_, hj, p, a, [.int n], ns.map V.int, rfl, rfl, SqL.of upd_same, (same_upd hp).seq hS, ?_, fun b hb => ⟨b, rfl, ⟨_, SqL.of upd_same⟩, h b _ ((same_upd hp).trans (same_upd hb)) upd_same⟩⟩⟩
  rw [List.length_map]
  exact Nat.le_trans (show 1 + ns.length ≤ 100 by omega) (by decide)
theorem for_tp {K : Frag} {a : Addr} (xs : List V) {g : TG} {tb : TS} {D : Ends} {σ : L2.St} {H : Hp} (Pv : Nat → L2.St → Hp → Prop) (h0 : Pv 0 σ H) (hl : ∀ i σ H, Pv i σ H → SqT K H a xs)
    (hs : ∀ (i : Nat) x σ H, xs[i]? = some x → Pv i σ H → g x σ H fun σ2 H2 => tb { D with nx := Pv (i + 1), ct := Pv (i + 1), bk := D.nx } σ2 H2) (hd : ∀ σ H, Pv xs.length σ H → D.nx σ H) : ForGoal (Itt K a) g tb D σ H :=
  for_tup Pv h0 (fun i σ H _ p => hl i σ H p) hs hd
theorem while_cps {c : TT} {tb : TS} {D : Ends} {σ : L2.St} {H : Hp} (Pv : L2.St → Hp → Prop) (μ : L2.St → Hp → Nat) (h0 : Pv σ H)
    (hs : ∀ σ' H', Pv σ' H' → ∀ U : Bool → Hp → Prop, (∀ H1, tb { D with nx := fun σ2 H2 => Pv σ2 H2 ∧ μ σ2 H2 < μ σ' H', ct := fun σ2 H2 => Pv σ2 H2 ∧ μ σ2 H2 < μ σ' H', bk := D.nx } σ' H1 → U true H1) → (∀ H1, D.nx σ' H1 → U false H1) → c σ' H' U) : tWhile c tb D σ H := by
  refine ⟨fun m σ H => m = μ σ H ∧ Pv σ H, ⟨_, rfl, h0⟩, ?_⟩
  rintro m σ H ⟨rfl, p⟩
  refine hs σ H p _ (fun H1 h => ?_) (fun H1 h => ?_)
  · show if true = true then _ else _
    rw [if_pos rfl]
    exact ⟨_, fun σ' H' ⟨p', l⟩ => ⟨_, l, rfl, p'⟩, h⟩
  · show if false = true then _ else _
    rw [if_neg (by decide)]
    exact h
def LcGoal (J : It) (g : TG) (tt : TT) (te : TE) (vs : List Nat) (σ : L2.St) (H1 : Hp) (Q : VK) : Prop := ∀ D, H1 D = none → ∃ W : Nat → Nat → Hp → Prop, (∃ m, W 0 m (upd H1 D (.lst []))) ∧ ∀ i m H, W i m H →
  (J.stop i H ∧ Q (.ref D) H) ∨ (J.go i H ∧ ∃ Nx : Hp → Prop, (∀ H', Nx H' → ∃ m', m' < m ∧ W (i + 1) m' H') ∧ ∀ x H', J.yld i H x H' → g x (wipe σ vs) H' fun σ2 H2 => wipe σ2 vs = wipe σ vs ∧ tt σ2 H2 fun b H3 =>
    if b = true then te σ2 H3 fun y H4 => ∃ acc, H4 D = some (.lst acc) ∧ acc.length < sizeLine ∧ Nx (upd H4 D (.lst (acc ++ [y]))) else Nx H3)
theorem tLc_eq {wi : TI} {g : TG} {tt : TT} {te : TE} {vs : List Nat} {σ : L2.St} {H : Hp} {Q : VK} : tLc wi g tt te vs σ H Q = wi σ H fun J H1 => LcGoal J g tt te vs σ H1 Q := rfl
/-- a comprehension without a test; what is told of the i-th item is told in a heap that only grows -/
theorem lc_go {J : It} {n : Nat} {G : Hp → Prop} {Y : Nat → Hp → V → Hp → Prop} (w : Walk J n G Y) {g : TG} {te : TE} {vs : List Nat} {σ : L2.St} {H1 : Hp} {Q : VK} (R : Nat → V → Hp → Prop) (hn : n < sizeLine)
    (hR : ∀ i y H H' D, H1 D = none → (∃ xs, H D = some (.lst xs)) → Same H1 H → R i y H → (∀ b o, b ≠ D → H b = some o → H' b = some o) → R i y H') (hG : ∀ H, Same H1 H → G H)
    (hs : ∀ i x H H' D (U : VK), i < n → H1 D = none → (∃ xs, H D = some (.lst xs)) → Same H1 H → Y i H x H' → (∀ y H4, R i y H4 → Same H H4 → U y H4) → g x (wipe σ vs) H' fun σ2 H2 => wipe σ2 vs = wipe σ vs ∧ te σ2 H2 U)
    (hd : ∀ p ys H, H1 p = none → Same H1 H → ys.length = n → (∀ i y, ys[i]? = some y → R i y H) → H p = some (.lst ys) → Q (.ref p) H) : LcGoal J g tYes te vs σ H1 Q := by
  intro D hD
  refine lc_it w (Pv := fun i H => Same H1 H ∧ ∃ ys : List V, H D = some (.lst ys) ∧ ys.length = i ∧ ∀ (j : Nat) y, ys[j]? = some y → R j y H) ⟨same_upd hD, [], upd_same, rfl, fun j y e => by simp at e⟩ (fun i H hi p => hG H p.1) ?_ ?_
  · rintro i x H H' hi ⟨s1, ys, hy, hl, hr⟩ y
    refine hs i x H H' D _ hi hD ⟨_, hy⟩ s1 y fun y2 H4 r s2 => ?_
    have g0 : ∀ b o, b ≠ D → H b = some o → (upd H4 D (HO.lst (ys ++ [y2]))) b = some o := fun b o hb e => by rw [upd_ne hb]; exact s2 _ _ e
    refine ⟨ys, s2 _ _ hy, by omega, fun b o e => ?_, ys ++ [y2], upd_same, by simp [hl], fun j y3 e => ?_⟩
    · have hb : b ≠ D := ne_of_none e hD
      rw [upd_ne hb]
      exact s2 _ _ (s1 _ _ e)
    · rcases Nat.lt_or_ge j ys.length with hj | hj
      · rw [List.getElem?_append_left hj] at e
        exact hR _ _ H _ D hD ⟨_, hy⟩ s1 (hr _ _ e) g0
      · have hj2 : j = i := by
          have z := (List.getElem?_eq_some_iff.mp e).1
          simp at z
          omega
        subst hj2
        rw [List.getElem?_append_right hj, hl, Nat.sub_self] at e
        cases e
        exact hR _ _ H4 _ D hD ⟨_, s2 _ _ hy⟩ (s1.trans s2) r fun b o hb e => by rw [upd_ne hb]; exact e
  · rintro H ⟨s1, ys, hy, hl, hr⟩
    exact hd D ys H hD s1 hl hr hy
/-- .. where the items are known beforehand -/
theorem lc_pure {J : It} {n : Nat} {G : Hp → Prop} {Y : Nat → Hp → V → Hp → Prop} (w : Walk J n G Y) {g : TG} {te : TE} {vs : List Nat} {σ : L2.St} {H1 : Hp} {Q : VK} (ys : List V) (hl : ys.length = n) (hn : n < sizeLine) (hG : ∀ H, Same H1 H → G H)
    (hs : ∀ (i : Nat) x y H H' (U : VK), ys[i]? = some y → Same H1 H → Y i H x H' → (∀ H4, Same H H4 → U y H4) → g x (wipe σ vs) H' fun σ2 H2 => wipe σ2 vs = wipe σ vs ∧ te σ2 H2 U)
    (hd : ∀ p H, H1 p = none → Same H1 H → H p = some (.lst ys) → Q (.ref p) H) : LcGoal J g tYes te vs σ H1 Q := by
  refine lc_go w (fun i y _ => ys[i]? = some y) hn (fun _ _ _ _ _ _ _ _ r _ => r) hG (fun i x H H' D U hi _ _ s1 y hu => ?_) fun p zs H hp s1 hz hr e => ?_
  · have e : ys[i]? = some ys[i] := List.getElem?_eq_getElem (by omega)
    exact hs i x _ H H' U e s1 y fun H4 s2 => hu _ _ e s2
  · have z : zs = ys := by
      refine List.ext_getElem? fun i => ?_
      rcases Nat.lt_or_ge i zs.length with h | h
      · rw [hr i _ (List.getElem?_eq_getElem h), List.getElem?_eq_getElem h]
      · rw [List.getElem?_eq_none h, List.getElem?_eq_none (by omega)]
    subst z
    exact hd p H hp s1 e
/-- .. with a test, over a list whose items stand for those of ts -/
theorem lc_filter {K : Frag} {α : Type} {a : Addr} {xs : List V} (ts : List α) (hl : xs.length = ts.length) (f : α → Bool) (v : α → V) {g : TG} {tt : TT} {te : TE} {vs : List Nat} {σ : L2.St} {H1 : Hp} {Q : VK} (hn : xs.length < sizeLine) (hS : SqL K H1 a xs)
    (hs : ∀ (i : Nat) x t H (U : VK) (N : Hp → Prop), xs[i]? = some x → ts[i]? = some t → Same H1 H → (f t = true → ∀ H4, Same H H4 → U (v t) H4) → (f t = false → ∀ H4, Same H H4 → N H4) → g x (wipe σ vs) H fun σ2 H2 => wipe σ2 vs = wipe σ vs ∧ tt σ2 H2 fun b H3 => if b = true then te σ2 H3 U else N H3)
    (hd : ∀ p H, H1 p = none → Same H1 H → H p = some (.lst ((ts.filter f).map v)) → Q (.ref p) H) : LcGoal (Itl K a) g tt te vs σ H1 Q := by
  intro D hD
  refine lc_list (xs := xs) (fun i H => Same H1 H ∧ H D = some (.lst (((ts.take i).filter f).map v))) ⟨same_upd hD, by simp [upd_same]⟩ (fun i H _ p => p.1.seq hS) ?_ ?_
  · rintro i x H hx ⟨s1, e⟩
    have hi := (List.getElem?_eq_some_iff.mp hx).1
    obtain ⟨t, ht⟩ : ∃ t, ts[i]? = some t := ⟨_, List.getElem?_eq_getElem (by omega)⟩
    have tk : ts.take (i + 1) = ts.take i ++ [t] := by rw [List.take_add_one, ht]; rfl
    refine hs i x t H _ _ hx ht s1 (fun ft H4 s2 => ⟨_, s2 _ _ e, ?_, fun b o e2 => ?_, ?_⟩) fun ft H4 s2 => ⟨s1.trans s2, ?_⟩
    · refine Nat.lt_of_le_of_lt ?_ hn
      rw [List.length_map]
      exact Nat.le_trans (List.length_filter_le _ _) (by simp; omega)
    · rw [upd_ne (ne_of_none e2 hD)]
      exact s2 _ _ (s1 _ _ e2)
    · rw [upd_same, tk, List.filter_append, List.map_append]
      simp [ft]
    · rw [s2 _ _ e, tk, List.filter_append, List.map_append]
      simp [ft]
  · rintro H ⟨s1, e⟩
    rw [hl, List.take_length] at e
    exact hd D H hD s1 e
theorem ix_last {K : Frag} {a : Addr} {xs : List V} {v : V} {H : Hp} {Q : VK} (hS : SqL K H a xs) (e : xs.getLast? = some v) (q : Q v H) : rIxL K (.ref a) (.int (-1)) H Q := by
  have hn : xs ≠ [] := by intro z; rw [z] at e; cases e
  have hl : xs.length ≠ 0 := fun z => hn (List.length_eq_zero_iff.mp z)
  refine ⟨a, xs, -1, v, rfl, rfl, hS, ?_, q⟩
  unfold atI ixN
  rw [if_neg (by decide), if_pos (by omega), show ((-1 : Int) + (xs.length : Int)).toNat = xs.length - 1 by omega]
  rw [List.getLast?_eq_getElem?] at e
  exact e
theorem ints_of {P : Int → Prop} : ∀ {ys : List V}, (∀ (i : Nat) y, ys[i]? = some y → ∃ v, y = .int v ∧ P v) → ∃ ns : List Int, ys = ns.map V.int ∧ ∀ v ∈ ns, P v
  | [], _ => ⟨[], rfl, fun _ h => by simp at h⟩
  | y :: r, h => by
    obtain ⟨v, rfl, hv⟩ := h 0 y rfl
    obtain ⟨ns, rfl, hn⟩ := ints_of (ys := r) fun i y e => h (i + 1) y e
    exact ⟨v :: ns, rfl, fun w hw => by rcases List.mem_cons.mp hw with rfl | hw; exact hv; exact hn w hw⟩
/-- a comprehension whose items are ints of which P holds -/
theorem lc_ints {J : It} {n : Nat} {G : Hp → Prop} {Y : Nat → Hp → V → Hp → Prop} (w : Walk J n G Y) (P : Int → Prop) {g : TG} {te : TE} {vs : List Nat} {σ : L2.St} {H1 : Hp} {Q : VK} (hn : n < sizeLine) (hG : ∀ H, Same H1 H → G H)
    (hs : ∀ i x H H' (U : VK), i < n → Same H1 H → Y i H x H' → (∀ v H4, P v → Same H H4 → U (.int v) H4) → g x (wipe σ vs) H' fun σ2 H2 => wipe σ2 vs = wipe σ vs ∧ te σ2 H2 U)
    (hd : ∀ p (ns : List Int) H, H1 p = none → Same H1 H → ns.length = n → (∀ v ∈ ns, P v) → H p = some (.lst (ns.map V.int)) → Q (.ref p) H) : LcGoal J g tYes te vs σ H1 Q := by
  refine lc_go w (fun _ y _ => ∃ v, y = .int v ∧ P v) hn (fun _ _ _ _ _ _ _ _ r _ => r) hG (fun i x H H' D U hi _ _ s1 y hu => hs i x H H' U hi s1 y fun v H4 p s2 => hu _ _ ⟨v, rfl, p⟩ s2) fun p ys H hp s1 hl hr e => ?_
  obtain ⟨ns, rfl, hp2⟩ := ints_of hr
  exact hd p ns H hp s1 (by simpa using hl) hp2 e
/-! ### slices -/
theorem cut_from {xs : List V} {k : Int} (hk : 0 ≤ k) : cutV xs (some k) none = xs.drop k.toNat := by
  obtain ⟨j, rfl⟩ := Int.eq_ofNat_of_zero_le hk
  unfold cutV
  rw [HT.sIx_nat, HT.sIx_none, Int.toNat_natCast]
  rcases Nat.le_total j xs.length with h | h
  · rw [Nat.min_eq_left h, List.take_of_length_le (by simp)]
  · rw [Nat.min_eq_right h, List.drop_of_length_le h, List.drop_length, List.take_nil]
theorem cut_to {xs : List V} {k : Int} (hk : 0 ≤ k) : cutV xs none (some k) = xs.take k.toNat := by
  obtain ⟨j, rfl⟩ := Int.eq_ofNat_of_zero_le hk
  unfold cutV
  rw [HT.sIx_nat, HT.sIx_none, Int.toNat_natCast, List.drop_zero, Nat.sub_zero]
  rcases Nat.le_total j xs.length with h | h
  · rw [Nat.min_eq_left h]
  · rw [Nat.min_eq_right h, List.take_of_length_le h, List.take_length]
/-! ### lists whose items tell something -/
inductive All2 {α : Type} (R : V → α → Prop) : List V → List α → Prop
  | nil : All2 R [] []
  | cons {x t xs ts} : R x t → All2 R xs ts → All2 R (x :: xs) (t :: ts)
namespace All2
variable {α : Type} {R S : V → α → Prop}
theorem len {xs : List V} {ts : List α} (h : All2 R xs ts) : xs.length = ts.length := by
  induction h with
  | nil => rfl
  | cons _ _ ih => rw [List.length_cons, List.length_cons, ih]
theorem mono {xs : List V} {ts : List α} (h : All2 R xs ts) (k : ∀ x t, R x t → S x t) : All2 S xs ts := by
  induction h with
  | nil => exact .nil
  | cons r _ ih => exact .cons (k _ _ r) ih
theorem get {xs : List V} {ts : List α} (h : All2 R xs ts) : ∀ {i : Nat} {x : V}, xs[i]? = some x → ∃ t, ts[i]? = some t ∧ R x t := by
  induction h with
  | nil => intro i x e; simp at e
  | cons r _ ih =>
    intro i x e
    cases i with
    | zero => cases e; exact ⟨_, rfl, r⟩
    | succ j => exact ih e
theorem of {xs : List V} : ∀ {ts : List α}, xs.length = ts.length → (∀ (i : Nat) x t, xs[i]? = some x → ts[i]? = some t → R x t) → All2 R xs ts := by
  induction xs with
  | nil => intro ts hl _; cases ts with
    | nil => exact .nil
    | cons _ _ => cases hl
  | cons x xs ih => intro ts hl h; cases ts with
    | nil => cases hl
    | cons t ts => exact .cons (h 0 x t rfl rfl) (ih (by simpa using hl) fun i x t e1 e2 => h (i + 1) x t e1 e2)
theorem snoc {xs : List V} {ts : List α} {x : V} {t : α} (h : All2 R xs ts) (r : R x t) : All2 R (xs ++ [x]) (ts ++ [t]) := by
  induction h with
  | nil => exact .cons r .nil
  | cons r2 _ ih => exact .cons r2 ih
theorem append {xs ys : List V} {ts us : List α} (h : All2 R xs ts) (h2 : All2 R ys us) : All2 R (xs ++ ys) (ts ++ us) := by
  induction h with
  | nil => exact h2
  | cons r _ ih => exact .cons r ih
theorem drop {xs : List V} {ts : List α} (h : All2 R xs ts) : ∀ k, All2 R (xs.drop k) (ts.drop k) := by
  induction h with
  | nil => intro k; rw [List.drop_nil, List.drop_nil]; exact .nil
  | cons r h ih => intro k; cases k with
    | zero => exact .cons r h
    | succ k => exact ih k
theorem take {xs : List V} {ts : List α} (h : All2 R xs ts) : ∀ k, All2 R (xs.take k) (ts.take k) := by
  induction h with
  | nil => intro k; rw [List.take_nil, List.take_nil]; exact .nil
  | cons r h ih => intro k; cases k with
    | zero => exact .nil
    | succ k => exact .cons r (ih k)
end All2
/-- a pair of ints -/
def Pr (K : Frag) (H : Hp) : V → Int × Int → Prop := fun x t => ∃ r, x = .ref r ∧ SqT K H r [.int t.1, .int t.2]
theorem Pr.same {K : Frag} {H H' : Hp} {x : V} {t : Int × Int} (s : Same H H') (h : Pr K H x t) : Pr K H' x t := by
  obtain ⟨r, e, q⟩ := h
  exact ⟨r, e, same_tup s q⟩
/-- a list of pairs of ints -/
def Prs (K : Frag) (H : Hp) (a : Addr) (ts : List (Int × Int)) : Prop := ∃ xs, SqL K H a xs ∧ All2 (Pr K H) xs ts
theorem Prs.same {K : Frag} {H H' : Hp} {a : Addr} {ts : List (Int × Int)} (s : Same H H') (h : Prs K H a ts) : Prs K H' a ts := by
  obtain ⟨xs, q, h⟩ := h
  exact ⟨xs, s.seq q, h.mono fun _ _ => Pr.same s⟩
/-- .. compared -/
def pdP (t : Int × Int) : PyData := .tuple [.int t.1, .int t.2]
theorem dp_prs {K : Frag} {H : Hp} {xs : List V} {ts : List (Int × Int)} (h : All2 (Pr K H) xs ts) : DpAll K H xs (ts.map pdP) := by
  induction h with
  | nil => exact .nil
  | cons r _ ih =>
    obtain ⟨r, rfl, hr⟩ := r
    exact .cons (.tup hr (.cons (.int _) (.cons (.int _) .nil))) ih
theorem Prs.dp {K : Frag} {H : Hp} {a : Addr} {ts : List (Int × Int)} (h : Prs K H a ts) : Dp K H (.ref a) (.list (ts.map pdP)) := by
  obtain ⟨xs, hS, hA⟩ := h
  exact .lst hS (dp_prs hA)
theorem lay_prs : ∀ ts : List (Int × Int), PyData.canLayAll0 (ts.map pdP) = true
  | [] => rfl
  | t :: r => by simp only [List.map_cons, PyData.canLayAll0, lay_prs r, pdP, PyData.canLay0, Bool.and_true]
theorem depth_prs : ∀ ts : List (Int × Int), PyData.depthAll (ts.map pdP) ≤ 1
  | [] => by simp [PyData.depthAll]
  | t :: r => by
    have := depth_prs r
    simp only [List.map_cons, PyData.depthAll, pdP, PyData.depth]
    omega
theorem shaped_prs {ts : List (Int × Int)} : SeqAt.shaped (.list (ts.map pdP)) = true :=
  shaped_of (by simp only [PyData.canLay0]; exact lay_prs ts) (by have := depth_prs ts; simp only [PyData.depth]; omega)
theorem eqv_prs : ∀ ts us : List (Int × Int), PyData.eqvAll (ts.map pdP) (us.map pdP) = decide (ts = us)
  | [], [] => by simp [PyData.eqvAll]
  | [], y :: ys => by simp [PyData.eqvAll]
  | x :: xs, [] => by simp [PyData.eqvAll]
  | x :: xs, y :: ys => by
    have ih := eqv_prs xs ys
    simp only [List.map_cons, PyData.eqvAll, ih, List.cons.injEq, pdP, PyData.eqv, Bool.and_true]
    by_cases e : x = y
    · subst e; simp
    · have : ¬(x.1 = y.1 ∧ x.2 = y.2) := fun z => e (Prod.ext z.1 z.2)
      by_cases e1 : x.1 = y.1 <;> by_cases e2 : x.2 = y.2 <;> simp_all
theorem ne_prs {K : Frag} {H : Hp} {p q : Addr} {ts us : List (Int × Int)} {Q : VK} (hp : Prs K H p ts) (hq : Prs K H q us) (k : Q (.bl (!decide (ts = us))) H) : rNeD K (.ref p) (.ref q) H Q :=
  ⟨_, _, hp.dp, hq.dp, shaped_prs, shaped_prs, by simp only [PyData.eqv, eqv_prs]; exact k⟩
theorem eq_prs {K : Frag} {H : Hp} {p q : Addr} {ts us : List (Int × Int)} {Q : VK} (hp : Prs K H p ts) (hq : Prs K H q us) (k : Q (.bl (decide (ts = us))) H) : rEqD K (.ref p) (.ref q) H Q :=
  ⟨_, _, hp.dp, hq.dp, shaped_prs, shaped_prs, by simp only [PyData.eqv, eqv_prs]; exact k⟩
/-! ### the law's end -/
def spLaw (K : Frag) : Sp := fun vs H Q _ => ∃ (a : Addr) (ns : List Int), vs = [.ref a] ∧ SqL K H a (ns.map V.int) ∧ ns.length ≤ 63 ∧ (∀ z ∈ ns, Builtin.Int.intBits z ≤ 1048576) ∧ ∀ H', Q (.bl true) H'
theorem walk {l : PySem.W.OpenLaw} {k : Nat} {q : Program} {loose : List Str} {XP : (Str → Option Value) → Heap → Prop} {YP : World → Heap → Prop} {d : DefRec} {K : Params → Frag}
    (hn : l.most = some 63) (hdf : d.params.defaults = []) (hr : Room k callerA) (hY : ∀ (w : World) (h : Heap), YP w h → (K w.params).In h)
    (F : ∀ (w : World) (mg : Str → Option Value) (fa : Addr) (h : Heap), (K w.params).In h → h.Ns mainGlobals mg → mg d.name = some (.ref fa) →
      ∃ fd : FuncData, (∀ (s : Shared) (u : Value), BindsTo s fd ⟨[u], []⟩ [(("script" : Str), u)]) ∧ ∀ base : Heap, (K w.params).In base → base.Ns mainGlobals mg → FnOk l.prog w (K w.params) mg base CX0 k fa fd ["script"] (spLaw (K w.params))) :
    PySem.W.WalkO q loose XP YP l.row.toRowW d [] (fun f vs => PySem.call f vs) :=
  L2.walk_ofB (n := 63) (k := k) (x := "script") (CX := fun _ => CX0) (sp := fun w => spLaw (K w.params)) hn (by decide) hdf hr hY F
    (fun _ _ a ns hl hb _ hS => ⟨a, ns, rfl, hS, hl, hb, fun _ => rfl⟩) fun _ _ _ _ _ z => z
end Kv

set_option Elab.async false
set_option linter.all false
set_option maxRecDepth 100000
set_option maxHeartbeats 4000000
namespace K08
open PySem PySem.Spec PyProof.Rows L2
def top (i : Nat) : Stmt := PySem.Challenge.pw_corebank_k08_whole_adjust.main.body.getD i (.Pass ⟨0, 0, 0, 0⟩)
abbrev s_is_day : Stmt := top 16
abbrev s_check_day : Stmt := top 17
abbrev s_days_of_month : Stmt := top 18
abbrev s_first_day_of : Stmt := top 19
abbrev s_date_of : Stmt := top 20
abbrev s_weekday : Stmt := top 21
abbrev s_is_working : Stmt := top 22
abbrev s_find_working : Stmt := top 23
abbrev s_find_modified : Stmt := top 24
abbrev s_find_adjusted : Stmt := top 25
abbrev s_adjust : Stmt := top 26
abbrev s_L_numbers : Stmt := top 28
abbrev s_L_kinds : Stmt := top 29
abbrev s_L_length : Stmt := top 30
abbrev s_L_date : Stmt := top 31
abbrev s_L_day : Stmt := top 32
abbrev s_L_holidays : Stmt := top 33
abbrev s_L_works : Stmt := top 34
abbrev s_L_search : Stmt := top 35
abbrev s_L_due : Stmt := top 36
abbrev s_L_told : Stmt := top 37
abbrev s_L_tells_working : Stmt := top 38
abbrev s_law : Stmt := top 39
theorem sc_is_day : FnScope ["number"] ["number"] (defScope s_is_day) := ⟨rfl, rfl, rfl, by decide +kernel, rfl, by decide +kernel, by decide +kernel⟩
theorem sc_check_day : FnScope ["day"] ["day"] (defScope s_check_day) := ⟨rfl, rfl, rfl, by decide +kernel, rfl, by decide +kernel, by decide +kernel⟩
theorem sc_days_of_month : FnScope ["year", "month"] ["year", "month"] (defScope s_days_of_month) := ⟨rfl, rfl, rfl, by decide +kernel, rfl, by decide +kernel, by decide +kernel⟩
theorem sc_first_day_of : FnScope ["year"] ["year"] (defScope s_first_day_of) := ⟨rfl, rfl, rfl, by decide +kernel, rfl, by decide +kernel, by decide +kernel⟩
theorem sc_date_of : FnScope ["day", "year", "month", "left"] ["day"] (defScope s_date_of) := ⟨rfl, rfl, rfl, by decide +kernel, rfl, by decide +kernel, by decide +kernel⟩
theorem sc_weekday : FnScope ["day"] ["day"] (defScope s_weekday) := ⟨rfl, rfl, rfl, by decide +kernel, rfl, by decide +kernel, by decide +kernel⟩
theorem sc_is_working : FnScope ["day", "holidays"] ["day", "holidays"] (defScope s_is_working) := ⟨rfl, rfl, rfl, by decide +kernel, rfl, by decide +kernel, by decide +kernel⟩
theorem sc_find_working : FnScope ["day", "holidays", "step", "at"] ["day", "holidays", "step"] (defScope s_find_working) := ⟨rfl, rfl, rfl, by decide +kernel, rfl, by decide +kernel, by decide +kernel⟩
theorem sc_find_modified : FnScope ["day", "holidays", "later"] ["day", "holidays"] (defScope s_find_modified) := ⟨rfl, rfl, rfl, by decide +kernel, rfl, by decide +kernel, by decide +kernel⟩
theorem sc_find_adjusted : FnScope ["day", "holidays", "how"] ["day", "holidays", "how"] (defScope s_find_adjusted) := ⟨rfl, rfl, rfl, by decide +kernel, rfl, by decide +kernel, by decide +kernel⟩
theorem sc_adjust : FnScope ["day", "holidays", "how", "found"] ["day", "holidays", "how"] (defScope s_adjust) := ⟨rfl, rfl, rfl, by decide +kernel, rfl, by decide +kernel, by decide +kernel⟩
theorem sc_L_numbers : FnScope ["cell", "count", "rest", "numbers", "k", "mixed"] ["cell", "count"] (defScope s_L_numbers) := ⟨rfl, rfl, rfl, by decide +kernel, rfl, by decide +kernel, by decide +kernel⟩
theorem sc_L_kinds : FnScope ["error", "kinds"] ["error"] (defScope s_L_kinds) := ⟨rfl, rfl, rfl, by decide +kernel, rfl, by decide +kernel, by decide +kernel⟩
theorem sc_L_length : FnScope ["year", "month"] ["year", "month"] (defScope s_L_length) := ⟨rfl, rfl, rfl, by decide +kernel, rfl, by decide +kernel, by decide +kernel⟩
theorem sc_L_date : FnScope ["day", "year", "k", "size", "month"] ["day"] (defScope s_L_date) := ⟨rfl, rfl, rfl, by decide +kernel, rfl, by decide +kernel, by decide +kernel⟩
theorem sc_L_day : FnScope ["numbers"] ["numbers"] (defScope s_L_day) := ⟨rfl, rfl, rfl, by decide +kernel, rfl, by decide +kernel, by decide +kernel⟩
theorem sc_L_holidays : FnScope ["numbers", "day", "first", "days", "k", "again", "near"] ["numbers", "day"] (defScope s_L_holidays) := ⟨rfl, rfl, rfl, by decide +kernel, rfl, by decide +kernel, by decide +kernel⟩
theorem sc_L_works : FnScope ["day", "holidays"] ["day", "holidays"] (defScope s_L_works) := ⟨rfl, rfl, rfl, by decide +kernel, rfl, by decide +kernel, by decide +kernel⟩
theorem sc_L_search : FnScope ["day", "step", "holidays", "k", "near"] ["day", "step", "holidays"] (defScope s_L_search) := ⟨rfl, rfl, rfl, by decide +kernel, rfl, by decide +kernel, by decide +kernel⟩
theorem sc_L_due : FnScope ["day", "holidays", "how", "found"] ["day", "holidays", "how"] (defScope s_L_due) := ⟨rfl, rfl, rfl, by decide +kernel, rfl, by decide +kernel, by decide +kernel⟩
theorem sc_L_told : FnScope ["day", "holidays", "how", "copy", "told", "e"] ["day", "holidays", "how"] (defScope s_L_told) := ⟨rfl, rfl, rfl, by decide +kernel, rfl, by decide +kernel, by decide +kernel⟩
theorem sc_L_tells_working : FnScope ["day", "holidays", "near", "copy", "told", "e", "due"] ["day", "holidays"] (defScope s_L_tells_working) := ⟨rfl, rfl, rfl, by decide +kernel, rfl, by decide +kernel, by decide +kernel⟩
theorem sc_law : FnScope ["script", "hows", "cell", "numbers", "day", "holidays", "how", "word", "k", "at", "wrong", "out"] ["script"] (defScope s_law) := ⟨rfl, rfl, rfl, by decide +kernel, rfl, by decide +kernel, by decide +kernel⟩
structure Txt (K : PySem.W.Frag) (mg : Str → Option Value) extends Kv.Errs K mg where
  a_is_day : Addr
  d_is_day : FuncData
  g_is_day : mg "is_day" = some (.ref a_is_day)
  F_is_day : Fun K "is_day" "is_day" s_is_day a_is_day d_is_day
  b_is_day : Binds K d_is_day ["number"] []
  a_check_day : Addr
  d_check_day : FuncData
  g_check_day : mg "check_day" = some (.ref a_check_day)
  F_check_day : Fun K "check_day" "check_day" s_check_day a_check_day d_check_day
  b_check_day : Binds K d_check_day ["day"] []
  a_days_of_month : Addr
  d_days_of_month : FuncData
  g_days_of_month : mg "days_of_month" = some (.ref a_days_of_month)
  F_days_of_month : Fun K "days_of_month" "days_of_month" s_days_of_month a_days_of_month d_days_of_month
  b_days_of_month : Binds K d_days_of_month ["year", "month"] []
  a_first_day_of : Addr
  d_first_day_of : FuncData
  g_first_day_of : mg "first_day_of" = some (.ref a_first_day_of)
  F_first_day_of : Fun K "first_day_of" "first_day_of" s_first_day_of a_first_day_of d_first_day_of
  b_first_day_of : Binds K d_first_day_of ["year"] []
  a_date_of : Addr
  d_date_of : FuncData
  g_date_of : mg "date_of" = some (.ref a_date_of)
  F_date_of : Fun K "date_of" "date_of" s_date_of a_date_of d_date_of
  b_date_of : Binds K d_date_of ["day"] []
  a_weekday : Addr
  d_weekday : FuncData
  g_weekday : mg "weekday" = some (.ref a_weekday)
  F_weekday : Fun K "weekday" "weekday" s_weekday a_weekday d_weekday
  b_weekday : Binds K d_weekday ["day"] []
  a_is_working : Addr
  d_is_working : FuncData
  g_is_working : mg "is_working" = some (.ref a_is_working)
  F_is_working : Fun K "is_working" "is_working" s_is_working a_is_working d_is_working
  b_is_working : Binds K d_is_working ["day", "holidays"] []
  a_find_working : Addr
  d_find_working : FuncData
  g_find_working : mg "find_working" = some (.ref a_find_working)
  F_find_working : Fun K "find_working" "find_working" s_find_working a_find_working d_find_working
  b_find_working : Binds K d_find_working ["day", "holidays", "step"] []
  a_find_modified : Addr
  d_find_modified : FuncData
  g_find_modified : mg "find_modified" = some (.ref a_find_modified)
  F_find_modified : Fun K "find_modified" "find_modified" s_find_modified a_find_modified d_find_modified
  b_find_modified : Binds K d_find_modified ["day", "holidays"] []
  a_find_adjusted : Addr
  d_find_adjusted : FuncData
  g_find_adjusted : mg "find_adjusted" = some (.ref a_find_adjusted)
  F_find_adjusted : Fun K "find_adjusted" "find_adjusted" s_find_adjusted a_find_adjusted d_find_adjusted
  b_find_adjusted : Binds K d_find_adjusted ["day", "holidays", "how"] []
  a_adjust : Addr
  d_adjust : FuncData
  g_adjust : mg "adjust" = some (.ref a_adjust)
  F_adjust : Fun K "adjust" "adjust" s_adjust a_adjust d_adjust
  b_adjust : Binds K d_adjust ["day", "holidays", "how"] []
  a__law_numbers : Addr
  d__law_numbers : FuncData
  g__law_numbers : mg "_law_numbers" = some (.ref a__law_numbers)
  F__law_numbers : Fun K "_law_numbers" "_law_numbers" s_L_numbers a__law_numbers d__law_numbers
  b__law_numbers : Binds K d__law_numbers ["cell", "count"] []
  a__law_kinds : Addr
  d__law_kinds : FuncData
  g__law_kinds : mg "_law_kinds" = some (.ref a__law_kinds)
  F__law_kinds : Fun K "_law_kinds" "_law_kinds" s_L_kinds a__law_kinds d__law_kinds
  b__law_kinds : Binds K d__law_kinds ["error"] []
  a__law_length : Addr
  d__law_length : FuncData
  g__law_length : mg "_law_length" = some (.ref a__law_length)
  F__law_length : Fun K "_law_length" "_law_length" s_L_length a__law_length d__law_length
  b__law_length : Binds K d__law_length ["year", "month"] []
  a__law_date : Addr
  d__law_date : FuncData
  g__law_date : mg "_law_date" = some (.ref a__law_date)
  F__law_date : Fun K "_law_date" "_law_date" s_L_date a__law_date d__law_date
  b__law_date : Binds K d__law_date ["day"] []
  a__law_day : Addr
  d__law_day : FuncData
  g__law_day : mg "_law_day" = some (.ref a__law_day)
  F__law_day : Fun K "_law_day" "_law_day" s_L_day a__law_day d__law_day
  b__law_day : Binds K d__law_day ["numbers"] []
  a__law_holidays : Addr
  d__law_holidays : FuncData
  g__law_holidays : mg "_law_holidays" = some (.ref a__law_holidays)
  F__law_holidays : Fun K "_law_holidays" "_law_holidays" s_L_holidays a__law_holidays d__law_holidays
  b__law_holidays : Binds K d__law_holidays ["numbers", "day"] []
  a__law_works : Addr
  d__law_works : FuncData
  g__law_works : mg "_law_works" = some (.ref a__law_works)
  F__law_works : Fun K "_law_works" "_law_works" s_L_works a__law_works d__law_works
  b__law_works : Binds K d__law_works ["day", "holidays"] []
  a__law_search : Addr
  d__law_search : FuncData
  g__law_search : mg "_law_search" = some (.ref a__law_search)
  F__law_search : Fun K "_law_search" "_law_search" s_L_search a__law_search d__law_search
  b__law_search : Binds K d__law_search ["day", "step", "holidays"] []
  a__law_due : Addr
  d__law_due : FuncData
  g__law_due : mg "_law_due" = some (.ref a__law_due)
  F__law_due : Fun K "_law_due" "_law_due" s_L_due a__law_due d__law_due
  b__law_due : Binds K d__law_due ["day", "holidays", "how"] []
  a__law_told : Addr
  d__law_told : FuncData
  g__law_told : mg "_law_told" = some (.ref a__law_told)
  F__law_told : Fun K "_law_told" "_law_told" s_L_told a__law_told d__law_told
  b__law_told : Binds K d__law_told ["day", "holidays", "how"] []
  a__law_tells_working : Addr
  d__law_tells_working : FuncData
  g__law_tells_working : mg "_law_tells_working" = some (.ref a__law_tells_working)
  F__law_tells_working : Fun K "_law_tells_working" "_law_tells_working" s_L_tells_working a__law_tells_working d__law_tells_working
  b__law_tells_working : Binds K d__law_tells_working ["day", "holidays"] []
  a_law : Addr
  d_law : FuncData
  g_law : mg "law" = some (.ref a_law)
  F_law : Fun K "law" "law" s_law a_law d_law
  b_law : Binds K d_law ["script"] []
  u_LAST_DAY : Value
  g_LAST_DAY : mg "LAST_DAY" = some u_LAST_DAY
  r_LAST_DAY : RelV (.int 36524) u_LAST_DAY
  u_FIRST_YEAR : Value
  g_FIRST_YEAR : mg "FIRST_YEAR" = some u_FIRST_YEAR
  r_FIRST_YEAR : RelV (.int 2000) u_FIRST_YEAR
  u_DAYS_OF_FOUR_YEARS : Value
  g_DAYS_OF_FOUR_YEARS : mg "DAYS_OF_FOUR_YEARS" = some u_DAYS_OF_FOUR_YEARS
  r_DAYS_OF_FOUR_YEARS : RelV (.int 1461) u_DAYS_OF_FOUR_YEARS
  a_DAYS_OF_MONTHS : Addr
  g_DAYS_OF_MONTHS : mg "DAYS_OF_MONTHS" = some (.ref a_DAYS_OF_MONTHS)
  r_DAYS_OF_MONTHS : RelV (.ref a_DAYS_OF_MONTHS) (.ref a_DAYS_OF_MONTHS)
  t_DAYS_OF_MONTHS : ∀ H : Hp, SqT K H a_DAYS_OF_MONTHS [.int (31), .int (28), .int (31), .int (30), .int (31), .int (30), .int (31), .int (31), .int (30), .int (31), .int (30), .int (31)]
  u_SATURDAY : Value
  g_SATURDAY : mg "SATURDAY" = some u_SATURDAY
  r_SATURDAY : RelV (.int 5) u_SATURDAY
  a_HOWS : Addr
  g_HOWS : mg "HOWS" = some (.ref a_HOWS)
  r_HOWS : RelV (.ref a_HOWS) (.ref a_HOWS)
  t_HOWS : ∀ H : Hp, SqT K H a_HOWS [.str "none", .str "next", .str "previous", .str "modified"]
  n_bool : mg "bool" = none
  n_int : mg "int" = none
  n_isinstance : mg "isinstance" = none
  n_len : mg "len" = none
  n_list : mg "list" = none
  n_range : mg "range" = none
local macro_rules | `(tactic| walk_at "rd") => `(tactic| try simp only [L2.start, tSeq, tIfS, tTest, tOp, tVar, tC, tRet, tRetN, tNext, tAsg, gName, tDrop, tCons, tNil, tCB, tB, rI0, rI, rEq, rNe, tAnd, tOr, tNot, tAndV, tOrV, tNotV, tIf, tUn, rU, Kv.sc_ii, Kv.sc_ss, Kv.sc_bb, Kv.sc_nn, Kv.sc_ni, Kv.sc_in, Kv.sc_sn, Kv.sc_ns, Kv.sc_bn, Kv.sc_nb, Kv.sc_is, Kv.sc_si, cxOf, and_assoc, rAppend, Kv.rIsP, L2H.cxH, tCall, tCallS, tTup, tLst, tBM, tBM0, tM0, tM1, tSl, tPart, tNoPart, tAug, ipI, gSub, tPar, tBreak, tCont, Kv.tKinds, tChain, rIsB, rNotB, tYes, tCKw, wipe, List.foldl_cons, List.foldl_nil, iList, iTup, iRng1, iRng2, iEnum, iZip, Kv.tFor_eq, Kv.tLc_eq, Kv.sz_0, Kv.szl_0, Kv.sz_1, Kv.szl_1, Kv.sz_2, Kv.szl_2, Kv.sz_3, Kv.szl_3, Kv.sz_4, Kv.szl_4, Kv.sz_5, Kv.szl_5, Kv.sz_6, Kv.szl_6, Kv.sz_7, Kv.szl_7, Kv.sz_8, Kv.szl_8, Kv.sz_9, Kv.szl_9, Kv.sz_10, Kv.szl_10, Kv.sz_11, Kv.szl_11, Kv.sz_12, Kv.szl_12, Kv.sz_13, Kv.szl_13, Kv.sz_14, Kv.szl_14, Kv.sz_15, Kv.szl_15, Kv.sz_16, Kv.szl_16, Kv.sz_17, Kv.szl_17, Kv.sz_18, Kv.szl_18, Kv.sz_19, Kv.szl_19, Kv.sz_20, Kv.szl_20, Kv.sz_21, Kv.szl_21, Kv.sz_22, Kv.szl_22, Kv.sz_23, Kv.szl_23, Kv.sz_24, Kv.szl_24, Kv.sz_25, Kv.szl_25, Kv.sz_26, Kv.szl_26, Kv.cdiv_1, Kv.cdiv_2, Kv.cdiv_3, Kv.cdiv_4, Kv.cdiv_5, Kv.cdiv_6, Kv.cdiv_7, Kv.cdiv_8, Kv.cdiv_9, Kv.cdiv_10, Kv.cdiv_11, Kv.cdiv_12, Kv.cdiv_13, Kv.cdiv_14, Kv.cdiv_16, Kv.cdiv_20, Kv.cdiv_30, Kv.cdiv_50, Kv.cdiv_60, Kv.cdiv_64, Kv.cdiv_100, Kv.cdiv_400, Kv.cdiv_1000, Kv.cdiv_2000, Kv.cdiv_10000, Kv.cdiv_1000000,
  CPow, List.map_cons, List.map_nil, List.cons_append, List.nil_append, List.append_nil, List.length_cons, List.length_nil, List.replicate,
  List.getElem?_cons_zero, List.getElem?_cons_succ, List.set_cons_zero, List.set_cons_succ, Option.some.injEq, exists_eq_left', exists_eq_left, exists_eq_right, exists_eq_right', V.int.injEq, V.str.injEq, V.bl.injEq, V.ref.injEq, List.cons.injEq, exists_and_left, exists_and_right, and_true, true_and, and_self, false_and, and_false, or_false, false_or, exists_false, exists_const, reduceCtorEq, Nat.reduceSub, Nat.reduceAdd, Nat.reduceLeDiff, Nat.reduceLT,
  Int.reduceLT, Int.reduceLE, Int.reduceAdd, Int.reduceMul, Int.reduceSub, Int.reducePow, Int.reduceToNat, Int.reduceNeg, Int.reduceAbs, Nat.reducePow, decide_eq_true_eq, Bool.not_true, Bool.not_false, Bool.false_eq_true, ite_true, ite_false, if_true, if_false, decide_true, decide_false, Bool.not_eq_true', decide_eq_false_iff_not, not_true, not_false_eq_true, ne_eq])
local macro_rules | `(tactic| walk_at "st") => `(tactic| ((first | with_reducible refine Kv.seq_step fun U hU => ?_ | with_reducible refine Kv.gseq_step fun U hU => ?_); walk_at "rd"))
local macro_rules | `(tactic| walk_at "shp") => `(tactic| (refine Kv.shaped_of ?_ ?_ <;> (simp only [PyData.canLay0, PyData.canLayAll0, PyData.depth, PyData.depthAll, Bool.and_true, Bool.true_and]) <;> first | done | decide +kernel | omega))
local macro_rules | `(tactic| walk_at "eqv") => `(tactic| simp [PyData.eqv, PyData.eqvAll])
local macro_rules | `(tactic| walk_at "nx") => `(tactic| (subst_vars; (try dsimp only); first | walk_at "st" | walk_at "rd"))
theorem sne_0_1 : (("none" : Str) = "next") = False := eq_false (by decide +kernel)
theorem sne_0_2 : (("none" : Str) = "previous") = False := eq_false (by decide +kernel)
theorem sne_0_3 : (("none" : Str) = "modified") = False := eq_false (by decide +kernel)
theorem sne_1_0 : (("next" : Str) = "none") = False := eq_false (by decide +kernel)
theorem sne_1_2 : (("next" : Str) = "previous") = False := eq_false (by decide +kernel)
theorem sne_1_3 : (("next" : Str) = "modified") = False := eq_false (by decide +kernel)
theorem sne_2_0 : (("previous" : Str) = "none") = False := eq_false (by decide +kernel)
theorem sne_2_1 : (("previous" : Str) = "next") = False := eq_false (by decide +kernel)
theorem sne_2_3 : (("previous" : Str) = "modified") = False := eq_false (by decide +kernel)
theorem sne_3_0 : (("modified" : Str) = "none") = False := eq_false (by decide +kernel)
theorem sne_3_1 : (("modified" : Str) = "next") = False := eq_false (by decide +kernel)
theorem sne_3_2 : (("modified" : Str) = "previous") = False := eq_false (by decide +kernel)
/-! ### the days -/
def months : List Int := [31, 28, 31, 30, 31, 30, 31, 31, 30, 31, 30, 31]
def dom (y m : Int) : Int := if m = 2 ∧ y % 4 = 0 then 29 else months.getD (m - 1).toNat 0
def fdo (y : Int) : Int := (1461 * (y - 2000) + 3) / 4
def sdom (y : Int) : Nat → Int
  | 0 => 0
  | n + 1 => sdom y n + dom y ((n : Int) + 1)
def isDate (y m d : Int) : Prop := 2000 ≤ y ∧ y ≤ 2099 ∧ 1 ≤ m ∧ m ≤ 12 ∧ 1 ≤ d ∧ d ≤ dom y m
instance (y m d : Int) : Decidable (isDate y m d) := by unfold isDate; infer_instance
def dayOf (y m d : Int) : Int := fdo y + sdom y (m - 1).toNat + d - 1
theorem months_get {j : Int} (h0 : 0 ≤ j) (h1 : j < 12) : ∃ n, months.getD j.toNat 0 = n ∧ ([.int 31, .int 28, .int 31, .int 30, .int 31, .int 30, .int 31, .int 31, .int 30, .int 31, .int 30, .int 31] : List V)[j.toNat]? = some (.int n) ∧ 28 ≤ n ∧ n ≤ 31 := by
  have h : j.toNat < 12 := by omega
  generalize j.toNat = k at h
  rcases (by omega : k = 0 ∨ k = 1 ∨ k = 2 ∨ k = 3 ∨ k = 4 ∨ k = 5 ∨ k = 6 ∨ k = 7 ∨ k = 8 ∨ k = 9 ∨ k = 10 ∨ k = 11) with e | e | e | e | e | e | e | e | e | e | e | e <;> subst e <;> exact ⟨_, rfl, rfl, by decide, by decide⟩
theorem dom_in {y m : Int} (h0 : 1 ≤ m) (h1 : m ≤ 12) : 28 ≤ dom y m ∧ dom y m ≤ 31 := by
  obtain ⟨n, e, _, n0, n1⟩ := months_get (j := m - 1) (by omega) (by omega)
  unfold dom
  split
  · omega
  · rw [e]
    exact ⟨n0, n1⟩
theorem sdom_in (y : Int) : ∀ n : Nat, n ≤ 12 → 28 * (n : Int) ≤ sdom y n ∧ sdom y n ≤ 31 * (n : Int)
  | 0, _ => by simp [sdom]
  | n + 1, h => by
    have ih := sdom_in y n (by omega)
    have d := dom_in (y := y) (m := (n : Int) + 1) (by omega) (by omega)
    unfold sdom
    omega
theorem sdom_sum (y : Int) : ∀ n : Nat, ((List.range n).map fun (k : Nat) => dom y ((k : Int) + 1)).sum = sdom y n
  | 0 => rfl
  | n + 1 => by
    rw [List.range_succ, List.map_append, List.sum_append, sdom_sum y n]
    simp [sdom]

section
variable {P : Program} {w : World} {K : PySem.W.Frag} {mg : Str → Option Value} {base : Heap}
/-- the numbers that a law makes of one cell: so many, none below 0, none beyond 10 ^ 13 -/
def spNumbers : Sp := fun vs H Q _ => ∃ c n, vs = [.int c, .int n] ∧ Builtin.Int.intBits c ≤ 1048576 ∧ 0 ≤ n ∧ n ≤ 1000 ∧
  ∀ (ns : List Int) p H', (ns.length : Int) = n → (∀ z ∈ ns, 0 ≤ z ∧ z < 10000000000000) → Same H H' → H p = none → H' p = some (.lst (ns.map V.int)) → Q (.ref p) H'
def invNumbers (c n : Int) (p : Addr) (H : Hp) : Nat → L2.St → Hp → Prop := fun i σ' H' => ∃ (rest : Int) (ns : List Int) (x y : Option V), σ' = [some (.int c), some (.int n), some (.int rest), some (.ref p), x, y] ∧ 0 ≤ rest ∧ Builtin.Int.intBits rest ≤ 1048576 ∧
  ns.length = i ∧ (∀ z ∈ ns, 0 ≤ z ∧ z < 10000000000000) ∧ Same H H' ∧ H' p = some (.lst (ns.map V.int))
theorem ok_L_numbers (T : Txt K mg) : FnOk P w K mg base CX0 1 T.a__law_numbers T.d__law_numbers ["cell", "count"] spNumbers := by
  refine T.F__law_numbers.ok sc_L_numbers (fun vs H Q E h => by obtain ⟨_, _, rfl, _⟩ := h; rfl) (fun cdv A outer s H vs Q E hr h => ?_)
  refine ⟨_, 
      (pss_cons (ps_set (i := 2) sc_L_numbers.nd rfl (Or.inl rfl) pe_int)
      (pss_cons (ps_if (pt_cmpR op_ge (pv 0) (pe_op op_pow pe_int pe_int) (nomark _)) 
        (pss_one (ps_set (i := 2) sc_L_numbers.nd rfl (Or.inl rfl) (pe_op op_fdivW (pv 0) (pe_op op_pow pe_int pe_int)))) pss_nil)
      (pss_cons (ps_set (i := 3) sc_L_numbers.nd rfl (Or.inl rfl) (pe_lst pa_nil))
      (pss_cons (ps_for PassesOwn.never rfl (pi_range1 (by rfl) T.n_range (pa_cons (pv 1) pa_nil)) (pg_name (i := 4) sc_L_numbers.nd rfl (Or.inl rfl)) 
        (pss_one (ps_if (pt_cmpR op_gt (pv 2) pe_int (nomark _)) 
          (pss_cons (ps_expr (pe_bm PySem.F.plainAttrs_list PySem.F.slot_list_append PySem.F.type_list_append mt_append (pv 3) (pa_cons (pe_op op_mod (pe_callTy call_int1 (by rfl) T.n_int (by decide +kernel) (pa_cons (pv 2) pa_nil)) (pe_op op_pow pe_int pe_int)) pa_nil)))
          (pss_one (ps_set (i := 2) sc_L_numbers.nd rfl (Or.inl rfl) (pe_op op_fdivW (pv 2) (pe_op op_pow pe_int pe_int))))) 
          (pss_cons (ps_set (i := 5) sc_L_numbers.nd rfl (Or.inl rfl) (pe_op op_mod (pe_callTy call_int1 (by rfl) T.n_int (by decide +kernel) (pa_cons (pe_op op_add (pe_op op_add (pe_op op_mulX (pv 0) pe_int) (pe_op op_mulX (pv 4) pe_int)) pe_int) pa_nil)) pe_int))
          (pss_cons (ps_set (i := 5) sc_L_numbers.nd rfl (Or.inl rfl) (pe_op op_mod (pe_callTy call_int1 (by rfl) T.n_int (by decide +kernel) (pa_cons (pe_op op_add (pe_op op_add (pe_op op_mulX (pv 5) (pv 5)) (pe_op op_mulX pe_int (pv 4))) pe_int) pa_nil)) pe_int))
          (pss_one (ps_expr (pe_bm PySem.F.plainAttrs_list PySem.F.slot_list_append PySem.F.type_list_append mt_append (pv 3) (pa_cons (pe_op op_add (pe_op op_mulX (pe_op op_mod (pe_callTy call_int1 (by rfl) T.n_int (by decide +kernel) (pa_cons (pe_op op_add (pe_op op_mulX (pv 5) (pv 5)) (pv 5)) pa_nil)) pe_int) pe_int) (pv 4)) pa_nil)))))))))
      (pss_one (ps_ret (pv 3))))))), ?_⟩
  obtain ⟨c, n, rfl, bc, n0, n1, hq⟩ := h
  walk_at "rd"
  split
  all_goals
    first
      | refine ⟨⟨by decide, by decide⟩, fun p hp => ?_⟩
      | intro p hp
    refine ⟨by omega, by omega, Kv.for_rng0 (invNumbers c n p H) ?_ ?_ ?_⟩
  case isTrue.refine_1 =>
    refine ⟨_, [], _, _, rfl, by omega, ?_, rfl, fun z hz => by simp at hz, Kv.same_upd hp, upd_same⟩
    exact Nat.le_trans (Kv.bits_mono (by omega)) bc
  case isFalse.refine_1 => exact ⟨_, [], _, _, rfl, by omega, by decide, rfl, fun z hz => by simp at hz, Kv.same_upd hp, upd_same⟩
  case isTrue.refine_3 | isFalse.refine_3 =>
    rintro σ' H' ⟨rest, ns, x, y, rfl, r0, rb, hl, hz, hs, hp'⟩
    walk_at "rd"
    exact hq ns p H' (by omega) hz hs hp hp'
  case isTrue.refine_2 | isFalse.refine_2 =>
    rintro i σ' H' hi ⟨rest, ns, x, y, rfl, r0, rb, hl, hz, hs, hp'⟩
    have hsz : (ns.map V.int).length < sizeLine := by
      rw [List.length_map]
      exact Nat.lt_of_lt_of_le (show ns.length < 1001 by omega) (by decide)
    have more : ∀ v : Int, 0 ≤ v → v < 10000000000000 → (∀ z ∈ ns ++ [v], 0 ≤ z ∧ z < 10000000000000) := by
      intro v h0 h1 z hm
      rcases List.mem_append.mp hm with hm | hm
      · exact hz z hm
      · rw [List.mem_singleton.mp hm]
        exact ⟨h0, h1⟩
    have fin : ∀ v : Int, (upd H' p (HO.lst (ns.map V.int ++ [.int v]))) p = some (.lst ((ns ++ [v]).map V.int)) := by
      intro v
      rw [upd_same, List.map_append]
      rfl
    walk_at "rd"
    by_cases c1 : 0 < rest
    · rw [if_pos c1]
      refine ⟨.inl ⟨rfl, _, SqL.of hp'⟩, _, hp', hsz, ⟨by decide, by decide⟩, ?_⟩
      refine ⟨rest / 10000000000000, ns ++ [rest % 10000000000000], _, _, rfl, Int.ediv_nonneg r0 (by decide), Nat.le_trans (Kv.bits_mono (by omega)) rb, by simp [hl], more _ (Int.emod_nonneg _ (by decide)) (Int.emod_lt_of_pos _ (by decide)), Kv.same_mut hp hs, fin _⟩
    · rw [if_neg c1]
      have bi : Builtin.Int.intBits (i : Int) ≤ 64 := Kv.bits64 (by omega) (by omega)
      refine ⟨Kv.mulX bc (b := 64) (by decide), Kv.mulX bi (b := 64) (by decide), ?_⟩
      generalize hm1 : (c * 48271 + (i : Int) * 69621 + 1013) % 2147483647 = m1
      have m10 : 0 ≤ m1 := by rw [← hm1]; exact Int.emod_nonneg _ (by decide)
      have m11 : m1 < 2147483647 := by rw [← hm1]; exact Int.emod_lt_of_pos _ (by decide)
      have bm1 : Builtin.Int.intBits m1 ≤ 64 := Kv.bits64 (by omega) (by omega)
      refine ⟨Kv.mulX bm1 bm1, Kv.mulX (a := 64) (by decide) bi, ?_⟩
      generalize hm2 : (m1 * m1 + 8191 * (i : Int) + 77) % 2147483629 = m2
      have m20 : 0 ≤ m2 := by rw [← hm2]; exact Int.emod_nonneg _ (by decide)
      have m21 : m2 < 2147483629 := by rw [← hm2]; exact Int.emod_lt_of_pos _ (by decide)
      have bm2 : Builtin.Int.intBits m2 ≤ 64 := Kv.bits64 (by omega) (by omega)
      generalize hm3 : (m2 * m2 + m2) % 2147483587 = m3
      have m30 : 0 ≤ m3 := by rw [← hm3]; exact Int.emod_nonneg _ (by decide)
      have m31 : m3 < 2147483587 := by rw [← hm3]; exact Int.emod_lt_of_pos _ (by decide)
      have bm3 : Builtin.Int.intBits m3 ≤ 64 := Kv.bits64 (by omega) (by omega)
      refine ⟨.inl ⟨rfl, _, SqL.of hp'⟩, Kv.mulX bm2 bm2, Kv.mulX bm3 (b := 64) (by decide), _, hp', hsz, ?_⟩
      exact ⟨rest, ns ++ [m3 * 4001 + i], _, _, rfl, r0, rb, by simp [hl], more _ (by omega) (by omega), Kv.same_mut hp hs, fin _⟩

theorem ok_L_kinds (T : Txt K mg) : Kv.KindsOk P w K mg base T.toErrs 1 T.a__law_kinds T.d__law_kinds := by
  refine Kv.kinds_of T.F__law_kinds sc_L_kinds (fun cdv A outer s H Q p er hz hf h => ?_)
  refine ⟨_, 
      (pss_cons (ps_set (i := 1) sc_L_kinds.nd rfl (Or.inl rfl) (pe_lst pa_nil))
      (pss_cons (ps_if (pt_val (pe_callB (Kv.call_isP List.mem_cons_self (T.exc er) hz hf) (by rfl) T.n_isinstance (by decide +kernel) (pa_cons (pv 0) (pa_cons (pe_glob (v := .ref (T.exa .badValue)) (by rfl) (T.exg .badValue) rfl) pa_nil)))) 
        (pss_one (ps_expr (pe_bm PySem.F.plainAttrs_list PySem.F.slot_list_append PySem.F.type_list_append mt_append (pv 1) (pa_cons pe_str pa_nil)))) pss_nil)
      (pss_cons (ps_if (pt_val (pe_callB (Kv.call_isP List.mem_cons_self (T.exc er) hz hf) (by rfl) T.n_isinstance (by decide +kernel) (pa_cons (pv 0) (pa_cons (pe_glob (v := .ref (T.exa .badDay)) (by rfl) (T.exg .badDay) rfl) pa_nil)))) 
        (pss_one (ps_expr (pe_bm PySem.F.plainAttrs_list PySem.F.slot_list_append PySem.F.type_list_append mt_append (pv 1) (pa_cons pe_str pa_nil)))) pss_nil)
      (pss_cons (ps_if (pt_val (pe_callB (Kv.call_isP List.mem_cons_self (T.exc er) hz hf) (by rfl) T.n_isinstance (by decide +kernel) (pa_cons (pv 0) (pa_cons (pe_glob (v := .ref (T.exa .missing)) (by rfl) (T.exg .missing) rfl) pa_nil)))) 
        (pss_one (ps_expr (pe_bm PySem.F.plainAttrs_list PySem.F.slot_list_append PySem.F.type_list_append mt_append (pv 1) (pa_cons pe_str pa_nil)))) pss_nil)
      (pss_cons (ps_if (pt_val (pe_callB (Kv.call_isP List.mem_cons_self (T.exc er) hz hf) (by rfl) T.n_isinstance (by decide +kernel) (pa_cons (pv 0) (pa_cons (pe_glob (v := .ref (T.exa .refused)) (by rfl) (T.exg .refused) rfl) pa_nil)))) 
        (pss_one (ps_expr (pe_bm PySem.F.plainAttrs_list PySem.F.slot_list_append PySem.F.type_list_append mt_append (pv 1) (pa_cons pe_str pa_nil)))) pss_nil)
      (pss_cons (ps_if (pt_val (pe_callB (Kv.call_isP List.mem_cons_self (T.exc er) hz hf) (by rfl) T.n_isinstance (by decide +kernel) (pa_cons (pv 0) (pa_cons (pe_glob (v := .ref (T.exa .full)) (by rfl) (T.exg .full) rfl) pa_nil)))) 
        (pss_one (ps_expr (pe_bm PySem.F.plainAttrs_list PySem.F.slot_list_append PySem.F.type_list_append mt_append (pv 1) (pa_cons pe_str pa_nil)))) pss_nil)
      (pss_cons (ps_if (pt_val (pe_callB (Kv.call_isP List.mem_cons_self (T.exc er) hz hf) (by rfl) T.n_isinstance (by decide +kernel) (pa_cons (pv 0) (pa_cons (pe_glob (v := .ref (T.exa .notAllowed)) (by rfl) (T.exg .notAllowed) rfl) pa_nil)))) 
        (pss_one (ps_expr (pe_bm PySem.F.plainAttrs_list PySem.F.slot_list_append PySem.F.type_list_append mt_append (pv 1) (pa_cons pe_str pa_nil)))) pss_nil)
      (pss_cons (ps_if (pt_val (pe_callB (Kv.call_isP List.mem_cons_self (T.exc er) hz hf) (by rfl) T.n_isinstance (by decide +kernel) (pa_cons (pv 0) (pa_cons (pe_glob (v := .ref (T.exa .damaged)) (by rfl) (T.exg .damaged) rfl) pa_nil)))) 
        (pss_one (ps_expr (pe_bm PySem.F.plainAttrs_list PySem.F.slot_list_append PySem.F.type_list_append mt_append (pv 1) (pa_cons pe_str pa_nil)))) pss_nil)
      (pss_one (ps_ret (pv 1))))))))))), ?_⟩
  have hi := fun d => T.exi er d
  refine Kv.seq_step fun U hU => ?_
  walk_at "rd"
  intro l hl
  rw [hU]
  cases er
  all_goals
    iterate 7
      refine Kv.seq_step fun U hU => ?_
      walk_at "rd"
      refine ⟨_, hi _, ?_⟩
      first
        | rw [if_neg (by decide)]
        | (rw [if_pos (by decide)]
           refine ⟨.inl ⟨rfl, _, SqL.of upd_same⟩, _, upd_same, by decide, ?_⟩
           rw [upd_upd])
      rw [hU]
    walk_at "rd"
    exact h l hl

def isD (d : Int) : Prop := 0 ≤ d ∧ d ≤ 36524
instance (d : Int) : Decidable (isD d) := by unfold isD; infer_instance
def spIsDay : Sp := fun vs H Q _ => ∃ d, vs = [.int d] ∧ (isD d → Q (.bl true) H) ∧ (¬isD d → Q (.bl false) H)
theorem ok_is_day (T : Txt K mg) : FnOk P w K mg base CX0 1 T.a_is_day T.d_is_day ["number"] spIsDay := by
  refine T.F_is_day.ok sc_is_day (fun vs H Q E h => by obtain ⟨_, rfl, _⟩ := h; rfl) (fun cdv A outer s H vs Q E hr h => ?_)
  refine ⟨_, 
      (pss_one (ps_ret (pe_chain op_le op_le pe_int (pv 0) (pe_glob (by rfl) T.g_LAST_DAY T.r_LAST_DAY)))), ?_⟩
  obtain ⟨d, rfl, ht, hf⟩ := h
  walk_at "rd"
  unfold isD at ht hf
  split
  · by_cases c : d ≤ 36524
    · rw [decide_eq_true c]
      exact ht ⟨by omega, c⟩
    · rw [decide_eq_false c]
      exact hf (by omega)
  · exact hf (by omega)
def spCheckDay (T : Txt K mg) : Sp := fun vs H Q E => ∃ d, vs = [.int d] ∧ (isD d → Q .non H) ∧ (¬isD d → E (.ref (T.exa .badDay)) none H)
theorem ok_check_day (T : Txt K mg) : FnOk P w K mg base (L2.CX P w) 2 T.a_check_day T.d_check_day ["day"] (spCheckDay T) := by
  refine T.F_check_day.okX sc_check_day (fun vs H Q E h => by obtain ⟨_, rfl, _⟩ := h; rfl) (fun cdv A outer s H vs Q E hr h => ?_)
  refine ⟨_, 
      (pss_one (ps_if (pt_not (pt_val (pe_call (ok_is_day T) (hr.mono (by decide : 1 ≤ _)) (by rfl) T.g_is_day T.F_is_day.kp T.b_is_day .nil pass0 (pa_cons (pv 0) pa_nil)))) 
        (pss_one (ps_raise rfl (takes_of rfl rfl rfl rfl) (pmk_own PySem.F.excBase_ValueError (T.exx .badDay) (T.exg .badDay) (T.exk .badDay) (raises_own (T.exb .badDay) (T.ext .badDay)) (by rfl)))) pss_nil)), ?_⟩
  obtain ⟨d, rfl, hq, he⟩ := h
  walk_at "rd"
  refine ⟨d, rfl, fun c => ⟨_, rfl, ?_⟩, fun c => ⟨_, rfl, ?_⟩⟩
  · exact hq c
  · exact he c

def spDom : Sp := fun vs H Q _ => ∃ y m, vs = [.int y, .int m] ∧ 1 ≤ m ∧ m ≤ 12 ∧ Q (.int (dom y m)) H
theorem ok_days_of_month (T : Txt K mg) : FnOk P w K mg base CX0 1 T.a_days_of_month T.d_days_of_month ["year", "month"] spDom := by
  refine T.F_days_of_month.ok sc_days_of_month (fun vs H Q E h => by obtain ⟨_, _, rfl, _⟩ := h; rfl) (fun cdv A outer s H vs Q E hr h => ?_)
  refine ⟨_, 
      (pss_cons (ps_if (PW.pt (pw_and (pt_cmpR op_eq (pv 1) pe_int (nomark _)) (pw_and1 (pt_cmpR op_eq (pe_op op_mod (pv 0) pe_int) pe_int (nomark _))))) 
        (pss_one (ps_ret pe_int)) pss_nil)
      (pss_one (ps_ret (pe_ix ix_tup (pe_glob (by rfl) T.g_DAYS_OF_MONTHS T.r_DAYS_OF_MONTHS) (pe_op op_sub (pv 1) pe_int) (fun _ _ => rfl))))), ?_⟩
  obtain ⟨y, m, rfl, m0, m1, h⟩ := h
  walk_at "rd"
  unfold dom at h
  obtain ⟨n, e, e2, _⟩ := months_get (j := m - 1) (by omega) (by omega)
  by_cases c1 : m = 2
  · rw [if_pos c1]
    by_cases c2 : y % 4 = 0
    · rw [if_pos ⟨c1, c2⟩] at h
      rw [if_pos c2]
      exact h
    · rw [if_neg (fun z => c2 z.2), e] at h
      rw [if_neg c2]
      exact ⟨_, _, _, _, rfl, rfl, T.t_DAYS_OF_MONTHS H, at_of (j := (m - 1).toNat) (by omega) e2, h⟩
  · rw [if_neg (fun z => c1 z.1), e] at h
    rw [if_neg c1]
    exact ⟨_, _, _, _, rfl, rfl, T.t_DAYS_OF_MONTHS H, at_of (j := (m - 1).toNat) (by omega) e2, h⟩

def spFdo : Sp := fun vs H Q _ => ∃ y, vs = [.int y] ∧ -100000 ≤ y ∧ y ≤ 100000 ∧ Q (.int (fdo y)) H
theorem ok_first_day_of (T : Txt K mg) : FnOk P w K mg base CX0 1 T.a_first_day_of T.d_first_day_of ["year"] spFdo := by
  refine T.F_first_day_of.ok sc_first_day_of (fun vs H Q E h => by obtain ⟨_, rfl, _⟩ := h; rfl) (fun cdv A outer s H vs Q E hr h => ?_)
  refine ⟨_, 
      (pss_one (ps_ret (pe_op op_fdivW (pe_op op_add (pe_op op_mulX (pe_glob (by rfl) T.g_DAYS_OF_FOUR_YEARS T.r_DAYS_OF_FOUR_YEARS) (pe_op op_sub (pv 0) (pe_glob (by rfl) T.g_FIRST_YEAR T.r_FIRST_YEAR))) pe_int) pe_int))), ?_⟩
  obtain ⟨y, rfl, y0, y1, h⟩ := h
  walk_at "rd"
  exact ⟨Kv.mulX (a := 64) (b := 64) (by decide) (Kv.bits64 (by omega) (by omega)), h⟩

/-! ### the date of a day -/
theorem sdom12 (y : Int) : sdom y 12 = fdo (y + 1) - fdo y := by
  have e : sdom y 12 = 337 + dom y 2 := by simp [sdom, dom, months]; omega
  rw [e]
  unfold dom fdo
  have : months.getD ((2 : Int) - 1).toNat 0 = 28 := rfl
  rw [this]
  split
  · omega
  · rename_i c
    have c : y % 4 = 1 ∨ y % 4 = 2 ∨ y % 4 = 3 := by omega
    obtain ⟨k, hk⟩ : ∃ k, y = 4 * k + y % 4 := ⟨y / 4, by omega⟩
    rcases c with c | c | c <;> rw [c] at hk <;> subst hk <;> omega
theorem sdom_step (y : Int) (n : Nat) : sdom y (n + 1) = sdom y n + dom y ((n : Int) + 1) := rfl
theorem sdom_mono {y : Int} {a : Nat} : ∀ b : Nat, a ≤ b → b ≤ 12 → sdom y a ≤ sdom y b
  | 0, h, _ => by rw [Nat.le_zero.mp h]; exact Int.le_refl _
  | b + 1, h, hb => by
    rcases Nat.lt_or_ge a (b + 1) with h2 | h2
    · have ih := sdom_mono (y := y) (a := a) b (by omega) (by omega)
      have d := dom_in (y := y) (m := (b : Int) + 1) (by omega) (by omega)
      rw [sdom_step]
      omega
    · have : a = b + 1 := by omega
      subst this
      exact Int.le_refl _
theorem dayOf_year {y m q : Int} (h : isDate y m q) : fdo y ≤ dayOf y m q ∧ dayOf y m q < fdo (y + 1) := by
  obtain ⟨h1, h2, h3, h4, h5, h6⟩ := h
  have e := sdom12 y
  have a := sdom_mono (y := y) (a := (m - 1).toNat + 1) 12 (by omega) (by omega)
  rw [sdom_step, show (((m - 1).toNat : Nat) : Int) + 1 = m by omega] at a
  have b := (sdom_in y (m - 1).toNat (by omega)).1
  unfold dayOf
  omega
theorem date_inj {y m q y2 m2 q2 : Int} (h : isDate y m q) (h2 : isDate y2 m2 q2) (e : dayOf y m q = dayOf y2 m2 q2) : y = y2 ∧ m = m2 ∧ q = q2 := by
  have a := dayOf_year h
  have b := dayOf_year h2
  have hy : y = y2 := by unfold fdo at a b; omega
  subst hy
  obtain ⟨h1, h2', h3, h4, h5, h6⟩ := h
  obtain ⟨g1, g2, g3, g4, g5, g6⟩ := h2
  unfold dayOf at e
  have hm : m = m2 := by
    rcases Int.lt_trichotomy m m2 with z | z | z
    · have k := sdom_mono (y := y) (a := (m - 1).toNat + 1) (m2 - 1).toNat (by omega) (by omega)
      rw [sdom_step, show (((m - 1).toNat : Nat) : Int) + 1 = m by omega] at k
      omega
    · exact z
    · have k := sdom_mono (y := y) (a := (m2 - 1).toNat + 1) (m - 1).toNat (by omega) (by omega)
      rw [sdom_step, show (((m2 - 1).toNat : Nat) : Int) + 1 = m2 by omega] at k
      omega
  subst hm
  exact ⟨rfl, rfl, by omega⟩
theorem dayOf_in {y m q : Int} (h : isDate y m q) : isD (dayOf y m q) := by
  have a := dayOf_year h
  obtain ⟨h1, h2, _⟩ := h
  unfold fdo at a
  unfold isD
  omega
def spDateOf (T : Txt K mg) : Sp := fun vs H Q E => ∃ d, vs = [.int d] ∧ (isD d → ∀ y m q p H', isDate y m q → dayOf y m q = d → Same H H' → H p = none → H' p = some (.tup [.int y, .int m, .int q]) → Q (.ref p) H') ∧ (¬isD d → E (.ref (T.exa .badDay)) none H)
def invDate (d y : Int) (H : Hp) : L2.St → Hp → Prop := fun σ' H' => ∃ (m l : Int), σ' = [some (.int d), some (.int y), some (.int m), some (.int l)] ∧ H' = H ∧ 1 ≤ m ∧ m ≤ 12 ∧ 0 ≤ l ∧ l = d - fdo y - sdom y (m - 1).toNat
def msDate : L2.St → Hp → Nat := fun σ' _ => match σ'[2]? with
  | some (some (V.int m)) => (12 - m).toNat
  | _ => 0
theorem ok_date_of (T : Txt K mg) : FnOk P w K mg base (L2.CX P w) 3 T.a_date_of T.d_date_of ["day"] (spDateOf T) := by
  refine T.F_date_of.okX sc_date_of (fun vs H Q E h => by obtain ⟨_, rfl, _⟩ := h; rfl) (fun cdv A outer s H vs Q E hr h => ?_)
  refine ⟨_, 
      (pss_cons (ps_expr (pe_call (ok_check_day T) (hr.mono (by decide : 2 ≤ _)) (by rfl) T.g_check_day T.F_check_day.kp T.b_check_day .nil (passes_call (takes_of rfl rfl rfl rfl) (fun _ _ _ _ h => h)) (pa_cons (pv 0) pa_nil)))
      (pss_cons (ps_set (i := 1) sc_date_of.nd rfl (Or.inl rfl) (pe_op op_add (pe_glob (by rfl) T.g_FIRST_YEAR T.r_FIRST_YEAR) (pe_op op_fdivW (pe_op op_mulX pe_int (pv 0)) (pe_glob (by rfl) T.g_DAYS_OF_FOUR_YEARS T.r_DAYS_OF_FOUR_YEARS))))
      (pss_cons (ps_set (i := 2) sc_date_of.nd rfl (Or.inl rfl) pe_int)
      (pss_cons (ps_set (i := 3) sc_date_of.nd rfl (Or.inl rfl) (pe_op op_sub (pv 0) (pe_call (ok_first_day_of T) (hr.mono (by decide : 1 ≤ _)) (by rfl) T.g_first_day_of T.F_first_day_of.kp T.b_first_day_of .nil pass0 (pa_cons (pv 1) pa_nil))))
      (pss_cons (ps_while (passes_of rfl) (pt_cmpR op_ge (pv 3) (pe_call (ok_days_of_month T) (hr.mono (by decide : 1 ≤ _)) (by rfl) T.g_days_of_month T.F_days_of_month.kp T.b_days_of_month .nil pass0 (pa_cons (pv 1) (pa_cons (pv 2) pa_nil))) (nomark _)) 
        (pss_cons (ps_aug (i := 3) sc_date_of.nd rfl (Or.inl rfl) (pe_call (ok_days_of_month T) (hr.mono (by decide : 1 ≤ _)) (by rfl) T.g_days_of_month T.F_days_of_month.kp T.b_days_of_month .nil pass0 (pa_cons (pv 1) (pa_cons (pv 2) pa_nil))) ip_sub)
        (pss_one (ps_aug (i := 2) sc_date_of.nd rfl (Or.inl rfl) pe_int ip_add))))
      (pss_one (ps_ret (pe_tup (pa_cons (pv 1) (pa_cons (pv 2) (pa_cons (pe_op op_add (pv 3) pe_int) pa_nil))))))))))), ?_⟩
  obtain ⟨d, rfl, hq, he⟩ := h
  walk_at "st"
  refine ⟨d, rfl, fun c => ?_, fun c => he c⟩
  have hq := hq c
  obtain ⟨d0, d1⟩ := c
  walk_at "nx"
  refine ⟨Kv.mulX (a := 64) (b := 64) (by decide) (Kv.bits64 (by omega) (by omega)), ⟨by decide, by decide⟩, ?_⟩
  walk_at "nx"
  walk_at "nx"
  have hf : fdo (2000 + 4 * d / 1461) ≤ d ∧ d < fdo (2000 + 4 * d / 1461 + 1) := by
    unfold fdo
    omega
  have h12 := sdom12 (2000 + 4 * d / 1461)
  have hy : 2000 ≤ 2000 + 4 * d / 1461 ∧ 2000 + 4 * d / 1461 ≤ 2099 := by omega
  generalize 2000 + 4 * d / 1461 = y at *
  refine ⟨y, rfl, by omega, by omega, ?_⟩
  walk_at "rd"
  walk_at "nx"
  refine Kv.while_cps (invDate d y H) msDate ⟨_, _, rfl, rfl, by omega, by omega, by omega, by simp [sdom]⟩ ?_
  rintro σ' H' ⟨m, l, rfl, rfl, m0, m1, l0, hl⟩ U2 ht hf2
  walk_at "rd"
  refine ⟨y, m, rfl, m0, m1, _, rfl, ?_⟩
  have sm := sdom_step y (m - 1).toNat
  rw [show (((m - 1).toNat : Nat) : Int) + 1 = m by omega] at sm
  by_cases c : dom y m ≤ l
  · rw [decide_eq_true c]
    refine ht _ ?_
    walk_at "rd"
    have hm : m < 12 := by
      rcases Int.lt_or_le m 12 with z | z
      · exact z
      · have : m = 12 := by omega
        subst this
        have : sdom y ((12 : Int) - 1).toNat + dom y 12 = sdom y 12 := rfl
        omega
    refine ⟨y, m, rfl, m0, m1, ?_⟩
    walk_at "rd"
    refine ⟨⟨m + 1, l - dom y m, rfl, rfl, by omega, by omega, by omega, ?_⟩, ?_⟩
    · rw [show (m + 1 - 1).toNat = (m - 1).toNat + 1 by omega, sm]
      omega
    · show (12 - (m + 1)).toNat < (12 - m).toNat
      omega
  · rw [decide_eq_false c]
    refine hf2 _ ?_
    walk_at "nx"
    intro p hp
    refine hq y m _ p _ ⟨hy.1, hy.2, m0, m1, by omega, by omega⟩ ?_ (Kv.same_upd hp) hp upd_same
    unfold dayOf
    omega

def spWeekday (T : Txt K mg) : Sp := fun vs H Q E => ∃ d, vs = [.int d] ∧ (isD d → Q (.int ((d + 5) % 7)) H) ∧ (¬isD d → E (.ref (T.exa .badDay)) none H)
theorem ok_weekday (T : Txt K mg) : FnOk P w K mg base (L2.CX P w) 3 T.a_weekday T.d_weekday ["day"] (spWeekday T) := by
  refine T.F_weekday.okX sc_weekday (fun vs H Q E h => by obtain ⟨_, rfl, _⟩ := h; rfl) (fun cdv A outer s H vs Q E hr h => ?_)
  refine ⟨_, 
      (pss_cons (ps_expr (pe_call (ok_check_day T) (hr.mono (by decide : 2 ≤ _)) (by rfl) T.g_check_day T.F_check_day.kp T.b_check_day .nil (passes_call (takes_of rfl rfl rfl rfl) (fun _ _ _ _ h => h)) (pa_cons (pv 0) pa_nil)))
      (pss_one (ps_ret (pe_op op_mod (pe_op op_add (pv 0) (pe_glob (by rfl) T.g_SATURDAY T.r_SATURDAY)) pe_int)))), ?_⟩
  obtain ⟨d, rfl, hq, he⟩ := h
  walk_at "rd"
  refine ⟨d, rfl, fun c => ?_, fun c => he c⟩
  walk_at "rd"
  exact hq c

def spLen : Sp := fun vs H Q _ => ∃ y m, vs = [.int y, .int m] ∧ 1 ≤ m ∧ m ≤ 12 ∧ ∀ H', Same H H' → Q (.int (dom y m)) H'
theorem ok_L_length (T : Txt K mg) : FnOk P w K mg base CX0 1 T.a__law_length T.d__law_length ["year", "month"] spLen := by
  refine T.F__law_length.ok sc_L_length (fun vs H Q E h => by obtain ⟨_, _, rfl, _⟩ := h; rfl) (fun cdv A outer s H vs Q E hr h => ?_)
  refine ⟨_, 
      (pss_cons (ps_if (PW.pt (pw_and (pt_cmpR op_eq (pv 1) pe_int (nomark _)) (pw_and1 (pt_cmpR op_eq (pe_op op_mod (pe_callTy call_int1 (by rfl) T.n_int (by decide +kernel) (pa_cons (pv 0) pa_nil)) pe_int) pe_int (nomark _))))) 
        (pss_one (ps_ret pe_int)) pss_nil)
      (pss_one (ps_ret (pe_ix ix_list (pe_lst (pa_cons pe_int (pa_cons pe_int (pa_cons pe_int (pa_cons pe_int (pa_cons pe_int (pa_cons pe_int (pa_cons pe_int (pa_cons pe_int (pa_cons pe_int (pa_cons pe_int (pa_cons pe_int (pa_cons pe_int pa_nil))))))))))))) (pe_op op_sub (pv 1) pe_int) (fun _ _ => rfl))))), ?_⟩
  obtain ⟨y, m, rfl, m0, m1, h⟩ := h
  walk_at "rd"
  unfold dom at h
  obtain ⟨n, e, e2, _⟩ := months_get (j := m - 1) (by omega) (by omega)
  have hl : ∀ Q2 : VK, Q2 (.int n) (upd H 0 (.lst [])) → True := fun _ _ => trivial
  by_cases c1 : m = 2
  · rw [if_pos c1]
    by_cases c2 : y % 4 = 0
    · simp only [if_pos c2, if_pos (And.intro c1 c2)] at h ⊢
      exact h _ (Same.refl _)
    · simp only [if_neg c2, if_neg (fun z : m = 2 ∧ y % 4 = 0 => c2 z.2), e] at h ⊢
      intro l hl
      exact Kv.ix_at (SqL.of upd_same) (by omega) e2 (h _ (Kv.same_upd hl))
  · simp only [if_neg c1, if_neg (fun z : m = 2 ∧ y % 4 = 0 => c1 z.1), e] at h ⊢
    intro l hl
    exact Kv.ix_at (SqL.of upd_same) (by omega) e2 (h _ (Kv.same_upd hl))

def spLDate : Sp := fun vs H Q _ => ∃ d, vs = [.int d] ∧ isD d ∧ ∀ y m q p H', isDate y m q → dayOf y m q = d → Same H H' → H p = none → H' p = some (.tup [.int y, .int m, .int q]) → Q (.ref p) H'
def invLY (d : Int) (H : Hp) : Nat → L2.St → Hp → Prop := fun i σ' H' => ∃ (v3 v4 v5 : Option V) (y l : Int), σ' = [some (.int l), some (.int y), v3, v4, v5] ∧ H' = H ∧ y = 2000 + 4 * (d / 1461) + i ∧ 0 ≤ l ∧ l = d % 1461 - (if i = 0 then 0 else 365 * (i : Int) + 1)
def midLY (d : Int) (H : Hp) : L2.St → Hp → Prop := fun σ' H' => ∃ (y l : Int) (v3 v4 v5 : Option V), σ' = [some (.int l), some (.int y), v3, v4, v5] ∧ H' = H ∧ 0 ≤ l ∧ l < fdo (y + 1) - fdo y ∧ fdo y + l = d ∧ 2000 ≤ y ∧ y ≤ 2099
def invLM (y d : Int) (H : Hp) : Nat → L2.St → Hp → Prop := fun i σ' H' => ∃ (l : Int) (v3 v4 v5 : Option V), σ' = [some (.int l), some (.int y), v3, v4, v5] ∧ Same H H' ∧ 0 ≤ l ∧ fdo y + sdom y i + l = d
theorem ok_L_date (T : Txt K mg) : FnOk P w K mg base CX0 2 T.a__law_date T.d__law_date ["day"] spLDate := by
  refine T.F__law_date.ok sc_L_date (fun vs H Q E h => by obtain ⟨_, rfl, _⟩ := h; rfl) (fun cdv A outer s H vs Q E hr h => ?_)
  refine ⟨_, 
      (pss_cons (ps_set (i := 1) sc_L_date.nd rfl (Or.inl rfl) (pe_op op_add pe_int (pe_op op_mulX pe_int (pe_op op_fdivW (pv 0) pe_int))))
      (pss_cons (ps_set (i := 0) sc_L_date.nd rfl (Or.inl rfl) (pe_op op_mod (pe_callTy call_int1 (by rfl) T.n_int (by decide +kernel) (pa_cons (pv 0) pa_nil)) pe_int))
      (pss_cons (ps_for PassesOwn.never rfl (pi_range1 (by rfl) T.n_range (pa_cons pe_int pa_nil)) (pg_name (i := 2) sc_L_date.nd rfl (Or.inl rfl)) 
        (pss_cons (ps_set (i := 3) sc_L_date.nd rfl (Or.inl rfl) (pe_op op_add pe_int (pe_callTy call_int1 (by rfl) T.n_int (by decide +kernel) (pa_cons (pe_cmpR op_eq (pv 2) pe_int (nomark _)) pa_nil))))
        (pss_cons (ps_if (pt_cmpR op_lt (pv 0) (pv 3) (nomark _)) 
          (pss_one ps_break) pss_nil)
        (pss_cons (ps_set (i := 0) sc_L_date.nd rfl (Or.inl rfl) (pe_op op_sub (pv 0) (pv 3)))
        (pss_one (ps_set (i := 1) sc_L_date.nd rfl (Or.inl rfl) (pe_op op_add (pv 1) pe_int)))))))
      (pss_cons (ps_for PassesOwn.never rfl (pi_range2 (by rfl) T.n_range (pa_cons pe_int (pa_cons pe_int pa_nil))) (pg_name (i := 4) sc_L_date.nd rfl (Or.inl rfl)) 
        (pss_cons (ps_if (pt_cmpR op_lt (pv 0) (pe_call (ok_L_length T) (hr.mono (by decide : 1 ≤ _)) (by rfl) T.g__law_length T.F__law_length.kp T.b__law_length .nil pass0 (pa_cons (pv 1) (pa_cons (pv 4) pa_nil))) (nomark _)) 
          (pss_one (ps_ret (pe_tup (pa_cons (pv 1) (pa_cons (pv 4) (pa_cons (pe_op op_add (pv 0) pe_int) pa_nil)))))) pss_nil)
        (pss_one (ps_set (i := 0) sc_L_date.nd rfl (Or.inl rfl) (pe_op op_sub (pv 0) (pe_call (ok_L_length T) (hr.mono (by decide : 1 ≤ _)) (by rfl) T.g__law_length T.F__law_length.kp T.b__law_length .nil pass0 (pa_cons (pv 1) (pa_cons (pv 4) pa_nil))))))))
      (pss_one (ps_ret pe_non)))))), ?_⟩
  obtain ⟨d, rfl, ⟨d0, d1⟩, hq⟩ := h
  walk_at "st"
  refine ⟨⟨by decide, by decide⟩, Kv.mulX (a := 64) (b := 64) (by decide) (Kv.bits64 (by omega) (by omega)), ?_⟩
  walk_at "nx"
  have c3 : ∀ i : Nat, i < 3 → i = 0 ∨ i = 1 ∨ i = 2 := fun i h => by omega
  subst_vars
  refine Kv.seq_cut (midLY d H) (fun U hU => ?_) ?_
  · walk_at "rd"
    refine Kv.for_rng0 (invLY d H) ⟨_, _, _, _, _, rfl, rfl, by simp, by omega, by simp⟩ ?_ ?_
    · rintro i σ' H' hi ⟨v3, v4, v5, y, l, rfl, rfl, hy, l0, hl⟩
      walk_at "rd"
      by_cases c : l < 365 + if (i : Int) = 0 then 1 else 0
      · rw [if_pos c]
        refine hU _ _ ⟨_, _, _, _, _, rfl, rfl, l0, ?_, ?_, ?_, ?_⟩ <;> (try unfold fdo) <;> rcases c3 i hi with e | e | e <;> subst e <;> simp at hl hy c ⊢ <;> omega
      · rw [if_neg c]
        refine ⟨_, _, _, _, _, rfl, rfl, ?_, ?_, ?_⟩ <;> rcases c3 i hi with e | e | e <;> subst e <;> simp at hl hy c ⊢ <;> omega
    · rintro σ' H' ⟨v3, v4, v5, y, l, rfl, rfl, hy, l0, hl⟩
      refine hU _ _ ⟨_, _, _, _, _, rfl, rfl, l0, ?_, ?_, ?_, ?_⟩ <;> (try unfold fdo) <;> simp at hl hy <;> omega
  rintro σ' H' ⟨y, l, v3, v4, v5, rfl, rfl, l0, l1, l2, y0, y1⟩
  walk_at "st"
  refine Kv.for_rng (invLM y d H') ⟨_, _, _, _, rfl, Same.refl _, l0, by simp only [sdom]; omega⟩ ?_ ?_
  · rintro i σ' H2 hi ⟨l, v3, v4, v5, rfl, s2, l0, hl⟩
    walk_at "rd"
    refine ⟨y, 1 + (i : Int), rfl, by omega, by omega, fun H3 s3 => ⟨_, rfl, ?_⟩⟩
    rw [Int.add_comm 1 (i : Int)]
    split
    · intro p hp
      refine hq y _ _ p _ ⟨y0, y1, by omega, by omega, ?_, ?_⟩ ?_ (s2.trans (s3.trans (Kv.same_upd hp))) (Same.free (s2.trans s3) hp) upd_same
      · omega
      · omega
      · unfold dayOf
        rw [show (((i : Int) + 1) - 1).toNat = i by omega]
        omega
    · refine ⟨y, _, rfl, by omega, by omega, fun H4 s4 => ?_⟩
      walk_at "rd"
      refine ⟨_, _, _, _, rfl, s2.trans (s3.trans s4), by omega, ?_⟩
      rw [sdom_step]
      omega
  · rintro σ' H2 ⟨l, v3, v4, v5, rfl, s2, l0, hl⟩
    have := sdom12 y
    omega

def works (d : Int) (hs : List Int) : Bool := decide ((d + 5) % 7 < 5 ∧ d ∉ hs)
def spWork (K : PySem.W.Frag) (T : Txt K mg) : Sp := fun vs H Q E => ∃ d a hs, vs = [.int d, .ref a] ∧ SqL K H a (hs.map V.int) ∧ hs.length ≤ 1000 ∧ (isD d → Q (.bl (works d hs)) H) ∧ (¬isD d → E (.ref (T.exa .badDay)) none H)
theorem ok_is_working (T : Txt K mg) : FnOk P w K mg base (L2.CX P w) 4 T.a_is_working T.d_is_working ["day", "holidays"] (spWork K T) := by
  refine T.F_is_working.okX sc_is_working (fun vs H Q E h => by obtain ⟨_, _, _, rfl, _⟩ := h; rfl) (fun cdv A outer s H vs Q E hr h => ?_)
  refine ⟨_, 
      (pss_one (ps_ret (pe_and (pe_cmpR op_lt (pe_call (ok_weekday T) (hr.mono (by decide : 3 ≤ _)) (by rfl) T.g_weekday T.F_weekday.kp T.b_weekday .nil (passes_call (takes_of rfl rfl rfl rfl) (fun _ _ _ _ h => h)) (pa_cons (pv 0) pa_nil)) (pe_glob (by rfl) T.g_SATURDAY T.r_SATURDAY) (nomark _)) (pe_one (pe_cmpR op_notIn_seq (pv 0) (pv 1) (by rfl)))))), ?_⟩
  obtain ⟨d, a, hs, rfl, hS, hl, hq, he⟩ := h
  walk_at "rd"
  refine ⟨d, rfl, fun c => ?_, fun c => he c⟩
  walk_at "rd"
  have hq := hq c
  unfold works at hq
  split
  · refine Kv.nin_ints hS ?_
    rename_i c1
    simp only [c1, true_and] at hq
    rw [← decide_not]
    exact hq
  · rename_i c1
    simp only [c1, false_and, decide_false] at hq
    exact hq
/-- the first working day from d on, in steps of st, so many at most -/
def scan (hs : List Int) (st : Int) : Nat → Int → Option Int
  | 0, _ => none
  | n + 1, d => if isD d then (if works d hs = true then some d else scan hs st n (d + st)) else none
def optV : Option Int → V
  | none => .non
  | some x => .int x
def spFind (K : PySem.W.Frag) : Sp := fun vs H Q _ => ∃ d a hs st, vs = [.int d, .ref a, .int st] ∧ SqL K H a (hs.map V.int) ∧ hs.length ≤ 1000 ∧ isD d ∧ (st = 1 ∨ st = -1) ∧ Q (optV (scan hs st 40000 d)) H
def ms (st x : Int) : Nat := if st = 1 then (36525 - x).toNat else (x + 1).toNat
def invFind (d : Int) (a : Addr) (hs : List Int) (st : Int) (H : Hp) : L2.St → Hp → Prop := fun σ' H' => ∃ (x : Int) (n : Nat), σ' = [some (.int d), some (.ref a), some (.int st), some (.int x)] ∧ H' = H ∧ ms st x < n ∧ scan hs st n x = scan hs st 40000 d
def msFind (st : Int) : L2.St → Hp → Nat := fun σ' _ => match σ'[3]? with
  | some (some (V.int x)) => ms st x
  | _ => 0
theorem ok_find_working (T : Txt K mg) : FnOk P w K mg base (L2.CX P w) 5 T.a_find_working T.d_find_working ["day", "holidays", "step"] (spFind K) := by
  refine T.F_find_working.okX sc_find_working (fun vs H Q E h => by obtain ⟨_, _, _, _, rfl, _⟩ := h; rfl) (fun cdv A outer s H vs Q E hr h => ?_)
  refine ⟨_, 
      (pss_cons (ps_set (i := 3) sc_find_working.nd rfl (Or.inl rfl) (pv 0))
      (pss_cons (ps_while (passes_of rfl) (pt_val (pe_call (ok_is_day T) (hr.mono (by decide : 1 ≤ _)) (by rfl) T.g_is_day T.F_is_day.kp T.b_is_day .nil pass0 (pa_cons (pv 3) pa_nil))) 
        (pss_cons (ps_if (pt_val (pe_call (ok_is_working T) (hr.mono (by decide : 4 ≤ _)) (by rfl) T.g_is_working T.F_is_working.kp T.b_is_working .nil (passes_call (takes_of rfl rfl rfl rfl) (fun _ _ _ _ h => h)) (pa_cons (pv 3) (pa_cons (pv 1) pa_nil)))) 
          (pss_one (ps_ret (pv 3))) pss_nil)
        (pss_one (ps_aug (i := 3) sc_find_working.nd rfl (Or.inl rfl) (pv 2) ip_add))))
      (pss_one (ps_ret pe_non)))), ?_⟩
  obtain ⟨d, a, hs, st, rfl, hS, hl, hd, hst, hq⟩ := h
  walk_at "st"
  walk_at "nx"
  have hd2 := hd
  obtain ⟨d0, d1⟩ := hd2
  refine Kv.while_cps (invFind d a hs st H) (msFind st) ⟨_, 40000, rfl, rfl, by unfold ms; split <;> omega, rfl⟩ ?_
  rintro σ' H' ⟨x, n, rfl, rfl, hn, hx⟩ U2 ht hf2
  obtain ⟨k, rfl⟩ : ∃ k, n = k + 1 := ⟨n - 1, by omega⟩
  rw [scan] at hx
  walk_at "rd"
  by_cases c : isD x
  · rw [if_pos c] at hx
    refine ⟨x, rfl, fun _ => ⟨_, rfl, ?_⟩, fun z => absurd c z⟩
    refine ht _ ?_
    walk_at "rd"
    refine ⟨x, a, hs, rfl, hS, hl, fun _ => ⟨_, rfl, ?_⟩, fun z => absurd c z⟩
    by_cases cw : works x hs = true
    · rw [if_pos cw] at hx
      rw [if_pos cw]
      rw [← hx] at hq
      exact hq
    · rw [if_neg cw] at hx
      rw [if_neg cw]
      obtain ⟨c0, c1⟩ := c
      refine ⟨⟨x + st, k, rfl, rfl, ?_, hx⟩, ?_⟩
      · unfold ms at hn ⊢
        rcases hst with rfl | rfl <;> simp at hn ⊢ <;> omega
      · show ms st (x + st) < ms st x
        unfold ms
        rcases hst with rfl | rfl <;> simp <;> omega
  · rw [if_neg c] at hx
    refine ⟨x, rfl, fun z => absurd z c, fun _ => ⟨_, rfl, ?_⟩⟩
    refine hf2 _ ?_
    walk_at "nx"
    rw [← hx] at hq
    exact hq
/-- two days of one month -/
def oneMonth (x d : Int) : Prop := ∃ y m q q2, isDate y m q ∧ dayOf y m q = x ∧ isDate y m q2 ∧ dayOf y m q2 = d
open Classical in
noncomputable def modi (hs : List Int) (d : Int) : Option Int := match scan hs 1 40000 d with
  | some x => if oneMonth x d then some x else scan hs (-1) 40000 d
  | none => scan hs (-1) 40000 d
theorem scan_isD {hs : List Int} {st : Int} : ∀ {n : Nat} {d x : Int}, scan hs st n d = some x → isD x
  | 0, d, x, h => by cases h
  | n + 1, d, x, h => by
    rw [scan] at h
    split at h
    · rename_i c
      split at h
      · cases h; exact c
      · exact scan_isD h
    · cases h
theorem month_iff {x d y m q y2 m2 q2 : Int} (h : isDate y m q) (e : dayOf y m q = x) (h2 : isDate y2 m2 q2) (e2 : dayOf y2 m2 q2 = d) : oneMonth x d ↔ (y = y2 ∧ m = m2) := by
  constructor
  · rintro ⟨a, b, r, r2, g1, g2, g3, g4⟩
    obtain ⟨z1, z2, _⟩ := date_inj h g1 (by omega)
    obtain ⟨z3, z4, _⟩ := date_inj h2 g3 (by omega)
    exact ⟨by omega, by omega⟩
  · rintro ⟨rfl, rfl⟩
    exact ⟨y, m, q, q2, h, e, h2, e2⟩
def spModi (K : PySem.W.Frag) : Sp := fun vs H Q _ => ∃ d a hs, vs = [.int d, .ref a] ∧ SqL K H a (hs.map V.int) ∧ hs.length ≤ 1000 ∧ isD d ∧ ∀ H', Same H H' → Q (optV (modi hs d)) H'
theorem ok_find_modified (T : Txt K mg) : FnOk P w K mg base (L2.CX P w) 6 T.a_find_modified T.d_find_modified ["day", "holidays"] (spModi K) := by
  refine T.F_find_modified.okX sc_find_modified (fun vs H Q E h => by obtain ⟨_, _, _, rfl, _⟩ := h; rfl) (fun cdv A outer s H vs Q E hr h => ?_)
  refine ⟨_, 
      (pss_cons (ps_set (i := 2) sc_find_modified.nd rfl (Or.inl rfl) (pe_call (ok_find_working T) (hr.mono (by decide : 5 ≤ _)) (by rfl) T.g_find_working T.F_find_working.kp T.b_find_working .nil (passes_call (takes_of rfl rfl rfl rfl) (fun _ _ _ _ h => h)) (pa_cons (pv 0) (pa_cons (pv 1) (pa_cons pe_int pa_nil)))))
      (pss_cons (ps_if (PW.pt (pw_and (pt_cmpR op_notN (pv 2) pe_non (nomark _)) (pw_and1 (pt_cmpR (op_eqD hr.units) (pe_slice sl_tup (pe_call (ok_date_of T) (hr.mono (by decide : 3 ≤ _)) (by rfl) T.g_date_of T.F_date_of.kp T.b_date_of .nil (passes_call (takes_of rfl rfl rfl rfl) (fun _ _ _ _ h => h)) (pa_cons (pv 2) pa_nil)) po_none (po_some pe_int)) (pe_slice sl_tup (pe_call (ok_date_of T) (hr.mono (by decide : 3 ≤ _)) (by rfl) T.g_date_of T.F_date_of.kp T.b_date_of .nil (passes_call (takes_of rfl rfl rfl rfl) (fun _ _ _ _ h => h)) (pa_cons (pv 0) pa_nil)) po_none (po_some pe_int)) (nomark _))))) 
        (pss_one (ps_ret (pv 2))) pss_nil)
      (pss_one (ps_ret (pe_call (ok_find_working T) (hr.mono (by decide : 5 ≤ _)) (by rfl) T.g_find_working T.F_find_working.kp T.b_find_working .nil (passes_call (takes_of rfl rfl rfl rfl) (fun _ _ _ _ h => h)) (pa_cons (pv 0) (pa_cons (pv 1) (pa_cons (pe_un un_neg pe_int) pa_nil)))))))), ?_⟩
  obtain ⟨d, a, hs, rfl, hS, hl, hd, hq⟩ := h
  walk_at "st"
  refine ⟨d, a, hs, 1, rfl, hS, hl, hd, .inl rfl, ?_⟩
  cases e : scan hs 1 40000 d with
  | none =>
    have hm : modi hs d = scan hs (-1) 40000 d := by unfold modi; rw [e]
    rw [hm] at hq
    walk_at "nx"
    rw [if_neg (by simp [optV])]
    walk_at "nx"
    exact ⟨d, a, hs, -1, rfl, hS, hl, hd, .inr rfl, hq _ (Same.refl _)⟩
  | some x =>
    have hx := scan_isD e
    unfold optV
    walk_at "nx"
    refine ⟨x, rfl, fun _ y m q p H1 hdt he s1 hp hp1 => ?_, fun z => absurd hx z⟩
    refine ⟨p, _, rfl, SqT.of hp1, (show ¬(HT.sIx 3 0 none = 0 ∧ HT.sIx 3 3 (some 2) = 3) by decide), fun p2 hp2 => ?_⟩
    rw [show cutV [V.int y, V.int m, V.int q] none (some 2) = [.int y, .int m] from rfl]
    have s2 := Kv.same_upd (o := .tup [.int y, .int m]) hp2
    refine ⟨d, rfl, fun _ y2 m2 q2 p3 H2 hdt2 he2 s3 hp3 hp4 => ?_, fun z => absurd hd z⟩
    refine ⟨p3, _, rfl, SqT.of hp4, (show ¬(HT.sIx 3 0 none = 0 ∧ HT.sIx 3 3 (some 2) = 3) by decide), fun p5 hp5 => ?_⟩
    rw [show cutV [V.int y2, V.int m2, V.int q2] none (some 2) = [.int y2, .int m2] from rfl]
    have s4 := Kv.same_upd (o := .tup [.int y2, .int m2]) hp5
    have sA := s1.trans (s2.trans (s3.trans s4))
    have hM := month_iff hdt he hdt2 he2
    refine ⟨.tuple [.int y, .int m], .tuple [.int y2, .int m2], .tup (SqT.of (s4 _ _ (s3 _ _ upd_same))) (.cons (.int _) (.cons (.int _) .nil)), .tup (SqT.of upd_same) (.cons (.int _) (.cons (.int _) .nil)), by walk_at "shp", by walk_at "shp", ?_⟩
    have ee : PyData.eqv (.tuple [.int y, .int m]) (.tuple [.int y2, .int m2]) = decide (y = y2 ∧ m = m2) := by
      by_cases e1 : y = y2 <;> by_cases e2 : m = m2 <;> simp [PyData.eqv, PyData.eqvAll, e1, e2]
    rw [ee]
    by_cases c : y = y2 ∧ m = m2
    · have hm : modi hs d = some x := by
        unfold modi
        rw [e]
        exact if_pos (hM.mpr c)
      rw [hm] at hq
      rw [decide_eq_true c]
      walk_at "rd"
      exact hq _ sA
    · have hm : modi hs d = scan hs (-1) 40000 d := by
        unfold modi
        rw [e]
        exact if_neg (fun z => c (hM.mp z))
      rw [hm] at hq
      rw [decide_eq_false c]
      walk_at "rd"
      walk_at "nx"
      exact ⟨_, a, hs, -1, rfl, sA.seq hS, hl, hd, .inr rfl, hq _ sA⟩
def hows : List Str := ["none", "next", "previous", "modified"]
theorem in_hows (how : Str) : inV (.str how) [.str "none", .str "next", .str "previous", .str "modified"] = decide (how ∈ hows) := by
  unfold inV hows
  simp [eqV, Bool.beq_eq_decide_eq, eq_comm]
noncomputable def adj (hs : List Int) (d : Int) (how : Str) : Option Int := if how = "none" then some d else if how = "next" then scan hs 1 40000 d else if how = "previous" then scan hs (-1) 40000 d else modi hs d
def spAdj (K : PySem.W.Frag) : Sp := fun vs H Q _ => ∃ d a hs how, vs = [.int d, .ref a, .str how] ∧ SqL K H a (hs.map V.int) ∧ hs.length ≤ 1000 ∧ isD d ∧ ∀ H', Same H H' → Q (optV (adj hs d how)) H'
theorem ok_find_adjusted (T : Txt K mg) : FnOk P w K mg base (L2.CX P w) 7 T.a_find_adjusted T.d_find_adjusted ["day", "holidays", "how"] (spAdj K) := by
  refine T.F_find_adjusted.okX sc_find_adjusted (fun vs H Q E h => by obtain ⟨_, _, _, _, rfl, _⟩ := h; rfl) (fun cdv A outer s H vs Q E hr h => ?_)
  refine ⟨_, 
      (pss_cons (ps_if (pt_cmpR op_eq (pv 2) pe_str (nomark _)) 
        (pss_one (ps_ret (pv 0))) pss_nil)
      (pss_cons (ps_if (pt_cmpR op_eq (pv 2) pe_str (nomark _)) 
        (pss_one (ps_ret (pe_call (ok_find_working T) (hr.mono (by decide : 5 ≤ _)) (by rfl) T.g_find_working T.F_find_working.kp T.b_find_working .nil (passes_call (takes_of rfl rfl rfl rfl) (fun _ _ _ _ h => h)) (pa_cons (pv 0) (pa_cons (pv 1) (pa_cons pe_int pa_nil)))))) pss_nil)
      (pss_cons (ps_if (pt_cmpR op_eq (pv 2) pe_str (nomark _)) 
        (pss_one (ps_ret (pe_call (ok_find_working T) (hr.mono (by decide : 5 ≤ _)) (by rfl) T.g_find_working T.F_find_working.kp T.b_find_working .nil (passes_call (takes_of rfl rfl rfl rfl) (fun _ _ _ _ h => h)) (pa_cons (pv 0) (pa_cons (pv 1) (pa_cons (pe_un un_neg pe_int) pa_nil)))))) pss_nil)
      (pss_one (ps_ret (pe_call (ok_find_modified T) (hr.mono (by decide : 6 ≤ _)) (by rfl) T.g_find_modified T.F_find_modified.kp T.b_find_modified .nil (passes_call (takes_of rfl rfl rfl rfl) (fun _ _ _ _ h => h)) (pa_cons (pv 0) (pa_cons (pv 1) pa_nil)))))))), ?_⟩
  obtain ⟨d, a, hs, how, rfl, hS, hl, hd, hq⟩ := h
  walk_at "rd"
  unfold adj at hq
  by_cases c1 : how = "none"
  · simp only [if_pos c1] at hq ⊢
    exact hq _ (Same.refl _)
  simp only [if_neg c1] at hq ⊢
  by_cases c2 : how = "next"
  · simp only [if_pos c2] at hq ⊢
    exact ⟨d, a, hs, 1, rfl, hS, hl, hd, .inl rfl, hq _ (Same.refl _)⟩
  simp only [if_neg c2] at hq ⊢
  by_cases c3 : how = "previous"
  · simp only [if_pos c3] at hq ⊢
    exact ⟨d, a, hs, -1, rfl, hS, hl, hd, .inr rfl, hq _ (Same.refl _)⟩
  simp only [if_neg c3] at hq ⊢
  exact ⟨d, a, hs, rfl, hS, hl, hd, hq⟩
def spAdjust (K : PySem.W.Frag) (T : Txt K mg) : Sp := fun vs H Q E => ∃ d a hs how, vs = [.int d, .ref a, .str how] ∧ SqL K H a (hs.map V.int) ∧ hs.length ≤ 1000 ∧ (¬isD d → E (.ref (T.exa .badDay)) none H) ∧ (isD d → how ∉ hows → E (.ref (T.exa .badValue)) none H) ∧
  (isD d → how ∈ hows → ∀ H', Same H H' → match adj hs d how with | none => E (.ref (T.exa .badDay)) none H' | some x => Q (.int x) H')
theorem ok_adjust (T : Txt K mg) : FnOk P w K mg base (L2.CX P w) 8 T.a_adjust T.d_adjust ["day", "holidays", "how"] (spAdjust K T) := by
  refine T.F_adjust.okX sc_adjust (fun vs H Q E h => by obtain ⟨_, _, _, _, rfl, _⟩ := h; rfl) (fun cdv A outer s H vs Q E hr h => ?_)
  refine ⟨_, 
      (pss_cons (ps_expr (pe_call (ok_check_day T) (hr.mono (by decide : 2 ≤ _)) (by rfl) T.g_check_day T.F_check_day.kp T.b_check_day .nil (passes_call (takes_of rfl rfl rfl rfl) (fun _ _ _ _ h => h)) (pa_cons (pv 0) pa_nil)))
      (pss_cons (ps_if (pt_cmpR op_notIn_seq (pv 2) (pe_glob (by rfl) T.g_HOWS T.r_HOWS) (by rfl)) 
        (pss_one (ps_raise rfl (takes_of rfl rfl rfl rfl) (pmk_own PySem.F.excBase_ValueError (T.exx .badValue) (T.exg .badValue) (T.exk .badValue) (raises_own (T.exb .badValue) (T.ext .badValue)) (by rfl)))) pss_nil)
      (pss_cons (ps_set (i := 3) sc_adjust.nd rfl (Or.inl rfl) (pe_call (ok_find_adjusted T) (hr.mono (by decide : 7 ≤ _)) (by rfl) T.g_find_adjusted T.F_find_adjusted.kp T.b_find_adjusted .nil (passes_call (takes_of rfl rfl rfl rfl) (fun _ _ _ _ h => h)) (pa_cons (pv 0) (pa_cons (pv 1) (pa_cons (pv 2) pa_nil)))))
      (pss_cons (ps_if (pt_cmpR op_isN (pv 3) pe_non (nomark _)) 
        (pss_one (ps_raise rfl (takes_of rfl rfl rfl rfl) (pmk_own PySem.F.excBase_ValueError (T.exx .badDay) (T.exg .badDay) (T.exk .badDay) (raises_own (T.exb .badDay) (T.ext .badDay)) (by rfl)))) pss_nil)
      (pss_one (ps_ret (pv 3))))))), ?_⟩
  obtain ⟨d, a, hs, how, rfl, hS, hl, he1, he2, hq⟩ := h
  walk_at "st"
  refine ⟨d, rfl, fun hd => ?_, fun c => he1 c⟩
  walk_at "nx"
  refine ⟨T.a_HOWS, _, rfl, .inr (T.t_HOWS H), rfl, by decide, ?_⟩
  rw [in_hows]
  walk_at "rd"
  by_cases c2 : how ∈ hows
  · rw [if_neg (fun z => z c2)]
    have hq := hq hd c2
    walk_at "nx"
    refine ⟨d, a, hs, how, rfl, hS, hl, hd, fun H1 s1 => ?_⟩
    have hq := hq H1 s1
    cases e : adj hs d how with
    | none =>
      rw [e] at hq
      walk_at "rd"
      walk_at "nx"
      rw [if_pos (by rfl)]
      exact hq
    | some x =>
      rw [e] at hq
      walk_at "rd"
      walk_at "nx"
      rw [if_neg (by simp [optV])]
      walk_at "nx"
      exact hq
  · rw [if_pos c2]
    exact he2 hd c2
/-! ### the law's own -/
def Near (d : Int) (hs : List Int) : Prop := ∀ h ∈ hs, d - 12 ≤ h ∧ h ≤ d + 99
theorem scan_more {hs : List Int} {st : Int} : ∀ {k n m : Nat} {d : Int}, k < n → (¬isD (d + st * k) ∨ works (d + st * k) hs = true) → scan hs st (n + m) d = scan hs st n d
  | k, 0, m, d, h, _ => by omega
  | k, n + 1, m, d, h, e => by
    rw [show n + 1 + m = (n + m) + 1 by omega, scan, scan]
    by_cases c : isD d
    · rw [if_pos c, if_pos c]
      by_cases cw : works d hs = true
      · rw [if_pos cw, if_pos cw]
      · rw [if_neg cw, if_neg cw]
        cases k with
        | zero =>
          simp at e
          exact absurd e (fun z => z.elim (fun z => z c) cw)
        | succ k =>
          refine scan_more (k := k) (by omega) ?_
          rw [show d + st + st * (k : Int) = d + st * ((k + 1 : Nat) : Int) by rw [Int.natCast_succ, Int.mul_add]; omega]
          exact e
    · rw [if_neg c, if_neg c]
theorem scan_near {hs : List Int} {st d : Int} (hn : Near d hs) (hst : st = 1 ∨ st = -1) : scan hs st 40000 d = scan hs st 120 d := by
  have key : ∃ k : Nat, k < 120 ∧ (¬isD (d + st * k) ∨ works (d + st * k) hs = true) := by
    have w : ∀ x : Int, (x < d - 12 ∨ d + 99 < x) → (x + 5) % 7 < 5 → works x hs = true := fun x h1 h2 => decide_eq_true ⟨h2, fun z => by have := hn x z; omega⟩
    rcases hst with rfl | rfl
    · by_cases c : (d + 100 + 5) % 7 < 5
      · exact ⟨100, by omega, .inr (w _ (by omega) (by omega))⟩
      by_cases c2 : (d + 101 + 5) % 7 < 5
      · exact ⟨101, by omega, .inr (w _ (by omega) (by omega))⟩
      · exact ⟨102, by omega, .inr (w _ (by omega) (by omega))⟩
    · by_cases c : (d - 13 + 5) % 7 < 5
      · exact ⟨13, by omega, .inr (w _ (by omega) (by omega))⟩
      by_cases c2 : (d - 14 + 5) % 7 < 5
      · exact ⟨14, by omega, .inr (w _ (by omega) (by omega))⟩
      · exact ⟨15, by omega, .inr (w _ (by omega) (by omega))⟩
  obtain ⟨k, hk, e⟩ := key
  exact scan_more (n := 120) (m := 39880) hk e
def spWorks (K : PySem.W.Frag) : Sp := fun vs H Q _ => ∃ d a hs, vs = [.int d, .ref a] ∧ SqL K H a (hs.map V.int) ∧ hs.length ≤ 1000 ∧ Q (.bl (works d hs)) H
theorem ok_L_works (T : Txt K mg) : FnOk P w K mg base CX0 1 T.a__law_works T.d__law_works ["day", "holidays"] (spWorks K) := by
  refine T.F__law_works.ok sc_L_works (fun vs H Q E h => by obtain ⟨_, _, _, rfl, _⟩ := h; rfl) (fun cdv A outer s H vs Q E hr h => ?_)
  refine ⟨_, 
      (pss_one (ps_ret (pe_and (pe_cmpR op_lt (pe_op op_mod (pe_op op_add (pv 0) pe_int) pe_int) pe_int (nomark _)) (pe_one (pe_cmpR op_notIn_seq (pv 0) (pv 1) (by rfl)))))), ?_⟩
  obtain ⟨d, a, hs, rfl, hS, hl, hq⟩ := h
  walk_at "rd"
  unfold works at hq
  split
  · refine Kv.nin_ints hS ?_
    rename_i c1
    simp only [c1, true_and] at hq
    rw [← decide_not]
    exact hq
  · rename_i c1
    simp only [c1, false_and, decide_false] at hq
    exact hq
def spSearch (K : PySem.W.Frag) : Sp := fun vs H Q _ => ∃ d st a hs, vs = [.int d, .int st, .ref a] ∧ SqL K H a (hs.map V.int) ∧ hs.length ≤ 1000 ∧ isD d ∧ (st = 1 ∨ st = -1) ∧ Q (optV (scan hs st 120 d)) H
def invSearch (d st : Int) (a : Addr) (hs : List Int) (H : Hp) : Nat → L2.St → Hp → Prop := fun i σ' H' => ∃ v3 v4 : Option V, σ' = [some (.int d), some (.int st), some (.ref a), v3, v4] ∧ H' = H ∧ scan hs st 120 d = scan hs st (120 - i) (d + st * i)
theorem ok_L_search (T : Txt K mg) : FnOk P w K mg base CX0 2 T.a__law_search T.d__law_search ["day", "step", "holidays"] (spSearch K) := by
  refine T.F__law_search.ok sc_L_search (fun vs H Q E h => by obtain ⟨_, _, _, _, rfl, _⟩ := h; rfl) (fun cdv A outer s H vs Q E hr h => ?_)
  refine ⟨_, 
      (pss_cons (ps_for PassesOwn.never rfl (pi_range1 (by rfl) T.n_range (pa_cons pe_int pa_nil)) (pg_name (i := 3) sc_L_search.nd rfl (Or.inl rfl)) 
        (pss_cons (ps_set (i := 4) sc_L_search.nd rfl (Or.inl rfl) (pe_op op_add (pv 0) (pe_op op_mulX (pv 1) (pv 3))))
        (pss_cons (ps_if (PW.pt (pw_or (pt_cmpR op_lt (pv 4) pe_int (nomark _)) (pw_or1 (pt_cmpR op_gt (pv 4) pe_int (nomark _))))) 
          (pss_one (ps_ret pe_non)) pss_nil)
        (pss_one (ps_if (pt_val (pe_call (ok_L_works T) (hr.mono (by decide : 1 ≤ _)) (by rfl) T.g__law_works T.F__law_works.kp T.b__law_works .nil pass0 (pa_cons (pv 4) (pa_cons (pv 2) pa_nil)))) 
          (pss_one (ps_ret (pv 4))) pss_nil)))))
      (pss_one (ps_ret pe_non))), ?_⟩
  obtain ⟨d, st, a, hs, rfl, hS, hl, ⟨d0, d1⟩, hst, hq⟩ := h
  walk_at "st"
  refine Kv.for_rng0 (invSearch d st a hs H) ⟨_, _, rfl, rfl, by simp⟩ ?_ ?_
  · rintro i σ' H' hi ⟨_, _, rfl, rfl, e⟩
    have hi : i < 120 := by omega
    have e2 : scan hs st (120 - i) (d + st * i) = if isD (d + st * i) then (if works (d + st * i) hs = true then some (d + st * i) else scan hs st (120 - (i + 1)) (d + st * i + st)) else none := by
      rw [show 120 - i = (120 - (i + 1)) + 1 by omega, scan]
    rw [e2] at e
    walk_at "st"
    refine ⟨Kv.mulX (a := 64) (b := 64) (by rcases hst with rfl | rfl <;> decide) (Kv.bits64 (by omega) (by omega)), ?_⟩
    walk_at "nx"
    split
    · rename_i c
      rw [if_neg (fun z => by have := z.1; omega)] at e
      rw [e] at hq
      exact hq
    split
    · rename_i c
      rw [if_neg (fun z => by have := z.2; omega)] at e
      rw [e] at hq
      exact hq
    rw [if_pos ⟨by omega, by omega⟩] at e
    walk_at "nx"
    refine ⟨_, a, hs, rfl, hS, hl, ?_⟩
    by_cases cw : works (d + st * i) hs = true
    · rw [if_pos cw] at e
      rw [e] at hq
      rw [cw]
      walk_at "rd"
      exact hq
    · rw [if_neg cw] at e
      rw [show works (d + st * i) hs = false from Bool.not_eq_true _ ▸ eq_false_of_ne_true cw]
      walk_at "rd"
      refine ⟨_, _, rfl, rfl, ?_⟩
      rw [e, show d + st * ((i + 1 : Nat) : Int) = d + st * i + st by rw [Int.natCast_succ, Int.mul_add]; omega]
  · rintro σ' H' ⟨_, _, rfl, rfl, e⟩
    walk_at "nx"
    rw [e] at hq
    exact hq
/-- a word and a list of one, as both defs tell -/
def Said (H : Hp) (t : Addr) : Option Int → Prop
  | none => ∃ l, H t = some (.tup [.str "raised", .ref l]) ∧ H l = some (.lst [.str "BadDay"])
  | some x => ∃ l, H t = some (.tup [.str "day", .ref l]) ∧ H l = some (.lst [.int x])
def spDue (K : PySem.W.Frag) : Sp := fun vs H Q _ => ∃ d a hs how, vs = [.int d, .ref a, .str how] ∧ SqL K H a (hs.map V.int) ∧ hs.length ≤ 1000 ∧ isD d ∧ Near d hs ∧ how ∈ hows ∧ ∀ t H', Same H H' → Said H' t (adj hs d how) → Q (.ref t) H'
def midDue (d : Int) (a : Addr) (hs : List Int) (how : Str) (H : Hp) : L2.St → Hp → Prop := fun σ' H' => σ' = [some (.int d), some (.ref a), some (.str how), some (optV (adj hs d how))] ∧ Same H H'
theorem ok_L_due (T : Txt K mg) : FnOk P w K mg base CX0 3 T.a__law_due T.d__law_due ["day", "holidays", "how"] (spDue K) := by
  refine T.F__law_due.ok sc_L_due (fun vs H Q E h => by obtain ⟨_, _, _, _, rfl, _⟩ := h; rfl) (fun cdv A outer s H vs Q E hr h => ?_)
  refine ⟨_, 
      (pss_cons (ps_if (pt_cmpR op_eq (pv 2) pe_str (nomark _)) 
        (pss_one (ps_ret (pe_tup (pa_cons pe_str (pa_cons (pe_lst (pa_cons (pv 0) pa_nil)) pa_nil))))) pss_nil)
      (pss_cons (ps_set (i := 3) sc_L_due.nd rfl (Or.inl rfl) (pe_call (ok_L_search T) (hr.mono (by decide : 2 ≤ _)) (by rfl) T.g__law_search T.F__law_search.kp T.b__law_search .nil pass0 (pa_cons (pv 0) (pa_cons pe_int (pa_cons (pv 1) pa_nil)))))
      (pss_cons (ps_if (pt_cmpR op_eq (pv 2) pe_str (nomark _)) 
        (pss_one (ps_set (i := 3) sc_L_due.nd rfl (Or.inl rfl) (pe_call (ok_L_search T) (hr.mono (by decide : 2 ≤ _)) (by rfl) T.g__law_search T.F__law_search.kp T.b__law_search .nil pass0 (pa_cons (pv 0) (pa_cons (pe_un un_neg pe_int) (pa_cons (pv 1) pa_nil)))))) 
        (pss_one (ps_if (PW.pt (pw_and (pt_cmpR op_eq (pv 2) pe_str (nomark _)) (pw_and1 (PW.pt (pw_or (pt_cmpR op_isN (pv 3) pe_non (nomark _)) (pw_or1 (pt_cmpR (op_neD hr.units) (pe_slice sl_tup (pe_call (ok_L_date T) (hr.mono (by decide : 2 ≤ _)) (by rfl) T.g__law_date T.F__law_date.kp T.b__law_date .nil pass0 (pa_cons (pv 3) pa_nil)) po_none (po_some pe_int)) (pe_slice sl_tup (pe_call (ok_L_date T) (hr.mono (by decide : 2 ≤ _)) (by rfl) T.g__law_date T.F__law_date.kp T.b__law_date .nil pass0 (pa_cons (pv 0) pa_nil)) po_none (po_some pe_int)) (nomark _)))))))) 
          (pss_one (ps_set (i := 3) sc_L_due.nd rfl (Or.inl rfl) (pe_call (ok_L_search T) (hr.mono (by decide : 2 ≤ _)) (by rfl) T.g__law_search T.F__law_search.kp T.b__law_search .nil pass0 (pa_cons (pv 0) (pa_cons (pe_un un_neg pe_int) (pa_cons (pv 1) pa_nil)))))) pss_nil)))
      (pss_cons (ps_if (pt_cmpR op_isN (pv 3) pe_non (nomark _)) 
        (pss_one (ps_ret (pe_tup (pa_cons pe_str (pa_cons (pe_lst (pa_cons pe_str pa_nil)) pa_nil))))) pss_nil)
      (pss_one (ps_ret (pe_tup (pa_cons pe_str (pa_cons (pe_lst (pa_cons (pv 3) pa_nil)) pa_nil))))))))), ?_⟩
  obtain ⟨d, a, hs, how, rfl, hS, hl, hd, hn, hh, hq⟩ := h
  have n1 := scan_near hn (.inl rfl)
  have n2 := scan_near hn (.inr rfl)
  walk_at "st"
  by_cases c1 : how = "none"
  · rw [if_pos c1]
    intro l hl t ht
    refine hq t _ ((Kv.same_upd hl).trans (Kv.same_upd ht)) ?_
    unfold adj
    rw [if_pos c1]
    exact ⟨l, upd_same, Kv.same_upd ht _ _ upd_same⟩
  rw [if_neg c1]
  walk_at "nx"
  refine ⟨d, 1, a, hs, rfl, hS, hl, hd, .inl rfl, ?_⟩
  rw [← n1]
  walk_at "rd"
  subst_vars
  refine Kv.seq_cut (midDue d a hs how H) (fun U hU => ?_) ?_
  · have back : adj hs d how = scan hs (-1) 40000 d → ∀ H', Same H H' → spSearch K [.int d, .int (-1), .ref a] H' (fun x H1 => U [some (.int d), some (.ref a), some (.str how), some x] H1) E0 := by
      intro e H' s1
      refine ⟨d, -1, a, hs, rfl, s1.seq hS, hl, hd, .inr rfl, hU _ _ ⟨?_, s1⟩⟩
      rw [e, n2]
    walk_at "rd"
    by_cases c2 : how = "previous"
    · rw [if_pos c2]
      refine back ?_ _ (Same.refl _)
      unfold adj
      rw [if_neg c1, if_neg (by rw [c2]; decide +kernel), if_pos c2]
    rw [if_neg c2]
    by_cases c3 : how = "modified"
    · rw [if_pos c3]
      have ea : adj hs d how = modi hs d := by
        unfold adj
        rw [if_neg c1, if_neg (by rw [c3]; decide +kernel), if_neg c2]
      cases e : scan hs 1 40000 d with
      | none =>
        simp only [optV]
        walk_at "rd"
        refine back ?_ _ (Same.refl _)
        rw [ea]
        unfold modi
        rw [e]
      | some x =>
        have hx := scan_isD e
        simp only [optV]
        walk_at "rd"
        refine ⟨x, rfl, hx, fun y m q p H1 hdt he s1 hp hp1 => ?_⟩
        refine ⟨p, _, rfl, SqT.of hp1, (show ¬(HT.sIx 3 0 none = 0 ∧ HT.sIx 3 3 (some 2) = 3) by decide), fun p2 hp2 => ?_⟩
        rw [show cutV [V.int y, V.int m, V.int q] none (some 2) = [.int y, .int m] from rfl]
        have s2 := Kv.same_upd (o := .tup [.int y, .int m]) hp2
        refine ⟨d, rfl, hd, fun y2 m2 q2 p3 H2 hdt2 he2 s3 hp3 hp4 => ?_⟩
        refine ⟨p3, _, rfl, SqT.of hp4, (show ¬(HT.sIx 3 0 none = 0 ∧ HT.sIx 3 3 (some 2) = 3) by decide), fun p5 hp5 => ?_⟩
        rw [show cutV [V.int y2, V.int m2, V.int q2] none (some 2) = [.int y2, .int m2] from rfl]
        have s4 := Kv.same_upd (o := .tup [.int y2, .int m2]) hp5
        have sA := s1.trans (s2.trans (s3.trans s4))
        have hM := month_iff hdt he hdt2 he2
        refine ⟨.tuple [.int y, .int m], .tuple [.int y2, .int m2], .tup (SqT.of (s4 _ _ (s3 _ _ upd_same))) (.cons (.int _) (.cons (.int _) .nil)), .tup (SqT.of upd_same) (.cons (.int _) (.cons (.int _) .nil)), by walk_at "shp", by walk_at "shp", ?_⟩
        have ee : PyData.eqv (.tuple [.int y, .int m]) (.tuple [.int y2, .int m2]) = decide (y = y2 ∧ m = m2) := by
          by_cases e1 : y = y2 <;> by_cases e2 : m = m2 <;> simp [PyData.eqv, PyData.eqvAll, e1, e2]
        rw [ee]
        by_cases c : y = y2 ∧ m = m2
        · have hm : modi hs d = some x := by
            unfold modi
            rw [e]
            exact if_pos (hM.mpr c)
          rw [decide_eq_true c]
          walk_at "rd"
          exact hU _ _ ⟨by rw [ea, hm]; rfl, sA⟩
        · have hm : modi hs d = scan hs (-1) 40000 d := by
            unfold modi
            rw [e]
            exact if_neg (fun z => c (hM.mp z))
          rw [decide_eq_false c]
          walk_at "rd"
          exact back (by rw [ea, hm]) _ sA
    · rw [if_neg c3]
      have c4 : how = "next" := by
        unfold hows at hh
        simp only [List.mem_cons, List.not_mem_nil, or_false] at hh
        rcases hh with z | z | z | z
        · exact absurd z c1
        · exact z
        · exact absurd z c2
        · exact absurd z c3
      have ea : adj hs d how = scan hs 1 40000 d := by
        unfold adj
        rw [if_neg c1, if_pos c4]
      exact hU _ _ ⟨by rw [ea], Same.refl _⟩
  rintro σ' H' ⟨rfl, s1⟩
  walk_at "st"
  cases e : adj hs d how with
  | none =>
    rw [if_pos (by rfl)]
    intro l hl t ht
    refine hq t _ (s1.trans ((Kv.same_upd hl).trans (Kv.same_upd ht))) ?_
    rw [e]
    exact ⟨l, upd_same, Kv.same_upd ht _ _ upd_same⟩
  | some x =>
    rw [if_neg (by simp [optV])]
    simp only [optV]
    walk_at "nx"
    intro l hl t ht
    refine hq t _ (s1.trans ((Kv.same_upd hl).trans (Kv.same_upd ht))) ?_
    rw [e]
    exact ⟨l, upd_same, Kv.same_upd ht _ _ upd_same⟩
def spTold (K : PySem.W.Frag) : Sp := fun vs H Q _ => ∃ d a hs how, vs = [.int d, .ref a, .str how] ∧ SqL K H a (hs.map V.int) ∧ hs.length ≤ 1000 ∧ (isD d → how ∈ hows → ∀ t H', Same H H' → Said H' t (adj hs d how) → Q (.ref t) H') ∧
  (isD d → how ∉ hows → ∀ t l H', Same H H' → H' t = some (.tup [.str "raised", .ref l]) → H' l = some (.lst [.str "BadValue"]) → Q (.ref t) H') ∧ (¬isD d → ∀ t l H', Same H H' → H' t = some (.tup [.str "raised", .ref l]) → H' l = some (.lst [.str "BadDay"]) → Q (.ref t) H')
theorem ok_L_told (T : Txt K mg) : FnOk P w K mg base CX0 9 T.a__law_told T.d__law_told ["day", "holidays", "how"] (spTold K) := by
  refine T.F__law_told.ok sc_L_told (fun vs H Q E h => by obtain ⟨_, _, _, _, rfl, _⟩ := h; rfl) (fun cdv A outer s H vs Q E hr h => ?_)
  refine ⟨_, 
      (pss_cons (ps_set (i := 3) sc_L_told.nd rfl (Or.inl rfl) (pe_callTy call_list_of (by rfl) T.n_list (by decide +kernel) (pa_cons (pv 1) pa_nil)))
      (pss_cons (ps_try_as (i := 5) rfl rfl sc_L_told.nd rfl rfl ⟨rfl, by decide, .inl T.g_BankError⟩ takes0 (fun W pn xe tk hpo => by exact (
          (pss_one (ps_set (i := 4) sc_L_told.nd rfl (Or.inl rfl) (pe_callS (ok_adjust T) (hr.mono (by decide : 8 ≤ _)) (by rfl) T.g_adjust T.F_adjust.kp T.b_adjust (fun σ => passAt tk σ) (pa_cons (pv 0) (pa_cons (pv 3) (pa_cons (pv 2) pa_nil)))))))) (fun a oe cls d pn hz hf => by exact (
          (pss_one (ps_ret (pe_tup (pa_cons pe_str (pa_cons (Kv.pe_kinds (ok_L_kinds T) hz hf List.mem_cons_self ⟨(hr.mono (by decide : 1 ≤ _)).dp, (hr.mono (by decide : 1 ≤ _)).un⟩ (by rfl) T.g__law_kinds T.F__law_kinds.kp T.b__law_kinds (pa_cons (pv 5) pa_nil)) pa_nil))))))))
      (pss_cons (ps_if (PW.pt (pw_or (pt_val (pe_callB call_isi (by rfl) T.n_isinstance (by decide +kernel) (pa_cons (pv 4) (pa_cons (pe_bltn (v := .ty "bool") (by rfl) T.n_bool (by decide +kernel) rfl) pa_nil)))) (pw_or (pt_not (pt_val (pe_callB call_isi (by rfl) T.n_isinstance (by decide +kernel) (pa_cons (pv 4) (pa_cons (pe_bltn (v := .ty "int") (by rfl) T.n_int (by decide +kernel) rfl) pa_nil))))) (pw_or1 (pt_cmpR (op_neD hr.units) (pv 3) (pv 1) (nomark _)))))) 
        (pss_one (ps_ret (pe_tup (pa_cons pe_str (pa_cons (pe_lst pa_nil) pa_nil))))) pss_nil)
      (pss_one (ps_ret (pe_tup (pa_cons pe_str (pa_cons (pe_lst (pa_cons (pv 4) pa_nil)) pa_nil)))))))), ?_⟩
  obtain ⟨d, a, hs, how, rfl, hS, hl, hq, hv, he⟩ := h
  walk_at "st"
  refine ⟨_, .inl hS, fun p hp => ?_⟩
  have s1 := Kv.same_upd (o := .lst (hs.map V.int)) hp
  walk_at "nx"
  refine ⟨d, p, hs, how, rfl, SqL.of upd_same, hl, fun c => ⟨true, T.exm _, fun _ a ha => ?_, fun z => nomatch z⟩, fun c c2 => ⟨true, T.exm _, fun _ a ha => ?_, fun z => nomatch z⟩, fun c c2 H1 s2 => ?_⟩
  · walk_at "rd"
    refine ⟨_, rfl, fun p1 hp1 => fun t htt => ?_⟩
    exact he c t p1 _ (s1.trans ((Kv.same_upd hp1).trans (Kv.same_upd htt))) upd_same (Kv.same_upd htt _ _ upd_same)
  · walk_at "rd"
    refine ⟨_, rfl, fun p1 hp1 => fun t htt => ?_⟩
    exact hv c c2 t p1 _ (s1.trans ((Kv.same_upd hp1).trans (Kv.same_upd htt))) upd_same (Kv.same_upd htt _ _ upd_same)
  · have hq := hq c c2
    cases e : adj hs d how with
    | none =>
      rw [e] at hq
      refine ⟨true, T.exm _, fun _ a ha => ?_, fun z => nomatch z⟩
      walk_at "rd"
      refine ⟨_, rfl, fun p1 hp1 => fun t htt => ?_⟩
      exact hq t _ (s1.trans (s2.trans ((Kv.same_upd hp1).trans (Kv.same_upd htt)))) ⟨p1, upd_same, Kv.same_upd htt _ _ upd_same⟩
    | some x =>
      rw [e] at hq
      show (_ : Prop)
      walk_at "rd"
      walk_at "nx"
      refine Kv.isi_int (b := false) (by decide +kernel) ?_
      walk_at "rd"
      refine Kv.isi_int (b := true) (by decide +kernel) ?_
      walk_at "rd"
      refine Kv.ne_ints (SqL.of (s2 _ _ upd_same)) ((s1.trans s2).seq hS) ?_
      rw [decide_eq_true rfl]
      walk_at "rd"
      walk_at "nx"
      intro l hl t ht
      exact hq t _ (s1.trans (s2.trans ((Kv.same_upd hl).trans (Kv.same_upd ht)))) ⟨l, upd_same, Kv.same_upd ht _ _ upd_same⟩
def spDay (K : PySem.W.Frag) : Sp := fun vs H Q _ => ∃ (a : Addr) (ns : List Int), vs = [.ref a] ∧ SqL K H a (ns.map V.int) ∧ ns.length = 32 ∧ ∀ d, isD d → Q (.int d) H
theorem ok_L_day (T : Txt K mg) : FnOk P w K mg base CX0 1 T.a__law_day T.d__law_day ["numbers"] (spDay K) := by
  refine T.F__law_day.ok sc_L_day (fun vs H Q E h => by obtain ⟨_, _, rfl, _⟩ := h; rfl) (fun cdv A outer s H vs Q E hr h => ?_)
  refine ⟨_, 
      (pss_cons (ps_if (pt_cmpR op_eq (pe_op op_mod (pe_ix ix_list (pv 0) pe_int (fun _ _ => rfl)) pe_int) pe_int (nomark _)) 
        (pss_one (ps_ret (pe_op op_mod (pe_ix ix_list (pv 0) pe_int (fun _ _ => rfl)) pe_int))) pss_nil)
      (pss_cons (ps_if (pt_cmpR op_eq (pe_op op_mod (pe_ix ix_list (pv 0) pe_int (fun _ _ => rfl)) pe_int) pe_int (nomark _)) 
        (pss_one (ps_ret (pe_op op_sub pe_int (pe_op op_mod (pe_ix ix_list (pv 0) pe_int (fun _ _ => rfl)) pe_int)))) pss_nil)
      (pss_one (ps_ret (pe_op op_mod (pe_ix ix_list (pv 0) pe_int (fun _ _ => rfl)) pe_int))))), ?_⟩
  obtain ⟨a, ns, rfl, hS, hl, hq⟩ := h
  walk_at "rd"
  refine Kv.ix_num hS (by omega) ?_
  walk_at "rd"
  split
  · refine Kv.ix_num hS (by omega) ?_
    walk_at "rd"
    exact hq _ (by unfold isD; omega)
  refine Kv.ix_num hS (by omega) ?_
  walk_at "rd"
  split
  · refine Kv.ix_num hS (by omega) ?_
    walk_at "rd"
    exact hq _ (by unfold isD; omega)
  refine Kv.ix_num hS (by omega) ?_
  walk_at "rd"
  exact hq _ (by unfold isD; omega)
def spHols (K : PySem.W.Frag) : Sp := fun vs H Q _ => ∃ (a : Addr) (ns : List Int) (d : Int), vs = [.ref a, .int d] ∧ SqL K H a (ns.map V.int) ∧ ns.length = 32 ∧ ∀ p hs H', Near d hs → hs.length ≤ 1000 → Same H H' → H' p = some (.lst (hs.map V.int)) → Q (.ref p) H'
def midHols (a : Addr) (d f : Int) (B : Nat) (H : Hp) : L2.St → Hp → Prop := fun σ' H' => ∃ (p : Addr) (hs : List Int) (v4 v5 v6 : Option V), σ' = [some (.ref a), some (.int d), some (.int f), some (.ref p), v4, v5, v6] ∧ Same H H' ∧ Near d hs ∧ hs.length ≤ B ∧ H' p = some (.lst (hs.map V.int))
def midAgain (a : Addr) (d f : Int) (H : Hp) : L2.St → Hp → Prop := fun σ' H' => ∃ (p q : Addr) (hs gs : List Int) (v4 v6 : Option V), σ' = [some (.ref a), some (.int d), some (.int f), some (.ref p), v4, some (.ref q), v6] ∧ Same H H' ∧ Near d hs ∧ Near d gs ∧ hs.length ≤ 100 ∧ gs.length ≤ 100 ∧ H' p = some (.lst (hs.map V.int)) ∧ H' q = some (.lst (gs.map V.int))
theorem ok_L_holidays (T : Txt K mg) : FnOk P w K mg base CX0 1 T.a__law_holidays T.d__law_holidays ["numbers", "day"] (spHols K) := by
  refine T.F__law_holidays.ok sc_L_holidays (fun vs H Q E h => by obtain ⟨_, _, _, rfl, _⟩ := h; rfl) (fun cdv A outer s H vs Q E hr h => ?_)
  refine ⟨_, 
      (pss_cons (ps_set (i := 2) sc_L_holidays.nd rfl (Or.inr rfl) (pe_op op_sub (pv 1) (pe_op op_mod (pe_ix ix_list (pv 0) pe_int (fun _ _ => rfl)) pe_int)))
      (pss_cons (ps_set (i := 3) sc_L_holidays.nd rfl (Or.inr rfl) (pe_lc (own := [("k", 4)]) (g := gName 4) (tt := tYes) rfl sc_L_holidays.nd (pi_range1 (by rfl) T.n_range (pa_cons (pe_op op_mod (pe_ix ix_list (pv 0) pe_int (fun _ _ => rfl)) pe_int) pa_nil)) (blkOk_by (N := ["numbers", "day", "first", "days", "k", "again", "near"]) (sc := defScope s_L_holidays) (by decide +kernel)) (fun _ _ _ _ _ => (pg_name (i := 4) sc_L_holidays.nd rfl (Or.inl rfl))) (fun _ _ _ _ _ => pts_nil) (fun _ _ _ _ _ => (pe_op op_add (pv 2) (pv 4)))))
      (pss_cons (ps_set (i := 3) sc_L_holidays.nd rfl (Or.inr rfl) (pe_op Kv.op_catS (pv 3) (pe_lc (own := [("k", 4)]) (g := gName 4) (tt := tYes) rfl sc_L_holidays.nd (pi_range1 (by rfl) T.n_range (pa_cons (pe_op op_mod (pe_ix ix_list (pv 0) pe_int (fun _ _ => rfl)) pe_int) pa_nil)) (blkOk_by (N := ["numbers", "day", "first", "days", "k", "again", "near"]) (sc := defScope s_L_holidays) (by decide +kernel)) (fun _ _ _ _ _ => (pg_name (i := 4) sc_L_holidays.nd rfl (Or.inl rfl))) (fun _ _ _ _ _ => pts_nil) (fun _ _ _ _ _ => (pe_op op_add (pe_op op_sub (pv 1) pe_int) (pe_op op_mod (pe_ix (Kv.ixl K) (pv 0) (pe_op op_add pe_int (pv 4)) (fun _ _ => rfl)) pe_int))))))
      (pss_cons (ps_set (i := 5) sc_L_holidays.nd rfl (Or.inl rfl) (pe_slice sl_list (pv 3) po_none (po_some (pe_op op_mod (pe_ix ix_list (pv 0) pe_int (fun _ _ => rfl)) pe_int))))
      (pss_cons (ps_set (i := 3) sc_L_holidays.nd rfl (Or.inr rfl) (pe_op Kv.op_catS (pe_lc (own := [("k", 4)]) (g := gName 4) (tt := tYes) rfl sc_L_holidays.nd (pi_range1 (by rfl) T.n_range (pa_cons (pe_callB call_len_seq (by rfl) T.n_len PySem.boot_len (pa_cons (pv 3) pa_nil)) pa_nil)) (blkOk_by (N := ["numbers", "day", "first", "days", "k", "again", "near"]) (sc := defScope s_L_holidays) (by decide +kernel)) (fun _ _ _ _ _ => (pg_name (i := 4) sc_L_holidays.nd rfl (Or.inl rfl))) (fun _ _ _ _ _ => pts_nil) (fun _ _ _ _ _ => (pe_ix (Kv.ixl K) (pv 3) (pe_op op_sub (pe_op op_sub (pe_callB (Kv.call_lenK K) (by rfl) T.n_len PySem.boot_len (pa_cons (pv 3) pa_nil)) pe_int) (pv 4)) (fun _ _ => rfl)))) (pv 5)))
      (pss_cons (ps_if (pt_cmpR op_eq (pe_op op_mod (pe_ix ix_list (pv 0) pe_int (fun _ _ => rfl)) pe_int) pe_int (nomark _)) 
        (pss_cons (ps_set (i := 3) sc_L_holidays.nd rfl (Or.inr rfl) (pe_lc (own := [("k", 4)]) (g := gName 4) (tt := tYes) rfl sc_L_holidays.nd (pi_range1 (by rfl) T.n_range (pa_cons (pe_op op_mod (pe_ix ix_list (pv 0) pe_int (fun _ _ => rfl)) pe_int) pa_nil)) (blkOk_by (N := ["numbers", "day", "first", "days", "k", "again", "near"]) (sc := defScope s_L_holidays) (by decide +kernel)) (fun _ _ _ _ _ => (pg_name (i := 4) sc_L_holidays.nd rfl (Or.inl rfl))) (fun _ _ _ _ _ => pts_nil) (fun _ _ _ _ _ => (pe_op op_add (pv 2) (pv 4)))))
        (pss_one (ps_if (pt_cmpR op_eq (pe_op op_mod (pe_ix ix_list (pv 0) pe_int (fun _ _ => rfl)) pe_int) pe_int (nomark _)) 
          (pss_one (ps_set (i := 3) sc_L_holidays.nd rfl (Or.inr rfl) (pe_lc (own := [("k", 4)]) (g := gName 4) (tt := tYes) rfl sc_L_holidays.nd (pi_range1 (by rfl) T.n_range (pa_cons (pe_callB call_len_seq (by rfl) T.n_len PySem.boot_len (pa_cons (pv 3) pa_nil)) pa_nil)) (blkOk_by (N := ["numbers", "day", "first", "days", "k", "again", "near"]) (sc := defScope s_L_holidays) (by decide +kernel)) (fun _ _ _ _ _ => (pg_name (i := 4) sc_L_holidays.nd rfl (Or.inl rfl))) (fun _ _ _ _ _ => pts_nil) (fun _ _ _ _ _ => (pe_ix (Kv.ixl K) (pv 3) (pe_op op_sub (pe_op op_sub (pe_callB (Kv.call_lenK K) (by rfl) T.n_len PySem.boot_len (pa_cons (pv 3) pa_nil)) pe_int) (pv 4)) (fun _ _ => rfl)))))) pss_nil))) pss_nil)
      (pss_one (ps_ret (pe_lc (own := [("near", 6)]) (g := gName 6) rfl sc_L_holidays.nd (pi_list (pv 3)) (blkOk_by (N := ["numbers", "day", "first", "days", "k", "again", "near"]) (sc := defScope s_L_holidays) (by decide +kernel)) (fun _ _ _ _ _ => (pg_name (i := 6) sc_L_holidays.nd rfl (Or.inl rfl))) (fun _ _ _ _ _ => pts_one (PW.pt (pw_and (pt_cmpR op_le pe_int (pv 6) (nomark _)) (pw_and1 (pt_cmpR op_le (pv 6) pe_int (nomark _)))))) (fun _ _ _ _ _ => (pv 6))))))))))), ?_⟩
  obtain ⟨a, ns, d, rfl, hS, hl, hq⟩ := h
  walk_at "st"
  refine Kv.ix_num hS (by omega) ?_
  walk_at "rd"
  have hf : d - 12 ≤ d - ns.getD 2 0 % 11 ∧ d - ns.getD 2 0 % 11 ≤ d := by omega
  generalize d - ns.getD 2 0 % 11 = f at *
  subst_vars
  refine Kv.seq_cut (midHols a d f 50 H) (fun U hU => ?_) ?_
  · walk_at "rd"
    refine Kv.ix_num hS (by omega) ?_
    walk_at "rd"
    refine ⟨by omega, by omega, Kv.lc_ints walk_range (fun v => d - 12 ≤ v ∧ v ≤ d + 99) (Nat.lt_of_le_of_lt (show _ ≤ 100 by omega) (by decide)) (fun _ _ => trivial) (fun i x H1 H2 U2 hi s1 hY hu => ?_) fun p hs H1 hp s1 hl1 hP e => ?_⟩
    · obtain ⟨rfl, rfl⟩ := hY
      walk_at "rd"
      exact hu _ _ (by omega) (Same.refl _)
    · exact hU _ _ ⟨p, hs, _, _, _, rfl, s1, hP, by omega, e⟩
  rintro σ' H1 ⟨p, hs, _, _, _, rfl, s1, hN, hn, hp⟩
  refine Kv.seq_cut (midHols a d f 100 H) (fun U hU => ?_) ?_
  · walk_at "rd"
    refine Kv.ix_num (s1.seq hS) (by omega) ?_
    walk_at "rd"
    refine ⟨by omega, by omega, Kv.lc_ints walk_range (fun v => d - 12 ≤ v ∧ v ≤ d + 99) (Nat.lt_of_le_of_lt (show _ ≤ 100 by omega) (by decide)) (fun _ _ => trivial) (fun i x H2 H3 U2 hi s2 hY hu => ?_) fun q hs2 H2 hq s2 hl2 hP e => ?_⟩
    · obtain ⟨rfl, rfl⟩ := hY
      walk_at "rd"
      refine Kv.ix_num ((s1.trans s2).seq hS) (by omega) ?_
      walk_at "rd"
      exact hu _ _ (by omega) (Same.refl _)
    · refine ⟨p, q, _, _, rfl, rfl, SqL.of (s2 _ _ hp), SqL.of e, Nat.le_trans (show (hs.map V.int).length + (hs2.map V.int).length ≤ 1000 by simp; omega) (by decide), fun r hr => ?_⟩
      rw [← List.map_append]
      refine hU _ _ ⟨r, hs ++ hs2, _, _, _, rfl, s1.trans (s2.trans (Kv.same_upd hr)), fun h hh => ?_, by simp; omega, upd_same⟩
      rcases List.mem_append.mp hh with z | z
      · exact hN h z
      · exact hP h z
  rintro σ' H2 ⟨p, hs, _, _, _, rfl, s2, hN, hn, hp⟩
  refine Kv.seq_cut (midAgain a d f H) (fun U hU => ?_) ?_
  · walk_at "rd"
    refine Kv.ix_num (s2.seq hS) (by omega) ?_
    walk_at "rd"
    refine ⟨p, _, rfl, SqL.of hp, fun q hq1 => ?_⟩
    rw [Kv.cut_to (by omega), ← List.map_take]
    refine hU _ _ ⟨p, q, hs, hs.take (ns.getD 5 0 % 16).toNat, _, _, rfl, s2.trans (Kv.same_upd hq1), hN, fun h hh => hN h (List.mem_of_mem_take hh), hn, by simp; omega, Kv.same_upd hq1 _ _ hp, upd_same⟩
  rintro σ' H3 ⟨p, q, hs, gs, _, _, rfl, s3, hN, hG, hn, hg, hp, hq3⟩
  have rev : ∀ (H4 : Hp) (hs : List Int) (p : Addr) (v4 v5 v6 : Option V) (Q2 : VK), H4 p = some (.lst (hs.map V.int)) → Near d hs → hs.length ≤ 1000 → (∀ r hs2 H5, Same H4 H5 → Near d hs2 → hs2.length = hs.length → H5 r = some (.lst (hs2.map V.int)) → Q2 (.ref r) H5) →
      Kv.LcGoal (Itr 0 ((hs.length : Int)).toNat) (gName 4) tYes (tOp (rIxL K) (tVar 3) (tOp (rI0 fun i j => V.int (i - j)) (tOp (rI0 fun i j => V.int (i - j)) (tCB (fun xs H Q => ∃ p, xs = [V.ref p] ∧ ∃ x, (SqL K H p x ∨ SqT K H p x) ∧ Q (V.int ↑x.length) H) (tCons (tVar 3) tNil)) (tC (V.int 1))) (tVar 4))) [4]
        [some (.ref a), some (.int d), some (.int f), some (.ref p), v4, v5, v6] H4 Q2 := by
    intro H4 hs p v4 v5 v6 Q2 hp hN hl1 hQ2
    refine Kv.lc_ints walk_range (fun v => d - 12 ≤ v ∧ v ≤ d + 99) (Nat.lt_of_le_of_lt (show _ ≤ 1000 by omega) (by decide)) (fun _ _ => trivial) (fun i x H2 H3 U2 hi s2 hY hu => ?_) fun q hs2 H2 hq s2 hl2 hP e => hQ2 q hs2 H2 s2 hP (by omega) e
    obtain ⟨rfl, rfl⟩ := hY
    walk_at "rd"
    refine ⟨_, .inl (SqL.of (s2 _ _ hp)), ?_⟩
    walk_at "rd"
    rw [List.length_map]
    refine Kv.ix_num (SqL.of (s2 _ _ hp)) (by omega) ?_
    refine hu _ _ ?_ (Same.refl _)
    rw [List.getD_eq_getElem?_getD, List.getElem?_eq_getElem (by omega)]
    exact hN _ (List.getElem_mem _)
  refine Kv.seq_cut (midHols a d f 200 H) (fun U hU => ?_) ?_
  · walk_at "rd"
    refine ⟨_, .inl (SqL.of hp), ?_⟩
    rw [List.length_map]
    refine ⟨by omega, by omega, rev H3 hs p _ _ _ _ hp hN (by omega) fun r hs2 H4 s4 hN2 hl2 hr => ?_⟩
    refine ⟨r, q, _, _, rfl, rfl, SqL.of hr, SqL.of (s4 _ _ hq3), Nat.le_trans (show (hs2.map V.int).length + (gs.map V.int).length ≤ 1000 by simp; omega) (by decide), fun r2 hr2 => ?_⟩
    rw [← List.map_append]
    refine hU _ _ ⟨r2, hs2 ++ gs, _, _, _, rfl, s3.trans (s4.trans (Kv.same_upd hr2)), fun h hh => ?_, by simp; omega, upd_same⟩
    rcases List.mem_append.mp hh with z | z
    · exact hN2 h z
    · exact hG h z
  rintro σ' H4 ⟨p, hs, _, _, _, rfl, s4, hN, hn, hp⟩
  refine Kv.seq_cut (midHols a d f 200 H) (fun U hU => ?_) ?_
  · walk_at "rd"
    refine Kv.ix_num (s4.seq hS) (by omega) ?_
    walk_at "rd"
    split
    · refine Kv.ix_num (s4.seq hS) (by omega) ?_
      walk_at "rd"
      refine ⟨by omega, by omega, Kv.lc_ints walk_range (fun v => d - 12 ≤ v ∧ v ≤ d + 99) (Nat.lt_of_le_of_lt (show _ ≤ 200 by omega) (by decide)) (fun _ _ => trivial) (fun i x H1 H2 U2 hi s1 hY hu => ?_) fun p hs H5 hp s5 hl1 hP e => ?_⟩
      · obtain ⟨rfl, rfl⟩ := hY
        walk_at "rd"
        exact hu _ _ (by omega) (Same.refl _)
      refine Kv.ix_num ((s4.trans s5).seq hS) (by omega) ?_
      walk_at "rd"
      split
      · refine ⟨_, .inl (SqL.of e), ?_⟩
        rw [List.length_map]
        refine ⟨by omega, by omega, rev H5 hs p _ _ _ _ e hP (by omega) fun r hs2 H6 s6 hN2 hl2 hr => ?_⟩
        exact hU _ _ ⟨r, hs2, _, _, _, rfl, s4.trans (s5.trans s6), hN2, by omega, hr⟩
      · exact hU _ _ ⟨p, hs, _, _, _, rfl, s4.trans s5, hP, by omega, e⟩
    · exact hU _ _ ⟨p, hs, _, _, _, rfl, s4, hN, hn, hp⟩
  rintro σ' H5 ⟨p, hs, _, _, _, rfl, s5, hN, hn, hp⟩
  walk_at "rd"
  refine ⟨⟨_, SqL.of hp⟩, Kv.lc_filter (xs := hs.map V.int) hs (by simp) (fun h => decide (0 ≤ h ∧ h ≤ 36524)) V.int (Nat.lt_of_le_of_lt (show _ ≤ 1000 by simp; omega) (by decide)) (SqL.of hp) (fun i x t H6 U N hx ht s6 h1 h2 => ?_) fun q H6 hq6 s6 e6 => ?_⟩
  · rw [List.getElem?_map, ht] at hx
    cases hx
    walk_at "rd"
    split
    · split
      · exact h1 (decide_eq_true ⟨by omega, by omega⟩) _ (Same.refl _)
      · exact h2 (decide_eq_false (by omega)) _ (Same.refl _)
    · exact h2 (decide_eq_false (by omega)) _ (Same.refl _)
  · exact hq q _ _ (fun h hh => hN h (List.mem_filter.mp hh).1) (Nat.le_trans (List.length_filter_le _ _) (by omega)) (s5.trans s6) e6
def spTells (K : PySem.W.Frag) : Sp := fun vs H Q _ => ∃ (d : Int) (a : Addr) (hs : List Int), vs = [.int d, .ref a] ∧ SqL K H a (hs.map V.int) ∧ hs.length ≤ 1000 ∧ isD d ∧ ∀ H', Same H H' → Q (.bl true) H'
def invTells (d : Int) (a : Addr) (H : Hp) : Nat → L2.St → Hp → Prop := fun _ σ' H' => ∃ v2 v3 v4 v5 v6 : Option V, σ' = [some (.int d), some (.ref a), v2, v3, v4, v5, v6] ∧ Same H H'
theorem ok_L_tells_working (T : Txt K mg) : FnOk P w K mg base CX0 5 T.a__law_tells_working T.d__law_tells_working ["day", "holidays"] (spTells K) := by
  refine T.F__law_tells_working.ok sc_L_tells_working (fun vs H Q E h => by obtain ⟨_, _, _, rfl, _⟩ := h; rfl) (fun cdv A outer s H vs Q E hr h => ?_)
  refine ⟨_, 
      (pss_cons (ps_for PassesOwn.never rfl (pi_range2 (by rfl) T.n_range (pa_cons (pe_op op_sub (pv 0) pe_int) (pa_cons (pe_op op_add (pv 0) pe_int) pa_nil))) (pg_name (i := 2) sc_L_tells_working.nd rfl (Or.inl rfl)) 
        (pss_cons (ps_set (i := 3) sc_L_tells_working.nd rfl (Or.inl rfl) (pe_callTy call_list_of (by rfl) T.n_list (by decide +kernel) (pa_cons (pv 1) pa_nil)))
        (pss_cons (ps_try_as (i := 5) rfl rfl sc_L_tells_working.nd rfl rfl ⟨rfl, by decide, .inl T.g_BankError⟩ takes0 (fun W pn xe tk hpo => by exact (
            (pss_one (ps_set (i := 4) sc_L_tells_working.nd rfl (Or.inl rfl) (pe_callS (ok_is_working T) (hr.mono (by decide : 4 ≤ _)) (by rfl) T.g_is_working T.F_is_working.kp T.b_is_working (fun σ => passAt tk σ) (pa_cons (pv 2) (pa_cons (pv 3) pa_nil))))))) (fun a oe cls d pn hz hf => by exact (
            (pss_one (ps_set (i := 4) sc_L_tells_working.nd rfl (Or.inl rfl) (Kv.pe_kinds (ok_L_kinds T) hz hf List.mem_cons_self ⟨(hr.mono (by decide : 1 ≤ _)).dp, (hr.mono (by decide : 1 ≤ _)).un⟩ (by rfl) T.g__law_kinds T.F__law_kinds.kp T.b__law_kinds (pa_cons (pv 5) pa_nil)))))))
        (pss_cons (ps_if (pt_cmpR (op_neD hr.units) (pv 3) (pv 1) (nomark _)) 
          (pss_one (ps_ret pe_bl)) pss_nil)
        (pss_cons (ps_set (i := 6) sc_L_tells_working.nd rfl (Or.inl rfl) (pe_lst (pa_cons pe_str pa_nil)))
        (pss_cons (ps_if (PW.pt (pw_and (pt_cmpR op_le pe_int (pv 2) (nomark _)) (pw_and1 (pt_cmpR op_le (pv 2) pe_int (nomark _))))) 
          (pss_one (ps_set (i := 6) sc_L_tells_working.nd rfl (Or.inl rfl) (pe_call (ok_L_works T) (hr.mono (by decide : 1 ≤ _)) (by rfl) T.g__law_works T.F__law_works.kp T.b__law_works .nil pass0 (pa_cons (pv 2) (pa_cons (pv 1) pa_nil))))) pss_nil)
        (pss_one (ps_if (PW.pt (pw_or (pt_cmpR (op_neD hr.units) (pv 4) (pv 6) (nomark _)) (pw_or1 (PW.pt (pw_and (pt_val (pe_callB call_isi (by rfl) T.n_isinstance (by decide +kernel) (pa_cons (pv 4) (pa_cons (pe_bltn (v := .ty "int") (by rfl) T.n_int (by decide +kernel) rfl) pa_nil)))) (pw_and1 (pt_not (pt_val (pe_callB call_isi (by rfl) T.n_isinstance (by decide +kernel) (pa_cons (pv 4) (pa_cons (pe_bltn (v := .ty "bool") (by rfl) T.n_bool (by decide +kernel) rfl) pa_nil))))))))))) 
          (pss_one (ps_ret pe_bl)) pss_nil))))))))
      (pss_one (ps_ret pe_bl))), ?_⟩
  obtain ⟨d, a, hs, rfl, hS, hl, ⟨d0, d1⟩, hq⟩ := h
  walk_at "st"
  refine ⟨by omega, by omega, by omega, by omega, Kv.for_rng (invTells d a H) ⟨_, _, _, _, _, rfl, Same.refl _⟩ ?_ ?_⟩
  · rintro i σ' H' hi ⟨_, _, _, _, _, rfl, s1⟩
    walk_at "st"
    refine ⟨_, .inl (s1.seq hS), fun p hp => ?_⟩
    have s2 := Kv.same_upd (o := .lst (hs.map V.int)) hp
    walk_at "nx"
    refine ⟨_, p, hs, rfl, SqL.of upd_same, hl, fun c => ?_, fun c => ⟨true, T.exm _, fun _ a ha => ?_, fun z => nomatch z⟩⟩
    · walk_at "rd"
      walk_at "nx"
      refine Kv.ne_ints (SqL.of upd_same) ((s1.trans s2).seq hS) ?_
      rw [decide_eq_true rfl]
      walk_at "rd"
      walk_at "nx"
      intro q hq1
      have s3 := Kv.same_upd (o := .lst [.str "BadDay"]) hq1
      have sA := s1.trans (s2.trans s3)
      obtain ⟨c0, c1⟩ := c
      walk_at "nx"
      rw [if_pos (by omega), if_pos (by omega)]
      refine ⟨_, a, hs, rfl, sA.seq hS, hl, ?_⟩
      walk_at "nx"
      refine Kv.ne_same (.bl _) (.bl _) (by walk_at "shp") (by walk_at "eqv") ?_
      walk_at "rd"
      refine Kv.isi_bl (b := true) (by decide +kernel) ?_
      walk_at "rd"
      refine Kv.isi_bl (b := true) (by decide +kernel) ?_
      walk_at "rd"
      exact ⟨_, _, _, _, _, rfl, sA⟩
    · walk_at "rd"
      refine ⟨_, rfl, fun r hr => ?_⟩
      have s3 := s2.trans (Kv.same_upd (o := .lst [.str "BadDay"]) hr)
      walk_at "nx"
      refine Kv.ne_ints (SqL.of (Kv.same_upd hr _ _ upd_same)) ((s1.trans s3).seq hS) ?_
      rw [decide_eq_true rfl]
      walk_at "rd"
      walk_at "nx"
      intro q hq1
      have s4 := Kv.same_upd (o := .lst [.str "BadDay"]) hq1
      walk_at "nx"
      split
      · rw [if_neg (fun z => c ⟨by assumption, z⟩)]
        walk_at "nx"
        refine Kv.ne_kind (s4 _ _ upd_same) upd_same (by decide +kernel) ?_
        walk_at "rd"
        refine Kv.isi_lst (s4 _ _ upd_same) (b := false) (by decide +kernel) ?_
        walk_at "rd"
        exact ⟨_, _, _, _, _, rfl, s1.trans (s3.trans s4)⟩
      · walk_at "nx"
        refine Kv.ne_kind (s4 _ _ upd_same) upd_same (by decide +kernel) ?_
        walk_at "rd"
        refine Kv.isi_lst (s4 _ _ upd_same) (b := false) (by decide +kernel) ?_
        walk_at "rd"
        exact ⟨_, _, _, _, _, rfl, s1.trans (s3.trans s4)⟩
  · rintro σ' H' ⟨_, _, _, _, _, rfl, s1⟩
    walk_at "nx"
    exact hq _ s1
def howV : List V := [.str "none", .str "next", .str "previous", .str "modified"]
/-- a way with one capital letter -/
def turns (way : Str) (k : Nat) : Bool := match way.cps.toList[k]? with
  | none => true
  | some c => decide ((cutS way none (some (k : Int)) ++ Txt.upper ⟨#[c]⟩ ++ cutS way (some ((k : Int) + 1)) none) ∉ hows) && decide ((cutS way none (some (k : Int))).length + (Txt.upper ⟨#[c]⟩).length ≤ 100) &&
    decide ((cutS way none (some (k : Int)) ++ Txt.upper ⟨#[c]⟩).length + (cutS way (some ((k : Int) + 1)) none).length ≤ 100)
theorem turns_all : (hows.all fun way => (List.range way.length).all (turns way)) = true := by decide +kernel
theorem len_all : (hows.all fun way => decide (1 ≤ way.length) && decide (way.length ≤ 10)) = true := by decide +kernel
theorem Said.same {H H' : Hp} {t : Addr} {o : Option Int} (s : Same H H') (h : Said H t o) : Said H' t o := by
  cases o with
  | none => obtain ⟨l, e1, e2⟩ := h; exact ⟨l, s _ _ e1, s _ _ e2⟩
  | some x => obtain ⟨l, e1, e2⟩ := h; exact ⟨l, s _ _ e1, s _ _ e2⟩
theorem said_ne {K : PySem.W.Frag} {H : Hp} {t t2 : Addr} {o : Option Int} {Q : VK} (h : Said H t o) (h2 : Said H t2 o) (q : Q (.bl false) H) : rNeD K (.ref t) (.ref t2) H Q := by
  cases o with
  | none =>
    obtain ⟨l, e1, e2⟩ := h
    obtain ⟨l2, e3, e4⟩ := h2
    exact Kv.ne_same (Kv.dp_pair (SqT.of e1) (.str _) (SqL.of e2) (.str _)) (Kv.dp_pair (SqT.of e3) (.str _) (SqL.of e4) (.str _)) (by walk_at "shp") (by walk_at "eqv") q
  | some x =>
    obtain ⟨l, e1, e2⟩ := h
    obtain ⟨l2, e3, e4⟩ := h2
    have hshp : SeqAt.shaped (PyData.tuple [PyData.str "day", PyData.list [PyData.int x]]) = true := by walk_at "shp"
    exact Kv.ne_same (Kv.dp_pair (SqT.of e1) (.str _) (SqL.of e2) (.int _)) (Kv.dp_pair (SqT.of e3) (.str _) (SqL.of e4) (.int _)) hshp (by walk_at "eqv") q
def invWd (a wl : Addr) (z : Int) (nl : Addr) (d : Int) (q : Addr) (H1 : Hp) : Nat → L2.St → Hp → Prop := fun i σ' H' => ∃ (wd : Str) (v6 v8 v9 v10 v11 : Option V), σ' = [some (.ref a), some (.ref wl), some (.int z), some (.ref nl), some (.int d), some (.ref q), v6, some (.str wd), v8, v9, v10, v11] ∧ wd.length = i ∧ H' = H1
def invWr (a wl : Addr) (z : Int) (nl : Addr) (d : Int) (q : Addr) (wd : Str) (H1 : Hp) : Nat → L2.St → Hp → Prop := fun _ σ' H' => ∃ (v6 v8 v9 v10 v11 : Option V), σ' = [some (.ref a), some (.ref wl), some (.int z), some (.ref nl), some (.int d), some (.ref q), v6, some (.str wd), v8, v9, v10, v11] ∧ Same H1 H'
def invOu (a wl : Addr) (z : Int) (nl : Addr) (d : Int) (q : Addr) (wd : Str) (o : Int) (H1 : Hp) : Nat → L2.St → Hp → Prop := fun _ σ' H' => ∃ (v6 v8 v9 v10 : Option V), σ' = [some (.ref a), some (.ref wl), some (.int z), some (.ref nl), some (.int d), some (.ref q), v6, some (.str wd), v8, v9, v10, some (.int o)] ∧ Same H1 H'
def invLaw (a wl : Addr) (H1 : Hp) : L2.St → Hp → Prop := fun σ' H' => ∃ v2 v3 v4 v5 v6 v7 v8 v9 v10 v11 : Option V, σ' = [some (.ref a), some (.ref wl), v2, v3, v4, v5, v6, v7, v8, v9, v10, v11] ∧ Same H1 H'
def invHow (a wl : Addr) (z : Int) (nl : Addr) (d : Int) (q : Addr) (H1 : Hp) : Nat → L2.St → Hp → Prop := fun _ σ' H' => ∃ v6 v7 v8 v9 v10 v11 : Option V, σ' = [some (.ref a), some (.ref wl), some (.int z), some (.ref nl), some (.int d), some (.ref q), v6, v7, v8, v9, v10, v11] ∧ Same H1 H'
theorem ok_law (T : Txt K mg) : FnOk P w K mg base CX0 10 T.a_law T.d_law ["script"] (Kv.spLaw K) := by
  refine T.F_law.ok sc_law (fun vs H Q E h => ?_) (fun cdv A outer s H vs Q E hr h => ?_)
  · obtain ⟨a, ns, rfl, _⟩ := h
    rfl
  refine ⟨_, 
      (pss_cons (ps_set (i := 1) sc_law.nd rfl (Or.inl rfl) (pe_lst (pa_cons pe_str (pa_cons pe_str (pa_cons pe_str (pa_cons pe_str pa_nil))))))
      (pss_cons (ps_for PassesOwn.never rfl (pi_list (pe_op Kv.op_catS (pe_lst (pa_cons pe_int pa_nil)) (pv 0))) (pg_name (i := 2) sc_law.nd rfl (Or.inl rfl)) 
        (pss_cons (ps_set (i := 3) sc_law.nd rfl (Or.inl rfl) (pe_call (ok_L_numbers T) (hr.mono (by decide : 1 ≤ _)) (by rfl) T.g__law_numbers T.F__law_numbers.kp T.b__law_numbers .nil pass0 (pa_cons (pv 2) (pa_cons pe_int pa_nil))))
        (pss_cons (ps_set (i := 4) sc_law.nd rfl (Or.inl rfl) (pe_call (ok_L_day T) (hr.mono (by decide : 1 ≤ _)) (by rfl) T.g__law_day T.F__law_day.kp T.b__law_day .nil pass0 (pa_cons (pv 3) pa_nil)))
        (pss_cons (ps_set (i := 5) sc_law.nd rfl (Or.inl rfl) (pe_call (ok_L_holidays T) (hr.mono (by decide : 1 ≤ _)) (by rfl) T.g__law_holidays T.F__law_holidays.kp T.b__law_holidays .nil pass0 (pa_cons (pv 3) (pa_cons (pv 4) pa_nil))))
        (pss_cons (ps_if (pt_not (pt_val (pe_call (ok_L_tells_working T) (hr.mono (by decide : 5 ≤ _)) (by rfl) T.g__law_tells_working T.F__law_tells_working.kp T.b__law_tells_working .nil pass0 (pa_cons (pv 4) (pa_cons (pv 5) pa_nil))))) 
          (pss_one (ps_ret pe_bl)) pss_nil)
        (pss_cons (ps_for PassesOwn.never rfl (pi_list (pv 1)) (pg_name (i := 6) sc_law.nd rfl (Or.inl rfl)) 
          (pss_one (ps_if (pt_cmpR (op_neD hr.units) (pe_call (ok_L_told T) (hr.mono (by decide : 9 ≤ _)) (by rfl) T.g__law_told T.F__law_told.kp T.b__law_told .nil pass0 (pa_cons (pv 4) (pa_cons (pv 5) (pa_cons (pv 6) pa_nil)))) (pe_call (ok_L_due T) (hr.mono (by decide : 3 ≤ _)) (by rfl) T.g__law_due T.F__law_due.kp T.b__law_due .nil pass0 (pa_cons (pv 4) (pa_cons (pv 5) (pa_cons (pv 6) pa_nil)))) (nomark _)) 
            (pss_one (ps_ret pe_bl)) pss_nil)))
        (pss_cons (ps_set (i := 7) sc_law.nd rfl (Or.inl rfl) pe_str)
        (pss_cons (ps_for PassesOwn.never rfl (pi_range1 (by rfl) T.n_range (pa_cons (pe_op op_mod (pe_ix ix_list (pv 3) pe_int (fun _ _ => rfl)) pe_int) pa_nil)) (pg_name (i := 8) sc_law.nd rfl (Or.inl rfl)) 
          (pss_one (ps_set (i := 7) sc_law.nd rfl (Or.inl rfl) (pe_op op_add_str (pv 7) (pe_ix ix_str pe_str (pe_op op_mod (pe_ix ix_list (pv 3) (pe_op op_add pe_int (pv 8)) (fun _ _ => rfl)) pe_int) (fun _ _ => rfl))))))
        (pss_cons (ps_set (i := 6) sc_law.nd rfl (Or.inl rfl) (pe_ix ix_list (pv 1) (pe_op op_mod (pe_ix ix_list (pv 3) pe_int (fun _ _ => rfl)) pe_int) (fun _ _ => rfl)))
        (pss_cons (ps_set (i := 9) sc_law.nd rfl (Or.inl rfl) (pe_op op_mod (pe_op op_fdivW (pe_ix ix_list (pv 3) pe_int (fun _ _ => rfl)) pe_int) (pe_callB call_len_str (by rfl) T.n_len PySem.boot_len (pa_cons (pv 6) pa_nil))))
        (pss_cons (ps_for PassesOwn.never rfl (pi_list (pe_lst (pa_cons (pv 7) (pa_cons (pe_op op_add_str (pe_op op_add_str (pe_slice sl_str (pv 6) po_none (po_some (pv 9))) (pe_upper (pe_ix ix_str (pv 6) (pv 9) (fun _ _ => rfl)))) (pe_slice sl_str (pv 6) (po_some (pe_op op_add (pv 9) pe_int)) po_none)) (pa_cons (pe_op op_add_str (pv 6) pe_str) (pa_cons (pe_op op_add_str pe_str (pv 6)) pa_nil)))))) (pg_name (i := 10) sc_law.nd rfl (Or.inl rfl)) 
          (pss_one (ps_if (PW.pt (pw_and (pt_cmpR op_notIn_seq (pv 10) (pv 1) (by rfl)) (pw_and1 (pt_cmpR (op_neD hr.units) (pe_call (ok_L_told T) (hr.mono (by decide : 9 ≤ _)) (by rfl) T.g__law_told T.F__law_told.kp T.b__law_told .nil pass0 (pa_cons (pv 4) (pa_cons (pv 5) (pa_cons (pv 10) pa_nil)))) (pe_tup (pa_cons pe_str (pa_cons (pe_lst (pa_cons pe_str pa_nil)) pa_nil))) (nomark _))))) 
            (pss_one (ps_ret pe_bl)) pss_nil)))
        (pss_one (ps_for PassesOwn.never rfl (pi_list (pe_lst (pa_cons (pe_un un_neg pe_int) (pa_cons pe_int (pa_cons (pe_op op_sub (pe_op op_sub pe_int pe_int) (pe_ix ix_list (pv 3) pe_int (fun _ _ => rfl))) (pa_cons (pe_op op_add pe_int (pe_ix ix_list (pv 3) pe_int (fun _ _ => rfl))) pa_nil)))))) (pg_name (i := 11) sc_law.nd rfl (Or.inl rfl)) 
          (pss_one (ps_for PassesOwn.never rfl (pi_list (pe_lst (pa_cons (pe_ix ix_list (pv 1) (pe_op op_mod (pe_ix ix_list (pv 3) pe_int (fun _ _ => rfl)) pe_int) (fun _ _ => rfl)) (pa_cons (pv 7) pa_nil)))) (pg_name (i := 6) sc_law.nd rfl (Or.inl rfl)) 
            (pss_one (ps_if (pt_cmpR (op_neD hr.units) (pe_call (ok_L_told T) (hr.mono (by decide : 9 ≤ _)) (by rfl) T.g__law_told T.F__law_told.kp T.b__law_told .nil pass0 (pa_cons (pv 11) (pa_cons (pv 5) (pa_cons (pv 6) pa_nil)))) (pe_tup (pa_cons pe_str (pa_cons (pe_lst (pa_cons pe_str pa_nil)) pa_nil))) (nomark _)) 
              (pss_one (ps_ret pe_bl)) pss_nil)))))))))))))))))
      (pss_one (ps_ret pe_bl)))), ?_⟩
  obtain ⟨a, ns, rfl, hS, hl, hb, hq⟩ := h
  walk_at "st"
  intro wl hwl
  have s0 := Kv.same_upd (o := .lst howV) hwl
  subst_vars
  refine Kv.seq_step fun U hU => ?_
  refine Kv.tfor_cells (H0 := upd H wl (.lst howV)) rfl (s0.seq hS) hl fun b H1 s5 hb1 => ?_
  refine Kv.for_cells hb1 (by decide) hb (invLaw a wl H1) ⟨_, _, _, _, _, _, _, _, _, _, rfl, Same.refl _⟩ ?_ ?_ ?_
  · rintro σ' H' ⟨_, _, _, _, _, _, _, _, _, _, rfl, hs⟩
    exact hs
  · rintro z σ' H' bz ⟨_, _, _, _, _, _, _, _, _, _, rfl, hs⟩
    have hw' : H' wl = some (.lst howV) := hs _ _ (s5 _ _ upd_same)
    walk_at "st"
    refine ⟨z, 32, rfl, bz, by decide, by decide, fun ms nl H2 ml mr s2 f2 hn2 => ?_⟩
    walk_at "nx"
    refine ⟨nl, ms, rfl, SqL.of hn2, by omega, fun d hd => ?_⟩
    walk_at "nx"
    refine ⟨nl, ms, d, rfl, SqL.of hn2, by omega, fun q hs3 H3 hN hl3 s3 hq3 => ?_⟩
    walk_at "nx"
    refine ⟨d, q, hs3, rfl, SqL.of hq3, hl3, hd, fun H4 s4 => ?_⟩
    walk_at "rd"
    walk_at "nx"
    have sA := s2.trans (s3.trans s4)
    have hH4 : H4 q = some (.lst (hs3.map V.int)) := s4 _ _ hq3
    have hN4 : H4 nl = some (.lst (ms.map V.int)) := s4 _ _ (s3 _ _ hn2)
    have hw4 := sA _ _ hw'
    have hsA := hs.trans sA
    refine ⟨⟨_, SqL.of hw4⟩, Kv.for_lst howV (invHow a wl z nl d q H4) ⟨_, _, _, _, _, _, rfl, Same.refl _⟩ ?_ ?_ ?_⟩
    · rintro i σ' H5 ⟨_, _, _, _, _, _, rfl, s6⟩
      exact SqL.of (s6 _ _ hw4)
    · rintro i x σ' H5 hx ⟨_, _, _, _, _, _, rfl, s6⟩
      obtain ⟨how, rfl, hh⟩ : ∃ how, x = .str how ∧ how ∈ hows := by
        have hi : i < 4 := (List.getElem?_eq_some_iff.mp hx).1
        rcases (by omega : i = 0 ∨ i = 1 ∨ i = 2 ∨ i = 3) with e | e | e | e <;> subst e <;> exact ⟨_, (Option.some.inj hx).symm, by simp [hows]⟩
      walk_at "rd"
      refine ⟨d, q, hs3, how, rfl, SqL.of (s6 _ _ hH4), hl3, fun _ _ t H6 s7 st => ?_, fun _ c => absurd hh c, fun c => absurd hd c⟩
      refine ⟨d, q, hs3, how, rfl, (s6.trans s7).seq (SqL.of hH4), hl3, hd, hN, hh, fun t2 H7 s8 st2 => ?_⟩
      refine said_ne (st.same s8) st2 ?_
      walk_at "rd"
      exact ⟨_, _, _, _, _, _, rfl, s6.trans (s7.trans s8)⟩
    rintro σ' H5 ⟨_, _, _, _, _, _, rfl, s6⟩
    have hN5 : SqL K H5 nl (ms.map V.int) := SqL.of (s6 _ _ hN4)
    walk_at "nx"
    walk_at "nx"
    refine Kv.ix_num hN5 (by omega) ?_
    walk_at "rd"
    refine ⟨by omega, by omega, Kv.for_rng0 (invWd a wl z nl d q H5) ⟨"", _, _, _, _, _, rfl, rfl, rfl⟩ ?_ ?_⟩
    · rintro i σ' H6 hi ⟨wd, _, _, _, _, _, rfl, hwd, rfl⟩
      walk_at "rd"
      refine Kv.ix_num hN5 (by omega) ?_
      walk_at "rd"
      refine Kv.ix_sign (by decide +kernel) ⟨by omega, by have e : ("abcdefghijklmnopqrstuvwxyz" : Str).length = 26 := (by decide +kernel); rw [e]; omega⟩ fun c _ => ?_
      walk_at "rd"
      refine ⟨Nat.le_trans (show wd.length + 1 ≤ 100 by omega) (by decide), _, _, _, _, _, _, rfl, ?_, rfl⟩
      rw [PySem.Str.length_append, hwd]
      rfl
    rintro σ' H6 ⟨wd, _, _, _, _, _, rfl, hwd, rfl⟩
    walk_at "nx"
    refine Kv.ix_num hN5 (by omega) ?_
    walk_at "rd"
    have h8 : (ms.getD 8 0 % 4).toNat < 4 := by omega
    obtain ⟨how, hhow, hh⟩ : ∃ how, howV[(ms.getD 8 0 % 4).toNat]? = some (.str how) ∧ how ∈ hows := by
      generalize (ms.getD 8 0 % 4).toNat = k at h8
      rcases (by omega : k = 0 ∨ k = 1 ∨ k = 2 ∨ k = 3) with e | e | e | e <;> subst e <;> exact ⟨_, rfl, by simp [hows]⟩
    refine Kv.ix_at (SqL.of (s6 _ _ hw4)) (by omega) hhow ?_
    walk_at "nx"
    have wlen : 1 ≤ how.length ∧ how.length ≤ 10 := by
      have z := List.all_eq_true.mp len_all how hh
      simpa using z
    refine Kv.ix_num hN5 (by omega) ?_
    walk_at "rd"
    refine ⟨Nat.le_trans wlen.2 (by decide), by omega, ?_⟩
    have k0 : 0 ≤ ms.getD 9 0 / 8 % (how.length : Int) := Int.emod_nonneg _ (by omega)
    have k1 : ms.getD 9 0 / 8 % (how.length : Int) < (how.length : Int) := Int.emod_lt_of_pos _ (by omega)
    obtain ⟨k, hk⟩ := Int.eq_ofNat_of_zero_le k0
    rw [hk] at k1 ⊢
    clear hk
    walk_at "nx"
    refine ⟨how, rfl, Nat.le_trans wlen.2 (by decide), ?_⟩
    refine Kv.ix_sign (Nat.le_trans wlen.2 (by decide)) ⟨by omega, k1⟩ fun c hc => ?_
    walk_at "rd"
    have tb := List.all_eq_true.mp (List.all_eq_true.mp turns_all how hh) k (List.mem_range.mpr (by omega))
    unfold turns at tb
    rw [show how.cps.toList[k]? = some c from hc] at tb
    simp only [Bool.and_eq_true, decide_eq_true_eq] at tb
    obtain ⟨⟨t1, t2⟩, t3⟩ := tb
    refine ⟨⟨_, rfl⟩, Nat.le_trans (show 1 ≤ 100 by decide) (by decide), Nat.le_trans t2 (by decide), how, rfl, Nat.le_trans wlen.2 (by decide), ?_⟩
    walk_at "rd"
    refine ⟨Nat.le_trans t3 (by decide), Nat.le_trans (show how.length + 1 ≤ 100 by omega) (by decide), Nat.le_trans (show 1 + how.length ≤ 100 by omega) (by decide), fun p1 hp1 => ?_⟩
    have r1 := Kv.same_upd (o := .lst [V.str wd, V.str (cutS how none (some (k : Int)) ++ Txt.upper { cps := #[c] } ++ cutS how (some ((k : Int) + 1)) none), V.str (how ++ " "), V.str (" " ++ how)]) hp1
    have r2 := (s6 : Same H4 H6).trans r1
    have e1 : (upd H6 p1 (.lst [V.str wd, V.str (cutS how none (some (k : Int)) ++ Txt.upper { cps := #[c] } ++ cutS how (some ((k : Int) + 1)) none), V.str (how ++ " "), V.str (" " ++ how)])) p1 = _ := upd_same
    generalize upd H6 p1 (.lst [V.str wd, V.str (cutS how none (some (k : Int)) ++ Txt.upper { cps := #[c] } ++ cutS how (some ((k : Int) + 1)) none), V.str (how ++ " "), V.str (" " ++ how)]) = H7 at *
    generalize cutS how none (some (k : Int)) ++ Txt.upper { cps := #[c] } ++ cutS how (some ((k : Int) + 1)) none = tu at *
    refine ⟨⟨_, SqL.of e1⟩, Kv.for_lst [V.str wd, V.str tu, V.str (how ++ " "), V.str (" " ++ how)] (invWr a wl z nl d q wd H7) ⟨_, _, _, _, _, rfl, Same.refl _⟩ ?_ ?_ ?_⟩
    · rintro i σ' H8 ⟨_, _, _, _, _, rfl, s9⟩
      exact SqL.of (s9 _ _ e1)
    · rintro i x σ' H8 hx ⟨_, _, _, _, _, rfl, s9⟩
      obtain ⟨wr, rfl⟩ : ∃ wr, x = .str wr := by
        have hi : i < 4 := (List.getElem?_eq_some_iff.mp hx).1
        rcases (by omega : i = 0 ∨ i = 1 ∨ i = 2 ∨ i = 3) with e | e | e | e <;> subst e <;> exact ⟨_, (Option.some.inj hx).symm⟩
      walk_at "rd"
      refine ⟨wl, howV, rfl, .inl (SqL.of (s9 _ _ (r2 _ _ hw4))), rfl, by decide, ?_⟩
      rw [show howV = [.str "none", .str "next", .str "previous", .str "modified"] from rfl, in_hows]
      by_cases hwr : wr ∈ hows
      · rw [decide_eq_true hwr]
        walk_at "rd"
        exact ⟨_, _, _, _, _, rfl, s9⟩
      · rw [decide_eq_false hwr]
        walk_at "rd"
        refine ⟨d, q, hs3, wr, rfl, SqL.of (s9 _ _ (r2 _ _ hH4)), hl3, fun _ c => absurd c hwr, fun _ _ t l H9 s10 g1 g2 => ?_, fun c => absurd hd c⟩
        walk_at "rd"
        intro p3 hp3 p4 hp4
        have r4 := (Kv.same_upd (o := .lst [.str "BadValue"]) hp3).trans (Kv.same_upd (o := .tup [.str "raised", .ref p3]) hp4)
        refine Kv.ne_same (Kv.dp_pair (SqT.of (r4 _ _ g1)) (.str _) (SqL.of (r4 _ _ g2)) (.str _)) (Kv.dp_pair (SqT.of upd_same) (.str _) (SqL.of (Kv.same_upd hp4 _ _ upd_same)) (.str _)) (by walk_at "shp") (by walk_at "eqv") ?_
        walk_at "rd"
        exact ⟨_, _, _, _, _, rfl, s9.trans (s10.trans r4)⟩
    rintro σ' H8 ⟨_, _, _, _, _, rfl, s9⟩
    have r3 := r2.trans s9
    have hN8 : SqL K H8 nl (ms.map V.int) := SqL.of (r3 _ _ hN4)
    have n7 := Kv.num_in mr 7
    walk_at "nx"
    refine Kv.ix_num hN8 (by omega) ?_
    walk_at "rd"
    refine Kv.ix_num hN8 (by omega) ?_
    walk_at "rd"
    intro p5 hp5
    generalize ms.getD 7 0 = n at n7 hp5 ⊢
    have r5 := Kv.same_upd (o := .lst [V.int (-1), V.int 36525, V.int (-1 - n), V.int (36525 + n)]) hp5
    have r6 := r3.trans r5
    refine ⟨⟨_, SqL.of upd_same⟩, Kv.for_lst [.int (-1), .int 36525, .int (-1 - n), .int (36525 + n)] (invWr a wl z nl d q wd (upd H8 p5 (.lst [.int (-1), .int 36525, .int (-1 - n), .int (36525 + n)]))) ⟨_, _, _, _, _, rfl, Same.refl _⟩ ?_ ?_ ?_⟩
    · rintro i σ' H9 ⟨_, _, _, _, _, rfl, s10⟩
      exact SqL.of (s10 _ _ upd_same)
    · rintro i x σ' H9 hx ⟨_, _, _, _, _, rfl, s10⟩
      obtain ⟨o, rfl, ho⟩ : ∃ k, x = .int k ∧ ¬isD k := by
        have hi := (List.getElem?_eq_some_iff.mp hx).1
        have hi : i < 4 := by simpa using hi
        unfold isD
        rcases (by omega : i = 0 ∨ i = 1 ∨ i = 2 ∨ i = 3) with e | e | e | e <;> subst e <;> cases hx <;> exact ⟨_, rfl, by omega⟩
      have r7 := r6.trans s10
      walk_at "rd"
      refine Kv.ix_num (SqL.of (r7 _ _ hN4)) (by omega) ?_
      walk_at "rd"
      refine Kv.ix_at (SqL.of (r7 _ _ hw4)) (by omega) hhow ?_
      intro p6 hp6
      have r8 := Kv.same_upd (o := .lst [V.str how, V.str wd]) hp6
      refine ⟨⟨_, SqL.of upd_same⟩, Kv.for_lst [.str how, .str wd] (invOu a wl z nl d q wd o (upd H9 p6 (.lst [.str how, .str wd]))) ⟨_, _, _, _, rfl, Same.refl _⟩ ?_ ?_ ?_⟩
      · rintro j σ' H10 ⟨_, _, _, _, rfl, s11⟩
        exact SqL.of (s11 _ _ upd_same)
      · rintro j y σ' H10 hy ⟨_, _, _, _, rfl, s11⟩
        obtain ⟨w2, rfl⟩ : ∃ w2, y = .str w2 := by
          have hj : j < 2 := (List.getElem?_eq_some_iff.mp hy).1
          rcases (by omega : j = 0 ∨ j = 1) with e | e <;> subst e <;> exact ⟨_, (Option.some.inj hy).symm⟩
        walk_at "rd"
        refine ⟨o, q, hs3, w2, rfl, SqL.of (s11 _ _ (r8 _ _ (r7 _ _ hH4))), hl3, fun c => absurd c ho, fun c => absurd c ho, fun _ t l H11 s12 g1 g2 => ?_⟩
        walk_at "rd"
        intro p3 hp3 p4 hp4
        have r9 := (Kv.same_upd (o := .lst [.str "BadDay"]) hp3).trans (Kv.same_upd (o := .tup [.str "raised", .ref p3]) hp4)
        refine Kv.ne_same (Kv.dp_pair (SqT.of (r9 _ _ g1)) (.str _) (SqL.of (r9 _ _ g2)) (.str _)) (Kv.dp_pair (SqT.of upd_same) (.str _) (SqL.of (Kv.same_upd hp4 _ _ upd_same)) (.str _)) (by walk_at "shp") (by walk_at "eqv") ?_
        walk_at "rd"
        exact ⟨_, _, _, _, rfl, s11.trans (s12.trans r9)⟩
      · rintro σ' H10 ⟨_, _, _, _, rfl, s11⟩
        exact ⟨_, _, _, _, _, rfl, s10.trans (r8.trans s11)⟩
    rintro σ' H9 ⟨_, _, _, _, _, rfl, s10⟩
    exact ⟨_, _, _, _, _, _, _, _, _, _, rfl, hsA.trans (r6.trans s10)⟩
  · rintro σ' H' ⟨_, _, _, _, _, _, _, _, _, _, rfl, hs⟩
    walk_at "nx"
    exact hq _
end
theorem txt_mk {K : PySem.W.Frag} {mg : Str → Option Value} {h : Heap} (X : K.In h) (G : h.Ns mainGlobals mg)
    {C_BadValue : Addr}
    {C_BadDay : Addr}
    {C_Missing : Addr}
    {C_Refused : Addr}
    {C_Full : Addr}
    {C_NotAllowed : Addr}
    {C_Damaged : Addr}
    {C_BankError : Addr}
    {f_is_day : Addr} {od_is_day an_is_day : Option Addr} {sl_is_day : Array (Option Value)} {oc_is_day kV_is_day dc_is_day pm_is_day cd_is_day ct_is_day : Value}
    {f_check_day : Addr} {od_check_day an_check_day : Option Addr} {sl_check_day : Array (Option Value)} {oc_check_day kV_check_day dc_check_day pm_check_day cd_check_day ct_check_day : Value}
    {f_days_of_month : Addr} {od_days_of_month an_days_of_month : Option Addr} {sl_days_of_month : Array (Option Value)} {oc_days_of_month kV_days_of_month dc_days_of_month pm_days_of_month cd_days_of_month ct_days_of_month : Value}
    {f_first_day_of : Addr} {od_first_day_of an_first_day_of : Option Addr} {sl_first_day_of : Array (Option Value)} {oc_first_day_of kV_first_day_of dc_first_day_of pm_first_day_of cd_first_day_of ct_first_day_of : Value}
    {f_date_of : Addr} {od_date_of an_date_of : Option Addr} {sl_date_of : Array (Option Value)} {oc_date_of kV_date_of dc_date_of pm_date_of cd_date_of ct_date_of : Value}
    {f_weekday : Addr} {od_weekday an_weekday : Option Addr} {sl_weekday : Array (Option Value)} {oc_weekday kV_weekday dc_weekday pm_weekday cd_weekday ct_weekday : Value}
    {f_is_working : Addr} {od_is_working an_is_working : Option Addr} {sl_is_working : Array (Option Value)} {oc_is_working kV_is_working dc_is_working pm_is_working cd_is_working ct_is_working : Value}
    {f_find_working : Addr} {od_find_working an_find_working : Option Addr} {sl_find_working : Array (Option Value)} {oc_find_working kV_find_working dc_find_working pm_find_working cd_find_working ct_find_working : Value}
    {f_find_modified : Addr} {od_find_modified an_find_modified : Option Addr} {sl_find_modified : Array (Option Value)} {oc_find_modified kV_find_modified dc_find_modified pm_find_modified cd_find_modified ct_find_modified : Value}
    {f_find_adjusted : Addr} {od_find_adjusted an_find_adjusted : Option Addr} {sl_find_adjusted : Array (Option Value)} {oc_find_adjusted kV_find_adjusted dc_find_adjusted pm_find_adjusted cd_find_adjusted ct_find_adjusted : Value}
    {f_adjust : Addr} {od_adjust an_adjust : Option Addr} {sl_adjust : Array (Option Value)} {oc_adjust kV_adjust dc_adjust pm_adjust cd_adjust ct_adjust : Value}
    {f__law_numbers : Addr} {od__law_numbers an__law_numbers : Option Addr} {sl__law_numbers : Array (Option Value)} {oc__law_numbers kV__law_numbers dc__law_numbers pm__law_numbers cd__law_numbers ct__law_numbers : Value}
    {f__law_kinds : Addr} {od__law_kinds an__law_kinds : Option Addr} {sl__law_kinds : Array (Option Value)} {oc__law_kinds kV__law_kinds dc__law_kinds pm__law_kinds cd__law_kinds ct__law_kinds : Value}
    {f__law_length : Addr} {od__law_length an__law_length : Option Addr} {sl__law_length : Array (Option Value)} {oc__law_length kV__law_length dc__law_length pm__law_length cd__law_length ct__law_length : Value}
    {f__law_date : Addr} {od__law_date an__law_date : Option Addr} {sl__law_date : Array (Option Value)} {oc__law_date kV__law_date dc__law_date pm__law_date cd__law_date ct__law_date : Value}
    {f__law_day : Addr} {od__law_day an__law_day : Option Addr} {sl__law_day : Array (Option Value)} {oc__law_day kV__law_day dc__law_day pm__law_day cd__law_day ct__law_day : Value}
    {f__law_holidays : Addr} {od__law_holidays an__law_holidays : Option Addr} {sl__law_holidays : Array (Option Value)} {oc__law_holidays kV__law_holidays dc__law_holidays pm__law_holidays cd__law_holidays ct__law_holidays : Value}
    {f__law_works : Addr} {od__law_works an__law_works : Option Addr} {sl__law_works : Array (Option Value)} {oc__law_works kV__law_works dc__law_works pm__law_works cd__law_works ct__law_works : Value}
    {f__law_search : Addr} {od__law_search an__law_search : Option Addr} {sl__law_search : Array (Option Value)} {oc__law_search kV__law_search dc__law_search pm__law_search cd__law_search ct__law_search : Value}
    {f__law_due : Addr} {od__law_due an__law_due : Option Addr} {sl__law_due : Array (Option Value)} {oc__law_due kV__law_due dc__law_due pm__law_due cd__law_due ct__law_due : Value}
    {f__law_told : Addr} {od__law_told an__law_told : Option Addr} {sl__law_told : Array (Option Value)} {oc__law_told kV__law_told dc__law_told pm__law_told cd__law_told ct__law_told : Value}
    {f__law_tells_working : Addr} {od__law_tells_working an__law_tells_working : Option Addr} {sl__law_tells_working : Array (Option Value)} {oc__law_tells_working kV__law_tells_working dc__law_tells_working pm__law_tells_working cd__law_tells_working ct__law_tells_working : Value}
    {f_law : Addr} {od_law an_law : Option Addr} {sl_law : Array (Option Value)} {oc_law kV_law dc_law pm_law cd_law ct_law : Value}
    {w_LAST_DAY : Value}
    {w_FIRST_YEAR : Value}
    {w_DAYS_OF_FOUR_YEARS : Value}
    {t_DAYS_OF_MONTHS : Addr} {td_DAYS_OF_MONTHS : Option Addr} {ti_DAYS_OF_MONTHS : Array Value} {tn_DAYS_OF_MONTHS : Nat} {ts_DAYS_OF_MONTHS : Array (Option Value)}
    {w_SATURDAY : Value}
    {t_HOWS : Addr} {td_HOWS : Option Addr} {ti_HOWS : Array Value} {tn_HOWS : Nat} {ts_HOWS : Array (Option Value)}
    (e_BadValue : PySem.W.nsIn K mainGlobals "BadValue" = some (some (.ref C_BadValue)))
    (e_BadDay : PySem.W.nsIn K mainGlobals "BadDay" = some (some (.ref C_BadDay)))
    (e_Missing : PySem.W.nsIn K mainGlobals "Missing" = some (some (.ref C_Missing)))
    (e_Refused : PySem.W.nsIn K mainGlobals "Refused" = some (some (.ref C_Refused)))
    (e_Full : PySem.W.nsIn K mainGlobals "Full" = some (some (.ref C_Full)))
    (e_NotAllowed : PySem.W.nsIn K mainGlobals "NotAllowed" = some (some (.ref C_NotAllowed)))
    (e_Damaged : PySem.W.nsIn K mainGlobals "Damaged" = some (some (.ref C_Damaged)))
    (e_BankError : PySem.W.nsIn K mainGlobals "BankError" = some (some (.ref C_BankError)))
    (eAll : Kv.errAll K (fun e => match e with | .badValue => C_BadValue | .badDay => C_BadDay | .missing => C_Missing | .refused => C_Refused | .full => C_Full | .notAllowed => C_NotAllowed | .damaged => C_Damaged) C_BankError = true)
    (a_is_day : PySem.W.nsIn K mainGlobals "is_day" = some (some (.ref f_is_day)))
    (l_is_day : K.lookup f_is_day = some ⟨oc_is_day, od_is_day, .func (PySem.W.fnOf "is_day" "is_day" (defArgs s_is_day) (defBody s_is_day) (defScope s_is_day) .none kV_is_day dc_is_day pm_is_day an_is_day cd_is_day ct_is_day), sl_is_day⟩)
    (c_is_day : PySem.W.codeIn K cd_is_day "is_day" = true)
    (k_is_day : PySem.W.keepIn K (.ref f_is_day) = true)
    (a_check_day : PySem.W.nsIn K mainGlobals "check_day" = some (some (.ref f_check_day)))
    (l_check_day : K.lookup f_check_day = some ⟨oc_check_day, od_check_day, .func (PySem.W.fnOf "check_day" "check_day" (defArgs s_check_day) (defBody s_check_day) (defScope s_check_day) .none kV_check_day dc_check_day pm_check_day an_check_day cd_check_day ct_check_day), sl_check_day⟩)
    (c_check_day : PySem.W.codeIn K cd_check_day "check_day" = true)
    (k_check_day : PySem.W.keepIn K (.ref f_check_day) = true)
    (a_days_of_month : PySem.W.nsIn K mainGlobals "days_of_month" = some (some (.ref f_days_of_month)))
    (l_days_of_month : K.lookup f_days_of_month = some ⟨oc_days_of_month, od_days_of_month, .func (PySem.W.fnOf "days_of_month" "days_of_month" (defArgs s_days_of_month) (defBody s_days_of_month) (defScope s_days_of_month) .none kV_days_of_month dc_days_of_month pm_days_of_month an_days_of_month cd_days_of_month ct_days_of_month), sl_days_of_month⟩)
    (c_days_of_month : PySem.W.codeIn K cd_days_of_month "days_of_month" = true)
    (k_days_of_month : PySem.W.keepIn K (.ref f_days_of_month) = true)
    (a_first_day_of : PySem.W.nsIn K mainGlobals "first_day_of" = some (some (.ref f_first_day_of)))
    (l_first_day_of : K.lookup f_first_day_of = some ⟨oc_first_day_of, od_first_day_of, .func (PySem.W.fnOf "first_day_of" "first_day_of" (defArgs s_first_day_of) (defBody s_first_day_of) (defScope s_first_day_of) .none kV_first_day_of dc_first_day_of pm_first_day_of an_first_day_of cd_first_day_of ct_first_day_of), sl_first_day_of⟩)
    (c_first_day_of : PySem.W.codeIn K cd_first_day_of "first_day_of" = true)
    (k_first_day_of : PySem.W.keepIn K (.ref f_first_day_of) = true)
    (a_date_of : PySem.W.nsIn K mainGlobals "date_of" = some (some (.ref f_date_of)))
    (l_date_of : K.lookup f_date_of = some ⟨oc_date_of, od_date_of, .func (PySem.W.fnOf "date_of" "date_of" (defArgs s_date_of) (defBody s_date_of) (defScope s_date_of) .none kV_date_of dc_date_of pm_date_of an_date_of cd_date_of ct_date_of), sl_date_of⟩)
    (c_date_of : PySem.W.codeIn K cd_date_of "date_of" = true)
    (k_date_of : PySem.W.keepIn K (.ref f_date_of) = true)
    (a_weekday : PySem.W.nsIn K mainGlobals "weekday" = some (some (.ref f_weekday)))
    (l_weekday : K.lookup f_weekday = some ⟨oc_weekday, od_weekday, .func (PySem.W.fnOf "weekday" "weekday" (defArgs s_weekday) (defBody s_weekday) (defScope s_weekday) .none kV_weekday dc_weekday pm_weekday an_weekday cd_weekday ct_weekday), sl_weekday⟩)
    (c_weekday : PySem.W.codeIn K cd_weekday "weekday" = true)
    (k_weekday : PySem.W.keepIn K (.ref f_weekday) = true)
    (a_is_working : PySem.W.nsIn K mainGlobals "is_working" = some (some (.ref f_is_working)))
    (l_is_working : K.lookup f_is_working = some ⟨oc_is_working, od_is_working, .func (PySem.W.fnOf "is_working" "is_working" (defArgs s_is_working) (defBody s_is_working) (defScope s_is_working) .none kV_is_working dc_is_working pm_is_working an_is_working cd_is_working ct_is_working), sl_is_working⟩)
    (c_is_working : PySem.W.codeIn K cd_is_working "is_working" = true)
    (k_is_working : PySem.W.keepIn K (.ref f_is_working) = true)
    (a_find_working : PySem.W.nsIn K mainGlobals "find_working" = some (some (.ref f_find_working)))
    (l_find_working : K.lookup f_find_working = some ⟨oc_find_working, od_find_working, .func (PySem.W.fnOf "find_working" "find_working" (defArgs s_find_working) (defBody s_find_working) (defScope s_find_working) .none kV_find_working dc_find_working pm_find_working an_find_working cd_find_working ct_find_working), sl_find_working⟩)
    (c_find_working : PySem.W.codeIn K cd_find_working "find_working" = true)
    (k_find_working : PySem.W.keepIn K (.ref f_find_working) = true)
    (a_find_modified : PySem.W.nsIn K mainGlobals "find_modified" = some (some (.ref f_find_modified)))
    (l_find_modified : K.lookup f_find_modified = some ⟨oc_find_modified, od_find_modified, .func (PySem.W.fnOf "find_modified" "find_modified" (defArgs s_find_modified) (defBody s_find_modified) (defScope s_find_modified) .none kV_find_modified dc_find_modified pm_find_modified an_find_modified cd_find_modified ct_find_modified), sl_find_modified⟩)
    (c_find_modified : PySem.W.codeIn K cd_find_modified "find_modified" = true)
    (k_find_modified : PySem.W.keepIn K (.ref f_find_modified) = true)
    (a_find_adjusted : PySem.W.nsIn K mainGlobals "find_adjusted" = some (some (.ref f_find_adjusted)))
    (l_find_adjusted : K.lookup f_find_adjusted = some ⟨oc_find_adjusted, od_find_adjusted, .func (PySem.W.fnOf "find_adjusted" "find_adjusted" (defArgs s_find_adjusted) (defBody s_find_adjusted) (defScope s_find_adjusted) .none kV_find_adjusted dc_find_adjusted pm_find_adjusted an_find_adjusted cd_find_adjusted ct_find_adjusted), sl_find_adjusted⟩)
    (c_find_adjusted : PySem.W.codeIn K cd_find_adjusted "find_adjusted" = true)
    (k_find_adjusted : PySem.W.keepIn K (.ref f_find_adjusted) = true)
    (a_adjust : PySem.W.nsIn K mainGlobals "adjust" = some (some (.ref f_adjust)))
    (l_adjust : K.lookup f_adjust = some ⟨oc_adjust, od_adjust, .func (PySem.W.fnOf "adjust" "adjust" (defArgs s_adjust) (defBody s_adjust) (defScope s_adjust) .none kV_adjust dc_adjust pm_adjust an_adjust cd_adjust ct_adjust), sl_adjust⟩)
    (c_adjust : PySem.W.codeIn K cd_adjust "adjust" = true)
    (k_adjust : PySem.W.keepIn K (.ref f_adjust) = true)
    (a__law_numbers : PySem.W.nsIn K mainGlobals "_law_numbers" = some (some (.ref f__law_numbers)))
    (l__law_numbers : K.lookup f__law_numbers = some ⟨oc__law_numbers, od__law_numbers, .func (PySem.W.fnOf "_law_numbers" "_law_numbers" (defArgs s_L_numbers) (defBody s_L_numbers) (defScope s_L_numbers) .none kV__law_numbers dc__law_numbers pm__law_numbers an__law_numbers cd__law_numbers ct__law_numbers), sl__law_numbers⟩)
    (c__law_numbers : PySem.W.codeIn K cd__law_numbers "_law_numbers" = true)
    (k__law_numbers : PySem.W.keepIn K (.ref f__law_numbers) = true)
    (a__law_kinds : PySem.W.nsIn K mainGlobals "_law_kinds" = some (some (.ref f__law_kinds)))
    (l__law_kinds : K.lookup f__law_kinds = some ⟨oc__law_kinds, od__law_kinds, .func (PySem.W.fnOf "_law_kinds" "_law_kinds" (defArgs s_L_kinds) (defBody s_L_kinds) (defScope s_L_kinds) .none kV__law_kinds dc__law_kinds pm__law_kinds an__law_kinds cd__law_kinds ct__law_kinds), sl__law_kinds⟩)
    (c__law_kinds : PySem.W.codeIn K cd__law_kinds "_law_kinds" = true)
    (k__law_kinds : PySem.W.keepIn K (.ref f__law_kinds) = true)
    (a__law_length : PySem.W.nsIn K mainGlobals "_law_length" = some (some (.ref f__law_length)))
    (l__law_length : K.lookup f__law_length = some ⟨oc__law_length, od__law_length, .func (PySem.W.fnOf "_law_length" "_law_length" (defArgs s_L_length) (defBody s_L_length) (defScope s_L_length) .none kV__law_length dc__law_length pm__law_length an__law_length cd__law_length ct__law_length), sl__law_length⟩)
    (c__law_length : PySem.W.codeIn K cd__law_length "_law_length" = true)
    (k__law_length : PySem.W.keepIn K (.ref f__law_length) = true)
    (a__law_date : PySem.W.nsIn K mainGlobals "_law_date" = some (some (.ref f__law_date)))
    (l__law_date : K.lookup f__law_date = some ⟨oc__law_date, od__law_date, .func (PySem.W.fnOf "_law_date" "_law_date" (defArgs s_L_date) (defBody s_L_date) (defScope s_L_date) .none kV__law_date dc__law_date pm__law_date an__law_date cd__law_date ct__law_date), sl__law_date⟩)
    (c__law_date : PySem.W.codeIn K cd__law_date "_law_date" = true)
    (k__law_date : PySem.W.keepIn K (.ref f__law_date) = true)
    (a__law_day : PySem.W.nsIn K mainGlobals "_law_day" = some (some (.ref f__law_day)))
    (l__law_day : K.lookup f__law_day = some ⟨oc__law_day, od__law_day, .func (PySem.W.fnOf "_law_day" "_law_day" (defArgs s_L_day) (defBody s_L_day) (defScope s_L_day) .none kV__law_day dc__law_day pm__law_day an__law_day cd__law_day ct__law_day), sl__law_day⟩)
    (c__law_day : PySem.W.codeIn K cd__law_day "_law_day" = true)
    (k__law_day : PySem.W.keepIn K (.ref f__law_day) = true)
    (a__law_holidays : PySem.W.nsIn K mainGlobals "_law_holidays" = some (some (.ref f__law_holidays)))
    (l__law_holidays : K.lookup f__law_holidays = some ⟨oc__law_holidays, od__law_holidays, .func (PySem.W.fnOf "_law_holidays" "_law_holidays" (defArgs s_L_holidays) (defBody s_L_holidays) (defScope s_L_holidays) .none kV__law_holidays dc__law_holidays pm__law_holidays an__law_holidays cd__law_holidays ct__law_holidays), sl__law_holidays⟩)
    (c__law_holidays : PySem.W.codeIn K cd__law_holidays "_law_holidays" = true)
    (k__law_holidays : PySem.W.keepIn K (.ref f__law_holidays) = true)
    (a__law_works : PySem.W.nsIn K mainGlobals "_law_works" = some (some (.ref f__law_works)))
    (l__law_works : K.lookup f__law_works = some ⟨oc__law_works, od__law_works, .func (PySem.W.fnOf "_law_works" "_law_works" (defArgs s_L_works) (defBody s_L_works) (defScope s_L_works) .none kV__law_works dc__law_works pm__law_works an__law_works cd__law_works ct__law_works), sl__law_works⟩)
    (c__law_works : PySem.W.codeIn K cd__law_works "_law_works" = true)
    (k__law_works : PySem.W.keepIn K (.ref f__law_works) = true)
    (a__law_search : PySem.W.nsIn K mainGlobals "_law_search" = some (some (.ref f__law_search)))
    (l__law_search : K.lookup f__law_search = some ⟨oc__law_search, od__law_search, .func (PySem.W.fnOf "_law_search" "_law_search" (defArgs s_L_search) (defBody s_L_search) (defScope s_L_search) .none kV__law_search dc__law_search pm__law_search an__law_search cd__law_search ct__law_search), sl__law_search⟩)
    (c__law_search : PySem.W.codeIn K cd__law_search "_law_search" = true)
    (k__law_search : PySem.W.keepIn K (.ref f__law_search) = true)
    (a__law_due : PySem.W.nsIn K mainGlobals "_law_due" = some (some (.ref f__law_due)))
    (l__law_due : K.lookup f__law_due = some ⟨oc__law_due, od__law_due, .func (PySem.W.fnOf "_law_due" "_law_due" (defArgs s_L_due) (defBody s_L_due) (defScope s_L_due) .none kV__law_due dc__law_due pm__law_due an__law_due cd__law_due ct__law_due), sl__law_due⟩)
    (c__law_due : PySem.W.codeIn K cd__law_due "_law_due" = true)
    (k__law_due : PySem.W.keepIn K (.ref f__law_due) = true)
    (a__law_told : PySem.W.nsIn K mainGlobals "_law_told" = some (some (.ref f__law_told)))
    (l__law_told : K.lookup f__law_told = some ⟨oc__law_told, od__law_told, .func (PySem.W.fnOf "_law_told" "_law_told" (defArgs s_L_told) (defBody s_L_told) (defScope s_L_told) .none kV__law_told dc__law_told pm__law_told an__law_told cd__law_told ct__law_told), sl__law_told⟩)
    (c__law_told : PySem.W.codeIn K cd__law_told "_law_told" = true)
    (k__law_told : PySem.W.keepIn K (.ref f__law_told) = true)
    (a__law_tells_working : PySem.W.nsIn K mainGlobals "_law_tells_working" = some (some (.ref f__law_tells_working)))
    (l__law_tells_working : K.lookup f__law_tells_working = some ⟨oc__law_tells_working, od__law_tells_working, .func (PySem.W.fnOf "_law_tells_working" "_law_tells_working" (defArgs s_L_tells_working) (defBody s_L_tells_working) (defScope s_L_tells_working) .none kV__law_tells_working dc__law_tells_working pm__law_tells_working an__law_tells_working cd__law_tells_working ct__law_tells_working), sl__law_tells_working⟩)
    (c__law_tells_working : PySem.W.codeIn K cd__law_tells_working "_law_tells_working" = true)
    (k__law_tells_working : PySem.W.keepIn K (.ref f__law_tells_working) = true)
    (a_law : PySem.W.nsIn K mainGlobals "law" = some (some (.ref f_law)))
    (l_law : K.lookup f_law = some ⟨oc_law, od_law, .func (PySem.W.fnOf "law" "law" (defArgs s_law) (defBody s_law) (defScope s_law) .none kV_law dc_law pm_law an_law cd_law ct_law), sl_law⟩)
    (c_law : PySem.W.codeIn K cd_law "law" = true)
    (k_law : PySem.W.keepIn K (.ref f_law) = true)
    (v_LAST_DAY : PySem.W.nsIn K mainGlobals "LAST_DAY" = some (some w_LAST_DAY))
    (vr_LAST_DAY : RelV (.int (36524)) w_LAST_DAY)
    (v_FIRST_YEAR : PySem.W.nsIn K mainGlobals "FIRST_YEAR" = some (some w_FIRST_YEAR))
    (vr_FIRST_YEAR : RelV (.int (2000)) w_FIRST_YEAR)
    (v_DAYS_OF_FOUR_YEARS : PySem.W.nsIn K mainGlobals "DAYS_OF_FOUR_YEARS" = some (some w_DAYS_OF_FOUR_YEARS))
    (vr_DAYS_OF_FOUR_YEARS : RelV (.int (1461)) w_DAYS_OF_FOUR_YEARS)
    (v_DAYS_OF_MONTHS : PySem.W.nsIn K mainGlobals "DAYS_OF_MONTHS" = some (some (.ref t_DAYS_OF_MONTHS)))
    (vl_DAYS_OF_MONTHS : K.lookup t_DAYS_OF_MONTHS = some ⟨.type "tuple", td_DAYS_OF_MONTHS, .seq ti_DAYS_OF_MONTHS tn_DAYS_OF_MONTHS, ts_DAYS_OF_MONTHS⟩)
    (vz_DAYS_OF_MONTHS : ti_DAYS_OF_MONTHS.size ≤ sizeLine)
    (vr_DAYS_OF_MONTHS : Vals ([.int (31), .int (28), .int (31), .int (30), .int (31), .int (30), .int (31), .int (31), .int (30), .int (31), .int (30), .int (31)] : List V) ti_DAYS_OF_MONTHS.toList)
    (v_SATURDAY : PySem.W.nsIn K mainGlobals "SATURDAY" = some (some w_SATURDAY))
    (vr_SATURDAY : RelV (.int (5)) w_SATURDAY)
    (v_HOWS : PySem.W.nsIn K mainGlobals "HOWS" = some (some (.ref t_HOWS)))
    (vl_HOWS : K.lookup t_HOWS = some ⟨.type "tuple", td_HOWS, .seq ti_HOWS tn_HOWS, ts_HOWS⟩)
    (vz_HOWS : ti_HOWS.size ≤ sizeLine)
    (vr_HOWS : Vals ([.str "none", .str "next", .str "previous", .str "modified"] : List V) ti_HOWS.toList)
    (n_bool : PySem.W.nsIn K mainGlobals "bool" = some none)
    (n_int : PySem.W.nsIn K mainGlobals "int" = some none)
    (n_isinstance : PySem.W.nsIn K mainGlobals "isinstance" = some none)
    (n_len : PySem.W.nsIn K mainGlobals "len" = some none)
    (n_list : PySem.W.nsIn K mainGlobals "list" = some none)
    (n_range : PySem.W.nsIn K mainGlobals "range" = some none) :
    ∃ T : Txt K mg, T.d_law = PySem.W.fnOf "law" "law" (defArgs s_law) (defBody s_law) (defScope s_law) .none kV_law dc_law pm_law an_law cd_law ct_law :=
  ⟨{ exa := fun e => match e with | .badValue => C_BadValue | .badDay => C_BadDay | .missing => C_Missing | .refused => C_Refused | .full => C_Full | .notAllowed => C_NotAllowed | .damaged => C_Damaged,
       exg := fun e => by cases e <;> first | exact PySem.W.mg_of X G e_BadValue | exact PySem.W.mg_of X G e_BadDay | exact PySem.W.mg_of X G e_Missing | exact PySem.W.mg_of X G e_Refused | exact PySem.W.mg_of X G e_Full | exact PySem.W.mg_of X G e_NotAllowed | exact PySem.W.mg_of X G e_Damaged,
       a_BankError := C_BankError,
       g_BankError := PySem.W.mg_of X G e_BankError,
       exAll := eAll,
       a_is_day := f_is_day,
       d_is_day := PySem.W.fnOf "is_day" "is_day" (defArgs s_is_day) (defBody s_is_day) (defScope s_is_day) .none kV_is_day dc_is_day pm_is_day an_is_day cd_is_day ct_is_day,
       g_is_day := PySem.W.mg_of X G a_is_day,
       F_is_day := fun_mk (st := s_is_day) l_is_day c_is_day k_is_day,
       b_is_day := (fun_mk (st := s_is_day) l_is_day c_is_day k_is_day).binds (ps := ["number"]) fun _ _ _ _ _ _ us hl => match us, hl with | [_], _ => rfl,
       a_check_day := f_check_day,
       d_check_day := PySem.W.fnOf "check_day" "check_day" (defArgs s_check_day) (defBody s_check_day) (defScope s_check_day) .none kV_check_day dc_check_day pm_check_day an_check_day cd_check_day ct_check_day,
       g_check_day := PySem.W.mg_of X G a_check_day,
       F_check_day := fun_mk (st := s_check_day) l_check_day c_check_day k_check_day,
       b_check_day := (fun_mk (st := s_check_day) l_check_day c_check_day k_check_day).binds (ps := ["day"]) fun _ _ _ _ _ _ us hl => match us, hl with | [_], _ => rfl,
       a_days_of_month := f_days_of_month,
       d_days_of_month := PySem.W.fnOf "days_of_month" "days_of_month" (defArgs s_days_of_month) (defBody s_days_of_month) (defScope s_days_of_month) .none kV_days_of_month dc_days_of_month pm_days_of_month an_days_of_month cd_days_of_month ct_days_of_month,
       g_days_of_month := PySem.W.mg_of X G a_days_of_month,
       F_days_of_month := fun_mk (st := s_days_of_month) l_days_of_month c_days_of_month k_days_of_month,
       b_days_of_month := (fun_mk (st := s_days_of_month) l_days_of_month c_days_of_month k_days_of_month).binds (ps := ["year", "month"]) fun _ _ _ _ _ _ us hl => match us, hl with | [_, _], _ => rfl,
       a_first_day_of := f_first_day_of,
       d_first_day_of := PySem.W.fnOf "first_day_of" "first_day_of" (defArgs s_first_day_of) (defBody s_first_day_of) (defScope s_first_day_of) .none kV_first_day_of dc_first_day_of pm_first_day_of an_first_day_of cd_first_day_of ct_first_day_of,
       g_first_day_of := PySem.W.mg_of X G a_first_day_of,
       F_first_day_of := fun_mk (st := s_first_day_of) l_first_day_of c_first_day_of k_first_day_of,
       b_first_day_of := (fun_mk (st := s_first_day_of) l_first_day_of c_first_day_of k_first_day_of).binds (ps := ["year"]) fun _ _ _ _ _ _ us hl => match us, hl with | [_], _ => rfl,
       a_date_of := f_date_of,
       d_date_of := PySem.W.fnOf "date_of" "date_of" (defArgs s_date_of) (defBody s_date_of) (defScope s_date_of) .none kV_date_of dc_date_of pm_date_of an_date_of cd_date_of ct_date_of,
       g_date_of := PySem.W.mg_of X G a_date_of,
       F_date_of := fun_mk (st := s_date_of) l_date_of c_date_of k_date_of,
       b_date_of := (fun_mk (st := s_date_of) l_date_of c_date_of k_date_of).binds (ps := ["day"]) fun _ _ _ _ _ _ us hl => match us, hl with | [_], _ => rfl,
       a_weekday := f_weekday,
       d_weekday := PySem.W.fnOf "weekday" "weekday" (defArgs s_weekday) (defBody s_weekday) (defScope s_weekday) .none kV_weekday dc_weekday pm_weekday an_weekday cd_weekday ct_weekday,
       g_weekday := PySem.W.mg_of X G a_weekday,
       F_weekday := fun_mk (st := s_weekday) l_weekday c_weekday k_weekday,
       b_weekday := (fun_mk (st := s_weekday) l_weekday c_weekday k_weekday).binds (ps := ["day"]) fun _ _ _ _ _ _ us hl => match us, hl with | [_], _ => rfl,
       a_is_working := f_is_working,
       d_is_working := PySem.W.fnOf "is_working" "is_working" (defArgs s_is_working) (defBody s_is_working) (defScope s_is_working) .none kV_is_working dc_is_working pm_is_working an_is_working cd_is_working ct_is_working,
       g_is_working := PySem.W.mg_of X G a_is_working,
       F_is_working := fun_mk (st := s_is_working) l_is_working c_is_working k_is_working,
       b_is_working := (fun_mk (st := s_is_working) l_is_working c_is_working k_is_working).binds (ps := ["day", "holidays"]) fun _ _ _ _ _ _ us hl => match us, hl with | [_, _], _ => rfl,
       a_find_working := f_find_working,
       d_find_working := PySem.W.fnOf "find_working" "find_working" (defArgs s_find_working) (defBody s_find_working) (defScope s_find_working) .none kV_find_working dc_find_working pm_find_working an_find_working cd_find_working ct_find_working,
       g_find_working := PySem.W.mg_of X G a_find_working,
       F_find_working := fun_mk (st := s_find_working) l_find_working c_find_working k_find_working,
       b_find_working := (fun_mk (st := s_find_working) l_find_working c_find_working k_find_working).binds (ps := ["day", "holidays", "step"]) fun _ _ _ _ _ _ us hl => match us, hl with | [_, _, _], _ => rfl,
       a_find_modified := f_find_modified,
       d_find_modified := PySem.W.fnOf "find_modified" "find_modified" (defArgs s_find_modified) (defBody s_find_modified) (defScope s_find_modified) .none kV_find_modified dc_find_modified pm_find_modified an_find_modified cd_find_modified ct_find_modified,
       g_find_modified := PySem.W.mg_of X G a_find_modified,
       F_find_modified := fun_mk (st := s_find_modified) l_find_modified c_find_modified k_find_modified,
       b_find_modified := (fun_mk (st := s_find_modified) l_find_modified c_find_modified k_find_modified).binds (ps := ["day", "holidays"]) fun _ _ _ _ _ _ us hl => match us, hl with | [_, _], _ => rfl,
       a_find_adjusted := f_find_adjusted,
       d_find_adjusted := PySem.W.fnOf "find_adjusted" "find_adjusted" (defArgs s_find_adjusted) (defBody s_find_adjusted) (defScope s_find_adjusted) .none kV_find_adjusted dc_find_adjusted pm_find_adjusted an_find_adjusted cd_find_adjusted ct_find_adjusted,
       g_find_adjusted := PySem.W.mg_of X G a_find_adjusted,
       F_find_adjusted := fun_mk (st := s_find_adjusted) l_find_adjusted c_find_adjusted k_find_adjusted,
       b_find_adjusted := (fun_mk (st := s_find_adjusted) l_find_adjusted c_find_adjusted k_find_adjusted).binds (ps := ["day", "holidays", "how"]) fun _ _ _ _ _ _ us hl => match us, hl with | [_, _, _], _ => rfl,
       a_adjust := f_adjust,
       d_adjust := PySem.W.fnOf "adjust" "adjust" (defArgs s_adjust) (defBody s_adjust) (defScope s_adjust) .none kV_adjust dc_adjust pm_adjust an_adjust cd_adjust ct_adjust,
       g_adjust := PySem.W.mg_of X G a_adjust,
       F_adjust := fun_mk (st := s_adjust) l_adjust c_adjust k_adjust,
       b_adjust := (fun_mk (st := s_adjust) l_adjust c_adjust k_adjust).binds (ps := ["day", "holidays", "how"]) fun _ _ _ _ _ _ us hl => match us, hl with | [_, _, _], _ => rfl,
       a__law_numbers := f__law_numbers,
       d__law_numbers := PySem.W.fnOf "_law_numbers" "_law_numbers" (defArgs s_L_numbers) (defBody s_L_numbers) (defScope s_L_numbers) .none kV__law_numbers dc__law_numbers pm__law_numbers an__law_numbers cd__law_numbers ct__law_numbers,
       g__law_numbers := PySem.W.mg_of X G a__law_numbers,
       F__law_numbers := fun_mk (st := s_L_numbers) l__law_numbers c__law_numbers k__law_numbers,
       b__law_numbers := (fun_mk (st := s_L_numbers) l__law_numbers c__law_numbers k__law_numbers).binds (ps := ["cell", "count"]) fun _ _ _ _ _ _ us hl => match us, hl with | [_, _], _ => rfl,
       a__law_kinds := f__law_kinds,
       d__law_kinds := PySem.W.fnOf "_law_kinds" "_law_kinds" (defArgs s_L_kinds) (defBody s_L_kinds) (defScope s_L_kinds) .none kV__law_kinds dc__law_kinds pm__law_kinds an__law_kinds cd__law_kinds ct__law_kinds,
       g__law_kinds := PySem.W.mg_of X G a__law_kinds,
       F__law_kinds := fun_mk (st := s_L_kinds) l__law_kinds c__law_kinds k__law_kinds,
       b__law_kinds := (fun_mk (st := s_L_kinds) l__law_kinds c__law_kinds k__law_kinds).binds (ps := ["error"]) fun _ _ _ _ _ _ us hl => match us, hl with | [_], _ => rfl,
       a__law_length := f__law_length,
       d__law_length := PySem.W.fnOf "_law_length" "_law_length" (defArgs s_L_length) (defBody s_L_length) (defScope s_L_length) .none kV__law_length dc__law_length pm__law_length an__law_length cd__law_length ct__law_length,
       g__law_length := PySem.W.mg_of X G a__law_length,
       F__law_length := fun_mk (st := s_L_length) l__law_length c__law_length k__law_length,
       b__law_length := (fun_mk (st := s_L_length) l__law_length c__law_length k__law_length).binds (ps := ["year", "month"]) fun _ _ _ _ _ _ us hl => match us, hl with | [_, _], _ => rfl,
       a__law_date := f__law_date,
       d__law_date := PySem.W.fnOf "_law_date" "_law_date" (defArgs s_L_date) (defBody s_L_date) (defScope s_L_date) .none kV__law_date dc__law_date pm__law_date an__law_date cd__law_date ct__law_date,
       g__law_date := PySem.W.mg_of X G a__law_date,
       F__law_date := fun_mk (st := s_L_date) l__law_date c__law_date k__law_date,
       b__law_date := (fun_mk (st := s_L_date) l__law_date c__law_date k__law_date).binds (ps := ["day"]) fun _ _ _ _ _ _ us hl => match us, hl with | [_], _ => rfl,
       a__law_day := f__law_day,
       d__law_day := PySem.W.fnOf "_law_day" "_law_day" (defArgs s_L_day) (defBody s_L_day) (defScope s_L_day) .none kV__law_day dc__law_day pm__law_day an__law_day cd__law_day ct__law_day,
       g__law_day := PySem.W.mg_of X G a__law_day,
       F__law_day := fun_mk (st := s_L_day) l__law_day c__law_day k__law_day,
       b__law_day := (fun_mk (st := s_L_day) l__law_day c__law_day k__law_day).binds (ps := ["numbers"]) fun _ _ _ _ _ _ us hl => match us, hl with | [_], _ => rfl,
       a__law_holidays := f__law_holidays,
       d__law_holidays := PySem.W.fnOf "_law_holidays" "_law_holidays" (defArgs s_L_holidays) (defBody s_L_holidays) (defScope s_L_holidays) .none kV__law_holidays dc__law_holidays pm__law_holidays an__law_holidays cd__law_holidays ct__law_holidays,
       g__law_holidays := PySem.W.mg_of X G a__law_holidays,
       F__law_holidays := fun_mk (st := s_L_holidays) l__law_holidays c__law_holidays k__law_holidays,
       b__law_holidays := (fun_mk (st := s_L_holidays) l__law_holidays c__law_holidays k__law_holidays).binds (ps := ["numbers", "day"]) fun _ _ _ _ _ _ us hl => match us, hl with | [_, _], _ => rfl,
       a__law_works := f__law_works,
       d__law_works := PySem.W.fnOf "_law_works" "_law_works" (defArgs s_L_works) (defBody s_L_works) (defScope s_L_works) .none kV__law_works dc__law_works pm__law_works an__law_works cd__law_works ct__law_works,
       g__law_works := PySem.W.mg_of X G a__law_works,
       F__law_works := fun_mk (st := s_L_works) l__law_works c__law_works k__law_works,
       b__law_works := (fun_mk (st := s_L_works) l__law_works c__law_works k__law_works).binds (ps := ["day", "holidays"]) fun _ _ _ _ _ _ us hl => match us, hl with | [_, _], _ => rfl,
       a__law_search := f__law_search,
       d__law_search := PySem.W.fnOf "_law_search" "_law_search" (defArgs s_L_search) (defBody s_L_search) (defScope s_L_search) .none kV__law_search dc__law_search pm__law_search an__law_search cd__law_search ct__law_search,
       g__law_search := PySem.W.mg_of X G a__law_search,
       F__law_search := fun_mk (st := s_L_search) l__law_search c__law_search k__law_search,
       b__law_search := (fun_mk (st := s_L_search) l__law_search c__law_search k__law_search).binds (ps := ["day", "step", "holidays"]) fun _ _ _ _ _ _ us hl => match us, hl with | [_, _, _], _ => rfl,
       a__law_due := f__law_due,
       d__law_due := PySem.W.fnOf "_law_due" "_law_due" (defArgs s_L_due) (defBody s_L_due) (defScope s_L_due) .none kV__law_due dc__law_due pm__law_due an__law_due cd__law_due ct__law_due,
       g__law_due := PySem.W.mg_of X G a__law_due,
       F__law_due := fun_mk (st := s_L_due) l__law_due c__law_due k__law_due,
       b__law_due := (fun_mk (st := s_L_due) l__law_due c__law_due k__law_due).binds (ps := ["day", "holidays", "how"]) fun _ _ _ _ _ _ us hl => match us, hl with | [_, _, _], _ => rfl,
       a__law_told := f__law_told,
       d__law_told := PySem.W.fnOf "_law_told" "_law_told" (defArgs s_L_told) (defBody s_L_told) (defScope s_L_told) .none kV__law_told dc__law_told pm__law_told an__law_told cd__law_told ct__law_told,
       g__law_told := PySem.W.mg_of X G a__law_told,
       F__law_told := fun_mk (st := s_L_told) l__law_told c__law_told k__law_told,
       b__law_told := (fun_mk (st := s_L_told) l__law_told c__law_told k__law_told).binds (ps := ["day", "holidays", "how"]) fun _ _ _ _ _ _ us hl => match us, hl with | [_, _, _], _ => rfl,
       a__law_tells_working := f__law_tells_working,
       d__law_tells_working := PySem.W.fnOf "_law_tells_working" "_law_tells_working" (defArgs s_L_tells_working) (defBody s_L_tells_working) (defScope s_L_tells_working) .none kV__law_tells_working dc__law_tells_working pm__law_tells_working an__law_tells_working cd__law_tells_working ct__law_tells_working,
       g__law_tells_working := PySem.W.mg_of X G a__law_tells_working,
       F__law_tells_working := fun_mk (st := s_L_tells_working) l__law_tells_working c__law_tells_working k__law_tells_working,
       b__law_tells_working := (fun_mk (st := s_L_tells_working) l__law_tells_working c__law_tells_working k__law_tells_working).binds (ps := ["day", "holidays"]) fun _ _ _ _ _ _ us hl => match us, hl with | [_, _], _ => rfl,
       a_law := f_law,
       d_law := PySem.W.fnOf "law" "law" (defArgs s_law) (defBody s_law) (defScope s_law) .none kV_law dc_law pm_law an_law cd_law ct_law,
       g_law := PySem.W.mg_of X G a_law,
       F_law := fun_mk (st := s_law) l_law c_law k_law,
       b_law := (fun_mk (st := s_law) l_law c_law k_law).binds (ps := ["script"]) fun _ _ _ _ _ _ us hl => match us, hl with | [_], _ => rfl,
       u_LAST_DAY := w_LAST_DAY,
       g_LAST_DAY := PySem.W.mg_of X G v_LAST_DAY,
       r_LAST_DAY := vr_LAST_DAY,
       u_FIRST_YEAR := w_FIRST_YEAR,
       g_FIRST_YEAR := PySem.W.mg_of X G v_FIRST_YEAR,
       r_FIRST_YEAR := vr_FIRST_YEAR,
       u_DAYS_OF_FOUR_YEARS := w_DAYS_OF_FOUR_YEARS,
       g_DAYS_OF_FOUR_YEARS := PySem.W.mg_of X G v_DAYS_OF_FOUR_YEARS,
       r_DAYS_OF_FOUR_YEARS := vr_DAYS_OF_FOUR_YEARS,
       a_DAYS_OF_MONTHS := t_DAYS_OF_MONTHS,
       g_DAYS_OF_MONTHS := PySem.W.mg_of X G v_DAYS_OF_MONTHS,
       r_DAYS_OF_MONTHS := rfl,
       t_DAYS_OF_MONTHS := fun H => Or.inr ⟨_, _, _, vl_DAYS_OF_MONTHS, rfl, rfl, vz_DAYS_OF_MONTHS, vr_DAYS_OF_MONTHS⟩,
       u_SATURDAY := w_SATURDAY,
       g_SATURDAY := PySem.W.mg_of X G v_SATURDAY,
       r_SATURDAY := vr_SATURDAY,
       a_HOWS := t_HOWS,
       g_HOWS := PySem.W.mg_of X G v_HOWS,
       r_HOWS := rfl,
       t_HOWS := fun H => Or.inr ⟨_, _, _, vl_HOWS, rfl, rfl, vz_HOWS, vr_HOWS⟩,
       n_bool := PySem.W.mg_none_of X G n_bool,
       n_int := PySem.W.mg_none_of X G n_int,
       n_isinstance := PySem.W.mg_none_of X G n_isinstance,
       n_len := PySem.W.mg_none_of X G n_len,
       n_list := PySem.W.mg_none_of X G n_list,
       n_range := PySem.W.mg_none_of X G n_range }, rfl⟩
end K08
open PySem PySem.W PyProof.Rows
set_option maxRecDepth 100000 in
set_option maxHeartbeats 0 in
theorem PySem.Challenge.cw_corebank_k08_whole_adjust_holds : PySem.Challenge.rw_corebank_k08_whole_adjust.Holds := by
  w_on; o_law; k_head; (case hw => w_witness2)
  k_fill
  refine Kv.walk (l := PySem.Challenge.rw_corebank_k08_whole_adjust) (k := 10) rfl rfl ⟨rfl, by decide, by decide⟩ (fun w h Y => PySem.W.kIn_of Y) ?F
  case F =>
    intro w mg fa h KX G hmg
    obtain ⟨T, hT⟩ : ∃ T : K08.Txt _ mg, ∃ a b c d e f, T.d_law = PySem.W.fnOf "law" "law" (L2.defArgs K08.s_law) (L2.defBody K08.s_law) (L2.defScope K08.s_law) .none a b c d e f := by
      refine' (fun z => ⟨z.choose, _, _, _, _, _, _, z.choose_spec⟩) (K08.txt_mk KX G ?e_BadValue ?e_BadDay ?e_Missing ?e_Refused ?e_Full ?e_NotAllowed ?e_Damaged ?e_BankError ?eAll ?a_is_day ?l_is_day ?c_is_day ?k_is_day ?a_check_day ?l_check_day ?c_check_day ?k_check_day ?a_days_of_month ?l_days_of_month ?c_days_of_month ?k_days_of_month ?a_first_day_of ?l_first_day_of ?c_first_day_of ?k_first_day_of ?a_date_of ?l_date_of ?c_date_of ?k_date_of ?a_weekday ?l_weekday ?c_weekday ?k_weekday ?a_is_working ?l_is_working ?c_is_working ?k_is_working ?a_find_working ?l_find_working ?c_find_working ?k_find_working ?a_find_modified ?l_find_modified ?c_find_modified ?k_find_modified ?a_find_adjusted ?l_find_adjusted ?c_find_adjusted ?k_find_adjusted ?a_adjust ?l_adjust ?c_adjust ?k_adjust ?a__law_numbers ?l__law_numbers ?c__law_numbers ?k__law_numbers ?a__law_kinds ?l__law_kinds ?c__law_kinds ?k__law_kinds ?a__law_length ?l__law_length ?c__law_length ?k__law_length ?a__law_date ?l__law_date ?c__law_date ?k__law_date ?a__law_day ?l__law_day ?c__law_day ?k__law_day ?a__law_holidays ?l__law_holidays ?c__law_holidays ?k__law_holidays ?a__law_works ?l__law_works ?c__law_works ?k__law_works ?a__law_search ?l__law_search ?c__law_search ?k__law_search ?a__law_due ?l__law_due ?c__law_due ?k__law_due ?a__law_told ?l__law_told ?c__law_told ?k__law_told ?a__law_tells_working ?l__law_tells_working ?c__law_tells_working ?k__law_tells_working ?a_law ?l_law ?c_law ?k_law ?v_LAST_DAY ?vr_LAST_DAY ?v_FIRST_YEAR ?vr_FIRST_YEAR ?v_DAYS_OF_FOUR_YEARS ?vr_DAYS_OF_FOUR_YEARS ?v_DAYS_OF_MONTHS ?vl_DAYS_OF_MONTHS ?vz_DAYS_OF_MONTHS ?vr_DAYS_OF_MONTHS ?v_SATURDAY ?vr_SATURDAY ?v_HOWS ?vl_HOWS ?vz_HOWS ?vr_HOWS ?n_bool ?n_int ?n_isinstance ?n_len ?n_list ?n_range)
      (case e_BadValue => k_is)
      (case e_BadDay => k_is)
      (case e_Missing => k_is)
      (case e_Refused => k_is)
      (case e_Full => k_is)
      (case e_NotAllowed => k_is)
      (case e_Damaged => k_is)
      (case e_BankError => k_is)
      (case eAll => first | rfl | with_unfolding_all rfl | kernel_rfl)
      (case a_is_day => k_is)
      (case l_is_day => k_is)
      (case c_is_day => k_is)
      (case k_is_day => k_is)
      (case a_check_day => k_is)
      (case l_check_day => k_is)
      (case c_check_day => k_is)
      (case k_check_day => k_is)
      (case a_days_of_month => k_is)
      (case l_days_of_month => k_is)
      (case c_days_of_month => k_is)
      (case k_days_of_month => k_is)
      (case a_first_day_of => k_is)
      (case l_first_day_of => k_is)
      (case c_first_day_of => k_is)
      (case k_first_day_of => k_is)
      (case a_date_of => k_is)
      (case l_date_of => k_is)
      (case c_date_of => k_is)
      (case k_date_of => k_is)
      (case a_weekday => k_is)
      (case l_weekday => k_is)
      (case c_weekday => k_is)
      (case k_weekday => k_is)
      (case a_is_working => k_is)
      (case l_is_working => k_is)
      (case c_is_working => k_is)
      (case k_is_working => k_is)
      (case a_find_working => k_is)
      (case l_find_working => k_is)
      (case c_find_working => k_is)
      (case k_find_working => k_is)
      (case a_find_modified => k_is)
      (case l_find_modified => k_is)
      (case c_find_modified => k_is)
      (case k_find_modified => k_is)
      (case a_find_adjusted => k_is)
      (case l_find_adjusted => k_is)
      (case c_find_adjusted => k_is)
      (case k_find_adjusted => k_is)
      (case a_adjust => k_is)
      (case l_adjust => k_is)
      (case c_adjust => k_is)
      (case k_adjust => k_is)
      (case a__law_numbers => k_is)
      (case l__law_numbers => k_is)
      (case c__law_numbers => k_is)
      (case k__law_numbers => k_is)
      (case a__law_kinds => k_is)
      (case l__law_kinds => k_is)
      (case c__law_kinds => k_is)
      (case k__law_kinds => k_is)
      (case a__law_length => k_is)
      (case l__law_length => k_is)
      (case c__law_length => k_is)
      (case k__law_length => k_is)
      (case a__law_date => k_is)
      (case l__law_date => k_is)
      (case c__law_date => k_is)
      (case k__law_date => k_is)
      (case a__law_day => k_is)
      (case l__law_day => k_is)
      (case c__law_day => k_is)
      (case k__law_day => k_is)
      (case a__law_holidays => k_is)
      (case l__law_holidays => k_is)
      (case c__law_holidays => k_is)
      (case k__law_holidays => k_is)
      (case a__law_works => k_is)
      (case l__law_works => k_is)
      (case c__law_works => k_is)
      (case k__law_works => k_is)
      (case a__law_search => k_is)
      (case l__law_search => k_is)
      (case c__law_search => k_is)
      (case k__law_search => k_is)
      (case a__law_due => k_is)
      (case l__law_due => k_is)
      (case c__law_due => k_is)
      (case k__law_due => k_is)
      (case a__law_told => k_is)
      (case l__law_told => k_is)
      (case c__law_told => k_is)
      (case k__law_told => k_is)
      (case a__law_tells_working => k_is)
      (case l__law_tells_working => k_is)
      (case c__law_tells_working => k_is)
      (case k__law_tells_working => k_is)
      (case a_law => k_is)
      (case l_law => k_is)
      (case c_law => k_is)
      (case k_law => k_is)
      (case v_LAST_DAY => k_is)
      (case vr_LAST_DAY => exact ⟨_, rfl⟩)
      (case v_FIRST_YEAR => k_is)
      (case vr_FIRST_YEAR => exact ⟨_, rfl⟩)
      (case v_DAYS_OF_FOUR_YEARS => k_is)
      (case vr_DAYS_OF_FOUR_YEARS => exact ⟨_, rfl⟩)
      (case v_DAYS_OF_MONTHS => k_is)
      (case vl_DAYS_OF_MONTHS => k_is)
      (case vz_DAYS_OF_MONTHS => decide)
      (case vr_DAYS_OF_MONTHS => exact (.cons ⟨_, rfl⟩ (.cons ⟨_, rfl⟩ (.cons ⟨_, rfl⟩ (.cons ⟨_, rfl⟩ (.cons ⟨_, rfl⟩ (.cons ⟨_, rfl⟩ (.cons ⟨_, rfl⟩ (.cons ⟨_, rfl⟩ (.cons ⟨_, rfl⟩ (.cons ⟨_, rfl⟩ (.cons ⟨_, rfl⟩ (.cons ⟨_, rfl⟩ .nil)))))))))))))
      (case v_SATURDAY => k_is)
      (case vr_SATURDAY => exact ⟨_, rfl⟩)
      (case v_HOWS => k_is)
      (case vl_HOWS => k_is)
      (case vz_HOWS => decide)
      (case vr_HOWS => exact (.cons ⟨_, rfl⟩ (.cons ⟨_, rfl⟩ (.cons ⟨_, rfl⟩ (.cons ⟨_, rfl⟩ .nil)))))
      (case n_bool => k_is)
      (case n_int => k_is)
      (case n_isinstance => k_is)
      (case n_len => k_is)
      (case n_list => k_is)
      (case n_range => k_is)
    obtain ⟨_, _, _, _, _, _, hT⟩ := hT
    have ea : fa = T.a_law := by
      have z := hmg.symm.trans T.g_law
      cases z; rfl
    subst ea
    exact ⟨T.d_law, fun s u => by rw [hT]; exact .of_eq rfl, fun base _ _ => K08.ok_law T⟩
#print axioms PySem.Challenge.cw_corebank_k08_whole_adjust_holds

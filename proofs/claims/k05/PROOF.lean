import PyProof.Rows.All
import Wide.All
import OpenK.AllK
import Wide.FinOn
import KE.KStateDown
import PyProof.InstEq
import PyProof.InstNe
import PyProof.Rows.NestShow
import HandS.ForMost
import HandS.Defaults
import HandS.Exc
import HandS.IsInst
import HandS.OwnEq
import HandS.Codes
import HandS.Wide
import HandS.Evl
import HandS.Iter
import KE.KDictZip
import KE.KTurns
import HandS.Dict
import HandS.Strs
import KE.KDictPairs
import HandS.Sort
import PyProof.FactsAll.range_2
import HandS.MakeKwOnly
import HandS.Ends
import HandS.HeadEnd
import HandS.Style
import HandS.TupAny
import HandS.Star
import KE.KEqNest
import KE.GoesEnum
import KE.GoesMore
import PyProof.SliceList
import KE.KExcIs
import KE.KTryMore
import HandS.Base
import HandS.Call
import HandS.List
import HandS.ExcIs
import HandS.ExcField
import HandS.ExcInit
import HandS.ExcCtx
import HandS.ExcValue
import HandS.HotCalls
import HandS.HeadHook1
import HandS.ExcValueHot
import HandS.Conv
import HandS.ListItems
import HandS.Deep
import HandS.Replace
import HandS.HeadHook2
import HandS.HeadHook4
import HandS.WordsExc
import HandS.Head0
import HandS.Head1
import HandS.Head2
import HandS.Head3
import HandS.HeadHook3
import HandS.Walk
import PyProof.StrLawsRepr
import HandS.ExcOwn
import PyProof.EqKinds
import HandS.Gcd
import HandS.DictSub
import PyProof.EqAt
import PyProof.NeKinds
import HandS.TryMany
import HandS.Comp
import HandS.SuiteRaise
import HandS.DictComp
import KE.KDictLaw
import PyProof.P3Eq
import PySem.Challenge.RW_fairpatch_k05_refused_spaces_and_stores
set_option Elab.async false
set_option linter.all false
set_option maxRecDepth 100000
set_option maxHeartbeats 4000000
/-! Further rules: defs that are run where nothing is being shown (repr), methods called with keywords, own len, in, ==, !=. -/
namespace L2
open PySem PySem.Spec PyProof.Rows

/-! ### defs called where nothing is being shown -/
structure FnG (P : Program) (w : World) (K : PySem.W.Frag) (mg : Str → Option Value) (base : Heap) (CX : CXT) (k : Nat) (f : Addr) (fd : FuncData) (ps : List Str) (sp : Sp) : Prop where
  len : ∀ vs H Q E, sp vs H Q E → vs.length = ps.length
  run : ∀ (A : Around) (outer : List Env) (s : Shared) (H : Hp) (args : Args) (us : List Value) (vs : List V) (Q : VK) (E : XK), A.guards = some [] → Room k A → Env0 P w K mg base A outer s H → BindsTo s fd args (ps.zip us) → Vals vs us → sp vs H Q E →
    codeAny (model P w) A (.call (.ref f) args) (CR CX outer P w H s Q E) s
theorem FnOk.g {P : Program} {w : World} {K : PySem.W.Frag} {mg : Str → Option Value} {base : Heap} {CX : CXT} {k : Nat} {f : Addr} {fd : FuncData} {ps : List Str} {sp : Sp} (F : FnOk P w K mg base CX k f fd ps sp) : FnG P w K mg base CX k f fd ps sp :=
  ⟨F.len, fun A outer s H args us vs Q E _ hr => F.run A outer s H args us vs Q E hr⟩
theorem fn_ofG {CX : CXT} {P : Program} {w : World} {K : PySem.W.Frag} {mg : Str → Option Value} {base : Heap} {k : Nat} {f : Addr} {name qual : Str} {params : Arguments} {body : List Stmt} {scope : Scope} {dV kV doc pm cdv ct oc : Value} {an od : Option Addr}
    {osl : Array (Option Value)} {N ps : List Str} {sp : Sp} (lk : K.lookup f = some ⟨oc, od, .func (PySem.W.fnOf name qual params body scope dV kV doc pm an cdv ct), osl⟩) (hcd : PySem.W.codeIn K cdv qual = true) (S : FnScope N ps scope)
    (len : ∀ vs H Q E, sp vs H Q E → vs.length = ps.length)
    (hbody : ∀ (A : Around) (outer : List Env) (s : Shared) (H : Hp) (vs : List V) (Q : VK) (E : XK), (A.deeper (envOfC qual scope s.heap.objs.size f cdv)).guards = some [] → Room k (A.deeper (envOfC qual scope s.heap.objs.size f cdv)) → sp vs H Q E →
      ∃ t, PSs (cxOf CX P w K mg base N qual scope f cdv A outer s H E) body t ∧ t { nx := fun _ H' => Q .non H', rt := Q } (start N vs) H) :
    FnG P w K mg base CX (k + 1) f (PySem.W.fnOf name qual params body scope dV kV doc pm an cdv ct) ps sp := by
  refine ⟨len, fun A outer s H args us vs Q E hG hr e0 hb r hsp => ?_⟩
  have hl := len _ _ _ _ hsp
  have KX : K.In s.heap := e0.mod.kin.keeps fun b o e => (e0.bs b o e).1
  have lim : s.heap.NoLimit := e0.mod.nolimit.keeps fun b o e => (e0.bs b o e).1
  have hkind : ∀ y ∈ ps.zip us, scope.names.lookup y.1 = some .local ∨ (scope.names.lookup y.1 = some .cell ∧ ((cellsFrom (s.heap.objs.size + 1) scope.names []).lookup y.1).isSome = true) := fun ⟨n, v⟩ hy => by
    rcases S.par n (List.of_mem_zip hy).1 with q | q
    · exact .inl q
    · exact .inr ⟨q, PySem.W.cellsFrom_some _ _ _ (.inl q)⟩
  refine codeAny_call_function hr.depth (KX _ _ lk) rfl S.co S.gen rfl (PySem.W.codeRec_of KX hcd) (hb _ _ _ _ ?_)
  refine wpAny_newFunctionEnv_cells S.kind hkind fun env he s1 x => ?_
  subst he
  refine ⟨lim.keeps x.toInCall.keep, codeAny_func ?_⟩
  obtain ⟨t, ht, hq⟩ := hbody A outer s H vs Q E hG (hr.deeper _) hsp
  have I : Inv (cxOf CX P w K mg base N qual scope f cdv A outer s H E) [] (start N vs) H s1 := inv_start S hr.hd e0 hl r x
  refine wpAny_mono (ht.run [] s1 (start N vs) H _ I hq) (fun fl s' hs => ?_) fun e s' hs => hs
  have fin : ∀ {σ' : St} {H' : Hp} {v : V} {u : Value}, Inv (cxOf CX P w K mg base N qual scope f cdv A outer s H E) [] σ' H' s' → RelV v u → Q v H' → CE outer P w H s Q u s' :=
    fun {σ' H' v u} J rv q => ⟨v, H', J.os, J.bare, J.base, J.hok, rv, q⟩
  cases fl with
  | ret u =>
    obtain ⟨v, σ', H', J, rv, q⟩ := hs
    exact fin J rv q
  | next =>
    obtain ⟨σ', H', J, q⟩ := hs
    exact fin (v := V.non) (u := Value.none) J rfl q
  | brk =>
    obtain ⟨_, _, _, q⟩ := hs
    exact False.elim q
  | cont =>
    obtain ⟨_, _, _, q⟩ := hs
    exact False.elim q
theorem FunD.okG {CX : CXT} {P : Program} {w : World} {K : PySem.W.Frag} {mg : Str → Option Value} {base : Heap} {x qual : Str} {params : Arguments} {body : List Stmt} {scope : Scope} {dvs : List V} {kws : List (Str × V)} {f : Addr} {fd : FuncData} {N ps : List Str} {k : Nat} {sp : Sp}
    (F : FunD K x qual params body scope dvs kws f fd) (S : FnScope N ps scope) (len : ∀ vs H Q E, sp vs H Q E → vs.length = ps.length)
    (hbody : ∀ (cdv : Value) (A : Around) (outer : List Env) (s : Shared) (H : Hp) (vs : List V) (Q : VK) (E : XK), (A.deeper (envOfC qual scope s.heap.objs.size f cdv)).guards = some [] → Room k (A.deeper (envOfC qual scope s.heap.objs.size f cdv)) → sp vs H Q E →
      ∃ t, PSs (cxOf CX P w K mg base N qual scope f cdv A outer s H E) body t ∧ t { nx := fun _ H' => Q .non H', rt := Q } (start N vs) H) : FnG P w K mg base CX (k + 1) f fd ps sp := by
  obtain ⟨oc, od, dV, kV, doc, pm, an, cdv, ct, osl, rfl, lk, hcd, _, _⟩ := F.ex
  exact fn_ofG lk hcd S len fun A outer s H vs Q E hG hr hsp => hbody cdv A outer s H vs Q E hG hr hsp

/-- a def of the module, called where nothing is being shown -/
structure CalG (P : Program) (w : World) (K : PySem.W.Frag) (mg : Str → Option Value) (base : Heap) (k : Nat) (x : Str) (sp : Sp) : Prop where
  ex : ∃ (f : Addr) (fd : FuncData) (ps : List Str), FnG P w K mg base CX0 k f fd ps sp ∧ mg x = some (.ref f) ∧ PySem.W.keepIn K (.ref f) = true ∧ Binds K fd ps []
section
variable {X : Cx} {CX : CXT} {k j : Nat} {f C : Addr} {fd : FuncData} {ps ks : List Str} {sp : Sp} {ds : List Value} {dvs : List V} {E : XK} {x m : Str} {p pos apos : Pos} {e o : Expr} {es : List Expr} {kws : List Keyword} {ta : TE} {t tk : TA} {g : List Value → List Value → List Value} {gV : List V → List V → List V}
theorem pe_cG (c : CalG X.prog X.w X.K X.mg X.base k x sp) (hG : X.A.guards = some []) (hr : Room j X.A) (hk : k ≤ j) (hg : Gl X x) (ha : PA X (e :: es) t)
    (hdb : (x == ("__debug__" : Str)) = false := by decide) (he : starEach (e :: es) X.env = (false, eval e X.env) :: starEach es X.env := by rfl) (hpl : (backTo pos (starEach es X.env)).any (·.1) = false := by rfl) :
    PE X (.Call (.Name x p) (e :: es) [] pos) (tCall sp [] E0 t) := by
  obtain ⟨f, fd, ps, F, hm, kp, hb⟩ := c.ex
  refine ⟨fun pins s σ H Q I h => ?_⟩
  refine wpAny_Call_Name_kw (ld_glob I hg hm ?_ hdb)
  refine PySem.W.callWith_K (h₀ := X.base) I.ok.mod.kin kp (thn (ha.run pos pins s σ H _ I h) fun us s1 ⟨vs, H1, I1, r, q⟩ => ⟨I1.kIn, ?_⟩) he hpl
  have r2 : Vals (vs ++ []) (us ++ []) := r.append .nil
  have hl : (us ++ []).length = ps.length := by rw [← r2.length]; exact F.len _ _ _ _ q
  refine wpAny_call (codeAny_mono (F.run X.A X.stack s1 H1 ⟨us, []⟩ (us ++ []) (vs ++ []) Q E0 hG (hr.mono hk) I1.env0 (hb s1 us I1.kIn hl) r2 q) fun r s' hq => ?_)
  cases r with
  | error e => exact False.elim hq
  | ok fl =>
    cases fl with
    | ret u => exact I1.after hq
    | next => exact False.elim hq
    | brk => exact False.elim hq
    | cont => exact False.elim hq

/-! ### a method called with keywords -/
def tMethK (C : Addr) (m : Str) (n nk : Nat) (sp : Sp) (gV : List V → List V → List V) (E : XK) (ta : TE) (t tk : TA) : TE := fun σ H Q => ta σ H fun x H1 => ∃ a dx fs, x = .ref a ∧ H1 a = some (.ins C dx fs) ∧ fs.lookup m = none ∧
  t σ H1 fun vs H2 => tk σ H2 fun zs H3 => vs.length = n ∧ zs.length = nk ∧ sp (gV (x :: vs) zs) H3 Q E
theorem run_fnKn {pins : List (Addr × Obj)} {σ : St} {H : Hp} {s : Shared} {Q : VK} {us ws : List Value} {vs zs : List V} {n : Nat} (F : FnOk X.prog X.w X.K X.mg X.base CX k f fd ps sp) (hr : Room k X.A) (hb : KBn X.K fd ps n ks g gV) (hx : Passes CX X E)
    (I : Inv X pins σ H s) (r : Vals vs us) (rz : Vals zs ws) (l1 : vs.length = n) (l2 : zs.length = ks.length) (h : sp (gV vs zs) H Q E) : wpAny (model X.prog X.w) X.A (call (.ref f) us (ks.zip ws)) (EP X pins σ Q) X.xe s := by
  have r2 := hb.rel r rz
  refine wpAny_call (codeAny_mono (F.run X.A X.stack s H ⟨us, ks.zip ws⟩ (g us ws) (gV vs zs) Q E hr I.env0 (hb.to s us ws I.kIn (r.length.symm.trans l1) (rz.length.symm.trans l2)) r2 h) fun r s' hq => ?_)
  cases r with
  | error e => exact hx pins σ H s e s' I hq
  | ok fl =>
    cases fl with
    | ret u => exact I.after hq
    | next => exact False.elim hq
    | brk => exact False.elim hq
    | cont => exact False.elim hq
theorem pe_methK0 {pl : Sem Bool} (he : PE X o ta) (c : Cls X.K C) (hm : Meth X.K C m f) (F : FnOk X.prog X.w X.K X.mg X.base CX k f fd ps sp) (hr : Room k X.A) (hb : KBn X.K fd ps 1 ks g gV) (hx : Passes CX X E) (hkw : PK X kws tk)
    (hall : (backToKw pos (keywordEach kws X.env)).all (·.1.isSome) = true := by rfl) (hks : (backToKw pos (keywordEach kws X.env)).filterMap (·.1) = ks := by rfl)
    (hpl : ((backTo pos (starEach [] X.env)).any (·.1) || (backToKw pos (keywordEach kws X.env)).any (·.1.isNone)) = false := by rfl)
    (ht : eval (.Call (.Attribute o m apos) [] kws pos) X.env = (do
      let ov ← eval o X.env
      standAt apos.atName
      let (f, first) ← holding [ov] (getMethod ov m pl)
      callWith pos f first (backTo pos (starEach [] X.env)) (backToKw pos (keywordEach kws X.env))) := by rfl) :
    PE X (.Call (.Attribute o m apos) [] kws pos) (tMethK C m 0 ks.length sp gV E ta tNil tk) := by
  refine ⟨fun pins s σ H Q I h => ?_⟩
  refine PySem.W.methodCall_KW (pl := pl) (thn (he.run pins s σ H _ I h) fun u s1 ⟨x, H1, I1, rx, a, dx, fs, ex, ea, l, q⟩ => ?_) ht
  subst ex
  obtain rfl : u = Value.ref a := rx
  refine getmeth_ok I1 ea c hm l ?_
  refine PySem.W.callWith_KW0 (first := [.ref a]) I1.kIn hm.kp hall ?_ hpl
  refine thn (hkw.run pos pins s1 σ H1 _ I1 q) fun ws s2 ⟨zs, H2, I2, rz, l1, l2, q2⟩ => ⟨I2.kIn, ?_⟩
  rw [hks]
  exact run_fnKn (us := [.ref a]) (vs := [.ref a]) F hr hb hx I2 (.cons rfl .nil) rz rfl l2 q2
end

/-! ### repr of data -/
structure rRepr (K : PySem.W.Frag) (xs : List V) (H : Hp) (Q : VK) : Prop where
  ex : ∃ v d, xs = [v] ∧ Dp K H v d ∧ d.showable = true ∧ d.hasDict = false ∧ d.depth ≤ 60 ∧ d.shown.length ≤ sizeLine ∧ Q (.str d.shown) H
theorem call_repr {X : Cx} (hG : X.A.guards = some []) (hu : X.A.units + 64 < cLine) : CallR X (.builtin "repr") (rRepr X.K) := by
  intro pins s σ H xs us Q I r h
  obtain ⟨v, d, rfl, hd, hs, hnd, hdep, hz, q⟩ := h.ex
  obtain ⟨u, rfl, ru⟩ := vals1 r
  obtain ⟨as, rd⟩ := Dp.reads I d v u hd ru
  cases rd with
  | none => exact PySem.P.repr_of_none ⟨.str _, H, I.tok _, ⟨_, rfl⟩, q⟩
  | bool b => exact PySem.P.repr_of_bool ⟨.str _, H, I.tok _, ⟨_, rfl⟩, q⟩
  | int i t =>
    have hs' : decide (i.natAbs.log2 < 1920) = true := by simpa [PyData.showable] using hs
    exact PySem.P.repr_of_int (of_decide_eq_true hs') ⟨.str _, H, I.tok _, ⟨_, rfl⟩, q⟩
  | str x t => exact PySem.P.repr_of_str ⟨.str _, H, I.tok _, ⟨_, rfl⟩, q⟩ hz
  | list h1 h2 h3 h4 =>
    exact repr_of_reads' (.list h1 h2 h3 h4) hs (PyData.noDict_hsm hnd) hG (by omega) (fun _ _ e => e) (fun h' u tk hk => ⟨.str _, H, I.kept (t' := tk) hk, ⟨_, rfl⟩, q⟩) hz
  | tuple h1 h2 h3 h4 =>
    exact repr_of_reads' (.tuple h1 h2 h3 h4) hs (PyData.noDict_hsm hnd) hG (by omega) (fun _ _ e => e) (fun h' u tk hk => ⟨.str _, H, I.kept (t' := tk) hk, ⟨_, rfl⟩, q⟩) hz
  | dict h1 h2 h3 h4 h5 => cases hd

/-! ### own len, in, ==, != -/
/-- a special method of the class at C -/
structure Spc (P : Program) (w : World) (K : PySem.W.Frag) (mg : Str → Option Value) (base : Heap) (k : Nat) (C : Addr) (m : Str) (sp : Sp) : Prop where
  ex : ∃ (f : Addr) (fd : FuncData) (ps : List Str), PySem.W.findIn K (.ref C) m = some (some (.ref f)) ∧ PySem.W.isFn K (.ref f) = true ∧ FnOk P w K mg base CX0 k f fd ps sp ∧ Binds K fd ps []
section
variable {X : Cx} {k j : Nat} {C : Addr} {sp : Sp}
def rOwnLen (C : Addr) (sp : Sp) : List V → Hp → VK → Prop := fun xs H Q => ∃ a dx fs, xs = [.ref a] ∧ H a = some (.ins C dx fs) ∧ sp [.ref a] H (fun v H' => ∃ n : Int, v = .int n ∧ 0 ≤ n ∧ n < 2 ^ 63 ∧ Q (.int n) H') E0
theorem Inv.in1 {X : Cx} {pins : List (Addr × Obj)} {σ : St} {H : Hp} {s : Shared} (I : Inv X pins σ H s) : Env0 X.prog X.w X.K X.mg X.base X.A.in1 X.stack s H :=
  ⟨I.env0.frames, I.env0.mod, I.env0.bs, I.env0.bsz, I.env0.funs, I.env0.frf, I.env0.hok, I.env0.bare⟩
theorem call_ownLen (c : Spc X.prog X.w X.K X.mg X.base k C "__len__" sp) (hr : Room j X.A) (hk : k + 1 ≤ j) : CallR X (.builtin "len") (rOwnLen C sp) := by
  intro pins s σ H xs us Q I r h
  obtain ⟨a, dx, fs, rfl, ha, q⟩ := h
  obtain ⟨f, fd, ps, hs, hf, F, hb⟩ := c.ex
  obtain ⟨u, rfl, ru⟩ := vals1 r
  obtain rfl : u = Value.ref a := ru
  obtain ⟨mA, J, _⟩ := ins_get I.hok ha
  obtain ⟨od, J, _⟩ := J.look
  obtain ⟨m, hF⟩ := I.fr
  refine PySem.W.len_K hF I.ok.mod.kin J hs hf ?_
  have hl := F.len _ _ _ _ q
  have r2 : Vals [V.ref a] [Value.ref a] := .cons rfl .nil
  refine wpAny_call (codeAny_mono (F.run X.A.in1 X.stack s H ⟨[.ref a], []⟩ [.ref a] [.ref a] _ E0 ((hr.mono hk).in1) I.in1 (by
    have := hb s [.ref a] I.kIn (by simpa using hl)
    simpa using this) r2 q) fun r s' hq => ?_)
  cases r with
  | error e => exact False.elim hq
  | ok fl =>
    cases fl with
    | ret w =>
      obtain ⟨z, H', I', rz, n, ez, h0, h1, q'⟩ := I.after hq
      subst ez
      obtain ⟨t, rfl⟩ := rz
      exact ⟨⟨h0, h1⟩, .int n, H', I'.tok _, ⟨_, rfl⟩, q'⟩
    | next => exact False.elim hq
    | brk => exact False.elim hq
    | cont => exact False.elim hq
/-- run a special method of two arguments that answers True or False -/
theorem run_spc2 {m : Str} {pins : List (Addr × Obj)} {σ : St} {H : Hp} {s : Shared} {a : Addr} {y : V} {u : Value} {Q : Bool → Hp → Prop} {f : Addr} {fd : FuncData} {ps : List Str} {A : Around} (hA : A.frames = X.A.frames) (hr : Room k A)
    (F : FnOk X.prog X.w X.K X.mg X.base CX0 k f fd ps sp) (hb : Binds X.K fd ps []) (I : Inv X pins σ H s) (ry : RelV y u) (q : sp [.ref a, y] H (fun v H' => ∃ b, v = .bl b ∧ Q b H') E0) :
    wpAny (model X.prog X.w) A (call (.ref f) [.ref a, u]) (fun w' s' => ∃ b H', w' = .bool b ∧ Inv X pins σ H' s' ∧ Q b H') X.xe s := by
  have hl := F.len _ _ _ _ q
  have e0 : Env0 X.prog X.w X.K X.mg X.base A X.stack s H := by
    have e := I.env0
    exact ⟨by rw [hA]; exact e.frames, e.mod, e.bs, e.bsz, e.funs, e.frf, e.hok, e.bare⟩
  refine wpAny_call (codeAny_mono (F.run A X.stack s H ⟨[.ref a, u], []⟩ [.ref a, u] [.ref a, y] _ E0 hr e0 (by
    have := hb s [.ref a, u] I.kIn (by simpa using hl)
    simpa using this) (.cons rfl (.cons ry .nil)) q) fun r s' hq => ?_)
  cases r with
  | error e => exact False.elim hq
  | ok fl =>
    cases fl with
    | ret w =>
      obtain ⟨z, H', I', rz, b, ez, q'⟩ := I.after hq
      subst ez
      cases rz
      exact ⟨b, H', rfl, I', q'⟩
    | next => exact False.elim hq
    | brk => exact False.elim hq
    | cont => exact False.elim hq
def rOwnIn (C : Addr) (sp : Sp) (neg : Bool) : R2 := fun x y H Q => ∃ a dx fs, y = .ref a ∧ H a = some (.ins C dx fs) ∧ sp [.ref a, x] H (fun v H' => ∃ b, v = .bl b ∧ Q (.bl (b != neg)) H') E0
theorem op_ownIn (c : Spc X.prog X.w X.K X.mg X.base k C "__contains__" sp) (hr : Room j X.A) (hk : k ≤ j) : OpR X (compareOp .In) (rOwnIn C sp false) := by
  intro pins s σ H x y v u Q I rx ry h
  obtain ⟨a, dx, fs, rfl, ha, q⟩ := h
  obtain ⟨f, fd, ps, hs, hf, F, hb⟩ := c.ex
  obtain rfl : u = Value.ref a := ry
  obtain ⟨mA, J, _⟩ := ins_get I.hok ha
  obtain ⟨od, J, _⟩ := J.look
  obtain ⟨m, hF⟩ := I.fr
  refine PySem.W.in_K hF I.ok.mod.kin J hs hf (wpAny_mono (run_spc2 (m := "__contains__") rfl (hr.mono hk) F hb I rx q) (fun r s' hq => ?_) fun _ _ e => e)
  obtain ⟨b, H', rfl, I', q'⟩ := hq
  refine wpAny_truthy_bool ⟨.bl _, H', I', rfl, ?_⟩
  simpa using q'
theorem op_ownNotIn (c : Spc X.prog X.w X.K X.mg X.base k C "__contains__" sp) (hr : Room j X.A) (hk : k ≤ j) : OpR X (compareOp .NotIn) (rOwnIn C sp true) := by
  intro pins s σ H x y v u Q I rx ry h
  obtain ⟨a, dx, fs, rfl, ha, q⟩ := h
  obtain ⟨f, fd, ps, hs, hf, F, hb⟩ := c.ex
  obtain rfl : u = Value.ref a := ry
  obtain ⟨mA, J, _⟩ := ins_get I.hok ha
  obtain ⟨od, J, _⟩ := J.look
  obtain ⟨m, hF⟩ := I.fr
  refine PySem.W.notIn_K hF I.ok.mod.kin J hs hf (wpAny_mono (run_spc2 (m := "__contains__") rfl (hr.mono hk) F hb I rx q) (fun r s' hq => ?_) fun _ _ e => e)
  obtain ⟨b, H', rfl, I', q'⟩ := hq
  refine wpAny_truthy_bool ⟨.bl _, H', I', rfl, ?_⟩
  simpa using q'
/-- x == y, x an instance of the class at C with an own __eq__, y anything whose class is not below C -/
def rOwnEq (K : PySem.W.Frag) (C : Addr) (sp : Sp) : R2 := fun x y H Q => ∃ a dx fs t, x = .ref a ∧ H a = some (.ins C dx fs) ∧ TyX K H y t ∧ PySem.W.notFirst K C t = true ∧ sp [.ref a, y] H (fun v H' => ∃ b, v = .bl b ∧ Q (.bl b) H') E0
theorem op_ownEq (c : Spc X.prog X.w X.K X.mg X.base k C "__eq__" sp) (hr : Room j X.A) (hk : k ≤ j) : OpR X (compareOp .Eq) (rOwnEq X.K C sp) := by
  intro pins s σ H x y v u Q I rx ry h
  obtain ⟨a, dx, fs, t, rfl, ha, ht, hn, q⟩ := h
  obtain ⟨f, fd, ps, hs, hf, F, hb⟩ := c.ex
  obtain rfl : v = Value.ref a := rx
  obtain ⟨mA, J, _⟩ := ins_get I.hok ha
  obtain ⟨od, J, _⟩ := J.look
  obtain ⟨m, hF⟩ := I.fr
  obtain ⟨P, Z, p, hx⟩ := kit_of I ry ht
  show wpAny (model X.prog X.w) X.A (richCompare .Eq (.ref a) u) (EP X pins σ Q) X.xe s
  refine PySem.W.cmp_K (op := .Eq) (tb := t) (by have := hr.un; omega) hF I.ok.mod.kin J (Z.ty _ _ I.kIn p) hn hs hf (wpAny_mono (run_spc2 (m := "__eq__") rfl (hr.mono hk) F hb I ry q) (fun r s' hq => ?_) fun _ _ e => e)
  obtain ⟨b, H', rfl, I', q'⟩ := hq
  exact ⟨.bl b, H', I', rfl, q'⟩
end
end L2
namespace PySem.W
open PySem PySem.Spec PySem.Calls PyProof.Rows
section
variable {prog : Program} {w : World} {A A₀ : Around} {E : Value → Shared → Prop} {s : Shared} {K : Frag} {x C L f : Addr} {h₀ : Heap} {m : Str → Option Value} {ox : Obj} {od : Option Obj} {name : Str} {b tb : Value}
theorem ifBound_ne {M : Model} {args : List Value} {Q : Option Value → Shared → Prop} (X : K.In s.heap) (I : InstAt s.heap x ox C od) (hs : findIn K (.ref C) "__ne__" = some (some (.builtin "object.__ne__")))
    (h : wpAny M A (call (.builtin "object.__ne__") (.ref x :: args)) (fun v => Q (some v)) E s) : wpAny M A (callSpecialIfBound? (.ref x) "__ne__" args) Q E s := by
  simp only [callSpecialIfBound?, bindSpecialIfBound?]
  refine wpAny_holding (wpAny_bind (wpAny_bind (wpAny_bind (I.type.here ((looks_findIn X hs).here ?_)))))
  simp only [PySem.F.cmp_object.ne.bind]
  refine wpAny_bind (wpAny_askSetting (wpAny_ite ?_))
  have fin : wpAny M A (call (.builtin "object.__ne__") ([.ref x] ++ args) >>= fun v => pure (some v)) Q E s := wpAny_bind (wpAny_mono h (fun v s' h' => wpAny_pure h') fun _ _ h' => h')
  split
  · exact wpAny_bind (wpAny_pure (wpAny_pure fin))
  · exact wpAny_tryCatch (wpAny_bind (wpAny_pure (wpAny_pure fin)))
theorem ne_K {Q : Value → Shared → Prop} (hu : A.units + 1 < cLine) (F : Fr h₀ L s.heap m) (X₀ : K.In h₀) (I : InstAt s.heap x ox C od) (hb : Looks (model prog w) s.heap (typeOf b) tb) (hn : notFirst K C tb = true)
    (hne : findIn K (.ref C) "__ne__" = some (some (.builtin "object.__ne__"))) (hob : mroIn K C (.type "object") = some true) (hs : findIn K (.ref C) "__eq__" = some (some (.ref f))) (hf : isFn K (.ref f) = true)
    (h : wpAny (model prog w) A.in1 (call (.ref f) [.ref x, b]) (fun v s' => ∃ r, v = .bool r ∧ Q (.bool (!r)) s') E s) : wpAny (model prog w) A (richCompare .NotEq (.ref x) b) Q E s := by
  have X := X₀.keeps F.keep
  have sub : Looks (model prog w) s.heap (isInstance (.ref x) (.type "object")) true := I.type.andThen (looks_mroIn X hob)
  have one : wpAny (model prog w) A (tryCompare (.ref x) "__ne__" b) (fun r s' => ∃ v, r = some v ∧ Q v s') E s := by
    unfold tryCompare
    refine wpAny_bind (ifBound_ne X I hne (wpAny_call (codeAny_call_builtin PySem.F.cmp_object.ne.plain PySem.F.cmpEntry_ne ?_)))
    refine @W.check_slot (model prog w) _ _ s "object.__ne__" "object" "__ne__" (.ref x) [b] [] _ PySem.F.cmpKind_ne PySem.F.cmpSplit_ne sub (PySem.F.cmpArgs_ne (.ref x) b) ?_
    unfold Builtin.«object.__ne__»
    refine wpAny_bind (wpAny_of_eq (a := ((Value.ref x : Value), [b])) (by first | rfl | (simp only [slotArgs]; rfl)) ?_)
    refine wpAny_bind (wpAny_cRoomFor hu ?_)
    refine wpAny_bind (ifBound_K (name := "__eq__") X I hs hf (wpAny_mono h (fun v s' hv => ?_) fun _ _ e => e))
    obtain ⟨r, rfl, hq⟩ := hv
    refine wpAny_bind (wpAny_truthy_bool ?_)
    first
      | exact wpAny_pure ⟨_, rfl, hq⟩
      | exact wpAny_pure (wpAny_pure ⟨_, rfl, hq⟩)
      | exact wpAny_pure (wpAny_bind (wpAny_pure (wpAny_pure ⟨_, rfl, hq⟩)))
  unfold richCompare
  simp only [oneThing_ref]
  refine wpAny_holding (wpAny_bind (wpAny_cRoomFor (by omega) ?_))
  refine wpAny_bind (I.type.here (wpAny_bind (hb.here ?_)))
  split
  · rename_i q
    have e : subIn K tb (.ref C) = some false := by
      rcases Bool.or_eq_true_iff.mp hn with e | e
      · rw [beq_iff_eq.mp e] at q; simp at q
      · exact beq_iff_eq.mp e
    refine wpAny_bind ((looks_subIn X e).here ?_)
    simp only [Bool.false_eq_true, if_false]
    refine wpAny_bind (wpAny_mono one (fun r s' z => ?_) fun _ _ e => e)
    obtain ⟨v, rfl, hq⟩ := z
    exact wpAny_pure hq
  · refine wpAny_bind (wpAny_pure ?_)
    simp only [Bool.false_eq_true, if_false]
    refine wpAny_bind (wpAny_mono one (fun r s' z => ?_) fun _ _ e => e)
    obtain ⟨v, rfl, hq⟩ := z
    exact wpAny_pure hq
end
end PySem.W
namespace L2
open PySem PySem.Spec PyProof.Rows
section
variable {X : Cx} {k j : Nat} {C : Addr} {sp : Sp}
def rOwnNe (K : PySem.W.Frag) (C : Addr) (sp : Sp) : R2 := fun x y H Q => ∃ a dx fs t, x = .ref a ∧ H a = some (.ins C dx fs) ∧ TyX K H y t ∧ PySem.W.notFirst K C t = true ∧ sp [.ref a, y] H (fun v H' => ∃ b, v = .bl b ∧ Q (.bl (!b)) H') E0
theorem op_ownNe (c : Spc X.prog X.w X.K X.mg X.base k C "__eq__" sp) (hne : PySem.W.findIn X.K (.ref C) "__ne__" = some (some (.builtin "object.__ne__"))) (hob : PySem.W.mroIn X.K C (.type "object") = some true)
    (hr : Room j X.A) (hk : k + 1 ≤ j) : OpR X (compareOp .NotEq) (rOwnNe X.K C sp) := by
  intro pins s σ H x y v u Q I rx ry h
  obtain ⟨a, dx, fs, t, rfl, ha, ht, hn, q⟩ := h
  obtain ⟨f, fd, ps, hs, hf, F, hb⟩ := c.ex
  obtain rfl : v = Value.ref a := rx
  obtain ⟨mA, J, _⟩ := ins_get I.hok ha
  obtain ⟨od, J, _⟩ := J.look
  obtain ⟨m, hF⟩ := I.fr
  obtain ⟨P, Z, p, hx⟩ := kit_of I ry ht
  show wpAny (model X.prog X.w) X.A (richCompare .NotEq (.ref a) u) (EP X pins σ Q) X.xe s
  refine PySem.W.ne_K (tb := t) (by have := hr.un; omega) hF I.ok.mod.kin J (Z.ty _ _ I.kIn p) hn hne hob hs hf (wpAny_mono (run_spc2 (m := "__eq__") rfl ((hr.mono hk).in1) F hb I ry q) (fun r s' hq => ?_) fun _ _ e => e)
  obtain ⟨b, H', rfl, I', q'⟩ := hq
  exact ⟨b, rfl, .bl (!b), H', I', rfl, q'⟩
end
end L2
set_option Elab.async false
set_option linter.all false
set_option maxRecDepth 100000
set_option maxHeartbeats 8000000
/-! list(zip(xs, ys)) of two lists -/
namespace L2
open PySem PySem.Spec PyProof.Rows
theorem zz_len : typeLookup (.type "zip") "__len__" = pure none := am_miss_of_fast (by decide +kernel)
theorem zz_hint0 : typeLookup (.type "zip") "__length_hint__" = pure none := am_miss_of_fast (by decide +kernel)
/-- the zip as it stands before turn i -/
def ZSt (z TI TO i1 i2 a b : Addr) (i : Nat) (h : Heap) : Prop :=
  (IsZip h z TI TO .none ∨ ∃ T f oT, IsZipHeld h z TI TO T f ∧ h.get? T = some oT ∧ T ≠ z ∧ T ≠ TI ∧ T ≠ TO ∧ T ≠ i1 ∧ T ≠ i2) ∧ (∃ x y, IsPair h TO x y) ∧ IsPair h TI (.ref i1) (.ref i2) ∧ h.IsListIter i1 a i ∧ h.IsListIter i2 b i
abbrev zch (z TI TO i1 i2 : Addr) : List Addr := [z, TI, TO, i1, i2]
section
variable {X : Cx} {pins : List (Addr × Obj)} {σ : St} {A1 : Around} {z TI TO i1 i2 a b q : Addr} {xs ys : List V}
theorem zz_hint {M : PySem.Model} {A : Around} {E : Value → Shared → Prop} {Q : Bool → Shared → Prop} {s : Shared} (hT : s.TypeIs (.ref z) "zip") (h : Q true s) : wpAny M A (Builtin.List.listLengthHint (.ref z)) Q E s := by
  have f1 := zz_len
  have f2 := zz_hint0
  unfold Builtin.List.listLengthHint
  refine wpAny_bind (wpAny_bind (wpAny_typeOf hT ?_))
  rw [f1]
  refine wpAny_pure ?_
  refine PySem.W.KFB.if_not rfl ?_
  refine PySem.W.KFB.if_not rfl ?_
  refine wpAny_bind (wpAny_bind (wpAny_typeOf hT ?_))
  rw [f2]
  exact wpAny_pure (wpAny_pure h)
theorem ZSt.lt {i : Nat} {h : Heap} (st : ZSt z TI TO i1 i2 a b i h) : ∀ c ∈ zch z TI TO i1 i2, c < h.objs.size := by
  obtain ⟨hs, ⟨x, y, hTO⟩, hTI, ⟨_, h1, _⟩, ⟨_, h2, _⟩⟩ := st
  intro c hc
  have e' : c = z ∨ c = TI ∨ c = TO ∨ c = i1 ∨ c = i2 := by simpa using hc
  rcases e' with q | q | q | q | q
  · rw [q]
    rcases hs with e | ⟨_, _, _, e, _⟩
    · exact Heap.lt_size e
    · exact Heap.lt_size e
  · rw [q]; exact Heap.lt_size hTI
  · rw [q]; exact Heap.lt_size hTO
  · rw [q]; exact Heap.lt_size h1
  · rw [q]; exact Heap.lt_size h2
theorem ZSt.keep {i : Nat} {h h' : Heap} (st : ZSt z TI TO i1 i2 a b i h) (hT : ∀ T f oT, IsZipHeld h z TI TO T f → h.get? T = some oT → ∃ oT', h'.get? T = some oT') (k : ∀ c ∈ zch z TI TO i1 i2, ∀ o, h.get? c = some o → h'.get? c = some o) : ZSt z TI TO i1 i2 a b i h' := by
  obtain ⟨hs, ⟨x, y, hTO⟩, hTI, h1, h2⟩ := st
  refine ⟨?_, ⟨x, y, k TO (by simp) _ hTO⟩, k TI (by simp) _ hTI, h1.at fun o q => k i1 (by simp) o q, h2.at fun o q => k i2 (by simp) o q⟩
  rcases hs with e | ⟨T, f, oT, e, g, n⟩
  · exact .inl (k z (by simp) _ e)
  · obtain ⟨o', g'⟩ := hT T f oT e g
    exact .inr ⟨T, f, o', k z (by simp) _ e, g', n⟩
theorem ZSt.ty {i : Nat} {s : Shared} (st : ZSt z TI TO i1 i2 a b i s.heap) : s.TypeIs (.ref z) "zip" := by
  obtain ⟨e | ⟨_, _, _, e, _⟩, _⟩ := st
  · exact ⟨_, e, rfl⟩
  · exact ⟨_, e, rfl⟩
theorem zz_iter {P : Program} {w : World} {A : Around} {E : Value → Shared → Prop} {Q : Value → Shared → Prop} {s : Shared} (hT : s.TypeIs (.ref z) "zip") (h : Q (.ref z) s) : wpAny (model P w) A (pyIter (.ref z)) Q E s := by
  refine wpAny_pyIter_slot hT F.slot_zip_iter (wpAny_call_entry F.slot_zip_iter hT F.entry_zip_iter ?_ (F.args_zip_iter_1 _))
  exact wpAny_pure ⟨_, rfl, "zip", _, hT, F.slot_zip_next.lookup, h⟩
/-- one turn -/
theorem zz_next {i : Nat} {H : Hp} {s : Shared} {x y : V} {Q : Option Value → Shared → Prop} (D : ZipApart z TI TO i1 i2 a b) (I : Inv X pins σ H s) (hf : ∀ c ∈ zch z TI TO i1 i2, FpOk X pins H c) (st : ZSt z TI TO i1 i2 a b i s.heap)
    (ha : SqL X.K H a xs) (hb : SqL X.K H b ys) (hx : xs[i]? = some x) (hy : ys[i]? = some y)
    (hQ : ∀ (h' : Heap) (T : Addr), H T = none → Inv X pins σ (upd H T (.tup [x, y])) { s with heap := h' } → ZSt z TI TO i1 i2 a b (i + 1) h' → (∀ c ∈ zch z TI TO i1 i2, c ≠ T) → Q (some (.ref T)) { s with heap := h' }) :
    wpAny (model X.prog X.w) A1 (pyNext (.ref z)) Q X.xe s := by
  have off : ∀ c ∈ zch z TI TO i1 i2, c ≠ s.heap.objs.size := fun c hc => Nat.ne_of_lt (st.lt c hc)
  obtain ⟨hs, ⟨x0, y0, hTO⟩, hTI, h1, h2⟩ := st
  obtain ⟨its, rv, p, _⟩ := I.list ha
  obtain ⟨its2, rv2, p2, _⟩ := I.list hb
  obtain ⟨u, hu, ru⟩ := rv.get hx
  obtain ⟨u2, hu2, ru2⟩ := rv2.get hy
  have oz := (off z (by simp)).symm
  have oTI := (off TI (by simp)).symm
  have oTO := (off TO (by simp)).symm
  have o1 := (off i1 (by simp)).symm
  have o2 := (off i2 (by simp)).symm
  have fin : ∀ h' : Heap, (∃ f, IsZipHeld h' z TI TO s.heap.objs.size f) ∨ (∃ T f oT, IsZipHeld h' z TI TO T f ∧ h'.get? T = some oT ∧ T ≠ z ∧ T ≠ TI ∧ T ≠ TO ∧ T ≠ i1 ∧ T ≠ i2) → (∃ x y, IsPair h' TO x y) → h'.IsListIter i1 a (i + 1) → h'.IsListIter i2 b (i + 1) → IsPair h' s.heap.objs.size u u2 →
      (∀ c o, c ∉ zch z TI TO i1 i2 → s.heap.get? c = some o → h'.get? c = some o) → IsPair h' TI (.ref i1) (.ref i2) → Q (some (.ref s.heap.objs.size)) { s with heap := h' } := by
    intro h' g0 gTO g1 g2 gT gk gTI
    have new : ObjOk X.prog X.w (upd H s.heap.objs.size (.tup [x, y])) h' s.heap.objs.size (.tup [x, y]) :=
      ⟨by show 2 ≤ sizeLine; decide, [u, u2], .cons ru (.cons ru2 .nil), ⟨_, gT, rfl, _, rfl⟩⟩
    have I1 : Inv X pins σ (upd H s.heap.objs.size (.tup [x, y])) { s with heap := h' } :=
      I.turnedNew (t' := s.toks) (ch := zch z TI TO i1 i2) (fun c o hc => gk c o hc) hf (Nat.le_refl _) new
    refine hQ h' _ (I.hok.fresh (Nat.le_refl _)) I1 ⟨?_, gTO, gTI, g1, g2⟩ off
    rcases g0 with ⟨f, e⟩ | e
    · exact .inr ⟨_, f, _, e, gT, oz, oTI, oTO, o1, o2⟩
    · exact .inr e
  rcases hs with e | ⟨T, f, oT, e, gT, n1, n2, n3, n4, n5⟩
  · refine wpAny_pyNext_zip_item D e hTI hTO h1 h2 p.isList p2.isList (x := u) (y := u2) (by simpa using hu) (by simpa using hu2) fun h' z' TO' h1' h2' hT hsz hk => ?_
    refine fin h' (.inl ⟨false, z'⟩) ⟨_, _, TO'⟩ h1' h2' hT (fun c o hc q => ?_) (hk _ _ D.TIz D.TITO D.TIi1 D.TIi2 hTI)
    exact hk c o (fun q' => hc (by simp [q'])) (fun q' => hc (by simp [q'])) (fun q' => hc (by simp [q'])) (fun q' => hc (by simp [q'])) q
  · refine wpAny_pyNext_zip_item_held D e gT hTI h1 h2 p.isList p2.isList (x := u) (y := u2) (by simpa using hu) (by simpa using hu2) fun h' z' h1' h2' hT hsz hk => ?_
    refine fin h' (.inr ⟨T, true, oT, z', hk T oT n1 n4 n5 gT, n1, n2, n3, n4, n5⟩) ⟨_, _, hk _ _ D.TOz D.TOi1 D.TOi2 hTO⟩ h1' h2' hT (fun c o hc q => ?_) (hk _ _ D.TIz D.TIi1 D.TIi2 hTI)
    exact hk c o (fun q' => hc (by simp [q'])) (fun q' => hc (by simp [q'])) (fun q' => hc (by simp [q'])) q
theorem zz_done {i : Nat} {H : Hp} {s : Shared} {Q : Option Value → Shared → Prop} (hh : A1.handled = none) (D : ZipApart z TI TO i1 i2 a b) (I : Inv X pins σ H s) (hf : ∀ c ∈ zch z TI TO i1 i2, FpOk X pins H c) (st : ZSt z TI TO i1 i2 a b i s.heap)
    (ha : SqL X.K H a xs) (hb : SqL X.K H b ys) (hend : xs.length ≤ i ∨ ys.length ≤ i) (hQ : ∀ h', Inv X pins σ H { s with heap := h' } → Q none { s with heap := h' }) :
    wpAny (model X.prog X.w) A1 (pyNext (.ref z)) Q X.xe s := by
  obtain ⟨hs, ⟨x0, y0, hTO⟩, hTI, h1, h2⟩ := st
  obtain ⟨its, rv, p, _⟩ := I.list ha
  obtain ⟨its2, rv2, p2, _⟩ := I.list hb
  have l1 := rv.length
  have l2 := rv2.length
  have he : its.toArray[i]? = none ∨ its2.toArray[i]? = none := by
    rcases hend with q | q
    · exact .inl (by simp; omega)
    · exact .inr (by simp; omega)
  rcases hs with e | ⟨T, f, oT, e, gT, n1, n2, n3, n4, n5⟩
  · exact wpAny_pyNext_zip_end hh D e hTI hTO h1 h2 p.isList p2.isList he fun h' hk => hQ h' (I.turnedL (t' := s.toks) (ch := zch z TI TO i1 i2) (fun c o hc q =>
      hk c o (fun q' => hc (by simp [q'])) (fun q' => hc (by simp [q'])) (fun q' => hc (by simp [q'])) (fun q' => hc (by simp [q'])) q) hf)
  · exact wpAny_pyNext_zip_end_held hh D e gT hTI h1 h2 p.isList p2.isList he fun h' hk => hQ h' (I.turnedL (t' := s.toks) (ch := zch z TI TO i1 i2) (fun c o hc q =>
      hk c o (fun q' => hc (by simp [q'])) (fun q' => hc (by simp [q'])) (fun q' => hc (by simp [q'])) q) hf)

/-- what stands behind i turns: the list at q holds the new pairs -/
structure ZGot (K : PySem.W.Frag) (H0 : Hp) (q : Addr) (xs ys : List V) (i : Nat) (Ts : List Addr) (H : Hp) : Prop where
  ex : Evl.Ex H0 H
  at_ : H q = some (.lst (Ts.map V.ref))
  len : Ts.length = i
  tup : ∀ (j : Nat) (T : Addr), Ts[j]? = some T → ∃ x y, xs[j]? = some x ∧ ys[j]? = some y ∧ H T = some (.tup [x, y])
  new : ∀ T ∈ Ts, H0 T = none ∧ T ≠ q
  nd : Ts.Nodup
theorem zz_loop {H0 : Hp} {Rs : Result → Shared → Prop} (hh : A1.handled = none) (D : ZipApart z TI TO i1 i2 a b) (ha : SqL X.K H0 a xs) (hb : SqL X.K H0 b ys) (h0 : H0 q = none)
    (hdone : ∀ Ts H s, Inv X pins σ H s → ZGot X.K H0 q xs ys (min xs.length ys.length) Ts H → Rs (.ok (.ret .none)) s) (herr : ∀ e s, X.xe e s → Rs (.error e) s) :
    ∀ (k i : Nat) (Ts : List Addr) (H : Hp) (s : Shared), min xs.length ys.length - i = k → i ≤ min xs.length ys.length → Inv X pins σ H s → (∀ c ∈ zch z TI TO i1 i2, FpOk X pins H c) → ZSt z TI TO i1 i2 a b i s.heap → ZGot X.K H0 q xs ys i Ts H →
      codeAny (model X.prog X.w) A1 (.builtin "list.extend.loop" ⟨[.ref q, .ref z, .none], []⟩) Rs s := by
  intro k
  induction k with
  | zero =>
    intro i Ts H s hk hi I hf st G
    have e : i = min xs.length ys.length := by omega
    refine codeAny_builtin PySem.F.entry_extend_loop ?_
    rw [Around.under_plainId PySem.F.plain_extend_loop _]
    show wpAny _ A1.in1 (pyNext (.ref z) >>= _) _ _ s
    refine wpAny_bind (wpAny_mono (zz_done (A1 := A1.in1) hh D I hf st (Evl.ex_l G.ex ha) (Evl.ex_l G.ex hb) (by omega) (Q := fun r s' => r = none ∧ Inv X pins σ H s') fun h' I' => ⟨rfl, I'⟩) (fun r s' hr => ?_) fun e s' he => herr e s' he)
    obtain ⟨er, I'⟩ := hr
    subst er
    rw [e] at G
    exact wpAny_pure (hdone Ts H s' I' G)
  | succ k ih =>
    intro i Ts H s hk hi I hf st G
    have hix : i < xs.length := by omega
    have hiy : i < ys.length := by omega
    have hx := List.getElem?_eq_getElem hix
    have hy := List.getElem?_eq_getElem hiy
    refine codeAny_builtin PySem.F.entry_extend_loop ?_
    rw [Around.under_plainId PySem.F.plain_extend_loop _]
    show wpAny _ A1.in1 (pyNext (.ref z) >>= _) _ _ s
    refine wpAny_bind (wpAny_mono (zz_next (A1 := A1.in1) D I hf st (Evl.ex_l G.ex ha) (Evl.ex_l G.ex hb) hx hy (Q := fun r s' => ∃ T, r = some (.ref T) ∧ H T = none ∧ Inv X pins σ (upd H T (.tup [xs[i], ys[i]])) s' ∧ ZSt z TI TO i1 i2 a b (i + 1) s'.heap ∧ (∀ c ∈ zch z TI TO i1 i2, c ≠ T)) fun h' T g1 g2 g3 g4 => ⟨T, rfl, g1, g2, g3, g4⟩) (fun r s' hr => ?_) fun e s' he => herr e s' he)
    obtain ⟨T, er, g1, I', st', g4⟩ := hr
    subst er
    show wpAny _ A1.in1 (updateSeq q (·.push (.ref T)) >>= _) _ _ _
    have nqT : q ≠ T := ne_of_none G.at_ g1
    have hq : upd H T (.tup [xs[i], ys[i]]) q = some (.lst (Ts.map V.ref)) := by rw [upd_ne nqT]; exact G.at_
    obtain ⟨zz, its, k0, r2, hl, e⟩ := I'.lstM hq
    have hlen : Ts.length < sizeLine := by
      obtain ⟨_, _, _, hxz⟩ := I.list (Evl.ex_l G.ex ha)
      have := G.len
      omega
    have hl2 : its.length < sizeLine := by rw [← hl, List.length_map]; exact hlen
    refine wpAny_bind (wpAny_updateSeq e rfl (wpAny_pure ⟨plainId_quiet PySem.F.plain_extend_loop _, ?_⟩) (by rw [List.size_toArray]; omega) (by show (its.toArray.push _).size ≤ sizeLine + 1; rw [Array.size_push, List.size_toArray]; omega))
    have J := I'.lset (f := fun v => v.push (.ref T)) (its' := its ++ [.ref T]) (ys := (Ts ++ [T]).map V.ref) (t' := s'.toks) hq e (by simp) (by rw [List.map_append]; exact r2.append (.cons rfl .nil)) (by rw [List.length_map, List.length_append, List.length_singleton]; omega)
    have b0 : H0 T = none := by
      cases w : H0 T with
      | none => rfl
      | some o => rw [G.ex T o w] at g1; cases g1
    refine ih (i + 1) (Ts ++ [T]) _ _ (by omega) (by omega) J (fun c hc => ?_) ?_ ⟨?_, upd_same, by rw [List.length_append, G.len]; rfl, fun j T' hj => ?_, fun T' hT' => ?_, ?_⟩
    · obtain ⟨f1, f2⟩ := hf c hc
      have n1 : c ≠ q := fun w => by rw [w, G.at_] at f1; cases f1
      refine ⟨?_, f2⟩
      rw [upd_ne n1, upd_ne (g4 c hc)]
      exact f1
    · have nq : ∀ c ∈ zch z TI TO i1 i2, c ≠ q := fun c hc w => by
        have f1 := (hf c hc).1
        rw [w, G.at_] at f1; cases f1
      refine st'.keep (fun T1 f1 oT1 w1 w2 => ?_) fun c hc o w => (Heap.get?_update_other s'.heap _ (Ne.symm (nq c hc))).trans w
      by_cases c : T1 = q
      · rw [c]
        exact ⟨_, Heap.get?_update_self _ e rfl⟩
      · exact ⟨_, (Heap.get?_update_other s'.heap _ (Ne.symm c)).trans w2⟩
    · intro c o w
      have n1 : c ≠ q := fun w' => by rw [w', h0] at w; cases w
      have n2 : c ≠ T := fun w' => by rw [w', b0] at w; cases w
      rw [upd_ne n1, upd_ne n2]
      exact G.ex c o w
    · by_cases hjl : j < Ts.length
      · rw [List.getElem?_append_left hjl] at hj
        obtain ⟨x, y, w1, w2, w3⟩ := G.tup j T' hj
        have n1 : T' ≠ q := (G.new T' (List.mem_of_getElem? hj)).2
        exact ⟨x, y, w1, w2, by rw [upd_ne n1, upd_ne (ne_of_none w3 g1)]; exact w3⟩
      · rw [List.getElem?_append_right (by omega)] at hj
        have ej : j = Ts.length := by
          rcases Nat.lt_or_ge (j - Ts.length) 1 with w | w
          · omega
          · rw [List.getElem?_eq_none (by simpa using w)] at hj; cases hj
        subst ej
        rw [Nat.sub_self] at hj
        have : T = T' := by simpa using hj
        subst this
        rw [G.len]
        exact ⟨_, _, hx, hy, by rw [upd_ne nqT.symm, upd_same]⟩
    · rcases List.mem_append.mp hT' with w | w
      · exact G.new T' w
      · have : T' = T := by simpa using w
        subst this
        exact ⟨b0, nqT.symm⟩
    · rw [List.nodup_append]
      refine ⟨G.nd, by simp, fun w hw w' hw' => ?_⟩
      have : w' = T := by simpa using hw'
      subst this
      intro ew
      subst ew
      obtain ⟨j, hj⟩ := List.mem_iff_getElem?.mp hw
      obtain ⟨x, y, _, _, w3⟩ := G.tup j _ hj
      rw [g1] at w3; cases w3

def rListZip (K : PySem.W.Frag) : List V → Hp → VK → Prop := fun vs H Q => ∃ (a b : Addr) (xs ys : List V), vs = [.ref a, .ref b] ∧ SqL K H a xs ∧ SqL K H b ys ∧
  ∀ q Ts H', H q = none → ZGot K H q xs ys (min xs.length ys.length) Ts H' → Q (.ref q) H'
def tListZip (K : PySem.W.Frag) (ta : TA) : TE := fun σ H Q => ta σ H fun vs H1 => rListZip K vs H1 Q
end
section
variable {X : Cx} {e e2 : Expr} {ta : TA} {p p2 zpos pos : Pos}
theorem zz_list {pins : List (Addr × Obj)} {σ : St} {H : Hp} {s : Shared} {z TI TO i1 i2 a b : Addr} {xs ys : List V} {Q : VK} (hc : X.calm = true) (D : ZipApart z TI TO i1 i2 a b) (I : Inv X pins σ H s) (st : ZSt z TI TO i1 i2 a b 0 s.heap) (hf : ∀ c ∈ zch z TI TO i1 i2, FpOk X pins H c)
    (ha : SqL X.K H a xs) (hb : SqL X.K H b ys) (hQ : ∀ q Ts H', H q = none → ZGot X.K H q xs ys (min xs.length ys.length) Ts H' → Q (.ref q) H') :
    wpAny (model X.prog X.w) X.A (call (.type "list") [.ref z]) (EP X pins σ Q) X.xe s := by
  have hh : X.A.handled = none := I.ok.hd hc
  refine callType_codes (Q₁ := fun obj s₁ => obj = .ref s.heap.objs.size ∧ s₁ = { s with heap := s.heap.push { cls := .type "list", data := .seq #[] } }) PySem.F.called_list (PySem.F.typeCall_list_1 _) PySem.F.entry_list_init
    (code_list_new _ ⟨rfl, rfl⟩) fun obj s₁ h₁ => ?_
  obtain ⟨rfl, rfl⟩ := h₁
  have hS : (s.heap.push { cls := .type "list", data := .seq #[] }).get? s.heap.objs.size = some { cls := .type "list", data := .seq #[] } := Heap.get?_push_size _ rfl
  refine ⟨⟨_, hS, rfl⟩, PySem.F.args_list_init_2 _ _, ?_⟩
  have fr : H s.heap.objs.size = none := I.hok.fresh (Nat.le_refl _)
  have lt := st.lt
  have I1 : Inv X pins σ (upd H s.heap.objs.size (.lst [])) { s with heap := s.heap.push { cls := .type "list", data := .seq #[] } } := I.lnew (its := []) (t' := s.toks) .nil (Nat.zero_le _)
  have st1 : ZSt z TI TO i1 i2 a b 0 (s.heap.push { cls := .type "list", data := .seq #[] }) := st.keep (fun T f oT _ w => ⟨_, Heap.get?_push_of_some _ w⟩) fun c _ o w => Heap.get?_push_of_some _ w
  have hf1 : ∀ c ∈ zch z TI TO i1 i2, FpOk X pins (upd H s.heap.objs.size (.lst [])) c := fun c hc' => ⟨by rw [upd_ne (Nat.ne_of_lt (lt c hc'))]; exact (hf c hc').1, (hf c hc').2⟩
  have nqz : s.heap.objs.size ≠ z := Nat.ne_of_gt (lt z (by simp))
  obtain ⟨q, hq⟩ : ∃ q, s.heap.objs.size = q := ⟨_, rfl⟩
  obtain ⟨s1, hs1⟩ : ∃ s1, ({ s with heap := s.heap.push { cls := .type "list", data := .seq #[] } } : Shared) = s1 := ⟨_, rfl⟩
  have eh : s.heap.push { cls := .type "list", data := .seq #[] } = s1.heap := by rw [← hs1]
  rw [hs1] at I1 ⊢
  rw [eh] at hS st1
  rw [hq] at I1 hS fr hf1 nqz ⊢
  clear hs1 eh hq st hf lt I
  show wpAny _ _ (do let old ← Builtin.List.listItems (.ref q); Builtin.List.listUpdate (.ref q) (fun _ => #[]); letGo old.toList.reverse; Builtin.List.listExtendWith (.ref q) (.ref z) .none) _ _ _
  have put0 : ∀ (st2 : Heap), ZSt z TI TO i1 i2 a b 0 st2 → ∀ (f : Array Value → Array Value) (o : Obj), st2.get? q = some o → o.isFreed = false → (∀ o', (Obj.mapSeq f o').isFreed = o'.isFreed) → ZSt z TI TO i1 i2 a b 0 (st2.update q (Obj.mapSeq f)) := by
    intro st2 g f o ho hfr hmf
    have nq : ∀ c ∈ zch z TI TO i1 i2, c ≠ q := fun c hc' w => by
      have f1 := (hf1 c hc').1
      rw [w, upd_same] at f1; cases f1
    refine g.keep (fun T1 f1 oT1 w1 w2 => ?_) fun c hc' o w => (Heap.get?_update_other st2 _ (Ne.symm (nq c hc'))).trans w
    by_cases c : T1 = q
    · rw [c]
      exact ⟨_, Heap.get?_update_self _ ho (by rw [hmf]; exact hfr)⟩
    · exact ⟨_, (Heap.get?_update_other st2 _ (Ne.symm c)).trans w2⟩
  refine wpAny_bind ?_
  unfold Builtin.List.listItems
  refine wpAny_bind (wpAny_seqItems hS rfl (wpAny_pure ?_))
  show wpAny _ _ (updateSeq q (fun _ => #[]) >>= fun _ => letGo (#[] : Array Value).toList.reverse >>= fun _ => Builtin.List.listExtendWith (.ref q) (.ref z) .none) _ _ _
  refine wpAny_bind (wpAny_updateSeq hS rfl ?_)
  have I2 := I1.lset (f := fun _ => #[]) (its := []) (its' := []) (ys := []) (t' := s1.toks) upd_same hS rfl .nil (Nat.zero_le _)
  rw [upd_upd] at I2
  have st2 := put0 _ st1 (fun _ => #[]) _ hS rfl (fun o' => by cases o' with | mk c d dt sl => cases dt <;> rfl)
  refine wpAny_bind (wpAny_letGo ?_)
  clear I1 hS st1
  obtain ⟨s2, hs2⟩ : ∃ s2, ({ s1 with heap := s1.heap.update q (Obj.mapSeq fun _ => #[]) } : Shared) = s2 := ⟨_, rfl⟩
  have eh : s1.heap.update q (Obj.mapSeq fun _ => #[]) = s2.heap := by rw [← hs2]
  rw [eh] at st2
  have I3 : Inv X pins σ (upd H q (.lst [])) s2 := by rw [← hs2]; exact I2
  show wpAny _ _ _ _ _ ({ s1 with heap := s1.heap.update q (Obj.mapSeq fun _ => #[]) } : Shared)
  rw [hs2]
  clear I2 eh hs2
  have hT := st2.ty
  unfold Builtin.List.listExtendWith
  refine wpAny_bind (wpAny_typeOf hT ?_)
  have h1 : Builtin.List.listSameRef (.ref q) (.ref z) = false := by simp [Builtin.List.listSameRef, nqz]
  have h2 : (Value.type "zip" == Value.type "list") = false := by decide
  have h3 : (Value.type "zip" == Value.type "tuple") = false := by decide
  simp only [h1, h2, h3, Bool.or_false, Bool.false_eq_true, if_false]
  refine wpAny_bind (zz_iter hT ?_)
  refine wpAny_bind (wpAny_holding (zz_hint hT ?_))
  have key : ∀ s3, Inv X pins σ (upd H q (.lst [])) s3 → ZSt z TI TO i1 i2 a b 0 s3.heap → codeAny (model X.prog X.w) X.A.in1 (.builtin "list.extend.loop" ⟨[.ref q, .ref z, .none], []⟩) (wants (fun r s₂ => r = .none ∧ EP X pins σ Q (.ref q) s₂) X.xe) s3 := by
    intro s3 J g
    refine zz_loop (A1 := X.A.in1) (H0 := H) (Rs := wants (fun r s₂ => r = .none ∧ EP X pins σ Q (.ref q) s₂) X.xe) hh D ha hb fr (fun Ts H' s' I' G => ⟨rfl, .ref q, H', I', rfl, hQ q Ts H' fr G⟩) (fun e s' he => he) _ 0 [] _ s3 rfl (Nat.zero_le _) J hf1 g ⟨Evl.Ex.new fr, upd_same, rfl, fun j T hj => by simp at hj, fun T hT => by simp at hT, List.nodup_nil⟩
  refine wpAny_ite_split (fun _ => ?_) (fun _ => wpAny_pure ⟨plainId_quiet PySem.F.plain_extend_loop _, key s2 I3 st2⟩)
  refine wpAny_bind (wpAny_rule ?_)
  refine wpAny_bind ?_
  show wpAny _ _ (updateSeq q (·.push .none) >>= fun _ => updateSeq q (·.pop)) _ _ _
  obtain ⟨_, its0, k0, r0, _, e0⟩ := I3.lstM upd_same
  cases r0
  refine wpAny_bind (wpAny_updateSeq e0 rfl ?_)
  have J2 := I3.lset (f := fun v => v.push Value.none) (its' := [Value.none]) (ys := [.non]) (t' := s2.toks) upd_same e0 (by simp) (.cons rfl .nil) (by rw [List.length_singleton, sizeLine_eq]; decide)
  have g2 := put0 _ st2 (fun v => v.push Value.none) _ e0 rfl (fun o' => by cases o' with | mk c d dt sl => cases dt <;> rfl)
  obtain ⟨_, its4, k4, r4, _, e4⟩ := J2.lstM upd_same
  obtain ⟨u4, rfl, ru4⟩ := r4.one
  refine wpAny_updateSeq e4 rfl ?_ (by show 1 ≤ sizeLine; rw [sizeLine_eq]; decide) (by show 0 ≤ sizeLine + 1; exact Nat.zero_le _)
  refine wpAny_pure ⟨plainId_quiet PySem.F.plain_extend_loop _, key _ ?_ (put0 _ g2 (fun v => v.pop) _ e4 rfl (fun o' => by cases o' with | mk c d dt sl => cases dt <;> rfl))⟩
  have J3 := J2.lset (f := fun v => v.pop) (its := [u4]) (its' := []) (ys := []) (t' := s2.toks) upd_same e4 (by rfl) .nil (Nat.zero_le _)
  rw [upd_upd, upd_upd] at J3
  exact J3

theorem pe_listZip (hc : X.calm = true) (ha : PA X [e, e2] ta) (hg : Gl X "list") (hm : X.mg "list" = none) (hg2 : Gl X "zip") (hm2 : X.mg "zip" = none) (hv : bootBuiltins "list" = some (.type "list") := by rfl)
    (hs : starEach [.Call (.Name "zip" p2) [e, e2] [] zpos] X.env = (false, eval (.Call (.Name "zip" p2) [e, e2] [] zpos) X.env) :: starEach [] X.env := by rfl)
    (hs2 : starEach [e, e2] X.env = (false, eval e X.env) :: starEach [e2] X.env := by rfl) (hpl2 : (backTo zpos (starEach [e2] X.env)).any (·.1) = false := by rfl) :
    PE X (.Call (.Name "list" p) [.Call (.Name "zip" p2) [e, e2] [] zpos] [] pos) (tListZip X.K ta) := by
  refine ⟨fun pins s σ H Q I hq => ?_⟩
  refine wpAny_Call_Name_kw (ld_blt I hg hm hv ?_)
  refine PyProof.Rows.callWith_type1 ?_ hs rfl
  rw [hs]
  show wpAny _ _ (spliced ((false, eval (.Call (.Name "zip" p2) [e, e2] [] zpos) X.env) :: backTo pos (starEach [] X.env))) _ _ s
  refine Calls.spliced_cons ?_
  refine Call_ (ld_blt I hg2 hm2 PyProof.Rows.boot_zip (PyProof.Rows.callWith_type1 (thn (ha.run zpos pins s σ H _ I hq) fun us s1 ⟨vs, H1, I1, r1, q1⟩ => ?_) hs2 hpl2))
  obtain ⟨a, b, xs, ys, ev, hqx, hqy, hQ⟩ := q1
  subst ev
  obtain ⟨u1, u2, eu, ru1, ru2⟩ := vals2 r1
  subst eu
  cases ru1
  cases ru2
  obtain ⟨its, rv, p1, _⟩ := I1.list hqx
  obtain ⟨its2, rv2, p3, _⟩ := I1.list hqy
  have la : a < s1.heap.objs.size := p1.lt
  have lb : b < s1.heap.objs.size := p3.lt
  refine call_zip_2 p1.isList p3.isList fun h' hz hTI hTO h1 h2 hsz hk => ?_
  have D := PySem.W.ktu_apart s1.heap.objs.size a b la lb
  have I2 : Inv X pins σ H1 { s1 with heap := h' } := I1.kept (t' := s1.toks) hk
  have hf : ∀ c ∈ zch (s1.heap.objs.size + 4) (s1.heap.objs.size + 2) (s1.heap.objs.size + 3) s1.heap.objs.size (s1.heap.objs.size + 1), FpOk X pins H1 c := by
    intro c hcm
    have e' : c = s1.heap.objs.size + 4 ∨ c = s1.heap.objs.size + 2 ∨ c = s1.heap.objs.size + 3 ∨ c = s1.heap.objs.size ∨ c = s1.heap.objs.size + 1 := by simpa using hcm
    have hle : s1.heap.objs.size ≤ c := by
      rcases e' with w | w | w | w | w
      · rw [w]; exact Nat.le_add_right _ _
      · rw [w]; exact Nat.le_add_right _ _
      · rw [w]; exact Nat.le_add_right _ _
      · rw [w]; exact Nat.le_refl _
      · rw [w]; exact Nat.le_add_right _ _
    exact I1.fpOk hle (I1.hok.fresh hle)
  have st : ZSt (s1.heap.objs.size + 4) (s1.heap.objs.size + 2) (s1.heap.objs.size + 3) s1.heap.objs.size (s1.heap.objs.size + 1) a b 0 h' := ⟨.inl hz, ⟨_, _, hTO⟩, hTI, h1, h2⟩
  generalize s1.heap.objs.size + 4 = z at *
  generalize s1.heap.objs.size + 2 = TI at *
  generalize s1.heap.objs.size + 3 = TO at *
  generalize s1.heap.objs.size + 1 = i2 at *
  generalize s1.heap.objs.size = i1 at *
  clear hz hTI hTO h1 h2 hk hsz
  refine Calls.spliced_nil ?_
  exact zz_list hc D I2 st hf hqx hqy hQ
end
end L2
/-! tuple(xs) whose object is known; dict(t) of such a tuple of pairs; len(set(texts)) of different texts -/
namespace L2
open PySem PySem.Spec PyProof.Rows
section
variable {X : Cx}
def rTupF (K : PySem.W.Frag) : List V → Hp → VK → Prop := fun xs H Q => ∃ p ys, xs = [.ref p] ∧ ((SqL K H p ys ∧ ∀ l o, H l = none → o.dict = none → Q (.ref l) (upd H l (.frz o (.tup ys)))) ∨ (SqT K H p ys ∧ Q (.ref p) H))
theorem call_tupF : CallR X (.type "tuple") (rTupF X.K) := by
  intro pins s σ H xs us Q I r h
  obtain ⟨p, ys, rfl, h⟩ := h
  obtain ⟨u, rfl, rx⟩ := vals1 r
  cases rx
  rcases h with ⟨hq, q⟩ | ⟨hq, q⟩
  · obtain ⟨its, r', pl, hz⟩ := I.list hq
    have hlen := r'.length
    refine call_tuple_list pl.isList (fun h' kp => ?_) (by simp only [List.size_toArray] <;> omega)
    have I1 : Inv X pins σ H { s with heap := h' } := I.kept (t' := s.toks) kp
    have nw : (h'.push { cls := .type "tuple", data := .seq its.toArray }).get? h'.objs.size = some { cls := .type "tuple", data := .seq its.toArray } := Heap.get?_push_size _ rfl
    have I2 : Inv X pins σ (upd H h'.objs.size (.frz { cls := .type "tuple", data := .seq its.toArray } (.tup ys))) { s with heap := h'.push { cls := .type "tuple", data := .seq its.toArray } } :=
      I1.laid (t' := s.toks) (fun b o e => Heap.get?_push_of_some _ e) (Nat.le_refl _) (show ObjOk X.prog X.w _ _ _ (.frz _ (.tup ys)) from ⟨nw, hz, its, r', ⟨_, nw, rfl, _, rfl⟩⟩)
    exact ⟨.ref h'.objs.size, _, I2, rfl, q _ _ (I1.hok.fresh (Nat.le_refl _)) rfl⟩
  · obtain ⟨its, r', pl, hz⟩ := I.tuple hq
    exact call_tuple_same pl ⟨.ref p, H, I, rfl, q⟩
def rDictF (K : PySem.W.Frag) : List V → Hp → VK → Prop := fun xs H Q => ∃ (a : Addr) (o : Obj) (ps : List Addr) (kvs : List (Key × V)), xs = [.ref a] ∧ H a = some (.frz o (.tup (ps.map V.ref))) ∧ o.dict = none ∧ Paired (fun p kv => SqT K H p [kV kv.1, kv.2]) ps kvs ∧
    ∀ p, H p = none → Q (.ref p) (upd H p (.dK (mergeK [] kvs)))
theorem call_dictF (hcalm : X.calm = true) : CallR X (.type "dict") (rDictF X.K) := by
  intro pins s σ H xs us Q I r h
  obtain ⟨a, o, ps, kvs, rfl, hq, hd, hp, q⟩ := h
  obtain ⟨u, rfl, rx⟩ := vals1 r
  cases rx
  obtain ⟨its, rv, pl, hz⟩ := I.tuple (Or.inl (Or.inr ⟨o, hq⟩) : SqT X.K H a (ps.map V.ref))
  have ei := refs_at rv
  subst ei
  rw [List.length_map] at hz
  obtain ⟨prs, rel, hl, hpr⟩ := pairs_of I hp
  have ho : s.heap.get? a = some o := (I.hok a _ hq).1
  obtain ⟨o', ho', hc, n, hdat⟩ := pl
  rw [ho] at ho'
  cases ho'
  -- the pairs as they stand in the heap
  obtain ⟨key, hkey⟩ : ∃ key : Nat → Value, ∀ (j : Nat) (q : Key × Value), prs[j]? = some q → ∃ b, ps[j]? = some b ∧ IsTup s.heap b #[key j, q.2] ∧ keyIs q.1 (key j) = true := by
    have ch : ∀ j : Nat, ∃ u : Value, ∀ q : Key × Value, prs[j]? = some q → ∃ b, ps[j]? = some b ∧ IsTup s.heap b #[u, q.2] ∧ keyIs q.1 u = true := by
      intro j
      cases e : prs[j]? with
      | none => exact ⟨.none, fun q w => nomatch w⟩
      | some q0 =>
        obtain ⟨b, u, e1, e2, e3⟩ := hpr j q0 e
        exact ⟨u, fun q w => by cases w; exact ⟨b, e1, e2, e3⟩⟩
    exact ⟨fun j => (ch j).choose, fun j => (ch j).choose_spec⟩
  let pl : List (Value × Value) := (List.range prs.length).map fun j => (key j, (prs.getD j (.inl 0, .none)).2)
  have hlen : pl.length = prs.length := by simp [pl]
  have plat : ∀ j k v, pl[j]? = some (k, v) → ∃ q, prs[j]? = some q ∧ k = key j ∧ v = q.2 := by
    intro j k v e
    have hj : j < prs.length := by
      rw [← hlen]; exact (List.getElem?_eq_some_iff.mp e).1
    have e2 : pl[j]? = some (key j, (prs.getD j (.inl 0, .none)).2) := by simp [pl, hj]
    rw [e2] at e
    cases e
    exact ⟨prs[j], List.getElem?_eq_getElem hj, rfl, by rw [List.getD_eq_getElem?_getD, List.getElem?_eq_getElem hj]; rfl⟩
  refine PySem.call_dict_pairs (knd := mixKind X.prog X.w) (kvs := prs) (PairArg.tuple a (ps.map Value.ref).toArray (fun j => ps.getD j 0) pl) (I.ok.hd hcalm) ⟨⟨o, n, ho, hc, hd, hdat⟩, by simp [hlen, hl], fun j k v e => ?_⟩ ⟨hlen.symm, fun i k v e => ?_⟩ (by rw [hlen, hl]; exact hz) fun h' tk hd' k => ?_
  · obtain ⟨q', e1, e2, e3⟩ := plat j k v e
    obtain ⟨b, f1, f2, f3⟩ := hkey j q' e1
    subst e2 e3
    have eb : ps.getD j 0 = b := by rw [List.getD_eq_getElem?_getD, f1]; rfl
    refine ⟨by simp [eb, f1], .inl ?_⟩
    show s.heap.IsTuple (ps.getD j 0) _
    rw [eb]
    exact f2
  · obtain ⟨q', e1, e2, e3⟩ := plat i k v e
    obtain ⟨b, f1, f2, f3⟩ := hkey i q' e1
    subst e2 e3
    exact ⟨q'.1, e1, f3⟩
  · have hm : (s.heap.objs.size == sysModules) = false := beq_eq_false_iff_ne.mpr (Nat.ne_of_gt I.big)
    have hlen2 : (mergeK [] kvs).length ≤ sizeLine := by
      refine Nat.le_trans (length_mergeK kvs []) ?_
      rw [List.length_nil, Nat.zero_add, rel.length, hl]
      exact hz
    exact ⟨.ref s.heap.objs.size, upd H s.heap.objs.size (.dK (mergeK [] kvs)), I.laid (t' := tk) (fun b o e => k b o (by simp) e) (Nat.le_refl _) (show ObjOk X.prog X.w _ _ _ (.dK (mergeK [] kvs)) from ⟨hlen2, hm, merged [] prs, KV.merge rel .nil, hd'⟩), rfl, q _ (I.hok.fresh (Nat.le_refl _))⟩
end
end L2
namespace SZ
open PySem PySem.Spec PyProof.Rows
section
variable {prog : Program} {w : World} {A : Around} {R : Result → Shared → Prop} {I : Addr} {fp wr : List Addr} {G : Array GenState → Array GenState → Prop} {n : Nat} {P : Nat → Value → Prop} {St : Nat → Shared → Prop}
/-- the walk that fills a set with different texts -/
theorem walk_set (W : WalksS prog w A.in1 I fp wr G n P St) (S : Addr) (hSf : S ∉ fp) (xs : List Str) (hsz : xs.length = n) (nd : xs.Nodup) (hn1 : n < 30)
    (hval : ∀ i v, P i v → ∃ t, v = .str (xs.getD i Str.empty) t) :
    ∀ (k i : Nat) (s : Shared), n - i = k → i ≤ n → St i s →
      s.heap.SetOf (PySem.strKind prog w) S (fun k' => (xs.take i).any (· == k')) i →
      (∀ s', Moved (S :: wr) G s s' → s'.heap.SetOf (PySem.strKind prog w) S (fun k' => (xs.take n).any (· == k')) n → R (.ok (.ret .none)) s') →
      codeAny (model prog w) A (.builtin "set.update.loop" ⟨[.ref S, .ref I], []⟩) R s := by
  have offS : S ∉ wr := fun h => hSf (W.sub _ h)
  have more : ∀ b ∈ wr, b ∈ S :: wr := fun b hb => List.mem_cons_of_mem _ hb
  intro k
  induction k with
  | zero =>
    intro i s hk hi hst hS hR
    have e : i = n := by omega
    subst e
    refine codeAny_builtin PyProof.Rows.F.entry_set_update_loop ?_
    rw [Around.under_plainId PyProof.Rows.F.plain_set_update_loop _]
    show wpAny _ A.in1 (pyNext (.ref I) >>= _) _ _ s
    refine wpAny_bind (W.done s _ _ hst fun s' hm => ?_)
    refine wpAny_pure (hR s' (hm.mono more) ?_)
    obtain ⟨o, es, ep, t, ho, rest⟩ := hS
    exact ⟨o, es, ep, t, hm.heap S _ offS ho, rest⟩
  | succ k ih =>
    intro i s hk hi hst hS hR
    have hlt : i < n := by omega
    have hx : xs[i]? = some xs[i] := List.getElem?_eq_getElem (by omega)
    have hxi : xs.getD i Str.empty = xs[i] := by rw [List.getD_eq_getElem?_getD, hx]; rfl
    refine codeAny_builtin PyProof.Rows.F.entry_set_update_loop ?_
    rw [Around.under_plainId PyProof.Rows.F.plain_set_update_loop _]
    show wpAny _ A.in1 (pyNext (.ref I) >>= _) _ _ s
    refine wpAny_bind (W.item i s _ _ hlt hst fun v s' hP hst' hm => ?_)
    obtain ⟨t, rfl⟩ := hval i v hP
    rw [hxi]
    have hS' : s'.heap.SetOf (PySem.strKind prog w) S (fun k' => (xs.take i).any (· == k')) i := by
      obtain ⟨o, es, ep, tb, ho, rest⟩ := hS
      exact ⟨o, es, ep, tb, hm.heap S _ offS ho, rest⟩
    show wpAny _ A.in1 (holding [Value.str xs[i] t] (setAdd S (.str xs[i] t)) >>= _) _ _ s'
    refine wpAny_bind (wpAny_holding ?_)
    unfold setAdd
    refine wpAny_holding ?_
    refine wpAny_bind ((PySem.strKind prog w).pyHash (k := xs[i]) (strKind_is _ _ _ _) ?_)
    refine wpAny_setAddHashed_of (knd := PySem.strKind prog w) (s := { s' with toks := s'.toks + 1 }) (strKind_is _ _ _ _) rfl hS' (by unfold scanBound; omega) fun h' hsb hS2 => ?_
    have fresh : (xs.take i).any (· == xs[i]) = false := by
      rw [List.any_eq_false]
      intro y hy e
      have e2 : y = xs[i] := beq_iff_eq.mp e
      obtain ⟨j, hj, e3⟩ := List.getElem_of_mem hy
      have hji : j < i := by rw [List.length_take] at hj; omega
      rw [List.getElem_take] at e3
      exact List.pairwise_iff_getElem.mp nd j i (by omega) (by omega) hji (e3.trans e2)
    have hSi : h'.SetOf (PySem.strKind prog w) S (fun k' => (xs.take (i + 1)).any (· == k')) (i + 1) := by
      refine SetOf_congr hS2 (fun k' => ?_) (by rw [fresh]; rfl)
      rw [List.take_succ, hx, List.any_append]
      have e1 : (some xs[i]).toList.any (· == k') = decide (k' = xs[i]) := by
        show ((xs[i] == k') || false) = _
        rw [Bool.or_false]
        by_cases e : k' = xs[i]
        · rw [e]; simp
        · rw [decide_eq_false e]
          exact beq_eq_false_iff_ne.mpr (Ne.symm e)
      rw [e1]
    refine wpAny_pure ⟨plainId_quiet PyProof.Rows.F.plain_set_update_loop _, ih (i + 1) _ (by omega) hlt (W.frame _ s' _ _ hst' (Nat.le_succ _) fun b hb o e => ?_) hSi fun s'' hm'' hS'' => ?_⟩
    · rw [hsb.2 b (fun h : b = S => hSf (by rw [← h]; exact hb))]; exact e
    · refine hR s'' (Moved.trans W.gtrans ((hm.mono more).then_heap (Nat.le_succ _) fun b o hb e => ?_) hm'') hS''
      rw [hsb.2 b (fun h : b = S => hb (by rw [h]; exact List.mem_cons_self))]; exact e
end
section
variable {prog : Program} {w : World} {A : Around} {E : Value → Shared → Prop} {s : Shared}
theorem set_of_strs {l : Addr} {items : Array Value} {xs : List Str} {Q : Value → Shared → Prop}
    (hh : A.handled = none) (hl : s.heap.IsList l items) (hi : PyProof.Rows.StrsAre items.toList xs) (nd : xs.Nodup) (hn1 : xs.length < 30)
    (h : ∀ (h' : Heap) (tk : Nat), h'.SetOf (PySem.strKind prog w) s.heap.objs.size (fun k' => (xs.take items.size).any (· == k')) items.size →
      (∀ b o, b < s.heap.objs.size → s.heap.get? b = some o → h'.get? b = some o) → Q (.ref s.heap.objs.size) { s with heap := h', toks := tk }) :
    wpAny (model prog w) A (call (.type "set") [.ref l]) Q E s := by
  obtain ⟨c, tl, hmro⟩ := PySem.F.called_set.mro
  have hmade := PySem.F.called_set.made
  have hsub := PySem.F.called_set.sub
  refine wpAny_call (codeAny_of_tree ?_)
  show wpAny _ _ (callAny (.type "set") _) _ _ _
  refine wpAny_pure ⟨Code.quiet_builtin _ (by decide +kernel), codeAny_builtin PySem.F.entry_type_call ?_⟩
  rw [Around.under_plain (weight_type_call_type "set" [.ref l] []) rfl]
  have h1 := PySem.F.called_set.notType
  have h2 := PySem.F.called_set.canCreate
  have hct := PySem.F.typeCall_set_1 (.ref l)
  repeat (any_goals (first | assumption | wp_step))
  refine codeAny_mono (code_set_new_1 (.ref l) (E := E) (Q₁ := fun obj s₁ => ∃ led : Bool, obj = .ref s.heap.objs.size ∧ s₁ = { s with heap := s.heap.push { cls := .type "set", dict := none, data := .set #[] 0 (.fresh 0 0 led) } }) fun led => ⟨led, rfl, rfl⟩) fun r s₁ hr => ?_
  cases r with
  | error e => exact hr
  | ok fl =>
    cases fl with
    | ret obj =>
      obtain ⟨led, rfl, rfl⟩ := hr
      have hS : (s.heap.push { cls := .type "set", dict := none, data := .set #[] 0 (.fresh 0 0 led) }).get? s.heap.objs.size = some { cls := .type "set", dict := none, data := .set #[] 0 (.fresh 0 0 led) } := Heap.get?_push_size _ rfl
      have hT : Shared.TypeIs { s with heap := s.heap.push { cls := .type "set", dict := none, data := .set #[] 0 (.fresh 0 0 led) } } (.ref s.heap.objs.size) "set" := ⟨_, hS, rfl⟩
      have hli := PySem.F.called_set.init.lookup
      have hbi := PySem.F.called_set.init.bind (.ref s.heap.objs.size)
      repeat (any_goals (first | assumption | wp_step))
      refine codeAny_mono (codeAny_call_builtin (R := wants (fun r s₂ => r = .none ∧ ∃ h' tk, s₂ = { s with heap := h', toks := tk } ∧
          h'.SetOf (PySem.strKind prog w) s.heap.objs.size (fun k' => (xs.take items.size).any (· == k')) items.size ∧
          (∀ b o, b < s.heap.objs.size → s.heap.get? b = some o → h'.get? b = some o)) E) PySem.F.called_set.init.plain PySem.F.entry_set_init (check_set_init_1 hT ?_)) fun r₂ s₂ hr₂ => ?_
      · obtain ⟨ol, hol, hcl, nl, hdl⟩ := hl
        obtain ⟨ocls, odict, odata, oslots⟩ := ol
        simp only at hcl hdl
        subst hcl; subst hdl
        have hol' : (s.heap.push { cls := .type "set", dict := none, data := .set #[] 0 (.fresh 0 0 led) }).get? l = some { cls := .type "list", dict := odict, data := .seq items nl, slots := oslots } := Heap.get?_push_of_some _ hol
        have hsls := PySem.F.sub_list_set
        have hslf := PySem.F.sub_list_frozenset
        have hne : (Value.type "list" == Value.type "dict") = false := by decide
        have hl1 : (s.heap.push { cls := .type "set", dict := none, data := .set #[] 0 (.fresh 0 0 led) }).IsList l items := ⟨_, hol', rfl, nl, rfl⟩
        unfold Builtin.«set.__init__» noKeywords Builtin.Frozenset.updateFrom
        generalize hPI : pyIter = PI
        wp_walk
        subst hPI
        refine wpAny_pyIter_list hl1 ?_
        refine wpAny_bind (wpAny_runValue ?_)
        have hlS : l < s.heap.objs.size := Heap.lt_size hol
        have hh3 : A.in1.in1.in1.handled = none := by simp [hh]
        have hneI : l ≠ (s.heap.push { cls := .type "set", dict := none, data := .set #[] 0 (.fresh 0 0 led) }).objs.size := by
          rw [Heap.size_push]; exact Nat.ne_of_lt (Nat.lt_succ_of_lt hlS)
        have hSf : s.heap.objs.size ∉ [(s.heap.push { cls := .type "set", dict := none, data := .set #[] 0 (.fresh 0 0 led) }).objs.size, l] := by
          rw [Heap.size_push]; simp only [List.mem_cons, List.mem_singleton, List.not_mem_nil, or_false, not_or]
          exact ⟨Nat.ne_of_lt (Nat.lt_succ_self _), Nat.ne_of_gt hlS⟩
        have hsz : xs.length = items.size := by rw [← StrsAre.len_eq hi, Array.length_toList]
        have hval : ∀ (i : Nat) (v : Value), items[i]? = some v → ∃ t, v = .str (xs.getD i Str.empty) t := fun i v hv => SS.strs_at hi i v (by rw [Array.getElem?_toList]; exact hv)
        refine walk_set ((Walks.list hh3 _ l hneI items).toS) s.heap.objs.size hSf xs hsz nd (by rw [← hsz]; exact hn1) hval (items.size - 0) 0 _ (by omega) (Nat.zero_le _)
          ⟨⟨_, Heap.get?_push_size _ rfl, rfl, rfl⟩, (hl1.push _)⟩ ?hS0 ?hR
        case hS0 =>
          have hget : ((s.heap.push { cls := .type "set", dict := none, data := .set #[] 0 (.fresh 0 0 led) }).push { cls := .type "list_iterator", data := .fields #[.ref l, .int 0 0] }).get? s.heap.objs.size
              = some { cls := .type "set", dict := none, data := .set #[] 0 (.fresh 0 0 led) } := Heap.get?_push_of_some _ hS
          exact PyProof.Rows.SetOf_congr ((PyProof.Rows.setObjOf_fresh (knd := PySem.strKind prog w) led).setOf hget (by unfold scanBound; omega)) (fun _ => rfl) rfl
        case hR =>
          intro s' hm hS'
          obtain ⟨h', g', d', tk', os'⟩ := s'
          have eg : g' = s.gens := hm.gens
          have ed : d' = s.drawn := hm.drawn
          have eo : os' = s.os := hm.os
          subst eg; subst ed; subst eo
          show wpAny _ _ _ _ _ _
          refine wpAny_pure ?_
          show wpAny _ _ (ret Value.none) _ _ _
          refine wpAny_pure ⟨rfl, h', tk', rfl, hS', fun b o hb e => ?_⟩
          have hb1 : b ≠ s.heap.objs.size := Nat.ne_of_lt hb
          have hb2 : b ≠ (s.heap.push { cls := .type "set", dict := none, data := .set #[] 0 (.fresh 0 0 led) }).objs.size := by
            rw [Heap.size_push]; exact Nat.ne_of_lt (Nat.lt_succ_of_lt hb)
          exact hm.heap b o (by simp only [List.mem_cons, List.mem_singleton, List.not_mem_nil, or_false, not_or]; exact ⟨hb1, hb2⟩) (Heap.get?_push_of_some _ (Heap.get?_push_of_some _ e))
      · cases r₂ with
        | error e => exact hr₂
        | ok fl₂ =>
          cases fl₂ with
          | ret r =>
            obtain ⟨rfl, h', tk, rfl, hS', hk'⟩ := hr₂
            repeat (any_goals (first | assumption | wp_step))
            exact h _ _ hS' hk'
          | _ => exact hr₂.elim
    | _ => exact hr.elim
end
end SZ
namespace L2
open PySem PySem.Spec PyProof.Rows
section
variable {X : Cx}
/-- len(set(xs)) of a list of different texts -/
def tLenSetS (K : PySem.W.Frag) (ta : TE) : TE := fun σ H Q => ta σ H fun x H1 => ∃ (l : Addr) (xs : List Str), x = .ref l ∧ SqL K H1 l (xs.map V.str) ∧ xs.length < 30 ∧ xs.Nodup ∧ Q (.int xs.length) H1
theorem pe_lenSetS {a : Expr} {ta : TE} {p p2 q pos : Pos} (hc : X.calm = true) (hg : Gl X "len") (hm : X.mg "len" = none) (hg2 : Gl X "set") (hm2 : X.mg "set" = none) (ha : PE X a ta)
    (na : starEach [a] X.env = (false, eval a X.env) :: starEach [] X.env := by rfl) : PE X (.Call (.Name "len" p) [.Call (.Name "set" p2) [a] [] q] [] pos) (tLenSetS X.K ta) := by
  refine ⟨fun pins s σ H Q I h => ?_⟩
  refine Call_ (ld_blt I hg hm boot_len ?_)
  refine PyProof.Rows.callWith_builtin1 (PyProof.Rows.args_cons ?_ rfl) rfl rfl
  refine Call_ (ld_blt I hg2 hm2 boot_set ?_)
  refine PyProof.Rows.callWith_type1 (PyProof.Rows.args_cons (thn (ha.run pins s σ H _ I h) fun v s1 ⟨x, H1, I1, r1, q1⟩ => PyProof.Rows.args_nil ?_) na) na rfl
  obtain ⟨l, xs, rfl, hq, h1, nd, q1⟩ := q1
  cases r1
  obtain ⟨its, r, pl, hz⟩ := I1.list hq
  refine SZ.set_of_strs (I1.ok.hd hc) pl.isList (by simpa using strsAre_of r) nd h1 fun h' tk hS hk => ?_
  refine PyProof.Rows.args_nil ?_
  have hl : its.toArray.size = xs.length := by rw [List.size_toArray, ← r.length, List.length_map]
  rw [hl] at hS
  obtain ⟨o, es, ep, t, ho, hex, hd, _, _, _, hf, hn⟩ := hS
  have I2 : Inv X pins σ H1 { s1 with heap := h', toks := tk } := I1.kept fun b o e => hk b o (Heap.lt_size e) e
  exact call_len_set ho hex hd hf (by rw [hn] <;> omega) ⟨.int xs.length, H1, I2.tok _, ⟨_, by rw [hn]⟩, q1⟩
end
end L2
/-! len(range(n)) -/
namespace L2
open PySem PySem.Spec PyProof.Rows
theorem q_rlen (r : Addr) (b : Int) (t u v : Tok) (hb : 0 ≤ b) (hb2 : b < 2 ^ 63) :
    Meets (Builtin.«range.__len__» ⟨[.ref r], []⟩) (fun _ R s => s.heap.get? r = some { cls := .type "range", dict := none, data := .fields #[.int 0 t, .int b u, .int 1 v], slots := #[] } ∧ R (.ok (.ret (.int b s.toks))) { s with toks := s.toks + 1 }) :=
  .of_wp fun prog w A R s h => by
    obtain ⟨hp, g, d, tk, os⟩ := s
    obtain ⟨hl, h⟩ := h
    wp_walk
    have e : Builtin.Range.rangeSize 0 b 1 = b := by
      unfold Builtin.Range.rangeSize
      rw [if_pos (by decide)]
      by_cases hz : (0 : Int) < b
      · rw [if_pos hz, Int.ediv_one]; omega
      · rw [if_neg hz]; omega
    rw [e, if_neg (by omega)]
    show wpAny _ _ (retInt b) _ _ _
    unfold retInt
    exact wpAny_bind (wpAny_mkInt (wpAny_pure ⟨_, rfl, h⟩))
theorem len_rng {P : Program} {w : World} {A : Around} {E : Value → Shared → Prop} {s : Shared} {r : Addr} {b : Int} {t u v : Tok} {Q : Value → Shared → Prop} (hb : 0 ≤ b) (hb2 : b < 2 ^ 63)
    (hr : s.heap.get? r = some { cls := .type "range", dict := none, data := .fields #[.int 0 t, .int b u, .int 1 v], slots := #[] }) (h : Q (.int b (s.toks + 1)) { s with toks := s.toks + 1 + 1 }) :
    wpAny (model P w) A (call (.builtin "len") [.ref r]) Q E s := by
  refine Calls.call_function_entry kind_len plain_len entry_len (args_len1 _) ?_
  have hT : s.TypeIs (.ref r) "range" := ⟨_, hr, rfl⟩
  unfold Builtin.«len»
  refine wpAny_bind (m := oneArg "len" _) (wpAny_pure ?_)
  refine wpAny_bind (m := callSpecial? (.ref r) (Str.ofString "__len__")) (wpAny_callSpecial?_slot (name := Str.ofString "__len__") hT F.slot_range_len
    (call_meets F.slot_range_len hT F.entry_range_len (F.args_range_len_1 _) (q_rlen r b t u v hb hb2) ⟨hr, ?_⟩))
  show wpAny _ _ _ _ _ { s with toks := s.toks + 1 }
  refine wpAny_bind (wpAny_holding (wpAny_pure ?_))
  refine wpAny_bind (wpAny_letGo ?_)
  show wpAny _ _ (if b < 0 then _ else _) _ _ _
  rw [if_neg (by omega)]
  show wpAny _ _ (if b ≥ 2 ^ 63 then _ else _) _ _ _
  rw [if_neg (by omega)]
  exact wpAny_bind (wpAny_mkInt (wpAny_pure ⟨_, rfl, h⟩))
section
variable {X : Cx}
/-- range(n) as a value -/
theorem cr_range1 : CallR X (.type "range") (fun vs H Q => ∃ j, vs = [V.int j] ∧ ∀ p, H p = none → Q (.ref p) (upd H p (.rng 0 j))) := by
  intro pins s σ H vs us Q I r h
  obtain ⟨j, rfl, q⟩ := h
  obtain ⟨u1, rfl, ri⟩ := vals1 r
  obtain ⟨t, rfl⟩ := ri
  refine call_range_1 ⟨.ref s.heap.objs.size, upd H s.heap.objs.size (.rng 0 j), I.laid (t' := s.toks + 1 + 1) (fun b o e => Heap.get?_push_of_some _ e) (Nat.le_refl _) ?_, rfl, q _ (I.hok.fresh (Nat.le_refl _))⟩
  exact ⟨_, _, _, Heap.get?_push_size _ rfl⟩
/-- len of a range from 0 -/
theorem call_lenRng : CallR X (.builtin "len") (fun vs H Q => ∃ a j, vs = [V.ref a] ∧ H a = some (.rng 0 j) ∧ 0 ≤ j ∧ j < 2 ^ 63 ∧ Q (.int j) H) := by
  intro pins s σ H vs us Q I r h
  obtain ⟨a, j, rfl, ha, h0, h1, q⟩ := h
  obtain ⟨u1, rfl, ri⟩ := vals1 r
  cases ri
  obtain ⟨t1, t2, t3, ho⟩ := I.hok a _ ha
  exact len_rng h0 h1 ho ⟨.int j, H, I.tok _, ⟨_, rfl⟩, q⟩
end
end L2
/-! methods and classes called with keywords only -/
namespace L2
open PySem PySem.Spec PyProof.Rows C8
/-- the keywords' values in the parameters' order, behind the first ones -/
def gP {α : Type} (perm : List Nat) (us ws : List α) : List α := us ++ perm.flatMap fun i => (ws.drop i).take 1
theorem vals_take : ∀ {vs : List V} {us : List Value}, Vals vs us → ∀ n, Vals (vs.take n) (us.take n)
  | _, _, .nil, n => by simp; exact .nil
  | _, _, .cons r t, 0 => .nil
  | _, _, .cons r t, n + 1 => .cons r (vals_take t n)
theorem gP_rel (perm : List Nat) {vs zs : List V} {us ws : List Value} (r : Vals vs us) (q : Vals zs ws) : Vals (gP perm vs zs) (gP perm us ws) := by
  unfold gP
  refine r.append ?_
  induction perm with
  | nil => exact .nil
  | cons i p ih =>
    simp only [List.flatMap_cons]
    exact (vals_take (q.drop i) 1).append ih
section
variable {K : PySem.W.Frag} {x qual : Str} {params : Arguments} {body : List Stmt} {scope : Scope} {kws : List (Str × V)} {f : Addr} {fd : FuncData} {ps : List Str}
theorem FunD.kbindsP (F : FunD K x qual params body scope [] kws f fd) (n : Nat) (ks : List Str) (perm : List Nat)
    (h : ∀ (kV doc pm : Value) (an : Option Addr) (cdv ct : Value) (us ws : List Value), us.length = n → ws.length = ks.length → bindArgs (PySem.W.fnOf x qual params body scope .none kV doc pm an cdv ct) ⟨us, ks.zip ws⟩ = pure (ps.zip (gP perm us ws))) :
    KBn K fd ps n ks (gP perm) (gP perm) := by
  obtain ⟨oc, od, dV, kV, doc, pm, an, cdv, ct, osl, rfl, lk, hcd, hD, hK⟩ := F.ex
  rcases hD with ⟨_, rfl⟩ | ⟨e, _⟩
  · exact ⟨fun s us ws _ h1 h2 => .of_eq (h kV doc pm an cdv ct us ws h1 h2), fun r q => gP_rel perm r q⟩
  · exact absurd rfl e
end
structure MetK (P : Program) (w : World) (K : PySem.W.Frag) (mg : Str → Option Value) (base : Heap) (k : Nat) (C : Addr) (m : Str) (ks : List Str) (perm : List Nat) (sp : Sp) : Prop where
  ex : ∃ (f : Addr) (fd : FuncData) (ps : List Str), Cls K C ∧ Meth K C m f ∧ FnOk P w K mg base CX0 k f fd ps sp ∧ KBn K fd ps 1 ks (gP perm) (gP perm)
structure MakK (P : Program) (w : World) (K : PySem.W.Frag) (mg : Str → Option Value) (base : Heap) (k : Nat) (x : Str) (C : Addr) (ks : List Str) (perm : List Nat) (sp : Sp) : Prop where
  ex : ∃ (f : Addr) (fd : FuncData) (ps : List Str), Mk K C f ∧ FnOk P w K mg base CX0 k f fd ps sp ∧ mg x = some (.ref C) ∧ KBn K fd ps 1 ks (gP perm) (gP perm)
section
variable {X : Cx} {k j : Nat} {C : Addr} {x m : Str} {sp : Sp} {p pos apos : Pos} {o : Expr} {ks : List Str} {perm : List Nat} {kws : List Keyword} {ta : TE} {tk : TA}
theorem pe_mtK {pl : Sem Bool} (c : MetK X.prog X.w X.K X.mg X.base k C m ks perm sp) (hr : Room j X.A) (hk : k ≤ j) (he : PE X o ta) (hkw : PK X kws tk)
    (hall : (backToKw pos (keywordEach kws X.env)).all (·.1.isSome) = true := by rfl) (hks : (backToKw pos (keywordEach kws X.env)).filterMap (·.1) = ks := by rfl)
    (hpl : ((backTo pos (starEach [] X.env)).any (·.1) || (backToKw pos (keywordEach kws X.env)).any (·.1.isNone)) = false := by rfl)
    (ht : eval (.Call (.Attribute o m apos) [] kws pos) X.env = (do
      let ov ← eval o X.env
      standAt apos.atName
      let (f, first) ← holding [ov] (getMethod ov m pl)
      callWith pos f first (backTo pos (starEach [] X.env)) (backToKw pos (keywordEach kws X.env))) := by rfl) :
    PE X (.Call (.Attribute o m apos) [] kws pos) (tMethK C m 0 ks.length sp (gP perm) E0 ta tNil tk) := by
  obtain ⟨f, fd, ps, hc, hm, F, b⟩ := c.ex
  exact pe_methK0 (pl := pl) he hc hm F (hr.mono hk) b pass0 hkw hall hks hpl ht
theorem pe_mkK (c : MakK X.prog X.w X.K X.mg X.base k x C ks perm sp) (hr : Room j X.A) (hk : k + 1 ≤ j) (hg : Gl X x) (hkw : PK X kws tk)
    (hall : (backToKw pos (keywordEach kws X.env)).all (·.1.isSome) = true := by rfl) (hks : (backToKw pos (keywordEach kws X.env)).filterMap (·.1) = ks := by rfl) (hdb : (x == ("__debug__" : Str)) = false := by decide)
    (hpl : ((backTo pos (starEach [] X.env)).any (·.1) || (backToKw pos (keywordEach kws X.env)).any (·.1.isNone)) = false := by rfl) :
    PE X (.Call (.Name x p) [] kws pos) (tMakeK C 0 ks.length sp (gP perm) E0 tNil tk) := by
  obtain ⟨f, fd, ps, M, F, hm, b⟩ := c.ex
  exact pe_makeK0 M F (hr.mono hk) hg hm b pass0 hkw hall hks hdb hpl
end
end L2
/-! a law whose def is known only where nothing is being shown -/
namespace L2
open PySem PySem.Spec PyProof.Rows
section
variable {P : Program} {w : World} {K : PySem.W.Frag} {mg mb : Str → Option Value} {k : Nat} {fa a : Addr} {fd : FuncData} {x : Str} {sp : Sp} {s1 : Shared} {vs : List Value} {ns : List Int}
/-- the script's object -/
abbrev scriptO (vs : List Value) : Obj := { cls := .type "list", data := .seq vs.toArray }
/-- the script alone is told, unless it stands in the written part -/
def scriptH (K : PySem.W.Frag) (a : Addr) (vs : List Value) (ns : List Int) : Hp := fun q => if q = a ∧ K.lookup a = none then some (.frz (scriptO vs) (.lst (ns.map V.int))) else none
theorem scriptH_cases (q : Addr) : (scriptH K a vs ns q = none) ∨ (q = a ∧ K.lookup a = none ∧ scriptH K a vs ns q = some (.frz (scriptO vs) (.lst (ns.map V.int)))) := by
  unfold scriptH
  by_cases c : q = a ∧ K.lookup a = none
  · exact Or.inr ⟨c.1, c.2, if_pos c⟩
  · exact Or.inl (if_neg c)
theorem scriptH_only : Only (scriptH K a vs ns) := fun q => by
  rcases scriptH_cases (K := K) (a := a) (vs := vs) (ns := ns) q with h | ⟨_, _, h⟩
  · exact Or.inl h
  · exact Or.inr ⟨_, _, h⟩
theorem scriptH_seq (KX : K.In s1.heap) (ea : s1.heap.get? a = some (scriptO vs)) (ii : IntsAre vs ns) (hl : ns.length ≤ sizeLine) : SqL K (scriptH K a vs ns) a (ns.map V.int) := by
  have lv := ii.length
  cases q : K.lookup a with
  | none => exact Or.inl (Or.inr ⟨scriptO vs, by unfold scriptH; exact if_pos ⟨rfl, q⟩⟩)
  | some o =>
    obtain rfl : scriptO vs = o := Option.some.inj (ea.symm.trans (KX a o q))
    refine Or.inr ⟨_, vs.toArray, _, q, rfl, rfl, rfl, ?_, ?_⟩
    · rw [List.size_toArray, lv]; exact hl
    · simpa using vals_ints ii
theorem scriptH_ok (ea : s1.heap.get? a = some (scriptO vs)) (ii : IntsAre vs ns) (hl : ns.length ≤ sizeLine) : HOk P w (scriptH K a vs ns) s1.heap := fun q u hu => by
  rcases scriptH_cases (K := K) (a := a) (vs := vs) (ns := ns) q with h | ⟨e, _, h⟩
  · rw [h] at hu; cases hu
  · rw [h] at hu
    cases hu
    subst e
    exact ⟨ea, (by rw [List.length_map]; exact hl), vs, _, vals_ints ii, ea⟩
/-- the call of the law -/
theorem law_callG (KX : K.In s1.heap) (gl : s1.heap.Ns mainGlobals mg) (bl : s1.heap.Ns builtinsNs mb) (bb : ∀ y : Str, y ≠ "__name__" → mb y = bootBuiltins y) (nl : s1.heap.NoLimit) (gn : s1.gens = #[])
    (ea : s1.heap.get? a = some (scriptO vs)) (ii : IntsAre vs ns) (hl : ns.length ≤ sizeLine) (room : Room k callerA)
    (F : ∀ base : Heap, K.In base → base.Ns mainGlobals mg → FnG P w K mg base CX0 k fa fd [x] sp) (bd : ∀ (s : Shared) (u : Value), BindsTo s fd ⟨[u], []⟩ [(x, u)])
    (hsp : ∀ H : Hp, Only H → SqL K H a (ns.map V.int) → sp [.ref a] H (fun v _ => v = .bl true) fun _ _ _ => False) :
    codeAny (model P w) callerA (.call (.ref fa) ⟨[.ref a], []⟩) (fun r s2 => r = .ok (.ret (.bool true)) ∧ OldK s1.heap s2.heap ∧ s2.os = s1.os ∧ AllBare s2.gens) s1 := by
  obtain ⟨Hs, hHs⟩ : ∃ Hs, Hs = scriptH K a vs ns := ⟨_, rfl⟩
  have cs : ∀ q, Hs q = none ∨ (q = a ∧ K.lookup a = none ∧ Hs q = some (.frz (scriptO vs) (.lst (ns.map V.int)))) := by rw [hHs]; exact scriptH_cases
  have ok : HOk P w Hs s1.heap := by rw [hHs]; exact scriptH_ok ea ii hl
  -- objects that are no script's stand below it
  have under : ∀ {q : Addr} {o : Obj}, s1.heap.get? q = some o → o ≠ scriptO vs ∨ (K.lookup q).isSome = true → (hidT s1.heap Hs).get? q = some o := fun {q o} e n => hidT_get e (by
    rcases cs q with h | ⟨z, hn, _⟩
    · exact h
    · subst z
      rcases n with n | n
      · rw [ea] at e; exact absurd (Option.some.inj e).symm n
      · rw [hn] at n; cases n)
  have nsp : ∀ {q : Addr} {m : Str → Option Value}, s1.heap.Ns q m → (hidT s1.heap Hs).Ns q m := fun {q m} ⟨o, es, ep, e, d, r⟩ => ⟨o, es, ep, under e (Or.inl fun z => by rw [z] at d; cases d), d, r⟩
  have kin : K.In (hidT s1.heap Hs) := fun q o e => under (KX q o e) (Or.inr (by rw [e]; rfl))
  have md : Mod K mg (hidT s1.heap Hs) := ⟨kin, nsp gl, ⟨mb, nsp bl, bb⟩, by obtain ⟨mc, g1, g2⟩ := nl; exact ⟨mc, nsp g1, g2⟩⟩
  have en : Env0 P w K mg (hidT s1.heap Hs) callerA [] s1 Hs :=
    { frames := rfl, mod := md, bs := fun q o e => of_hidT e, bsz := Nat.le_of_eq (hidT_size _ _), funs := trivial, frf := (fun q hq => by cases hq), hok := ok, bare := .of_eq gn }
  have go := (F _ kin (nsp gl)).run callerA [] s1 Hs ⟨[.ref a], []⟩ [.ref a] [.ref a] _ _ rfl room en (bd s1 (.ref a)) (.cons rfl .nil) (hsp Hs (by rw [hHs]; exact scriptH_only) (by rw [hHs]; exact scriptH_seq KX ea ii hl))
  refine codeAny_mono go fun r s2 h => ?_
  match r, h with
  | .error e, h => exact False.elim h
  | .ok .next, h => exact False.elim h
  | .ok .brk, h => exact False.elim h
  | .ok .cont, h => exact False.elim h
  | .ok (.ret u), ⟨v, H2, os, bare, un, ok2, rv, hv⟩ =>
    have hv : v = .bl true := hv
    subst hv
    obtain rfl : u = Value.bool true := rv
    refine ⟨rfl, OldK.of_keep fun q o e => ?_, os, bare⟩
    rcases cs q with h | ⟨z, hn, h⟩
    · exact un.keep q o e h (fun z => by cases z) (by simp)
    · obtain ⟨g1, _⟩ := ok2 q _ (un.frzs q _ _ h)
      subst z
      rw [ea] at e
      cases e
      exact g1
end
/-- a law's end over a head by facts -/
theorem walk_ofG {l : PySem.W.OpenLaw} {n k : Nat} {q : Program} {loose : List Str} {XP : (Str → Option Value) → Heap → Prop} {YP : World → Heap → Prop} {d : DefRec} {x : Str}
    (hm : l.most = some n) (hz : n ≤ sizeLine) (hd : d.params.defaults = []) (room : Room k callerA)
    (F : ∀ (w : World) (mg : Str → Option Value) (fa : Addr) (h : Heap), YP w h → h.Ns mainGlobals mg → mg d.name = some (.ref fa) →
      ∃ (K : PySem.W.Frag) (fd : FuncData) (sp : Sp), K.In h ∧ (∀ (s : Shared) (u : Value), BindsTo s fd ⟨[u], []⟩ [(x, u)]) ∧
        (∀ (H : Hp) (a : Addr) (ns : List Int), ns.length ≤ n → Only H → SqL K H a (ns.map V.int) → sp [.ref a] H (fun v _ => v = .bl true) fun _ _ _ => False) ∧
        ∀ base : Heap, K.In base → base.Ns mainGlobals mg → FnG l.prog w K mg base CX0 k fa fd [x] sp) :
    PySem.W.WalkO q loose XP YP l.row.toRowW d [] (fun f vs => PySem.call f vs) := by
  refine Att.attach_call hm hd fun w s0 s1 mg mb fa o pm cd doc a vs ns G Y _ _ _ hmg ea ii hlen gn => ?_
  obtain ⟨K, fd, sp, KX, hb, hsp, hF⟩ := F w mg fa _ Y G.T.g hmg
  exact law_callG KX G.T.g G.T.b G.T.builtins G.T.nolimit gn ea ii (Nat.le_trans hlen hz) room hF hb fun H hO hS => hsp H a ns hlen hO hS
end L2
/-! tuples whose objects are known: displays, sums, reversed ones; enumerate over a tuple; lists against the empty list -/
namespace L2
open PySem PySem.Spec PyProof.Rows
theorem meets_enumerate_newB1 {v : Value} {o : Obj} {H : Heap → Prop} (B : PySem.Begins v o H) :
    Meets (Builtin.«enumerate.__new__» ⟨[.type "enumerate", v], []⟩) (fun _ R s => H s.heap ∧
      R (.ok (.ret (.ref (s.heap.push o).objs.size))) { s with heap := (s.heap.push o).push { cls := .type "enumerate", data := .fields #[.none, .bool false, .ref s.heap.objs.size, rawInt 0, .none, .none] } }) :=
  .of_wp fun prog w A R s h => by
    obtain ⟨hp, g, d, tk, os⟩ := s; obtain ⟨h1, h⟩ := h
    have hsub := sub_enumerate
    have q1 : ∀ {A' : Around} {E : Value → Shared → Prop} {Q : Value → Shared → Prop}, Q (.ref hp.objs.size) ⟨hp.push o, g, d, tk, os⟩ → wpAny (model prog w) A' (pyIter v) Q E ⟨hp, g, d, tk, os⟩ :=
      fun q => B.iter prog w _ _ ⟨hp, g, d, tk, os⟩ _ h1 q
    wp_walk using q1
    refine wpAny_stack_any fun st => wpAny_pure ?_
    split
    · rename_i c _ _ _ _ _
      cases (c == Value.type "enumerate")
      · wp_walk using q1
        exact ⟨_, rfl, h⟩
      · wp_walk using q1
        exact ⟨_, rfl, h⟩
    · wp_walk using q1
      exact ⟨_, rfl, h⟩
section
variable {prog : Program} {w : World} {A : Around} {E : Value → Shared → Prop} {s : Shared}
theorem enum_begins1 {v : Value} {o : Obj} {H : Heap → Prop} {Q : Value → Shared → Prop} (B : PySem.Begins v o H) (h1 : H s.heap)
    (h : ∀ h', IsEnum h' (s.heap.objs.size + 1) s.heap.objs.size 0 .none → h'.get? s.heap.objs.size = some o → h'.objs.size = s.heap.objs.size + 2 →
      (∀ b o, s.heap.get? b = some o → h'.get? b = some o) → Q (.ref (s.heap.objs.size + 1)) { s with heap := h' }) :
    wpAny (model prog w) A (call (.type "enumerate") [v]) Q E s := by
  refine callType_new F.called_enumerate (by decide) (F.typeCall_enumerate_1 _) (F.newCall_enumerate_1 _) (fun obj => F.args_object_init_2 obj _) F.entry_enumerate_new
    (meets_enumerate_newB1 B) ⟨h1, ?_⟩
  have hz : (s.heap.push o).objs.size = s.heap.objs.size + 1 := Heap.size_push ..
  show _ ∧ _
  rw [hz]
  have he : IsEnum ((s.heap.push o).push { cls := .type "enumerate", data := .fields #[.none, .bool false, .ref s.heap.objs.size, rawInt 0, .none, .none] }) (s.heap.objs.size + 1) s.heap.objs.size 0 .none := by
    have := Heap.get?_push_size (s.heap.push o) (o := { cls := .type "enumerate", data := .fields #[.none, .bool false, .ref s.heap.objs.size, rawInt 0, .none, .none] }) rfl
    rw [hz] at this; exact this
  refine ⟨⟨_, he, rfl⟩, h _ he (Heap.get?_push_of_some _ (Heap.get?_push_size _ B.free)) (by rw [Heap.size_push, hz]) fun b o x => Heap.get?_push_of_some _ (Heap.get?_push_of_some _ x)⟩
theorem places_rev (n : Nat) : Builtin.Slice.slicePlaces ((n : Int) - 1) (-1) (-1) = n := by
  unfold Builtin.Slice.slicePlaces
  rw [if_neg (by omega)]
  by_cases h : (n : Int) - 1 > -1
  · rw [if_pos h]
    have e : -(-1 : Int) = 1 := by omega
    rw [e, Int.ediv_one]
    omega
  · rw [if_neg h]
    omega
theorem pick_rev (xs : List Value) : ((List.range xs.length).filterMap fun (k : Nat) => xs.toArray[(((xs.length : Int) - 1) + (k : Int) * (-1)).toNat]?) = xs.reverse := by
  have e : ∀ k ∈ List.range xs.length, xs.toArray[(((xs.length : Int) - 1) + (k : Int) * (-1)).toNat]? = some (xs.reverse.getD k .none) := by
    intro k hk
    have hk : k < xs.length := List.mem_range.mp hk
    have e1 : (((xs.length : Int) - 1) + (k : Int) * (-1)).toNat = xs.length - 1 - k := by omega
    rw [e1, List.getElem?_toArray, List.getD_eq_getElem?_getD, List.getElem?_reverse hk, List.getElem?_eq_getElem (by omega)]
    rfl
  have e2 : (List.range xs.length).filterMap (fun (k : Nat) => xs.toArray[(((xs.length : Int) - 1) + (k : Int) * (-1)).toNat]?) = (List.range xs.length).filterMap (fun k => some (xs.reverse.getD k .none)) :=
    (by
      have : ∀ (l : List Nat), (∀ k ∈ l, xs.toArray[(((xs.length : Int) - 1) + (k : Int) * (-1)).toNat]? = some (xs.reverse.getD k .none)) → l.filterMap (fun (k : Nat) => xs.toArray[(((xs.length : Int) - 1) + (k : Int) * (-1)).toNat]?) = l.filterMap (fun k => some (xs.reverse.getD k .none)) := by
        intro l
        induction l with
        | nil => intro _; rfl
        | cons a l ih =>
          intro h
          rw [List.filterMap_cons, List.filterMap_cons, h a (List.mem_cons_self ..), ih fun k hk => h k (List.mem_cons_of_mem _ hk)]
      exact this _ e)
  rw [e2]
  have e3 : (List.range xs.length).filterMap (fun k => some (xs.reverse.getD k .none)) = (List.range xs.length).map (fun k => xs.reverse.getD k .none) := by
    rw [← List.filterMap_eq_map]; rfl
  rw [e3]
  refine List.ext_getElem? fun i => ?_
  by_cases hi : i < xs.length
  · rw [List.getElem?_map, List.getElem?_range hi, List.getElem?_eq_getElem (by simpa using hi)]
    simp [List.getD_eq_getElem?_getD, hi]
  · rw [List.getElem?_eq_none (by simp; omega), List.getElem?_eq_none (by simp; omega)]
/-- t[::-1] -/
theorem getItem_tuple_rev {t sl : Addr} {its : List Value} {vs : Value} {Q : Value → Shared → Prop} (ht : IsTup s.heap t its.toArray) (hs : s.heap.IsSliceOf sl .none .none vs)
    (ps : IsPart vs (some (-1))) (h : Q (.ref s.heap.objs.size) { s with heap := s.heap.push { cls := .type "tuple", data := .seq its.reverse.toArray } })
    (hsz : its.length ≤ sizeLine) : wpAny (model prog w) A (getItem (.ref t) (.ref sl)) Q E s := by
  obtain ⟨os, hos, hcs, hds⟩ := id hs
  have hTs : s.TypeIs (.ref sl) "slice" := ⟨os, hos, hcs⟩
  have htake : sizeOk (.seq its.reverse.toArray) := by
    show its.reverse.toArray.size ≤ sizeLine
    rw [List.size_toArray, List.length_reverse]
    exact hsz
  unfold getItem
  try with_reducible refine wpAny_holding ?_
  first | refine wpAny_bind (wpAny_pure ?_) | skip
  refine wpAny_bind (wpAny_sequenceKey ht.typeIs (by decide) ?_)
  refine wpAny_bind (wpAny_callSpecial?_slot (name := Str.ofString "__getitem__") ht.typeIs PyProof.Rows.slot_tuple_getitem
    (wpAny_call_entry PyProof.Rows.slot_tuple_getitem ht.typeIs entry_tuple_getitem ?_ (args_tuple_getitem _ _)))
  show wpAny _ _ (Builtin.Tuple.tupleItemsOf (.ref t) >>= _) _ _ s
  refine wpAny_bind (tupleItemsOf_ ht ?_)
  refine wpAny_bind (wpAny_typeOf hTs ?_)
  rw [if_pos (by decide)]
  have sa : ∀ {QQ : Int × Int × Nat → Shared → Prop} {EE : Value → Shared → Prop} {AA : Around}, QQ (((its.length : Int) - 1), -1, its.length) s →
      wpAny (model prog w) AA (Builtin.Slice.sliceApplied (.ref sl) (pure (its.toArray.size : Int))) QQ EE s := by
    intro QQ EE AA hq
    unfold Builtin.Slice.sliceApplied Builtin.Slice.sliceFields
    refine wpAny_bind (wpAny_bind (wpAny_field hos hds (x := .none) rfl (wpAny_bind (wpAny_field hos hds (x := .none) rfl (wpAny_bind (wpAny_field hos hds (x := vs) rfl (wpAny_pure ?_)))))))
    refine wpAny_bind (HT.slicePart_ ps ?_)
    show wpAny _ _ (if ((-1 : Int) == 0) = true then _ else _) _ _ s
    rw [if_neg (by decide)]
    refine wpAny_bind (HT.slicePart_ .none (wpAny_bind (HT.slicePart_ .none (wpAny_bind (wpAny_pure ?_)))))
    show wpAny _ _ (pure (((its.toArray.size : Int) - 1), (-1 : Int), Builtin.Slice.slicePlaces ((its.toArray.size : Int) - 1) (-1) (-1))) _ _ s
    rw [places_rev]
    rw [List.size_toArray]
    exact wpAny_pure hq
  refine wpAny_bind (sa ?_)
  show wpAny _ _ (if (((its.length : Int) - 1) == 0 && (-1 : Int) == 1 && its.length == its.toArray.size) = true then _ else _) _ _ s
  rw [if_neg (by simp), pick_rev]
  first
    | exact wpAny_bind (m := Builtin.Tuple.tupleExact _) (wpAny_newObj_type (wpAny_pure ⟨_, rfl, wpAny_pure h⟩) htake)
    | exact wpAny_bind (m := Builtin.Tuple.tupleExact _) (wpAny_newObj_type (wpAny_bind (wpAny_pure (wpAny_pure ⟨_, rfl, wpAny_pure h⟩))) htake)
    | exact wpAny_bind (wpAny_bind (m := Builtin.Tuple.tupleExact _) (wpAny_newObj_type (wpAny_pure (wpAny_pure ⟨_, rfl, wpAny_pure h⟩)) htake))
    | exact wpAny_bind (wpAny_bind (m := Builtin.Tuple.tupleExact _) (wpAny_newObj_type (wpAny_pure ⟨_, rfl, wpAny_pure h⟩) htake))
end
/-! ### enumerate over a tuple -/
/-- the tuple at a, its items with their places in new pairs -/
def IteT (K : PySem.W.Frag) (a : Addr) : It :=
  ⟨fun i H => ∃ (xs : List V) (x : V), SqT K H a xs ∧ xs[i]? = some x, fun i H v H' => ∃ T x, v = .ref T ∧ H T = none ∧ H' = upd H T (.tup [.int (i : Nat), x]) ∧ ∀ xs, SqT K H a xs → xs[i]? = some x, fun i H => ∃ xs : List V, SqT K H a xs ∧ xs.length ≤ i⟩
theorem turn_enumT {P : Program} {w : World} {K : PySem.W.Frag} {elts : List Expr} {kk : Nat} {tpos : Pos} (a e it : Addr) (hai : a ≠ it) (hea : e ≠ a) :
    Turn P w K (.Tuple elts kk tpos) (IteT K a) [e, it] e (fun i h => (∃ old, IsEnum h e it ((i : Nat) : Int) old) ∧ h.IsTupleIter it a i ∧ e ≠ it) where
  mem := by simp
  obj := fun i h st b hb => by
    obtain ⟨⟨old, he⟩, ⟨o, ho, hc, hd⟩, _⟩ := st
    have e' : b = e ∨ b = it := by simpa using hb
    rcases e' with z | z
    · rw [z]; exact ⟨_, he, fun v q => nomatch q⟩
    · rw [z]; exact ⟨o, ho, fun v q => by rw [hd] at q; cases q⟩
  keep := fun i h h' st k => let ⟨⟨old, he⟩, hi, hne⟩ := st; ⟨⟨old, k e (by simp) _ he⟩, hi.at fun o q => k it (by simp) o q, hne⟩
  item := by
    intro X hP hw hK hc i pins s σ H E I hf st hg
    subst hP hw hK
    obtain ⟨⟨old, he⟩, hit, hne⟩ := st
    obtain ⟨xs, x, hq, hx⟩ := hg
    obtain ⟨its, rv, p, hz⟩ := I.tuple hq
    obtain ⟨u, hu, ru⟩ := rv.get hx
    have hel : e < s.heap.objs.size := Heap.lt_size he
    have hil : it < s.heap.objs.size := by obtain ⟨_, q, _⟩ := hit; exact Heap.lt_size q
    have hlen : i < its.toArray.size := by
      have := (List.getElem?_eq_some_iff.mp hu).1
      simpa using this
    refine PySem.wpAny_pyNext_enum_itemD (PySem.Draws.tuple (A := X.A.in1) (I.ok.hd hc) it a hai its.toArray) he ⟨hit, p⟩ hlen hne (by simp [hne, hea]) fun y h' tk hy ho hit' hT hsz hk => ?_
    have ey : y = u := by
      have hy' : its.toArray[i]? = some y := hy
      rw [List.getElem?_toArray, hu] at hy'
      exact (Option.some.inj hy').symm
    subst ey
    refine ⟨_, rfl, wpAny_letOwnedTupleGo_enum (s := { s with heap := h', toks := tk + 1 }) ho fun h'' he' sb => ?_⟩
    have hT2 : h''.get? s.heap.objs.size = some { cls := .type "tuple", data := .seq #[.int i tk, y] } := (sb.2 _ (Nat.ne_of_gt hel)).trans hT
    have new : ObjOk X.prog X.w (upd H s.heap.objs.size (.tup [.int (i : Nat), x])) h'' s.heap.objs.size (.tup [.int (i : Nat), x]) :=
      ⟨by show 2 ≤ sizeLine; decide, [.int i tk, y], .cons ⟨_, rfl⟩ (.cons ru .nil), ⟨_, hT2, rfl, _, rfl⟩⟩
    have I1 : Inv X pins σ (upd H s.heap.objs.size (.tup [.int (i : Nat), x])) { s with heap := h'', toks := tk + 1 } :=
      I.turnedNew (ch := [e, it]) (fun b ob hb q => (sb.2 b (fun z => hb (by simp [z]))).trans (hk b ob (fun z => hb (by simp [z])) (fun z => hb (by simp [z])) q)) hf (Nat.le_refl _) new
    refine ⟨.ref s.heap.objs.size, _, I1, rfl, ⟨_, x, rfl, I.hok.fresh (Nat.le_refl _), rfl, fun ys hy => by rw [I.tuple_inj hy hq]; exact hx⟩, ⟨⟨y, ?_⟩, hit'.1.at fun o q => (sb.2 it (Ne.symm hne)).trans q, hne⟩, fun b hb => ?_⟩
    · have e1 : ((i + 1 : Nat) : Int) = (i : Int) + 1 := by omega
      rw [e1]; exact he'
    · have hb' : b < s.heap.objs.size := by
        have e' : b = e ∨ b = it := by simpa using hb
        rcases e' with z | z
        · rw [z]; exact hel
        · rw [z]; exact hil
      rw [upd_ne (Nat.ne_of_lt hb')]
      exact (hf b hb).1
  done := by
    intro X hP hw hK hc i pins s σ H E I hf st hg
    subst hP hw hK
    obtain ⟨⟨old, he⟩, hit, hne⟩ := st
    obtain ⟨xs, hq, hx⟩ := hg
    obtain ⟨its, rv, p, hz⟩ := I.tuple hq
    obtain ⟨f0, f1, f2, f3, f4, f5⟩ := hf it (by simp)
    have hl := rv.length
    have D : PySem.Draws X.prog X.w X.A.in1 it [it, a] 0 (fun _ _ => False) (fun j h => j = 0 ∧ h.IsTupleIter it a i ∧ h.IsTuple a its.toArray) :=
      { live := fun _ _ st => let ⟨o, ho, _⟩ := st.2.1; ⟨o, ho⟩
        frame := fun _ _ _ st hk => ⟨st.1, st.2.1.at fun o e => hk it (by simp) o e, st.2.2.at fun o e => hk a (by simp) o e⟩
        item := fun j s Q E hj => absurd hj (Nat.not_lt_zero _)
        done := fun s Q E st hE => wpAny_nextOf_tuple_end (I.ok.hd hc) st.2.1 st.2.2 (by simp; omega) hE }
    exact PySem.wpAny_pyNext_enum_endD D he ⟨rfl, hit, p⟩ fun h' eb => ⟨rfl, I.turned (t' := s.toks) (fun b o hb q => eb b o hb q) f0 f1 f3 f4 f5⟩
  self := fun A i s Q E st h => let ⟨⟨_, he⟩, _⟩ := st; wpAny_pyIter_enum he h

def iEnumT (K : PySem.W.Frag) (ta : TA) : TI := fun σ H R => ta σ H fun vs H1 => ∃ a xs, vs = [.ref a] ∧ SqT K H1 a xs ∧ R (IteT K a) H1
theorem pi_enumT {X : Cx} {e : Expr} {ta : TA} {p pos tpos : Pos} {elts : List Expr} {kk : Nat} (hg : Gl X "enumerate") (hm : X.mg "enumerate" = none) (ha : PA X [e] ta) (hs : starEach [e] X.env = [(false, eval e X.env)] := by rfl) :
    PI X (.Tuple elts kk tpos) (.Call (.Name "enumerate" p) [e] [] pos) (iEnumT X.K ta) := by
  refine ⟨fun pins s σ H R I h => ?_⟩
  refine Call_ (ld_blt I hg hm boot_enumerate (PyProof.Rows.callWith_type1 (thn (ha.run pos pins s σ H _ I h) fun us s1 ⟨vs, H1, I1, r1, q1⟩ => ?_) hs rfl))
  obtain ⟨a, xs, ex, hq, q⟩ := q1
  subst ex
  cases r1 with
  | cons r rr =>
    cases rr
    cases r
    obtain ⟨its, rv, p', hz⟩ := I1.tuple hq
    have hal : a < s1.heap.objs.size := by obtain ⟨o, ho, _⟩ := id p'; exact Heap.lt_size ho
    refine enum_begins1 (PySem.begins_tuple a its.toArray) p' fun h' he hit hsz hk => wpAny_pyIter_enum he ?_
    have I2 : Inv X pins σ H1 { s1 with heap := h' } := I1.kept (t' := s1.toks) hk
    refine ⟨s1.heap.objs.size + 1, [s1.heap.objs.size + 1, s1.heap.objs.size], _, _, H1, rfl, I2, turn_enumT a (s1.heap.objs.size + 1) s1.heap.objs.size (Nat.ne_of_lt hal) (Nat.ne_of_gt (Nat.lt_succ_of_lt hal)), ⟨⟨.none, he⟩, ⟨_, hit, rfl, rfl⟩, Nat.succ_ne_self _⟩, fun b hb => ?_, q⟩
    have e' : b = s1.heap.objs.size + 1 ∨ b = s1.heap.objs.size := by simpa using hb
    have hle : s1.heap.objs.size ≤ b := by
      rcases e' with z | z
      · rw [z]; exact Nat.le_add_right _ _
      · rw [z]; exact Nat.le_refl _
    exact I1.fpOk hle (I1.hok.fresh hle)
section
variable {X : Cx} {es : List Expr} {t : TA} {pos : Pos}
/-! ### displays, sums, reversed tuples, their objects known -/
def tTupF (t : TA) : TE := fun σ H Q => t σ H fun xs H1 => xs.length ≤ sizeLine ∧ ∀ p o, H1 p = none → o.dict = none → Q (.ref p) (upd H1 p (.frz o (.tup xs)))
theorem pe_tupF {x1} (h : PA X es t) : PE X (.Tuple es x1 pos) (tTupF t) := by
  refine ⟨fun pins s σ H Q I hq => ?_⟩
  refine wpAny_Tuple_spliced (thn (h.run pos pins s σ H _ I hq) fun us s1 ⟨xs, H1, I1, r, z, q⟩ => ⟨by rw [← r.length]; exact z, ?_⟩)
  have hf : H1 s1.heap.objs.size = none := I1.hok.fresh (Nat.le_refl _)
  refine ⟨.ref s1.heap.objs.size, upd H1 s1.heap.objs.size (.frz { cls := .type "tuple", data := .seq us.toArray } (.tup xs)), I1.laid (t' := s1.toks) (fun b u e => Heap.get?_push_of_some _ e) (Nat.le_refl _) ?_, rfl, q _ _ hf rfl⟩
  exact ⟨Heap.get?_push_size _ rfl, z, us, r, ⟨_, Heap.get?_push_size _ rfl, rfl, _, rfl⟩⟩
/-- t + u: t itself where u is empty, u itself where t is empty -/
def rCatF (K : PySem.W.Frag) : R2 := fun x y H Q => ∃ a b xs ys, x = .ref a ∧ y = .ref b ∧ SqT K H a xs ∧ SqT K H b ys ∧ xs.length + ys.length ≤ sizeLine ∧
  (xs = [] → Q (.ref b) H) ∧ (xs ≠ [] → ys = [] → Q (.ref a) H) ∧ (xs ≠ [] → ys ≠ [] → ∀ p o, H p = none → o.dict = none → Q (.ref p) (upd H p (.frz o (.tup (xs ++ ys)))))
theorem op_catF : OpR X (binaryOp .Add) (rCatF X.K) := by
  intro pins s σ H x y v u Q I rx ry h
  obtain ⟨a, b, xs, ys, rfl, rfl, ha, hb, hz, q0, q1, q2⟩ := h
  cases rx
  cases ry
  obtain ⟨its, r1, p1, _⟩ := I.tuple ha
  obtain ⟨its2, r2, p2, _⟩ := I.tuple hb
  by_cases hx : xs = []
  · subst hx
    cases r1
    exact cat_tup0 p1 p2 ⟨.ref b, H, I, rfl, q0 rfl⟩
  · refine HT.cat_tup p1 p2 (fun z => hx (r1.nil_iff.mp z)) (fun z => ⟨.ref a, H, I, rfl, q1 hx (r2.nil_iff.mp z)⟩) (fun z => ?_) (by rw [← r1.length, ← r2.length]; exact hz)
    refine ⟨.ref s.heap.objs.size, _, I.laid (t' := s.toks) (o := .frz { cls := .type "tuple", data := .seq (its ++ its2).toArray } (.tup (xs ++ ys))) (fun b ob q => Heap.get?_push_of_some _ q) (Nat.le_refl _) ?_, rfl, q2 hx (fun w => z (r2.nil_iff.mpr w)) _ _ (I.hok.fresh (Nat.le_refl _)) rfl⟩
    exact ⟨Heap.get?_push_size _ rfl, by rw [List.length_append]; exact hz, _, r1.append r2, IsTup.new _ _⟩
def tRevT (K : PySem.W.Frag) (te : TE) : TE := fun σ H Q => te σ H fun x H1 => ∃ a xs, x = .ref a ∧ SqT K H1 a xs ∧ ∀ p o, H1 p = none → o.dict = none → Q (.ref p) (upd H1 p (.frz o (.tup xs.reverse)))
theorem pe_revT {e : Expr} {te : TE} {k : Nat} {p1 p2 p3 pos : Pos} (he : PE X e te) : PE X (.Subscript e (.Slice none none (some (.UnaryOp .USub (.Constant (.int 1) k p1) p2)) p3) pos) (tRevT X.K te) := by
  refine ⟨fun pins s σ H Q I h => ?_⟩
  refine Subscript_ (thn (he.run pins s σ H _ I h) fun v s1 ⟨x, H1, I1, r1, q1⟩ => ?_)
  obtain ⟨a, xs, ex, hx, q⟩ := q1
  subst ex
  cases r1
  have hst : PO X (some (.UnaryOp .USub (.Constant (.int 1) k p1) p2)) (tPart (tUn (rU fun i => .int (-i)) (tC (.int 1)))) := po_some (pe_un un_neg pe_int)
  refine wpAny_Slice (thn (po_none.run pins s1 σ H1 (fun o H2 => o = none ∧ H2 = H1) I1 ⟨rfl, rfl⟩) fun vl s2 ⟨l, H2, I2, pl, el, e2⟩ => ?_)
  subst el e2
  refine thn (po_none.run pins s2 σ H2 (fun o H3 => o = none ∧ H3 = H2) I2 ⟨rfl, rfl⟩) fun vu s3 ⟨u, H3, I3, pu, eu, e3⟩ => ?_
  subst eu e3
  refine thn (hst.run pins s3 σ H3 (fun o H4 => o = some (-1) ∧ H4 = H3) I3 ⟨1, rfl, -1, rfl, rfl, rfl⟩) fun vs s4 ⟨o, H4, I4, ps, eo, e4⟩ => ?_
  subst eo e4
  cases pl
  cases pu
  have I5 : Inv X pins σ H4 { s4 with heap := s4.heap.push { cls := .type "slice", data := .fields #[.none, .none, vs] } } := I4.kept (t' := s4.toks) fun b ob q => Heap.get?_push_of_some _ q
  obtain ⟨its, r, ht, hz⟩ := I5.tuple hx
  have hlen := r.length
  show wpAny (model X.prog X.w) X.A (subscriptTail e (.Slice none none (some (.UnaryOp .USub (.Constant (.int 1) k p1) p2)) p3) (.ref a) (.ref s4.heap.objs.size)) (EP X pins σ Q) X.xe { s4 with heap := s4.heap.push { cls := .type "slice", data := .fields #[.none, .none, vs] } }
  refine tail_any (ops := [.ref a, .ref s4.heap.objs.size]) ht.typeIs (PyProof.Rows.slot_tuple_getitem.lookup) ?_ (by with_unfolding_all rfl)
  refine getItem_tuple_rev ht (Heap.IsSliceOf.new _ .none .none vs) ps ?_ (by omega)
  refine ⟨.ref _, _, I5.laid (t' := s4.toks) (o := .frz { cls := .type "tuple", data := .seq its.reverse.toArray } (.tup xs.reverse)) (fun b ob q => Heap.get?_push_of_some _ q) (Nat.le_refl _) ?_, rfl, q _ _ (I5.hok.fresh (Nat.le_refl _)) rfl⟩
  exact ⟨Heap.get?_push_size _ rfl, by rw [List.length_reverse]; exact hz, _, r.reverse, ⟨_, Heap.get?_push_size _ rfl, rfl, _, rfl⟩⟩
/-! ### xs == [], xs != [] -/
def rEq0 (K : PySem.W.Frag) : R2 := fun x y H Q => ∃ a b xs, x = .ref a ∧ y = .ref b ∧ SqL K H a xs ∧ SqL K H b [] ∧ Q (.bl xs.isEmpty) H
theorem op_eq0 (hu : X.A.units + 64 < cLine) : OpR X (compareOp .Eq) (rEq0 X.K) := by
  intro pins s σ H x y v u Q I rx ry h
  obtain ⟨a, b, xs, rfl, rfl, ha, hb, q⟩ := h
  cases rx
  cases ry
  obtain ⟨its, r1, p1, _⟩ := I.list ha
  obtain ⟨its2, r2, p2, _⟩ := I.list hb
  cases r2
  cases xs with
  | nil =>
    cases r1
    exact PySem.W.eq_listsT (n := 0) (e := fun _ => true) p1.isList p2.isList rfl (fun j h1 h2 => absurd h1 (by simp)) (by omega) ⟨.bl true, H, I, rfl, q⟩
  | cons x xs =>
    cases r1 with
    | cons rx rs =>
    refine SeqAt.RcAt.lists_lengths p1.isList p2.isList (by simp) (by omega) X.prog X.w _ _ ⟨.bl false, H, I, rfl, q⟩
end
end L2
/-! HxX: classes of exceptions over one own class over ValueError, each with an own __init__ that stores its fields -/
namespace L2
open PySem PySem.Spec PyProof.Rows

/-- the class at C stands right below the one at PE, which is right below ValueError; its __init__ at fI, its fields fl -/
structure ExT (K : PySem.W.Frag) (PE C fI : Addr) (fl : List Str) : Prop where
  lk : ∃ nm q N bs sn sub ab col dd k0 k1 k2 k3 k5, K.lookup C = some (excClassObj nm q C N bs (.ref PE :: PySem.HandSPX.veTail) true sn sub ab col dd k0 k1 k2 k3 k5 "ValueError.__new__")
  kC : PySem.W.keepIn K (.ref C) = true
  sa : PySem.W.findIn K (.ref C) "__setattr__" = some (some (.builtin "object.__setattr__"))
  ga : PySem.W.findIn K (.ref C) "__getattribute__" = some (some (.builtin "BaseException.__getattribute__"))
  gg : PySem.W.findIn K (.ref C) "__getattr__" = some none
  ac : PySem.W.findIn K (.ref C) "__class__" = some (some (.builtin "object.__class__"))
  iC : PySem.W.findIn K (.ref C) "__init__" = some (some (.ref fI))
  tI : PySem.W.typeIn K (.ref fI) = some (.type "function")
  no : ∀ f ∈ fl, PySem.W.findIn K (.ref C) f = some none
  cg : PySem.W.specialIn K (.builtin "object.__class__") "__get__" = some (some (.builtin "getset_descriptor.__get__"))
  ct : PySem.W.takesIn K (.builtin "object.__class__") = some true
def exLkB (K : PySem.W.Frag) (PE C : Addr) : Bool := match K.lookup C with
  | some ⟨.type t, _, .cls cd, sl⟩ => (match sl.toList with
    | [_, _, _, _, some (.builtin n), _] => decide (t = "type") && (decide (cd.mro = .ref C :: .ref PE :: PySem.HandSPX.veTail) && (decide (n = "ValueError.__new__") && (!cd.hasDel && cd.hasDict)))
    | _ => false)
  | _ => false
def exTB (K : PySem.W.Frag) (PE C fI : Addr) (fl : List Str) : Bool :=
  exLkB K PE C && (PySem.W.keepIn K (.ref C) && (He.eqO (PySem.W.findIn K (.ref C) "__setattr__") (some (some (.builtin "object.__setattr__"))) &&
    (He.eqO (PySem.W.findIn K (.ref C) "__getattribute__") (some (some (.builtin "BaseException.__getattribute__"))) && (He.eqO (PySem.W.findIn K (.ref C) "__getattr__") (some none) &&
    (He.eqO (PySem.W.findIn K (.ref C) "__class__") (some (some (.builtin "object.__class__"))) && (He.eqO (PySem.W.findIn K (.ref C) "__init__") (some (some (.ref fI))) &&
    (decide (PySem.W.typeIn K (.ref fI) = some (.type "function")) && fl.all fun f => He.eqO (PySem.W.findIn K (.ref C) f) (some none))))))))
theorem exLkB_ok {K : PySem.W.Frag} {PE C : Addr} (h : exLkB K PE C = true) : ∃ nm q N bs sn sub ab col dd k0 k1 k2 k3 k5, K.lookup C = some (excClassObj nm q C N bs (.ref PE :: PySem.HandSPX.veTail) true sn sub ab col dd k0 k1 k2 k3 k5 "ValueError.__new__") := by
  unfold exLkB at h
  split at h
  · rename_i t dd cd sl ho
    split at h
    · rename_i k0 k1 k2 k3 n k5 hs
      simp only [Bool.and_eq_true, decide_eq_true_eq, Bool.not_eq_true'] at h
      obtain ⟨rfl, hm, rfl, hdel, hdc⟩ := h
      obtain ⟨nm, bs, mro, ns, qn, hd, sn, sub, ab, col, del⟩ := cd
      dsimp only at hm hdel hdc
      subst hm hdel hdc
      have hsl : sl = #[k0, k1, k2, k3, some (.builtin "ValueError.__new__"), k5] := by
        obtain ⟨l⟩ := sl
        simp only at hs
        rw [hs]
      subst hsl
      exact ⟨nm, qn, ns, bs, sn, sub, ab, col, dd, k0, k1, k2, k3, k5, ho⟩
    · cases h
  · cases h
theorem exTB_ok {K : PySem.W.Frag} {PE C fI : Addr} {fl : List Str} (cg : PySem.W.specialIn K (.builtin "object.__class__") "__get__" = some (some (.builtin "getset_descriptor.__get__"))) (ct : PySem.W.takesIn K (.builtin "object.__class__") = some true)
    (h : exTB K PE C fI fl = true) : ExT K PE C fI fl := by
  obtain ⟨h1, h⟩ := He.ba h
  obtain ⟨h2, h⟩ := He.ba h
  obtain ⟨h3, h⟩ := He.ba h
  obtain ⟨h4, h⟩ := He.ba h
  obtain ⟨h5, h⟩ := He.ba h
  obtain ⟨h6, h⟩ := He.ba h
  obtain ⟨h7, h⟩ := He.ba h
  obtain ⟨h8, h9⟩ := He.ba h
  exact ⟨exLkB_ok h1, h2, He.eqO_ok h3, He.eqO_ok h4, He.eqO_ok h5, He.eqO_ok h6, He.eqO_ok h7, of_decide_eq_true h8, fun f hf => He.eqO_ok (List.all_eq_true.mp h9 f hf), cg, ct⟩
section
variable {K : PySem.W.Frag} {PE C D fI fJ : Addr} {fl gl : List Str}
theorem ExT.mroI (T : ExT K PE C fI fl) (b : Value) : PySem.W.mroIn K C b = some ((Value.ref C :: .ref PE :: PySem.HandSPX.veTail).contains b) := by
  obtain ⟨nm, q, N, bs, sn, sub, ab, col, dd, k0, k1, k2, k3, k5, e⟩ := T.lk
  unfold PySem.W.mroIn PySem.W.clsIn
  rw [e]
  rfl
theorem ExT.tyC (T : ExT K PE C fI fl) : PySem.W.typeIn K (.ref C) = some (.type "type") := by
  obtain ⟨nm, q, N, bs, sn, sub, ab, col, dd, k0, k1, k2, k3, k5, e⟩ := T.lk
  show (K.lookup C).map (·.cls) = _
  rw [e]
  rfl
theorem ExT.clI (T : ExT K PE C fI fl) : (PySem.W.clsIn K C).isSome = true := by
  obtain ⟨nm, q, N, bs, sn, sub, ab, col, dd, k0, k1, k2, k3, k5, e⟩ := T.lk
  unfold PySem.W.clsIn
  rw [e]
  rfl
theorem ExT.hdI (T : ExT K PE C fI fl) : PySem.W.hasDictIn K C = true := by
  obtain ⟨nm, q, N, bs, sn, sub, ab, col, dd, k0, k1, k2, k3, k5, e⟩ := T.lk
  unfold PySem.W.hasDictIn PySem.W.clsIn
  rw [e]
  rfl
theorem ExT.exC (T : ExT K PE C fI fl) : PySem.W.subIn K (.ref C) (.type "BaseException") = some true := by
  show PySem.W.mroIn K C _ = _
  rw [T.mroI, List.contains_cons, List.contains_cons]
  rw [show PySem.HandSPX.veTail.contains (Value.type "BaseException") = true by decide +kernel, Bool.or_true, Bool.or_true]
theorem ExT.obC (T : ExT K PE C fI fl) : PySem.W.mroIn K C (.type "object") = some true := by
  rw [T.mroI, List.contains_cons, List.contains_cons]
  rw [show PySem.HandSPX.veTail.contains (Value.type "object") = true by decide +kernel, Bool.or_true, Bool.or_true]
theorem ExT.oex (T : ExT K PE C fI fl) : OexC K C := by
  obtain ⟨nm, q, N, bs, sn, sub, ab, col, dd, k0, k1, k2, k3, k5, e⟩ := T.lk
  exact ⟨⟨nm, q, N, bs, _, sn, sub, ab, col, dd, k0, k1, k2, k3, k5, e, rfl⟩, T.sa, T.exC, T.tyC, T.kC⟩
/-- isinstance of an own class -/
theorem ExT.kit (T : ExT K PE C fI fl) (S : ExT K PE D fJ gl) (hD : D ≠ PE) : PySem.W.kitOne K (.ref C) (.ref D) = some (decide (C = D)) := by
  unfold PySem.W.kitOne
  by_cases e : C = D
  · subst e
    rw [if_pos (beq_self_eq_true _), decide_eq_true rfl]
  · have ne : (Value.ref C == Value.ref D) = false := beq_eq_false_iff_ne.mpr fun z => e (Value.ref.inj z)
    rw [if_neg (by rw [ne]; exact Bool.false_ne_true), decide_eq_false e]
    show (if ((PySem.W.clsIn K D).isSome && PySem.W.typeIn K (.ref D) == some (.type "type")) = true then PySem.W.subIn K (.ref C) (.ref D) else none) = _
    rw [S.clI, S.tyC, if_pos (by rfl)]
    show PySem.W.mroIn K C _ = _
    have n1 : (Value.ref D == Value.ref C) = false := beq_eq_false_iff_ne.mpr fun z => e (Value.ref.inj z).symm
    have n2 : (Value.ref D == Value.ref PE) = false := beq_eq_false_iff_ne.mpr fun z => hD (Value.ref.inj z)
    rw [T.mroI, List.contains_cons, List.contains_cons, n1, n2]
    rfl
theorem ExT.kitP (T : ExT K PE C fI fl) (c1 : (PySem.W.clsIn K PE).isSome = true) (t1 : PySem.W.typeIn K (.ref PE) = some (.type "type")) : PySem.W.kitOne K (.ref C) (.ref PE) = some true := by
  unfold PySem.W.kitOne
  by_cases e : C = PE
  · subst e
    rw [if_pos (beq_self_eq_true _)]
  · have ne : (Value.ref C == Value.ref PE) = false := beq_eq_false_iff_ne.mpr fun z => e (Value.ref.inj z)
    rw [if_neg (by rw [ne]; exact Bool.false_ne_true)]
    show (if ((PySem.W.clsIn K PE).isSome && PySem.W.typeIn K (.ref PE) == some (.type "type")) = true then PySem.W.subIn K (.ref C) (.ref PE) else none) = _
    rw [c1, t1, if_pos (by rfl)]
    show PySem.W.mroIn K C _ = _
    rw [T.mroI, List.contains_cons, List.contains_cons, beq_self_eq_true, Bool.true_or, Bool.or_true]
theorem ExT.kitV (T : ExT K PE C fI fl) : PySem.W.kitOne K (.ref C) (.type "ValueError") = some true := by
  unfold PySem.W.kitOne
  rw [if_neg (by intro z; cases z)]
  show (if PySem.W.kitMeta "ValueError" = true then PySem.W.subIn K (.ref C) (.type "ValueError") else none) = _
  rw [if_pos (by decide +kernel)]
  show PySem.W.mroIn K C _ = _
  rw [T.mroI, List.contains_cons, List.contains_cons]
  rw [show PySem.HandSPX.veTail.contains (Value.type "ValueError") = true by decide +kernel, Bool.or_true, Bool.or_true]
/-- an except clause that names an own class -/
theorem ExT.exm (T : ExT K PE C fI fl) (S : ExT K PE D fJ gl) (hD : D ≠ PE) : PySem.W.exmOne K (.ref C) (.ref D) = some (decide (C = D)) := by
  refine PySem.W.exm_ref S.exC S.hdI S.tyC ?_
  show PySem.W.mroIn K C _ = _
  have n2 : (Value.ref D == Value.ref PE) = false := beq_eq_false_iff_ne.mpr fun z => hD (Value.ref.inj z)
  rw [T.mroI, List.contains_cons, List.contains_cons, n2]
  by_cases e : C = D
  · subst e
    rw [beq_self_eq_true, decide_eq_true rfl, Bool.true_or]
  · have n1 : (Value.ref D == Value.ref C) = false := beq_eq_false_iff_ne.mpr fun z => e (Value.ref.inj z).symm
    rw [n1, decide_eq_false e]
    rfl
theorem ExT.exmP (T : ExT K PE C fI fl) (h1 : PySem.W.subIn K (.ref PE) (.type "BaseException") = some true) (h2 : PySem.W.hasDictIn K PE = true) (h3 : PySem.W.typeIn K (.ref PE) = some (.type "type")) : PySem.W.exmOne K (.ref C) (.ref PE) = some true := by
  refine PySem.W.exm_ref h1 h2 h3 ?_
  show PySem.W.mroIn K C _ = _
  rw [T.mroI, List.contains_cons, List.contains_cons, beq_self_eq_true, Bool.true_or, Bool.or_true]
end
end L2
/-! HxY: such a class called, with keywords too -/
namespace PySem
namespace HxY
open PySem.W PySem.Calls PyProof.Rows PySem.HandSPX
section
variable {prog : Program} {w : World} {M : Model} {A : Around} {E : Value → Shared → Prop} {R : Result → Shared → Prop} {hp : Heap} {gs : Array GenState} {dr : Drawn} {tk : Nat} {os : OsState} {K : Frag} {PE C fI : Addr} {fl : List Str} {us : List Value} {ks : List (Str × Value)}
theorem veq (T : String) : (Value.ref PE :: veTail).contains (.type T) = veTail.contains (.type T) := by rw [List.contains_cons]; rfl
theorem new_fits {Q : Unit → Shared → Prop} (T : L2.ExT K PE C fI fl) (X : K.In hp) (q : Q () ⟨hp, gs, dr, tk, os⟩) : wpAny M A (checkBuiltinCall "ValueError.__new__" ⟨.ref C :: us, ks⟩) Q E ⟨hp, gs, dr, tk, os⟩ := by
  obtain ⟨nm, q0, N, bs, sn, sub, ab, col, dd, k0, k1, k2, k3, k5, hC0⟩ := T.lk
  have hC := X _ _ hC0
  have F := F.excBase_ValueError
  have h1 : (Value.ref C :: (Value.ref PE :: veTail)).contains (.type "ValueError") = true := by rw [List.contains_cons, veq, show veTail.contains (Value.type "ValueError") = true by decide +kernel, Bool.or_true]
  have h2 := F.noStar
  simp only [checkBuiltinCall, F.newKind, F.newSplit, F.newRow]
  repeat (first
    | refine wpAny_loadPart_at hC ?_
    | (refine wpAny_isSubtype_exc hC ?_
       rw [h1])
    | refine wpAny_staticBase_exc hC ?_
    | refine wpAny_madeBy_exc hC ?_
    | simp only [bne_self_eq_false, Bool.false_eq_true, if_false]
    | wp_step)
  exact q
theorem new_made (T : L2.ExT K PE C fI fl) (X : K.In hp) (hl : us.length ≤ sizeLine)
    (q : R (.ok (.ret (.ref (hp.objs.size + 1)))) ⟨(hp.push (kdv_tup us)).push (excO C hp.objs.size), gs, dr, tk, os⟩) : codeAny (model prog w) A (.builtin "ValueError.__new__" ⟨.ref C :: us, ks⟩) R ⟨hp, gs, dr, tk, os⟩ := by
  obtain ⟨nm, q0, N, bs, sn, sub, ab, col, dd, k0, k1, k2, k3, k5, hC0⟩ := T.lk
  have hC := X _ _ hC0
  have F := F.excBase_ValueError
  have hends := F.ends
  have hcB : (Value.ref C :: (Value.ref PE :: veTail)).contains (.type "ValueError") = true := by rw [List.contains_cons, veq, show veTail.contains (Value.type "ValueError") = true by decide +kernel, Bool.or_true]
  have hcA : (Value.ref C :: (Value.ref PE :: veTail)).contains (.type "AttributeError") = false := by rw [List.contains_cons, veq, show veTail.contains (Value.type "AttributeError") = false by decide +kernel]; rfl
  have hcN : (Value.ref C :: (Value.ref PE :: veTail)).contains (.type "NameError") = false := by rw [List.contains_cons, veq, show veTail.contains (Value.type "NameError") = false by decide +kernel]; rfl
  refine codeAny_builtinAt F.entry ?_
  unfold Builtin.«BaseException.__new__»
  refine wpAt_bind ?_
  show wpAt _ _ _ (stack >>= _) _ _ _
  refine wpAt_bind (wpAt_stack fun p below => wpAt_of_wpAny ?_)
  wp_walk
  refine wpAt_of_wpAny ?_
  rw [F.owner]
  repeat (first
    | with_reducible refine wpAny_madeHere_exc F.canon hC ?_
    | with_reducible refine wpAny_loadPart_at hC ?_
    | (with_reducible refine wpAny_isSubtype_exc hC ?_
       first
         | rw [hcB]
         | rw [hcA]
         | rw [hcN])
    | wp_step)
  show R _ _
  rw [Heap.size_push]
  exact q
theorem tcall {Q : Fin → Shared → Prop} (T : L2.ExT K PE C fI fl) (X : K.In hp) (hl : us.length ≤ sizeLine)
    (hq : codeAny (model prog w) A (.call (.ref fI) ⟨.ref (hp.objs.size + 1) :: us, ks⟩)
      (fun r s' => match r with
        | .ok (.ret v) => v = .none ∧ Q (.done (.ret (.ref (hp.objs.size + 1)))) s'
        | .ok _ => False
        | .error e => E e s') ⟨(hp.push (kdv_tup us)).push (excO C hp.objs.size), gs, dr, tk, os⟩) :
    wpAny (model prog w) A (Builtin.«type.__call__» ⟨.ref C :: us, ks⟩) Q E ⟨hp, gs, dr, tk, os⟩ := by
  obtain ⟨nm, q0, N, bs, sn, sub, ab, col, dd, k0, k1, k2, k3, k5, hC0⟩ := id T.lk
  have hC := X _ _ hC0
  have FV := F.excBase_ValueError
  repeat (first
    | with_reducible refine wpAny_loadPart_at hC ?_
    | with_reducible refine wpAny_madeBy_exc hC ?_
    | wp_step)
  refine codeAny_call_builtin_code (Code.quiet_builtin _ FV.quiet) (new_fits T X ?_)
  refine new_made T X hl ?_
  show wpAny _ _ _ _ _ _
  have k : ∀ b o, hp.get? b = some o → ((hp.push (kdv_tup us)).push (excO C hp.objs.size)).get? b = some o := fun b o e => Heap.get?_push_of_some _ (Heap.get?_push_of_some _ e)
  have hC2 := k _ _ hC
  have X2 : K.In ((hp.push (kdv_tup us)).push (excO C hp.objs.size)) := X.keeps k
  have hnew : ((hp.push (kdv_tup us)).push (excO C hp.objs.size)).get? (hp.objs.size + 1) = some (excO C hp.objs.size) := by heap_get
  have hself : (Value.ref C :: (Value.ref PE :: veTail)).contains (.ref C) = true := by simp
  have i1 := looks_findIn (M := model prog w) X2 T.iC
  have b1 := bind_fn (M := model prog w) X2 (.ref (hp.objs.size + 1)) T.tI
  unfold isInstance
  repeat (first
    | with_reducible refine wpAny_loadPart_at hnew ?_
    | (with_reducible refine wpAny_isSubtype_exc hC2 ?_
       rw [hself])
    | wp_step)
  show wpAny _ _ (typeLookup (.ref C) _) _ _ _
  refine i1.at ?_
  refine wpAny_holding (wpAny_bind (b1.at ?_))
  refine wpAny_bind (wpAny_call (codeAny_mono hq fun r s' z => ?_))
  rcases r with e | (v | _ | _ | _) <;> first | exact z | exact z.elim | skip
  obtain ⟨rfl, z⟩ := z
  first
    | exact wpAny_pure (wpAny_pure z)
    | (wp_walk; exact z)
theorem tc_fits {Q : Unit → Shared → Prop} (T : L2.ExT K PE C fI fl) (X : K.In hp) (q : Q () ⟨hp, gs, dr, tk, os⟩) : wpAny M A (checkBuiltinCall "type.__call__" ⟨.ref C :: us, ks⟩) Q E ⟨hp, gs, dr, tk, os⟩ := by
  obtain ⟨nm, q0, N, bs, sn, sub, ab, col, dd, k0, k1, k2, k3, k5, hC0⟩ := id T.lk
  have hC := X _ _ hC0
  have f3 := tc_sub
  have hTy : (⟨hp, gs, dr, tk, os⟩ : Shared).TypeIs (.ref C) "type" := ⟨_, hC, rfl⟩
  simp only [checkBuiltinCall, tc_kind, tc_split]
  repeat (any_goals (first
    | assumption
    | with_reducible refine wpAny_loadPart_at hC ?_
    | with_reducible refine wpAny_onRaise ?_
    | with_reducible refine wpAny_map ?_
    | wp_step))
theorem call_ex (T : L2.ExT K PE C fI fl) (X : K.In hp) (hl : us.length ≤ sizeLine)
    (hq : codeAny (model prog w) (A.under (.builtin "type.__call__" ⟨.ref C :: us, ks⟩)) (.call (.ref fI) ⟨.ref (hp.objs.size + 1) :: us, ks⟩) (InitBack (hp.objs.size + 1) R) ⟨(hp.push (kdv_tup us)).push (excO C hp.objs.size), gs, dr, tk, os⟩) :
    codeAny (model prog w) A (.call (.ref C) ⟨us, ks⟩) R ⟨hp, gs, dr, tk, os⟩ := by
  obtain ⟨nm, q0, N, bs, sn, sub, ab, col, dd, k0, k1, k2, k3, k5, hC0⟩ := id T.lk
  have hC := X _ _ hC0
  have f1 := tc_lookup
  have f2 := tc_bind (.ref C)
  have f3 := tc_sub
  have hTy : (⟨hp, gs, dr, tk, os⟩ : Shared).TypeIs (.ref C) "type" := ⟨_, hC, rfl⟩
  refine codeAny_of_tree ?_
  show wpAny _ _ (callAny (.ref C) _) _ _ _
  repeat (any_goals (first
    | assumption
    | with_reducible refine wpAny_loadPart_at hC ?_
    | wp_step))
  refine ⟨rfl, ?_⟩
  refine codeAny_call_builtin_at (Code.quiet_builtin _ (by decide +kernel)) entry_typeCall (tc_fits T X (tcall T X hl ?_))
  refine codeAny_mono hq fun r s' z => ?_
  rcases r with e | (v | _ | _ | _) <;> exact z
end
end HxY
end PySem
/-! HxZ: exceptions of such classes as values: made, their fields read, isinstance, raised -/
namespace L2
open PySem PySem.Spec PyProof.Rows C8
/-- what __init__ does: each field is stored -/
def spXI (C : Addr) (fl : List Str) : Sp := fun vs H Q _ => ∃ (a : Addr) (us : List V), vs = .ref a :: us ∧ us.length = fl.length ∧ H a = some (exo a C none) ∧ (fl = [] → Q .non H) ∧
  (fl ≠ [] → ∀ d H', H d = none → d ≠ a → H' a = some (exo a C (some d)) → H' d = some (exd d (fl.zip us).reverse) → (∀ b, b ≠ a → b ≠ d → H' b = H b) → Q .non H')
/-- at a, tracked or held by a pin of pn: an exception of the class at C, its dict at d -/
def XObj (pn : List (Addr × Obj)) (H : Hp) (a C : Addr) (d : Option Addr) : Prop := H a = some (exo a C d) ∨ ∃ oe, (a, oe) ∈ pn ∧ Zc (.ref C) d oe ∧ ∃ vs, oe.data = .fields vs
/-- .. with the fields fs -/
def XV (pn : List (Addr × Obj)) (H : Hp) (a C : Addr) (fs : List (Str × V)) : Prop := ∃ d, XObj pn H a C d ∧ ((d = none ∧ fs = []) ∨ ∃ dx, d = some dx ∧ H dx = some (.xd fs))
theorem XObj.mono {pn : List (Addr × Obj)} {H H' : Hp} {a C : Addr} {d : Option Addr} (x : XObj pn H a C d) (e : Evl.Ex H H') : XObj pn H' a C d := by
  rcases x with x | x
  · exact .inl (e _ _ x)
  · exact .inr x
theorem XV.mono {pn : List (Addr × Obj)} {H H' : Hp} {a C : Addr} {fs : List (Str × V)} (x : XV pn H a C fs) (e : Evl.Ex H H') : XV pn H' a C fs := by
  obtain ⟨d, x, q⟩ := x
  refine ⟨d, x.mono e, ?_⟩
  rcases q with q | ⟨dx, q1, q2⟩
  · exact .inl q
  · exact .inr ⟨dx, q1, e _ _ q2⟩
/-- C(..), called with n values and keywords ks, that fill the parameters in the order perm -/
structure MakX (P : Program) (w : World) (K : PySem.W.Frag) (mg : Str → Option Value) (base : Heap) (k : Nat) (x : Str) (Pe C : Addr) (fl : List Str) (n : Nat) (ks : List Str) (perm : List Nat) : Prop where
  ex : ∃ fI fd, ExT K Pe C fI fl ∧ mg x = some (.ref C) ∧ FnOk P w K mg base CX0 k fI fd ("self" :: fl) (spXI C fl) ∧ KBn K fd ("self" :: fl) (n + 1) ks (gP perm) (gP perm)
  small : fl.length ≤ 100
/-- the reading: the values in the order of the fields -/
def rMkX (C : Addr) (fl : List Str) (ws : List V) : Hp → VK → Prop := fun H Q => ws.length = fl.length ∧ ∀ a H', H a = none → Evl.Ex H H' → (∀ pn, XV pn H' a C (fl.zip ws).reverse) → (∃ d, H' a = some (exo a C d)) → Q (.ref a) H'
section
variable {X : Cx} {k j n : Nat} {x : Str} {Pe C fI : Addr} {fl ks : List Str} {perm : List Nat} {fd : FuncData}
theorem lenV {vs : List V} {us : List Value} (r : Vals vs us) : vs.length = us.length := Paired.length r
theorem run_mkX {pins : List (Addr × Obj)} {σ : St} {H : Hp} {s : Shared} {Q : VK} {us ws : List Value} {vs zs : List V} (T : ExT X.K Pe C fI fl) (F1 : FnOk X.prog X.w X.K X.mg X.base CX0 k fI fd ("self" :: fl) (spXI C fl)) (hr : Room (k + 1) X.A) (hb : KBn X.K fd ("self" :: fl) (n + 1) ks (gP perm) (gP perm)) (hs : fl.length ≤ 100)
    (I : Inv X pins σ H s) (r : Vals vs us) (rz : Vals zs ws) (l1 : vs.length = n) (l2 : zs.length = ks.length) (hn : n ≤ 100) (h : rMkX C fl (gP perm vs zs) H Q) : wpAny (model X.prog X.w) X.A (call (.ref C) us (ks.zip ws)) (EP X pins σ Q) X.xe s := by
  obtain ⟨hl, h⟩ := h
  obtain ⟨hp, g, dr, tk, os⟩ := s
  have hsz : hp.objs.size ≤ hp.objs.size + 1 := Nat.le_succ _
  have hnone : H (hp.objs.size + 1) = none := I.hok.fresh hsz
  have kk : ∀ b o, hp.get? b = some o → ((hp.push (PySem.W.kdv_tup us)).push (PySem.HandSPX.excO C hp.objs.size)).get? b = some o := fun b o e => Heap.get?_push_of_some _ (Heap.get?_push_of_some _ e)
  have hget : ((hp.push (PySem.W.kdv_tup us)).push (PySem.HandSPX.excO C hp.objs.size)).get? (hp.objs.size + 1) = some (PySem.HandSPX.excO C hp.objs.size) := by heap_get
  have I2 : Inv X pins σ (upd H (hp.objs.size + 1) (exo (hp.objs.size + 1) C none)) ⟨(hp.push (PySem.W.kdv_tup us)).push (PySem.HandSPX.excO C hp.objs.size), g, dr, tk, os⟩ :=
    I.laid (t' := tk) (a := hp.objs.size + 1) (o := exo (hp.objs.size + 1) C none) kk hsz (exo_ok hget)
  have r2 : Vals (gP perm (V.ref (hp.objs.size + 1) :: vs) zs) (gP perm (Value.ref (hp.objs.size + 1) :: us) ws) := hb.rel (.cons rfl r) rz
  have hus : us.length ≤ sizeLine := by
    rw [← lenV r, sizeLine_eq]
    omega
  have hq : spXI C fl (gP perm (V.ref (hp.objs.size + 1) :: vs) zs) (upd H (hp.objs.size + 1) (exo (hp.objs.size + 1) C none)) (fun v H2 => v = .non ∧ ∃ H3, Q (.ref (hp.objs.size + 1)) H3 ∧ ((fl = [] ∧ H3 = H2) ∨ ∃ d, H2 d = some (exd d (fl.zip (gP perm vs zs)).reverse) ∧ H3 = upd H2 d (.xd (fl.zip (gP perm vs zs)).reverse))) (fun _ _ _ => False) := by
    refine ⟨hp.objs.size + 1, gP perm vs zs, rfl, hl, upd_same, fun e => ⟨rfl, _, h _ _ hnone (Evl.Ex.new hnone) (fun pn => ⟨none, .inl upd_same, .inl ⟨rfl, ?_⟩⟩) ⟨_, upd_same⟩, .inl ⟨e, rfl⟩⟩, fun ne d H' hd dne ha hdd ho => ⟨rfl, upd H' d (.xd (fl.zip (gP perm vs zs)).reverse), h _ _ hnone ?_ (fun pn => ⟨some d, .inl ?_, .inr ⟨d, rfl, upd_same⟩⟩) ⟨some d, ?_⟩, .inr ⟨d, hdd, rfl⟩⟩⟩
    · rw [e]; rfl
    · intro b o hb0
      have nb : b ≠ hp.objs.size + 1 := fun z => by rw [z, hnone] at hb0; cases hb0
      have nd : b ≠ d := fun z => by
        rw [upd_ne dne] at hd
        rw [z, hd] at hb0
        cases hb0
      rw [upd_ne nd, ho b nb nd, upd_ne nb]
      exact hb0
    · rw [upd_ne (Ne.symm dne)]; exact ha
    · exact (upd_ne (Ne.symm dne)).trans ha
  refine wpAny_call (PySem.HxY.call_ex T I.kIn hus (codeAny_mono (F1.run _ X.stack _ _ ⟨Value.ref (hp.objs.size + 1) :: us, ks.zip ws⟩ (gP perm (Value.ref (hp.objs.size + 1) :: us) ws) _ _ (fun _ _ _ => False) (hr.make C us (ks.zip ws))
    (I2.env0.make C us (ks.zip ws)) (hb.to _ (Value.ref (hp.objs.size + 1) :: us) ws I2.kIn (by rw [List.length_cons, ← lenV r, l1]) (by rw [← lenV rz, l2])) r2 hq) fun r s' hq' => ?_))
  cases r with
  | error er => exact absurd hq' (fun z => by exact id z)
  | ok fl' =>
    cases fl' with
    | ret u =>
      obtain ⟨v, H2, I3, rv, ev, H3, q, q3⟩ := I2.after hq'
      subst ev
      refine ⟨rv, .ref (hp.objs.size + 1), H3, ?_, rfl, q⟩
      rcases q3 with ⟨_, rfl⟩ | ⟨d, hd, rfl⟩
      · exact I3
      · obtain ⟨mA, hns, rel⟩ := exd_at I3.hok hd
        have he : ∃ o, s'.heap.get? d = some o := by
          obtain ⟨o, _, _, e', _⟩ := hns
          exact ⟨o, e'⟩
        obtain ⟨h2, g2, d2, t2, os'⟩ := s'
        exact I3.write (t' := t2) (x := d) (e := d) (o := .xd _) (by rw [hd]; exact True.intro) (.inl rfl) (fun b u _ z => z) he ⟨mA, hns, rel⟩
    | next => exact False.elim hq'
    | brk => exact False.elim hq'
    | cont => exact False.elim hq'
variable {e : Expr} {es : List Expr} {kws : List Keyword} {t tk : TA} {te : TE} {p pos apos : Pos} {f : Str}
/-- C(e, ..) -/
theorem pe_mkX (c : MakX X.prog X.w X.K X.mg X.base k x Pe C fl n [] []) (hr : Room j X.A) (hk : k + 1 ≤ j) (hg : Gl X x) (hn : n ≤ 100) (ha : PA X (e :: es) t) (hdb : (x == ("__debug__" : Str)) = false := by decide)
    (he : starEach (e :: es) X.env = (false, eval e X.env) :: starEach es X.env := by rfl) (hpl : (backTo pos (starEach es X.env)).any (·.1) = false := by rfl) :
    PE X (.Call (.Name x p) (e :: es) [] pos) (fun σ H Q => t σ H fun vs H1 => vs.length = n ∧ rMkX C fl vs H1 Q) := by
  obtain ⟨fI, fd, T, hm, F, b⟩ := c.ex
  refine ⟨fun pins s σ H Q I h => ?_⟩
  refine wpAny_Call_Name_kw (ld_glob I hg hm ?_ hdb)
  refine PySem.W.callWith_K (h₀ := X.base) I.ok.mod.kin T.kC (thn (ha.run pos pins s σ H _ I h) fun us s1 ⟨vs, H1, I1, r, l1, q⟩ => ⟨I1.kIn, ?_⟩) he hpl
  have q2 : rMkX C fl (gP [] vs []) H1 Q := by
    unfold gP
    rw [List.flatMap_nil, List.append_nil]
    exact q
  exact run_mkX (ks := []) (ws := []) (zs := []) T F (hr.mono hk) b c.small I1 r .nil l1 rfl hn q2
/-- C() -/
theorem pe_mkX0 (c : MakX X.prog X.w X.K X.mg X.base k x Pe C fl 0 [] []) (hr : Room j X.A) (hk : k + 1 ≤ j) (hg : Gl X x) (hdb : (x == ("__debug__" : Str)) = false := by decide) :
    PE X (.Call (.Name x p) [] [] pos) (fun σ H Q => rMkX C fl [] H Q) := by
  obtain ⟨fI, fd, T, hm, F, b⟩ := c.ex
  refine ⟨fun pins s σ H Q I h => ?_⟩
  refine wpAny_Call_Name_kw (ld_glob I hg hm ?_ hdb)
  exact PySem.W.callWith_K0 I.kIn T.kC (run_mkX (us := []) (vs := []) (ks := []) (ws := []) (zs := []) T F (hr.mono hk) b c.small I .nil .nil rfl rfl (Nat.zero_le _) h)
/-- C(e, .., k = v, ..) -/
theorem pe_mkXK (c : MakX X.prog X.w X.K X.mg X.base k x Pe C fl n ks perm) (hr : Room j X.A) (hk : k + 1 ≤ j) (hg : Gl X x) (hn : n ≤ 100) (ha : PA X (e :: es) t) (hkw : PK X kws tk)
    (hall : (backToKw pos (keywordEach kws X.env)).all (·.1.isSome) = true := by rfl) (hks : (backToKw pos (keywordEach kws X.env)).filterMap (·.1) = ks := by rfl) (hdb : (x == ("__debug__" : Str)) = false := by decide)
    (he : starEach (e :: es) X.env = (false, eval e X.env) :: starEach es X.env := by rfl) (hpl : ((backTo pos (starEach (e :: es) X.env)).any (·.1) || (backToKw pos (keywordEach kws X.env)).any (·.1.isNone)) = false := by rfl) :
    PE X (.Call (.Name x p) (e :: es) kws pos) (fun σ H Q => t σ H fun vs H1 => tk σ H1 fun zs H2 => vs.length = n ∧ zs.length = ks.length ∧ rMkX C fl (gP perm vs zs) H2 Q) := by
  obtain ⟨fI, fd, T, hm, F, b⟩ := c.ex
  refine ⟨fun pins s σ H Q I h => ?_⟩
  refine wpAny_Call_Name_kw (ld_glob I hg hm ?_ hdb)
  refine PySem.W.callWith_KW (h₀ := X.base) I.ok.mod.kin T.kC hall (thn (ha.run pos pins s σ H _ I h) fun us s1 ⟨vs, H1, I1, r, q⟩ => ?_) hpl he
  refine thn (hkw.run pos pins s1 σ H1 _ I1 q) fun ws s2 ⟨zs, H2, I2, rz, l1, l2, q2⟩ => ⟨I2.kIn, ?_⟩
  rw [hks]
  exact run_mkX T F (hr.mono hk) b c.small I2 r rz l1 l2 hn q2
/-- C(k = v, ..) -/
theorem pe_mkXK0 (c : MakX X.prog X.w X.K X.mg X.base k x Pe C fl 0 ks perm) (hr : Room j X.A) (hk : k + 1 ≤ j) (hg : Gl X x) (hkw : PK X kws tk)
    (hall : (backToKw pos (keywordEach kws X.env)).all (·.1.isSome) = true := by rfl) (hks : (backToKw pos (keywordEach kws X.env)).filterMap (·.1) = ks := by rfl) (hdb : (x == ("__debug__" : Str)) = false := by decide)
    (hpl : ((backTo pos (starEach [] X.env)).any (·.1) || (backToKw pos (keywordEach kws X.env)).any (·.1.isNone)) = false := by rfl) :
    PE X (.Call (.Name x p) [] kws pos) (fun σ H Q => tk σ H fun zs H2 => zs.length = ks.length ∧ rMkX C fl (gP perm [] zs) H2 Q) := by
  obtain ⟨fI, fd, T, hm, F, b⟩ := c.ex
  refine ⟨fun pins s σ H Q I h => ?_⟩
  refine wpAny_Call_Name_kw (ld_glob I hg hm ?_ hdb)
  refine PySem.W.callWith_KW0 (h₀ := X.base) I.ok.mod.kin T.kC hall ?_ hpl
  refine thn (hkw.run pos pins s σ H _ I h) fun ws s2 ⟨zs, H2, I2, rz, l2, q2⟩ => ⟨I2.kIn, ?_⟩
  rw [hks]
  exact run_mkX (us := []) (vs := []) T F (hr.mono hk) b c.small I2 .nil rz rfl l2 (Nat.zero_le _) q2
/-- what stands at such an exception's address -/
theorem XObj.at_ {pins : List (Addr × Obj)} {σ : St} {H : Hp} {s : Shared} {a : Addr} {d : Option Addr} (I : Inv X pins σ H s) (x : XObj X.pn H a C d) : ∃ ox, s.heap.get? a = some ox ∧ ox.cls = .ref C ∧ ox.dict = d ∧ PySem.W.notCls ox = true := by
  rcases x with x | ⟨oe, hp, z, vs, hv⟩
  · obtain ⟨t1, h⟩ := exo_at I.hok x
    exact ⟨_, h, rfl, rfl, rfl⟩
  · exact ⟨oe, (I.pin (a, oe) (List.mem_append_left _ hp)).1, z.1, z.2, by unfold PySem.W.notCls; rw [hv] <;> rfl⟩
theorem xd_at {H : Hp} {P : Program} {w : World} {h : Heap} {d : Addr} {fs : List (Str × V)} (hok : HOk P w H h) (e : H d = some (.xd fs)) : ∃ mA, h.Ns1 d mA ∧ ∀ g, RelO (fs.lookup g) (mA g) := by
  have x : ObjOk P w H h d (.xd fs) := hok d _ e
  exact x
/-- e.f -/
theorem pe_xv (he : PE X e te) (hb : attributeBase e f X.env (eval e X.env) = eval e X.env := by rfl) :
    PE X (.Attribute e f pos) (fun σ H Q => te σ H fun y H1 => ∃ (a C Pe fI : Addr) (fl : List Str) (fs : List (Str × V)) (v : V), y = .ref a ∧ ExT X.K Pe C fI fl ∧ f ∈ fl ∧ XV X.pn H1 a C fs ∧ fs.lookup f = some v ∧ Q v H1) := by
  refine ⟨fun pins s σ H Q I h => ?_⟩
  refine attr_of hb (thn (he.run pins s σ H _ I h) fun u s1 hh => ?_)
  obtain ⟨y, H1, I1, ry, a, C, PE, fI, fl, fs, v, rfl, T, hf, ⟨d, hx, hd⟩, l, q⟩ := hh
  obtain rfl : u = Value.ref a := ry
  obtain ⟨ox, h1, h2, h3, h4⟩ := hx.at_ I1
  rcases hd with ⟨_, rfl⟩ | ⟨dx, rfl, hdx⟩
  · cases l
  · obtain ⟨mA, hns, hr⟩ := xd_at I1.hok hdx
    obtain ⟨od, ho, hl⟩ := lookIn_ns hns
    obtain ⟨u, hu, ru⟩ := RelO.some_of (v := v) (o := mA f) (by rw [← l]; exact hr f)
    have J : PySem.W.InstAt s1.heap a ox C (some od) := ⟨h1, h2, h4, by rw [h3]; exact ho⟩
    exact HandSPX.exc_get I1.kIn J T.ga T.gg T.exC (PySem.W.findObj_own T.hdI (T.no f hf) rfl (by rw [hl, hu])) (handed_of ru) ⟨v, H1, I1.tok _, ru, q⟩
/-- isinstance(e, c) -/
def rIsX (K : PySem.W.Frag) (pn : List (Addr × Obj)) : List V → Hp → VK → Prop := fun xs H Q => ∃ (a C Pe fI : Addr) (fl : List Str) (fs : List (Str × V)) (c : V) (cv : Value) (b : Bool), xs = [.ref a, c] ∧ ExT K Pe C fI fl ∧ XV pn H a C fs ∧ ClsV c cv ∧ PySem.W.kitOne K (.ref C) cv = some b ∧ Q (.bl b) H
theorem call_isX : CallR X (.builtin "isinstance") (rIsX X.K X.pn) := by
  intro pins s σ H xs us Q I r h
  obtain ⟨a, C, PE, fI, fl, fs, c, cv, b, rfl, T, ⟨d, hx, hd⟩, hc, hb, q⟩ := h
  obtain ⟨u1, u2, rfl, r1, r2⟩ := vals2 r
  obtain rfl : u1 = Value.ref a := r1
  have e2 := hc.eq r2
  subst e2
  obtain ⟨ox, h1, h2, h3, h4⟩ := hx.at_ I
  have fin : ∀ {od : Option Obj}, PySem.W.InstAt s.heap a ox C od → wpAny (model X.prog X.w) X.A (call (.builtin "isinstance") [.ref a, u2]) (EP X pins σ Q) X.xe s := fun {od} J =>
    PySem.W.kia_one (PySem.W.kitx_exc (od := od) (ox := ox) T.clI T.ga T.gg T.exC T.ac T.cg T.ct T.obC) I.kIn J hb (fun z => nomatch z) fun tk => ⟨.bl b, H, I.kept (t' := tk) fun _ _ z => z, rfl, q⟩
  rcases hd with ⟨rfl, _⟩ | ⟨dx, rfl, hdx⟩
  · exact fin (od := none) ⟨h1, h2, h4, by rw [h3]; exact True.intro⟩
  · obtain ⟨mA, hns, hr⟩ := xd_at I.hok hdx
    obtain ⟨od, ho, hl⟩ := lookIn_ns hns
    exact fin (od := some od) ⟨h1, h2, h4, by rw [h3]; exact ho⟩
/-- what gives such an exception back, new since the def was entered, may be raised -/
theorem pmk_x (hx : X.ex = []) (he : PE X e te) : L2N.PMk X e (fun σ H Q => te σ H fun y H1 => ∃ (a C : Addr) (d : Option Addr), y = .ref a ∧ H1 a = some (exo a C d) ∧ X.H_0 a = none ∧ Raises X (.ref C) ∧ Q (.ref C) d (delH H1 a)) := by
  intro pins s σ H Q I h
  refine wpAny_mono (he.run pins s σ H _ I h) (fun u s1 hu => ?_) fun _ _ z => z
  obtain ⟨v, H1, I1, r1, a, C, d, rfl, ha, h0, hr, q⟩ := hu
  obtain rfl : u = Value.ref a := r1
  obtain ⟨t1, ho⟩ := exo_at I1.hok ha
  obtain ⟨G, gs, ga, J⟩ := I1.untrack (φ := _) ha (fr0_none h0) hx
  refine ⟨a, _, _, { s1 with heap := G }, delH H1 a, .ref C, d, rfl, J, gs, ga, ho, ⟨rfl, rfl, fun vs e => ?_⟩, rfl, rfl, delH_same, rfl, I1.bare, hr, q⟩
  cases e
  rfl
end
end L2
/-! HxK: things: data of any kind, whole ratios among them -/
namespace L2
open PySem PySem.Spec PyProof.Rows
inductive Th
  | non
  | bl (b : Bool)
  | int (i : Int)
  | str (s : Str)
  | rat (i : Int)
  | lst (l : List Th)
  | tup (l : List Th)
  | dic (l : List (Str × Th))
/-- the fields of a ratio that is the whole number i -/
def wholeF (i : Int) : List (Str × V) := [("top", .int i), ("bottom", .int 1)]
mutual
/-- at v: the thing d; R is the class of ratios -/
inductive At (R : Addr) (H : Hp) : V → Th → Prop
  | non : At R H .non .non
  | bl (b : Bool) : At R H (.bl b) (.bl b)
  | int (i : Int) : At R H (.int i) (.int i)
  | str (x : Str) (h : x.length ≤ 1000) : At R H (.str x) (.str x)
  | rat {a dx : Addr} {i : Int} : H a = some (.ins R dx (wholeF i)) → At R H (.ref a) (.rat i)
  | lst {a : Addr} {xs : List V} {ds : List Th} : H a = some (.lst xs) → AtA R H xs ds → At R H (.ref a) (.lst ds)
  | tup {a : Addr} {xs : List V} {ds : List Th} : Rd H a (.tup xs) → AtA R H xs ds → At R H (.ref a) (.tup ds)
  | dic {a : Addr} {kvs : List (Key × V)} {ds : List (Str × Th)} : H a = some (.dK kvs) → AtK R H kvs ds → At R H (.ref a) (.dic ds)
inductive AtA (R : Addr) (H : Hp) : List V → List Th → Prop
  | nil : AtA R H [] []
  | cons {v : V} {vs : List V} {d : Th} {ds : List Th} : At R H v d → AtA R H vs ds → AtA R H (v :: vs) (d :: ds)
inductive AtK (R : Addr) (H : Hp) : List (Key × V) → List (Str × Th) → Prop
  | nil : AtK R H [] []
  | cons {k : Str} {v : V} {kvs : List (Key × V)} {d : Th} {ds : List (Str × Th)} : k.length ≤ 1000 → At R H v d → AtK R H kvs ds → AtK R H ((.inr k, v) :: kvs) ((k, d) :: ds)
end
theorem Rd.mono {H H' : Hp} {a : Addr} {o : HO} (e : Evl.Ex H H') (h : Rd H a o) : Rd H' a o := by
  rcases h with h | ⟨u, h⟩
  · exact .inl (e _ _ h)
  · exact .inr ⟨u, e _ _ h⟩
mutual
theorem At.mono {R : Addr} {H H' : Hp} (e : Evl.Ex H H') : ∀ (d : Th) (v : V), At R H v d → At R H' v d
  | .non, _, h => by cases h; exact .non
  | .bl b, _, h => by cases h; exact .bl b
  | .int i, _, h => by cases h; exact .int i
  | .str x, _, h => by
    cases h with
    | str _ h => exact .str x h
  | .rat i, _, h => by
    cases h with
    | rat h1 => exact .rat (e _ _ h1)
  | .lst ds, _, h => by
    cases h with
    | lst h1 h2 => exact .lst (e _ _ h1) (AtA.mono e ds _ h2)
  | .tup ds, _, h => by
    cases h with
    | tup h1 h2 => exact .tup (h1.mono e) (AtA.mono e ds _ h2)
  | .dic ds, _, h => by
    cases h with
    | dic h1 h2 => exact .dic (e _ _ h1) (AtK.mono e ds _ h2)
theorem AtA.mono {R : Addr} {H H' : Hp} (e : Evl.Ex H H') : ∀ (ds : List Th) (vs : List V), AtA R H vs ds → AtA R H' vs ds
  | [], _, h => by cases h; exact .nil
  | d :: ds, _, h => by
    cases h with
    | cons h1 h2 => exact .cons (At.mono e d _ h1) (AtA.mono e ds _ h2)
theorem AtK.mono {R : Addr} {H H' : Hp} (e : Evl.Ex H H') : ∀ (ds : List (Str × Th)) (vs : List (Key × V)), AtK R H vs ds → AtK R H' vs ds
  | [], _, h => by cases h; exact .nil
  | (k, d) :: ds, _, h => by
    cases h with
    | cons h0 h1 h2 => exact .cons h0 (At.mono e d _ h1) (AtK.mono e ds _ h2)
end
theorem At.up {R : Addr} {H H' : Hp} {v : V} {d : Th} (h : At R H v d) (e : Evl.Ex H H') : At R H' v d := At.mono e d v h
theorem AtA.up {R : Addr} {H H' : Hp} {vs : List V} {ds : List Th} (h : AtA R H vs ds) (e : Evl.Ex H H') : AtA R H' vs ds := AtA.mono e ds vs h
theorem AtK.up {R : Addr} {H H' : Hp} {vs : List (Key × V)} {ds : List (Str × Th)} (h : AtK R H vs ds) (e : Evl.Ex H H') : AtK R H' vs ds := AtK.mono e ds vs h
theorem AtA.len {R : Addr} {H : Hp} : ∀ {vs : List V} {ds : List Th}, AtA R H vs ds → vs.length = ds.length
  | _, _, .nil => rfl
  | _, _, .cons _ t => congrArg (· + 1) t.len
theorem AtA.get {R : Addr} {H : Hp} : ∀ {vs : List V} {ds : List Th}, AtA R H vs ds → ∀ {i : Nat} {v : V}, vs[i]? = some v → ∃ d, ds[i]? = some d ∧ At R H v d
  | _, _, .nil, i, v, h => by simp at h
  | _, _, .cons h1 t, 0, v, h => by
    cases h
    exact ⟨_, rfl, h1⟩
  | _, _, .cons h1 t, i + 1, v, h => t.get (i := i) (by simpa using h)
theorem AtA.get' {R : Addr} {H : Hp} : ∀ {vs : List V} {ds : List Th}, AtA R H vs ds → ∀ {i : Nat} {d : Th}, ds[i]? = some d → ∃ v, vs[i]? = some v ∧ At R H v d
  | _, _, .nil, i, v, h => by simp at h
  | _, _, .cons h1 t, 0, v, h => by
    cases h
    exact ⟨_, rfl, h1⟩
  | _, _, .cons h1 t, i + 1, v, h => t.get' (i := i) (by simpa using h)
theorem AtA.app {R : Addr} {H : Hp} : ∀ {vs ws : List V} {ds es : List Th}, AtA R H vs ds → AtA R H ws es → AtA R H (vs ++ ws) (ds ++ es)
  | _, _, _, _, .nil, t => t
  | _, _, _, _, .cons h1 h2, t => .cons h1 (h2.app t)
theorem AtK.len {R : Addr} {H : Hp} : ∀ {vs : List (Key × V)} {ds : List (Str × Th)}, AtK R H vs ds → vs.length = ds.length
  | _, _, .nil => rfl
  | _, _, .cons _ _ t => congrArg (· + 1) t.len
theorem iteFo {b : Bool} {A B : Prop} (h : b = false) (q : B) : if b = true then A else B := by rw [h]; exact q
theorem iteTo {b : Bool} {A B : Prop} (h : b = true) (q : A) : if b = true then A else B := by rw [h]; exact q
/-- the kind of a thing -/
inductive Kd
  | non | bl | int | str | rat | lst | tup | dic
deriving DecidableEq
def Th.kd : Th → Kd
  | .non => .non
  | .bl _ => .bl
  | .int _ => .int
  | .str _ => .str
  | .rat _ => .rat
  | .lst _ => .lst
  | .tup _ => .tup
  | .dic _ => .dic
def Kd.ty (R : Addr) : Kd → Value
  | .non => .type "NoneType"
  | .bl => .type "bool"
  | .int => .type "int"
  | .str => .type "str"
  | .rat => .ref R
  | .lst => .type "list"
  | .tup => .type "tuple"
  | .dic => .type "dict"
/-- what is known of the class of ratios -/
structure RatC (K : PySem.W.Frag) (R : Addr) : Prop where
  cl : Cls K R
  ac : PySem.W.findIn K (.ref R) "__class__" = some (some (.builtin "object.__class__"))
  cg : PySem.W.specialIn K (.builtin "object.__class__") "__get__" = some (some (.builtin "getset_descriptor.__get__"))
  ct : PySem.W.takesIn K (.builtin "object.__class__") = some true
  ob : PySem.W.mroIn K R (.type "object") = some true
  kt : ∀ n : String, n ∈ ["bool", "int", "str", "list", "tuple", "dict"] → PySem.W.kitOne K (.ref R) (.type n) = some false
section
variable {K : PySem.W.Frag} {R : Addr} {H : Hp} {v : V} {d : Th}
theorem At.tyx (C : RatC K R) (h : At R H v d) : TyX K H v (d.kd.ty R) := by
  cases h with
  | non => exact .base .non
  | bl b => exact .base (.bl b)
  | int i => exact .base (.int i)
  | str x _ => exact .base (.str x)
  | rat h => exact .base (.ins h C.cl C.ac C.cg C.ct C.ob)
  | lst h _ => exact .base (.lst h)
  | tup h _ =>
    rcases h with h | ⟨u, h⟩
    · exact .base (.tup h)
    · exact .fTuple h
  | dic h _ => exact .base (.dK h)
/-- isinstance of a built-in class -/
def Kd.isA : Kd → String → Bool
  | .non, _ => false
  | .bl, n => n == "bool" || n == "int"
  | .int, n => n == "int"
  | .str, n => n == "str"
  | .rat, _ => false
  | .lst, n => n == "list"
  | .tup, n => n == "tuple"
  | .dic, n => n == "dict"
theorem kit_all : ∀ a ∈ ["NoneType", "bool", "int", "str", "list", "tuple", "dict"], ∀ b ∈ ["bool", "int", "str", "list", "tuple", "dict"], kitB a b = some (a == b || (a == "bool" && b == "int")) := by decide +kernel
theorem Kd.kit (C : RatC K R) (k : Kd) {n : String} (hn : n ∈ ["bool", "int", "str", "list", "tuple", "dict"]) : PySem.W.kitOne K (k.ty R) (.type n) = some (k.isA n) := by
  have g : ∀ a, a ∈ ["NoneType", "bool", "int", "str", "list", "tuple", "dict"] → PySem.W.kitOne K (.type a) (.type n) = some (a == n || (a == "bool" && n == "int")) := fun a ha => kit_ty (kit_all a ha n hn)
  simp only [List.mem_cons, List.not_mem_nil, or_false] at hn
  cases k with
  | non => rcases hn with rfl | rfl | rfl | rfl | rfl | rfl <;> exact g "NoneType" (by decide)
  | bl => rcases hn with rfl | rfl | rfl | rfl | rfl | rfl <;> exact g "bool" (by decide)
  | int => rcases hn with rfl | rfl | rfl | rfl | rfl | rfl <;> exact g "int" (by decide)
  | str => rcases hn with rfl | rfl | rfl | rfl | rfl | rfl <;> exact g "str" (by decide)
  | rat => rcases hn with rfl | rfl | rfl | rfl | rfl | rfl <;> exact C.kt _ (by decide)
  | lst => rcases hn with rfl | rfl | rfl | rfl | rfl | rfl <;> exact g "list" (by decide)
  | tup => rcases hn with rfl | rfl | rfl | rfl | rfl | rfl <;> exact g "tuple" (by decide)
  | dic => rcases hn with rfl | rfl | rfl | rfl | rfl | rfl <;> exact g "dict" (by decide)
theorem Kd.kit2 (C : RatC K R) (k : Kd) {n m : String} (hn : n ∈ ["bool", "int", "str", "list", "tuple", "dict"]) (hm : m ∈ ["bool", "int", "str", "list", "tuple", "dict"]) : PySem.W.kitAny K (k.ty R) [.type n, .type m] = some (k.isA n || k.isA m) := by
  refine kitAny_cons (k.kit C hn) (fun e => ?_) (fun e => by rw [e]; rfl)
  rw [e, Bool.false_or]
  refine kitAny_cons (k.kit C hm) (fun e => ?_) (fun e => e)
  rw [e]
  rfl
/-- the reading of isinstance(v, a built-in class) -/
theorem At.isi {Q : VK} (C : RatC K R) (h : At R H v d) {n : String} (hn : n ∈ ["bool", "int", "str", "list", "tuple", "dict"]) (q : Q (.bl (d.kd.isA n)) H) : rIsi K [v, .ty n] H Q :=
  ⟨v, .ty n, _, _, _, rfl, .ty n, h.tyx C, d.kd.kit C hn, q⟩
/-- .. of two classes, the pair of them just laid -/
theorem At.isi2 {Q : VK} (C : RatC K R) (h : At R H v d) {t : Addr} {n m : String} (ht : H t = some (.tup [.ty n, .ty m])) (hn : n ∈ ["bool", "int", "str", "list", "tuple", "dict"]) (hm : m ∈ ["bool", "int", "str", "list", "tuple", "dict"]) (q : Q (.bl (d.kd.isA n || d.kd.isA m)) H) : rIsiT K [v, .ref t] H Q := by
  refine ⟨v, t, _, _, [.type n, .type m], _, rfl, ht, .cons (.ty n) (.cons (.ty m) .nil), h.tyx C, ?_, q⟩
  refine kitAny_cons (d.kd.kit C hn) (fun e => ?_) (fun e => by rw [e]; rfl)
  rw [e, Bool.false_or]
  refine kitAny_cons (d.kd.kit C hm) (fun e => ?_) (fun e => e)
  rw [e]
  rfl
end
end L2
set_option Elab.async false
set_option linter.all false
set_option maxRecDepth 100000
set_option maxHeartbeats 400000

namespace K05
open PySem PySem.Spec PyProof.Rows L2 C8
def top (i : Nat) : Stmt := PySem.Challenge.pw_fairpatch_k05_refused_spaces_and_stores.main.body.getD i (.Pass ⟨0, 0, 0, 0⟩)
abbrev dG (i : Nat) (x : Str) : He.DefD := ⟨(x, none), x, x, defArgs (top i), defBody (top i), defScope (top i), [], []⟩
abbrev dM (i j : Nat) (C x q : Str) : He.DefD := ⟨(C, some x), x, q, defArgs (inClass (top i) j), defBody (inClass (top i) j), defScope (inClass (top i) j), [], []⟩
def barred : List Str := ["and", "by", "call", "choose", "draw", "else", "if", "name", "not", "or", "set", "unit", "while", "yes"]
abbrev e1 (x : Str) (l : List Str) : Str × List Str := (x, l)
/-- the classes of errors, each with its fields -/
def exs : List (Str × List Str) := [e1 "InvalidNumber" ["given"], e1 "InvalidNames" ["given"], e1 "InvalidStore" ["given"], e1 "InvalidValues" ["given"], e1 "InvalidName" ["given"], e1 "ByZero" []]
structure Txt (K : PySem.W.Frag) (mg : Str → Option Value) : Prop where
  f_isinstance : mg "isinstance" = none
  f_int : mg "int" = none
  f_bool : mg "bool" = none
  f_len : mg "len" = none
  f_str : mg "str" = none
  f_all : mg "all" = none
  f_list : mg "list" = none
  f_tuple : mg "tuple" = none
  f_dict : mg "dict" = none
  f_range : mg "range" = none
  f_abs : mg "abs" = none
  f_sum : mg "sum" = none
  f_min : mg "min" = none
  f_max : mg "max" = none
  f_repr : mg "repr" = none
  f_set : mg "set" = none
  f_zip : mg "zip" = none
  c_LONGEST_WORD : ∃ u, mg "LONGEST_WORD" = some u ∧ RelV (.int 8) u
  c_MOST_NAMES : ∃ u, mg "MOST_NAMES" = some u ∧ RelV (.int 3) u
  c_LEAST_SIZE : ∃ u, mg "LEAST_SIZE" = some u ∧ RelV (.int 2) u
  c_GREATEST_SIZE : ∃ u, mg "GREATEST_SIZE" = some u ∧ RelV (.int 6) u
  c_MOST_STORES : ∃ u, mg "MOST_STORES" = some u ∧ RelV (.int 8) u
  c_LETTERS : ∃ u, mg "LETTERS" = some u ∧ RelV (.str "abcdefghijklmnopqrstuvwxyz") u
  c_LANGUAGE_WORDS : ∃ u, mg "LANGUAGE_WORDS" = some u ∧ RelV (.ref (He.ga K "LANGUAGE_WORDS")) u
  c_Space : ∃ u, mg "Space" = some u ∧ RelV (.ref (He.ga K "Space")) u
  c_Ratio : ∃ u, mg "Ratio" = some u ∧ RelV (.ref (He.ga K "Ratio")) u
  c_PatchError : ∃ u, mg "PatchError" = some u ∧ RelV (.ref (He.ga K "PatchError")) u
  c_InvalidNumber : ∃ u, mg "InvalidNumber" = some u ∧ RelV (.ref (He.ga K "InvalidNumber")) u
  c_InvalidNames : ∃ u, mg "InvalidNames" = some u ∧ RelV (.ref (He.ga K "InvalidNames")) u
  c_InvalidStore : ∃ u, mg "InvalidStore" = some u ∧ RelV (.ref (He.ga K "InvalidStore")) u
  c_InvalidValues : ∃ u, mg "InvalidValues" = some u ∧ RelV (.ref (He.ga K "InvalidValues")) u
  c_InvalidName : ∃ u, mg "InvalidName" = some u ∧ RelV (.ref (He.ga K "InvalidName")) u
  c_ByZero : ∃ u, mg "ByZero" = some u ∧ RelV (.ref (He.ga K "ByZero")) u
  t_LW : ∀ H, SqT K H (He.ga K "LANGUAGE_WORDS") (barred.map V.str)
  d_is_whole : ∃ fd, FunD K "is_whole" "is_whole" (defArgs (top 11)) (defBody (top 11)) (defScope (top 11)) [] [] (He.ga K "is_whole") fd
  g_is_whole : mg "is_whole" = some (.ref (He.ga K "is_whole"))
  d_is_whole_from : ∃ fd, FunD K "is_whole_from" "is_whole_from" (defArgs (top 12)) (defBody (top 12)) (defScope (top 12)) [] [] (He.ga K "is_whole_from") fd
  g_is_whole_from : mg "is_whole_from" = some (.ref (He.ga K "is_whole_from"))
  d_is_word : ∃ fd, FunD K "is_word" "is_word" (defArgs (top 21)) (defBody (top 21)) (defScope (top 21)) [] [] (He.ga K "is_word") fd
  g_is_word : mg "is_word" = some (.ref (He.ga K "is_word"))
  d_is_sized_name : ∃ fd, FunD K "is_sized_name" "is_sized_name" (defArgs (top 22)) (defBody (top 22)) (defScope (top 22)) [] [] (He.ga K "is_sized_name") fd
  g_is_sized_name : mg "is_sized_name" = some (.ref (He.ga K "is_sized_name"))
  d_stores_of_sizes : ∃ fd, FunD K "stores_of_sizes" "stores_of_sizes" (defArgs (top 23)) (defBody (top 23)) (defScope (top 23)) [] [] (He.ga K "stores_of_sizes") fd
  g_stores_of_sizes : mg "stores_of_sizes" = some (.ref (He.ga K "stores_of_sizes"))
  d_are_space_names : ∃ fd, FunD K "are_space_names" "are_space_names" (defArgs (top 24)) (defBody (top 24)) (defScope (top 24)) [] [] (He.ga K "are_space_names") fd
  g_are_space_names : mg "are_space_names" = some (.ref (He.ga K "are_space_names"))
  d__law_cell : ∃ fd, FunD K "_law_cell" "_law_cell" (defArgs (top 29)) (defBody (top 29)) (defScope (top 29)) [] [] (He.ga K "_law_cell") fd
  g__law_cell : mg "_law_cell" = some (.ref (He.ga K "_law_cell"))
  d__law_box : ∃ fd, FunD K "_law_box" "_law_box" (defArgs (top 30)) (defBody (top 30)) (defScope (top 30)) [] [] (He.ga K "_law_box") fd
  g__law_box : mg "_law_box" = some (.ref (He.ga K "_law_box"))
  d__law_take : ∃ fd, FunD K "_law_take" "_law_take" (defArgs (top 31)) (defBody (top 31)) (defScope (top 31)) [] [] (He.ga K "_law_take") fd
  g__law_take : mg "_law_take" = some (.ref (He.ga K "_law_take"))
  d__law_barred : ∃ fd, FunD K "_law_barred" "_law_barred" (defArgs (top 32)) (defBody (top 32)) (defScope (top 32)) [] [] (He.ga K "_law_barred") fd
  g__law_barred : mg "_law_barred" = some (.ref (He.ga K "_law_barred"))
  d__law_is_word : ∃ fd, FunD K "_law_is_word" "_law_is_word" (defArgs (top 33)) (defBody (top 33)) (defScope (top 33)) [] [] (He.ga K "_law_is_word") fd
  g__law_is_word : mg "_law_is_word" = some (.ref (He.ga K "_law_is_word"))
  d__law_is_pair : ∃ fd, FunD K "_law_is_pair" "_law_is_pair" (defArgs (top 34)) (defBody (top 34)) (defScope (top 34)) [] [] (He.ga K "_law_is_pair") fd
  g__law_is_pair : mg "_law_is_pair" = some (.ref (He.ga K "_law_is_pair"))
  d__law_are_names : ∃ fd, FunD K "_law_are_names" "_law_are_names" (defArgs (top 35)) (defBody (top 35)) (defScope (top 35)) [] [] (He.ga K "_law_are_names") fd
  g__law_are_names : mg "_law_are_names" = some (.ref (He.ga K "_law_are_names"))
  d__law_string : ∃ fd, FunD K "_law_string" "_law_string" (defArgs (top 36)) (defBody (top 36)) (defScope (top 36)) [] [] (He.ga K "_law_string") fd
  g__law_string : mg "_law_string" = some (.ref (He.ga K "_law_string"))
  d__law_word : ∃ fd, FunD K "_law_word" "_law_word" (defArgs (top 37)) (defBody (top 37)) (defScope (top 37)) [] [] (He.ga K "_law_word") fd
  g__law_word : mg "_law_word" = some (.ref (He.ga K "_law_word"))
  d__law_names : ∃ fd, FunD K "_law_names" "_law_names" (defArgs (top 38)) (defBody (top 38)) (defScope (top 38)) [] [] (He.ga K "_law_names") fd
  g__law_names : mg "_law_names" = some (.ref (He.ga K "_law_names"))
  d__law_odd : ∃ fd, FunD K "_law_odd" "_law_odd" (defArgs (top 39)) (defBody (top 39)) (defScope (top 39)) [] [] (He.ga K "_law_odd") fd
  g__law_odd : mg "_law_odd" = some (.ref (He.ga K "_law_odd"))
  d__law_spoiled : ∃ fd, FunD K "_law_spoiled" "_law_spoiled" (defArgs (top 40)) (defBody (top 40)) (defScope (top 40)) [] [] (He.ga K "_law_spoiled") fd
  g__law_spoiled : mg "_law_spoiled" = some (.ref (He.ga K "_law_spoiled"))
  d__law_are_values : ∃ fd, FunD K "_law_are_values" "_law_are_values" (defArgs (top 41)) (defBody (top 41)) (defScope (top 41)) [] [] (He.ga K "_law_are_values") fd
  g__law_are_values : mg "_law_are_values" = some (.ref (He.ga K "_law_are_values"))
  d__law_same : ∃ fd, FunD K "_law_same" "_law_same" (defArgs (top 42)) (defBody (top 42)) (defScope (top 42)) [] [] (He.ga K "_law_same") fd
  g__law_same : mg "_law_same" = some (.ref (He.ga K "_law_same"))
  d__law_copy : ∃ fd, FunD K "_law_copy" "_law_copy" (defArgs (top 43)) (defBody (top 43)) (defScope (top 43)) [] [] (He.ga K "_law_copy") fd
  g__law_copy : mg "_law_copy" = some (.ref (He.ga K "_law_copy"))
  d__law_met : ∃ fd, FunD K "_law_met" "_law_met" (defArgs (top 44)) (defBody (top 44)) (defScope (top 44)) [] [] (He.ga K "_law_met") fd
  g__law_met : mg "_law_met" = some (.ref (He.ga K "_law_met"))
  d__law_words_right : ∃ fd, FunD K "_law_words_right" "_law_words_right" (defArgs (top 45)) (defBody (top 45)) (defScope (top 45)) [] [] (He.ga K "_law_words_right") fd
  g__law_words_right : mg "_law_words_right" = some (.ref (He.ga K "_law_words_right"))
  d__law_names_right : ∃ fd, FunD K "_law_names_right" "_law_names_right" (defArgs (top 46)) (defBody (top 46)) (defScope (top 46)) [] [] (He.ga K "_law_names_right") fd
  g__law_names_right : mg "_law_names_right" = some (.ref (He.ga K "_law_names_right"))
  d__law_is_odd : ∃ fd, FunD K "_law_is_odd" "_law_is_odd" (defArgs (top 47)) (defBody (top 47)) (defScope (top 47)) [] [] (He.ga K "_law_is_odd") fd
  g__law_is_odd : mg "_law_is_odd" = some (.ref (He.ga K "_law_is_odd"))
  d__law_drawn : ∃ fd, FunD K "_law_drawn" "_law_drawn" (defArgs (top 48)) (defBody (top 48)) (defScope (top 48)) [] [] (He.ga K "_law_drawn") fd
  g__law_drawn : mg "_law_drawn" = some (.ref (He.ga K "_law_drawn"))
  d__law_methods_right : ∃ fd, FunD K "_law_methods_right" "_law_methods_right" (defArgs (top 49)) (defBody (top 49)) (defScope (top 49)) [] [] (He.ga K "_law_methods_right") fd
  g__law_methods_right : mg "_law_methods_right" = some (.ref (He.ga K "_law_methods_right"))
  d__law_values_right : ∃ fd, FunD K "_law_values_right" "_law_values_right" (defArgs (top 50)) (defBody (top 50)) (defScope (top 50)) [] [] (He.ga K "_law_values_right") fd
  g__law_values_right : mg "_law_values_right" = some (.ref (He.ga K "_law_values_right"))
  d__law_right : ∃ fd, FunD K "_law_right" "_law_right" (defArgs (top 51)) (defBody (top 51)) (defScope (top 51)) [] [] (He.ga K "_law_right") fd
  g__law_right : mg "_law_right" = some (.ref (He.ga K "_law_right"))
  d_Space_init : ∃ fd, FunD K "__init__" "Space.__init__" (defArgs (inClass (top 25) 0)) (defBody (inClass (top 25) 0)) (defScope (inClass (top 25) 0)) [] [] (He.ma K (He.ga K "Space") "__init__") fd
  d_Space_contains : ∃ fd, FunD K "__contains__" "Space.__contains__" (defArgs (inClass (top 25) 2)) (defBody (inClass (top 25) 2)) (defScope (inClass (top 25) 2)) [] [] (He.ma K (He.ga K "Space") "__contains__") fd
  d_Space_stores : ∃ fd, FunD K "stores" "Space.stores" (defArgs (inClass (top 25) 4)) (defBody (inClass (top 25) 4)) (defScope (inClass (top 25) 4)) [] [] (He.ma K (He.ga K "Space") "stores") fd
  d_Space_values_of : ∃ fd, FunD K "values_of" "Space.values_of" (defArgs (inClass (top 25) 5)) (defBody (inClass (top 25) 5)) (defScope (inClass (top 25) 5)) [] [] (He.ma K (He.ga K "Space") "values_of") fd
  d_Space_store_of : ∃ fd, FunD K "store_of" "Space.store_of" (defArgs (inClass (top 25) 6)) (defBody (inClass (top 25) 6)) (defScope (inClass (top 25) 6)) [] [] (He.ma K (He.ga K "Space") "store_of") fd
  d_Space_size_of : ∃ fd, FunD K "size_of" "Space.size_of" (defArgs (inClass (top 25) 7)) (defBody (inClass (top 25) 7)) (defScope (inClass (top 25) 7)) [] [] (He.ma K (He.ga K "Space") "size_of") fd
  d_Space_value_of : ∃ fd, FunD K "value_of" "Space.value_of" (defArgs (inClass (top 25) 8)) (defBody (inClass (top 25) 8)) (defScope (inClass (top 25) 8)) [] [] (He.ma K (He.ga K "Space") "value_of") fd
  d_Space_with_value : ∃ fd, FunD K "with_value" "Space.with_value" (defArgs (inClass (top 25) 9)) (defBody (inClass (top 25) 9)) (defScope (inClass (top 25) 9)) [] [] (He.ma K (He.ga K "Space") "with_value") fd
  d_Space_check_store : ∃ fd, FunD K "check_store" "Space.check_store" (defArgs (inClass (top 25) 10)) (defBody (inClass (top 25) 10)) (defScope (inClass (top 25) 10)) [] [] (He.ma K (He.ga K "Space") "check_store") fd
  d_Space_check_name : ∃ fd, FunD K "check_name" "Space.check_name" (defArgs (inClass (top 25) 11)) (defBody (inClass (top 25) 11)) (defScope (inClass (top 25) 11)) [] [] (He.ma K (He.ga K "Space") "check_name") fd
  s_Space_contains : PySem.W.findIn K (.ref (He.ga K "Space")) "__contains__" = some (some (.ref (He.ma K (He.ga K "Space") "__contains__")))
  sf_Space_contains : PySem.W.isFn K (.ref (He.ma K (He.ga K "Space") "__contains__")) = true
  cl_Space : Cls K (He.ga K "Space")
  mk_Space : Mk K (He.ga K "Space") (He.ma K (He.ga K "Space") "__init__")
  g_Space : mg "Space" = some (.ref (He.ga K "Space"))
  n_names : NoAttr K (He.ga K "Space") "names"
  n_never : NoAttr K (He.ga K "Space") "never"
  ac_Space : PySem.W.findIn K (.ref (He.ga K "Space")) "__class__" = some (some (.builtin "object.__class__"))
  ob_Space : PySem.W.mroIn K (He.ga K "Space") (.type "object") = some true
  kc_Space : PySem.W.keepIn K (.ref (He.ga K "Space")) = true
  ks_Space : PySem.W.kitOne K (.ref (He.ga K "Space")) (.ref (He.ga K "Space")) = some true
  nf_Space : PySem.W.notFirst K (He.ga K "Space") (.ref (He.ga K "Space")) = true
  d_Ratio_init : ∃ fd, FunD K "__init__" "Ratio.__init__" (defArgs (inClass (top 27) 0)) (defBody (inClass (top 27) 0)) (defScope (inClass (top 27) 0)) [.int 1] [] (He.ma K (He.ga K "Ratio") "__init__") fd
  d_Ratio_eq : ∃ fd, FunD K "__eq__" "Ratio.__eq__" (defArgs (inClass (top 27) 8)) (defBody (inClass (top 27) 8)) (defScope (inClass (top 27) 8)) [] [] (He.ma K (He.ga K "Ratio") "__eq__") fd
  s_Ratio_eq : PySem.W.findIn K (.ref (He.ga K "Ratio")) "__eq__" = some (some (.ref (He.ma K (He.ga K "Ratio") "__eq__")))
  sf_Ratio_eq : PySem.W.isFn K (.ref (He.ma K (He.ga K "Ratio") "__eq__")) = true
  cl_Ratio : Cls K (He.ga K "Ratio")
  mk_Ratio : Mk K (He.ga K "Ratio") (He.ma K (He.ga K "Ratio") "__init__")
  g_Ratio : mg "Ratio" = some (.ref (He.ga K "Ratio"))
  n_top : NoAttr K (He.ga K "Ratio") "top"
  n_bottom : NoAttr K (He.ga K "Ratio") "bottom"
  ac_Ratio : PySem.W.findIn K (.ref (He.ga K "Ratio")) "__class__" = some (some (.builtin "object.__class__"))
  ob_Ratio : PySem.W.mroIn K (He.ga K "Ratio") (.type "object") = some true
  kc_Ratio : PySem.W.keepIn K (.ref (He.ga K "Ratio")) = true
  ks_Ratio : PySem.W.kitOne K (.ref (He.ga K "Ratio")) (.ref (He.ga K "Ratio")) = some true
  nf_Ratio : PySem.W.notFirst K (He.ga K "Ratio") (.ref (He.ga K "Ratio")) = true
  m_Space_stores : Meth K (He.ga K "Space") "stores" (He.ma K (He.ga K "Space") "stores")
  m_Space_values_of : Meth K (He.ga K "Space") "values_of" (He.ma K (He.ga K "Space") "values_of")
  m_Space_store_of : Meth K (He.ga K "Space") "store_of" (He.ma K (He.ga K "Space") "store_of")
  m_Space_size_of : Meth K (He.ga K "Space") "size_of" (He.ma K (He.ga K "Space") "size_of")
  m_Space_value_of : Meth K (He.ga K "Space") "value_of" (He.ma K (He.ga K "Space") "value_of")
  m_Space_with_value : Meth K (He.ga K "Space") "with_value" (He.ma K (He.ga K "Space") "with_value")
  m_Space_check_store : Meth K (He.ga K "Space") "check_store" (He.ma K (He.ga K "Space") "check_store")
  m_Space_check_name : Meth K (He.ga K "Space") "check_name" (He.ma K (He.ga K "Space") "check_name")
  kt_Ratio : ∀ n : String, n ∈ ["bool", "int", "str", "list", "tuple", "dict"] → PySem.W.kitOne K (.ref (He.ga K "Ratio")) (.type n) = some false
  kr_Ratio : PySem.W.kitOne K (.type "str") (.ref (He.ga K "Ratio")) = some false
  su_Ratio : PySem.W.subIn K (.ref (He.ga K "Ratio")) (.type "str") = some false
  b_gcd : mg "gcd" = some (.builtin "math.gcd")
  cg : PySem.W.specialIn K (.builtin "object.__class__") "__get__" = some (some (.builtin "getset_descriptor.__get__"))
  ct : PySem.W.takesIn K (.builtin "object.__class__") = some true
  pe_cl : (PySem.W.clsIn K (He.ga K "PatchError")).isSome = true
  pe_ty : PySem.W.typeIn K (.ref (He.ga K "PatchError")) = some (.type "type")
  pe_su : PySem.W.subIn K (.ref (He.ga K "PatchError")) (.type "BaseException") = some true
  pe_hd : PySem.W.hasDictIn K (He.ga K "PatchError") = true
  nd : ((("PatchError" : Str) :: exs.map fun e => e.1).map (He.ga K)).Nodup
  ex : ∀ e ∈ exs, exTB K (He.ga K "PatchError") (He.ga K e.1) (He.ma K (He.ga K e.1) "__init__") e.2 = true
  d_InvalidNumber_init : ∃ fd, FunD K "__init__" "InvalidNumber.__init__" (defArgs (inClass (top 4) 0)) (defBody (inClass (top 4) 0)) (defScope (inClass (top 4) 0)) [] [] (He.ma K (He.ga K "InvalidNumber") "__init__") fd
  g_InvalidNumber : mg "InvalidNumber" = some (.ref (He.ga K "InvalidNumber"))
  d_InvalidNames_init : ∃ fd, FunD K "__init__" "InvalidNames.__init__" (defArgs (inClass (top 5) 0)) (defBody (inClass (top 5) 0)) (defScope (inClass (top 5) 0)) [] [] (He.ma K (He.ga K "InvalidNames") "__init__") fd
  g_InvalidNames : mg "InvalidNames" = some (.ref (He.ga K "InvalidNames"))
  d_InvalidStore_init : ∃ fd, FunD K "__init__" "InvalidStore.__init__" (defArgs (inClass (top 6) 0)) (defBody (inClass (top 6) 0)) (defScope (inClass (top 6) 0)) [] [] (He.ma K (He.ga K "InvalidStore") "__init__") fd
  g_InvalidStore : mg "InvalidStore" = some (.ref (He.ga K "InvalidStore"))
  d_InvalidValues_init : ∃ fd, FunD K "__init__" "InvalidValues.__init__" (defArgs (inClass (top 7) 0)) (defBody (inClass (top 7) 0)) (defScope (inClass (top 7) 0)) [] [] (He.ma K (He.ga K "InvalidValues") "__init__") fd
  g_InvalidValues : mg "InvalidValues" = some (.ref (He.ga K "InvalidValues"))
  d_InvalidName_init : ∃ fd, FunD K "__init__" "InvalidName.__init__" (defArgs (inClass (top 8) 0)) (defBody (inClass (top 8) 0)) (defScope (inClass (top 8) 0)) [] [] (He.ma K (He.ga K "InvalidName") "__init__") fd
  g_InvalidName : mg "InvalidName" = some (.ref (He.ga K "InvalidName"))
  d_ByZero_init : ∃ fd, FunD K "__init__" "ByZero.__init__" (defArgs (inClass (top 9) 0)) (defBody (inClass (top 9) 0)) (defScope (inClass (top 9) 0)) [] [] (He.ma K (He.ga K "ByZero") "__init__") fd
  g_ByZero : mg "ByZero" = some (.ref (He.ga K "ByZero"))
  g_PatchError : mg "PatchError" = some (.ref (He.ga K "PatchError"))
/-! ### the heap -/
abbrev Ex := Evl.Ex
/-- the box at b: four items; at most c draws so far -/
def Box (H : Hp) (b : Addr) (c : Nat) : Prop := ∃ (g : Int) (f : Bool) (s k : Int), H b = some (.lst [.int g, .bl f, .int s, .int k]) ∧ 0 ≤ g ∧ 0 ≤ s ∧ s < 2147483648 ∧ 0 ≤ k ∧ k ≤ (c : Int)
/-- all that Hb knows stands; the box at b besides -/
structure Wd (Hb H : Hp) (b : Addr) (c : Nat) : Prop where
  ex : Ex Hb H
  nb : Hb b = none
  box : Box H b c
theorem Wd.mono {Hb H : Hp} {b : Addr} {c d : Nat} (W : Wd Hb H b c) (h : c ≤ d) : Wd Hb H b d := by
  obtain ⟨e, n, g, f, s, k, h1, h2, h3, h4, h5, h6⟩ := W
  exact ⟨e, n, g, f, s, k, h1, h2, h3, h4, h5, by omega⟩
theorem Wd.ne {Hb H : Hp} {b p : Addr} {c : Nat} (W : Wd Hb H b c) (h : H p = none) : p ≠ b := by
  obtain ⟨e, n, g, f, s, k, h1, _⟩ := W
  intro z
  rw [z, h1] at h
  cases h
theorem Wd.free {Hb H : Hp} {b p : Addr} {c : Nat} (W : Wd Hb H b c) (h : H p = none) : Hb p = none := by
  cases q : Hb p with
  | none => rfl
  | some o =>
    rw [W.ex p o q] at h
    cases h
/-- a new object, from now on known -/
theorem Wd.new {Hb H : Hp} {b p : Addr} {c : Nat} {o : HO} (W : Wd Hb H b c) (h : H p = none) : Wd (upd Hb p o) (upd H p o) b c := by
  have nb := W.ne h
  obtain ⟨e, n, g, f, s, k, h1, h2, h3, h4, h5, h6⟩ := id W
  refine ⟨fun a u q => ?_, ?_, g, f, s, k, ?_, h2, h3, h4, h5, h6⟩
  · by_cases z : a = p
    · rw [z, upd_same] at q ⊢
      exact q
    · rw [upd_ne z] at q ⊢
      exact e a u q
  · rw [upd_ne nb.symm]; exact n
  · rw [upd_ne nb.symm]; exact h1
/-- a new object, not known -/
theorem Wd.skip {Hb H : Hp} {b p : Addr} {c : Nat} {o : HO} (W : Wd Hb H b c) (h : H p = none) : Wd Hb (upd H p o) b c := by
  have nb := W.ne h
  obtain ⟨e, n, g, f, s, k, h1, h2, h3, h4, h5, h6⟩ := id W
  exact ⟨e.trans (Evl.Ex.new h), n, g, f, s, k, by rw [upd_ne nb.symm]; exact h1, h2, h3, h4, h5, h6⟩
/-- an object that Hb does not know, and that is not the box, changes -/
theorem Wd.chg {Hb H : Hp} {b p : Addr} {c : Nat} {o : HO} (W : Wd Hb H b c) (h : Hb p = none) (nb : p ≠ b) : Wd Hb (upd H p o) b c := by
  obtain ⟨e, n, g, f, s, k, h1, h2, h3, h4, h5, h6⟩ := id W
  exact ⟨Evl.Ex.mut e h, n, g, f, s, k, by rw [upd_ne nb.symm]; exact h1, h2, h3, h4, h5, h6⟩
/-- one more object of H is known -/
theorem Wd.know {Hb H : Hp} {b p : Addr} {c : Nat} {o : HO} (W : Wd Hb H b c) (h : H p = some o) (nb : p ≠ b) : Wd (upd Hb p o) H b c := by
  obtain ⟨e, n, g, f, s, k, h1, h2, h3, h4, h5, h6⟩ := id W
  refine ⟨fun a u q => ?_, by rw [upd_ne nb.symm]; exact n, g, f, s, k, h1, h2, h3, h4, h5, h6⟩
  by_cases z : a = p
  · rw [z, upd_same] at q
    rw [z, h]; exact q
  · rw [upd_ne z] at q
    exact e a u q
theorem Wd.grow {Hb H H' : Hp} {b : Addr} {c : Nat} (W : Wd Hb H b c) (e : Ex H H') : Wd Hb H' b c := by
  obtain ⟨e0, n, g, f, s, k, h1, h2, h3, h4, h5, h6⟩ := id W
  exact ⟨e0.trans e, n, g, f, s, k, e _ _ h1, h2, h3, h4, h5, h6⟩
theorem Wd.less {Hb Hb' H : Hp} {b : Addr} {c : Nat} (W : Wd Hb H b c) (e : Ex Hb' Hb) : Wd Hb' H b c := by
  refine ⟨e.trans W.ex, ?_, W.box⟩
  cases q : Hb' b with
  | none => rfl
  | some o =>
    have z := e b o q
    rw [W.nb] at z
    cases z
theorem Txt.rc {K : PySem.W.Frag} {mg : Str → Option Value} (T : Txt K mg) : RatC K (He.ga K "Ratio") := ⟨T.cl_Ratio, T.ac_Ratio, T.cg, T.ct, T.ob_Ratio, T.kt_Ratio⟩
/-- a thing of the program -/
abbrev AtK5 (K : PySem.W.Frag) := At (He.ga K "Ratio")
section
variable {P : Program} {w : World} {K : PySem.W.Frag} {mg : Str → Option Value} {base : Heap}
abbrev N_is_whole : List Str := ["value"]
theorem sc_is_whole : FnScope N_is_whole ["value"] (defScope (top 11)) := ⟨rfl, rfl, rfl, by decide +kernel, rfl, by decide +kernel, by decide +kernel⟩
/-- the whole number that a thing is -/
def wholeB : Th → Bool
  | .int _ => true
  | _ => false
def spWhole (K : PySem.W.Frag) : Sp := fun vs H Q _ => ∃ (v : V) (d : Th), vs = [v] ∧ AtK5 K H v d ∧ Q (.bl (wholeB d)) H
theorem ok_is_whole (T : Txt K mg)  : Cal P w K mg base 1 "is_whole" (spWhole K) [] := by
  obtain ⟨fd, F⟩ := T.d_is_whole
  refine ⟨_, fd, ["value"], [], ?_, T.g_is_whole, F.kp, F.bindsN fun _ _ _ _ _ _ us hl => match us, hl with | [_], _ => rfl, .nil⟩
  refine F.ok sc_is_whole (fun vs H Q E h => by obtain ⟨_, _, rfl, _⟩ := h; rfl) (fun cdv A outer s H vs Q E hr h => ?_)
  have hu := hu_of hr
  refine ⟨_, PSs.nox (pss_one (ps_ret (pe_and (pe_callB call_isi (by rfl) T.f_isinstance (by decide +kernel) (pa_cons (pv 0) (pa_cons (pe_bltn (v := .ty "int") (u := .type "int") (by rfl) T.f_int (by decide +kernel) rfl) pa_nil))) (pe_one (pe_not (pe_callB call_isi (by rfl) T.f_isinstance (by decide +kernel) (pa_cons (pv 0) (pa_cons (pe_bltn (v := .ty "bool") (u := .type "bool") (by rfl) T.f_bool (by decide +kernel) rfl) pa_nil)))))))), ?_⟩
  obtain ⟨v, d, rfl, hv, hQ⟩ := h
  refine ⟨_, rfl, _, _, _, _, _, rfl, .ty _, At.tyx T.rc hv, Kd.kit T.rc _ (by decide), _, rfl, ?_⟩
  cases d with
  | int i => exact iteTo rfl ⟨_, rfl, _, _, _, _, _, rfl, .ty _, At.tyx T.rc hv, Kd.kit T.rc _ (by decide), _, rfl, hQ⟩
  | bl b => exact iteTo rfl ⟨_, rfl, _, _, _, _, _, rfl, .ty _, At.tyx T.rc hv, Kd.kit T.rc _ (by decide), _, rfl, hQ⟩
  | non => exact iteFo rfl hQ
  | str x => exact iteFo rfl hQ
  | rat i => exact iteFo rfl hQ
  | lst l => exact iteFo rfl hQ
  | tup l => exact iteFo rfl hQ
  | dic l => exact iteFo rfl hQ

end
end K05
namespace K05
open PySem PySem.Spec PyProof.Rows L2
/-! ### the head -/
def fa0 : List He.Fa := [.free "isinstance", .free "int", .free "bool", .free "len", .free "str", .free "all", .free "list", .free "tuple", .free "dict", .free "range", .free "abs", .free "sum", .free "min", .free "max", .free "repr", .free "set", .free "zip", .int "LONGEST_WORD" 8, .int "MOST_NAMES" 3, .int "LEAST_SIZE" 2, .int "GREATEST_SIZE" 6, .int "MOST_STORES" 8, .str "LETTERS" "abcdefghijklmnopqrstuvwxyz", .glo "LANGUAGE_WORDS", .glo "Space", .glo "Ratio", .glo "PatchError", .glo "InvalidNumber", .glo "InvalidNames", .glo "InvalidStore", .glo "InvalidValues", .glo "InvalidName", .glo "ByZero", .glo "is_whole", .glo "is_whole_from", .glo "is_word", .glo "is_sized_name", .glo "stores_of_sizes", .glo "are_space_names", .glo "_law_cell", .glo "_law_box", .glo "_law_take", .glo "_law_barred", .glo "_law_is_word", .glo "_law_is_pair", .glo "_law_are_names", .glo "_law_string", .glo "_law_word", .glo "_law_names", .glo "_law_odd", .glo "_law_spoiled", .glo "_law_are_values", .glo "_law_same", .glo "_law_copy", .glo "_law_met", .glo "_law_words_right", .glo "_law_names_right", .glo "_law_is_odd", .glo "_law_drawn", .glo "_law_methods_right", .glo "_law_values_right", .glo "_law_right", .meth "Space" "stores", .meth "Space" "values_of", .meth "Space" "store_of", .meth "Space" "size_of", .meth "Space" "value_of", .meth "Space" "with_value", .meth "Space" "check_store", .meth "Space" "check_name", .cls "Space", .mkr "Space", .noat "Space" "names", .noat "Space" "never", .cls "Ratio", .mkr "Ratio", .noat "Ratio" "top", .noat "Ratio" "bottom", .glo "law"]
def fn0 : List He.DefD := [dG 11 "is_whole", dG 12 "is_whole_from", dG 21 "is_word", dG 22 "is_sized_name", dG 23 "stores_of_sizes", dG 24 "are_space_names", dG 29 "_law_cell", dG 30 "_law_box", dG 31 "_law_take", dG 32 "_law_barred", dG 33 "_law_is_word", dG 34 "_law_is_pair", dG 35 "_law_are_names", dG 36 "_law_string", dG 37 "_law_word", dG 38 "_law_names", dG 39 "_law_odd", dG 40 "_law_spoiled", dG 41 "_law_are_values", dG 42 "_law_same", dG 43 "_law_copy", dG 44 "_law_met", dG 45 "_law_words_right", dG 46 "_law_names_right"]
def fn1 : List He.DefD := [dG 47 "_law_is_odd", dG 48 "_law_drawn", dG 49 "_law_methods_right", dG 50 "_law_values_right", dG 51 "_law_right", dM 25 0 "Space" "__init__" "Space.__init__", dM 25 2 "Space" "__contains__" "Space.__contains__", dM 25 4 "Space" "stores" "Space.stores", dM 25 5 "Space" "values_of" "Space.values_of", dM 25 6 "Space" "store_of" "Space.store_of", dM 25 7 "Space" "size_of" "Space.size_of", dM 25 8 "Space" "value_of" "Space.value_of", dM 25 9 "Space" "with_value" "Space.with_value", dM 25 10 "Space" "check_store" "Space.check_store", dM 25 11 "Space" "check_name" "Space.check_name", ⟨("Ratio", some "__init__"), "__init__", "Ratio.__init__", defArgs (inClass (top 27) 0), defBody (inClass (top 27) 0), defScope (inClass (top 27) 0), [.int 1], []⟩, dM 27 8 "Ratio" "__eq__" "Ratio.__eq__", dM 4 0 "InvalidNumber" "__init__" "InvalidNumber.__init__", dM 5 0 "InvalidNames" "__init__" "InvalidNames.__init__", dM 6 0 "InvalidStore" "__init__" "InvalidStore.__init__", dM 7 0 "InvalidValues" "__init__" "InvalidValues.__init__", dM 8 0 "InvalidName" "__init__" "InvalidName.__init__", dM 9 0 "ByZero" "__init__" "ByZero.__init__", dG 52 "law"]
def fa : List He.Fa := fa0
def fn : List He.DefD := fn0 ++ (fn1)
def exA (K : PySem.W.Frag) : List Bool := [He.tupB K "LANGUAGE_WORDS" (barred.map He.Dv.str),
  He.eqO (PySem.W.findIn K (.ref (He.ga K "Space")) "__contains__") (some (some (.ref (He.ma K (He.ga K "Space") "__contains__")))),
  PySem.W.isFn K (.ref (He.ma K (He.ga K "Space") "__contains__")),
  He.eqO (PySem.W.findIn K (.ref (He.ga K "Space")) "__class__") (some (some (.builtin "object.__class__"))),
  decide (PySem.W.mroIn K (He.ga K "Space") (.type "object") = some true),
  PySem.W.keepIn K (.ref (He.ga K "Space")),
  decide (PySem.W.kitOne K (.ref (He.ga K "Space")) (.ref (He.ga K "Space")) = some true),
  PySem.W.notFirst K (He.ga K "Space") (.ref (He.ga K "Space")),
  He.eqO (PySem.W.findIn K (.ref (He.ga K "Ratio")) "__eq__") (some (some (.ref (He.ma K (He.ga K "Ratio") "__eq__")))),
  PySem.W.isFn K (.ref (He.ma K (He.ga K "Ratio") "__eq__")),
  He.eqO (PySem.W.findIn K (.ref (He.ga K "Ratio")) "__class__") (some (some (.builtin "object.__class__"))),
  decide (PySem.W.mroIn K (He.ga K "Ratio") (.type "object") = some true),
  PySem.W.keepIn K (.ref (He.ga K "Ratio")),
  decide (PySem.W.kitOne K (.ref (He.ga K "Ratio")) (.ref (He.ga K "Ratio")) = some true),
  PySem.W.notFirst K (He.ga K "Ratio") (.ref (He.ga K "Ratio")),
  He.eqO (PySem.W.nsIn K mainGlobals "gcd") (some (some (.builtin "math.gcd"))),
  decide (PySem.W.specialIn K (.builtin "object.__class__") "__get__" = some (some (.builtin "getset_descriptor.__get__"))),
  decide (PySem.W.takesIn K (.builtin "object.__class__") = some true),
  (PySem.W.clsIn K (He.ga K "PatchError")).isSome,
  decide (PySem.W.typeIn K (.ref (He.ga K "PatchError")) = some (.type "type")),
  decide (PySem.W.subIn K (.ref (He.ga K "PatchError")) (.type "BaseException") = some true),
  PySem.W.hasDictIn K (He.ga K "PatchError"),
  decide (((("PatchError" : Str) :: exs.map fun e => e.1).map (He.ga K)).Nodup),
  (["bool", "int", "str", "list", "tuple", "dict"] : List String).all fun n => decide (PySem.W.kitOne K (.ref (He.ga K "Ratio")) (.type n) = some false),
  decide (PySem.W.kitOne K (.type "str") (.ref (He.ga K "Ratio")) = some false),
  decide (PySem.W.subIn K (.ref (He.ga K "Ratio")) (.type "str") = some false)]
def exK (K : PySem.W.Frag) : Bool := exs.all fun e => exTB K (He.ga K "PatchError") (He.ga K e.1) (He.ma K (He.ga K e.1) "__init__") e.2
def exL (K : PySem.W.Frag) : List Bool := exA K ++ [exK K]
def exB (K : PySem.W.Frag) : Bool := (exL K).all id
theorem exs_ {K : PySem.W.Frag} (h : exB K = true) (i : Nat) {b : Bool} (e : (exL K)[i]? = some b) : b = true := by
  have := List.all_eq_true.mp h b (List.mem_of_getElem? e)
  exact this
abbrev R : PySem.W.OpenRow := PySem.W.OpenLaw.row PySem.Challenge.rw_fairpatch_k05_refused_spaces_and_stores
def names : List Str := (["_wall", "__name__", "PatchError", "InvalidNumber", "InvalidNames", "InvalidStore", "InvalidValues", "InvalidName", "ByZero", "is_whole", "is_whole_from", "LETTERS", "LONGEST_WORD", "LANGUAGE_WORDS", "MOST_NAMES", "LEAST_SIZE", "GREATEST_SIZE", "MOST_STORES", "is_word", "is_sized_name"] : List Str) ++ (["stores_of_sizes", "are_space_names", "Space", "Ratio", "_law_cell", "_law_box", "_law_take", "_law_barred", "_law_is_word", "_law_is_pair", "_law_are_names", "_law_string", "_law_word", "_law_names", "_law_odd", "_law_spoiled", "_law_are_values", "_law_same", "_law_copy", "_law_met"] : List Str) ++ (["_law_words_right", "_law_names_right", "_law_is_odd", "_law_drawn", "_law_methods_right", "_law_values_right", "_law_right"] : List Str)
/-- what an object leads to: of a class its names only -/
def rf (o : Obj) : List Addr := match o.data with
  | .seq its _ => its.toList.flatMap He.refV
  | .dict es _ => es.toList.flatMap fun e => He.refV e.val
  | .func fd => He.refV fd.code ++ (He.refV fd.defaults ++ He.refV fd.kwdefaults)
  | .cls cd => [cd.ns]
  | _ => []
/-- what the globals reach in n steps, step by step; nothing is struck out -/
def ft (g : Addr → Option Obj) : Nat → List Addr → List Addr
  | 0, as => as
  | n + 1, as => as ++ ft g n (as.flatMap fun a => match g a with
    | some o => rf o
    | none => [])
def obK (g : Addr → Option Obj) : He.AlX := (He.obsT fa fn [] (He.frT g (ft g 5 [mainGlobals])), exB (He.frT g (ft g 5 [mainGlobals])))
def hk : PySem.W.Hook where
  α := He.AlX
  obs := fun s => obK s.heap.get?
  val := fun w => (He.valT fn [] w, true)
  says := fun w h => ∃ K : PySem.W.Frag, K.In h ∧ He.SaysX fa fn [] [] exB w h K
  of := fun _ _ e => ⟨_, He.frT_in, ⟨congrArg (fun z : He.AlX => z.1) e, congrArg (fun z : He.AlX => z.2) e, (fun p hp => by cases hp), (fun p hp => by cases hp), (fun p hp => by cases hp)⟩⟩
  keeps := fun _ _ _ ⟨K, hK, c⟩ k => ⟨K, PySem.W.Frag.In.keeps hK k, ⟨c.t, c.more, c.hd, c.out, fun p hp => k _ _ (c.empty p hp)⟩⟩
def ob (s : PySem.W.SharedT) : He.AlX := obK (HandSHeadRun.getT s)
theorem ob_eq (s : PySem.W.SharedT) : ob s = hk.obs s.abs := by
  have e : HandSHeadRun.getT s = s.abs.heap.get? := funext (HandSHeadRun.getT_eq s)
  show obK (HandSHeadRun.getT s) = obK s.abs.heap.get?
  rw [e]
abbrev Kx (x : PySem.Shared × PySem.W.SharedT) : PySem.W.Frag := He.frT (HandSHeadRun.getT x.2) (ft (HandSHeadRun.getT x.2) 5 [mainGlobals])
noncomputable abbrev An (w : World) : Option (PySem.Shared × PySem.W.SharedT) := HandSHeadRun.wholeF (fun p => HandSHeadRun.stepQ (HandSHeadRun.denQ HandSHeadRun.tabQ) p w) HandSHeadRun.fenceQ 16000 R.prog
/-- the run ends in one state, that keeps P -/
def Ev {α : Type} (a : Option α) (P : α → Prop) : Prop := ∃ x, a = some x ∧ P x
theorem Ev.of {α β : Type} {a : Option α} {f : α → β} {v : β} (h : a.map f = some v) : Ev a fun x => f x = v := by
  obtain ⟨x, e, q⟩ := Option.map_eq_some_iff.mp h
  exact ⟨x, e, q⟩
theorem Ev.and {α : Type} {a : Option α} {P Q : α → Prop} (h : Ev a P) (h2 : Ev a Q) : Ev a fun x => P x ∧ Q x := by
  obtain ⟨x, e, p⟩ := h
  obtain ⟨y, e2, q⟩ := h2
  rw [e] at e2
  cases e2
  exact ⟨x, e, p, q⟩
theorem Ev.to {α β : Type} {a : Option α} {f : α → β} {v : β} (h : Ev a fun x => f x = v) : a.map f = some v := by
  obtain ⟨x, e, q⟩ := h
  rw [e]
  exact congrArg some q
theorem run0 (w : World) : (An w).map (fun x => (HandSHeadRun.looksF R.prog x.1.heap x.2.abs, HandSHeadRun.seenQ (PySem.W.view R.prog [0, 52]) names (importedModules R.prog.main.body) (fun s => PySem.W.xlAt (PySem.W.view R.prog [0, 52]) [] s && PySem.W.recOk R.toRowW.records s) x.2.abs)) = some (true, PySem.W.openGood (PySem.W.view R.prog [0, 52]) names) := by
  kernel_rfl
theorem runA0 (w : World) : (An w).map (fun x => fa0.all fun f => f.ok (Kx x)) = some true := by
  kernel_rfl
theorem runF0 (w : World) : (An w).map (fun x => (fn0.all fun d => d.ok (Kx x), fn0.map fun d => He.fnW (Kx x) d.at_)) = some (true, fn0.map He.DefD.val) := by
  kernel_rfl
theorem runF1 (w : World) : (An w).map (fun x => (fn1.all fun d => d.ok (Kx x), fn1.map fun d => He.fnW (Kx x) d.at_)) = some (true, fn1.map He.DefD.val) := by
  kernel_rfl
theorem runE (w : World) : (An w).map (fun x => (exA (Kx x)).all id) = some true := by
  kernel_rfl
theorem runK (w : World) : (An w).map (fun x => exK (Kx x)) = some true := by
  kernel_rfl
theorem fa_all {K : PySem.W.Frag} (h0 : (fa0.all fun f => f.ok K) = true) : (fa.all fun f => f.ok K) = true := by
  unfold fa
  exact h0
theorem fn_all_ {K : PySem.W.Frag} (h0 : (fn0.all fun f => f.ok K) = true) (h1 : (fn1.all fun f => f.ok K) = true) : (fn.all fun f => f.ok K) = true := by
  unfold fn
  simp only [List.all_append, h0, h1, Bool.and_self]
theorem fn_map_ {K : PySem.W.Frag} (h0 : (fn0.map fun d => He.fnW K d.at_) = fn0.map He.DefD.val) (h1 : (fn1.map fun d => He.fnW K d.at_) = fn1.map He.DefD.val) : (fn.map fun d => He.fnW K d.at_) = fn.map He.DefD.val := by
  unfold fn
  simp only [List.map_append, h0, h1]
theorem exB_of {K : PySem.W.Frag} (h1 : (exA K).all id = true) (h2 : exK K = true) : exB K = true := by
  unfold exB exL
  rw [List.all_append, h1, List.all_cons, List.all_nil]
  show (true && (exK K && true)) = true
  rw [h2]
  rfl
theorem ob_of {x : PySem.Shared × PySem.W.SharedT} {w : World} (h1 : (fa.all fun f => f.ok (Kx x)) = true) (h2 : (fn.all fun f => f.ok (Kx x)) = true) (h3 : (fn.map fun d => He.fnW (Kx x) d.at_) = fn.map He.DefD.val) (h4 : exB (Kx x) = true) : ob x.2 = hk.val w := by
  show ((((fa.all fun f => f.ok (Kx x)) && fn.all fun d => d.ok (Kx x), fn.map fun d => He.fnW (Kx x) d.at_), ([] : List (Option (List (Option (Str × Int)))))), exB (Kx x)) = (((true, fn.map He.DefD.val), []), true)
  rw [h1, h2, h3, h4]
  rfl
theorem run (w : World) : HandSHeadRun.RunEqI R (PySem.W.view R.prog [0, 52]) hk ob 16000 names w := by
  unfold HandSHeadRun.RunEqI
  have e := (((((Ev.of (run0 w)).and (Ev.of (runA0 w))).and (Ev.of (runF0 w))).and (Ev.of (runF1 w))).and (Ev.of (runE w))).and (Ev.of (runK w))
  refine Ev.to (a := An w) ?_
  obtain ⟨x, ex, ⟨⟨⟨⟨⟨h0, hA0⟩, hF0⟩, hF1⟩, hE⟩, hK⟩⟩ := e
  refine ⟨x, ex, ?_⟩
  have c0 := Prod.mk.inj h0
  have cF0 := Prod.mk.inj hF0
  have cF1 := Prod.mk.inj hF1
  exact Prod.ext c0.1 (Prod.ext c0.2 (ob_of (fa_all hA0) (fn_all_ cF0.1 cF1.1) (fn_map_ cF0.2 cF1.2) (exB_of hE hK)))
end K05
namespace K05
open PySem PySem.Spec PyProof.Rows L2 C8

/-! ### data -/
mutual
theorem Dp.mono {K : PySem.W.Frag} {H H' : Hp} (e : Evl.Ex H H') : ∀ (d : PyData) (v : V), Dp K H v d → Dp K H' v d
  | .none, _, h => by cases h; exact .non
  | .bool b, _, h => by cases h; exact .bl b
  | .int i, _, h => by cases h; exact .int i
  | .str x, _, h => by cases h; exact .str x
  | .list ds, _, h => by
    cases h with
    | lst h1 h2 => exact .lst (Evl.ex_l e h1) (DpAll.mono e ds _ h2)
  | .tuple ds, _, h => by
    cases h with
    | tup h1 h2 => exact .tup (Evl.ex_t e h1) (DpAll.mono e ds _ h2)
  | .dict kvs, _, h => by cases h
theorem DpAll.mono {K : PySem.W.Frag} {H H' : Hp} (e : Evl.Ex H H') : ∀ (ds : List PyData) (vs : List V), DpAll K H vs ds → DpAll K H' vs ds
  | [], _, h => by cases h; exact .nil
  | d :: ds, _, h => by
    cases h with
    | cons h1 h2 => exact .cons (Dp.mono e d _ h1) (DpAll.mono e ds _ h2)
end
def DV (K : PySem.W.Frag) (H : Hp) (v : V) : Prop := ∃ d, Dp K H v d ∧ d.canLay0 = true ∧ d.depth ≤ 10
theorem DV.mono {K : PySem.W.Frag} {H H' : Hp} {v : V} (e : Evl.Ex H H') (h : DV K H v) : DV K H' v := by
  obtain ⟨d, h1, h2, h3⟩ := h
  exact ⟨d, Dp.mono e d v h1, h2, h3⟩
theorem DV.int {K : PySem.W.Frag} {H : Hp} (i : Int) : DV K H (.int i) := ⟨.int i, .int i, by simp [PyData.canLay0], by simp [PyData.depth]⟩
theorem DV.all {K : PySem.W.Frag} {H : Hp} : ∀ {vs : List V}, (∀ v ∈ vs, DV K H v) → ∃ ds, DpAll K H vs ds ∧ PyData.canLayAll0 ds = true ∧ PyData.depthAll ds ≤ 10 ∧ ds.length = vs.length
  | [], _ => ⟨[], .nil, by simp [PyData.canLayAll0], by simp [PyData.depthAll], rfl⟩
  | v :: vs, h => by
    obtain ⟨d, h1, h2, h3⟩ := h v (List.mem_cons_self ..)
    obtain ⟨ds, g1, g2, g3, g4⟩ := DV.all (vs := vs) fun u hu => h u (List.mem_cons_of_mem _ hu)
    exact ⟨d :: ds, .cons h1 g1, by simp [PyData.canLayAll0, h2, g2], by simp only [PyData.depthAll]; omega, by simp [g4]⟩
theorem shaped_list {ds : List PyData} (h1 : PyData.canLayAll0 ds = true) (h2 : PyData.depthAll ds ≤ 60) : SeqAt.shaped (.list ds) = true := by
  simp only [SeqAt.shaped, PyData.canLay0, PyData.depth, h1, Bool.true_and]
  exact decide_eq_true (by omega)
theorem shaped_tuple {ds : List PyData} (h1 : PyData.canLayAll0 ds = true) (h2 : PyData.depthAll ds ≤ 60) : SeqAt.shaped (.tuple ds) = true := by
  simp only [SeqAt.shaped, PyData.canLay0, PyData.depth, h1, Bool.true_and]
  exact decide_eq_true (by omega)
theorem eqv_empty (ds : List PyData) : PyData.eqv (.list ds) (.list []) = ds.isEmpty := by
  cases ds <;> simp [PyData.eqv, PyData.eqvAll]
theorem seqIndex_nat {i n : Nat} (h : i < n) : seqIndex? (i : Int) n = some i := by
  unfold seqIndex?
  have h1 : ¬ ((i : Int) < 0) := by omega
  have h2 : (0 : Int) ≤ i := by omega
  have h3 : (i : Int) < n := by omega
  simp [h1, h2, h3, h]
theorem perm_erase {xs fs ls : List V} {k : Nat} {y : V} (h : (fs ++ ls).Perm xs) (hy : ls[k]? = some y) : ((fs ++ [y]) ++ ls.eraseIdx k).Perm xs := by
  refine List.Perm.trans ?_ h
  rw [List.append_assoc]
  refine List.Perm.append_left fs ?_
  have hk : k < ls.length := (List.getElem?_eq_some_iff.mp hy).1
  have e : ls[k] = y := (List.getElem?_eq_some_iff.mp hy).2
  rw [List.eraseIdx_eq_take_drop_succ]
  have p : ls = ls.take k ++ y :: ls.drop (k + 1) := by
    rw [← e, ← List.drop_eq_getElem_cons hk, List.take_append_drop]
  refine List.Perm.trans ?_ (List.Perm.of_eq p.symm)
  show (y :: (ls.take k ++ ls.drop (k + 1))).Perm _
  exact List.perm_middle.symm
section
variable {P : Program} {w : World} {K : PySem.W.Frag} {mg : Str → Option Value} {base : Heap}

end
end K05
namespace K05
open PySem PySem.Spec PyProof.Rows L2 C8

/-! ### texts of small letters -/
def S (l : List Nat) : Str := ⟨l.toArray⟩
theorem S_list (z : Str) : S z.cps.toList = z := by cases z; rfl
theorem S_inj {a b : List Nat} (h : S a = S b) : a = b := by
  have q := congrArg (fun z : Str => z.cps.toList) h
  simpa [S] using q
theorem S_toList (l : List Nat) : (S l).cps.toList = l := by simp [S]
theorem S_len (l : List Nat) : (S l).length = l.length := by simp [S, Str.length]
theorem S_app (a b : List Nat) : S a ++ S b = S (a ++ b) := by
  show Str.mk (a.toArray ++ b.toArray) = _
  simp [S]
theorem join_S : ∀ cs : List Nat, Txt.join (Str.ofString "") (cs.map fun c => (⟨#[c]⟩ : Str)) = S cs := by
  intro cs
  rw [show Txt.join (Str.ofString "") (cs.map fun c => (⟨#[c]⟩ : Str)) = Str.join (Str.ofString "") (cs.map fun c => (⟨#[c]⟩ : Str)) from StrLaws.glued_eq_join _ _]
  induction cs with
  | nil => rfl
  | cons c r ih =>
    cases r with
    | nil => rfl
    | cons d r =>
      have e : Str.join (Str.ofString "") (((c :: d :: r)).map fun c => (⟨#[c]⟩ : Str)) = (⟨#[c]⟩ : Str) ++ Str.ofString "" ++ Str.join (Str.ofString "") ((d :: r).map fun c => (⟨#[c]⟩ : Str)) := rfl
      rw [e, ih]
      have e2 : (⟨#[c]⟩ : Str) ++ Str.ofString "" = S [c] := by
        show Str.mk (#[c] ++ (Str.ofString "").cps) = _
        rfl
      rw [e2, S_app]
      rfl
def Low (l : List Nat) : Prop := ∀ c ∈ l, 97 ≤ c ∧ c < 123
abbrev alpha : Str := "abcdefghijklmnopqrstuvwxyz"
theorem alpha_list : alpha.cps.toList = (List.range 26).map (· + 97) := by decide +kernel
theorem alpha_at {r : Int} (h0 : 0 ≤ r) (h1 : r < 26) : atI alpha.cps.toList r = some (r.toNat + 97) := by
  obtain ⟨k, rfl⟩ : ∃ k : Nat, r = (k : Int) := ⟨r.toNat, by omega⟩
  refine atI_nat ?_
  rw [alpha_list, List.getElem?_map, List.getElem?_range (by omega)]
  rfl
theorem alpha_index {c : Nat} (h : 97 ≤ c ∧ c < 123) : ∃ rest, Builtin.Str.occurrences alpha ⟨#[c]⟩ 0 alpha.length 1 = (c - 97) :: rest := by
  have key : ∀ k, k < 26 → Builtin.Str.occurrences alpha ⟨#[k + 97]⟩ 0 alpha.length 1 = [k] := by decide +kernel
  have e := key (c - 97) (by omega)
  have ec : c - 97 + 97 = c := by omega
  rw [ec] at e
  exact ⟨[], e⟩
/-- the language's words -/
def isBar (z : Str) : Bool := barred.contains z
def freeL (l : List Nat) : List Nat := if isBar (S l) then l ++ [120] else l
theorem bar_facts {z : Str} (h : isBar z = true) : z.cps.toList.length ≤ 6 ∧ z.cps.toList.getLast? ≠ some 120 := by
  have key : ∀ b ∈ barred, b.cps.toList.length ≤ 6 ∧ b.cps.toList.getLast? ≠ some 120 := by decide +kernel
  exact key z (by simpa [isBar] using h)
theorem freeL_bar (l : List Nat) : isBar (S (freeL l)) = false := by
  unfold freeL
  cases e : isBar (S l) with
  | false => simp [e]
  | true =>
    rw [if_pos rfl]
    cases e2 : isBar (S (l ++ [120])) with
    | false => rfl
    | true =>
      have q := (bar_facts e2).2
      rw [S_toList] at q
      simp at q
theorem freeL_low {l : List Nat} (h : Low l) : Low (freeL l) := by
  unfold freeL
  split
  · intro c hc
    rcases List.mem_append.mp hc with hc | hc
    · exact h c hc
    · have : c = 120 := by simpa using hc
      omega
  · exact h
theorem freeL_len (l : List Nat) : l.length ≤ (freeL l).length ∧ ((freeL l).length ≤ l.length ∨ (freeL l).length ≤ 7) := by
  unfold freeL
  split
  · rename_i h
    have q := (bar_facts h).1
    rw [S_toList] at q
    rw [List.length_append]
    simp only [List.length_singleton]
    omega
  · omega
theorem freeL_get {l : List Nat} {i : Nat} (h : i < l.length) : (freeL l)[i]? = l[i]? := by
  unfold freeL
  split
  · rw [List.getElem?_append_left h]
  · rfl
structure WordOk (z : Str) : Prop where
  low : Low z.cps.toList
  lo : 1 ≤ z.length
  hi : z.length ≤ 8
  bar : isBar z = false
theorem wordOk_free {l : List Nat} (h : Low l) (h1 : 1 ≤ l.length) (h2 : l.length ≤ 8) : WordOk (S (freeL l)) := by
  have q := freeL_len l
  refine ⟨by rw [S_toList]; exact freeL_low h, ?_, ?_, freeL_bar l⟩
  · rw [S_len]; omega
  · rw [S_len]; omega
theorem low_ok {z : Str} (h : Low z.cps.toList) : PyData.strOk z = true := by
  unfold PyData.strOk
  rw [Array.all_eq_true']
  intro c hc
  have := h c (by simpa using hc)
  exact decide_eq_true (by omega)
theorem DV.word {K : PySem.W.Frag} {H : Hp} {z : Str} (h : WordOk z) : DV K H (.str z) := ⟨.str z, .str z, by simp [PyData.canLay0, low_ok h.low], by simp [PyData.depth]⟩
theorem cut_head (l : List Nat) (k : Nat) (h : k ≤ l.length) : cutS (S l) none (some (k : Int)) = S (l.take k) := by
  have e : HT.sIx (S l).length (S l).length (some (k : Int)) = k := by
    simp only [HT.sIx]
    rw [if_neg (by omega), S_len]
    omega
  unfold cutS
  rw [e, S_toList]
  simp [HT.sIx_none, S]
theorem cut_tail (l : List Nat) (k : Nat) (h : k ≤ l.length) : cutS (S l) (some (k : Int)) none = S (l.drop k) := by
  have e : HT.sIx (S l).length 0 (some (k : Int)) = k := by
    simp only [HT.sIx]
    rw [if_neg (by omega), S_len]
    omega
  unfold cutS
  rw [e, S_toList, HT.sIx_none, S_len, List.take_of_length_le (by rw [List.length_drop]; omega)]
  rfl
theorem set_other {l : List Nat} {k u : Nat} (h : k < l.length) : l.take k ++ ([u] ++ l.drop (k + 1)) = l.set k u := by
  rw [List.set_eq_take_append_cons_drop, if_pos h]
  rfl
theorem three_words {l : List Nat} {c k u : Nat} (hl : Low l) (h1 : 1 ≤ l.length) (h7 : l.length ≤ 7) (hc : 97 ≤ c ∧ c < 123) (hk : k < l.length) (hu : 97 ≤ u ∧ u < 123) (hne : l[k]? ≠ some u) (hb : freeL l = l) :
    (∀ z ∈ [S l, S (freeL (l ++ [c])), S (freeL (l.set k u))], WordOk z) ∧ [S l, S (freeL (l ++ [c])), S (freeL (l.set k u))].Nodup := by
  have w1 : WordOk (S l) := by
    have := wordOk_free hl h1 (by omega)
    rw [hb] at this
    exact this
  have w2 : WordOk (S (freeL (l ++ [c]))) := by
    refine wordOk_free (fun x hx => ?_) (by rw [List.length_append]; omega) (by rw [List.length_append]; simp; omega)
    rcases List.mem_append.mp hx with hx | hx
    · exact hl x hx
    · have : x = c := by simpa using hx
      omega
  have w3 : WordOk (S (freeL (l.set k u))) := by
    refine wordOk_free (fun x hx => ?_) (by rw [List.length_set]; omega) (by rw [List.length_set]; omega)
    rcases List.mem_or_eq_of_mem_set hx with hx | hx
    · exact hl x hx
    · omega
  have n12 : S l ≠ S (freeL (l ++ [c])) := fun e => by
    have q := congrArg List.length (S_inj e)
    have r := (freeL_len (l ++ [c])).1
    rw [List.length_append, List.length_singleton] at r
    omega
  have g3 : (freeL (l.set k u))[k]? = some u := by
    rw [freeL_get (by rw [List.length_set]; exact hk), List.getElem?_set_self hk]
  have n13 : S l ≠ S (freeL (l.set k u)) := fun e => by
    have q := congrArg (fun m : List Nat => m[k]?) (S_inj e)
    simp only [g3] at q
    exact hne q
  have n23 : S (freeL (l ++ [c])) ≠ S (freeL (l.set k u)) := fun e => by
    have q := congrArg (fun m : List Nat => m[k]?) (S_inj e)
    simp only [g3] at q
    rw [freeL_get (by rw [List.length_append]; omega), List.getElem?_append_left hk] at q
    exact hne q
  refine ⟨fun z hz => ?_, ?_⟩
  · rcases List.mem_cons.mp hz with rfl | hz
    · exact w1
    rcases List.mem_cons.mp hz with rfl | hz
    · exact w2
    · have : z = _ := List.mem_singleton.mp hz
      rw [this]; exact w3
  · simp [n12, n13, n23]
def unS : V → Str
  | .str z => z
  | _ => S []
theorem perm_strs {ys : List V} {xs : List Str} (h : ys.Perm (xs.map V.str)) : ∃ ws : List Str, ys = ws.map V.str ∧ ws.Perm xs := by
  refine ⟨ys.map unS, ?_, ?_⟩
  · rw [List.map_map]
    have e : ∀ y ∈ ys, (V.str ∘ unS) y = y := fun y hy => by
      obtain ⟨z, _, rfl⟩ := List.mem_map.mp (h.mem_iff.mp hy)
      rfl
    rw [List.map_congr_left e]
    simp
  · have q := h.map unS
    rw [List.map_map] at q
    have e : xs.map (unS ∘ V.str) = xs := by
      have e2 : (unS ∘ V.str) = id := rfl
      rw [e2, List.map_id]
    rw [e] at q
    exact q
section
variable {P : Program} {w : World} {K : PySem.W.Frag} {mg : Str → Option Value} {base : Heap}

end
end K05
namespace K05
open PySem PySem.Spec PyProof.Rows L2 C8

/-! ### names, sizes, rows -/
abbrev NS := List (Str × Nat)
def szs (ns : NS) : List Nat := ns.map Prod.snd
def wds (ns : NS) : List Str := ns.map Prod.fst
def menus : List (List Nat) := [[2], [3], [4], [5], [6], [2, 2], [2, 3], [2, 4], [3, 2], [4, 2], [2, 2, 2]]
def prodN : List Nat → Nat
  | [] => 1
  | s :: r => s * prodN r
def rowsStep (rs : List (List Nat)) (s : Nat) : List (List Nat) := rs.flatMap fun r => (List.range s).map fun v => r ++ [v]
def rowsOf (sz : List Nat) : List (List Nat) := sz.foldl rowsStep [[]]
/-- the i-th value of store k -/
def dig (sz : List Nat) (k i : Nat) : Nat := k / prodN (sz.drop (i + 1)) % sz.getD i 1
def row (sz : List Nat) (k : Nat) : List Nat := (List.range sz.length).map (dig sz k)
/-- the store of these values -/
def valN (sz vs : List Nat) : Nat := (sz.zip vs).foldl (fun a p => a * p.1 + p.2) 0
def givenN (sz : List Nat) (k i v : Nat) : Nat := valN sz ((row sz k).set i v)
theorem menu_facts : ∀ sz ∈ menus, (rowsOf sz).length = prodN sz ∧ prodN sz ≤ 8 ∧ 2 ≤ prodN sz ∧ sz.length ≤ 3 ∧ 1 ≤ sz.length ∧ (∀ s ∈ sz, 2 ≤ s ∧ s ≤ 6) := by decide +kernel
theorem menu_nodup : ∀ sz ∈ menus, (rowsOf sz).Nodup := by decide +kernel
theorem menu_rev : ∀ sz ∈ menus, sz.reverse ∈ menus := by decide +kernel
theorem menu_row : ∀ sz ∈ menus, ∀ k, k < prodN sz → (rowsOf sz)[k]? = some (row sz k) ∧ valN sz (row sz k) = k := by
  intro sz hs k hk
  have key : ∀ sz ∈ menus, ∀ k, k < 9 → k < prodN sz → (rowsOf sz)[k]? = some (row sz k) ∧ valN sz (row sz k) = k := by decide +kernel
  exact key sz hs k (by have := (menu_facts sz hs).2.1; omega) hk
theorem menu_all : (menus.all fun sz => (List.range (prodN sz)).all fun k => (List.range sz.length).all fun i => (List.range (sz.getD i 1)).all fun v => decide (givenN sz k i v < prodN sz) && decide (row sz (givenN sz k i v) = (row sz k).set i v)) = true := by decide +kernel
theorem menu_given {sz : List Nat} (hs : sz ∈ menus) {k i v : Nat} (hk : k < prodN sz) (hi : i < sz.length) (hv : v < sz.getD i 1) : givenN sz k i v < prodN sz ∧ row sz (givenN sz k i v) = (row sz k).set i v := by
  have a := List.all_eq_true.mp menu_all sz hs
  have b := List.all_eq_true.mp a k (List.mem_range.mpr hk)
  have c := List.all_eq_true.mp b i (List.mem_range.mpr hi)
  have d := List.all_eq_true.mp c v (List.mem_range.mpr hv)
  rw [Bool.and_eq_true] at d
  exact ⟨of_decide_eq_true d.1, of_decide_eq_true d.2⟩
theorem row_len (sz : List Nat) (k : Nat) : (row sz k).length = sz.length := by simp [row]
structure NsOk (ns : NS) : Prop where
  sz : szs ns ∈ menus
  wd : ∀ z ∈ wds ns, WordOk z
  nd : (wds ns).Nodup
theorem NsOk.len {ns : NS} (h : NsOk ns) : 1 ≤ ns.length ∧ ns.length ≤ 3 := by
  have f := menu_facts _ h.sz
  have e : (szs ns).length = ns.length := by simp [szs]
  omega
theorem NsOk.size {ns : NS} (h : NsOk ns) {n : Str × Nat} (hn : n ∈ ns) : 2 ≤ n.2 ∧ n.2 ≤ 6 := (menu_facts _ h.sz).2.2.2.2.2 n.2 (List.mem_map_of_mem hn)
abbrev nV (n : Str × Nat) : List V := [.str n.1, .int (n.2 : Int)]
/-- pairs (word, number) at ps -/
def Tups (H : Hp) (ps : List Addr) (ns : NS) : Prop := Paired (fun p n => H p = some (.tup (nV n))) ps ns
theorem Tups.mono {H H' : Hp} (e : Ex H H') : ∀ {ps : List Addr} {ns : NS}, Tups H ps ns → Tups H' ps ns
  | _, _, .nil => .nil
  | _, _, .cons h t => .cons (e _ _ h) (Tups.mono e t)
theorem Tups.length {H : Hp} : ∀ {ps : List Addr} {ns : NS}, Tups H ps ns → ps.length = ns.length
  | _, _, .nil => rfl
  | _, _, .cons _ t => congrArg (· + 1) (Tups.length t)
theorem Tups.get {H : Hp} : ∀ {ps : List Addr} {ns : NS}, Tups H ps ns → ∀ {i : Nat} {p : Addr}, ps[i]? = some p → ∃ n, ns[i]? = some n ∧ H p = some (.tup (nV n))
  | _, _, .nil, i, p, h => by simp at h
  | _, _, .cons a t, 0, p, h => by
    have : _ = p := Option.some.inj h
    subst this
    exact ⟨_, rfl, a⟩
  | _, _, .cons a t, i + 1, p, h => Tups.get t h
theorem Tups.at {H : Hp} : ∀ {ps : List Addr} {ns : NS}, Tups H ps ns → ∀ {i : Nat} {n : Str × Nat}, ns[i]? = some n → ∃ p, ps[i]? = some p ∧ H p = some (.tup (nV n))
  | _, _, .nil, i, p, h => by simp at h
  | _, _, .cons a t, 0, p, h => by
    have : _ = p := Option.some.inj h
    subst this
    exact ⟨_, rfl, a⟩
  | _, _, .cons a t, i + 1, p, h => Tups.at t h
theorem Tups.byIx {H : Hp} : ∀ {ps : List Addr} {ns : NS}, ps.length = ns.length → (∀ (i : Nat) p n, ps[i]? = some p → ns[i]? = some n → H p = some (.tup (nV n))) → Tups H ps ns
  | [], [], _, _ => .nil
  | [], _ :: _, h, _ => nomatch h
  | _ :: _, [], h, _ => nomatch h
  | p :: ps, n :: ns, h, g => .cons (g 0 p n rfl rfl) (Tups.byIx (Nat.succ.inj h) fun i p' n' a b => g (i + 1) p' n' a b)
abbrev rV (r : List Nat) : List V := r.map fun v : Nat => V.int (v : Int)
/-- lists of numbers at qs -/
def Rows (H : Hp) (qs : List Addr) (rs : List (List Nat)) : Prop := Paired (fun q r => H q = some (.lst (rV r))) qs rs
theorem Rows.mono {H H' : Hp} (e : Ex H H') : ∀ {qs : List Addr} {rs : List (List Nat)}, Rows H qs rs → Rows H' qs rs
  | _, _, .nil => .nil
  | _, _, .cons h t => .cons (e _ _ h) (Rows.mono e t)
theorem Rows.app {H : Hp} : ∀ {qs qs' : List Addr} {rs rs' : List (List Nat)}, Rows H qs rs → Rows H qs' rs' → Rows H (qs ++ qs') (rs ++ rs')
  | _, _, _, _, .nil, h => h
  | _, _, _, _, .cons h t, g => .cons h (Rows.app t g)
theorem Rows.length {H : Hp} : ∀ {qs : List Addr} {rs : List (List Nat)}, Rows H qs rs → qs.length = rs.length
  | _, _, .nil => rfl
  | _, _, .cons _ t => congrArg (· + 1) (Rows.length t)
theorem Rows.at {H : Hp} : ∀ {qs : List Addr} {rs : List (List Nat)}, Rows H qs rs → ∀ {i : Nat} {r : List Nat}, rs[i]? = some r → ∃ q, qs[i]? = some q ∧ H q = some (.lst (rV r))
  | _, _, .nil, i, p, h => by simp at h
  | _, _, .cons a t, 0, p, h => by
    have : _ = p := Option.some.inj h
    subst this
    exact ⟨_, rfl, a⟩
  | _, _, .cons a t, i + 1, p, h => Rows.at t h
theorem Rows.get {H : Hp} : ∀ {qs : List Addr} {rs : List (List Nat)}, Rows H qs rs → ∀ {i : Nat} {q : Addr}, qs[i]? = some q → ∃ r, rs[i]? = some r ∧ H q = some (.lst (rV r))
  | _, _, .nil, i, p, h => by simp at h
  | _, _, .cons a t, 0, p, h => by
    have : _ = p := Option.some.inj h
    subst this
    exact ⟨_, rfl, a⟩
  | _, _, .cons a t, i + 1, p, h => Rows.get t h
theorem refs_get {ps : List Addr} {i : Nat} {v : V} (h : (ps.map V.ref)[i]? = some v) : ∃ p, v = .ref p ∧ ps[i]? = some p := by
  rw [List.getElem?_map] at h
  cases e : ps[i]? with
  | none => rw [e] at h; cases h
  | some p =>
    rw [e] at h
    cases h
    exact ⟨p, rfl, rfl⟩
theorem refs_at2 {ps : List Addr} {i : Nat} {p : Addr} (h : ps[i]? = some p) : (ps.map V.ref)[i]? = some (.ref p) := by rw [List.getElem?_map, h]; rfl

/-! ### the box apart -/
def off (H : Hp) (b : Addr) : Hp := fun a => if a = b then none else H a
theorem off_at {H : Hp} {b a : Addr} {o : HO} (h : H a = some o) (n : a ≠ b) : off H b a = some o := by unfold off; rw [if_neg n]; exact h
theorem off_ex {H : Hp} {b : Addr} : Ex (off H b) H := fun a o h => by
  unfold off at h
  split at h
  · cases h
  · exact h
theorem off_none {H : Hp} {b p : Addr} (h : off H b p = none) (n : p ≠ b) : H p = none := by
  unfold off at h
  rw [if_neg n] at h
  exact h
theorem Wd.off {Hb H : Hp} {b : Addr} {c : Nat} (W : Wd Hb H b c) : Wd (off H b) H b c := ⟨off_ex, by simp [K05.off], W.box⟩
theorem Wd.exOff {Hb H : Hp} {b : Addr} {c : Nat} (W : Wd Hb H b c) : Ex Hb (K05.off H b) := fun a o h => off_at (W.ex a o h) (fun z => by rw [z, W.nb] at h; cases h)
theorem Wd.tup {Hb H : Hp} {b a : Addr} {c : Nat} {xs : List V} (W : Wd Hb H b c) (h : H a = some (.tup xs)) : K05.off H b a = some (.tup xs) := off_at h (fun z => by
  obtain ⟨g, f, s, k, h1, _⟩ := W.box
  rw [z, h1] at h; cases h)
theorem Wd.tups {Hb H : Hp} {b : Addr} {c : Nat} (W : Wd Hb H b c) : ∀ {ps : List Addr} {ns : NS}, Tups H ps ns → Tups (K05.off H b) ps ns
  | _, _, .nil => .nil
  | _, _, .cons h t => .cons (W.tup h) (W.tups t)

/-! ### comprehensions -/
theorem lc_rel {J : It} {n : Nat} {G : Hp → Prop} {Y : Nat → Hp → V → Hp → Prop} (w : L2.Walk J n G Y) {g : TG} {tt : TT} {te : TE} {vs : List Nat} {σ : L2.St} {H1 : Hp} {D : Addr} {Qd : Hp → Prop} (R : Nat → V → Hp → Prop) (hn : n ≤ 1000) (hD : H1 D = none)
    (hG : ∀ H, Ex H1 H → G H) (hm : ∀ j y H H', R j y H → Ex H H' → R j y H') (hu : ∀ j y H l l', R j y H → H D = some (.lst l) → R j y (upd H D (.lst l')))
    (hs : ∀ i x H H' (Z : VK) (B : Hp → Prop), i < n → Ex H1 H → (∃ l, H D = some (.lst l)) → Y i H x H' → (∀ y H4, Ex H H4 → R i y H4 → Z y H4) →
      g x (wipe σ vs) H' fun σ2 H2 => wipe σ2 vs = wipe σ vs ∧ tt σ2 H2 fun b H3 => if b = true then te σ2 H3 Z else B H3)
    (hd : ∀ H ys, Ex H1 H → H D = some (.lst ys) → ys.length = n → (∀ (j : Nat) y, ys[j]? = some y → R j y H) → Qd H) :
    ∃ W : Nat → Nat → Hp → Prop, (∃ m, W 0 m (upd H1 D (.lst []))) ∧ ∀ i m H, W i m H →
      (J.stop i H ∧ Qd H) ∨ (J.go i H ∧ ∃ Nx : Hp → Prop, (∀ H', Nx H' → ∃ m', m' < m ∧ W (i + 1) m' H') ∧ ∀ x H', J.yld i H x H' → g x (wipe σ vs) H' fun σ2 H2 => wipe σ2 vs = wipe σ vs ∧ tt σ2 H2 fun b H3 =>
        if b = true then te σ2 H3 fun y H4 => ∃ acc, H4 D = some (.lst acc) ∧ acc.length < sizeLine ∧ Nx (upd H4 D (.lst (acc ++ [y]))) else Nx H3) := by
  refine lc_it w (fun i H => Ex H1 H ∧ ∃ ys, H D = some (.lst ys) ∧ ys.length = i ∧ ∀ (j : Nat) y, ys[j]? = some y → R j y H) ⟨Evl.Ex.new hD, [], upd_same, rfl, fun j y h => by simp at h⟩ (fun i H _ p => hG H p.1) ?_ ?_
  · rintro i x H H' hi ⟨e, ys, h1, h2, h3⟩ y
    refine hs i x H H' _ _ hi e ⟨ys, h1⟩ y (fun z H4 e4 hz => ⟨ys, e4 D _ h1, Nat.lt_of_lt_of_le (show ys.length < 1001 by omega) (by decide), ?_, ys ++ [z], upd_same, by rw [List.length_append, h2]; rfl, fun j u hj => ?_⟩)
    · exact Evl.Ex.mut (e.trans e4) hD
    · by_cases hjl : j < ys.length
      · rw [List.getElem?_append_left hjl] at hj
        exact hu _ _ _ _ _ (hm _ _ _ _ (h3 j u hj) e4) (e4 D _ h1)
      · rw [List.getElem?_append_right (by omega)] at hj
        have ej : j = ys.length := by
          rcases Nat.lt_or_ge (j - ys.length) 1 with w | w
          · omega
          · rw [List.getElem?_eq_none (by simpa using w)] at hj; cases hj
        subst ej
        rw [Nat.sub_self] at hj
        have : z = u := by simpa using hj
        subst this
        rw [h2]
        exact hu _ _ _ _ _ hz (e4 D _ h1)
  · rintro H ⟨e, ys, h1, h2, h3⟩
    exact hd H ys e h1 h2 h3
/-- .. whose items are told by their place -/
theorem lc_fn {J : It} {n : Nat} {G : Hp → Prop} {Y : Nat → Hp → V → Hp → Prop} (w : L2.Walk J n G Y) {g : TG} {tt : TT} {te : TE} {vs : List Nat} {σ : L2.St} {H1 : Hp} {D : Addr} {Qd : Hp → Prop} (f : Nat → V) (hn : n ≤ 1000) (hD : H1 D = none)
    (hG : ∀ H, Ex H1 H → G H)
    (hs : ∀ i x H H' (Z : VK) (B : Hp → Prop), i < n → Ex H1 H → (∃ l, H D = some (.lst l)) → Y i H x H' → (∀ H4, Ex H H4 → Z (f i) H4) →
      g x (wipe σ vs) H' fun σ2 H2 => wipe σ2 vs = wipe σ vs ∧ tt σ2 H2 fun b H3 => if b = true then te σ2 H3 Z else B H3)
    (hd : ∀ H, Ex H1 H → H D = some (.lst ((List.range n).map f)) → Qd H) :
    ∃ W : Nat → Nat → Hp → Prop, (∃ m, W 0 m (upd H1 D (.lst []))) ∧ ∀ i m H, W i m H →
      (J.stop i H ∧ Qd H) ∨ (J.go i H ∧ ∃ Nx : Hp → Prop, (∀ H', Nx H' → ∃ m', m' < m ∧ W (i + 1) m' H') ∧ ∀ x H', J.yld i H x H' → g x (wipe σ vs) H' fun σ2 H2 => wipe σ2 vs = wipe σ vs ∧ tt σ2 H2 fun b H3 =>
        if b = true then te σ2 H3 fun y H4 => ∃ acc, H4 D = some (.lst acc) ∧ acc.length < sizeLine ∧ Nx (upd H4 D (.lst (acc ++ [y]))) else Nx H3) := by
  refine lc_rel w (fun i y _ => y = f i) hn hD hG (fun _ _ _ _ h _ => h) (fun _ _ _ _ _ h _ => h) (fun i x H H' Z B hi e hl y hz => hs i x H H' Z B hi e hl y fun H4 e4 => hz _ H4 e4 rfl) (fun H ys e h1 h2 h3 => hd H e ?_)
  have : ys = (List.range n).map f := by
    refine List.ext_getElem? fun j => ?_
    by_cases hj : j < n
    · have e1 : ys[j]? = some ys[j] := List.getElem?_eq_getElem (by omega)
      rw [e1, List.getElem?_map, List.getElem?_range hj, h3 j _ e1]
      rfl
    · rw [List.getElem?_eq_none (by omega), List.getElem?_eq_none (by simp; omega)]
  rw [← this]
  exact h1
section
variable {P : Program} {w : World} {K : PySem.W.Frag} {mg : Str → Option Value} {base : Heap}

end
end K05
namespace K05
open PySem PySem.Spec PyProof.Rows L2 C8

def menu13 : List (List Nat) := [[2], [3], [4], [5], [6], [2, 2], [2, 3], [2, 4], [3, 2], [4, 2], [2, 2, 2], [3, 2], [2, 3]]
theorem menu13_ok : ∀ r ∈ menu13, r ∈ menus := by decide +kernel
theorem map_fst_zip_take {α β : Type} : ∀ (l : List α) (m : List β), m.length ≤ l.length → (l.zip m).map Prod.fst = l.take m.length
  | _, [], _ => by simp
  | [], _ :: _, h => by simp at h
  | a :: l, b :: m, h => by
    rw [List.zip_cons_cons, List.map_cons, map_fst_zip_take l m (Nat.le_of_succ_le_succ h)]
    rfl
theorem zip_ns {ws : List Str} {sz : List Nat} (hw : ∀ z ∈ ws, WordOk z) (nd : ws.Nodup) (hs : sz ∈ menus) (hl : sz.length ≤ ws.length) : NsOk (ws.zip sz) := by
  have e1 : szs (ws.zip sz) = sz := by
    unfold szs
    rw [List.map_snd_zip hl]
  have sub : (wds (ws.zip sz)).Sublist ws := by
    unfold wds
    rw [map_fst_zip_take _ _ hl]
    exact List.take_sublist _ _
  exact ⟨by rw [e1]; exact hs, fun z hz => hw z (sub.subset hz), nd.sublist sub⟩
section
variable {P : Program} {w : World} {K : PySem.W.Frag} {mg : Str → Option Value} {base : Heap}

end
end K05
set_option Elab.async false
set_option linter.all false
set_option maxRecDepth 100000
set_option maxHeartbeats 8000000
namespace K05
open PySem PySem.Spec PyProof.Rows L2 C8
/-! ### data: what repr and == say of it -/
theorem textFrom_le (m : Nat) : ∀ (ts : List Str) (k : Nat) (acc : Str), (∀ t ∈ ts, t.length ≤ m) → (textFrom k acc ts).length ≤ acc.length + ts.length * (m + 2)
  | [], k, acc, _ => by
    show acc.length ≤ _
    omega
  | t :: r, k, acc, h => by
    have ih := textFrom_le m r (k + 1) (acc ++ (if k > 0 then ", " else "" : String) ++ t) fun u hu => h u (List.mem_cons_of_mem _ hu)
    have e : (acc ++ (if k > 0 then ", " else "" : String) ++ t).length = acc.length + (if k > 0 then 2 else 0) + t.length := by
      rw [strLen_append, strLen_append]
      split <;> rfl
    rw [e] at ih
    have ht := h t (List.mem_cons_self ..)
    show (textFrom (k + 1) _ r).length ≤ _
    rw [List.length_cons, Nat.succ_mul]
    have : (if k > 0 then 2 else 0 : Nat) ≤ 2 := by split <;> omega
    omega
theorem piled_le (m : Nat) : ∀ ts : List Str, (∀ t ∈ ts, t.length ≤ m) → piled ts ≤ ts.length * (m + 2)
  | [], _ => by rw [piled_nil]; exact Nat.zero_le _
  | t :: r, h => by
    have ih := piled_le m r fun u hu => h u (List.mem_cons_of_mem _ hu)
    have ht := h t (List.mem_cons_self ..)
    rw [piled_cons, List.length_cons, Nat.succ_mul]
    omega
theorem tuple_le (m : Nat) (ts : List Str) (h : ∀ t ∈ ts, t.length ≤ m) : (tupleText ts).length ≤ 3 + ts.length * (m + 2) := by
  have e : (tupleText ts).length = 1 + (Str.join ", " ts).length + (if ts.length == 1 then 2 else 1) := by
    unfold tupleText
    rw [strLen_append, strLen_append]
    split <;> rfl
  have c : (if ts.length == 1 then 2 else 1 : Nat) ≤ 2 := by split <;> omega
  rw [e]
  cases ts with
  | nil => show 1 + 0 + 1 ≤ 3 + 0 * _; omega
  | cons t r =>
    have j := join_length_add (t :: r) (by simp)
    have p := piled_le m (t :: r) h
    omega
/-- data without bools and dicts, of this depth at most, whose text has at most m signs -/
structure Fine (d : PyData) (k m : Nat) : Prop where
  lay : d.canLay0 = true
  dep : d.depth ≤ k
  sh : d.showable = true
  nd : d.hasDict = false
  len : d.shown.length ≤ m
theorem Fine.mono {d : PyData} {k k' m m' : Nat} (h : Fine d k m) (h1 : k ≤ k') (h2 : m ≤ m') : Fine d k' m' := ⟨h.lay, Nat.le_trans h.dep h1, h.sh, h.nd, Nat.le_trans h.len h2⟩
abbrev iD (n : Nat) : PyData := .int (n : Int)
theorem Fine.int {n : Nat} (h : n < 10) : Fine (iD n) 0 1 := by
  have key : ∀ n : Nat, n < 10 → (PyData.int (n : Int)).canLay0 = true ∧ (PyData.int (n : Int)).depth ≤ 0 ∧ (PyData.int (n : Int)).showable = true ∧ (PyData.int (n : Int)).hasDict = false ∧ (PyData.int (n : Int)).shown.length ≤ 1 := by decide +kernel
  obtain ⟨a, b, c, d, e⟩ := key n h
  exact ⟨a, b, c, d, e⟩
theorem Fine.str {z : Str} (h : Low z.cps.toList) (hl : z.length ≤ 20) : Fine (.str z) 0 202 := by
  refine ⟨by simp [PyData.canLay0, low_ok h], by simp [PyData.depth], by simp [PyData.showable], by simp [PyData.hasDict], ?_⟩
  have := StrLaws.reprText_len z fun c hc => by have := h c hc; omega
  simp only [PyData.shown]
  omega
theorem fineAll {k m : Nat} : ∀ {ds : List PyData}, (∀ d ∈ ds, Fine d k m) → PyData.canLayAll0 ds = true ∧ PyData.depthAll ds ≤ k ∧ PyData.showableAll ds = true ∧ PyData.hasDictAll ds = false ∧ (PyData.shownAll ds).length = ds.length ∧ ∀ t ∈ PyData.shownAll ds, t.length ≤ m
  | [], _ => ⟨by simp [PyData.canLayAll0], by simp [PyData.depthAll], by simp [PyData.showableAll], by simp [PyData.hasDictAll], by simp [PyData.shownAll], by simp [PyData.shownAll]⟩
  | d :: ds, h => by
    have f := h d (List.mem_cons_self ..)
    obtain ⟨a, b, c, e, g, i⟩ := fineAll (ds := ds) fun x hx => h x (List.mem_cons_of_mem _ hx)
    refine ⟨by simp [PyData.canLayAll0, f.lay, a], by simp only [PyData.depthAll]; have := f.dep; omega, by simp [PyData.showableAll, f.sh, c], by simp [PyData.hasDictAll, f.nd, e], by simp [PyData.shownAll, g], fun t ht => ?_⟩
    simp only [PyData.shownAll, List.mem_cons] at ht
    rcases ht with rfl | ht
    · exact f.len
    · exact i t ht
theorem Fine.list {ds : List PyData} {k m n : Nat} (h : ∀ d ∈ ds, Fine d k m) (hn : ds.length ≤ n) : Fine (.list ds) (k + 1) (2 + n * (m + 2)) := by
  obtain ⟨a, b, c, e, g, i⟩ := fineAll h
  refine ⟨by simp [PyData.canLay0, a], by simp only [PyData.depth]; omega, by simp [PyData.showable, c], by simp [PyData.hasDict, e], ?_⟩
  simp only [PyData.shown]
  unfold listText
  have t := textFrom_le m (PyData.shownAll ds) 0 "[" i
  have e2 : (textFrom 0 "[" (PyData.shownAll ds) ++ ("]" : Str)).length = (textFrom 0 "[" (PyData.shownAll ds)).length + 1 := by rw [strLen_append]; rfl
  have e3 : (("[" : Str)).length = 1 := rfl
  rw [g] at t
  have := Nat.mul_le_mul_right (m + 2) hn
  show (textFrom 0 "[" (PyData.shownAll ds) ++ ("]" : Str)).length ≤ _
  rw [e2]
  omega
theorem Fine.tuple {ds : List PyData} {k m n : Nat} (h : ∀ d ∈ ds, Fine d k m) (hn : ds.length ≤ n) : Fine (.tuple ds) (k + 1) (3 + n * (m + 2)) := by
  obtain ⟨a, b, c, e, g, i⟩ := fineAll h
  refine ⟨by simp [PyData.canLay0, a], by simp only [PyData.depth]; omega, by simp [PyData.showable, c], by simp [PyData.hasDict, e], ?_⟩
  simp only [PyData.shown]
  have t := tuple_le m (PyData.shownAll ds) i
  rw [g] at t
  have := Nat.mul_le_mul_right (m + 2) hn
  omega
theorem Fine.shaped {d : PyData} {k m : Nat} (h : Fine d k m) (hk : k ≤ 60) : SeqAt.shaped d = true := by
  unfold SeqAt.shaped
  rw [h.lay, Bool.true_and]
  have := h.dep
  exact decide_eq_true (by omega)
/-- what repr asks -/
theorem repr_ask {K : PySem.W.Frag} {H : Hp} {v : V} {d : PyData} {k m : Nat} {Q : VK} (hd : Dp K H v d) (f : Fine d k m) (hk : k ≤ 60) (hm : m ≤ 1000000) (q : Q (.str d.shown) H) : rRepr K [v] H Q :=
  ⟨⟨v, d, rfl, hd, f.sh, f.nd, Nat.le_trans f.dep hk, Nat.le_trans f.len (Nat.le_trans hm (by decide)), q⟩⟩
mutual
/-- neither bools nor dicts -/
def plainD : PyData → Bool
  | .none | .int _ | .str _ => true
  | .list xs | .tuple xs => plainAll xs
  | .bool _ | .dict _ => false
def plainAll : List PyData → Bool
  | [] => true
  | x :: xs => plainD x && plainAll xs
end
mutual
theorem eqv_plain : ∀ (d e : PyData), plainD d = true → plainD e = true → (PyData.eqv d e = true ↔ d = e)
  | .none, e, _, he => by cases e <;> simp [plainD, PyData.eqv] at he ⊢
  | .int i, e, _, he => by cases e <;> simp [plainD, PyData.eqv] at he ⊢
  | .str x, e, _, he => by cases e <;> simp [plainD, PyData.eqv] at he ⊢
  | .list xs, e, hd, he => by
    cases e with
    | list ys =>
      have := eqvAll_plain xs ys (by simpa [plainD] using hd) (by simpa [plainD] using he)
      simp only [PyData.eqv, this, PyData.list.injEq]
    | _ => simp [plainD, PyData.eqv] at he ⊢
  | .tuple xs, e, hd, he => by
    cases e with
    | tuple ys =>
      have := eqvAll_plain xs ys (by simpa [plainD] using hd) (by simpa [plainD] using he)
      simp only [PyData.eqv, this, PyData.tuple.injEq]
    | _ => simp [plainD, PyData.eqv] at he ⊢
  | .bool _, _, hd, _ => by simp [plainD] at hd
  | .dict _, _, hd, _ => by simp [plainD] at hd
theorem eqvAll_plain : ∀ (xs ys : List PyData), plainAll xs = true → plainAll ys = true → (PyData.eqvAll xs ys = true ↔ xs = ys)
  | [], [], _, _ => by simp [PyData.eqvAll]
  | [], _ :: _, _, _ => by simp [PyData.eqvAll]
  | _ :: _, [], _, _ => by simp [PyData.eqvAll]
  | x :: xs, y :: ys, h1, h2 => by
    simp only [plainAll, Bool.and_eq_true] at h1 h2
    simp only [PyData.eqvAll, Bool.and_eq_true, eqv_plain x y h1.1 h2.1, eqvAll_plain xs ys h1.2 h2.2, List.cons.injEq]
end
theorem eqv_same {d : PyData} (hd : plainD d = true) : PyData.eqv d d = true := (eqv_plain d d hd hd).mpr rfl
theorem eqv_diff {d e : PyData} (hd : plainD d = true) (he : plainD e = true) (h : d ≠ e) : PyData.eqv d e = false := Bool.eq_false_iff.mpr fun z => h ((eqv_plain d e hd he).mp z)
/-! ### rows and names as data -/
def rD (r : List Nat) : PyData := .list (r.map iD)
def rsD (rs : List (List Nat)) : PyData := .list (rs.map rD)
def nD (n : Str × Nat) : PyData := .tuple [.str n.1, iD n.2]
theorem plain_ints (r : List Nat) : plainAll (r.map iD) = true := by
  induction r with
  | nil => simp [plainAll]
  | cons y r ih => simp [plainAll, plainD]; exact ih
theorem plain_rD (r : List Nat) : plainD (rD r) = true := by unfold rD; simp only [plainD]; exact plain_ints r
theorem plain_nDs (ns : NS) : plainAll (ns.map nD) = true := by
  induction ns with
  | nil => simp [plainAll]
  | cons y r ih => simp only [List.map_cons, plainAll, Bool.and_eq_true]; exact ⟨by simp [nD, plainD, plainAll], ih⟩
theorem rD_inj {r r' : List Nat} (h : rD r = rD r') : r = r' := by
  unfold rD at h
  have h2 := PyData.list.inj h
  refine List.map_inj_right (f := iD) (fun x y e => ?_) |>.mp h2
  have := PyData.int.inj e
  omega
theorem nD_inj {n n' : Str × Nat} (h : nD n = nD n') : n = n' := by
  unfold nD at h
  have h2 := PyData.tuple.inj h
  have h3 := (List.cons.inj h2).1
  have h4 := (List.cons.inj (List.cons.inj h2).2).1
  have a := PyData.str.inj h3
  have b := PyData.int.inj h4
  exact Prod.ext a (by omega)
theorem nDs_inj {ns ns' : NS} (h : ns.map nD = ns'.map nD) : ns = ns' := List.map_inj_right (f := nD) (fun _ _ e => nD_inj e) |>.mp h
theorem dp_ints {K : PySem.W.Frag} {H : Hp} : ∀ r : List Nat, DpAll K H (rV r) (r.map iD)
  | [] => .nil
  | y :: r => .cons (.int _) (dp_ints r)
theorem dp_row {K : PySem.W.Frag} {H : Hp} {l : Addr} {r : List Nat} (h : SqL K H l (rV r)) : Dp K H (.ref l) (rD r) := .lst h (dp_ints r)
theorem dp_rows {K : PySem.W.Frag} {H : Hp} : ∀ {qs : List Addr} {rs : List (List Nat)}, Rows H qs rs → DpAll K H (qs.map V.ref) (rs.map rD)
  | _, _, .nil => .nil
  | _, _, .cons h t => .cons (dp_row (SqL.of h)) (dp_rows t)
theorem dp_n {K : PySem.W.Frag} {H : Hp} {p : Addr} {n : Str × Nat} (h : H p = some (.tup (nV n))) : Dp K H (.ref p) (nD n) := .tup (SqT.of h) (.cons (.str _) (.cons (.int _) .nil))
theorem dp_ns {K : PySem.W.Frag} {H : Hp} : ∀ {ps : List Addr} {ns : NS}, Tups H ps ns → DpAll K H (ps.map V.ref) (ns.map nD)
  | _, _, .nil => .nil
  | _, _, .cons h t => .cons (dp_n h) (dp_ns t)
theorem fine_row {r : List Nat} (h : ∀ v ∈ r, v < 10) {n : Nat} (hl : r.length ≤ n) : Fine (rD r) 1 (2 + n * 3) :=
  (Fine.list (k := 0) (m := 1) (n := n) (fun d hd => by obtain ⟨v, hv, rfl⟩ := List.mem_map.mp hd; exact Fine.int (h v hv)) (by simpa using hl))
theorem fine_n {n : Str × Nat} (h : Low n.1.cps.toList) (hl : n.1.length ≤ 20) (hn : n.2 < 10) : Fine (nD n) 1 500 :=
  (Fine.tuple (k := 0) (m := 202) (n := 2) (fun d hd => by
    simp only [List.mem_cons, List.not_mem_nil, or_false] at hd
    rcases hd with rfl | rfl
    · exact Fine.str h hl
    · exact (Fine.int hn).mono (Nat.le_refl _) (by omega)) (by simp)).mono (Nat.le_refl _) (by omega)
theorem fine_ns {ns : NS} (h : ∀ n ∈ ns, Low n.1.cps.toList ∧ n.1.length ≤ 20 ∧ n.2 < 10) (hl : ns.length ≤ 10) : Fine (.list (ns.map nD)) 2 6000 :=
  (Fine.list (k := 1) (m := 500) (n := 10) (fun d hd => by
    obtain ⟨n, hn, rfl⟩ := List.mem_map.mp hd
    obtain ⟨a, b, c⟩ := h n hn
    exact fine_n a b c) (by simpa using hl)).mono (by omega) (by omega)
theorem fine_nst {ns : NS} (h : ∀ n ∈ ns, Low n.1.cps.toList ∧ n.1.length ≤ 20 ∧ n.2 < 10) (hl : ns.length ≤ 10) : Fine (.tuple (ns.map nD)) 2 6000 :=
  (Fine.tuple (k := 1) (m := 500) (n := 10) (fun d hd => by
    obtain ⟨n, hn, rfl⟩ := List.mem_map.mp hd
    obtain ⟨a, b, c⟩ := h n hn
    exact fine_n a b c) (by simpa using hl)).mono (by omega) (by omega)
theorem NsOk.fine {ns : NS} (h : NsOk ns) : ∀ n ∈ ns, Low n.1.cps.toList ∧ n.1.length ≤ 20 ∧ n.2 < 10 := fun n hn => by
  have w := h.wd n.1 (List.mem_map_of_mem hn)
  have s := h.size hn
  exact ⟨w.low, Nat.le_trans w.hi (by omega), by omega⟩
theorem fine_rows {rs : List (List Nat)} (h : ∀ r ∈ rs, (∀ v ∈ r, v < 10) ∧ r.length ≤ 3) (hl : rs.length ≤ 8) : Fine (rsD rs) 2 200 :=
  (Fine.list (k := 1) (m := 11) (n := 8) (fun d hd => by
    obtain ⟨r, hr, rfl⟩ := List.mem_map.mp hd
    exact fine_row (h r hr).1 (h r hr).2) (by simpa using hl)).mono (by omega) (by omega)
theorem menu_small : ∀ sz ∈ menus, ∀ r ∈ rowsOf sz, (∀ v ∈ r, v < 10) ∧ r.length = sz.length := by decide +kernel
end K05
set_option Elab.async false
set_option linter.all false
set_option maxRecDepth 100000
set_option maxHeartbeats 400000
namespace K05
open PySem PySem.Spec PyProof.Rows L2 C8

theorem ixT {X : Cx} {K : PySem.W.Frag} (h : X.K = K) : IxR X (rIxT K) := h ▸ ix_tup
theorem ixL {X : Cx} {K : PySem.W.Frag} (h : X.K = K) : IxR X (rIxL K) := h ▸ ix_list
theorem pgT {X : Cx} {K : PySem.W.Frag} {es : List Expr} {k : Nat} {pos : Pos} {t : TGs} {n : Nat} (h : X.K = K) (hc : X.calm = true) (g : PGs X es t) (hn : (assignEach es X.env).length = n := by rfl)
    (hst : (assignEach es X.env).findIdx? (·.1) = none := by rfl) : PG X (.Tuple es k pos) (gTup K n t) := h ▸ pg_tup hc g hn hst
theorem u65 {k : Nat} {A : Around} (r : Room k A) : A.units + 65 < cLine := by have := r.un; omega
theorem refs_of : ∀ {ys : List V} {F : Nat → Addr → Prop}, (∀ (j : Nat) y, ys[j]? = some y → ∃ t, y = .ref t ∧ F j t) → ∃ ts : List Addr, ys = ts.map V.ref ∧ ∀ (j : Nat) t, ts[j]? = some t → F j t
  | [], F, _ => ⟨[], rfl, fun j t h => by simp at h⟩
  | y :: ys, F, h => by
    obtain ⟨t, e, ft⟩ := h 0 y rfl
    obtain ⟨ts, e2, g⟩ := refs_of (ys := ys) (F := fun j => F (j + 1)) fun j z hj => h (j + 1) z hj
    subst e e2
    exact ⟨t :: ts, rfl, fun j u hj => by
      cases j with
      | zero => cases hj; exact ft
      | succ j => exact g j u hj⟩
theorem Rows.byIx {H : Hp} : ∀ {qs : List Addr} {rs : List (List Nat)}, qs.length = rs.length → (∀ (i : Nat) q r, qs[i]? = some q → rs[i]? = some r → H q = some (.lst (rV r))) → Rows H qs rs
  | [], [], _, _ => .nil
  | [], _ :: _, h, _ => nomatch h
  | _ :: _, [], h, _ => nomatch h
  | p :: ps, n :: ns, h, g => .cons (g 0 p n rfl rfl) (Rows.byIx (Nat.succ.inj h) fun i p' n' a b => g (i + 1) p' n' a b)
theorem rowsOf_succ (sz : List Nat) (i : Nat) (s : Nat) (h : sz[i]? = some s) : rowsOf (sz.take (i + 1)) = rowsStep (rowsOf (sz.take i)) s := by
  unfold rowsOf
  rw [List.take_succ, h, List.foldl_append]
  rfl
theorem rowsStep_succ (rs : List (List Nat)) (j : Nat) (s : Nat) (r : List Nat) (h : rs[j]? = some r) : rowsStep (rs.take (j + 1)) s = rowsStep (rs.take j) s ++ (List.range s).map fun v => r ++ [v] := by
  unfold rowsStep
  rw [List.take_succ, h, List.flatMap_append]
  simp
theorem rows_few : ∀ sz ∈ menus, ∀ i, (rowsOf (sz.take i)).length ≤ 8 := by
  intro sz hs i
  have key : ∀ sz ∈ menus, ∀ i, i < 4 → (rowsOf (sz.take i)).length ≤ 8 := by decide +kernel
  by_cases hi : i < 4
  · exact key sz hs i hi
  · have f := menu_facts sz hs
    rw [List.take_of_length_le (by omega)]
    omega
theorem rows_short : ∀ sz ∈ menus, ∀ i, ∀ r ∈ rowsOf (sz.take i), r.length ≤ 3 := by
  intro sz hs i
  have key : ∀ sz ∈ menus, ∀ i, i < 4 → ∀ r ∈ rowsOf (sz.take i), r.length ≤ 3 := by decide +kernel
  by_cases hi : i < 4
  · exact key sz hs i hi
  · have f := menu_facts sz hs
    rw [List.take_of_length_le (by omega)]
    have := key sz hs 3 (by omega)
    rw [List.take_of_length_le (by omega)] at this
    exact this
theorem rowsStep_few (rs : List (List Nat)) (j s : Nat) (h : rs.length ≤ 8) (hs : s ≤ 6) : (rowsStep (rs.take j) s).length ≤ 48 := by
  unfold rowsStep
  rw [List.length_flatMap]
  have : ((rs.take j).map fun r => ((List.range s).map fun v => r ++ [v]).length).sum ≤ (rs.take j).length * s := by
    generalize rs.take j = l
    induction l with
    | nil => simp
    | cons a l ih =>
      simp only [List.map_cons, List.sum_cons, List.length_map, List.length_range, List.length_cons] at ih ⊢
      rw [Nat.succ_mul]
      omega
  have h2 : (rs.take j).length ≤ 8 := Nat.le_trans (List.length_take_le' _ _) h
  have h3 : (rs.take j).length * s ≤ 8 * 6 := Nat.mul_le_mul h2 hs
  omega
theorem sz_at {ns : NS} {i : Nat} {n : Str × Nat} (h : ns[i]? = some n) : (szs ns)[i]? = some n.2 := by unfold szs; rw [List.getElem?_map, h]; rfl
section
variable {P : Program} {w : World} {K : PySem.W.Frag} {mg : Str → Option Value} {base : Heap}

end
end K05
set_option Elab.async false
set_option linter.all false
set_option maxRecDepth 100000
set_option maxHeartbeats 1000000
/-! HxJ: a def called by keywords alone -/
namespace L2
open PySem PySem.Spec PyProof.Rows C8
structure CalK (P : Program) (w : World) (K : PySem.W.Frag) (mg : Str → Option Value) (base : Heap) (k : Nat) (x : Str) (ks : List Str) (perm : List Nat) (sp : Sp) : Prop where
  ex : ∃ (f : Addr) (fd : FuncData) (ps : List Str), FnOk P w K mg base C8.CX0 k f fd ps sp ∧ mg x = some (.ref f) ∧ PySem.W.keepIn K (.ref f) = true ∧ KBn K fd ps 0 ks (gP perm) (gP perm)
theorem pe_cK0 {X : Cx} {k j : Nat} {x : Str} {sp : Sp} {p pos : Pos} {ks : List Str} {perm : List Nat} {kws : List Keyword} {tk : TA} (c : CalK X.prog X.w X.K X.mg X.base k x ks perm sp) (hr : Room j X.A) (hk : k ≤ j) (hg : Gl X x) (hkw : PK X kws tk)
    (hall : (backToKw pos (keywordEach kws X.env)).all (·.1.isSome) = true := by rfl) (hks : (backToKw pos (keywordEach kws X.env)).filterMap (·.1) = ks := by rfl) (hdb : (x == ("__debug__" : Str)) = false := by decide)
    (hpl : ((backTo pos (starEach [] X.env)).any (·.1) || (backToKw pos (keywordEach kws X.env)).any (·.1.isNone)) = false := by rfl) :
    PE X (.Call (.Name x p) [] kws pos) (fun σ H Q => tk σ H fun zs H1 => zs.length = ks.length ∧ sp (gP perm [] zs) H1 Q C8.E0) := by
  obtain ⟨f, fd, ps, F, hm, kp, b⟩ := c.ex
  refine ⟨fun pins s σ H Q I h => ?_⟩
  refine wpAny_Call_Name_kw (ld_glob I hg hm ?_ hdb)
  refine PySem.W.callWith_KW0 (first := []) I.kIn kp hall ?_ hpl
  refine thn (hkw.run pos pins s σ H _ I h) fun ws s2 ⟨zs, H2, I2, rz, l2, q2⟩ => ⟨I2.kIn, ?_⟩
  rw [hks]
  exact run_fnKn (us := []) (vs := []) F (hr.mono hk) b C8.pass0 I2 .nil rz rfl l2 q2
end L2
set_option Elab.async false
set_option linter.all false
set_option maxRecDepth 100000
set_option maxHeartbeats 400000
namespace K05
open PySem PySem.Spec PyProof.Rows L2 C8
/-- all letters are of the alphabet -/
def lowB (z : Str) : Bool := z.cps.toList.all fun c => decide (c ∈ alpha.cps.toList)
/-- a word of the language's names -/
def wordS (z : Str) : Bool := decide (1 ≤ z.length) && (decide (z.length ≤ 8) && (lowB z && !isBar z))
def wordB : Th → Bool
  | .str z => wordS z
  | _ => false
def fromB (lo hi : Int) : Th → Bool
  | .int i => decide (lo ≤ i) && decide (i ≤ hi)
  | _ => false
def pairB : Th → Bool
  | .tup [a, b] => wordB a && fromB 2 6 b
  | _ => false
theorem pairB_len {l : List Th} (h : ¬ l.length = 2) : pairB (.tup l) = false := by
  match l, h with
  | [], _ => rfl
  | [_], _ => rfl
  | [_, _], h => exact absurd rfl h
  | _ :: _ :: _ :: _, _ => rfl
theorem _root_.L2.AtA.two {R : Addr} {H : Hp} {vs : List V} {ds : List Th} (h : AtA R H vs ds) (hl : ds.length = 2) : ∃ v1 v2 d1 d2, vs = [v1, v2] ∧ ds = [d1, d2] ∧ At R H v1 d1 ∧ At R H v2 d2 := by
  match ds, hl with
  | [d1, d2], _ =>
    cases h with
    | cons h1 h2 =>
      cases h2 with
      | cons h2 h3 =>
        cases h3
        exact ⟨_, _, _, _, rfl, rfl, h1, h2⟩
theorem lowB_range (z : Str) : ((List.range z.cps.size).map fun i => decide (z.cps.getD i 0 ∈ alpha.cps.toList)).all id = lowB z := by
  unfold lowB
  rw [List.all_map]
  have e : z.cps.toList = (List.range z.cps.size).map fun i => z.cps.getD i 0 := by
    refine List.ext_getElem? fun i => ?_
    by_cases h : i < z.cps.size
    · rw [List.getElem?_map, List.getElem?_range h, Array.getElem?_toList]
      simp [h]
    · rw [List.getElem?_eq_none (by simpa using h), List.getElem?_eq_none (by simpa using h)]
  rw [e, List.all_map]
  rfl
section
variable {P : Program} {w : World} {K : PySem.W.Frag} {mg : Str → Option Value} {base : Heap}
abbrev N_is_whole_from : List Str := ["value", "low", "high"]
theorem sc_is_whole_from : FnScope N_is_whole_from ["value", "low", "high"] (defScope (top 12)) := ⟨rfl, rfl, rfl, by decide +kernel, rfl, by decide +kernel, by decide +kernel⟩
def spFrom (K : PySem.W.Frag) : Sp := fun vs H Q _ => ∃ (v : V) (d : Th) (lo hi : Int), vs = [v, .int lo, .int hi] ∧ AtK5 K H v d ∧ Q (.bl (fromB lo hi d)) H
theorem ok_is_whole_from (T : Txt K mg) (C_is_whole : Cal P w K mg base 1 "is_whole" (spWhole K) []) : Cal P w K mg base 2 "is_whole_from" (spFrom K) [] := by
  obtain ⟨fd, F⟩ := T.d_is_whole_from
  refine ⟨_, fd, ["value", "low", "high"], [], ?_, T.g_is_whole_from, F.kp, F.bindsN fun _ _ _ _ _ _ us hl => match us, hl with | [_, _, _], _ => rfl, .nil⟩
  refine F.ok sc_is_whole_from (fun vs H Q E h => by obtain ⟨_, _, _, _, rfl, _⟩ := h; rfl) (fun cdv A outer s H vs Q E hr h => ?_)
  have hu := hu_of hr
  refine ⟨_, PSs.nox (pss_one (ps_ret (pe_and (pe_c C_is_whole hr (by omega) rfl (pa_cons (pv 0) pa_nil)) (pe_one (pe_chain op_le op_le (pv 1) (pv 0) (pv 2)))))), ?_⟩
  obtain ⟨v, d, lo, hi, rfl, hv, hQ⟩ := h
  refine ⟨_, rfl, v, d, rfl, hv, _, rfl, ?_⟩
  cases hv with
  | int i =>
    refine iteTo rfl ⟨_, rfl, _, rfl, _, _, rfl, rfl, _, rfl, ?_⟩
    have hQ : Q (.bl (decide (lo ≤ i) && decide (i ≤ hi))) H := hQ
    by_cases c : lo ≤ i
    · rw [decide_eq_true c] at hQ ⊢
      exact iteTo rfl ⟨_, rfl, _, _, rfl, rfl, hQ⟩
    · rw [decide_eq_false c] at hQ ⊢
      exact iteFo rfl hQ
  | bl b => exact iteFo rfl hQ
  | non => exact iteFo rfl hQ
  | str x _ => exact iteFo rfl hQ
  | rat _ => exact iteFo rfl hQ
  | lst _ _ => exact iteFo rfl hQ
  | tup _ _ => exact iteFo rfl hQ
  | dic _ _ => exact iteFo rfl hQ

abbrev N_is_word : List Str := ["value", "letter"]
theorem sc_is_word : FnScope N_is_word ["value"] (defScope (top 21)) := ⟨rfl, rfl, rfl, by decide +kernel, rfl, by decide +kernel, by decide +kernel⟩
def spWord (K : PySem.W.Frag) : Sp := fun vs H Q _ => ∃ (v : V) (d : Th), vs = [v] ∧ AtK5 K H v d ∧ ∀ H', Ex H H' → Q (.bl (wordB d)) H'
theorem fn_is_word (T : Txt K mg)  {fd : FuncData} (F : FunD K "is_word" "is_word" (defArgs (top 21)) (defBody (top 21)) (defScope (top 21)) [] [] (He.ga K "is_word") fd) : FnOk P w K mg base C8.CX0 1 (He.ga K "is_word") fd ["value"] (spWord K) := by
  refine F.ok sc_is_word (fun vs H Q E h => by obtain ⟨_, _, rfl, _⟩ := h; rfl) (fun cdv A outer s H vs Q E hr h => ?_)
  have hu := hu_of hr
  refine ⟨_, PSs.nox (pss_cons (ps_if (PW.pt (pw_or (pt_not (pt_val (pe_callB call_isi (by rfl) T.f_isinstance (by decide +kernel) (pa_cons (pv 0) (pa_cons (pe_bltn (v := .ty "str") (u := .type "str") (by rfl) T.f_str (by decide +kernel) rfl) pa_nil))))) (pw_or1 (pt_not (pt_chain op_le op_le pe_int (pe_callB call_len_str (by rfl) T.f_len (by decide +kernel) (pa_cons (pv 0) pa_nil)) (pe_gc rfl T.c_LONGEST_WORD)))))) (pss_one (ps_ret pe_bl)) pss_nil)
      (pss_one (ps_ret (pe_and (pe_callB (cr_all rfl) (by rfl) T.f_all (by decide +kernel) (pa_cons (pe_lc (own := [("letter", 1)]) rfl sc_is_word.nd (pi_str (pv 0)) (blkOk_by (own := [("letter", 1)]) (N := N_is_word) (sc := defScope (top 21)) (by decide +kernel)) (fun _ _ _ _ _ => (pg_name (i := 1) sc_is_word.nd rfl (Or.inl rfl))) (fun _ _ _ _ _ => pts_nil) (fun _ _ _ _ _ => (pe_cmpR op_in_sign (pv 1) (pe_gc rfl T.c_LETTERS) rfl))) pa_nil)) (pe_one (pe_cmpR op_notIn_seq (pv 0) (pe_gc rfl T.c_LANGUAGE_WORDS) rfl)))))), ?_⟩
  obtain ⟨v, d, rfl, hv, hQ⟩ := h
  refine ⟨_, rfl, _, _, _, _, _, rfl, .ty _, At.tyx T.rc hv, Kd.kit T.rc _ (by decide), _, rfl, ?_⟩
  cases hv with
  | str z hz =>
    refine ⟨_, rfl, _, rfl, Nat.le_trans hz (by decide), _, _, rfl, rfl, _, rfl, ?_⟩
    have hQ : ∀ H', Ex H H' → Q (.bl (wordS z)) H' := hQ
    unfold wordS at hQ
    by_cases c1 : 1 ≤ z.length
    · rw [decide_eq_true c1] at hQ
      rw [if_pos (decide_eq_true (by omega))]
      refine ⟨_, _, rfl, rfl, _, rfl, ?_⟩
      by_cases c2 : z.length ≤ 8
      · rw [decide_eq_true c2] at hQ
        rw [decide_eq_true (by omega)]
        refine ⟨_, rfl, _, rfl, fun D hD => ?_⟩
        refine lc_fn walk_str (fun i => .bl (decide (z.cps.getD i 0 ∈ alpha.cps.toList))) (by show z.length ≤ 1000; omega) hD (fun _ _ => trivial) ?_ ?_
        · rintro i x H1' H1 Z B hi e hl ⟨rfl, c, hc, rfl⟩ hZ
          refine ⟨rfl, ?_⟩
          refine ⟨_, rfl, c, alpha, rfl, rfl, ?_⟩
          have e2 : z.cps.getD i 0 = c := by simp [hc]
          rw [← e2]
          exact hZ _ (Evl.Ex.refl _)
        · intro H1 e hd
          refine ⟨D, (List.range z.cps.size).map fun i => decide (z.cps.getD i 0 ∈ alpha.cps.toList), rfl, by rw [List.map_map]; exact SqL.of hd, _, rfl, ?_⟩
          rw [lowB_range]
          cases hl : lowB z with
          | false =>
            rw [hl] at hQ
            exact hQ _ e
          | true =>
            rw [hl] at hQ
            refine ⟨_, rfl, He.ga K "LANGUAGE_WORDS", barred.map V.str, rfl, .inr (T.t_LW _), rfl, by decide +kernel, ?_⟩
            have e2 : inV (.str z) (barred.map V.str) = isBar z := by
              simp only [inV, isBar, barred, List.map_cons, List.map_nil, List.any_cons, List.any_nil, eqV, List.contains_cons, List.contains_nil]
              simp only [Bool.beq_comm]
            rw [e2]
            exact hQ _ e
      · rw [decide_eq_false c2] at hQ
        rw [decide_eq_false (by omega)]
        exact iteTo rfl (hQ _ (Evl.Ex.refl _))
    · rw [decide_eq_false c1] at hQ
      rw [if_neg (by simp; omega)]
      exact ⟨_, rfl, iteTo rfl (hQ _ (Evl.Ex.refl _))⟩
  | bl b => exact hQ _ (Evl.Ex.refl _)
  | non => exact hQ _ (Evl.Ex.refl _)
  | int i => exact hQ _ (Evl.Ex.refl _)
  | rat _ => exact hQ _ (Evl.Ex.refl _)
  | lst _ _ => exact hQ _ (Evl.Ex.refl _)
  | tup _ _ => exact hQ _ (Evl.Ex.refl _)
  | dic _ _ => exact hQ _ (Evl.Ex.refl _)
theorem ok_is_word (T : Txt K mg)  : Cal P w K mg base 1 "is_word" (spWord K) [] := by
  obtain ⟨fd, F⟩ := T.d_is_word
  exact ⟨_, fd, ["value"], [], fn_is_word T  F, T.g_is_word, F.kp, F.bindsN fun _ _ _ _ _ _ us hl => match us, hl with | [_], _ => rfl, .nil⟩
theorem okK_is_word (T : Txt K mg)  : CalK P w K mg base 1 "is_word" ["value"] [0] (spWord K) := by
  obtain ⟨fd, F⟩ := T.d_is_word
  exact ⟨_, fd, ["value"], fn_is_word T  F, T.g_is_word, F.kp, F.kbindsP 0 ["value"] [0] (fun _ _ _ _ _ _ us ws h1 h2 => match us, ws, h1, h2 with | [], [_], _, _ => rfl)⟩

abbrev N_is_sized_name : List Str := ["value"]
theorem sc_is_sized_name : FnScope N_is_sized_name ["value"] (defScope (top 22)) := ⟨rfl, rfl, rfl, by decide +kernel, rfl, by decide +kernel, by decide +kernel⟩
def spSized (K : PySem.W.Frag) : Sp := fun vs H Q _ => ∃ (v : V) (d : Th), vs = [v] ∧ AtK5 K H v d ∧ ∀ H', Ex H H' → Q (.bl (pairB d)) H'
theorem ok_is_sized_name (T : Txt K mg) (C_is_word : Cal P w K mg base 1 "is_word" (spWord K) []) (C_is_whole_from : Cal P w K mg base 2 "is_whole_from" (spFrom K) []) : Cal P w K mg base 3 "is_sized_name" (spSized K) [] := by
  obtain ⟨fd, F⟩ := T.d_is_sized_name
  refine ⟨_, fd, ["value"], [], ?_, T.g_is_sized_name, F.kp, F.bindsN fun _ _ _ _ _ _ us hl => match us, hl with | [_], _ => rfl, .nil⟩
  refine F.ok sc_is_sized_name (fun vs H Q E h => by obtain ⟨_, _, rfl, _⟩ := h; rfl) (fun cdv A outer s H vs Q E hr h => ?_)
  have hu := hu_of hr
  refine ⟨_, PSs.nox (pss_cons (ps_if (PW.pt (pw_or (pt_not (pt_val (pe_callB call_isi (by rfl) T.f_isinstance (by decide +kernel) (pa_cons (pv 0) (pa_cons (pe_bltn (v := .ty "tuple") (u := .type "tuple") (by rfl) T.f_tuple (by decide +kernel) rfl) pa_nil))))) (pw_or1 (pt_cmpR op_ne (pe_callB call_len_seq (by rfl) T.f_len (by decide +kernel) (pa_cons (pv 0) pa_nil)) pe_int (nomark _))))) (pss_one (ps_ret pe_bl)) pss_nil)
      (pss_one (ps_ret (pe_and (pe_c C_is_word hr (by omega) rfl (pa_cons (pe_ix ix_tup (pv 0) pe_int (fun _ _ => rfl)) pa_nil)) (pe_one (pe_c C_is_whole_from hr (by omega) rfl (pa_cons (pe_ix ix_tup (pv 0) pe_int (fun _ _ => rfl)) (pa_cons (pe_gc rfl T.c_LEAST_SIZE) (pa_cons (pe_gc rfl T.c_GREATEST_SIZE) pa_nil))))))))), ?_⟩
  obtain ⟨v, d, rfl, hv, hQ⟩ := h
  refine ⟨_, rfl, _, _, _, _, _, rfl, .ty _, At.tyx T.rc hv, Kd.kit T.rc _ (by decide), _, rfl, ?_⟩
  cases hv with
  | @tup a xs ds hr hs =>
    refine ⟨_, rfl, a, xs, rfl, .inr (.inl hr), rfl, _, rfl, ?_⟩
    by_cases hl : ds.length = 2
    · obtain ⟨v1, v2, d1, d2, rfl, rfl, h1, h2⟩ := hs.two hl
      refine iteFo rfl ?_
      refine ⟨_, rfl, a, _, 0, v1, rfl, rfl, .inl hr, rfl, v1, d1, rfl, h1, fun H1 g1 => ⟨_, rfl, ?_⟩⟩
      have hQ : ∀ H', Ex H H' → Q (.bl (wordB d1 && fromB 2 6 d2)) H' := hQ
      cases c : wordB d1 with
      | false =>
        rw [c] at hQ
        exact iteFo rfl (hQ _ g1)
      | true =>
        rw [c] at hQ
        exact iteTo rfl ⟨_, rfl, a, _, 1, v2, rfl, rfl, .inl (hr.mono g1), rfl, v2, d2, 2, 6, rfl, h2.up g1, hQ _ g1⟩
    · refine iteTo ?_ ?_
      · have := hs.len
        simp
        omega
      · rw [pairB_len hl] at hQ
        exact hQ _ (Evl.Ex.refl _)
  | bl b => exact hQ _ (Evl.Ex.refl _)
  | non => exact hQ _ (Evl.Ex.refl _)
  | int i => exact hQ _ (Evl.Ex.refl _)
  | rat _ => exact hQ _ (Evl.Ex.refl _)
  | lst _ _ => exact hQ _ (Evl.Ex.refl _)
  | str _ _ => exact hQ _ (Evl.Ex.refl _)
  | dic _ _ => exact hQ _ (Evl.Ex.refl _)

end
end K05
set_option Elab.async false
set_option linter.all false
set_option maxRecDepth 100000
set_option maxHeartbeats 1000000
/-! HxN: sets of texts that may stand twice -/
namespace SY
open PySem
/-- how many different ones stand among the first i -/
def dc (xs : List Str) : Nat → Nat
  | 0 => 0
  | i + 1 => match xs[i]? with
    | none => dc xs i
    | some x => if (xs.take i).any (· == x) then dc xs i else dc xs i + 1
theorem dc_succ {xs : List Str} {i : Nat} {x : Str} (h : xs[i]? = some x) : dc xs (i + 1) = if (xs.take i).any (· == x) then dc xs i else dc xs i + 1 := by
  show (match xs[i]? with | none => dc xs i | some x => if (xs.take i).any (· == x) then dc xs i else dc xs i + 1) = _
  rw [h]
theorem dc_le (xs : List Str) : ∀ i, dc xs i ≤ i
  | 0 => Nat.le_refl _
  | i + 1 => by
    have ih := dc_le xs i
    cases h : xs[i]? with
    | none =>
      have e : dc xs (i + 1) = dc xs i := by rw [dc, h]
      omega
    | some x =>
      rw [dc_succ h]
      by_cases c : (xs.take i).any (· == x) = true
      · rw [if_pos c]; omega
      · rw [if_neg c]; omega
theorem dc_full {xs : List Str} : ∀ i, i ≤ xs.length → (dc xs i = i ↔ (xs.take i).Nodup)
  | 0, _ => by simp [dc]
  | i + 1, h => by
    have hx : xs[i]? = some xs[i] := List.getElem?_eq_getElem (by omega)
    have ih := dc_full (xs := xs) i (by omega)
    have le := dc_le xs i
    rw [dc_succ hx, List.take_succ, hx]
    show _ ↔ (xs.take i ++ [xs[i]]).Nodup
    rw [List.nodup_append]
    cases e : (xs.take i).any (· == xs[i]) with
    | true =>
      obtain ⟨y, hy, q⟩ := List.any_eq_true.mp e
      have q : y = xs[i] := beq_iff_eq.mp q
      rw [if_pos rfl]
      constructor
      · intro z; omega
      · rintro ⟨_, _, z⟩
        exact absurd q (z y hy _ (List.mem_singleton.mpr rfl))
    | false =>
      rw [if_neg (by decide)]
      have ne : ∀ y ∈ xs.take i, y ≠ xs[i] := fun y hy z => by
        have := List.any_eq_false.mp e y hy
        exact this (beq_iff_eq.mpr z)
      constructor
      · intro z
        exact ⟨ih.mp (by omega), by simp, fun a ha b hb => by rw [List.mem_singleton.mp hb]; exact ne a ha⟩
      · rintro ⟨z, _, _⟩
        have := ih.mpr z
        omega
theorem dc_nodup (xs : List Str) : dc xs xs.length = xs.length ↔ xs.Nodup := by
  rw [dc_full _ (Nat.le_refl _), List.take_length]
end SY
open PySem PySem.Spec PyProof.Rows
namespace SY
open PySem PySem.Spec PyProof.Rows
section
variable {prog : Program} {w : World} {A : Around} {R : Result → Shared → Prop} {I : Addr} {fp wr : List Addr} {G : Array GenState → Array GenState → Prop} {n : Nat} {P : Nat → Value → Prop} {St : Nat → Shared → Prop}
/-- the walk that fills a set with texts -/
theorem walk_set (W : WalksS prog w A.in1 I fp wr G n P St) (S : Addr) (hSf : S ∉ fp) (xs : List Str) (hsz : xs.length = n) (hn1 : n < 30)
    (hval : ∀ i v, P i v → ∃ t, v = .str (xs.getD i Str.empty) t) :
    ∀ (k i : Nat) (s : Shared), n - i = k → i ≤ n → St i s →
      s.heap.SetOf (PySem.strKind prog w) S (fun k' => (xs.take i).any (· == k')) (dc xs i) →
      (∀ s', Moved (S :: wr) G s s' → s'.heap.SetOf (PySem.strKind prog w) S (fun k' => (xs.take n).any (· == k')) (dc xs n) → R (.ok (.ret .none)) s') →
      codeAny (model prog w) A (.builtin "set.update.loop" ⟨[.ref S, .ref I], []⟩) R s := by
  have offS : S ∉ wr := fun h => hSf (W.sub _ h)
  have more : ∀ b ∈ wr, b ∈ S :: wr := fun b hb => List.mem_cons_of_mem _ hb
  intro k
  induction k with
  | zero =>
    intro i s hk hi hst hS hR
    have e : i = n := by omega
    subst e
    refine codeAny_builtin PyProof.Rows.F.entry_set_update_loop ?_
    rw [Around.under_plainId PyProof.Rows.F.plain_set_update_loop _]
    show wpAny _ A.in1 (pyNext (.ref I) >>= _) _ _ s
    refine wpAny_bind (W.done s _ _ hst fun s' hm => ?_)
    refine wpAny_pure (hR s' (hm.mono more) ?_)
    obtain ⟨o, es, ep, t, ho, rest⟩ := hS
    exact ⟨o, es, ep, t, hm.heap S _ offS ho, rest⟩
  | succ k ih =>
    intro i s hk hi hst hS hR
    have hlt : i < n := by omega
    have hx : xs[i]? = some xs[i] := List.getElem?_eq_getElem (by omega)
    have hxi : xs.getD i Str.empty = xs[i] := by rw [List.getD_eq_getElem?_getD, hx]; rfl
    refine codeAny_builtin PyProof.Rows.F.entry_set_update_loop ?_
    rw [Around.under_plainId PyProof.Rows.F.plain_set_update_loop _]
    show wpAny _ A.in1 (pyNext (.ref I) >>= _) _ _ s
    refine wpAny_bind (W.item i s _ _ hlt hst fun v s' hP hst' hm => ?_)
    obtain ⟨t, rfl⟩ := hval i v hP
    rw [hxi]
    have hS' : s'.heap.SetOf (PySem.strKind prog w) S (fun k' => (xs.take i).any (· == k')) (dc xs i) := by
      obtain ⟨o, es, ep, tb, ho, rest⟩ := hS
      exact ⟨o, es, ep, tb, hm.heap S _ offS ho, rest⟩
    show wpAny _ A.in1 (holding [Value.str xs[i] t] (setAdd S (.str xs[i] t)) >>= _) _ _ s'
    refine wpAny_bind (wpAny_holding ?_)
    unfold setAdd
    refine wpAny_holding ?_
    refine wpAny_bind ((PySem.strKind prog w).pyHash (k := xs[i]) (strKind_is _ _ _ _) ?_)
    refine wpAny_setAddHashed_of (knd := PySem.strKind prog w) (s := { s' with toks := s'.toks + 1 }) (strKind_is _ _ _ _) rfl hS' (by have := dc_le xs i; unfold scanBound; omega) fun h' hsb hS2 => ?_
    have hSi : h'.SetOf (PySem.strKind prog w) S (fun k' => (xs.take (i + 1)).any (· == k')) (dc xs (i + 1)) := by
      refine SetOf_congr hS2 (fun k' => ?_) (by rw [dc_succ hx])
      rw [List.take_succ, hx, List.any_append]
      have e1 : (some xs[i]).toList.any (· == k') = decide (k' = xs[i]) := by
        show ((xs[i] == k') || false) = _
        rw [Bool.or_false]
        by_cases e : k' = xs[i]
        · rw [e]; simp
        · rw [decide_eq_false e]
          exact beq_eq_false_iff_ne.mpr (Ne.symm e)
      rw [e1]
    refine wpAny_pure ⟨plainId_quiet PyProof.Rows.F.plain_set_update_loop _, ih (i + 1) _ (by omega) hlt (W.frame _ s' _ _ hst' (Nat.le_succ _) fun b hb o e => ?_) hSi fun s'' hm'' hS'' => ?_⟩
    · rw [hsb.2 b (fun h : b = S => hSf (by rw [← h]; exact hb))]; exact e
    · refine hR s'' (Moved.trans W.gtrans ((hm.mono more).then_heap (Nat.le_succ _) fun b o hb e => ?_) hm'') hS''
      rw [hsb.2 b (fun h : b = S => hb (by rw [h]; exact List.mem_cons_self))]; exact e
end
section
variable {prog : Program} {w : World} {A : Around} {E : Value → Shared → Prop} {s : Shared}
theorem set_of_strs {l : Addr} {items : Array Value} {xs : List Str} {Q : Value → Shared → Prop}
    (hh : A.handled = none) (hl : s.heap.IsList l items) (hi : PyProof.Rows.StrsAre items.toList xs) (hn1 : xs.length < 30)
    (h : ∀ (h' : Heap) (tk : Nat), h'.SetOf (PySem.strKind prog w) s.heap.objs.size (fun k' => (xs.take items.size).any (· == k')) (dc xs items.size) →
      (∀ b o, b < s.heap.objs.size → s.heap.get? b = some o → h'.get? b = some o) → Q (.ref s.heap.objs.size) { s with heap := h', toks := tk }) :
    wpAny (model prog w) A (call (.type "set") [.ref l]) Q E s := by
  obtain ⟨c, tl, hmro⟩ := PySem.F.called_set.mro
  have hmade := PySem.F.called_set.made
  have hsub := PySem.F.called_set.sub
  refine wpAny_call (codeAny_of_tree ?_)
  show wpAny _ _ (callAny (.type "set") _) _ _ _
  refine wpAny_pure ⟨Code.quiet_builtin _ (by decide +kernel), codeAny_builtin PySem.F.entry_type_call ?_⟩
  rw [Around.under_plain (weight_type_call_type "set" [.ref l] []) rfl]
  have h1 := PySem.F.called_set.notType
  have h2 := PySem.F.called_set.canCreate
  have hct := PySem.F.typeCall_set_1 (.ref l)
  repeat (any_goals (first | assumption | wp_step))
  refine codeAny_mono (code_set_new_1 (.ref l) (E := E) (Q₁ := fun obj s₁ => ∃ led : Bool, obj = .ref s.heap.objs.size ∧ s₁ = { s with heap := s.heap.push { cls := .type "set", dict := none, data := .set #[] 0 (.fresh 0 0 led) } }) fun led => ⟨led, rfl, rfl⟩) fun r s₁ hr => ?_
  cases r with
  | error e => exact hr
  | ok fl =>
    cases fl with
    | ret obj =>
      obtain ⟨led, rfl, rfl⟩ := hr
      have hS : (s.heap.push { cls := .type "set", dict := none, data := .set #[] 0 (.fresh 0 0 led) }).get? s.heap.objs.size = some { cls := .type "set", dict := none, data := .set #[] 0 (.fresh 0 0 led) } := Heap.get?_push_size _ rfl
      have hT : Shared.TypeIs { s with heap := s.heap.push { cls := .type "set", dict := none, data := .set #[] 0 (.fresh 0 0 led) } } (.ref s.heap.objs.size) "set" := ⟨_, hS, rfl⟩
      have hli := PySem.F.called_set.init.lookup
      have hbi := PySem.F.called_set.init.bind (.ref s.heap.objs.size)
      repeat (any_goals (first | assumption | wp_step))
      refine codeAny_mono (codeAny_call_builtin (R := wants (fun r s₂ => r = .none ∧ ∃ h' tk, s₂ = { s with heap := h', toks := tk } ∧
          h'.SetOf (PySem.strKind prog w) s.heap.objs.size (fun k' => (xs.take items.size).any (· == k')) (dc xs items.size) ∧
          (∀ b o, b < s.heap.objs.size → s.heap.get? b = some o → h'.get? b = some o)) E) PySem.F.called_set.init.plain PySem.F.entry_set_init (check_set_init_1 hT ?_)) fun r₂ s₂ hr₂ => ?_
      · obtain ⟨ol, hol, hcl, nl, hdl⟩ := hl
        obtain ⟨ocls, odict, odata, oslots⟩ := ol
        simp only at hcl hdl
        subst hcl; subst hdl
        have hol' : (s.heap.push { cls := .type "set", dict := none, data := .set #[] 0 (.fresh 0 0 led) }).get? l = some { cls := .type "list", dict := odict, data := .seq items nl, slots := oslots } := Heap.get?_push_of_some _ hol
        have hsls := PySem.F.sub_list_set
        have hslf := PySem.F.sub_list_frozenset
        have hne : (Value.type "list" == Value.type "dict") = false := by decide
        have hl1 : (s.heap.push { cls := .type "set", dict := none, data := .set #[] 0 (.fresh 0 0 led) }).IsList l items := ⟨_, hol', rfl, nl, rfl⟩
        unfold Builtin.«set.__init__» noKeywords Builtin.Frozenset.updateFrom
        generalize hPI : pyIter = PI
        wp_walk
        subst hPI
        refine wpAny_pyIter_list hl1 ?_
        refine wpAny_bind (wpAny_runValue ?_)
        have hlS : l < s.heap.objs.size := Heap.lt_size hol
        have hh3 : A.in1.in1.in1.handled = none := by simp [hh]
        have hneI : l ≠ (s.heap.push { cls := .type "set", dict := none, data := .set #[] 0 (.fresh 0 0 led) }).objs.size := by
          rw [Heap.size_push]; exact Nat.ne_of_lt (Nat.lt_succ_of_lt hlS)
        have hSf : s.heap.objs.size ∉ [(s.heap.push { cls := .type "set", dict := none, data := .set #[] 0 (.fresh 0 0 led) }).objs.size, l] := by
          rw [Heap.size_push]; simp only [List.mem_cons, List.mem_singleton, List.not_mem_nil, or_false, not_or]
          exact ⟨Nat.ne_of_lt (Nat.lt_succ_self _), Nat.ne_of_gt hlS⟩
        have hsz : xs.length = items.size := by rw [← StrsAre.len_eq hi, Array.length_toList]
        have hval : ∀ (i : Nat) (v : Value), items[i]? = some v → ∃ t, v = .str (xs.getD i Str.empty) t := fun i v hv => SS.strs_at hi i v (by rw [Array.getElem?_toList]; exact hv)
        refine walk_set ((Walks.list hh3 _ l hneI items).toS) s.heap.objs.size hSf xs hsz (by rw [← hsz]; exact hn1) hval (items.size - 0) 0 _ (by omega) (Nat.zero_le _)
          ⟨⟨_, Heap.get?_push_size _ rfl, rfl, rfl⟩, (hl1.push _)⟩ ?hS0 ?hR
        case hS0 =>
          have hget : ((s.heap.push { cls := .type "set", dict := none, data := .set #[] 0 (.fresh 0 0 led) }).push { cls := .type "list_iterator", data := .fields #[.ref l, .int 0 0] }).get? s.heap.objs.size
              = some { cls := .type "set", dict := none, data := .set #[] 0 (.fresh 0 0 led) } := Heap.get?_push_of_some _ hS
          exact PyProof.Rows.SetOf_congr ((PyProof.Rows.setObjOf_fresh (knd := PySem.strKind prog w) led).setOf hget (by unfold scanBound; omega)) (fun _ => rfl) rfl
        case hR =>
          intro s' hm hS'
          obtain ⟨h', g', d', tk', os'⟩ := s'
          have eg : g' = s.gens := hm.gens
          have ed : d' = s.drawn := hm.drawn
          have eo : os' = s.os := hm.os
          subst eg; subst ed; subst eo
          show wpAny _ _ _ _ _ _
          refine wpAny_pure ?_
          show wpAny _ _ (ret Value.none) _ _ _
          refine wpAny_pure ⟨rfl, h', tk', rfl, hS', fun b o hb e => ?_⟩
          have hb1 : b ≠ s.heap.objs.size := Nat.ne_of_lt hb
          have hb2 : b ≠ (s.heap.push { cls := .type "set", dict := none, data := .set #[] 0 (.fresh 0 0 led) }).objs.size := by
            rw [Heap.size_push]; exact Nat.ne_of_lt (Nat.lt_succ_of_lt hb)
          exact hm.heap b o (by simp only [List.mem_cons, List.mem_singleton, List.not_mem_nil, or_false, not_or]; exact ⟨hb1, hb2⟩) (Heap.get?_push_of_some _ (Heap.get?_push_of_some _ e))
      · cases r₂ with
        | error e => exact hr₂
        | ok fl₂ =>
          cases fl₂ with
          | ret r =>
            obtain ⟨rfl, h', tk, rfl, hS', hk'⟩ := hr₂
            repeat (any_goals (first | assumption | wp_step))
            exact h _ _ hS' hk'
          | _ => exact hr₂.elim
    | _ => exact hr.elim
end
end SY
namespace L2
open PySem PySem.Spec PyProof.Rows SY
section
variable {X : Cx}
/-- len(set(xs)) of a list of texts -/
def tLenSetD (K : PySem.W.Frag) (ta : TE) : TE := fun σ H Q => ta σ H fun x H1 => ∃ (l : Addr) (xs : List Str), x = .ref l ∧ SqL K H1 l (xs.map V.str) ∧ xs.length < 30 ∧ Q (.int (dc xs xs.length : Nat)) H1
theorem pe_lenSetD {a : Expr} {ta : TE} {p p2 q pos : Pos} (hc : X.calm = true) (hg : Gl X "len") (hm : X.mg "len" = none) (hg2 : Gl X "set") (hm2 : X.mg "set" = none) (ha : PE X a ta)
    (na : starEach [a] X.env = (false, eval a X.env) :: starEach [] X.env := by rfl) : PE X (.Call (.Name "len" p) [.Call (.Name "set" p2) [a] [] q] [] pos) (tLenSetD X.K ta) := by
  refine ⟨fun pins s σ H Q I h => ?_⟩
  refine Call_ (ld_blt I hg hm boot_len ?_)
  refine PyProof.Rows.callWith_builtin1 (PyProof.Rows.args_cons ?_ rfl) rfl rfl
  refine Call_ (ld_blt I hg2 hm2 boot_set ?_)
  refine PyProof.Rows.callWith_type1 (PyProof.Rows.args_cons (thn (ha.run pins s σ H _ I h) fun v s1 ⟨x, H1, I1, r1, q1⟩ => PyProof.Rows.args_nil ?_) na) na rfl
  obtain ⟨l, xs, rfl, hq, h1, q1⟩ := q1
  cases r1
  obtain ⟨its, r, pl, hz⟩ := I1.list hq
  refine SY.set_of_strs (I1.ok.hd hc) pl.isList (by simpa using strsAre_of r) h1 fun h' tk hS hk => ?_
  refine PyProof.Rows.args_nil ?_
  have hl : its.toArray.size = xs.length := by rw [List.size_toArray, ← r.length, List.length_map]
  rw [hl] at hS
  obtain ⟨o, es, ep, t, ho, hex, hd, _, _, _, hf, hn⟩ := hS
  have I2 : Inv X pins σ H1 { s1 with heap := h', toks := tk } := I1.kept fun b o e => hk b o (Heap.lt_size e) e
  exact call_len_set ho hex hd hf (by have := dc_le xs xs.length; rw [hn] <;> omega) ⟨.int (dc xs xs.length : Nat), H1, I2.tok _, ⟨_, by rw [hn]⟩, q1⟩
end
end L2
set_option Elab.async false
set_option linter.all false
set_option maxRecDepth 100000
set_option maxHeartbeats 400000
namespace K05
open PySem PySem.Spec PyProof.Rows L2 C8

theorem words_list (ns : NS) : (List.range ns.length).map (fun i => V.str ((ns.getD i (alpha, 0)).1)) = (wds ns).map V.str := by
  refine List.ext_getElem? fun j => ?_
  by_cases hj : j < ns.length
  · rw [List.getElem?_map, List.getElem?_range hj, List.getElem?_map]
    unfold wds
    rw [List.getElem?_map, List.getElem?_eq_getElem hj]
    simp [List.getD_eq_getElem?_getD, hj]
  · rw [List.getElem?_eq_none (by simp; omega), List.getElem?_eq_none (by simp [wds]; omega)]
theorem sizes_list (ns : NS) : (List.range ns.length).map (fun i => V.int (((ns.getD i (alpha, 0)).2 : Nat) : Int)) = rV (szs ns) := by
  refine List.ext_getElem? fun j => ?_
  by_cases hj : j < ns.length
  · rw [List.getElem?_map, List.getElem?_range hj, List.getElem?_map]
    unfold szs
    rw [List.getElem?_map, List.getElem?_eq_getElem hj]
    simp [List.getD_eq_getElem?_getD, hj]
  · rw [List.getElem?_eq_none (by simp; omega), List.getElem?_eq_none (by simp [szs]; omega)]
theorem getD_of {ns : NS} {i : Nat} {n : Str × Nat} (h : ns[i]? = some n) : ns.getD i (alpha, 0) = n := by rw [List.getD_eq_getElem?_getD, h]; rfl
theorem prodN_snoc : ∀ (l : List Nat) (s : Nat), prodN (l ++ [s]) = prodN l * s
  | [], s => by simp [prodN]
  | a :: l, s => by
    show a * prodN (l ++ [s]) = a * prodN l * s
    rw [prodN_snoc l s, Nat.mul_assoc]
theorem prodN_take (sz : List Nat) (i s : Nat) (h : sz[i]? = some s) : prodN (sz.take (i + 1)) = prodN (sz.take i) * s := by
  rw [List.take_succ, h]
  exact prodN_snoc _ s
theorem wds_at {ns : NS} {i : Nat} {n : Str × Nat} (h : ns[i]? = some n) : (wds ns)[i]? = some n.1 := by unfold wds; rw [List.getElem?_map, h]; rfl
/-- the pair of a name and its size -/
def nsTh (n : Str × Nat) : Th := .tup [.str n.1, .int (n.2 : Int)]
def unTh : Th → Str × Nat
  | .tup [.str z, .int i] => (z, i.toNat)
  | _ => (alpha, 0)
theorem unTh_ns (n : Str × Nat) : unTh (nsTh n) = n := by
  obtain ⟨z, k⟩ := n
  show (z, ((k : Int)).toNat) = (z, k)
  rw [Int.toNat_natCast]
def PrOk (n : Str × Nat) : Prop := wordS n.1 = true ∧ 2 ≤ n.2 ∧ n.2 ≤ 6
theorem pairB_get {d : Th} (h : pairB d = true) : ∃ n, d = nsTh n ∧ PrOk n := by
  match d, h with
  | .tup [a, b], h =>
    have h : (wordB a && fromB 2 6 b) = true := h
    obtain ⟨h1, h2⟩ := Bool.and_eq_true_iff.mp h
    match a, h1, b, h2 with
    | .str z, h1, .int i, h2 =>
      have h2 : (decide ((2 : Int) ≤ i) && decide (i ≤ 6)) = true := h2
      obtain ⟨h3, h4⟩ := Bool.and_eq_true_iff.mp h2
      have h3 := of_decide_eq_true h3
      have h4 := of_decide_eq_true h4
      refine ⟨(z, i.toNat), ?_, h1, by show 2 ≤ i.toNat; omega, by show i.toNat ≤ 6; omega⟩
      show Th.tup [.str z, .int i] = Th.tup [.str z, .int ((i.toNat : Nat) : Int)]
      rw [Int.toNat_of_nonneg (by omega)]
theorem pairs_get : ∀ {l : List Th}, l.all pairB = true → ∃ ns : NS, l = ns.map nsTh ∧ ∀ n ∈ ns, PrOk n
  | [], _ => ⟨[], rfl, fun n h => by cases h⟩
  | d :: l, h => by
    rw [List.all_cons, Bool.and_eq_true] at h
    obtain ⟨n, rfl, hn⟩ := pairB_get h.1
    obtain ⟨ns, rfl, hs⟩ := pairs_get h.2
    exact ⟨n :: ns, rfl, fun m hm => by
      rcases List.mem_cons.mp hm with rfl | hm
      · exact hn
      · exact hs m hm⟩
theorem map_un (ns : NS) : (ns.map nsTh).map unTh = ns := by
  rw [List.map_map]
  conv => rhs; rw [← List.map_id ns]
  exact List.map_congr_left fun n _ => unTh_ns n
/-- names are different, and few stores -/
def nsB (ns : NS) : Bool := decide (wds ns).Nodup && decide (prodN (szs ns) ≤ 8)
def namesL (l : List Th) : Bool := decide (1 ≤ l.length) && (decide (l.length ≤ 3) && (l.all pairB && nsB (l.map unTh)))
def namesB : Th → Bool
  | .lst l => namesL l
  | .tup l => namesL l
  | _ => false
theorem at_pair {R : Addr} {H : Hp} {v : V} {n : Str × Nat} (h : At R H v (nsTh n)) : ∃ p, v = .ref p ∧ Rd H p (.tup (nV n)) := by
  obtain ⟨z, k⟩ := n
  cases h with
  | @tup a xs ds hr hs =>
    cases hs with
    | cons h1 h2 =>
      cases h2 with
      | cons h2 h3 =>
        cases h3
        cases h1
        cases h2
        exact ⟨_, rfl, hr⟩
/-- sizes as they come: few, small -/
def FewS (sz : List Nat) : Prop := sz.length ≤ 3 ∧ ∀ s ∈ sz, s ≤ 6
theorem few_prod : ∀ {sz : List Nat}, (∀ s ∈ sz, s ≤ 6) → prodN sz ≤ 6 ^ sz.length
  | [], _ => Nat.le_refl _
  | s :: sz, h => by
    have h1 := h s (List.mem_cons_self ..)
    have h2 := few_prod (sz := sz) fun t ht => h t (List.mem_cons_of_mem _ ht)
    show s * prodN sz ≤ 6 ^ (sz.length + 1)
    rw [Nat.pow_succ, Nat.mul_comm (6 ^ sz.length)]
    exact Nat.mul_le_mul h1 h2
theorem FewS.take {sz : List Nat} (h : FewS sz) (i : Nat) : prodN (sz.take i) ≤ 216 := by
  have := few_prod (sz := sz.take i) fun s hs => h.2 s (List.mem_of_mem_take hs)
  refine Nat.le_trans this (Nat.le_trans (Nat.pow_le_pow_right (by decide) (Nat.le_trans (List.length_take_le' i sz) h.1)) (by decide))
theorem range_all {n : Nat} {f : Nat → Bool} {l : List Th} {g : Th → Bool} (hl : l.length = n) (h : ∀ i d, l[i]? = some d → f i = g d) : ((List.range n).map f).all id = l.all g := by
  have e : (List.range n).map f = l.map g := by
    refine List.ext_getElem? fun i => ?_
    by_cases hi : i < n
    · rw [List.getElem?_map, List.getElem?_range hi, List.getElem?_map, List.getElem?_eq_getElem (by omega)]
      exact congrArg some (h i _ (List.getElem?_eq_getElem (by omega)))
    · rw [List.getElem?_eq_none (by simpa using hi), List.getElem?_eq_none (by simp; omega)]
  rw [e, List.all_map]
  rfl
section
variable {P : Program} {w : World} {K : PySem.W.Frag} {mg : Str → Option Value} {base : Heap}
abbrev N_stores_of_sizes : List Str := ["sizes", "product", "size"]
theorem sc_stores_of_sizes : FnScope N_stores_of_sizes ["sizes"] (defScope (top 23)) := ⟨rfl, rfl, rfl, by decide +kernel, rfl, by decide +kernel, by decide +kernel⟩
def spSizes (K : PySem.W.Frag) : Sp := fun vs H Q _ => ∃ (a : Addr) (sz : List Nat), vs = [.ref a] ∧ SqL K H a (rV sz) ∧ FewS sz ∧ Q (.int ((prodN sz : Nat) : Int)) H
theorem ok_stores_of_sizes (T : Txt K mg)  : Cal P w K mg base 1 "stores_of_sizes" (spSizes K) [] := by
  obtain ⟨fd, F⟩ := T.d_stores_of_sizes
  refine ⟨_, fd, ["sizes"], [], ?_, T.g_stores_of_sizes, F.kp, F.bindsN fun _ _ _ _ _ _ us hl => match us, hl with | [_], _ => rfl, .nil⟩
  refine F.ok sc_stores_of_sizes (fun vs H Q E h => by obtain ⟨_, _, rfl, _⟩ := h; rfl) (fun cdv A outer s H vs Q E hr h => ?_)
  have hu := hu_of hr
  refine ⟨_, PSs.nox (pss_cons (ps_set (i := 1) sc_stores_of_sizes.nd rfl (Or.inl rfl) pe_int)
      (pss_cons (ps_for PassesOwn.never rfl (pi_list (pv 0)) (pg_name (i := 2) sc_stores_of_sizes.nd rfl (Or.inl rfl)) (pss_one (ps_set (i := 1) sc_stores_of_sizes.nd rfl (Or.inl rfl) (pe_op op_mul (pv 1) (pv 2)))))
      (pss_one (ps_ret (pv 1))))), ?_⟩
  obtain ⟨a, sz, rfl, hS, hm, hQ⟩ := h
  refine ⟨_, rfl, a, rfl, ⟨_, hS⟩, ?_⟩
  refine for_it (walk_list (xs := rV sz)) (fun i σ H' => H' = H ∧ ∃ x, σ = [some (.ref a), some (.int ((prodN (sz.take i) : Nat) : Int)), x]) ⟨rfl, none, rfl⟩ (fun i σ H' _ p => by rw [p.1]; exact hS) ?_ ?_
  · rintro i x σ H1 H1' hi ⟨rfl, x2, rfl⟩ ⟨rfl, hx⟩
    rw [List.getElem?_map] at hx
    cases hs : sz[i]? with
    | none => rw [hs] at hx; cases hx
    | some s =>
      rw [hs] at hx
      cases hx
      have f1 := hm.take i
      have f2 := hm.2 s (List.mem_of_getElem? hs)
      refine ⟨_, rfl, _, rfl, _, _, rfl, rfl, .inl ⟨by omega, by omega⟩, rfl, some (.int (s : Int)), ?_⟩
      rw [prodN_take _ _ _ hs, Int.natCast_mul]
      rfl
  · rintro σ H1 ⟨rfl, x2, rfl⟩
    refine ⟨_, rfl, ?_⟩
    rw [List.take_of_length_le (by simp)]
    exact hQ

abbrev N_are_space_names : List Str := ["value", "words", "pair", "name", "_", "size"]
theorem sc_are_space_names : FnScope N_are_space_names ["value"] (defScope (top 24)) := ⟨rfl, rfl, rfl, by decide +kernel, rfl, by decide +kernel, by decide +kernel⟩
def spNames (K : PySem.W.Frag) : Sp := fun vs H Q _ => ∃ (v : V) (d : Th), vs = [v] ∧ AtK5 K H v d ∧ ∀ H', Ex H H' → Q (.bl (namesB d)) H'
theorem ok_are_space_names (T : Txt K mg) (C_is_sized_name : Cal P w K mg base 3 "is_sized_name" (spSized K) []) (C_stores_of_sizes : Cal P w K mg base 1 "stores_of_sizes" (spSizes K) []) : Cal P w K mg base 4 "are_space_names" (spNames K) [] := by
  obtain ⟨fd, F⟩ := T.d_are_space_names
  refine ⟨_, fd, ["value"], [], ?_, T.g_are_space_names, F.kp, F.bindsN fun _ _ _ _ _ _ us hl => match us, hl with | [_], _ => rfl, .nil⟩
  refine F.ok sc_are_space_names (fun vs H Q E h => by obtain ⟨_, _, rfl, _⟩ := h; rfl) (fun cdv A outer s H vs Q E hr h => ?_)
  have hu := hu_of hr
  obtain ⟨v, d, rfl, hv, hQ⟩ := h
  cases id hv with
  | @lst a xs ds hh hs =>
    have hlen := hs.len
    refine ⟨_, PSs.nox (pss_cons (ps_if (PW.pt (pw_or (pt_not (pt_val (pe_callB call_isiT (by rfl) T.f_isinstance (by decide +kernel) (pa_cons (pv 0) (pa_cons (pe_tup (pa_cons (pe_bltn (v := .ty "list") (u := .type "list") (by rfl) T.f_list (by decide +kernel) rfl) (pa_cons (pe_bltn (v := .ty "tuple") (u := .type "tuple") (by rfl) T.f_tuple (by decide +kernel) rfl) pa_nil))) pa_nil))))) (pw_or1 (pt_not (pt_chain op_le op_le pe_int (pe_callB call_len_seq (by rfl) T.f_len (by decide +kernel) (pa_cons (pv 0) pa_nil)) (pe_gc rfl T.c_MOST_NAMES)))))) (pss_one (ps_ret pe_bl)) pss_nil)
      (pss_cons (ps_if (pt_not (pt_val (pe_callB (cr_all rfl) (by rfl) T.f_all (by decide +kernel) (pa_cons (pe_lc (own := [("pair", 2)]) rfl sc_are_space_names.nd (pi_list (pv 0)) (blkOk_by (own := [("pair", 2)]) (N := N_are_space_names) (sc := defScope (top 24)) (by decide +kernel)) (fun _ _ _ _ _ => (pg_name (i := 2) sc_are_space_names.nd rfl (Or.inl rfl))) (fun _ _ _ _ _ => pts_nil) (fun _ _ _ _ _ => (pe_c C_is_sized_name hr (by decide) rfl (pa_cons (pv 2) pa_nil)))) pa_nil)))) (pss_one (ps_ret pe_bl)) pss_nil)
      (pss_cons (ps_setLc (i := 1) (own := [("name", 3), ("_", 4)]) rfl sc_are_space_names.nd rfl rfl (sw_true rfl rfl rfl (by decide +kernel)) (pi_list (pv 0)) (blkOk_by (own := [("name", 3), ("_", 4)]) (N := N_are_space_names) (sc := defScope (top 24)) (by decide +kernel)) (fun _ _ _ _ _ => (pgT (K := K) (n := 2) rfl (by rfl) (pgs_cons (pg_name (i := 3) sc_are_space_names.nd rfl (Or.inl rfl)) (pgs_cons (pg_name (i := 4) sc_are_space_names.nd rfl (Or.inl rfl)) pgs_nil)))) (fun _ _ _ _ _ => pts_nil) (fun _ _ _ _ _ => (pv 3)))
      (pss_one (ps_ret (pe_and (pe_cmpR op_eq (pe_lenSetD rfl (by rfl) T.f_len (by rfl) T.f_set (pv 1)) (pe_callB call_len_seq (by rfl) T.f_len (by decide +kernel) (pa_cons (pv 1) pa_nil)) (nomark _)) (pe_one (pe_cmpR op_le (pe_c C_stores_of_sizes hr (by decide) rfl (pa_cons (pe_lc (own := [("_", 4), ("size", 5)]) rfl sc_are_space_names.nd (pi_list (pv 0)) (blkOk_by (own := [("_", 4), ("size", 5)]) (N := N_are_space_names) (sc := defScope (top 24)) (by decide +kernel)) (fun _ _ _ _ _ => (pgT (K := K) (n := 2) rfl (by rfl) (pgs_cons (pg_name (i := 4) sc_are_space_names.nd rfl (Or.inl rfl)) (pgs_cons (pg_name (i := 5) sc_are_space_names.nd rfl (Or.inl rfl)) pgs_nil)))) (fun _ _ _ _ _ => pts_nil) (fun _ _ _ _ _ => (pv 5))) pa_nil)) (pe_gc rfl T.c_MOST_STORES) (nomark _))))))))), ?_⟩
    refine ⟨_, rfl, (by show 2 ≤ sizeLine; decide), fun tp htp => ⟨_, tp, _, _, _, _, rfl, upd_same, .cons (ClsV.ty _) (.cons (ClsV.ty _) .nil), At.tyx T.rc (hv.up (Evl.Ex.new htp)), Kd.kit2 T.rc _ (by decide) (by decide), _, rfl, ?_⟩⟩
    have e1 := Evl.Ex.new (o := .tup [.ty "list", .ty "tuple"]) htp
    generalize upd H tp (.tup [.ty "list", .ty "tuple"]) = H1 at e1
    refine iteFo rfl ?_
    refine ⟨_, rfl, a, xs, rfl, (.inl ((SqL.of (e1 _ _ hh) : SqL K _ a xs))), _, _, rfl, rfl, _, rfl, ?_⟩
    have hQ : ∀ H', Ex H H' → Q (.bl (namesL ds)) H' := hQ
    unfold namesL at hQ
    by_cases c1 : 1 ≤ ds.length
    case neg =>
      rw [decide_eq_false c1] at hQ
      rw [if_neg (by simp; omega)]
      exact ⟨_, rfl, iteTo rfl (hQ _ e1)⟩
    rw [if_pos (decide_eq_true (by omega))]
    rw [decide_eq_true c1] at hQ
    refine ⟨_, _, rfl, rfl, _, rfl, ?_⟩
    by_cases c2 : ds.length ≤ 3
    case neg =>
      rw [decide_eq_false c2] at hQ
      rw [decide_eq_false (by omega)]
      exact iteTo rfl (hQ _ e1)
    rw [decide_eq_true (by omega)]
    rw [decide_eq_true c2] at hQ
    refine iteFo rfl ?_
    -- all
    refine ⟨_, rfl, a, rfl, ⟨_, (SqL.of (e1 _ _ hh) : SqL K _ a xs)⟩, fun D hD => ?_⟩
    refine lc_fn (walk_list (xs := xs)) (fun i => .bl (pairB (ds.getD i .non))) (by omega) hD (fun H' e => (SqL.of ((e1.trans e) _ _ hh) : SqL K _ a xs)) ?_ ?_
    · rintro i x H2' H2 Z B hi e hl ⟨rfl, hx⟩ hZ
      obtain ⟨dx, hdx, hax⟩ := hs.get hx
      refine ⟨rfl, ?_⟩
      refine ⟨_, rfl, x, dx, rfl, hax.up (e1.trans e), fun H3 e3 => ?_⟩
      have e5 : ds.getD i .non = dx := by rw [List.getD_eq_getElem?_getD, hdx]; rfl
      rw [e5] at hZ
      exact hZ H3 e3
    intro H2 e2 hd
    refine ⟨D, (List.range xs.length).map fun i => pairB (ds.getD i .non), rfl, by rw [List.map_map]; exact SqL.of hd, _, rfl, ?_⟩
    rw [range_all (l := ds) (g := pairB) hlen.symm (fun i dx hdx => by rw [List.getD_eq_getElem?_getD, hdx]; rfl)]
    have e12 := e1.trans e2
    cases ca : ds.all pairB with
    | false =>
      rw [ca] at hQ
      exact iteTo rfl (hQ _ e12)
    | true =>
    rw [ca] at hQ
    refine iteFo rfl ?_
    obtain ⟨ns, rfl, hok⟩ := pairs_get ca
    rw [map_un] at hQ
    rw [List.length_map] at hlen c1 c2
    -- words
    refine ⟨_, rfl, a, rfl, ⟨_, (SqL.of (e12 _ _ hh) : SqL K _ a xs)⟩, fun D2 hD2 => ?_⟩
    refine lc_fn (walk_list (xs := xs)) (fun i => V.str ((ns.getD i (alpha, 0)).1)) (by omega) hD2 (fun H' e => (SqL.of ((e12.trans e) _ _ hh) : SqL K _ a xs)) ?_ ?_
    · rintro i x H3' H3 Z B hi e hl ⟨rfl, hx⟩ hZ
      obtain ⟨dx, hdx, hax⟩ := hs.get hx
      rw [List.getElem?_map] at hdx
      obtain ⟨n, hn, rfl⟩ := Option.map_eq_some_iff.mp hdx
      obtain ⟨p, rfl, hp⟩ := at_pair hax
      refine ⟨p, nV n, rfl, .inl (hp.mono (e12.trans e)), rfl, _, _, rfl, _, _, rfl, rfl, ?_⟩
      refine ⟨rfl, ?_⟩
      refine ⟨_, rfl, ?_⟩
      rw [getD_of hn] at hZ
      exact hZ _ (Evl.Ex.refl _)
    intro H3 e3 hd3
    rw [hlen, words_list] at hd3
    have e13 := e12.trans e3
    have lw : (wds ns).length = ns.length := by simp [wds]
    refine ⟨_, rfl, D2, wds ns, rfl, SqL.of hd3, by omega, ?_⟩
    refine ⟨_, rfl, D2, (wds ns).map V.str, rfl, .inl (SqL.of hd3), rfl, _, rfl, ?_⟩
    have hQ : ∀ H', Ex H H' → Q (.bl (decide (wds ns).Nodup && decide (prodN (szs ns) ≤ 8))) H' := hQ
    by_cases nd : (wds ns).Nodup
    case neg =>
      rw [decide_eq_false nd] at hQ
      rw [decide_eq_false (fun z => nd ((SY.dc_nodup _).mp (by
        have z : ((SY.dc (wds ns) (wds ns).length : Nat) : Int) = (((wds ns).map V.str).length : Nat) := V.int.inj z
        rw [List.length_map] at z
        omega)))]
      exact iteFo rfl (hQ _ e13)
    rw [decide_eq_true nd] at hQ
    rw [decide_eq_true (by rw [(SY.dc_nodup _).mpr nd, List.length_map])]
    refine iteTo rfl ?_
    -- sizes
    refine ⟨_, rfl, a, rfl, ⟨_, (SqL.of (e13 _ _ hh) : SqL K _ a xs)⟩, fun D3 hD3 => ?_⟩
    refine lc_fn (walk_list (xs := xs)) (fun i => V.int (((ns.getD i (alpha, 0)).2 : Nat) : Int)) (by omega) hD3 (fun H' e => (SqL.of ((e13.trans e) _ _ hh) : SqL K _ a xs)) ?_ ?_
    · rintro i x H4' H4 Z B hi e hl ⟨rfl, hx⟩ hZ
      obtain ⟨dx, hdx, hax⟩ := hs.get hx
      rw [List.getElem?_map] at hdx
      obtain ⟨n, hn, rfl⟩ := Option.map_eq_some_iff.mp hdx
      obtain ⟨p, rfl, hp⟩ := at_pair hax
      refine ⟨p, nV n, rfl, .inl (hp.mono (e13.trans e)), rfl, _, _, rfl, _, _, rfl, rfl, ?_⟩
      refine ⟨rfl, ?_⟩
      refine ⟨_, rfl, ?_⟩
      rw [getD_of hn] at hZ
      exact hZ _ (Evl.Ex.refl _)
    intro H4 e4 hd4
    rw [hlen, sizes_list] at hd4
    have few : FewS (szs ns) := ⟨by simp [szs]; omega, fun s hs => by
      obtain ⟨n, hn, rfl⟩ := List.mem_map.mp hs
      exact (hok n hn).2.2⟩
    refine ⟨D3, szs ns, rfl, SqL.of hd4, few, _, _, rfl, rfl, ?_⟩
    have e6 : decide (((prodN (szs ns) : Nat) : Int) ≤ 8) = decide (prodN (szs ns) ≤ 8) := decide_eq_decide.mpr (by omega)
    show Q (V.bl (decide (((prodN (szs ns) : Nat) : Int) ≤ 8))) H4
    rw [e6]
    exact hQ _ (e13.trans e4)
  | @tup a xs ds hh hs =>
    have hlen := hs.len
    refine ⟨_, PSs.nox (pss_cons (ps_if (PW.pt (pw_or (pt_not (pt_val (pe_callB call_isiT (by rfl) T.f_isinstance (by decide +kernel) (pa_cons (pv 0) (pa_cons (pe_tup (pa_cons (pe_bltn (v := .ty "list") (u := .type "list") (by rfl) T.f_list (by decide +kernel) rfl) (pa_cons (pe_bltn (v := .ty "tuple") (u := .type "tuple") (by rfl) T.f_tuple (by decide +kernel) rfl) pa_nil))) pa_nil))))) (pw_or1 (pt_not (pt_chain op_le op_le pe_int (pe_callB call_len_seq (by rfl) T.f_len (by decide +kernel) (pa_cons (pv 0) pa_nil)) (pe_gc rfl T.c_MOST_NAMES)))))) (pss_one (ps_ret pe_bl)) pss_nil)
      (pss_cons (ps_if (pt_not (pt_val (pe_callB (cr_all rfl) (by rfl) T.f_all (by decide +kernel) (pa_cons (pe_lc (own := [("pair", 2)]) rfl sc_are_space_names.nd (pi_tup (pv 0)) (blkOk_by (own := [("pair", 2)]) (N := N_are_space_names) (sc := defScope (top 24)) (by decide +kernel)) (fun _ _ _ _ _ => (pg_name (i := 2) sc_are_space_names.nd rfl (Or.inl rfl))) (fun _ _ _ _ _ => pts_nil) (fun _ _ _ _ _ => (pe_c C_is_sized_name hr (by decide) rfl (pa_cons (pv 2) pa_nil)))) pa_nil)))) (pss_one (ps_ret pe_bl)) pss_nil)
      (pss_cons (ps_setLc (i := 1) (own := [("name", 3), ("_", 4)]) rfl sc_are_space_names.nd rfl rfl (sw_true rfl rfl rfl (by decide +kernel)) (pi_tup (pv 0)) (blkOk_by (own := [("name", 3), ("_", 4)]) (N := N_are_space_names) (sc := defScope (top 24)) (by decide +kernel)) (fun _ _ _ _ _ => (pgT (K := K) (n := 2) rfl (by rfl) (pgs_cons (pg_name (i := 3) sc_are_space_names.nd rfl (Or.inl rfl)) (pgs_cons (pg_name (i := 4) sc_are_space_names.nd rfl (Or.inl rfl)) pgs_nil)))) (fun _ _ _ _ _ => pts_nil) (fun _ _ _ _ _ => (pv 3)))
      (pss_one (ps_ret (pe_and (pe_cmpR op_eq (pe_lenSetD rfl (by rfl) T.f_len (by rfl) T.f_set (pv 1)) (pe_callB call_len_seq (by rfl) T.f_len (by decide +kernel) (pa_cons (pv 1) pa_nil)) (nomark _)) (pe_one (pe_cmpR op_le (pe_c C_stores_of_sizes hr (by decide) rfl (pa_cons (pe_lc (own := [("_", 4), ("size", 5)]) rfl sc_are_space_names.nd (pi_tup (pv 0)) (blkOk_by (own := [("_", 4), ("size", 5)]) (N := N_are_space_names) (sc := defScope (top 24)) (by decide +kernel)) (fun _ _ _ _ _ => (pgT (K := K) (n := 2) rfl (by rfl) (pgs_cons (pg_name (i := 4) sc_are_space_names.nd rfl (Or.inl rfl)) (pgs_cons (pg_name (i := 5) sc_are_space_names.nd rfl (Or.inl rfl)) pgs_nil)))) (fun _ _ _ _ _ => pts_nil) (fun _ _ _ _ _ => (pv 5))) pa_nil)) (pe_gc rfl T.c_MOST_STORES) (nomark _))))))))), ?_⟩
    refine ⟨_, rfl, (by show 2 ≤ sizeLine; decide), fun tp htp => ⟨_, tp, _, _, _, _, rfl, upd_same, .cons (ClsV.ty _) (.cons (ClsV.ty _) .nil), At.tyx T.rc (hv.up (Evl.Ex.new htp)), Kd.kit2 T.rc _ (by decide) (by decide), _, rfl, ?_⟩⟩
    have e1 := Evl.Ex.new (o := .tup [.ty "list", .ty "tuple"]) htp
    generalize upd H tp (.tup [.ty "list", .ty "tuple"]) = H1 at e1
    refine iteFo rfl ?_
    refine ⟨_, rfl, a, xs, rfl, (.inr ((.inl (Rd.mono e1 hh) : SqT K _ a xs))), _, _, rfl, rfl, _, rfl, ?_⟩
    have hQ : ∀ H', Ex H H' → Q (.bl (namesL ds)) H' := hQ
    unfold namesL at hQ
    by_cases c1 : 1 ≤ ds.length
    case neg =>
      rw [decide_eq_false c1] at hQ
      rw [if_neg (by simp; omega)]
      exact ⟨_, rfl, iteTo rfl (hQ _ e1)⟩
    rw [if_pos (decide_eq_true (by omega))]
    rw [decide_eq_true c1] at hQ
    refine ⟨_, _, rfl, rfl, _, rfl, ?_⟩
    by_cases c2 : ds.length ≤ 3
    case neg =>
      rw [decide_eq_false c2] at hQ
      rw [decide_eq_false (by omega)]
      exact iteTo rfl (hQ _ e1)
    rw [decide_eq_true (by omega)]
    rw [decide_eq_true c2] at hQ
    refine iteFo rfl ?_
    -- all
    refine ⟨_, rfl, a, rfl, ⟨_, (.inl (Rd.mono e1 hh) : SqT K _ a xs)⟩, fun D hD => ?_⟩
    refine lc_fn (walk_tup (xs := xs)) (fun i => .bl (pairB (ds.getD i .non))) (by omega) hD (fun H' e => (.inl (Rd.mono (e1.trans e) hh) : SqT K _ a xs)) ?_ ?_
    · rintro i x H2' H2 Z B hi e hl ⟨rfl, hx⟩ hZ
      obtain ⟨dx, hdx, hax⟩ := hs.get hx
      refine ⟨rfl, ?_⟩
      refine ⟨_, rfl, x, dx, rfl, hax.up (e1.trans e), fun H3 e3 => ?_⟩
      have e5 : ds.getD i .non = dx := by rw [List.getD_eq_getElem?_getD, hdx]; rfl
      rw [e5] at hZ
      exact hZ H3 e3
    intro H2 e2 hd
    refine ⟨D, (List.range xs.length).map fun i => pairB (ds.getD i .non), rfl, by rw [List.map_map]; exact SqL.of hd, _, rfl, ?_⟩
    rw [range_all (l := ds) (g := pairB) hlen.symm (fun i dx hdx => by rw [List.getD_eq_getElem?_getD, hdx]; rfl)]
    have e12 := e1.trans e2
    cases ca : ds.all pairB with
    | false =>
      rw [ca] at hQ
      exact iteTo rfl (hQ _ e12)
    | true =>
    rw [ca] at hQ
    refine iteFo rfl ?_
    obtain ⟨ns, rfl, hok⟩ := pairs_get ca
    rw [map_un] at hQ
    rw [List.length_map] at hlen c1 c2
    -- words
    refine ⟨_, rfl, a, rfl, ⟨_, (.inl (Rd.mono e12 hh) : SqT K _ a xs)⟩, fun D2 hD2 => ?_⟩
    refine lc_fn (walk_tup (xs := xs)) (fun i => V.str ((ns.getD i (alpha, 0)).1)) (by omega) hD2 (fun H' e => (.inl (Rd.mono (e12.trans e) hh) : SqT K _ a xs)) ?_ ?_
    · rintro i x H3' H3 Z B hi e hl ⟨rfl, hx⟩ hZ
      obtain ⟨dx, hdx, hax⟩ := hs.get hx
      rw [List.getElem?_map] at hdx
      obtain ⟨n, hn, rfl⟩ := Option.map_eq_some_iff.mp hdx
      obtain ⟨p, rfl, hp⟩ := at_pair hax
      refine ⟨p, nV n, rfl, .inl (hp.mono (e12.trans e)), rfl, _, _, rfl, _, _, rfl, rfl, ?_⟩
      refine ⟨rfl, ?_⟩
      refine ⟨_, rfl, ?_⟩
      rw [getD_of hn] at hZ
      exact hZ _ (Evl.Ex.refl _)
    intro H3 e3 hd3
    rw [hlen, words_list] at hd3
    have e13 := e12.trans e3
    have lw : (wds ns).length = ns.length := by simp [wds]
    refine ⟨_, rfl, D2, wds ns, rfl, SqL.of hd3, by omega, ?_⟩
    refine ⟨_, rfl, D2, (wds ns).map V.str, rfl, .inl (SqL.of hd3), rfl, _, rfl, ?_⟩
    have hQ : ∀ H', Ex H H' → Q (.bl (decide (wds ns).Nodup && decide (prodN (szs ns) ≤ 8))) H' := hQ
    by_cases nd : (wds ns).Nodup
    case neg =>
      rw [decide_eq_false nd] at hQ
      rw [decide_eq_false (fun z => nd ((SY.dc_nodup _).mp (by
        have z : ((SY.dc (wds ns) (wds ns).length : Nat) : Int) = (((wds ns).map V.str).length : Nat) := V.int.inj z
        rw [List.length_map] at z
        omega)))]
      exact iteFo rfl (hQ _ e13)
    rw [decide_eq_true nd] at hQ
    rw [decide_eq_true (by rw [(SY.dc_nodup _).mpr nd, List.length_map])]
    refine iteTo rfl ?_
    -- sizes
    refine ⟨_, rfl, a, rfl, ⟨_, (.inl (Rd.mono e13 hh) : SqT K _ a xs)⟩, fun D3 hD3 => ?_⟩
    refine lc_fn (walk_tup (xs := xs)) (fun i => V.int (((ns.getD i (alpha, 0)).2 : Nat) : Int)) (by omega) hD3 (fun H' e => (.inl (Rd.mono (e13.trans e) hh) : SqT K _ a xs)) ?_ ?_
    · rintro i x H4' H4 Z B hi e hl ⟨rfl, hx⟩ hZ
      obtain ⟨dx, hdx, hax⟩ := hs.get hx
      rw [List.getElem?_map] at hdx
      obtain ⟨n, hn, rfl⟩ := Option.map_eq_some_iff.mp hdx
      obtain ⟨p, rfl, hp⟩ := at_pair hax
      refine ⟨p, nV n, rfl, .inl (hp.mono (e13.trans e)), rfl, _, _, rfl, _, _, rfl, rfl, ?_⟩
      refine ⟨rfl, ?_⟩
      refine ⟨_, rfl, ?_⟩
      rw [getD_of hn] at hZ
      exact hZ _ (Evl.Ex.refl _)
    intro H4 e4 hd4
    rw [hlen, sizes_list] at hd4
    have few : FewS (szs ns) := ⟨by simp [szs]; omega, fun s hs => by
      obtain ⟨n, hn, rfl⟩ := List.mem_map.mp hs
      exact (hok n hn).2.2⟩
    refine ⟨D3, szs ns, rfl, SqL.of hd4, few, _, _, rfl, rfl, ?_⟩
    have e6 : decide (((prodN (szs ns) : Nat) : Int) ≤ 8) = decide (prodN (szs ns) ≤ 8) := decide_eq_decide.mpr (by omega)
    show Q (V.bl (decide (((prodN (szs ns) : Nat) : Int) ≤ 8))) H4
    rw [e6]
    exact hQ _ (e13.trans e4)
  | bl b =>
    refine ⟨_, PSs.nox (pss_cons (ps_if (PW.pt (pw_or (pt_not (pt_val (pe_callB call_isiT (by rfl) T.f_isinstance (by decide +kernel) (pa_cons (pv 0) (pa_cons (pe_tup (pa_cons (pe_bltn (v := .ty "list") (u := .type "list") (by rfl) T.f_list (by decide +kernel) rfl) (pa_cons (pe_bltn (v := .ty "tuple") (u := .type "tuple") (by rfl) T.f_tuple (by decide +kernel) rfl) pa_nil))) pa_nil))))) (pw_or1 (pt_not (pt_chain op_le op_le pe_int (pe_callB call_len_seq (by rfl) T.f_len (by decide +kernel) (pa_cons (pv 0) pa_nil)) (pe_gc rfl T.c_MOST_NAMES)))))) (pss_one (ps_ret pe_bl)) pss_nil)
      (pss_cons (ps_if (pt_not (pt_val (pe_callB (cr_all rfl) (by rfl) T.f_all (by decide +kernel) (pa_cons (pe_lc (own := [("pair", 2)]) rfl sc_are_space_names.nd (pi_list (pv 0)) (blkOk_by (own := [("pair", 2)]) (N := N_are_space_names) (sc := defScope (top 24)) (by decide +kernel)) (fun _ _ _ _ _ => (pg_name (i := 2) sc_are_space_names.nd rfl (Or.inl rfl))) (fun _ _ _ _ _ => pts_nil) (fun _ _ _ _ _ => (pe_c C_is_sized_name hr (by decide) rfl (pa_cons (pv 2) pa_nil)))) pa_nil)))) (pss_one (ps_ret pe_bl)) pss_nil)
      (pss_cons (ps_setLc (i := 1) (own := [("name", 3), ("_", 4)]) rfl sc_are_space_names.nd rfl rfl (sw_true rfl rfl rfl (by decide +kernel)) (pi_list (pv 0)) (blkOk_by (own := [("name", 3), ("_", 4)]) (N := N_are_space_names) (sc := defScope (top 24)) (by decide +kernel)) (fun _ _ _ _ _ => (pgT (K := K) (n := 2) rfl (by rfl) (pgs_cons (pg_name (i := 3) sc_are_space_names.nd rfl (Or.inl rfl)) (pgs_cons (pg_name (i := 4) sc_are_space_names.nd rfl (Or.inl rfl)) pgs_nil)))) (fun _ _ _ _ _ => pts_nil) (fun _ _ _ _ _ => (pv 3)))
      (pss_one (ps_ret (pe_and (pe_cmpR op_eq (pe_lenSetD rfl (by rfl) T.f_len (by rfl) T.f_set (pv 1)) (pe_callB call_len_seq (by rfl) T.f_len (by decide +kernel) (pa_cons (pv 1) pa_nil)) (nomark _)) (pe_one (pe_cmpR op_le (pe_c C_stores_of_sizes hr (by decide) rfl (pa_cons (pe_lc (own := [("_", 4), ("size", 5)]) rfl sc_are_space_names.nd (pi_list (pv 0)) (blkOk_by (own := [("_", 4), ("size", 5)]) (N := N_are_space_names) (sc := defScope (top 24)) (by decide +kernel)) (fun _ _ _ _ _ => (pgT (K := K) (n := 2) rfl (by rfl) (pgs_cons (pg_name (i := 4) sc_are_space_names.nd rfl (Or.inl rfl)) (pgs_cons (pg_name (i := 5) sc_are_space_names.nd rfl (Or.inl rfl)) pgs_nil)))) (fun _ _ _ _ _ => pts_nil) (fun _ _ _ _ _ => (pv 5))) pa_nil)) (pe_gc rfl T.c_MOST_STORES) (nomark _))))))))), ?_⟩
    refine ⟨_, rfl, (by show 2 ≤ sizeLine; decide), fun tp htp => ⟨_, tp, _, _, _, _, rfl, upd_same, .cons (ClsV.ty _) (.cons (ClsV.ty _) .nil), At.tyx T.rc (hv.up (Evl.Ex.new htp)), Kd.kit2 T.rc _ (by decide) (by decide), _, rfl, ?_⟩⟩
    exact iteTo rfl (hQ _ (Evl.Ex.new htp))
  | non =>
    refine ⟨_, PSs.nox (pss_cons (ps_if (PW.pt (pw_or (pt_not (pt_val (pe_callB call_isiT (by rfl) T.f_isinstance (by decide +kernel) (pa_cons (pv 0) (pa_cons (pe_tup (pa_cons (pe_bltn (v := .ty "list") (u := .type "list") (by rfl) T.f_list (by decide +kernel) rfl) (pa_cons (pe_bltn (v := .ty "tuple") (u := .type "tuple") (by rfl) T.f_tuple (by decide +kernel) rfl) pa_nil))) pa_nil))))) (pw_or1 (pt_not (pt_chain op_le op_le pe_int (pe_callB call_len_seq (by rfl) T.f_len (by decide +kernel) (pa_cons (pv 0) pa_nil)) (pe_gc rfl T.c_MOST_NAMES)))))) (pss_one (ps_ret pe_bl)) pss_nil)
      (pss_cons (ps_if (pt_not (pt_val (pe_callB (cr_all rfl) (by rfl) T.f_all (by decide +kernel) (pa_cons (pe_lc (own := [("pair", 2)]) rfl sc_are_space_names.nd (pi_list (pv 0)) (blkOk_by (own := [("pair", 2)]) (N := N_are_space_names) (sc := defScope (top 24)) (by decide +kernel)) (fun _ _ _ _ _ => (pg_name (i := 2) sc_are_space_names.nd rfl (Or.inl rfl))) (fun _ _ _ _ _ => pts_nil) (fun _ _ _ _ _ => (pe_c C_is_sized_name hr (by decide) rfl (pa_cons (pv 2) pa_nil)))) pa_nil)))) (pss_one (ps_ret pe_bl)) pss_nil)
      (pss_cons (ps_setLc (i := 1) (own := [("name", 3), ("_", 4)]) rfl sc_are_space_names.nd rfl rfl (sw_true rfl rfl rfl (by decide +kernel)) (pi_list (pv 0)) (blkOk_by (own := [("name", 3), ("_", 4)]) (N := N_are_space_names) (sc := defScope (top 24)) (by decide +kernel)) (fun _ _ _ _ _ => (pgT (K := K) (n := 2) rfl (by rfl) (pgs_cons (pg_name (i := 3) sc_are_space_names.nd rfl (Or.inl rfl)) (pgs_cons (pg_name (i := 4) sc_are_space_names.nd rfl (Or.inl rfl)) pgs_nil)))) (fun _ _ _ _ _ => pts_nil) (fun _ _ _ _ _ => (pv 3)))
      (pss_one (ps_ret (pe_and (pe_cmpR op_eq (pe_lenSetD rfl (by rfl) T.f_len (by rfl) T.f_set (pv 1)) (pe_callB call_len_seq (by rfl) T.f_len (by decide +kernel) (pa_cons (pv 1) pa_nil)) (nomark _)) (pe_one (pe_cmpR op_le (pe_c C_stores_of_sizes hr (by decide) rfl (pa_cons (pe_lc (own := [("_", 4), ("size", 5)]) rfl sc_are_space_names.nd (pi_list (pv 0)) (blkOk_by (own := [("_", 4), ("size", 5)]) (N := N_are_space_names) (sc := defScope (top 24)) (by decide +kernel)) (fun _ _ _ _ _ => (pgT (K := K) (n := 2) rfl (by rfl) (pgs_cons (pg_name (i := 4) sc_are_space_names.nd rfl (Or.inl rfl)) (pgs_cons (pg_name (i := 5) sc_are_space_names.nd rfl (Or.inl rfl)) pgs_nil)))) (fun _ _ _ _ _ => pts_nil) (fun _ _ _ _ _ => (pv 5))) pa_nil)) (pe_gc rfl T.c_MOST_STORES) (nomark _))))))))), ?_⟩
    refine ⟨_, rfl, (by show 2 ≤ sizeLine; decide), fun tp htp => ⟨_, tp, _, _, _, _, rfl, upd_same, .cons (ClsV.ty _) (.cons (ClsV.ty _) .nil), At.tyx T.rc (hv.up (Evl.Ex.new htp)), Kd.kit2 T.rc _ (by decide) (by decide), _, rfl, ?_⟩⟩
    exact iteTo rfl (hQ _ (Evl.Ex.new htp))
  | int i =>
    refine ⟨_, PSs.nox (pss_cons (ps_if (PW.pt (pw_or (pt_not (pt_val (pe_callB call_isiT (by rfl) T.f_isinstance (by decide +kernel) (pa_cons (pv 0) (pa_cons (pe_tup (pa_cons (pe_bltn (v := .ty "list") (u := .type "list") (by rfl) T.f_list (by decide +kernel) rfl) (pa_cons (pe_bltn (v := .ty "tuple") (u := .type "tuple") (by rfl) T.f_tuple (by decide +kernel) rfl) pa_nil))) pa_nil))))) (pw_or1 (pt_not (pt_chain op_le op_le pe_int (pe_callB call_len_seq (by rfl) T.f_len (by decide +kernel) (pa_cons (pv 0) pa_nil)) (pe_gc rfl T.c_MOST_NAMES)))))) (pss_one (ps_ret pe_bl)) pss_nil)
      (pss_cons (ps_if (pt_not (pt_val (pe_callB (cr_all rfl) (by rfl) T.f_all (by decide +kernel) (pa_cons (pe_lc (own := [("pair", 2)]) rfl sc_are_space_names.nd (pi_list (pv 0)) (blkOk_by (own := [("pair", 2)]) (N := N_are_space_names) (sc := defScope (top 24)) (by decide +kernel)) (fun _ _ _ _ _ => (pg_name (i := 2) sc_are_space_names.nd rfl (Or.inl rfl))) (fun _ _ _ _ _ => pts_nil) (fun _ _ _ _ _ => (pe_c C_is_sized_name hr (by decide) rfl (pa_cons (pv 2) pa_nil)))) pa_nil)))) (pss_one (ps_ret pe_bl)) pss_nil)
      (pss_cons (ps_setLc (i := 1) (own := [("name", 3), ("_", 4)]) rfl sc_are_space_names.nd rfl rfl (sw_true rfl rfl rfl (by decide +kernel)) (pi_list (pv 0)) (blkOk_by (own := [("name", 3), ("_", 4)]) (N := N_are_space_names) (sc := defScope (top 24)) (by decide +kernel)) (fun _ _ _ _ _ => (pgT (K := K) (n := 2) rfl (by rfl) (pgs_cons (pg_name (i := 3) sc_are_space_names.nd rfl (Or.inl rfl)) (pgs_cons (pg_name (i := 4) sc_are_space_names.nd rfl (Or.inl rfl)) pgs_nil)))) (fun _ _ _ _ _ => pts_nil) (fun _ _ _ _ _ => (pv 3)))
      (pss_one (ps_ret (pe_and (pe_cmpR op_eq (pe_lenSetD rfl (by rfl) T.f_len (by rfl) T.f_set (pv 1)) (pe_callB call_len_seq (by rfl) T.f_len (by decide +kernel) (pa_cons (pv 1) pa_nil)) (nomark _)) (pe_one (pe_cmpR op_le (pe_c C_stores_of_sizes hr (by decide) rfl (pa_cons (pe_lc (own := [("_", 4), ("size", 5)]) rfl sc_are_space_names.nd (pi_list (pv 0)) (blkOk_by (own := [("_", 4), ("size", 5)]) (N := N_are_space_names) (sc := defScope (top 24)) (by decide +kernel)) (fun _ _ _ _ _ => (pgT (K := K) (n := 2) rfl (by rfl) (pgs_cons (pg_name (i := 4) sc_are_space_names.nd rfl (Or.inl rfl)) (pgs_cons (pg_name (i := 5) sc_are_space_names.nd rfl (Or.inl rfl)) pgs_nil)))) (fun _ _ _ _ _ => pts_nil) (fun _ _ _ _ _ => (pv 5))) pa_nil)) (pe_gc rfl T.c_MOST_STORES) (nomark _))))))))), ?_⟩
    refine ⟨_, rfl, (by show 2 ≤ sizeLine; decide), fun tp htp => ⟨_, tp, _, _, _, _, rfl, upd_same, .cons (ClsV.ty _) (.cons (ClsV.ty _) .nil), At.tyx T.rc (hv.up (Evl.Ex.new htp)), Kd.kit2 T.rc _ (by decide) (by decide), _, rfl, ?_⟩⟩
    exact iteTo rfl (hQ _ (Evl.Ex.new htp))
  | str x _ =>
    refine ⟨_, PSs.nox (pss_cons (ps_if (PW.pt (pw_or (pt_not (pt_val (pe_callB call_isiT (by rfl) T.f_isinstance (by decide +kernel) (pa_cons (pv 0) (pa_cons (pe_tup (pa_cons (pe_bltn (v := .ty "list") (u := .type "list") (by rfl) T.f_list (by decide +kernel) rfl) (pa_cons (pe_bltn (v := .ty "tuple") (u := .type "tuple") (by rfl) T.f_tuple (by decide +kernel) rfl) pa_nil))) pa_nil))))) (pw_or1 (pt_not (pt_chain op_le op_le pe_int (pe_callB call_len_seq (by rfl) T.f_len (by decide +kernel) (pa_cons (pv 0) pa_nil)) (pe_gc rfl T.c_MOST_NAMES)))))) (pss_one (ps_ret pe_bl)) pss_nil)
      (pss_cons (ps_if (pt_not (pt_val (pe_callB (cr_all rfl) (by rfl) T.f_all (by decide +kernel) (pa_cons (pe_lc (own := [("pair", 2)]) rfl sc_are_space_names.nd (pi_list (pv 0)) (blkOk_by (own := [("pair", 2)]) (N := N_are_space_names) (sc := defScope (top 24)) (by decide +kernel)) (fun _ _ _ _ _ => (pg_name (i := 2) sc_are_space_names.nd rfl (Or.inl rfl))) (fun _ _ _ _ _ => pts_nil) (fun _ _ _ _ _ => (pe_c C_is_sized_name hr (by decide) rfl (pa_cons (pv 2) pa_nil)))) pa_nil)))) (pss_one (ps_ret pe_bl)) pss_nil)
      (pss_cons (ps_setLc (i := 1) (own := [("name", 3), ("_", 4)]) rfl sc_are_space_names.nd rfl rfl (sw_true rfl rfl rfl (by decide +kernel)) (pi_list (pv 0)) (blkOk_by (own := [("name", 3), ("_", 4)]) (N := N_are_space_names) (sc := defScope (top 24)) (by decide +kernel)) (fun _ _ _ _ _ => (pgT (K := K) (n := 2) rfl (by rfl) (pgs_cons (pg_name (i := 3) sc_are_space_names.nd rfl (Or.inl rfl)) (pgs_cons (pg_name (i := 4) sc_are_space_names.nd rfl (Or.inl rfl)) pgs_nil)))) (fun _ _ _ _ _ => pts_nil) (fun _ _ _ _ _ => (pv 3)))
      (pss_one (ps_ret (pe_and (pe_cmpR op_eq (pe_lenSetD rfl (by rfl) T.f_len (by rfl) T.f_set (pv 1)) (pe_callB call_len_seq (by rfl) T.f_len (by decide +kernel) (pa_cons (pv 1) pa_nil)) (nomark _)) (pe_one (pe_cmpR op_le (pe_c C_stores_of_sizes hr (by decide) rfl (pa_cons (pe_lc (own := [("_", 4), ("size", 5)]) rfl sc_are_space_names.nd (pi_list (pv 0)) (blkOk_by (own := [("_", 4), ("size", 5)]) (N := N_are_space_names) (sc := defScope (top 24)) (by decide +kernel)) (fun _ _ _ _ _ => (pgT (K := K) (n := 2) rfl (by rfl) (pgs_cons (pg_name (i := 4) sc_are_space_names.nd rfl (Or.inl rfl)) (pgs_cons (pg_name (i := 5) sc_are_space_names.nd rfl (Or.inl rfl)) pgs_nil)))) (fun _ _ _ _ _ => pts_nil) (fun _ _ _ _ _ => (pv 5))) pa_nil)) (pe_gc rfl T.c_MOST_STORES) (nomark _))))))))), ?_⟩
    refine ⟨_, rfl, (by show 2 ≤ sizeLine; decide), fun tp htp => ⟨_, tp, _, _, _, _, rfl, upd_same, .cons (ClsV.ty _) (.cons (ClsV.ty _) .nil), At.tyx T.rc (hv.up (Evl.Ex.new htp)), Kd.kit2 T.rc _ (by decide) (by decide), _, rfl, ?_⟩⟩
    exact iteTo rfl (hQ _ (Evl.Ex.new htp))
  | rat _ =>
    refine ⟨_, PSs.nox (pss_cons (ps_if (PW.pt (pw_or (pt_not (pt_val (pe_callB call_isiT (by rfl) T.f_isinstance (by decide +kernel) (pa_cons (pv 0) (pa_cons (pe_tup (pa_cons (pe_bltn (v := .ty "list") (u := .type "list") (by rfl) T.f_list (by decide +kernel) rfl) (pa_cons (pe_bltn (v := .ty "tuple") (u := .type "tuple") (by rfl) T.f_tuple (by decide +kernel) rfl) pa_nil))) pa_nil))))) (pw_or1 (pt_not (pt_chain op_le op_le pe_int (pe_callB call_len_seq (by rfl) T.f_len (by decide +kernel) (pa_cons (pv 0) pa_nil)) (pe_gc rfl T.c_MOST_NAMES)))))) (pss_one (ps_ret pe_bl)) pss_nil)
      (pss_cons (ps_if (pt_not (pt_val (pe_callB (cr_all rfl) (by rfl) T.f_all (by decide +kernel) (pa_cons (pe_lc (own := [("pair", 2)]) rfl sc_are_space_names.nd (pi_list (pv 0)) (blkOk_by (own := [("pair", 2)]) (N := N_are_space_names) (sc := defScope (top 24)) (by decide +kernel)) (fun _ _ _ _ _ => (pg_name (i := 2) sc_are_space_names.nd rfl (Or.inl rfl))) (fun _ _ _ _ _ => pts_nil) (fun _ _ _ _ _ => (pe_c C_is_sized_name hr (by decide) rfl (pa_cons (pv 2) pa_nil)))) pa_nil)))) (pss_one (ps_ret pe_bl)) pss_nil)
      (pss_cons (ps_setLc (i := 1) (own := [("name", 3), ("_", 4)]) rfl sc_are_space_names.nd rfl rfl (sw_true rfl rfl rfl (by decide +kernel)) (pi_list (pv 0)) (blkOk_by (own := [("name", 3), ("_", 4)]) (N := N_are_space_names) (sc := defScope (top 24)) (by decide +kernel)) (fun _ _ _ _ _ => (pgT (K := K) (n := 2) rfl (by rfl) (pgs_cons (pg_name (i := 3) sc_are_space_names.nd rfl (Or.inl rfl)) (pgs_cons (pg_name (i := 4) sc_are_space_names.nd rfl (Or.inl rfl)) pgs_nil)))) (fun _ _ _ _ _ => pts_nil) (fun _ _ _ _ _ => (pv 3)))
      (pss_one (ps_ret (pe_and (pe_cmpR op_eq (pe_lenSetD rfl (by rfl) T.f_len (by rfl) T.f_set (pv 1)) (pe_callB call_len_seq (by rfl) T.f_len (by decide +kernel) (pa_cons (pv 1) pa_nil)) (nomark _)) (pe_one (pe_cmpR op_le (pe_c C_stores_of_sizes hr (by decide) rfl (pa_cons (pe_lc (own := [("_", 4), ("size", 5)]) rfl sc_are_space_names.nd (pi_list (pv 0)) (blkOk_by (own := [("_", 4), ("size", 5)]) (N := N_are_space_names) (sc := defScope (top 24)) (by decide +kernel)) (fun _ _ _ _ _ => (pgT (K := K) (n := 2) rfl (by rfl) (pgs_cons (pg_name (i := 4) sc_are_space_names.nd rfl (Or.inl rfl)) (pgs_cons (pg_name (i := 5) sc_are_space_names.nd rfl (Or.inl rfl)) pgs_nil)))) (fun _ _ _ _ _ => pts_nil) (fun _ _ _ _ _ => (pv 5))) pa_nil)) (pe_gc rfl T.c_MOST_STORES) (nomark _))))))))), ?_⟩
    refine ⟨_, rfl, (by show 2 ≤ sizeLine; decide), fun tp htp => ⟨_, tp, _, _, _, _, rfl, upd_same, .cons (ClsV.ty _) (.cons (ClsV.ty _) .nil), At.tyx T.rc (hv.up (Evl.Ex.new htp)), Kd.kit2 T.rc _ (by decide) (by decide), _, rfl, ?_⟩⟩
    exact iteTo rfl (hQ _ (Evl.Ex.new htp))
  | dic _ _ =>
    refine ⟨_, PSs.nox (pss_cons (ps_if (PW.pt (pw_or (pt_not (pt_val (pe_callB call_isiT (by rfl) T.f_isinstance (by decide +kernel) (pa_cons (pv 0) (pa_cons (pe_tup (pa_cons (pe_bltn (v := .ty "list") (u := .type "list") (by rfl) T.f_list (by decide +kernel) rfl) (pa_cons (pe_bltn (v := .ty "tuple") (u := .type "tuple") (by rfl) T.f_tuple (by decide +kernel) rfl) pa_nil))) pa_nil))))) (pw_or1 (pt_not (pt_chain op_le op_le pe_int (pe_callB call_len_seq (by rfl) T.f_len (by decide +kernel) (pa_cons (pv 0) pa_nil)) (pe_gc rfl T.c_MOST_NAMES)))))) (pss_one (ps_ret pe_bl)) pss_nil)
      (pss_cons (ps_if (pt_not (pt_val (pe_callB (cr_all rfl) (by rfl) T.f_all (by decide +kernel) (pa_cons (pe_lc (own := [("pair", 2)]) rfl sc_are_space_names.nd (pi_list (pv 0)) (blkOk_by (own := [("pair", 2)]) (N := N_are_space_names) (sc := defScope (top 24)) (by decide +kernel)) (fun _ _ _ _ _ => (pg_name (i := 2) sc_are_space_names.nd rfl (Or.inl rfl))) (fun _ _ _ _ _ => pts_nil) (fun _ _ _ _ _ => (pe_c C_is_sized_name hr (by decide) rfl (pa_cons (pv 2) pa_nil)))) pa_nil)))) (pss_one (ps_ret pe_bl)) pss_nil)
      (pss_cons (ps_setLc (i := 1) (own := [("name", 3), ("_", 4)]) rfl sc_are_space_names.nd rfl rfl (sw_true rfl rfl rfl (by decide +kernel)) (pi_list (pv 0)) (blkOk_by (own := [("name", 3), ("_", 4)]) (N := N_are_space_names) (sc := defScope (top 24)) (by decide +kernel)) (fun _ _ _ _ _ => (pgT (K := K) (n := 2) rfl (by rfl) (pgs_cons (pg_name (i := 3) sc_are_space_names.nd rfl (Or.inl rfl)) (pgs_cons (pg_name (i := 4) sc_are_space_names.nd rfl (Or.inl rfl)) pgs_nil)))) (fun _ _ _ _ _ => pts_nil) (fun _ _ _ _ _ => (pv 3)))
      (pss_one (ps_ret (pe_and (pe_cmpR op_eq (pe_lenSetD rfl (by rfl) T.f_len (by rfl) T.f_set (pv 1)) (pe_callB call_len_seq (by rfl) T.f_len (by decide +kernel) (pa_cons (pv 1) pa_nil)) (nomark _)) (pe_one (pe_cmpR op_le (pe_c C_stores_of_sizes hr (by decide) rfl (pa_cons (pe_lc (own := [("_", 4), ("size", 5)]) rfl sc_are_space_names.nd (pi_list (pv 0)) (blkOk_by (own := [("_", 4), ("size", 5)]) (N := N_are_space_names) (sc := defScope (top 24)) (by decide +kernel)) (fun _ _ _ _ _ => (pgT (K := K) (n := 2) rfl (by rfl) (pgs_cons (pg_name (i := 4) sc_are_space_names.nd rfl (Or.inl rfl)) (pgs_cons (pg_name (i := 5) sc_are_space_names.nd rfl (Or.inl rfl)) pgs_nil)))) (fun _ _ _ _ _ => pts_nil) (fun _ _ _ _ _ => (pv 5))) pa_nil)) (pe_gc rfl T.c_MOST_STORES) (nomark _))))))))), ?_⟩
    refine ⟨_, rfl, (by show 2 ≤ sizeLine; decide), fun tp htp => ⟨_, tp, _, _, _, _, rfl, upd_same, .cons (ClsV.ty _) (.cons (ClsV.ty _) .nil), At.tyx T.rc (hv.up (Evl.Ex.new htp)), Kd.kit2 T.rc _ (by decide) (by decide), _, rfl, ?_⟩⟩
    exact iteTo rfl (hQ _ (Evl.Ex.new htp))
  -- 

end
end K05
set_option Elab.async false
set_option linter.all false
set_option maxRecDepth 100000
set_option maxHeartbeats 1000000
/-! HxM: methods, makes and defs that may raise, called where that is taken -/
namespace L2
open PySem PySem.Spec PyProof.Rows
/-- a method that may raise -/
structure MetE (P : Program) (w : World) (K : PySem.W.Frag) (mg : Str → Option Value) (base : Heap) (k : Nat) (C : Addr) (m : Str) (sp : Sp) : Prop where
  there : ∃ f fd ps, (Cls K C ∧ Meth K C m f) ∧ FnOk P w K mg base (L2N.CX P w) k f fd ps sp ∧ Binds K fd ps []
/-- a class whose __init__ may raise -/
structure MakE (P : Program) (w : World) (K : PySem.W.Frag) (mg : Str → Option Value) (base : Heap) (k : Nat) (x : Str) (C : Addr) (sp : Sp) : Prop where
  there : ∃ f fd ps, (Mk K C f ∧ mg x = some (.ref C)) ∧ FnOk P w K mg base (L2N.CX P w) k f fd ps sp ∧ Binds K fd ps []
/-- what of exceptions is taken at the slots σ -/
abbrev TakesAt (X : Cx) (E : St → XK) : Prop := ∀ σ, PassesAt (L2N.CX X.prog X.w) X σ (E σ)
def tMetE (C : Addr) (m : Str) (sp : Sp) (E : St → XK) (ta : TE) (t : TA) : TE := fun σ H Q => ta σ H fun x H1 => ∃ a dx fs, x = .ref a ∧ H1 a = some (.ins C dx fs) ∧ fs.lookup m = none ∧
  t σ H1 fun vs H2 => sp (x :: vs) H2 Q (E σ)
def tMakE (C : Addr) (sp : Sp) (E : St → XK) (t : TA) : TE := fun σ H Q => t σ H fun vs H1 => ∀ x dx, H1 x = none → H1 dx = none → dx ≠ x →
  sp (.ref x :: vs) (upd (upd H1 dx (.own x)) x (.ins C dx [])) (fun v H2 => v = .non ∧ Q (.ref x) H2) (E σ)
section
variable {X : Cx} {k j : Nat} {C : Addr} {sp : Sp} {E : St → XK} {x m : Str} {p pos apos : Pos} {e o : Expr} {es : List Expr} {ta : TE} {t : TA}
theorem pe_mtE {pl : Sem Bool} (c : MetE X.prog X.w X.K X.mg X.base k C m sp) (hr : Room j X.A) (hk : k ≤ j) (tk : TakesAt X E) (he : PE X o ta) (ha : PA X (e :: es) t)
    (s1 : starEach (e :: es) X.env = (false, eval e X.env) :: starEach es X.env := by rfl)
    (s2 : (backTo pos (starEach es X.env)).any (·.1) = false := by rfl)
    (s3 : eval (.Call (.Attribute o m apos) (e :: es) [] pos) X.env = (do let ov ← eval o X.env; standAt apos.atName; let (f, first) ← holding [ov] (getMethod ov m pl); callWith pos f first (backTo pos (starEach (e :: es) X.env)) (backToKw pos (keywordEach [] X.env))) := by rfl) :
    PE X (.Call (.Attribute o m apos) (e :: es) [] pos) (tMetE C m sp E ta t) := by
  obtain ⟨f, fd, ps, ⟨hC, hM⟩, F, hb⟩ := c.there
  constructor
  intro pins s σ H Q I wish
  refine PySem.W.methodCall_KW (pl := pl) ?_ s3
  refine thn (he.run pins s σ H _ I wish) ?_
  rintro u s1' ⟨y, H1, I1, ry, a, dx, fs, rfl, at1, free, rest⟩
  obtain rfl : u = Value.ref a := ry
  refine getmeth_ok I1 at1 hC hM free ?_
  refine PySem.W.callWith_K (h₀ := X.base) (first := [Value.ref a]) I.ok.mod.kin hM.kp (thn (ha.run pos pins s1' σ H1 _ I1 rest) ?_) s1 s2
  rintro us s4 ⟨vs, H2, I2, rv, go⟩
  exact ⟨I2.kIn, run_fnS (vs := .ref a :: vs) (us := .ref a :: us) F (hr.mono hk) hb (tk σ) I2 (.cons rfl rv) go⟩
theorem pe_mkE (c : MakE X.prog X.w X.K X.mg X.base k x C sp) (hr : Room j X.A) (hk : k + 1 ≤ j) (tk : TakesAt X E) (hg : Gl X x) (ha : PA X (e :: es) t)
    (nd : (x == ("__debug__" : Str)) = false := by decide)
    (s1 : starEach (e :: es) X.env = (false, eval e X.env) :: starEach es X.env := by rfl)
    (s2 : (backTo pos (starEach es X.env)).any (·.1) = false := by rfl) :
    PE X (.Call (.Name x p) (e :: es) [] pos) (tMakE C sp E t) := by
  obtain ⟨f, fd, ps, ⟨hM, hm⟩, F, hb⟩ := c.there
  constructor
  intro pins s σ H Q I wish
  refine wpAny_Call_Name_kw (ld_glob I hg hm ?_ nd)
  refine PySem.W.callWith_K (h₀ := X.base) I.ok.mod.kin hM.kp (thn (ha.run pos pins s σ H _ I wish) ?_) s1 s2
  rintro us s4 ⟨vs, H1, I1, rv, go⟩
  refine ⟨I1.kIn, ?_⟩
  have n1 := I1.hok.fresh (Nat.le_succ s4.heap.objs.size)
  have n0 := I1.hok.fresh (Nat.le_refl s4.heap.objs.size)
  have goal := go (s4.heap.objs.size + 1) s4.heap.objs.size n1 n0 (Nat.ne_of_lt (Nat.lt_succ_self _))
  have I2 := Inv.made (C := C) I1
  have r2 : Vals (V.ref (s4.heap.objs.size + 1) :: vs) (Value.ref (s4.heap.objs.size + 1) :: us) := .cons rfl rv
  have len : (Value.ref (s4.heap.objs.size + 1) :: us).length = ps.length := (r2.length.symm).trans (F.len _ _ _ _ goal)
  have bind := hb _ (Value.ref (s4.heap.objs.size + 1) :: us) I2.kIn (by rw [List.append_nil]; exact len)
  rw [List.append_nil] at bind
  have rm : Room k X.A := hr.mono (by omega)
  have run := F.run _ X.stack _ _ ⟨Value.ref (s4.heap.objs.size + 1) :: us, []⟩ (Value.ref (s4.heap.objs.size + 1) :: us) _ _ (E σ) ((hr.mono hk).make C us []) (I2.env0.make C us []) bind r2 goal
  refine wpAny_call (make_map (f := f) I1.kIn hM.makes hM.init (beq_iff_eq.mp hM.fn) (codeAny_mono run ?_))
  intro r s' done
  rcases r with bad | good
  · exact tk σ pins _ _ bad s' I2 done
  · cases good with
    | next => exact done.elim
    | brk => exact done.elim
    | cont => exact done.elim
    | ret u =>
      obtain ⟨v, H', I3, rv', rfl, q3⟩ := I2.after done
      exact ⟨rv', V.ref (s4.heap.objs.size + 1), H', I3, rfl, q3⟩
end
end L2
set_option Elab.async false
set_option linter.all false
set_option maxRecDepth 100000
set_option maxHeartbeats 400000
namespace K05
open PySem PySem.Spec PyProof.Rows L2 C8
section
variable {P : Program} {w : World} {K : PySem.W.Frag} {mg : Str → Option Value} {base : Heap}
abbrev pe_ (K : PySem.W.Frag) : Addr := He.ga K "PatchError"
abbrev ca (K : PySem.W.Frag) (x : Str) : Addr := He.ga K x
abbrev ia (K : PySem.W.Frag) (x : Str) : Addr := He.ma K (He.ga K x) "__init__"
theorem exT (T : Txt K mg) {i : Nat} {x : Str} {fl : List Str} (h : exs[i]? = some (x, fl)) : ExT K (pe_ K) (ca K x) (ia K x) fl := exTB_ok T.cg T.ct (T.ex (x, fl) (List.mem_of_getElem? h))
theorem ca_inj (T : Txt K mg) {i j : Nat} {e f : Str × List Str} (hi : exs[i]? = some e) (hj : exs[j]? = some f) : ca K e.1 = ca K f.1 ↔ i = j := by
  have nd := (List.nodup_cons.mp (by simpa only [List.map_cons] using T.nd)).2
  rw [List.map_map] at nd
  have gi : ((exs.map fun e => He.ga K e.1))[i]? = some (ca K e.1) := by rw [List.getElem?_map, hi]; rfl
  have gj : ((exs.map fun e => He.ga K e.1))[j]? = some (ca K f.1) := by rw [List.getElem?_map, hj]; rfl
  constructor
  · intro h
    rw [← h] at gj
    obtain ⟨li, ei⟩ := List.getElem?_eq_some_iff.mp gi
    obtain ⟨lj, ej⟩ := List.getElem?_eq_some_iff.mp gj
    exact (List.getElem_inj nd).mp (ei.trans ej.symm)
  · intro h
    subst h
    rw [hi] at hj
    cases hj
    rfl
theorem ca_pe (T : Txt K mg) {i : Nat} {e : Str × List Str} (hi : exs[i]? = some e) : ca K e.1 ≠ pe_ K := by
  have nd := (List.nodup_cons.mp (by simpa only [List.map_cons] using T.nd)).1
  rw [List.map_map] at nd
  intro z
  exact nd (List.mem_map.mpr ⟨e, List.mem_of_getElem? hi, z⟩)
/-- isinstance of the classes -/
theorem kitIJ (T : Txt K mg) {i j : Nat} {x y : Str} {fl gl : List Str} (hi : exs[i]? = some (x, fl)) (hj : exs[j]? = some (y, gl)) : PySem.W.kitOne K (.ref (ca K x)) (.ref (ca K y)) = some (decide (i = j)) := by
  rw [(exT T hi).kit (exT T hj) (ca_pe T hj)]
  exact congrArg some (decide_eq_decide.mpr (ca_inj T hi hj))
theorem exmIJ (T : Txt K mg) {i j : Nat} {x y : Str} {fl gl : List Str} (hi : exs[i]? = some (x, fl)) (hj : exs[j]? = some (y, gl)) : PySem.W.exmOne K (.ref (ca K x)) (.ref (ca K y)) = some (decide (i = j)) := by
  rw [(exT T hi).exm (exT T hj) (ca_pe T hj)]
  exact congrArg some (decide_eq_decide.mpr (ca_inj T hi hj))
theorem kitP (T : Txt K mg) {i : Nat} {x : Str} {fl : List Str} (hi : exs[i]? = some (x, fl)) : PySem.W.kitOne K (.ref (ca K x)) (.ref (pe_ K)) = some true := (exT T hi).kitP T.pe_cl T.pe_ty
theorem kitV (T : Txt K mg) {i : Nat} {x : Str} {fl : List Str} (hi : exs[i]? = some (x, fl)) : PySem.W.kitOne K (.ref (ca K x)) (.type "ValueError") = some true := (exT T hi).kitV
theorem exmP (T : Txt K mg) {i : Nat} {x : Str} {fl : List Str} (hi : exs[i]? = some (x, fl)) : PySem.W.exmOne K (.ref (ca K x)) (.ref (pe_ K)) = some true := (exT T hi).exmP T.pe_su T.pe_hd T.pe_ty
theorem xv_out {H1 : Hp} {a C : Addr} {fs : List (Str × V)} (h : XV [] H1 a C fs) : ∃ d, H1 a = some (exo a C d) ∧ ((d = none ∧ fs = []) ∨ ∃ dx, d = some dx ∧ dx ≠ a ∧ H1 dx = some (.xd fs)) := by
  obtain ⟨d, hx, hf⟩ := h
  rcases hx with hx | ⟨_, hm, _⟩
  · refine ⟨d, hx, ?_⟩
    rcases hf with hf | ⟨dx, e1, e2⟩
    · exact .inl hf
    · refine .inr ⟨dx, e1, fun z => ?_, e2⟩
      rw [z, hx] at e2
      have q : exo a C d = HO.xd fs := Option.some.inj e2
      have z' : HO.ext _ = HO.xd fs := q
      cases z'
  · cases hm
theorem ex_del {H H1 : Hp} {a : Addr} (n : H a = none) (e : Ex H H1) : Ex H (delH H1 a) := fun b o h => by
  rw [delH_ne (ne_of_none h n)]
  exact e b o h
/-- an error of the class x, that holds v, is let out -/
def Out (K : PySem.W.Frag) (E : XK) (H : Hp) (x : Str) (v : V) : Prop := ∀ d H', Ex H H' → H' d = some (.xd [("given", v)]) → E (.ref (ca K x)) (some d) H'
theorem Out.up {K : PySem.W.Frag} {E : XK} {H H1 : Hp} {x : Str} {v : V} (h : Out K E H x v) (e : Ex H H1) : Out K E H1 x v := fun d H' g q => h d H' (e.trans g) q
/-- .. the heap H with one object that is not yet known -/
theorem out_raise {K : PySem.W.Frag} {E : XK} {H H1 : Hp} {a : Addr} {x : Str} {v : V} (T : ExT K (pe_ K) (ca K x) (ia K x) ["given"]) (n : H a = none) (e : Ex H H1) (xv : XV [] H1 a (ca K x) [("given", v)]) (h : Out K E H x v) :
    ∃ d, H1 a = some (exo a (ca K x) d) ∧ E (.ref (ca K x)) d (delH H1 a) := by
  obtain ⟨d, hd, hf⟩ := xv_out xv
  refine ⟨d, hd, ?_⟩
  rcases hf with ⟨_, q⟩ | ⟨dx, rfl, q2, q3⟩
  · cases q
  · refine h dx _ (ex_del n e) ?_
    rw [delH_ne q2]
    exact q3
abbrev N_InvalidNumber_init : List Str := ["self", "given"]
theorem sc_InvalidNumber_init : FnScope N_InvalidNumber_init ["self", "given"] (defScope (inClass (top 4) 0)) := ⟨rfl, rfl, rfl, by decide +kernel, rfl, by decide +kernel, by decide +kernel⟩
theorem fn_InvalidNumber_init (T : Txt K mg) {fd : FuncData} (F : FunD K "__init__" "InvalidNumber.__init__" (defArgs (inClass (top 4) 0)) (defBody (inClass (top 4) 0)) (defScope (inClass (top 4) 0)) [] [] (He.ma K (He.ga K "InvalidNumber") "__init__") fd) : FnOk P w K mg base C8.CX0 1 (ia K "InvalidNumber") fd ["self", "given"] (spXI (ca K "InvalidNumber") ["given"]) := by
  have TE := exT T (i := 0) (x := "InvalidNumber") (fl := ["given"]) rfl
  refine F.ok sc_InvalidNumber_init (fun vs H Q E h => by obtain ⟨_, _, rfl, hl, _⟩ := h; simpa using hl) (fun cdv A outer s H vs Q E hr h => ?_)
  obtain ⟨a, us, rfl, hl, ha, h0, h1⟩ := h
  obtain ⟨u1, rfl⟩ : ∃ u1, us = [u1] := match us, hl with | [u1], _ => ⟨u1, rfl⟩
  refine ⟨_, PSs.nox (pss_one (ps_ost (pv 0) (pv 1))), ?_⟩
  refine ⟨_, rfl, _, rfl, a, _, rfl, TE.oex, TE.no _ (by simp), .inl ⟨ha, fun d hd dne => ?_⟩⟩
  exact h1 (by simp) d _ hd dne upd_same ((upd_ne dne).trans upd_same) (fun b n1 n2 => by rw [upd_ne n1, upd_ne n2])
theorem mkp_InvalidNumber (T : Txt K mg) : MakX P w K mg base 1 "InvalidNumber" (pe_ K) (ca K "InvalidNumber") ["given"] 1 [] [] := by
  obtain ⟨fd, F⟩ := T.d_InvalidNumber_init
  exact ⟨⟨_, fd, exT T (i := 0) rfl, T.g_InvalidNumber, fn_InvalidNumber_init T F, F.kbindsP 2 [] [] (fun _ _ _ _ _ _ us ws h1 h2 => match us, ws, h1, h2 with | [_, _], [], _, _ => rfl)⟩, by decide⟩
abbrev N_InvalidNames_init : List Str := ["self", "given"]
theorem sc_InvalidNames_init : FnScope N_InvalidNames_init ["self", "given"] (defScope (inClass (top 5) 0)) := ⟨rfl, rfl, rfl, by decide +kernel, rfl, by decide +kernel, by decide +kernel⟩
theorem fn_InvalidNames_init (T : Txt K mg) {fd : FuncData} (F : FunD K "__init__" "InvalidNames.__init__" (defArgs (inClass (top 5) 0)) (defBody (inClass (top 5) 0)) (defScope (inClass (top 5) 0)) [] [] (He.ma K (He.ga K "InvalidNames") "__init__") fd) : FnOk P w K mg base C8.CX0 1 (ia K "InvalidNames") fd ["self", "given"] (spXI (ca K "InvalidNames") ["given"]) := by
  have TE := exT T (i := 1) (x := "InvalidNames") (fl := ["given"]) rfl
  refine F.ok sc_InvalidNames_init (fun vs H Q E h => by obtain ⟨_, _, rfl, hl, _⟩ := h; simpa using hl) (fun cdv A outer s H vs Q E hr h => ?_)
  obtain ⟨a, us, rfl, hl, ha, h0, h1⟩ := h
  obtain ⟨u1, rfl⟩ : ∃ u1, us = [u1] := match us, hl with | [u1], _ => ⟨u1, rfl⟩
  refine ⟨_, PSs.nox (pss_one (ps_ost (pv 0) (pv 1))), ?_⟩
  refine ⟨_, rfl, _, rfl, a, _, rfl, TE.oex, TE.no _ (by simp), .inl ⟨ha, fun d hd dne => ?_⟩⟩
  exact h1 (by simp) d _ hd dne upd_same ((upd_ne dne).trans upd_same) (fun b n1 n2 => by rw [upd_ne n1, upd_ne n2])
theorem mkp_InvalidNames (T : Txt K mg) : MakX P w K mg base 1 "InvalidNames" (pe_ K) (ca K "InvalidNames") ["given"] 1 [] [] := by
  obtain ⟨fd, F⟩ := T.d_InvalidNames_init
  exact ⟨⟨_, fd, exT T (i := 1) rfl, T.g_InvalidNames, fn_InvalidNames_init T F, F.kbindsP 2 [] [] (fun _ _ _ _ _ _ us ws h1 h2 => match us, ws, h1, h2 with | [_, _], [], _, _ => rfl)⟩, by decide⟩
abbrev N_InvalidStore_init : List Str := ["self", "given"]
theorem sc_InvalidStore_init : FnScope N_InvalidStore_init ["self", "given"] (defScope (inClass (top 6) 0)) := ⟨rfl, rfl, rfl, by decide +kernel, rfl, by decide +kernel, by decide +kernel⟩
theorem fn_InvalidStore_init (T : Txt K mg) {fd : FuncData} (F : FunD K "__init__" "InvalidStore.__init__" (defArgs (inClass (top 6) 0)) (defBody (inClass (top 6) 0)) (defScope (inClass (top 6) 0)) [] [] (He.ma K (He.ga K "InvalidStore") "__init__") fd) : FnOk P w K mg base C8.CX0 1 (ia K "InvalidStore") fd ["self", "given"] (spXI (ca K "InvalidStore") ["given"]) := by
  have TE := exT T (i := 2) (x := "InvalidStore") (fl := ["given"]) rfl
  refine F.ok sc_InvalidStore_init (fun vs H Q E h => by obtain ⟨_, _, rfl, hl, _⟩ := h; simpa using hl) (fun cdv A outer s H vs Q E hr h => ?_)
  obtain ⟨a, us, rfl, hl, ha, h0, h1⟩ := h
  obtain ⟨u1, rfl⟩ : ∃ u1, us = [u1] := match us, hl with | [u1], _ => ⟨u1, rfl⟩
  refine ⟨_, PSs.nox (pss_one (ps_ost (pv 0) (pv 1))), ?_⟩
  refine ⟨_, rfl, _, rfl, a, _, rfl, TE.oex, TE.no _ (by simp), .inl ⟨ha, fun d hd dne => ?_⟩⟩
  exact h1 (by simp) d _ hd dne upd_same ((upd_ne dne).trans upd_same) (fun b n1 n2 => by rw [upd_ne n1, upd_ne n2])
theorem mkp_InvalidStore (T : Txt K mg) : MakX P w K mg base 1 "InvalidStore" (pe_ K) (ca K "InvalidStore") ["given"] 1 [] [] := by
  obtain ⟨fd, F⟩ := T.d_InvalidStore_init
  exact ⟨⟨_, fd, exT T (i := 2) rfl, T.g_InvalidStore, fn_InvalidStore_init T F, F.kbindsP 2 [] [] (fun _ _ _ _ _ _ us ws h1 h2 => match us, ws, h1, h2 with | [_, _], [], _, _ => rfl)⟩, by decide⟩
abbrev N_InvalidValues_init : List Str := ["self", "given"]
theorem sc_InvalidValues_init : FnScope N_InvalidValues_init ["self", "given"] (defScope (inClass (top 7) 0)) := ⟨rfl, rfl, rfl, by decide +kernel, rfl, by decide +kernel, by decide +kernel⟩
theorem fn_InvalidValues_init (T : Txt K mg) {fd : FuncData} (F : FunD K "__init__" "InvalidValues.__init__" (defArgs (inClass (top 7) 0)) (defBody (inClass (top 7) 0)) (defScope (inClass (top 7) 0)) [] [] (He.ma K (He.ga K "InvalidValues") "__init__") fd) : FnOk P w K mg base C8.CX0 1 (ia K "InvalidValues") fd ["self", "given"] (spXI (ca K "InvalidValues") ["given"]) := by
  have TE := exT T (i := 3) (x := "InvalidValues") (fl := ["given"]) rfl
  refine F.ok sc_InvalidValues_init (fun vs H Q E h => by obtain ⟨_, _, rfl, hl, _⟩ := h; simpa using hl) (fun cdv A outer s H vs Q E hr h => ?_)
  obtain ⟨a, us, rfl, hl, ha, h0, h1⟩ := h
  obtain ⟨u1, rfl⟩ : ∃ u1, us = [u1] := match us, hl with | [u1], _ => ⟨u1, rfl⟩
  refine ⟨_, PSs.nox (pss_one (ps_ost (pv 0) (pv 1))), ?_⟩
  refine ⟨_, rfl, _, rfl, a, _, rfl, TE.oex, TE.no _ (by simp), .inl ⟨ha, fun d hd dne => ?_⟩⟩
  exact h1 (by simp) d _ hd dne upd_same ((upd_ne dne).trans upd_same) (fun b n1 n2 => by rw [upd_ne n1, upd_ne n2])
theorem mkp_InvalidValues (T : Txt K mg) : MakX P w K mg base 1 "InvalidValues" (pe_ K) (ca K "InvalidValues") ["given"] 1 [] [] := by
  obtain ⟨fd, F⟩ := T.d_InvalidValues_init
  exact ⟨⟨_, fd, exT T (i := 3) rfl, T.g_InvalidValues, fn_InvalidValues_init T F, F.kbindsP 2 [] [] (fun _ _ _ _ _ _ us ws h1 h2 => match us, ws, h1, h2 with | [_, _], [], _, _ => rfl)⟩, by decide⟩
abbrev N_InvalidName_init : List Str := ["self", "given"]
theorem sc_InvalidName_init : FnScope N_InvalidName_init ["self", "given"] (defScope (inClass (top 8) 0)) := ⟨rfl, rfl, rfl, by decide +kernel, rfl, by decide +kernel, by decide +kernel⟩
theorem fn_InvalidName_init (T : Txt K mg) {fd : FuncData} (F : FunD K "__init__" "InvalidName.__init__" (defArgs (inClass (top 8) 0)) (defBody (inClass (top 8) 0)) (defScope (inClass (top 8) 0)) [] [] (He.ma K (He.ga K "InvalidName") "__init__") fd) : FnOk P w K mg base C8.CX0 1 (ia K "InvalidName") fd ["self", "given"] (spXI (ca K "InvalidName") ["given"]) := by
  have TE := exT T (i := 4) (x := "InvalidName") (fl := ["given"]) rfl
  refine F.ok sc_InvalidName_init (fun vs H Q E h => by obtain ⟨_, _, rfl, hl, _⟩ := h; simpa using hl) (fun cdv A outer s H vs Q E hr h => ?_)
  obtain ⟨a, us, rfl, hl, ha, h0, h1⟩ := h
  obtain ⟨u1, rfl⟩ : ∃ u1, us = [u1] := match us, hl with | [u1], _ => ⟨u1, rfl⟩
  refine ⟨_, PSs.nox (pss_one (ps_ost (pv 0) (pv 1))), ?_⟩
  refine ⟨_, rfl, _, rfl, a, _, rfl, TE.oex, TE.no _ (by simp), .inl ⟨ha, fun d hd dne => ?_⟩⟩
  exact h1 (by simp) d _ hd dne upd_same ((upd_ne dne).trans upd_same) (fun b n1 n2 => by rw [upd_ne n1, upd_ne n2])
theorem mkp_InvalidName (T : Txt K mg) : MakX P w K mg base 1 "InvalidName" (pe_ K) (ca K "InvalidName") ["given"] 1 [] [] := by
  obtain ⟨fd, F⟩ := T.d_InvalidName_init
  exact ⟨⟨_, fd, exT T (i := 4) rfl, T.g_InvalidName, fn_InvalidName_init T F, F.kbindsP 2 [] [] (fun _ _ _ _ _ _ us ws h1 h2 => match us, ws, h1, h2 with | [_, _], [], _, _ => rfl)⟩, by decide⟩
abbrev N_ByZero_init : List Str := ["self"]
theorem sc_ByZero_init : FnScope N_ByZero_init ["self"] (defScope (inClass (top 9) 0)) := ⟨rfl, rfl, rfl, by decide +kernel, rfl, by decide +kernel, by decide +kernel⟩
theorem fn_ByZero_init (T : Txt K mg) {fd : FuncData} (F : FunD K "__init__" "ByZero.__init__" (defArgs (inClass (top 9) 0)) (defBody (inClass (top 9) 0)) (defScope (inClass (top 9) 0)) [] [] (He.ma K (He.ga K "ByZero") "__init__") fd) : FnOk P w K mg base C8.CX0 1 (ia K "ByZero") fd ["self"] (spXI (ca K "ByZero") []) := by
  have TE := exT T (i := 5) (x := "ByZero") (fl := []) rfl
  refine F.ok sc_ByZero_init (fun vs H Q E h => by obtain ⟨_, _, rfl, hl, _⟩ := h; simpa using hl) (fun cdv A outer s H vs Q E hr h => ?_)
  obtain ⟨a, us, rfl, hl, ha, h0, h1⟩ := h
  obtain rfl : us = [] := List.eq_nil_of_length_eq_zero hl
  refine ⟨_, PSs.nox (pss_one ps_pass), ?_⟩
  exact h0 rfl
theorem mkp_ByZero (T : Txt K mg) : MakX P w K mg base 1 "ByZero" (pe_ K) (ca K "ByZero") [] 0 [] [] := by
  obtain ⟨fd, F⟩ := T.d_ByZero_init
  exact ⟨⟨_, fd, exT T (i := 5) rfl, T.g_ByZero, fn_ByZero_init T F, F.kbindsP 1 [] [] (fun _ _ _ _ _ _ us ws h1 h2 => match us, ws, h1, h2 with | [_], [], _, _ => rfl)⟩, by decide⟩

end
end K05
set_option Elab.async false
set_option linter.all false
set_option maxRecDepth 100000
set_option maxHeartbeats 1000000
/-! HxO: a thing, looked for in a list of texts -/
namespace GP
open PySem PySem.SeqAt GQ
open PySem.AutoSeq1 (wpAny_loadPart')
open MeetsSeq MeetsSeq2 MeetsSeq3 SeqRoads2
theorem str_eq_obj (z : Str) (t : Tok) (a : Addr) (o : Obj) (hd : ∀ v, o.data ≠ .prim v) :
    Meets (Builtin.«str.__eq__» ⟨[.str z t, .ref a], []⟩) (fun _ R s => s.heap.get? a = some o ∧ R (.ok (.ret .notImplemented)) s) :=
  .of_wp fun prog w A R s h => by
    obtain ⟨c, dd, data, sl⟩ := o
    obtain ⟨hp, g, d, tk, os⟩ := s
    obtain ⟨hl, h⟩ := h
    cases data with
    | prim v => exact absurd rfl (hd v)
    | plain => wp_walk using wpAny_loadPart' hl, wpAny_load hl; exact ⟨_, rfl, h⟩
    | seq _ _ => wp_walk using wpAny_loadPart' hl, wpAny_load hl; exact ⟨_, rfl, h⟩
    | dict _ _ => wp_walk using wpAny_loadPart' hl, wpAny_load hl; exact ⟨_, rfl, h⟩
    | set _ _ _ => wp_walk using wpAny_loadPart' hl, wpAny_load hl; exact ⟨_, rfl, h⟩
    | bytearray _ _ => wp_walk using wpAny_loadPart' hl, wpAny_load hl; exact ⟨_, rfl, h⟩
    | cell _ => wp_walk using wpAny_loadPart' hl, wpAny_load hl; exact ⟨_, rfl, h⟩
    | func _ => wp_walk using wpAny_loadPart' hl, wpAny_load hl; exact ⟨_, rfl, h⟩
    | cls _ => wp_walk using wpAny_loadPart' hl, wpAny_load hl; exact ⟨_, rfl, h⟩
    | fields _ => wp_walk using wpAny_loadPart' hl, wpAny_load hl; exact ⟨_, rfl, h⟩
    | freed => wp_walk using wpAny_loadPart' hl, wpAny_load hl; exact ⟨_, rfl, h⟩
section
variable {prog : Program} {w : World} {A : Around} {R : Result → Shared → Prop}
/-- at each turn the list is read anew: N items, none equal to x -/
def NoneI (prog : Program) (w : World) (A : Around) (E : Value → Shared → Prop) (l : Addr) (x : Value) (N : Nat) (I : Shared → Prop) : Prop :=
  ∀ s, I s → ∃ (items : Array Value) (n : Nat), s.heap.get? l = some { cls := .type "list", data := .seq items n } ∧ items.size = N ∧
    ∀ i (h : i < items.size), wpAny (model prog w) A.in1 (eqBool items[i] x) (fun r s' => r = false ∧ I s') E s
theorem none_loop (l : Addr) (x : Value) (N : Nat) (I : Shared → Prop) (hl : NoneI prog w A (fun e s' => R (.error e) s') l x N I) (fin : ∀ s, I s → R (.ok (.ret (.bool false))) s) (k : Nat) :
    ∀ i : Nat, N - i = k → i ≤ N → ∀ s, I s →
      wpAny (model prog w) A.in1 (Builtin.«list.__contains__.loop» ⟨[.ref l, x, rawInt i], []⟩) (FinOf prog w A R) (fun e s' => R (.error e) s') s := by
  induction k with
  | zero =>
    intro i hk hi s h
    obtain ⟨items, n, h1, h2, _⟩ := hl _ h
    have hR := fin s h
    obtain ⟨hp, g, d, tk, os⟩ := s
    wp_walk using wpAny_loadPart' h1
    have h3 : items[((i : Nat) : Int).toNat]? = none := by simp; omega
    rw [h3]
    wp_walk
    exact hR
  | succ k ih =>
    intro i hk hi s h
    obtain ⟨items, n, h1, h2, turn⟩ := hl _ h
    have lt : i < items.size := by omega
    have ht := turn i lt
    obtain ⟨hp, g, d, tk, os⟩ := s
    wp_walk using wpAny_loadPart' h1
    have h3 : items[((i : Nat) : Int).toNat]? = some items[i] := by simp [lt]
    have h4 : ((i : Int) + 1) = ((i + 1 : Nat) : Int) := by omega
    rw [h3]
    refine wpAny_bind (wpAny_mono ht (fun r s2 q => ?_) fun _ _ x => x)
    obtain ⟨rfl, q⟩ := q
    have next := ih (i + 1) (by omega) (by omega) s2 q
    obtain ⟨hp2, g2, d2, tk2, os2⟩ := s2
    wp_walk
    rw [h4]
    exact ⟨plainId_quiet plain_contains_loop _, codeAny_builtin entry_contains_loop (by
      rw [Around.under_plainId plain_contains_loop _]
      exact next)⟩
theorem none_in {l : Addr} {x : Value} {N : Nat} {I : Shared → Prop} {E : Value → Shared → Prop} {Q : Value → Shared → Prop} {s : Shared} (hl : NoneI prog w A E l x N I) (fin : ∀ s, I s → Q (.bool false) s) (h : I s) :
    wpAny (model prog w) A (compareOp .In x (.ref l)) Q E s := by
  obtain ⟨items, n, h1, _, _⟩ := hl _ h
  show wpAny (model prog w) A (do return Value.bool (← contains (.ref l) x)) Q E s
  refine wpAny_bind (wpAny_contains_slot ⟨_, h1, rfl⟩ F.slot_list_contains (wpAny_mono (Q := fun v s' => v = .bool false ∧ I s') (call_here F.slot_list_contains ⟨_, h1, rfl⟩ F.entry_list_contains (F.args_list_contains_2 _ _) ?_) (fun v s' hv => ?_) fun _ _ e => e))
  · have run := none_loop (A := A) (R := wants (fun v s' => v = .bool false ∧ I s') E) l x N I hl (fun s q => ⟨rfl, q⟩) _ 0 rfl (Nat.zero_le _) s h
    obtain ⟨hp, g, d, tk, os⟩ := s
    wp_walk using wpAny_loadPart' h1
    exact ⟨plainId_quiet plain_contains_loop _, codeAny_builtin entry_contains_loop (by
      rw [Around.under_plainId plain_contains_loop _]
      exact run)⟩
  · obtain ⟨rfl, q⟩ := hv
    exact wpAny_truthy_bool (wpAny_pure (fin s' q))
end
end GP
namespace L2
open PySem PySem.Spec PyProof.Rows C8
section
variable {X : Cx} {n : Nat} {C f a dx : Addr} {fd : FuncData} {ps : List Str} {sp : Sp} {A : Around} {pins : List (Addr × Obj)} {σ : St} {H : Hp} {s : Shared} {fs : List (Str × V)}
theorem rc_str_own (F : FnOk X.prog X.w X.K X.mg X.base C8.CX0 n f fd ps sp) (hs : PySem.W.findIn X.K (.ref C) "__eq__" = some (some (.ref f))) (hf : PySem.W.isFn X.K (.ref f) = true) (hb : Binds X.K fd ps [])
    (su : PySem.W.subIn X.K (.ref C) (.type "str") = some false) (sb : Sub X n A) (I : Inv X pins σ H s) (ha : H a = some (.ins C dx fs)) {z : Str} {t : Tok}
    (hsp : sp [.ref a, .str z] H (fun v H' => v = .bl false ∧ H' = H) C8.E0) :
    wpAny (model X.prog X.w) A (richCompare .Eq (.str z t) (.ref a)) (fun r s' => r = .bool false ∧ Inv X pins σ H s') X.xe s := by
  obtain ⟨d0, d1, d2, ob, _⟩ := (show ObjOk X.prog X.w H s.heap a (.ins C dx fs) from I.hok a _ ha)
  obtain ⟨mA, J, _⟩ := ins_get I.hok ha
  obtain ⟨od, J, _⟩ := J.look
  have one : ∀ {Q : Option Value → Shared → Prop}, (∀ s', Inv X pins σ H s' → Q (some (.bool false)) s') → wpAny (model X.prog X.w) A (tryCompare (.ref a) "__eq__" (.str z t)) Q X.xe s := by
    intro Q hQ
    unfold tryCompare
    refine wpAny_bind (PySem.W.ifBound_K I.kIn J hs hf ?_)
    have e := I.env0
    have e0 : Env0 X.prog X.w X.K X.mg X.base A X.stack s H := ⟨by rw [sb.fr]; exact e.frames, e.mod, e.bs, e.bsz, e.funs, e.frf, e.hok, e.bare⟩
    have hl := F.len _ _ _ _ hsp
    have r2 : Vals [V.ref a, V.str z] [Value.ref a, Value.str z t] := .cons rfl (.cons ⟨t, rfl⟩ .nil)
    have bd : BindsTo s fd ⟨[.ref a, .str z t], []⟩ (ps.zip [.ref a, .str z t]) := by
      have := hb s [.ref a, .str z t] I.kIn (by simpa using hl)
      simpa using this
    refine wpAny_call (codeAny_mono (F.run A X.stack s H ⟨[.ref a, .str z t], []⟩ [.ref a, .str z t] [.ref a, .str z] _ C8.E0 sb.room e0 bd r2 hsp) fun r s' done => ?_)
    rcases r with bad | good
    · exact (pass0 (X := X) pins σ H s bad s' I done)
    · cases good with
      | next => exact done.elim
      | brk => exact done.elim
      | cont => exact done.elim
      | ret v =>
        obtain ⟨y, H', I', ry, rfl, rfl⟩ := I.after done
        cases ry
        exact wpAny_pure (hQ _ I')
  unfold richCompare
  simp only [(typeIs_str s z t).oneThing_none]
  refine wpAny_holding (wpAny_bind (wpAny_cRoomFor sb.room.units0 ?_))
  refine wpAny_bind (wpAny_typeOf (typeIs_str s z t) (wpAny_bind (J.type.here ?_)))
  have ne : (Value.type "str" != Value.ref C) = true := rfl
  simp only [ne, if_true]
  refine wpAny_bind ((PySem.W.looks_subIn I.kIn su).here ?_)
  simp only [Bool.false_eq_true, if_false, Bool.not_false, if_true]
  refine wpAny_bind (m := tryCompare (.str z t) _ (.ref a)) (wpAny_tryCompare_declines (typeIs_str s z t) PySem.F.slot_str_eq (call_meets PySem.F.slot_str_eq (typeIs_str s z t) PySem.F.entry_str_eq (PySem.F.args_str_eq_2 _ _) (GP.str_eq_obj z t a _ (by intro v q; cases q)) ⟨ob, rfl, ?_⟩))
  exact wpAny_bind (m := tryCompare (.ref a) _ (.str z t)) (one fun s' I' => wpAny_pure ⟨rfl, I'⟩)
/-- == inside a builtin -/
theorem eq_str_own (F : FnOk X.prog X.w X.K X.mg X.base C8.CX0 n f fd ps sp) (hs : PySem.W.findIn X.K (.ref C) "__eq__" = some (some (.ref f))) (hf : PySem.W.isFn X.K (.ref f) = true) (hb : Binds X.K fd ps [])
    (su : PySem.W.subIn X.K (.ref C) (.type "str") = some false) (sb : Sub X n A) (I : Inv X pins σ H s) (ha : H a = some (.ins C dx fs)) {z : Str} {t : Tok}
    (hsp : sp [.ref a, .str z] H (fun v H' => v = .bl false ∧ H' = H) C8.E0) :
    wpAny (model X.prog X.w) A (eqBool (.str z t) (.ref a)) (fun r s' => r = false ∧ Inv X pins σ H s') X.xe s := by
  unfold eqBool
  refine wpAny_holding ?_
  refine wpAny_ite_split (fun hab => absurd (eq_of_beq hab) nofun) (fun _ => ?_)
  refine wpAny_bind (wpAny_mono (rc_str_own F hs hf hb su sb I ha hsp) (fun v s' hv => ?_) fun _ _ e => e)
  obtain ⟨rfl, I'⟩ := hv
  exact wpAny_truthy_bool ⟨rfl, I'⟩
/-- whether a thing is one of some texts -/
def inB (zs : List Str) : Th → Bool
  | .str z => zs.contains z
  | _ => false
/-- a thing in a list of texts; its ratios have an own == that says no to texts -/
def rInS (K : PySem.W.Frag) (R : Addr) : R2 := fun x y H Q => ∃ (d : Th) (l : Addr) (zs : List Str), At R H x d ∧ y = .ref l ∧ H l = some (.lst (zs.map V.str)) ∧ (∀ z ∈ zs, z.length ≤ 1000) ∧ Q (.bl (inB zs d)) H
theorem any_noS (zs : List Str) (x : V) (h : ∀ z, eqV (.str z) x = false) : inV x (zs.map V.str) = false := by
  unfold inV
  rw [List.any_eq_false]
  intro y hy
  obtain ⟨z, _, rfl⟩ := List.mem_map.mp hy
  rw [h z]
  decide
theorem inV_strs (zs : List Str) (z : Str) : inV (.str z) (zs.map V.str) = zs.contains z := by
  induction zs with
  | nil => rfl
  | cons y zs ih =>
    have e1 : inV (.str z) ((y :: zs).map V.str) = (eqV (.str y) (.str z) || inV (.str z) (zs.map V.str)) := rfl
    rw [e1, ih, List.contains_cons]
    show ((y == z) || _) = _
    rw [Bool.beq_comm]
theorem rc_str_dict {prog : Program} {w : World} {l : Addr} {o : Obj} {es : Array DictEntry} {ep : Nat} (hT : s.TypeIs (.ref l) "dict") (ho : s.heap.get? l = some o) (hd : o.data = .dict es ep) (hu : A.units < cLine) (z : Str) (t : Tok) {E : Value → Shared → Prop} {Q : Bool → Shared → Prop} (q : Q false s) :
    wpAny (model prog w) A (eqBool (.str z t) (.ref l)) Q E s := by
  unfold eqBool
  refine wpAny_holding ?_
  refine wpAny_ite_split (fun hab => absurd (eq_of_beq hab) nofun) (fun _ => ?_)
  refine wpAny_bind (SeqAt.rc_eq_decline_or (k := false) (typeIs_str s z t) hT (by decide) PySem.F.sub_dict_str PySem.F.slot_str_eq PySem.F.slot_dict_eq_refl
    (fun _ hq => call_meets PySem.F.slot_str_eq (typeIs_str s z t) PySem.F.entry_str_eq (PySem.F.args_str_eq_2 _ _) (GP.str_eq_obj z t l o (by intro v q; rw [hd] at q; cases q)) ⟨ho, hq⟩)
    (fun _ hq => ?_) (fun _ hq => wpAny_of_eq (rfl : isSame (.str z t) (.ref l) = pure false) hq) (.inr hu) (wpAny_truthy_bool q))
  refine wpAny_call_entry PySem.F.slot_dict_eq hT PySem.F.entry_dict_eq ?_ (PySem.F.args_dict_eq_2 _ _)
  show wpAny _ _ (Builtin.Dict.dictSlotArgs "__eq__" ⟨[.ref l, .str z t], []⟩ >>= _) _ _ s
  refine wpAny_bind ?_
  unfold Builtin.Dict.dictSlotArgs
  refine wpAny_bind (wpAny_notOrdered_dict hT ?_)
  show wpAny _ _ (pure (Value.ref l, Value.str z t)) _ _ s
  refine wpAny_pure ?_
  refine wpAny_bind (wpAny_isInstance (T := "str") (typeIs_str s z t) PySem.F.sub_str_dict ?_)
  simp only [Bool.not_false, if_true]
  exact wpAny_bind (wpAny_rule (wpAny_pure ⟨_, rfl, hq⟩))
theorem strs_items : ∀ {zs : List Str} {its : List Value}, Vals (zs.map V.str) its → ∀ u ∈ its, ∃ z t, u = .str z t ∧ z ∈ zs
  | [], _, .nil => fun u hu => by cases hu
  | z :: zs, _, .cons r h => fun u hu => by
    rcases List.mem_cons.mp hu with rfl | hu
    · obtain ⟨t, rfl⟩ := r
      exact ⟨z, t, rfl, List.mem_cons_self ..⟩
    · obtain ⟨z', t', e, m⟩ := strs_items h u hu
      exact ⟨z', t', e, List.mem_cons_of_mem _ m⟩
theorem pure_no (l : Addr) (zs : List Str) {Q : VK} {v u : Value} (I : Inv X pins σ H s) (ry : RelV (.ref l) u) (hl : H l = some (.lst (zs.map V.str))) (he : ∀ (A1 : Around) (z : Str) (t : Tok), A1.units < cLine → SeqAt.EqAt A1 s (.str z t) v false) (q : Q (.bl false) H) (hu : X.A.units + 1 < cLine) :
    wpAny (model X.prog X.w) X.A (compareOp .In v u) (EP X pins σ Q) X.xe s := by
  cases ry
  obtain ⟨its, r, pl, hz⟩ := I.list (SqL.of hl)
  refine SeqAt.in_listAt (fun _ => false) pl.isList (fun w hw => ?_) ⟨.bl _, H, I, rfl, ?_⟩
  · obtain ⟨z, t, rfl, _⟩ := strs_items r w (by simpa using hw)
    exact he _ z t hu
  · have e : (its.toArray.any fun _ => false) = false := by simp
    rw [e]
    exact q
theorem op_inS {k j : Nat} {R : Addr} (c : Spc X.prog X.w X.K X.mg X.base k R "__eq__" sp) (hsp : ∀ (r dx : Addr) (i : Int) (z : Str) (H : Hp) (Q : VK), H r = some (.ins R dx (wholeF i)) → z.length ≤ 1000 → Q (.bl false) H → sp [.ref r, .str z] H Q C8.E0)
    (su : PySem.W.subIn X.K (.ref R) (.type "str") = some false) (hr : Room j X.A) (hk : k + 1 ≤ j) : OpR X (compareOp .In) (rInS X.K R) := by
  intro pins s σ H x y v u Q I rx ry h
  obtain ⟨d, l, zs, hx, rfl, hl, hz, q⟩ := h
  have flat : flatV x = true → inV x (zs.map V.str) = inB zs d → wpAny (model X.prog X.w) X.A (compareOp .In v u) (EP X pins σ Q) X.xe s := fun f1 e1 => by
    refine op_in_seq pins s σ H x (.ref l) v u Q I rx ry ⟨l, _, rfl, .inl (SqL.of hl), f1, flat_strs zs, ?_⟩
    rw [if_neg (by decide), e1]
    exact q
  cases hx with
  | non => exact flat rfl (any_noS zs _ fun _ => rfl)
  | bl b => exact flat rfl (any_noS zs _ fun _ => rfl)
  | int i => exact flat rfl (any_noS zs _ fun _ => rfl)
  | str z _ => exact flat rfl (inV_strs zs z)
  | @lst a xs ds hh _ =>
    refine pure_no l zs I ry hl (fun A1 w1 t1 hu => ?_) q (by have := hr.un; omega)
    cases rx
    obtain ⟨z1, its1, n1, r1, e1⟩ := I.lstM hh
    exact SeqAt.EqAt.str_list w1 t1 ⟨_, e1.2, rfl, n1, rfl⟩ hu
  | @tup a xs ds hh _ =>
    refine pure_no l zs I ry hl (fun A1 w1 t1 hu => ?_) q (by have := hr.un; omega)
    cases rx
    obtain ⟨its1, r1, pl1, _⟩ := I.tuple (.inl hh)
    exact SeqAt.EqAt.str_tuple w1 t1 pl1 hu
  | @dic a kvs ds hh _ =>
    refine pure_no l zs I ry hl (fun A1 w1 t1 hu prog w E Q hq => ?_) q (by have := hr.un; omega)
    cases rx
    obtain ⟨_, _, vs, _, hD⟩ := (show ObjOk X.prog X.w H s.heap a (.dK kvs) from I.hok a _ hh)
    have hT := hD.typeIs
    obtain ⟨o, es, ep, ho, _, hd, _⟩ := hD
    exact rc_str_dict hT ho hd hu w1 t1 hq
  | @rat a dx i0 hh =>
    cases rx
    cases ry
    obtain ⟨f, fd, ps, hs, hf, F, hb⟩ := c.ex
    refine GP.none_in (N := zs.length) (I := fun s' => Inv X pins σ H s') (fun s' I' => ?_) (fun s' I' => ⟨.bl false, H, I', rfl, q⟩) I
    obtain ⟨z0, its, n, r, e⟩ := I'.lstM hl
    have len : its.length = zs.length := by rw [← r.length, List.length_map]
    refine ⟨_, n, e.2, by simpa using len, fun i hi => ?_⟩
    obtain ⟨w, t, ew, hm⟩ := strs_items r (its.toArray[i]) (by simpa using List.getElem_mem (l := its) (by simpa using hi))
    rw [ew]
    exact eq_str_own F hs hf hb su ⟨(hr.mono hk).in1, rfl⟩ I' hh (hsp a dx i0 w H _ hh (hz w hm) ⟨rfl, rfl⟩)
end
end L2
set_option Elab.async false
set_option linter.all false
set_option maxRecDepth 100000
set_option maxHeartbeats 400000
namespace K05
open PySem PySem.Spec PyProof.Rows L2 C8
/-- the pairs of these names stand at ps -/
def Prs (H : Hp) (ps : List Addr) (ns : NS) : Prop := Paired (fun p n => Rd H p (.tup (nV n))) ps ns
theorem Prs.up {H H' : Hp} (e : Ex H H') : ∀ {ps : List Addr} {ns : NS}, Prs H ps ns → Prs H' ps ns
  | _, _, .nil => .nil
  | _, _, .cons h t => .cons (h.mono e) (Prs.up e t)
theorem Prs.length {H : Hp} : ∀ {ps : List Addr} {ns : NS}, Prs H ps ns → ps.length = ns.length
  | _, _, .nil => rfl
  | _, _, .cons _ t => congrArg (· + 1) (Prs.length t)
theorem Prs.get {H : Hp} : ∀ {ps : List Addr} {ns : NS}, Prs H ps ns → ∀ {i : Nat} {p : Addr}, ps[i]? = some p → ∃ n, ns[i]? = some n ∧ Rd H p (.tup (nV n))
  | _, _, .nil, i, p, h => by simp at h
  | _, _, .cons h t, 0, p, e => by
    cases e
    exact ⟨_, rfl, h⟩
  | _, _, .cons h t, i + 1, p, e => Prs.get t (i := i) (by simpa using e)
/-- a space of these names at x -/
def SpaceAt (K : PySem.W.Frag) (H : Hp) (x : Addr) (ns : NS) : Prop := ∃ (dx t : Addr) (o : Obj) (ps : List Addr), H x = some (.ins (He.ga K "Space") dx [("names", .ref t), ("never", .int ((prodN (szs ns) : Nat) : Int))]) ∧ H t = some (.frz o (.tup (ps.map V.ref))) ∧ o.dict = none ∧ Prs H ps ns
theorem SpaceAt.mono {K : PySem.W.Frag} {H H' : Hp} {x : Addr} {ns : NS} (e : Ex H H') (h : SpaceAt K H x ns) : SpaceAt K H' x ns := by
  obtain ⟨dx, t, o, ps, h1, h2, h3, h4⟩ := h
  exact ⟨dx, t, o, ps, e _ _ h1, e _ _ h2, h3, h4.up e⟩
theorem wordS_ok {z : Str} (h : wordS z = true) : WordOk z := by
  unfold wordS at h
  simp only [Bool.and_eq_true, decide_eq_true_eq, Bool.not_eq_true'] at h
  obtain ⟨h1, h2, h3, h4⟩ := h
  refine ⟨fun c hc => ?_, h1, h2, h4⟩
  have := of_decide_eq_true (List.all_eq_true.mp h3 c hc)
  rw [alpha_list] at this
  obtain ⟨i, hi, rfl⟩ := List.mem_map.mp this
  have := List.mem_range.mp hi
  omega
theorem menu1 : ∀ a, a < 7 → 2 ≤ a → prodN [a] ≤ 8 → [a] ∈ menus := by decide
theorem menu2 (a : Nat) (ha : a < 7) (b : Nat) (hb : b < 7) (h2 : 2 ≤ a) (h3 : 2 ≤ b) (h : prodN [a, b] ≤ 8) : [a, b] ∈ menus := by
  have key : ∀ a : Fin 7, ∀ b : Fin 7, 2 ≤ a.val → 2 ≤ b.val → prodN [a.val, b.val] ≤ 8 → [a.val, b.val] ∈ menus := by decide +kernel
  exact key ⟨a, ha⟩ ⟨b, hb⟩ h2 h3 h
theorem menu3 (a : Nat) (ha : a < 7) (b : Nat) (hb : b < 7) (c : Nat) (hc : c < 7) (h2 : 2 ≤ a) (h3 : 2 ≤ b) (h4 : 2 ≤ c) (h : prodN [a, b, c] ≤ 8) : [a, b, c] ∈ menus := by
  have key : ∀ a : Fin 7, ∀ b : Fin 7, ∀ c : Fin 7, 2 ≤ a.val → 2 ≤ b.val → 2 ≤ c.val → prodN [a.val, b.val, c.val] ≤ 8 → [a.val, b.val, c.val] ∈ menus := by decide +kernel
  exact key ⟨a, ha⟩ ⟨b, hb⟩ ⟨c, hc⟩ h2 h3 h4 h
theorem menus_of {sz : List Nat} (h1 : 1 ≤ sz.length) (h3 : sz.length ≤ 3) (hs : ∀ s ∈ sz, 2 ≤ s ∧ s ≤ 6) (hp : prodN sz ≤ 8) : sz ∈ menus := by
  match sz, h1, h3 with
  | [a], _, _ =>
    have ha := hs a (by simp)
    exact menu1 a (by omega) ha.1 hp
  | [a, b], _, _ =>
    have ha := hs a (by simp)
    have hb := hs b (by simp)
    exact menu2 a (by omega) b (by omega) ha.1 hb.1 hp
  | [a, b, c], _, _ =>
    have ha := hs a (by simp)
    have hb := hs b (by simp)
    have hc := hs c (by simp)
    exact menu3 a (by omega) b (by omega) c (by omega) ha.1 hb.1 hc.1 hp
  | _ :: _ :: _ :: _ :: l, _, h => exact absurd h (by simp)
/-- what it says that things are names -/
theorem namesL_ok {l : List Th} (h : namesL l = true) : ∃ ns : NS, l = ns.map nsTh ∧ NsOk ns := by
  unfold namesL at h
  simp only [Bool.and_eq_true, decide_eq_true_eq] at h
  obtain ⟨h1, h2, h3, h4⟩ := h
  obtain ⟨ns, rfl, hok⟩ := pairs_get h3
  rw [map_un] at h4
  unfold nsB at h4
  simp only [Bool.and_eq_true, decide_eq_true_eq] at h4
  rw [List.length_map] at h1 h2
  refine ⟨ns, rfl, menus_of (by simpa [szs] using h1) (by simpa [szs] using h2) (fun s hs => ?_) h4.2, fun z hz => ?_, h4.1⟩
  · obtain ⟨n, hn, rfl⟩ := List.mem_map.mp hs
    exact ⟨(hok n hn).2.1, (hok n hn).2.2⟩
  · obtain ⟨n, hn, rfl⟩ := List.mem_map.mp hz
    exact wordS_ok (hok n hn).1
section
variable {P : Program} {w : World} {K : PySem.W.Frag} {mg : Str → Option Value} {base : Heap}
abbrev N_Ratio_init : List Str := ["self", "top", "bottom", "divisor"]
theorem sc_Ratio_init : FnScope N_Ratio_init ["self", "top", "bottom"] (defScope (inClass (top 27) 0)) := ⟨rfl, rfl, rfl, by decide +kernel, rfl, by decide +kernel, by decide +kernel⟩
def spRat (K : PySem.W.Frag) : Sp := fun vs H Q _ => ∃ (x dx : Addr) (i : Int), vs = [.ref x, .int i, .int 1] ∧ H x = some (.ins (He.ga K "Ratio") dx []) ∧ (0 ≤ i ∧ i ≤ 1000) ∧
  ∀ H', (∀ q o, q ≠ x → H q = some o → H' q = some o) → H' x = some (.ins (He.ga K "Ratio") dx (wholeF i)) → Q .non H'
theorem ok_Ratio_init (T : Txt K mg) (C_is_whole : Cal P w K mg base 1 "is_whole" (spWhole K) []) : Mak P w K mg base 2 "Ratio" (He.ga K "Ratio") (spRat K) [.int 1] := by
  obtain ⟨fd, F⟩ := T.d_Ratio_init
  obtain ⟨ds, hd, hb⟩ := F.binds1 (ps := ["self", "top", "bottom"]) 2 0 (by simp) (by rfl) (fun T0 kV doc pm an cdv ct us its h1 h2 => match us, its, h1, h2 with | [_, _], [_], _, _ => ⟨_, rfl, rfl⟩)
  refine ⟨_, fd, ["self", "top", "bottom"], ds, T.mk_Ratio, ?_, T.g_Ratio, hb, hd⟩
  refine F.ok sc_Ratio_init (fun vs H Q E h => by obtain ⟨_, _, _, rfl, _⟩ := h; rfl) (fun cdv A outer s H vs Q E hr h => ?_)
  have hu := hu_of hr
  refine ⟨_, PSs.nox (pss_cons (ps_if (pt_not (pt_val (pe_c C_is_whole hr (by omega) rfl (pa_cons (pv 1) pa_nil)))) (pss_one ps_never) pss_nil)
      (pss_cons (ps_if (pt_not (pt_val (pe_c C_is_whole hr (by omega) rfl (pa_cons (pv 2) pa_nil)))) (pss_one ps_never) pss_nil)
      (pss_cons (ps_if (pt_cmpR op_eq (pv 2) pe_int (nomark _)) (pss_one ps_never) pss_nil)
      (pss_cons (ps_set (i := 3) sc_Ratio_init.nd rfl (Or.inl rfl) (pe_callMB cr_gcd (by rfl) T.b_gcd (pa_cons (pv 1) (pa_cons (pv 2) pa_nil))))
      (pss_cons (ps_if (pt_cmpR op_lt (pv 2) pe_int (nomark _)) (pss_one (ps_set (i := 3) sc_Ratio_init.nd rfl (Or.inl rfl) (pe_un un_neg (pv 3)))) pss_nil)
      (pss_cons (ps_fld (pv 0) (pe_op op_fdiv (pv 1) (pv 3)) rfl)
      (pss_one (ps_fld (pv 0) (pe_op op_fdiv (pv 2) (pv 3)) rfl)))))))), ?_⟩
  obtain ⟨x, dx, i, rfl, hx, ⟨i0, i1⟩, hQ⟩ := h
  refine ⟨_, rfl, .int i, .int i, rfl, .int i, _, rfl, iteFo rfl ?_⟩
  refine ⟨_, rfl, .int 1, .int 1, rfl, .int 1, _, rfl, iteFo rfl ?_⟩
  refine ⟨_, rfl, rfl, _, rfl, ?_⟩
  refine ⟨_, rfl, _, rfl, i, 1, rfl, ?_⟩
  refine ⟨_, rfl, _, _, rfl, rfl, _, rfl, ?_⟩
  have g1 : ((Nat.gcd i.natAbs (1 : Int).natAbs : Nat) : Int) = 1 := by
    show ((Nat.gcd i.natAbs 1 : Nat) : Int) = 1
    rw [Nat.gcd_one_right]
    rfl
  rw [g1, decide_eq_false (by omega)]
  refine ⟨_, rfl, _, rfl, _, _, rfl, rfl, ⟨by omega, by omega⟩, ?_⟩
  refine ⟨_, rfl, x, _, dx, _, rfl, hx, T.cl_Ratio, T.n_top, (by show 0 < 1000; decide), ?_⟩
  refine ⟨_, rfl, _, rfl, _, _, rfl, rfl, ⟨by omega, by omega⟩, ?_⟩
  refine ⟨_, rfl, x, _, dx, _, rfl, upd_same, T.cl_Ratio, T.n_bottom, (by show 1 < 1000; decide), ?_⟩
  refine hQ _ (fun q o hq h => ?_) ?_
  · rw [upd_ne hq, upd_ne hq]
    exact h
  · rw [upd_same]
    show some (HO.ins _ dx [("top", .int (i / 1)), ("bottom", .int 1)]) = _
    rw [Int.ediv_one]
    rfl

abbrev N_Ratio_eq : List Str := ["self", "other"]
theorem sc_Ratio_eq : FnScope N_Ratio_eq ["self", "other"] (defScope (inClass (top 27) 8)) := ⟨rfl, rfl, rfl, by decide +kernel, rfl, by decide +kernel, by decide +kernel⟩
def spRatEq (K : PySem.W.Frag) : Sp := fun vs H Q _ => ∃ (r dx : Addr) (i : Int) (v : V), vs = [.ref r, v] ∧ H r = some (.ins (He.ga K "Ratio") dx (wholeF i)) ∧
  ((∃ z, v = .str z ∧ z.length ≤ 1000 ∧ Q (.bl false) H) ∨ ∃ q dq j, v = .ref q ∧ H q = some (.ins (He.ga K "Ratio") dq (wholeF j)) ∧ Q (.bl (decide (i = j))) H)
theorem ok_Ratio_eq (T : Txt K mg) (C_is_whole : Cal P w K mg base 1 "is_whole" (spWhole K) []) : Spc P w K mg base 2 (He.ga K "Ratio") "__eq__" (spRatEq K) := by
  obtain ⟨fd, F⟩ := T.d_Ratio_eq
  refine ⟨_, fd, ["self", "other"], T.s_Ratio_eq, T.sf_Ratio_eq, ?_, F.bindsN fun _ _ _ _ _ _ us hl => match us, hl with | [_, _], _ => rfl⟩
  refine F.ok sc_Ratio_eq (fun vs H Q E h => by obtain ⟨_, _, _, _, rfl, _⟩ := h; rfl) (fun cdv A outer s H vs Q E hr h => ?_)
  have hu := hu_of hr
  refine ⟨_, PSs.nox (pss_cons (ps_if (pt_val (pe_callB call_isi (by rfl) T.f_isinstance (by decide +kernel) (pa_cons (pv 1) (pa_cons (pe_gc rfl T.c_Ratio) pa_nil)))) (pss_one (ps_ret (pe_and (pe_cmpR op_eq (pe_fld (pv 0) rfl) (pe_fld (pv 1) rfl) (nomark _)) (pe_one (pe_cmpR op_eq (pe_fld (pv 0) rfl) (pe_fld (pv 1) rfl) (nomark _)))))) pss_nil)
      (pss_one (ps_ret (pe_and (pe_c C_is_whole hr (by omega) rfl (pa_cons (pv 1) pa_nil)) (pe_and (pe_cmpR op_eq (pe_fld (pv 0) rfl) pe_int (nomark _)) (pe_one (pe_cmpR op_eq (pe_fld (pv 0) rfl) (pv 1) (nomark _)))))))), ?_⟩
  obtain ⟨r, dx, i, v, rfl, hr', hQ⟩ := h
  rcases hQ with ⟨z, rfl, hz, hQ⟩ | ⟨q, dq, j, rfl, hq, hQ⟩
  · refine ⟨_, rfl, _, _, _, _, _, rfl, ClsV.own _, .base (.str z), T.kr_Ratio, _, rfl, iteFo rfl ?_⟩
    exact ⟨_, rfl, _, _, rfl, .str z hz, _, rfl, iteFo rfl hQ⟩
  · refine ⟨_, rfl, _, _, _, _, _, rfl, ClsV.own _, .base (.ins hq T.cl_Ratio T.ac_Ratio T.cg T.ct T.ob_Ratio), T.ks_Ratio, _, rfl, iteTo rfl ?_⟩
    refine ⟨_, rfl, r, _, dx, _, .int i, rfl, hr', T.cl_Ratio, T.n_top, rfl, _, rfl, q, _, dq, _, .int j, rfl, hq, T.cl_Ratio, T.n_top, rfl, rfl, _, rfl, ?_⟩
    have e1 : decide (V.int i = V.int j) = decide (i = j) := decide_eq_decide.mpr ⟨V.int.inj, congrArg V.int⟩
    by_cases c : i = j
    · rw [decide_eq_true c] at e1 hQ
      refine iteTo e1 ?_
      exact ⟨_, rfl, r, _, dx, _, .int 1, rfl, hr', T.cl_Ratio, T.n_bottom, rfl, _, rfl, q, _, dq, _, .int 1, rfl, hq, T.cl_Ratio, T.n_bottom, rfl, rfl, hQ⟩
    · rw [decide_eq_false c] at e1 hQ
      exact iteFo e1 hQ

abbrev N_Space_contains : List Str := ["self", "name", "known", "_"]
theorem sc_Space_contains : FnScope N_Space_contains ["self", "name"] (defScope (inClass (top 25) 2)) := ⟨rfl, rfl, rfl, by decide +kernel, rfl, by decide +kernel, by decide +kernel⟩
theorem wds_short {ns : NS} (h : NsOk ns) : ∀ z ∈ wds ns, z.length ≤ 1000 := fun z hz => Nat.le_trans (h.wd z hz).hi (by omega)
def spContains (K : PySem.W.Frag) : Sp := fun vs H Q _ => ∃ (x : Addr) (ns : NS) (v : V) (d : Th), vs = [.ref x, v] ∧ SpaceAt K H x ns ∧ NsOk ns ∧ AtK5 K H v d ∧ ∀ H', Ex H H' → Q (.bl (inB (wds ns) d)) H'
theorem ok_Space_contains (T : Txt K mg) (R_eq : Spc P w K mg base 2 (He.ga K "Ratio") "__eq__" (spRatEq K)) : Spc P w K mg base 4 (He.ga K "Space") "__contains__" (spContains K) := by
  obtain ⟨fd, F⟩ := T.d_Space_contains
  refine ⟨_, fd, ["self", "name"], T.s_Space_contains, T.sf_Space_contains, ?_, F.bindsN fun _ _ _ _ _ _ us hl => match us, hl with | [_, _], _ => rfl⟩
  refine F.ok sc_Space_contains (fun vs H Q E h => by obtain ⟨_, _, _, _, rfl, _⟩ := h; rfl) (fun cdv A outer s H vs Q E hr h => ?_)
  have hu := hu_of hr
  refine ⟨_, PSs.nox (pss_one (ps_ret (pe_cmpR (op_inS R_eq (fun r dx i z H Q h1 h2 h3 => ⟨r, dx, i, .str z, rfl, h1, .inl ⟨z, rfl, h2, h3⟩⟩) T.su_Ratio hr (by omega)) (pv 1) (pe_lc (own := [("known", 2), ("_", 3)]) rfl sc_Space_contains.nd (pi_tup (pe_fld (pv 0) rfl)) (blkOk_by (own := [("known", 2), ("_", 3)]) (N := N_Space_contains) (sc := defScope (inClass (top 25) 2)) (by decide +kernel)) (fun _ _ _ _ _ => (pgT (K := K) (n := 2) rfl (by rfl) (pgs_cons (pg_name (i := 2) sc_Space_contains.nd rfl (Or.inl rfl)) (pgs_cons (pg_name (i := 3) sc_Space_contains.nd rfl (Or.inl rfl)) pgs_nil)))) (fun _ _ _ _ _ => pts_nil) (fun _ _ _ _ _ => (pv 2))) rfl))), ?_⟩
  obtain ⟨x, ns, v, d, rfl, ⟨dx, t, o, ps, hx, ht, ho, hT⟩, hok, hd, hQ⟩ := h
  have hl := hT.length
  have hn3 := hok.len
  have tq : ∀ H', Ex H H' → SqT K H' t (ps.map V.ref) := fun H' e => Or.inl (Or.inr ⟨_, e t _ ht⟩)
  refine ⟨_, rfl, _, rfl, x, _, dx, _, .ref t, rfl, hx, T.cl_Space, T.n_names, rfl, t, rfl, ⟨_, tq _ (Evl.Ex.refl _)⟩, fun D hD => ?_⟩
  refine lc_fn (walk_tup (xs := ps.map V.ref)) (fun i => V.str ((ns.getD i (alpha, 0)).1)) (by rw [List.length_map]; omega) hD tq ?_ ?_
  · rintro i y H1' H1 Z B hi e hl ⟨rfl, hy⟩ hZ
    obtain ⟨p, rfl, hp2⟩ := refs_get hy
    obtain ⟨n, hn, hpn⟩ := hT.get hp2
    refine ⟨p, nV n, rfl, .inl (hpn.mono e), rfl, _, _, rfl, _, _, rfl, rfl, ?_⟩
    refine ⟨rfl, ?_⟩
    refine ⟨_, rfl, ?_⟩
    rw [getD_of hn] at hZ
    exact hZ _ (Evl.Ex.refl _)
  intro H1 e1 hd1
  rw [List.length_map, hl, words_list] at hd1
  exact ⟨d, D, wds ns, hd.up e1, rfl, hd1, wds_short hok, hQ _ e1⟩

end
end K05
namespace K05
open PySem PySem.Spec PyProof.Rows L2 C8
section
variable {P : Program} {w : World} {K : PySem.W.Frag} {mg : Str → Option Value} {base : Heap}
/-- the thing is a store -/
def storeB (ns : NS) (d : Th) : Bool := fromB 0 (((prodN (szs ns) : Nat) : Int) - 1) d
abbrev N_Space_check_store : List Str := ["self", "store"]
theorem sc_Space_check_store : FnScope N_Space_check_store ["self", "store"] (defScope (inClass (top 25) 10)) := ⟨rfl, rfl, rfl, by decide +kernel, rfl, by decide +kernel, by decide +kernel⟩
def spChkStore (K : PySem.W.Frag) : Sp := fun vs H Q E => ∃ (x : Addr) (ns : NS) (v : V) (d : Th), vs = [.ref x, v] ∧ SpaceAt K H x ns ∧ AtK5 K H v d ∧ (storeB ns d = true → Q .non H) ∧ (storeB ns d = false → Out K E H "InvalidStore" v)
theorem ok_Space_check_store (T : Txt K mg) (C_is_whole_from : Cal P w K mg base 2 "is_whole_from" (spFrom K) []) : MetE P w K mg base 3 (He.ga K "Space") "check_store" (spChkStore K) := by
  obtain ⟨fd, F⟩ := T.d_Space_check_store
  refine ⟨⟨_, fd, ["self", "store"], ⟨T.cl_Space, T.m_Space_check_store⟩, ?_, F.bindsN fun _ _ _ _ _ _ us hl => match us, hl with | [_, _], _ => rfl⟩⟩
  refine F.ok sc_Space_check_store (fun vs H Q E h => by obtain ⟨_, _, _, _, rfl, _⟩ := h; rfl) (fun cdv A outer s H vs Q E hr h => ?_)
  have hu := hu_of hr
  refine ⟨_, (pss_one (ps_if (pt_not (pt_val (pe_c C_is_whole_from hr (by omega) rfl (pa_cons (pv 1) (pa_cons pe_int (pa_cons (pe_op op_sub (pe_fld (pv 0) rfl) pe_int) pa_nil)))))) (pss_one (L2N.ps_raise rfl (L2N.takes_of rfl rfl rfl rfl) (pmk_x rfl (pe_mkX (mkp_InvalidStore T) hr (by omega) rfl (by decide) (pa_cons (pv 1) pa_nil))))) pss_nil)), ?_⟩
  obtain ⟨x, ns, v, d, rfl, ⟨dx, t, o, ps, hx, ht, ho, hT⟩, hv, hQ, hO⟩ := h
  refine ⟨_, rfl, _, rfl, x, _, dx, _, _, rfl, hx, T.cl_Space, T.n_never, rfl, _, _, rfl, rfl, v, d, _, _, rfl, hv, _, rfl, ?_⟩
  cases c : fromB 0 (((prodN (szs ns) : Nat) : Int) - 1) d with
  | true =>
    refine iteFo rfl ?_
    exact hQ c
  | false =>
    refine iteTo rfl ?_
    refine ⟨_, rfl, rfl, rfl, fun ax HX nx ex xx dx' => ?_⟩
    obtain ⟨dr, hdr, go⟩ := out_raise (exT T (i := 2) (x := "InvalidStore") rfl) nx ex (xx []) (hO c)
    exact ⟨ax, _, dr, rfl, hdr, Evl.fresh_back (Evl.Ex.refl _) nx, raises_own (exT T (i := 2) (x := "InvalidStore") rfl).exC (exT T (i := 2) (x := "InvalidStore") rfl).tyC, go⟩

abbrev N_Space_check_name : List Str := ["self", "name"]
theorem sc_Space_check_name : FnScope N_Space_check_name ["self", "name"] (defScope (inClass (top 25) 11)) := ⟨rfl, rfl, rfl, by decide +kernel, rfl, by decide +kernel, by decide +kernel⟩
def spChkName (K : PySem.W.Frag) : Sp := fun vs H Q E => ∃ (x : Addr) (ns : NS) (v : V) (d : Th), vs = [.ref x, v] ∧ SpaceAt K H x ns ∧ NsOk ns ∧ AtK5 K H v d ∧ (inB (wds ns) d = true → ∀ H', Ex H H' → Q .non H') ∧ (inB (wds ns) d = false → Out K E H "InvalidName" v)
theorem ok_Space_check_name (T : Txt K mg) (S_contains : Spc P w K mg base 4 (He.ga K "Space") "__contains__" (spContains K)) : MetE P w K mg base 5 (He.ga K "Space") "check_name" (spChkName K) := by
  obtain ⟨fd, F⟩ := T.d_Space_check_name
  refine ⟨⟨_, fd, ["self", "name"], ⟨T.cl_Space, T.m_Space_check_name⟩, ?_, F.bindsN fun _ _ _ _ _ _ us hl => match us, hl with | [_, _], _ => rfl⟩⟩
  refine F.ok sc_Space_check_name (fun vs H Q E h => by obtain ⟨_, _, _, _, rfl, _⟩ := h; rfl) (fun cdv A outer s H vs Q E hr h => ?_)
  have hu := hu_of hr
  refine ⟨_, (pss_one (ps_if (pt_cmpR (op_ownNotIn S_contains hr (by omega)) (pv 1) (pv 0) rfl) (pss_one (L2N.ps_raise rfl (L2N.takes_of rfl rfl rfl rfl) (pmk_x rfl (pe_mkX (mkp_InvalidName T) hr (by omega) rfl (by decide) (pa_cons (pv 1) pa_nil))))) pss_nil)), ?_⟩
  obtain ⟨x, ns, v, d, rfl, hS, hok, hv, hQ, hO⟩ := h
  obtain ⟨dx, t, o, ps, hx, ht, ho, hT⟩ := id hS
  refine ⟨_, rfl, _, rfl, x, dx, _, rfl, hx, x, ns, v, d, rfl, hS, hok, hv, fun H1 e1 => ⟨_, rfl, _, rfl, ?_⟩⟩
  cases c : inB (wds ns) d with
  | true =>
    refine iteFo rfl ?_
    exact hQ c _ e1
  | false =>
    refine iteTo rfl ?_
    refine ⟨_, rfl, rfl, rfl, fun ax HX nx ex xx dx' => ?_⟩
    obtain ⟨dr, hdr, go⟩ := out_raise (exT T (i := 4) (x := "InvalidName") rfl) nx ex (xx []) ((hO c).up e1)
    exact ⟨ax, _, dr, rfl, hdr, Evl.fresh_back e1 nx, raises_own (exT T (i := 4) (x := "InvalidName") rfl).exC (exT T (i := 4) (x := "InvalidName") rfl).tyC, go⟩

end
end K05
namespace K05
open PySem PySem.Spec PyProof.Rows L2 C8
theorem putF_two (t n : V) : putF "never" n (putF "names" t []) = [(("names" : Str), t), (("never" : Str), n)] := by
  have h : ("names" : Str) ≠ "never" := by decide
  show (if ("names" : Str) = "never" then _ else _) = _
  rw [if_neg h]
  rfl
theorem prs_of {R : Addr} {H : Hp} : ∀ {ns : NS} {xs : List V}, AtA R H xs (ns.map nsTh) → ∃ ps : List Addr, xs = ps.map V.ref ∧ Prs H ps ns
  | [], _, h => by
    cases h
    exact ⟨[], rfl, .nil⟩
  | n :: ns, _, h => by
    cases h with
    | cons h1 h2 =>
      obtain ⟨p, rfl, hp⟩ := at_pair h1
      obtain ⟨ps, rfl, hps⟩ := prs_of h2
      exact ⟨p :: ps, rfl, .cons hp hps⟩
theorem rd_move {H H' : Hp} {x C dx p : Addr} {fs : List (Str × V)} {o : List V} (hx : H x = some (.ins C dx fs)) (up : ∀ q o, q ≠ x → H q = some o → H' q = some o) (h : Rd H p (.tup o)) : Rd H' p (.tup o) := by
  rcases h with h | ⟨u, h⟩
  · exact .inl (up _ _ (fun z => by rw [z, hx] at h; cases h) h)
  · exact .inr ⟨u, up _ _ (fun z => by rw [z, hx] at h; cases h) h⟩
theorem prs_move {H H' : Hp} {x C dx : Addr} {fs : List (Str × V)} (hx : H x = some (.ins C dx fs)) (up : ∀ q o, q ≠ x → H q = some o → H' q = some o) : ∀ {ps : List Addr} {ns : NS}, Prs H ps ns → Prs H' ps ns
  | _, _, .nil => .nil
  | _, _, .cons h t => .cons (rd_move hx up h) (prs_move hx up t)
theorem at_lst {R : Addr} {H : Hp} {v : V} {l : List Th} (h : At R H v (.lst l)) : ∃ a xs, v = .ref a ∧ H a = some (.lst xs) ∧ AtA R H xs l := by
  cases h with
  | lst h1 h2 => exact ⟨_, _, rfl, h1, h2⟩
theorem at_tup {R : Addr} {H : Hp} {v : V} {l : List Th} (h : At R H v (.tup l)) : ∃ a xs, v = .ref a ∧ Rd H a (.tup xs) ∧ AtA R H xs l := by
  cases h with
  | tup h1 h2 => exact ⟨_, _, rfl, h1, h2⟩
/-- a tuple is a known object with no attributes -/
def FrzT (H : Hp) (v : V) : Th → Prop
  | .tup _ => ∃ a o xs, v = .ref a ∧ H a = some (.frz o (.tup xs)) ∧ o.dict = none
  | _ => True
theorem namesB_off {d : Th} (h : ∀ l, d ≠ .lst l) (h2 : ∀ l, d ≠ .tup l) : namesB d = false := by
  cases d with
  | lst l => exact absurd rfl (h l)
  | tup l => exact absurd rfl (h2 l)
  | _ => rfl
section
variable {P : Program} {w : World} {K : PySem.W.Frag} {mg : Str → Option Value} {base : Heap}
abbrev N_Space_init : List Str := ["self", "names", "_", "size"]
theorem sc_Space_init : FnScope N_Space_init ["self", "names"] (defScope (inClass (top 25) 0)) := ⟨rfl, rfl, rfl, by decide +kernel, rfl, by decide +kernel, by decide +kernel⟩
theorem few_of {ns : NS} (h : NsOk ns) : FewS (szs ns) := ⟨(menu_facts _ h.sz).2.2.2.1, fun s hs => ((menu_facts _ h.sz).2.2.2.2.2 s hs).2⟩
def spSpace (K : PySem.W.Frag) : Sp := fun vs H Q E => ∃ (x dx : Addr) (v : V) (d : Th), vs = [.ref x, v] ∧ H x = some (.ins (He.ga K "Space") dx []) ∧ AtK5 K H v d ∧ (namesB d = true → FrzT H v d) ∧
  (∀ ns, d = .lst (ns.map nsTh) ∨ d = .tup (ns.map nsTh) → NsOk ns → ∀ H', (∀ q o, q ≠ x → H q = some o → H' q = some o) → SpaceAt K H' x ns → Q .non H') ∧ (namesB d = false → Out K E H "InvalidNames" v)
theorem ok_Space_init (T : Txt K mg) (C_are_space_names : Cal P w K mg base 4 "are_space_names" (spNames K) []) (C_stores_of_sizes : Cal P w K mg base 1 "stores_of_sizes" (spSizes K) []) : MakE P w K mg base 5 "Space" (He.ga K "Space") (spSpace K) := by
  obtain ⟨fd, F⟩ := T.d_Space_init
  refine ⟨⟨_, fd, ["self", "names"], ⟨T.mk_Space, T.g_Space⟩, ?_, F.bindsN fun _ _ _ _ _ _ us hl => match us, hl with | [_, _], _ => rfl⟩⟩
  refine F.ok sc_Space_init (fun vs H Q E h => by obtain ⟨_, _, _, _, rfl, _⟩ := h; rfl) (fun cdv A outer s H vs Q E hr h => ?_)
  have hu := hu_of hr
  obtain ⟨x, dx, v, d, rfl, hx, hv, hF, hQ, hO⟩ := h
  cases hn : namesB d with
  | false =>
    refine ⟨_, (pss_cons (ps_if (pt_not (pt_val (pe_c C_are_space_names hr (by decide) rfl (pa_cons (pv 1) pa_nil)))) (pss_one (L2N.ps_raise rfl (L2N.takes_of rfl rfl rfl rfl) (pmk_x rfl (pe_mkX (mkp_InvalidNames T) hr (by decide) rfl (by decide) (pa_cons (pv 1) pa_nil))))) pss_nil)
      (pss_cons (ps_fld (pv 0) (pe_callTy call_tupF (by rfl) T.f_tuple (by decide +kernel) (pa_cons (pv 1) pa_nil)) rfl)
      (pss_one (ps_fld (pv 0) (pe_c C_stores_of_sizes hr (by decide) rfl (pa_cons (pe_lc (own := [("_", 2), ("size", 3)]) rfl sc_Space_init.nd (pi_list (pv 1)) (blkOk_by (own := [("_", 2), ("size", 3)]) (N := N_Space_init) (sc := defScope (inClass (top 25) 0)) (by decide +kernel)) (fun _ _ _ _ _ => (pgT (K := K) (n := 2) rfl (by rfl) (pgs_cons (pg_name (i := 2) sc_Space_init.nd rfl (Or.inl rfl)) (pgs_cons (pg_name (i := 3) sc_Space_init.nd rfl (Or.inl rfl)) pgs_nil)))) (fun _ _ _ _ _ => pts_nil) (fun _ _ _ _ _ => (pv 3))) pa_nil)) rfl)))), ?_⟩
    refine ⟨_, rfl, _, d, rfl, hv, fun H1 e1 => ⟨_, rfl, ?_⟩⟩
    rw [hn]
    refine iteTo rfl ?_
    refine ⟨_, rfl, rfl, rfl, fun ax HX nx ex xx dx' => ?_⟩
    obtain ⟨dr, hdr, go⟩ := out_raise (exT T (i := 1) (x := "InvalidNames") rfl) nx ex (xx []) ((hO hn).up e1)
    exact ⟨ax, _, dr, rfl, hdr, Evl.fresh_back e1 nx, raises_own (exT T (i := 1) (x := "InvalidNames") rfl).exC (exT T (i := 1) (x := "InvalidNames") rfl).tyC, go⟩
  | true =>
    cases hd : d with
    | lst l =>
    have hn1 := hn
    rw [hd] at hn1
    obtain ⟨ns, rfl, hok⟩ := namesL_ok hn1
    have hv1 := hv
    rw [hd] at hv1
    obtain ⟨a, xs, rfl, hS, hs⟩ := at_lst hv1
    obtain ⟨ps, rfl, hT⟩ := prs_of hs
    have hl := hT.length
    have hn3 := hok.len
    have hd0 : d = .lst (ns.map nsTh) ∨ d = .tup (ns.map nsTh) := .inl hd
    refine ⟨_, (pss_cons (ps_if (pt_not (pt_val (pe_c C_are_space_names hr (by decide) rfl (pa_cons (pv 1) pa_nil)))) (pss_one (L2N.ps_raise rfl (L2N.takes_of rfl rfl rfl rfl) (pmk_x rfl (pe_mkX (mkp_InvalidNames T) hr (by decide) rfl (by decide) (pa_cons (pv 1) pa_nil))))) pss_nil)
      (pss_cons (ps_fld (pv 0) (pe_callTy call_tupF (by rfl) T.f_tuple (by decide +kernel) (pa_cons (pv 1) pa_nil)) rfl)
      (pss_one (ps_fld (pv 0) (pe_c C_stores_of_sizes hr (by decide) rfl (pa_cons (pe_lc (own := [("_", 2), ("size", 3)]) rfl sc_Space_init.nd (pi_list (pv 1)) (blkOk_by (own := [("_", 2), ("size", 3)]) (N := N_Space_init) (sc := defScope (inClass (top 25) 0)) (by decide +kernel)) (fun _ _ _ _ _ => (pgT (K := K) (n := 2) rfl (by rfl) (pgs_cons (pg_name (i := 2) sc_Space_init.nd rfl (Or.inl rfl)) (pgs_cons (pg_name (i := 3) sc_Space_init.nd rfl (Or.inl rfl)) pgs_nil)))) (fun _ _ _ _ _ => pts_nil) (fun _ _ _ _ _ => (pv 3))) pa_nil)) rfl)))), ?_⟩
    refine ⟨_, rfl, _, d, rfl, hv, fun H1 e1 => ⟨_, rfl, ?_⟩⟩
    rw [hn]
    refine iteFo rfl ?_
    have ha : a ≠ x := fun z => by rw [z, hx] at hS; cases hS
    refine ⟨_, rfl, a, ps.map V.ref, rfl, .inl ⟨SqL.of (e1 a _ hS), fun t ot ht0 hot => ?_⟩⟩
    obtain ⟨H2, e2, ht, eH2⟩ : ∃ H2, Ex H1 H2 ∧ H2 t = some (.frz ot (.tup (ps.map V.ref))) ∧ H2 = upd H1 t (.frz ot (.tup (ps.map V.ref))) := ⟨_, Evl.Ex.new ht0, upd_same, rfl⟩
    rw [← eH2]
    have x2 := e2 x _ (e1 x _ hx)
    refine ⟨_, rfl, x, _, dx, _, rfl, x2, T.cl_Space, T.n_names, (by show 0 < 1000; decide), ?_⟩
    have e12 := e1.trans e2
    have up : ∀ q o, q ≠ x → H q = some o → upd H2 x (.ins (He.ga K "Space") dx (putF "names" (.ref t) [])) q = some o := fun q o hq h => by rw [upd_ne hq]; exact e12 q o h
    have upt := prs_move hx up hT
    have upa := up a _ ha hS
    have tx : t ≠ x := fun z => by rw [z, x2] at ht; cases ht
    have upt2 : upd H2 x (.ins (He.ga K "Space") dx (putF "names" (.ref t) [])) t = some (.frz ot (.tup (ps.map V.ref))) := by rw [upd_ne tx]; exact ht
    have upx : upd H2 x (.ins (He.ga K "Space") dx (putF "names" (.ref t) [])) x = some (.ins (He.ga K "Space") dx (putF "names" (.ref t) [])) := upd_same
    generalize upd H2 x (.ins (He.ga K "Space") dx (putF "names" (.ref t) [])) = H3 at up upt upa upt2 upx ⊢
    refine ⟨_, rfl, a, rfl, ⟨_, (SqL.of upa : SqL K _ a (ps.map V.ref))⟩, fun D hD => ?_⟩
    refine lc_fn (walk_list (xs := ps.map V.ref)) (fun i => V.int (((ns.getD i (alpha, 0)).2 : Nat) : Int)) (by rw [List.length_map]; omega) hD (fun H' e => (SqL.of (e a _ upa) : SqL K _ a (ps.map V.ref))) ?_ ?_
    · rintro i y H4' H4 Z B hi e hl ⟨rfl, hy⟩ hZ
      obtain ⟨p, rfl, hp2⟩ := refs_get hy
      obtain ⟨n, hn, hpn⟩ := upt.get hp2
      refine ⟨p, nV n, rfl, .inl (hpn.mono e), rfl, _, _, rfl, _, _, rfl, rfl, ?_⟩
      refine ⟨rfl, ?_⟩
      refine ⟨_, rfl, ?_⟩
      rw [getD_of hn] at hZ
      exact hZ _ (Evl.Ex.refl _)
    intro H4 e4 hd4
    rw [List.length_map, hl, sizes_list] at hd4
    refine ⟨D, szs ns, rfl, SqL.of hd4, few_of hok, ?_⟩
    have x4 := e4 x _ upx
    refine ⟨_, rfl, x, _, dx, _, rfl, x4, T.cl_Space, T.n_never, (by show 1 < 1000; decide), ?_⟩
    have up5 : ∀ q o, q ≠ x → H q = some o → upd H4 x (.ins (He.ga K "Space") dx (putF "never" (.int ((prodN (szs ns) : Nat) : Int)) (putF "names" (.ref t) []))) q = some o := fun q o hq h => by rw [upd_ne hq]; exact e4 q o (up q o hq h)
    refine hQ ns hd0 hok _ up5 ⟨dx, t, ot, ps, by rw [upd_same, putF_two], by rw [upd_ne tx]; exact e4 t _ upt2, hot, prs_move hx up5 hT⟩
    | tup l =>
    have hn1 := hn
    rw [hd] at hn1
    obtain ⟨ns, rfl, hok⟩ := namesL_ok hn1
    have hv1 := hv
    have hF1 := hF hn
    rw [hd] at hv1 hF1
    obtain ⟨a, o, xs, rfl, hS, ho⟩ := hF1
    obtain ⟨a', xs', ea, hS', hs⟩ := at_tup hv1
    cases ea
    obtain rfl : xs' = xs := by
      rcases hS' with h | ⟨u, h⟩
      · rw [hS] at h
        cases h
      · rw [hS] at h
        cases h
        rfl
    obtain ⟨ps, rfl, hT⟩ := prs_of hs
    have hl := hT.length
    have hn3 := hok.len
    have hd0 : d = .lst (ns.map nsTh) ∨ d = .tup (ns.map nsTh) := .inr hd
    refine ⟨_, (pss_cons (ps_if (pt_not (pt_val (pe_c C_are_space_names hr (by decide) rfl (pa_cons (pv 1) pa_nil)))) (pss_one (L2N.ps_raise rfl (L2N.takes_of rfl rfl rfl rfl) (pmk_x rfl (pe_mkX (mkp_InvalidNames T) hr (by decide) rfl (by decide) (pa_cons (pv 1) pa_nil))))) pss_nil)
      (pss_cons (ps_fld (pv 0) (pe_callTy call_tupF (by rfl) T.f_tuple (by decide +kernel) (pa_cons (pv 1) pa_nil)) rfl)
      (pss_one (ps_fld (pv 0) (pe_c C_stores_of_sizes hr (by decide) rfl (pa_cons (pe_lc (own := [("_", 2), ("size", 3)]) rfl sc_Space_init.nd (pi_tup (pv 1)) (blkOk_by (own := [("_", 2), ("size", 3)]) (N := N_Space_init) (sc := defScope (inClass (top 25) 0)) (by decide +kernel)) (fun _ _ _ _ _ => (pgT (K := K) (n := 2) rfl (by rfl) (pgs_cons (pg_name (i := 2) sc_Space_init.nd rfl (Or.inl rfl)) (pgs_cons (pg_name (i := 3) sc_Space_init.nd rfl (Or.inl rfl)) pgs_nil)))) (fun _ _ _ _ _ => pts_nil) (fun _ _ _ _ _ => (pv 3))) pa_nil)) rfl)))), ?_⟩
    refine ⟨_, rfl, _, d, rfl, hv, fun H1 e1 => ⟨_, rfl, ?_⟩⟩
    rw [hn]
    refine iteFo rfl ?_
    have ha : a ≠ x := fun z => by rw [z, hx] at hS; cases hS
    refine ⟨_, rfl, a, ps.map V.ref, rfl, .inr ⟨Or.inl (Or.inr ⟨_, e1 a _ hS⟩), ?_⟩⟩
    have e2 := Evl.Ex.refl H1
    have ht := e1 a _ hS
    have hot := ho
    have x2 := e2 x _ (e1 x _ hx)
    refine ⟨_, rfl, x, _, dx, _, rfl, x2, T.cl_Space, T.n_names, (by show 0 < 1000; decide), ?_⟩
    have e12 := e1.trans e2
    have up : ∀ q u, q ≠ x → H q = some u → upd H1 x (.ins (He.ga K "Space") dx (putF "names" (.ref a) [])) q = some u := fun q u hq h => by rw [upd_ne hq]; exact e12 q u h
    have upt := prs_move hx up hT
    have upa := up a _ ha hS
    have tx : a ≠ x := fun z => by rw [z, x2] at ht; cases ht
    have upt2 : upd H1 x (.ins (He.ga K "Space") dx (putF "names" (.ref a) [])) a = some (.frz o (.tup (ps.map V.ref))) := by rw [upd_ne tx]; exact ht
    have upx : upd H1 x (.ins (He.ga K "Space") dx (putF "names" (.ref a) [])) x = some (.ins (He.ga K "Space") dx (putF "names" (.ref a) [])) := upd_same
    generalize upd H1 x (.ins (He.ga K "Space") dx (putF "names" (.ref a) [])) = H3 at up upt upa upt2 upx ⊢
    refine ⟨_, rfl, a, rfl, ⟨_, (Or.inl (Or.inr ⟨_, upa⟩) : SqT K _ a (ps.map V.ref))⟩, fun D hD => ?_⟩
    refine lc_fn (walk_tup (xs := ps.map V.ref)) (fun i => V.int (((ns.getD i (alpha, 0)).2 : Nat) : Int)) (by rw [List.length_map]; omega) hD (fun H' e => (Or.inl (Or.inr ⟨_, (e a _ upa)⟩) : SqT K _ a (ps.map V.ref))) ?_ ?_
    · rintro i y H4' H4 Z B hi e hl ⟨rfl, hy⟩ hZ
      obtain ⟨p, rfl, hp2⟩ := refs_get hy
      obtain ⟨n, hn, hpn⟩ := upt.get hp2
      refine ⟨p, nV n, rfl, .inl (hpn.mono e), rfl, _, _, rfl, _, _, rfl, rfl, ?_⟩
      refine ⟨rfl, ?_⟩
      refine ⟨_, rfl, ?_⟩
      rw [getD_of hn] at hZ
      exact hZ _ (Evl.Ex.refl _)
    intro H4 e4 hd4
    rw [List.length_map, hl, sizes_list] at hd4
    refine ⟨D, szs ns, rfl, SqL.of hd4, few_of hok, ?_⟩
    have x4 := e4 x _ upx
    refine ⟨_, rfl, x, _, dx, _, rfl, x4, T.cl_Space, T.n_never, (by show 1 < 1000; decide), ?_⟩
    have up5 : ∀ q u, q ≠ x → H q = some u → upd H4 x (.ins (He.ga K "Space") dx (putF "never" (.int ((prodN (szs ns) : Nat) : Int)) (putF "names" (.ref a) []))) q = some u := fun q u hq h => by rw [upd_ne hq]; exact e4 q u (up q u hq h)
    refine hQ ns hd0 hok _ up5 ⟨dx, a, o, ps, by rw [upd_same, putF_two], by rw [upd_ne tx]; exact e4 a _ upt2, hot, prs_move hx up5 hT⟩
    | non => rw [hd] at hn; cases hn
    | bl b => rw [hd] at hn; cases hn
    | int i => rw [hd] at hn; cases hn
    | str z => rw [hd] at hn; cases hn
    | rat i => rw [hd] at hn; cases hn
    | dic l => rw [hd] at hn; cases hn

end
end K05
namespace K05
open PySem PySem.Spec PyProof.Rows L2 C8
theorem prod_few : ∀ sz ∈ menus, ∀ i, prodN (sz.take i) ≤ 8 := by
  intro sz hs i
  have key : ∀ sz ∈ menus, ∀ i, i < 4 → prodN (sz.take i) ≤ 8 := by decide +kernel
  by_cases hi : i < 4
  · exact key sz hs i hi
  · have f := menu_facts sz hs
    rw [List.take_of_length_le (by omega)]
    omega

/-- the dict of a store's values -/
def kvsOf (ns : NS) (r : List Nat) : List (Key × V) := ((wds ns).zip r).map fun p => (.inr p.1, .int (p.2 : Int))
theorem kvs_len {ns : NS} {r : List Nat} (h : r.length = ns.length) : (kvsOf ns r).length = ns.length := by simp [kvsOf, wds, h]
theorem kvs_at {ns : NS} {r : List Nat} {i : Nat} {n : Str × Nat} {v : Nat} (h1 : ns[i]? = some n) (h2 : r[i]? = some v) : (kvsOf ns r)[i]? = some (.inr n.1, .int (v : Int)) := by
  unfold kvsOf
  rw [List.getElem?_map]
  have : ((wds ns).zip r)[i]? = some (n.1, v) := by rw [List.getElem?_zip_eq_some]; exact ⟨wds_at (n := n) h1, h2⟩
  rw [this]; rfl
theorem kvs_keys {ns : NS} {r : List Nat} (h : r.length = ns.length) : (kvsOf ns r).map (·.1) = (wds ns).map Sum.inr := by
  unfold kvsOf
  rw [List.map_map]
  have e : ((fun x : Key × V => x.1) ∘ fun p : Str × Nat => ((.inr p.1, .int (p.2 : Int)) : Key × V)) = (Sum.inr : Str → Key) ∘ Prod.fst := rfl
  rw [e, ← List.map_map, map_fst_zip_take _ _ (by simp [wds, h])]
  rw [List.take_of_length_le (by simp [wds, h])]
theorem key_nodup {ns : NS} (h : (wds ns).Nodup) : ((wds ns).map (Sum.inr : Str → Key)).Nodup := by
  refine List.Pairwise.map _ (fun a b hab e => hab (Sum.inr.inj e)) h
/-- a value by its place, the keys being different -/
theorem valV_at : ∀ {kvs : List (Key × V)}, (kvs.map (·.1)).Nodup → ∀ {i : Nat} {k : Key} {v : V}, kvs[i]? = some (k, v) → valV kvs k = some v
  | [], _, i, k, v, h => by simp at h
  | p :: r, nd, 0, k, v, h => by
    have e : p = (k, v) := Option.some.inj h
    subst e
    exact valV_pos rfl
  | p :: r, nd, i + 1, k, v, h => by
    have nd' := List.nodup_cons.mp nd
    have h' : r[i]? = some (k, v) := h
    have ne : ¬ p.1 = k := fun e => nd'.1 (by
      show p.1 ∈ _
      rw [e]
      exact List.mem_map.mpr ⟨(k, v), List.mem_of_getElem? h', rfl⟩)
    rw [valV_neg ne]
    exact valV_at nd'.2 h'
theorem valV_out {kvs : List (Key × V)} {k : Key} (h : k ∉ kvs.map (·.1)) : valV kvs k = none := by
  unfold valV
  rw [List.find?_eq_none.mpr fun p hp => ?_]
  · rfl
  · intro e
    exact h (List.mem_map.mpr ⟨p, hp, of_decide_eq_true e⟩)
theorem put_snoc {kvs : List (Key × V)} {k : Key} (v : V) (h : k ∉ kvs.map (·.1)) : putK kvs k v = kvs ++ [(k, v)] := putK_new v (valV_out h)
theorem take_snoc {α : Type} {l : List α} {i : Nat} {a : α} (h : l[i]? = some a) : l.take (i + 1) = l.take i ++ [a] := by rw [List.take_succ, h]; rfl
theorem notin_take {ks : List Key} (nd : ks.Nodup) {i : Nat} {k : Key} (h : ks[i]? = some k) : k ∉ ks.take i := by
  intro hm
  obtain ⟨j, hj, e⟩ := List.getElem_of_mem hm
  rw [List.length_take] at hj
  rw [List.getElem_take] at e
  obtain ⟨hi, e2⟩ := List.getElem?_eq_some_iff.mp h
  exact List.pairwise_iff_getElem.mp nd j i (by omega) hi (by omega) (e.trans e2.symm)
theorem put_take {kvs : List (Key × V)} (nd : (kvs.map (·.1)).Nodup) {i : Nat} {k : Key} {v : V} (h : kvs[i]? = some (k, v)) : putK (kvs.take i) k v = kvs.take (i + 1) := by
  rw [take_snoc h]
  refine put_snoc v ?_
  rw [List.map_take]
  exact notin_take nd (by rw [List.getElem?_map, h]; rfl)
theorem merge_self {kvs : List (Key × V)} (nd : (kvs.map (·.1)).Nodup) : mergeK [] kvs = kvs := by
  have key : ∀ i, i ≤ kvs.length → mergeK [] (kvs.take i) = kvs.take i := by
    intro i
    induction i with
    | zero => intro _; rfl
    | succ i ih =>
      intro hi
      have hx : kvs[i]? = some kvs[i] := List.getElem?_eq_getElem (by omega)
      have e1 : mergeK [] (kvs.take (i + 1)) = putK (mergeK [] (kvs.take i)) kvs[i].1 kvs[i].2 := by
        rw [take_snoc hx]
        unfold mergeK
        rw [List.foldl_append]
        rfl
      rw [e1, ih (by omega)]
      exact put_take nd hx
  have := key kvs.length (Nat.le_refl _)
  rwa [List.take_length] at this
theorem drop_one {sz : List Nat} {i s : Nat} (h : sz[i]? = some s) : sz.drop i = s :: sz.drop (i + 1) := by
  obtain ⟨hi, e⟩ := List.getElem?_eq_some_iff.mp h
  rw [List.drop_eq_getElem_cons hi, e]
theorem dig_at {sz : List Nat} {k i s : Nat} (h : sz[i]? = some s) : (row sz k)[i]? = some (k / prodN (sz.drop (i + 1)) % s) := by
  obtain ⟨hi, e⟩ := List.getElem?_eq_some_iff.mp h
  unfold row
  rw [List.getElem?_map, List.getElem?_range hi]
  show some (dig sz k i) = _
  unfold dig
  rw [List.getD_eq_getElem?_getD, h]
  rfl
theorem prod_pos {sz : List Nat} (h : ∀ s ∈ sz, 2 ≤ s ∧ s ≤ 6) : 0 < prodN sz := by
  induction sz with
  | nil => exact Nat.one_pos
  | cons s r ih => exact Nat.mul_pos (by have := h s (List.mem_cons_self ..); omega) (ih fun x hx => h x (List.mem_cons_of_mem _ hx))
/-- a name of these -/
def nameB (ns : NS) (d : PyData) : Bool := ((wds ns).map PyData.str).any fun z => PyData.eqv z d
theorem nameB_in {ns : NS} {z : Str} (h : z ∈ wds ns) : nameB ns (.str z) = true := by
  unfold nameB
  rw [List.any_eq_true]
  exact ⟨.str z, List.mem_map_of_mem h, by simp [PyData.eqv]⟩
theorem dp_words {K : PySem.W.Frag} {H : Hp} : ∀ ws : List Str, DpAll K H (ws.map V.str) (ws.map PyData.str)
  | [] => .nil
  | _ :: ws => .cons (.str _) (dp_words ws)
theorem fine_words {ws : List Str} (h : ∀ z ∈ ws, Low z.cps.toList ∧ z.length ≤ 20) {n : Nat} (hl : ws.length ≤ n) : Fine (.list (ws.map PyData.str)) 1 (2 + n * 204) :=
  Fine.list (k := 0) (m := 202) (n := n) (fun d hd => by
    obtain ⟨z, hz, rfl⟩ := List.mem_map.mp hd
    exact Fine.str (h z hz).1 (h z hz).2) (by simpa using hl)
theorem NsOk.words {ns : NS} (h : NsOk ns) : ∀ z ∈ wds ns, Low z.cps.toList ∧ z.length ≤ 20 := fun z hz => ⟨(h.wd z hz).low, Nat.le_trans (h.wd z hz).hi (by omega)⟩
theorem drop_few : ∀ sz ∈ menus, ∀ i, prodN (sz.drop i) ≤ 8 := by
  intro sz hs i
  have key : ∀ sz ∈ menus, ∀ i, i < 4 → prodN (sz.drop i) ≤ 8 := by decide +kernel
  by_cases hi : i < 4
  · exact key sz hs i hi
  · have f := menu_facts sz hs
    rw [List.drop_eq_nil_of_le (by omega)]
    show 1 ≤ 8
    omega
theorem rg_list (n : Nat) : rgV 0 (n : Int) = rV (List.range n) := by
  unfold rgV
  rw [show ((n : Int) - 0).toNat = n by omega]
  refine List.map_congr_left fun i _ => ?_
  rw [Int.zero_add]
/-- the store of the first i values -/
def foldN (sz vs : List Nat) (i : Nat) : Nat := ((sz.zip vs).take i).foldl (fun a p => a * p.1 + p.2) 0
theorem foldN_all {sz vs : List Nat} (h : vs.length = sz.length) : foldN sz vs sz.length = valN sz vs := by
  unfold foldN valN
  rw [List.take_of_length_le (by simp [h])]
theorem foldN_succ {sz vs : List Nat} {i s v : Nat} (h1 : sz[i]? = some s) (h2 : vs[i]? = some v) : foldN sz vs (i + 1) = foldN sz vs i * s + v := by
  unfold foldN
  have : (sz.zip vs)[i]? = some (s, v) := by rw [List.getElem?_zip_eq_some]; exact ⟨h1, h2⟩
  rw [take_snoc this, List.foldl_append]
  rfl
theorem foldN_lt {sz vs : List Nat} (hl : vs.length = sz.length) (hv : ∀ (i s v : Nat), sz[i]? = some s → vs[i]? = some v → v < s) : ∀ i, i ≤ sz.length → foldN sz vs i < prodN (sz.take i)
  | 0, _ => by simp [foldN, prodN]
  | i + 1, h => by
    have ih := foldN_lt hl hv i (by omega)
    have h1 : sz[i]? = some sz[i] := List.getElem?_eq_getElem (by omega)
    have h2 : vs[i]? = some vs[i] := List.getElem?_eq_getElem (by omega)
    rw [foldN_succ h1 h2, prodN_take _ _ _ h1]
    have := hv i _ _ h1 h2
    have a : (foldN sz vs i + 1) * sz[i] ≤ prodN (sz.take i) * sz[i] := Nat.mul_le_mul_right _ ih
    rw [Nat.succ_mul] at a
    omega

def sizeKvs (ns : NS) : List (Key × V) := ns.map fun n => (.inr n.1, .int (n.2 : Int))
theorem sizeKvs_keys (ns : NS) : (sizeKvs ns).map (·.1) = (wds ns).map Sum.inr := by
  unfold sizeKvs wds
  rw [List.map_map, List.map_map]
  rfl
theorem put_len {kvs : List (Key × V)} {k : Key} {v y : V} (h : valV kvs k = some y) : (putK kvs k v).length = kvs.length := by
  unfold putK
  rw [if_pos (by rw [valV_any, h]; rfl), List.length_map]
theorem name_ne {ns : NS} (nd : (wds ns).Nodup) {i j : Nat} {n m : Str × Nat} (hi : ns[i]? = some n) (hj : ns[j]? = some m) (h : i ≠ j) : n.1 ≠ m.1 := by
  intro e
  have a := List.getElem?_eq_some_iff.mp (wds_at hi)
  have b := List.getElem?_eq_some_iff.mp (wds_at hj)
  obtain ⟨a1, a2⟩ := a
  obtain ⟨b1, b2⟩ := b
  have k := List.pairwise_iff_getElem.mp nd
  rcases Nat.lt_or_gt_of_ne h with z | z
  · exact k i j a1 b1 z (by rw [a2, b2]; exact e)
  · exact k j i b1 a1 z (by rw [a2, b2]; exact e.symm)
theorem mem_wds {ns : NS} {i : Nat} {n : Str × Nat} (h : ns[i]? = some n) : n.1 ∈ wds ns := List.mem_of_getElem? (wds_at h)
theorem row_val {ns : NS} (hok : NsOk ns) {k i : Nat} {n : Str × Nat} (h : ns[i]? = some n) : ∃ v, (row (szs ns) k)[i]? = some v ∧ v < n.2 := by
  have hs := sz_at h
  have h2 := hok.size (List.mem_of_getElem? h)
  exact ⟨_, dig_at hs, Nat.mod_lt _ (by omega)⟩
theorem sz_getD {ns : NS} {i : Nat} {n : Str × Nat} (h : ns[i]? = some n) : (szs ns).getD i 1 = n.2 := by rw [List.getD_eq_getElem?_getD, sz_at h]; rfl
theorem storeB_get {ns : NS} {d : Th} (h : storeB ns d = true) (hp : 0 < prodN (szs ns)) : ∃ k : Nat, d = .int (k : Int) ∧ k < prodN (szs ns) := by
  unfold storeB at h
  cases d with
  | int i =>
    have h : (decide ((0 : Int) ≤ i) && decide (i ≤ ((prodN (szs ns) : Nat) : Int) - 1)) = true := h
    obtain ⟨h1, h2⟩ := Bool.and_eq_true_iff.mp h
    have h1 := of_decide_eq_true h1
    have h2 := of_decide_eq_true h2
    exact ⟨i.toNat, by rw [Int.toNat_of_nonneg h1], by omega⟩
  | _ => cases h
theorem inB_get {zs : List Str} {d : Th} (h : inB zs d = true) : ∃ z, d = .str z ∧ z ∈ zs := by
  cases d with
  | str z => exact ⟨z, rfl, by
      have h : zs.contains z = true := h
      simpa using h⟩
  | _ => cases h
theorem wds_get {ns : NS} {z : Str} (h : z ∈ wds ns) : ∃ (i : Nat) (n : Str × Nat), ns[i]? = some n ∧ n.1 = z := by
  obtain ⟨n, hn, rfl⟩ := List.mem_map.mp h
  obtain ⟨i, hi⟩ := List.getElem?_of_mem hn
  exact ⟨i, n, hi, rfl⟩
/-- a value of a name with so many values -/
def valB (kvs : List (Key × V)) (n : Str × Nat) : Bool := match valV kvs (.inr n.1) with
  | some (.int i) => decide (0 ≤ i) && decide (i ≤ (n.2 : Int) - 1)
  | _ => false
def valsB (ns : NS) (kvs : List (Key × V)) : Bool := decide (kvs.length = ns.length) && ns.all (valB kvs)
theorem sizeKvs_at {K : PySem.W.Frag} {H : Hp} : ∀ {ps : List Addr} {ns : NS}, Prs H ps ns → Paired (fun p kv => SqT K H p [kV kv.1, kv.2]) ps (sizeKvs ns)
  | _, _, .nil => .nil
  | _, _, .cons h t => .cons (.inl h) (sizeKvs_at t)
section
variable {P : Program} {w : World} {K : PySem.W.Frag} {mg : Str → Option Value} {base : Heap}
abbrev N_Space_values_of : List Str := ["self", "store", "values", "stride", "name", "size"]
theorem sc_Space_values_of : FnScope N_Space_values_of ["self", "store"] (defScope (inClass (top 25) 5)) := ⟨rfl, rfl, rfl, by decide +kernel, rfl, by decide +kernel, by decide +kernel⟩
def spValuesOf (K : PySem.W.Frag) : Sp := fun vs H Q E => ∃ (x : Addr) (ns : NS) (v : V) (d : Th), vs = [.ref x, v] ∧ SpaceAt K H x ns ∧ NsOk ns ∧ AtK5 K H v d ∧
  (∀ k : Nat, d = .int (k : Int) → k < prodN (szs ns) → ∀ p H', H p = none → Ex H H' → H' p = some (.dK (kvsOf ns (row (szs ns) k))) → Q (.ref p) H') ∧ (storeB ns d = false → Out K E H "InvalidStore" v)
theorem ok_Space_values_of (T : Txt K mg) (M_check_store : MetE P w K mg base 3 (He.ga K "Space") "check_store" (spChkStore K)) : MetE P w K mg base 4 (He.ga K "Space") "values_of" (spValuesOf K) := by
  obtain ⟨fd, F⟩ := T.d_Space_values_of
  refine ⟨⟨_, fd, ["self", "store"], ⟨T.cl_Space, T.m_Space_values_of⟩, ?_, F.bindsN fun _ _ _ _ _ _ us hl => match us, hl with | [_, _], _ => rfl⟩⟩
  refine F.ok sc_Space_values_of (fun vs H Q E h => by obtain ⟨_, _, _, _, rfl, _⟩ := h; rfl) (fun cdv A outer s H vs Q E hr h => ?_)
  have hu := hu_of hr
  refine ⟨_, (pss_cons (ps_expr (pe_mtE M_check_store hr (by omega) (fun σ => L2N.passAt (L2N.takes_of rfl rfl rfl rfl) σ) (pv 0) (pa_cons (pv 1) pa_nil)))
      (pss_cons (ps_set (i := 2) sc_Space_values_of.nd rfl (Or.inl rfl) pe_dnewK)
      (pss_cons (ps_set (i := 3) sc_Space_values_of.nd rfl (Or.inl rfl) (pe_fld (pv 0) rfl))
      (pss_cons (ps_for (passes_of rfl) rfl (pi_tup (pe_fld (pv 0) rfl)) (pg_tup (by rfl) (pgs_cons (pg_name (i := 4) sc_Space_values_of.nd rfl (Or.inl rfl)) (pgs_cons (pg_name (i := 5) sc_Space_values_of.nd rfl (Or.inl rfl)) pgs_nil))) (pss_cons (ps_set (i := 3) sc_Space_values_of.nd rfl (Or.inl rfl) (pe_op op_fdiv (pv 3) (pv 5)))
      (pss_one (ps_dput hu (pv 2) (pv 4) (pe_op op_mod (pe_op op_fdiv (pv 1) (pv 3)) (pv 5)) rfl))))
      (pss_one (ps_ret (pv 2))))))), ?_⟩
  obtain ⟨x, ns, v, d, rfl, hS, hok, hv, hQ, hO⟩ := h
  obtain ⟨dx, t, o, ps, hx, ht, ho, hT⟩ := id hS
  have hl := hT.length
  have hn3 := hok.len
  refine ⟨_, rfl, x, dx, _, rfl, hx, rfl, _, rfl, x, ns, v, d, rfl, hS, hv, fun hs => ?_, hO⟩
  obtain ⟨k, rfl, hk⟩ := storeB_get hs (by have := menu_facts _ hok.sz; omega)
  cases hv
  have hrl : (row (szs ns) k).length = ns.length := by rw [row_len]; simp [szs]
  have nd : ((kvsOf ns (row (szs ns) k)).map (·.1)).Nodup := by rw [kvs_keys hrl]; exact key_nodup hok.nd
  have hkl := kvs_len hrl
  refine fun dc hd => ?_
  have e0 : Ex H (upd H dc (.dK [])) := Evl.Ex.new hd
  refine ⟨_, rfl, x, _, dx, _, _, rfl, e0 x _ hx, T.cl_Space, T.n_never, rfl, ?_⟩
  refine ⟨_, rfl, x, _, dx, _, .ref t, rfl, e0 x _ hx, T.cl_Space, T.n_names, rfl, t, rfl, ⟨_, (Or.inl (Or.inr ⟨_, e0 t _ ht⟩) : SqT K _ t (ps.map V.ref))⟩, ?_⟩
  refine for_it (walk_tup (xs := ps.map V.ref)) (fun i σ H' => Ex H H' ∧ H' dc = some (.dK ((kvsOf ns (row (szs ns) k)).take i)) ∧ ∃ x4 x5, σ = [some (.ref x), some (.int (k : Int)), some (.ref dc), some (.int ((prodN ((szs ns).drop i) : Nat) : Int)), x4, x5])
    ⟨e0, upd_same, none, none, rfl⟩ (fun i σ H' _ p => Or.inl (Or.inr ⟨_, p.1 t _ ht⟩)) ?_ ?_
  · rintro i y σ H1' H1 hi ⟨e1, hd1, x4, x5, rfl⟩ ⟨rfl, hy⟩
    obtain ⟨p, rfl, hp2⟩ := refs_get hy
    obtain ⟨n, hn, hpn⟩ := hT.get hp2
    have hs := sz_at hn
    have hsz := hok.size (List.mem_of_getElem? hn)
    have dr := drop_one hs
    have pp : 0 < prodN ((szs ns).drop (i + 1)) := prod_pos fun s hs' => (menu_facts _ hok.sz).2.2.2.2.2 s (List.mem_of_mem_drop hs')
    have est : ((prodN ((szs ns).drop i) : Nat) : Int) / (n.2 : Int) = ((prodN ((szs ns).drop (i + 1)) : Nat) : Int) := by
      rw [dr]
      show ((n.2 * prodN ((szs ns).drop (i + 1)) : Nat) : Int) / (n.2 : Int) = _
      rw [← Int.natCast_ediv, Nat.mul_div_cancel_left _ (by omega)]
    have edg : (k : Int) / ((prodN ((szs ns).drop (i + 1)) : Nat) : Int) % (n.2 : Int) = ((k / prodN ((szs ns).drop (i + 1)) % n.2 : Nat) : Int) := by
      rw [← Int.natCast_ediv, ← Int.natCast_emod]
    refine ⟨p, nV n, rfl, .inl (hpn.mono e1), rfl, _, _, rfl, _, _, rfl, rfl, ?_⟩
    refine ⟨_, rfl, _, rfl, _, _, rfl, rfl, ⟨by omega, by omega⟩, ?_⟩
    refine ⟨_, rfl, _, rfl, _, _, rfl, rfl, ⟨by rw [est]; omega, by rw [est]; have := drop_few _ hok.sz (i + 1); omega⟩, _, rfl, _, _, rfl, rfl, by omega, ?_⟩
    have hkv : (kvsOf ns (row (szs ns) k))[i]? = some (.inr n.1, .int ((k / prodN ((szs ns).drop (i + 1)) % n.2 : Nat) : Int)) := kvs_at hn (dig_at hs)
    refine ⟨_, rfl, _, rfl, dc, _, rfl, DPut.k (k := .inr n.1) hd1 ?_, ?_⟩
    · rw [List.length_take]
      exact Nat.lt_of_le_of_lt (show _ ≤ 3 by omega) (by decide)
    refine ⟨Evl.Ex.mut e1 hd, ?_, some (.str n.1), some (.int (n.2 : Int)), ?_⟩
    · rw [upd_same]
      show some (HO.dK (putK _ (.inr n.1) (.int ((k : Int) / (((prodN ((szs ns).drop i) : Nat) : Int) / (n.2 : Int)) % (n.2 : Int))))) = _
      rw [est, edg, put_take nd hkv]
    · show [_, _, _, some (V.int (((prodN ((szs ns).drop i) : Nat) : Int) / (n.2 : Int))), _, _] = _
      rw [est]
  · rintro σ H1 ⟨e1, hd1, x4, x5, rfl⟩
    refine ⟨_, rfl, hQ k rfl hk dc H1 hd e1 ?_⟩
    rw [hd1, List.take_of_length_le (by rw [List.length_map]; omega)]

abbrev N_Space_store_of : List Str := ["self", "values", "store", "name", "size"]
theorem sc_Space_store_of : FnScope N_Space_store_of ["self", "values"] (defScope (inClass (top 25) 6)) := ⟨rfl, rfl, rfl, by decide +kernel, rfl, by decide +kernel, by decide +kernel⟩
def spStoreOf (K : PySem.W.Frag) : Sp := fun vs H Q E => ∃ (x : Addr) (ns : NS) (v : V), vs = [.ref x, v] ∧ SpaceAt K H x ns ∧ NsOk ns ∧
  ((∃ d, AtK5 K H v d ∧ d.kd ≠ .dic ∧ Out K E H "InvalidValues" v) ∨
   ∃ (a : Addr) (kvs : List (Key × V)), v = .ref a ∧ H a = some (.dK kvs) ∧ (∀ z u, valV kvs (.inr z) = some u → ∃ t, AtK5 K H u t) ∧ (valsB ns kvs = true → ∀ k : Int, Q (.int k) H) ∧ (valsB ns kvs = false → Out K E H "InvalidValues" v))
theorem ok_Space_store_of (T : Txt K mg) (C_is_whole_from : Cal P w K mg base 2 "is_whole_from" (spFrom K) []) : MetE P w K mg base 3 (He.ga K "Space") "store_of" (spStoreOf K) := by
  obtain ⟨fd, F⟩ := T.d_Space_store_of
  refine ⟨⟨_, fd, ["self", "values"], ⟨T.cl_Space, T.m_Space_store_of⟩, ?_, F.bindsN fun _ _ _ _ _ _ us hl => match us, hl with | [_, _], _ => rfl⟩⟩
  refine F.ok sc_Space_store_of (fun vs H Q E h => by obtain ⟨_, _, _, rfl, _⟩ := h; rfl) (fun cdv A outer s H vs Q E hr h => ?_)
  have hu := hu_of hr
  refine ⟨_, (pss_cons (ps_if (PW.pt (pw_or (pt_not (pt_val (pe_callB call_isi (by rfl) T.f_isinstance (by decide +kernel) (pa_cons (pv 1) (pa_cons (pe_bltn (v := .ty "dict") (u := .type "dict") (by rfl) T.f_dict (by decide +kernel) rfl) pa_nil))))) (pw_or1 (pt_cmpR op_ne (pe_callB call_lenD (by rfl) T.f_len (by decide +kernel) (pa_cons (pv 1) pa_nil)) (pe_callB call_len_seq (by rfl) T.f_len (by decide +kernel) (pa_cons (pe_fld (pv 0) rfl) pa_nil)) (nomark _))))) (pss_one (L2N.ps_raise rfl (L2N.takes_of rfl rfl rfl rfl) (pmk_x rfl (pe_mkX (mkp_InvalidValues T) hr (by omega) rfl (by decide) (pa_cons (pv 1) pa_nil))))) pss_nil)
      (pss_cons (ps_set (i := 2) sc_Space_store_of.nd rfl (Or.inl rfl) pe_int)
      (pss_cons (ps_for (passes_of rfl) rfl (pi_tup (pe_fld (pv 0) rfl)) (pg_tup (by rfl) (pgs_cons (pg_name (i := 3) sc_Space_store_of.nd rfl (Or.inl rfl)) (pgs_cons (pg_name (i := 4) sc_Space_store_of.nd rfl (Or.inl rfl)) pgs_nil))) (pss_cons (ps_if (PW.pt (pw_or (pt_cmp (pc_dnotin hu (pv 3) (pv 1)) rfl) (pw_or1 (pt_not (pt_val (pe_c C_is_whole_from hr (by omega) rfl (pa_cons (pe_dget hu (pv 1) (pv 3) (fun _ _ => rfl)) (pa_cons pe_int (pa_cons (pe_op op_sub (pv 4) pe_int) pa_nil))))))))) (pss_one (L2N.ps_raise rfl (L2N.takes_of rfl rfl rfl rfl) (pmk_x rfl (pe_mkX (mkp_InvalidValues T) hr (by omega) rfl (by decide) (pa_cons (pv 1) pa_nil))))) pss_nil)
      (pss_one (ps_set (i := 2) sc_Space_store_of.nd rfl (Or.inl rfl) (pe_op op_add (pe_op op_mul (pv 2) (pv 4)) (pe_dget hu (pv 1) (pv 3) (fun _ _ => rfl)))))))
      (pss_one (ps_ret (pv 2)))))), ?_⟩
  obtain ⟨x, ns, v, rfl, hS, hok, hcase⟩ := h
  obtain ⟨dx, t, o, ps, hx, ht, ho, hT⟩ := id hS
  have hl := hT.length
  have hn3 := hok.len
  have tq : SqT K H t (ps.map V.ref) := Or.inl (Or.inr ⟨_, ht⟩)
  rcases hcase with ⟨d, hv, hk, hO⟩ | ⟨a, kvs, rfl, hd, hvs, hQ, hO⟩
  · refine ⟨_, rfl, _, _, _, _, _, rfl, .ty _, At.tyx T.rc hv, Kd.kit T.rc _ (by decide), _, rfl, ?_⟩
    have e1 : d.kd.isA "dict" = false := by
      cases d with
      | dic l => exact absurd rfl hk
      | _ => rfl
    rw [e1]
    refine iteTo rfl ?_
    refine ⟨_, rfl, rfl, rfl, fun ax HX nx ex xx dx' => ?_⟩
    obtain ⟨dr, hdr, go⟩ := out_raise (exT T (i := 3) (x := "InvalidValues") rfl) nx ex (xx []) (hO)
    exact ⟨ax, _, dr, rfl, hdr, Evl.fresh_back (Evl.Ex.refl _) nx, raises_own (exT T (i := 3) (x := "InvalidValues") rfl).exC (exT T (i := 3) (x := "InvalidValues") rfl).tyC, go⟩
  refine ⟨_, rfl, _, _, _, _, _, rfl, ClsV.ty _, TyX.base (TyOf.dK hd), kit_ty (r := true) (by decide +kernel), _, rfl, iteFo rfl ?_⟩
  refine ⟨_, rfl, a, kvs, rfl, hd, ?_⟩
  refine ⟨_, rfl, x, _, dx, _, .ref t, rfl, hx, T.cl_Space, T.n_names, rfl, t, _, rfl, .inr tq, rfl, _, rfl, ?_⟩
  by_cases ln : kvs.length = ns.length
  case neg =>
    have e1 : valsB ns kvs = false := by unfold valsB; rw [decide_eq_false ln]; rfl
    rw [decide_eq_false (fun z => ln (by
      have z := V.int.inj z
      rw [List.length_map, hl] at z
      omega))]
    refine iteTo rfl ?_
    refine ⟨_, rfl, rfl, rfl, fun ax HX nx ex xx dx' => ?_⟩
    obtain ⟨dr, hdr, go⟩ := out_raise (exT T (i := 3) (x := "InvalidValues") rfl) nx ex (xx []) (hO e1)
    exact ⟨ax, _, dr, rfl, hdr, Evl.fresh_back (Evl.Ex.refl _) nx, raises_own (exT T (i := 3) (x := "InvalidValues") rfl).exC (exT T (i := 3) (x := "InvalidValues") rfl).tyC, go⟩
  rw [decide_eq_true (by rw [List.length_map, hl, ln])]
  refine iteFo rfl ?_
  refine ⟨_, rfl, x, _, dx, _, .ref t, rfl, hx, T.cl_Space, T.n_names, rfl, t, rfl, ⟨_, tq⟩, ?_⟩
  refine for_it (walk_tup (xs := ps.map V.ref)) (fun i σ H' => H' = H ∧ (∀ j n, j < i → ns[j]? = some n → valB kvs n = true) ∧ ∃ (k : Int) (x3 x4 : Option V), σ = [some (.ref x), some (.ref a), some (.int k), x3, x4]) ⟨rfl, fun j n h _ => by omega, 0, none, none, rfl⟩ (fun i σ H' _ p => by rw [p.1]; exact tq) ?_ ?_
  · rintro i y σ H1 H1' hi ⟨rfl, hb, k, x3, x4, rfl⟩ ⟨rfl, hy⟩
    obtain ⟨p, rfl, hp2⟩ := refs_get hy
    obtain ⟨n, hn, hpn⟩ := hT.get hp2
    have hsz := hok.size (List.mem_of_getElem? hn)
    refine ⟨p, nV n, rfl, .inl hpn, rfl, _, _, rfl, _, _, rfl, rfl, ?_⟩
    have dg := DGet.k (k := .inr n.1) hd
    have bad : valB kvs n = false → valsB ns kvs = false := fun e => by
      unfold valsB
      rw [Bool.and_eq_false_iff]
      right
      rw [List.all_eq_false]
      exact ⟨n, List.mem_of_getElem? hn, by rw [e]; decide⟩
    refine ⟨_, rfl, _, rfl, a, _, rfl, dg, _, rfl, ?_⟩
    cases hw : valV kvs (.inr n.1) with
    | none =>
      have e1 : valB kvs n = false := by unfold valB; rw [hw]
      refine iteTo rfl ?_
      refine ⟨_, rfl, rfl, rfl, fun ax HX nx ex xx dx' => ?_⟩
      obtain ⟨dr, hdr, go⟩ := out_raise (exT T (i := 3) (x := "InvalidValues") rfl) nx ex (xx []) (hO (bad e1))
      exact ⟨ax, _, dr, rfl, hdr, Evl.fresh_back (Evl.Ex.refl _) nx, raises_own (exT T (i := 3) (x := "InvalidValues") rfl).exC (exT T (i := 3) (x := "InvalidValues") rfl).tyC, go⟩
    | some u =>
      rw [hw] at dg
      obtain ⟨tu, hu1⟩ := hvs _ _ hw
      refine iteFo rfl ?_
      refine ⟨_, rfl, _, rfl, a, _, rfl, dg, _, rfl, _, _, rfl, rfl, u, tu, _, _, rfl, hu1, _, rfl, ?_⟩
      have e2 : fromB 0 ((n.2 : Int) - 1) tu = valB kvs n := by
        unfold valB
        rw [hw]
        cases hu1 <;> rfl
      rw [e2]
      cases e1 : valB kvs n with
      | false =>
        refine iteTo rfl ?_
        refine ⟨_, rfl, rfl, rfl, fun ax HX nx ex xx dx' => ?_⟩
        obtain ⟨dr, hdr, go⟩ := out_raise (exT T (i := 3) (x := "InvalidValues") rfl) nx ex (xx []) (hO (bad e1))
        exact ⟨ax, _, dr, rfl, hdr, Evl.fresh_back (Evl.Ex.refl _) nx, raises_own (exT T (i := 3) (x := "InvalidValues") rfl).exC (exT T (i := 3) (x := "InvalidValues") rfl).tyC, go⟩
      | true =>
        refine iteFo rfl ?_
        rw [e1] at e2
        cases hu1 with
        | int i2 =>
          refine ⟨_, rfl, _, rfl, _, _, rfl, rfl, .inr ⟨by omega, by omega⟩, _, rfl, _, rfl, a, _, rfl, dg, _, _, rfl, rfl, rfl, fun j m hj hm => ?_, _, some (.str n.1), some (.int (n.2 : Int)), rfl⟩
          by_cases c : j < i
          · exact hb j m c hm
          · have : j = i := by omega
            subst this
            rw [hn] at hm
            cases hm
            exact e1
        | bl b => cases e2
        | non => cases e2
        | str _ _ => cases e2
        | rat _ => cases e2
        | lst _ _ => cases e2
        | tup _ _ => cases e2
        | dic _ _ => cases e2
  · rintro σ H1 ⟨rfl, hb, k, x3, x4, rfl⟩
    refine ⟨_, rfl, hQ ?_ k⟩
    unfold valsB
    rw [decide_eq_true ln, Bool.true_and, List.all_eq_true]
    intro n hn
    obtain ⟨i, hi⟩ := List.getElem?_of_mem hn
    exact hb i n (by rw [List.length_map, hl]; exact (List.getElem?_eq_some_iff.mp hi).1) hi

end
end K05
namespace K05
open PySem PySem.Spec PyProof.Rows L2 C8
theorem valB_ok {kvs : List (Key × V)} {n : Str × Nat} {v : Nat} (h : valV kvs (.inr n.1) = some (.int (v : Int))) (hv : v < n.2) : valB kvs n = true := by
  unfold valB
  rw [h]
  show (decide ((0 : Int) ≤ (v : Int)) && decide ((v : Int) ≤ (n.2 : Int) - 1)) = true
  rw [decide_eq_true (by omega), decide_eq_true (by omega)]
  rfl
/-- all values of a dict are whole numbers -/
theorem kvs_ints {ns : NS} {r : List Nat} {z : Str} {u : V} (h : valV (kvsOf ns r) (.inr z) = some u) : ∃ i : Int, u = .int i := by
  unfold valV at h
  obtain ⟨p, hp, rfl⟩ := Option.map_eq_some_iff.mp h
  have hm := List.mem_of_find?_eq_some hp
  unfold kvsOf at hm
  obtain ⟨q, _, rfl⟩ := List.mem_map.mp hm
  exact ⟨_, rfl⟩
section
variable {P : Program} {w : World} {K : PySem.W.Frag} {mg : Str → Option Value} {base : Heap}
abbrev N_Space_size_of : List Str := ["self", "name"]
theorem sc_Space_size_of : FnScope N_Space_size_of ["self", "name"] (defScope (inClass (top 25) 7)) := ⟨rfl, rfl, rfl, by decide +kernel, rfl, by decide +kernel, by decide +kernel⟩
def spSizeOf (K : PySem.W.Frag) : Sp := fun vs H Q E => ∃ (x : Addr) (ns : NS) (v : V) (d : Th), vs = [.ref x, v] ∧ SpaceAt K H x ns ∧ NsOk ns ∧ AtK5 K H v d ∧
  (∀ (n : Str × Nat) (i : Nat), ns[i]? = some n → d = .str n.1 → ∀ H', Ex H H' → Q (.int (n.2 : Int)) H') ∧ (inB (wds ns) d = false → Out K E H "InvalidName" v)
theorem ok_Space_size_of (T : Txt K mg) (M_check_name : MetE P w K mg base 5 (He.ga K "Space") "check_name" (spChkName K)) : MetE P w K mg base 6 (He.ga K "Space") "size_of" (spSizeOf K) := by
  obtain ⟨fd, F⟩ := T.d_Space_size_of
  refine ⟨⟨_, fd, ["self", "name"], ⟨T.cl_Space, T.m_Space_size_of⟩, ?_, F.bindsN fun _ _ _ _ _ _ us hl => match us, hl with | [_, _], _ => rfl⟩⟩
  refine F.ok sc_Space_size_of (fun vs H Q E h => by obtain ⟨_, _, _, _, rfl, _⟩ := h; rfl) (fun cdv A outer s H vs Q E hr h => ?_)
  have hu := hu_of hr
  refine ⟨_, (pss_cons (ps_expr (pe_mtE M_check_name hr (by omega) (fun σ => L2N.passAt (L2N.takes_of rfl rfl rfl rfl) σ) (pv 0) (pa_cons (pv 1) pa_nil)))
      (pss_one (ps_ret (pe_dget hu (pe_callTy (call_dictF rfl) (by rfl) T.f_dict (by decide +kernel) (pa_cons (pe_fld (pv 0) rfl) pa_nil)) (pv 1) (fun _ _ => rfl))))), ?_⟩
  obtain ⟨x, ns, v, d, rfl, hS, hok, hv, hQ, hO⟩ := h
  obtain ⟨dx, t, o, ps, hx, ht, ho, hT⟩ := id hS
  refine ⟨_, rfl, x, dx, _, rfl, hx, rfl, _, rfl, x, ns, v, d, rfl, hS, hok, hv, fun hi H1 e1 => ?_, hO⟩
  obtain ⟨z, rfl, hz⟩ := inB_get hi
  obtain ⟨i, n, hn, rfl⟩ := wds_get hz
  cases hv
  have nd : ((sizeKvs ns).map (·.1)).Nodup := by rw [sizeKvs_keys]; exact key_nodup hok.nd
  refine ⟨_, rfl, x, _, dx, _, .ref t, rfl, e1 x _ hx, T.cl_Space, T.n_names, rfl, t, o, ps, sizeKvs ns, rfl, e1 t _ ht, ho, sizeKvs_at (hT.up e1), fun p hp => ?_⟩
  refine ⟨_, rfl, p, _, rfl, ?_, hQ n i hn rfl _ (e1.trans (Evl.Ex.new hp))⟩
  have h1 : upd H1 p (.dK (mergeK [] (sizeKvs ns))) p = some (.dK (sizeKvs ns)) := by rw [upd_same, merge_self nd]
  have := DGet.k (k := .inr n.1) h1
  rw [valV_at nd (i := i) (v := .int (n.2 : Int)) (by unfold sizeKvs; rw [List.getElem?_map, hn]; rfl)] at this
  exact this

abbrev N_Space_value_of : List Str := ["self", "store", "name", "values"]
theorem sc_Space_value_of : FnScope N_Space_value_of ["self", "store", "name"] (defScope (inClass (top 25) 8)) := ⟨rfl, rfl, rfl, by decide +kernel, rfl, by decide +kernel, by decide +kernel⟩
def spValueOf (K : PySem.W.Frag) : Sp := fun vs H Q E => ∃ (x : Addr) (ns : NS) (v u : V) (d e : Th), vs = [.ref x, v, u] ∧ SpaceAt K H x ns ∧ NsOk ns ∧ AtK5 K H v d ∧ AtK5 K H u e ∧
  (storeB ns d = true → inB (wds ns) e = true → ∀ (k : Int) H', Ex H H' → Q (.int k) H') ∧ (storeB ns d = false → Out K E H "InvalidStore" v) ∧ (storeB ns d = true → inB (wds ns) e = false → Out K E H "InvalidName" u)
theorem ok_Space_value_of (T : Txt K mg) (M_check_name : MetE P w K mg base 5 (He.ga K "Space") "check_name" (spChkName K)) (M_values_of : MetE P w K mg base 4 (He.ga K "Space") "values_of" (spValuesOf K)) : MetE P w K mg base 6 (He.ga K "Space") "value_of" (spValueOf K) := by
  obtain ⟨fd, F⟩ := T.d_Space_value_of
  refine ⟨⟨_, fd, ["self", "store", "name"], ⟨T.cl_Space, T.m_Space_value_of⟩, ?_, F.bindsN fun _ _ _ _ _ _ us hl => match us, hl with | [_, _, _], _ => rfl⟩⟩
  refine F.ok sc_Space_value_of (fun vs H Q E h => by obtain ⟨_, _, _, _, _, _, rfl, _⟩ := h; rfl) (fun cdv A outer s H vs Q E hr h => ?_)
  have hu := hu_of hr
  refine ⟨_, (pss_cons (ps_set (i := 3) sc_Space_value_of.nd rfl (Or.inl rfl) (pe_mtE M_values_of hr (by omega) (fun σ => L2N.passAt (L2N.takes_of rfl rfl rfl rfl) σ) (pv 0) (pa_cons (pv 1) pa_nil)))
      (pss_cons (ps_expr (pe_mtE M_check_name hr (by omega) (fun σ => L2N.passAt (L2N.takes_of rfl rfl rfl rfl) σ) (pv 0) (pa_cons (pv 2) pa_nil)))
      (pss_one (ps_ret (pe_dget hu (pv 3) (pv 2) (fun _ _ => rfl)))))), ?_⟩
  obtain ⟨x, ns, v, u, d, e, rfl, hS, hok, hv, hu2, hQ, hO, hO2⟩ := h
  obtain ⟨dx, t, o, ps, hx, ht, ho, hT⟩ := id hS
  refine ⟨_, rfl, x, dx, _, rfl, hx, rfl, _, rfl, x, ns, v, d, rfl, hS, hok, hv, fun k hk1 hk p H1 hp e1 hp1 => ?_, hO⟩
  have hst : storeB ns d = true := by
    rw [hk1]
    show (decide ((0 : Int) ≤ (k : Int)) && decide ((k : Int) ≤ ((prodN (szs ns) : Nat) : Int) - 1)) = true
    rw [decide_eq_true (by omega), decide_eq_true (by omega)]
    rfl
  have hrl : (row (szs ns) k).length = ns.length := by rw [row_len]; simp [szs]
  have nd : ((kvsOf ns (row (szs ns) k)).map (·.1)).Nodup := by rw [kvs_keys hrl]; exact key_nodup hok.nd
  refine ⟨_, rfl, x, dx, _, rfl, e1 x _ hx, rfl, _, rfl, x, ns, u, e, rfl, hS.mono e1, hok, hu2.up e1, fun hi H2 e2 => ?_, fun hi => (hO2 hst hi).up e1⟩
  have hQ1 := hQ hst hi
  obtain ⟨z, rfl, hz⟩ := inB_get hi
  obtain ⟨i, n, hn, rfl⟩ := wds_get hz
  cases hu2
  obtain ⟨v0, hv0, _⟩ := row_val hok (k := k) hn
  refine ⟨_, rfl, _, rfl, p, _, rfl, ?_, hQ1 (v0 : Int) _ (e1.trans e2)⟩
  have := DGet.k (k := .inr n.1) (e2 p _ hp1)
  rw [valV_at nd (kvs_at hn hv0)] at this
  exact this

abbrev N_Space_with_value : List Str := ["self", "store", "name", "value", "values"]
theorem sc_Space_with_value : FnScope N_Space_with_value ["self", "store", "name", "value"] (defScope (inClass (top 25) 9)) := ⟨rfl, rfl, rfl, by decide +kernel, rfl, by decide +kernel, by decide +kernel⟩
def spWithValue (K : PySem.W.Frag) : Sp := fun vs H Q E => ∃ (x : Addr) (ns : NS) (v u y : V) (d e f : Th), vs = [.ref x, v, u, y] ∧ SpaceAt K H x ns ∧ NsOk ns ∧ AtK5 K H v d ∧ AtK5 K H u e ∧ AtK5 K H y f ∧
  (storeB ns d = true → inB (wds ns) e = true → wholeB f = true → ∀ (k : Int) H', Ex H H' → Q (.int k) H') ∧ (storeB ns d = false → Out K E H "InvalidStore" v) ∧
  (storeB ns d = true → inB (wds ns) e = false → Out K E H "InvalidName" u) ∧ (storeB ns d = true → inB (wds ns) e = true → wholeB f = false → Out K E H "InvalidValues" y)
theorem ok_Space_with_value (T : Txt K mg) (M_check_name : MetE P w K mg base 5 (He.ga K "Space") "check_name" (spChkName K)) (M_values_of : MetE P w K mg base 4 (He.ga K "Space") "values_of" (spValuesOf K)) (M_size_of : MetE P w K mg base 6 (He.ga K "Space") "size_of" (spSizeOf K)) (M_store_of : MetE P w K mg base 3 (He.ga K "Space") "store_of" (spStoreOf K)) (C_is_whole : Cal P w K mg base 1 "is_whole" (spWhole K) []) : MetE P w K mg base 7 (He.ga K "Space") "with_value" (spWithValue K) := by
  obtain ⟨fd, F⟩ := T.d_Space_with_value
  refine ⟨⟨_, fd, ["self", "store", "name", "value"], ⟨T.cl_Space, T.m_Space_with_value⟩, ?_, F.bindsN fun _ _ _ _ _ _ us hl => match us, hl with | [_, _, _, _], _ => rfl⟩⟩
  refine F.ok sc_Space_with_value (fun vs H Q E h => by obtain ⟨_, _, _, _, _, _, _, _, rfl, _⟩ := h; rfl) (fun cdv A outer s H vs Q E hr h => ?_)
  have hu := hu_of hr
  refine ⟨_, (pss_cons (ps_set (i := 4) sc_Space_with_value.nd rfl (Or.inl rfl) (pe_mtE M_values_of hr (by omega) (fun σ => L2N.passAt (L2N.takes_of rfl rfl rfl rfl) σ) (pv 0) (pa_cons (pv 1) pa_nil)))
      (pss_cons (ps_expr (pe_mtE M_check_name hr (by omega) (fun σ => L2N.passAt (L2N.takes_of rfl rfl rfl rfl) σ) (pv 0) (pa_cons (pv 2) pa_nil)))
      (pss_cons (ps_if (pt_not (pt_val (pe_c C_is_whole hr (by omega) rfl (pa_cons (pv 3) pa_nil)))) (pss_one (L2N.ps_raise rfl (L2N.takes_of rfl rfl rfl rfl) (pmk_x rfl (pe_mkX (mkp_InvalidValues T) hr (by omega) rfl (by decide) (pa_cons (pv 3) pa_nil))))) pss_nil)
      (pss_cons (ps_dput hu (pv 4) (pv 2) (pe_op op_mod (pv 3) (pe_mtE M_size_of hr (by omega) (fun σ => L2N.passAt (L2N.takes_of rfl rfl rfl rfl) σ) (pv 0) (pa_cons (pv 2) pa_nil))) rfl)
      (pss_one (ps_ret (pe_mtE M_store_of hr (by omega) (fun σ => L2N.passAt (L2N.takes_of rfl rfl rfl rfl) σ) (pv 0) (pa_cons (pv 4) pa_nil)))))))), ?_⟩
  obtain ⟨x, ns, v, u, y, d, e, f, rfl, hS, hok, hv, hu2, hy2, hQ, hO, hO2, hO3⟩ := h
  obtain ⟨dx, t, o, ps, hx, ht, ho, hT⟩ := id hS
  refine ⟨_, rfl, x, dx, _, rfl, hx, rfl, _, rfl, x, ns, v, d, rfl, hS, hok, hv, fun k hk1 hk p H1 hp e1 hp1 => ?_, hO⟩
  have hst : storeB ns d = true := by
    rw [hk1]
    show (decide ((0 : Int) ≤ (k : Int)) && decide ((k : Int) ≤ ((prodN (szs ns) : Nat) : Int) - 1)) = true
    rw [decide_eq_true (by omega), decide_eq_true (by omega)]
    rfl
  have hrl : (row (szs ns) k).length = ns.length := by rw [row_len]; simp [szs]
  have nd : ((kvsOf ns (row (szs ns) k)).map (·.1)).Nodup := by rw [kvs_keys hrl]; exact key_nodup hok.nd
  refine ⟨_, rfl, x, dx, _, rfl, e1 x _ hx, rfl, _, rfl, x, ns, u, e, rfl, hS.mono e1, hok, hu2.up e1, fun hi H2 e2 => ?_, fun hi => (hO2 hst hi).up e1⟩
  have e12 := e1.trans e2
  refine ⟨_, rfl, y, f, rfl, hy2.up e12, _, rfl, ?_⟩
  cases hw : wholeB f with
  | false =>
    refine iteTo rfl ?_
    refine ⟨_, rfl, rfl, rfl, fun ax HX nx ex xx dx' => ?_⟩
    obtain ⟨dr, hdr, go⟩ := out_raise (exT T (i := 3) (x := "InvalidValues") rfl) nx ex (xx []) ((hO3 hst hi hw).up e12)
    exact ⟨ax, _, dr, rfl, hdr, Evl.fresh_back e12 nx, raises_own (exT T (i := 3) (x := "InvalidValues") rfl).exC (exT T (i := 3) (x := "InvalidValues") rfl).tyC, go⟩
  | true =>
  refine iteFo rfl ?_
  have hQ1 := hQ hst hi hw
  obtain ⟨z, rfl, hz⟩ := inB_get hi
  obtain ⟨i, n, hn, rfl⟩ := wds_get hz
  have hsz := hok.size (List.mem_of_getElem? hn)
  obtain ⟨w0, rfl⟩ : ∃ w0, f = .int w0 := by
    cases f with
    | int i => exact ⟨_, rfl⟩
    | _ => cases hw
  cases hy2
  have hu3 := hu2.up e12
  cases hu2
  refine ⟨_, rfl, _, rfl, x, dx, _, rfl, e12 x _ hx, rfl, _, rfl, x, ns, _, _, rfl, hS.mono e12, hok, hu3, fun n' i' hn' hd' H3 e3 => ?_, fun hf => by rw [hi] at hf; cases hf⟩
  obtain rfl : n' = n := by
    have e1 : i' = i := by
      by_cases c : i' = i
      · exact c
      · exact absurd (Th.str.inj hd').symm (name_ne hok.nd hn' hn c)
    rw [e1, hn] at hn'
    exact (Option.some.inj hn').symm
  have e13 := e12.trans e3
  obtain ⟨y, hy⟩ : ∃ y : Nat, w0 % (n'.2 : Int) = (y : Int) := ⟨(w0 % (n'.2 : Int)).toNat, by
    have := Int.emod_nonneg w0 (b := (n'.2 : Int)) (by omega)
    omega⟩
  have hy2 : y < n'.2 := by
    have := Int.emod_lt_of_pos w0 (b := (n'.2 : Int)) (by omega)
    omega
  have hp3 := e3 p _ (e2 p _ hp1)
  obtain ⟨v0, hv0, _⟩ := row_val hok (k := k) hn
  have old := valV_at nd (kvs_at hn hv0)
  refine ⟨_, _, rfl, rfl, by omega, _, rfl, _, rfl, p, _, rfl, DPut.k (k := .inr n'.1) hp3 ?_, ?_⟩
  · rw [kvs_len hrl]
    exact Nat.lt_of_le_of_lt hok.len.2 (by decide)
  have up : Ex H (upd H3 p (.dK (putK (kvsOf ns (row (szs ns) k)) (.inr n'.1) (.int (w0 % (n'.2 : Int)))))) := Evl.Ex.mut e13 hp
  have good : valsB ns (putK (kvsOf ns (row (szs ns) k)) (.inr n'.1) (.int (w0 % (n'.2 : Int)))) = true := by
    unfold valsB
    rw [decide_eq_true (by rw [put_len old, kvs_len hrl]), Bool.true_and, List.all_eq_true]
    intro m hm
    obtain ⟨j, hj⟩ := List.getElem?_of_mem hm
    by_cases hij : i = j
    · subst hij
      rw [hn] at hj
      cases hj
      exact valB_ok (v := y) (by rw [valV_put, if_pos rfl, hy]) hy2
    · obtain ⟨v1, hv1, hv2⟩ := row_val hok (k := k) hj
      refine valB_ok (v := v1) ?_ hv2
      rw [valV_put, if_neg (fun e => name_ne hok.nd hn hj hij (Sum.inr.inj e).symm)]
      exact valV_at nd (kvs_at hj hv1)
  refine ⟨_, rfl, x, dx, _, rfl, up x _ hx, rfl, _, rfl, x, ns, .ref p, rfl, hS.mono up, hok, .inr ⟨p, _, rfl, upd_same, fun z u hz => ?_, fun _ k => hQ1 k _ up, fun hf => by rw [good] at hf; cases hf⟩⟩
  rw [valV_put] at hz
  by_cases c : (Sum.inr z : Key) = .inr n'.1
  · rw [if_pos c] at hz
    cases hz
    exact ⟨_, .int _⟩
  · rw [if_neg c] at hz
    obtain ⟨i3, rfl⟩ := kvs_ints hz
    exact ⟨_, .int _⟩

end
end K05
namespace K05
open PySem PySem.Spec PyProof.Rows L2 C8
theorem cut1 (ns : List Int) : cutV (ns.map V.int) none (some 1) = (ns.take 1).map V.int := by
  cases ns with
  | nil => rfl
  | cons a l =>
    first
      | rfl
      | simp [cutV]
theorem list_shapedS {zs : List Str} (h : ∀ z ∈ zs, PyData.strOk z = true) : SeqAt.shaped (.list (zs.map PyData.str)) = true := by
  refine shaped_list ?_ ?_
  · induction zs with
    | nil => rfl
    | cons z zs ih =>
      simp only [List.map_cons, PyData.canLayAll0, PyData.canLay0]
      rw [h z (List.mem_cons_self ..), ih fun y hy => h y (List.mem_cons_of_mem _ hy)]
      rfl
  · have : PyData.depthAll (zs.map PyData.str) = 0 := by
      induction zs with
      | nil => rfl
      | cons z zs ih =>
        simp only [List.map_cons, PyData.depthAll, PyData.depth]
        rw [ih fun y hy => h y (List.mem_cons_of_mem _ hy)]
        rfl
    omega
section
variable {P : Program} {w : World} {K : PySem.W.Frag} {mg : Str → Option Value} {base : Heap}
abbrev N_l_cell : List Str := ["script", "k"]
theorem sc_l_cell : FnScope N_l_cell ["script", "k"] (defScope (top 29)) := ⟨rfl, rfl, rfl, by decide +kernel, rfl, by decide +kernel, by decide +kernel⟩
def cellV (ns : List Int) (k : Nat) : Int := if k < ns.length then ns.getD k 0 else 7919 * (k : Int) + 77 + (ns.take 1).sum % 1000003
def spCell (K : PySem.W.Frag) : Sp := fun vs H Q _ => ∃ (l : Addr) (ns : List Int) (k : Nat), vs = [.ref l, .int (k : Int)] ∧ SqL K H l (ns.map V.int) ∧ ns.length ≤ 63 ∧ k < 10 ∧ ∀ H', Ex H H' → ∀ i, Q (.int i) H'
theorem ok_l_cell (T : Txt K mg)  : Cal P w K mg base 1 "_law_cell" (spCell K) [] := by
  obtain ⟨fd, F⟩ := T.d__law_cell
  refine ⟨_, fd, ["script", "k"], [], ?_, T.g__law_cell, F.kp, F.bindsN fun _ _ _ _ _ _ us hl => match us, hl with | [_, _], _ => rfl, .nil⟩
  refine F.ok sc_l_cell (fun vs H Q E h => by obtain ⟨_, _, _, rfl, _⟩ := h; rfl) (fun cdv A outer s H vs Q E hr h => ?_)
  have hu := hu_of hr
  refine ⟨_, PSs.nox (pss_one (ps_ret (pe_ifExp (pt_cmpR op_lt (pv 1) (pe_callB call_len (by rfl) T.f_len (by decide +kernel) (pa_cons (pv 0) pa_nil)) (nomark _)) (pe_ix ix_list (pv 0) (pv 1) (fun _ _ => rfl)) (pe_op op_add (pe_op op_add (pe_op op_mul pe_int (pv 1)) pe_int) (pe_op op_mod (pe_callB (cr_sum rfl) (by rfl) T.f_sum (by decide +kernel) (pa_cons (pe_slice sl_list (pv 0) po_none (po_some pe_int)) pa_nil)) pe_int))))), ?_⟩
  obtain ⟨l, ns, k, rfl, hS, hl, hk, hQ⟩ := h
  refine ⟨_, rfl, _, rfl, _, _, rfl, .inl ⟨_, hS, rfl⟩, _, _, rfl, rfl, _, rfl, ?_⟩
  refine ite2 (fun c => ?_) (fun c => ?_)
  · have c1 : k < ns.length := by
      have := of_decide_eq_true c
      rw [List.length_map] at this
      omega
    refine ⟨_, rfl, _, rfl, l, _, _, .int (ns.getD k 0), rfl, rfl, hS, ?_, hQ H (Evl.Ex.refl H) _⟩
    have e1 : (ns.map V.int)[k]? = some (.int (ns.getD k 0)) := by
      rw [List.getElem?_map, List.getElem?_eq_getElem c1, List.getD_eq_getElem?_getD, List.getElem?_eq_getElem c1]; rfl
    exact atI_nat e1
  · refine ⟨_, rfl, _, _, rfl, rfl, .inl ⟨by decide, by decide⟩, _, _, rfl, rfl, ?_⟩
    refine ⟨_, rfl, _, rfl, l, _, rfl, hS, fun p hp => ?_⟩
    refine ⟨p, ns.take 1, rfl, SqL.of (by rw [upd_same, cut1]), _, _, rfl, rfl, (by show (0 : Int) < 1000003; decide), _, _, rfl, rfl, hQ _ (Evl.Ex.new hp) _⟩

abbrev N_l_box : List Str := ["great"]
theorem sc_l_box : FnScope N_l_box ["great"] (defScope (top 30)) := ⟨rfl, rfl, rfl, by decide +kernel, rfl, by decide +kernel, by decide +kernel⟩
def spBox : Sp := fun vs H Q _ => ∃ (i : Int), vs = [.int i] ∧ ∀ b H', H b = none → Ex H H' → Box H' b 0 → Q (.ref b) H'
theorem ok_l_box (T : Txt K mg)  : Cal P w K mg base 1 "_law_box" (spBox) [] := by
  obtain ⟨fd, F⟩ := T.d__law_box
  refine ⟨_, fd, ["great"], [], ?_, T.g__law_box, F.kp, F.bindsN fun _ _ _ _ _ _ us hl => match us, hl with | [_], _ => rfl, .nil⟩
  refine F.ok sc_l_box (fun vs H Q E h => by obtain ⟨_, rfl, _⟩ := h; rfl) (fun cdv A outer s H vs Q E hr h => ?_)
  have hu := hu_of hr
  refine ⟨_, PSs.nox (pss_one (ps_ret (pe_lst (pa_cons (pe_callB call_abs (by rfl) T.f_abs (by decide +kernel) (pa_cons (pv 0) pa_nil)) (pa_cons (pe_cmpR op_ge (pe_callB call_abs (by rfl) T.f_abs (by decide +kernel) (pa_cons (pv 0) pa_nil)) (pe_op op_pow pe_int pe_int) (nomark _)) (pa_cons (pe_op op_mod (pe_callTy call_int1 (by rfl) T.f_int (by decide +kernel) (pa_cons (pe_callB call_abs (by rfl) T.f_abs (by decide +kernel) (pa_cons (pv 0) pa_nil)) pa_nil)) pe_int) (pa_cons pe_int pa_nil))))))), ?_⟩
  obtain ⟨i, rfl, hQ⟩ := h
  refine ⟨_, rfl, _, rfl, ?_⟩
  refine ⟨_, rfl, _, rfl, _, _, rfl, rfl, ⟨by decide, by decide, by decide⟩, _, _, rfl, rfl, ?_⟩
  refine ⟨_, rfl, _, rfl, .inl ⟨_, rfl, _, _, rfl, rfl, (by show (0 : Int) < 2147483629; decide), ?_⟩⟩
  refine ⟨(by show 4 ≤ sizeLine; decide), fun p hp => ?_⟩
  refine hQ p _ hp (Evl.Ex.new hp) ⟨_, _, _, _, upd_same, ?_, ?_, ?_, by decide, by decide⟩
  · split <;> omega
  · exact Int.emod_nonneg _ (by decide)
  · exact Int.lt_trans (Int.emod_lt_of_pos _ (by decide)) (by decide)

abbrev N_l_take : List Str := ["box", "many", "digit", "mixed"]
theorem sc_l_take : FnScope N_l_take ["box", "many"] (defScope (top 31)) := ⟨rfl, rfl, rfl, by decide +kernel, rfl, by decide +kernel, by decide +kernel⟩
/-- a draw -/
def spTake : Sp := fun vs H Q _ => ∃ (Hb : Hp) (b : Addr) (c : Nat) (n : Int), vs = [.ref b, .int n] ∧ Wd Hb H b c ∧ c ≤ 1000000 ∧ 0 < n ∧ n ≤ 1000 ∧ ∀ r H', 0 ≤ r → r < n → Wd Hb H' b (c + 1) → Q (.int r) H'
theorem ok_l_take (T : Txt K mg)  : Cal P w K mg base 1 "_law_take" (spTake) [] := by
  obtain ⟨fd, F⟩ := T.d__law_take
  refine ⟨_, fd, ["box", "many"], [], ?_, T.g__law_take, F.kp, F.bindsN fun _ _ _ _ _ _ us hl => match us, hl with | [_, _], _ => rfl, .nil⟩
  refine F.ok sc_l_take (fun vs H Q E h => by obtain ⟨_, _, _, _, rfl, _⟩ := h; rfl) (fun cdv A outer s H vs Q E hr h => ?_)
  have hu := hu_of hr
  refine ⟨_, PSs.nox (pss_cut (ps_if (PW.pt (pw_and (pt_val (pe_ix ix_list (pv 0) pe_int (fun _ _ => rfl))) (pw_and1 (pt_cmpR op_gt (pe_ix ix_list (pv 0) pe_int (fun _ _ => rfl)) pe_int (nomark _))))) (pss_cons (ps_set (i := 2) sc_l_take.nd rfl (Or.inl rfl) (pe_op op_mod (pe_callTy call_int1 (by rfl) T.f_int (by decide +kernel) (pa_cons (pe_ix ix_list (pv 0) pe_int (fun _ _ => rfl)) pa_nil)) (pv 1)))
      (pss_cons (ps_asg (pe_op op_fdiv (pe_ix ix_list (pv 0) pe_int (fun _ _ => rfl)) (pv 1)) (pg_sub (pv 0) pe_int set_list))
      (pss_one (ps_ret (pv 2))))) pss_nil)
      (pss_cons (ps_asg (pe_op op_add (pe_ix ix_list (pv 0) pe_int (fun _ _ => rfl)) pe_int) (pg_sub (pv 0) pe_int set_list))
      (pss_cons (ps_set (i := 3) sc_l_take.nd rfl (Or.inl rfl) (pe_op op_mod (pe_callTy call_int1 (by rfl) T.f_int (by decide +kernel) (pa_cons (pe_op op_pow (pe_op op_add (pe_op op_add (pe_ix ix_list (pv 0) pe_int (fun _ _ => rfl)) (pe_op op_mul pe_int (pe_ix ix_list (pv 0) pe_int (fun _ _ => rfl)))) pe_int) pe_int) pa_nil)) pe_int))
      (pss_one (ps_ret (pe_op op_mod (pe_op op_fdiv (pe_op op_mod (pe_callTy call_int1 (by rfl) T.f_int (by decide +kernel) (pa_cons (pe_op op_pow (pe_op op_add (pe_op op_mul (pv 3) pe_int) (pe_op op_mul pe_int (pe_ix ix_list (pv 0) pe_int (fun _ _ => rfl)))) pe_int) pa_nil)) pe_int) pe_int) (pv 1))))))), ?_⟩
  obtain ⟨Hb, b, c, n, rfl, W, hc, hn, hn2, hQ⟩ := h
  obtain ⟨We, Wn, g, f, s0, k, hb, hg, hs, hs2, hk, hk2⟩ := id W
  have put : ∀ (i : Nat) (v : V) (xs : List V), (∃ (g : Int) (f : Bool) (s k : Int), xs.set i v = [.int g, .bl f, .int s, .int k] ∧ 0 ≤ g ∧ 0 ≤ s ∧ s < 2147483648 ∧ 0 ≤ k ∧ k ≤ ((c + 1 : Nat) : Int)) → Wd Hb (upd H b (.lst (xs.set i v))) b (c + 1) := by
    rintro i v xs ⟨g, f, s, k, e, h1, h2, h3, h4, h5⟩
    exact ⟨Evl.Ex.mut We Wn, Wn, g, f, s, k, by rw [e]; exact upd_same, h1, h2, h3, h4, h5⟩
  refine ⟨fun σ H' => σ = [some (.ref b), some (.int n), none, none] ∧ H' = H, ?_, ?_⟩
  · refine ⟨_, rfl, b, _, _, _, rfl, rfl, SqL.of hb, rfl, f, rfl, ?_⟩
    refine ite2 (fun cf => ?_) (fun cf => ?_)
    · refine ⟨_, rfl, b, _, _, _, rfl, rfl, SqL.of hb, rfl, _, _, rfl, rfl, _, rfl, ?_⟩
      refine ite2 (fun cg => ?_) (fun cg => ?_)
      · refine ⟨_, rfl, b, _, _, _, rfl, rfl, SqL.of hb, rfl, .inl ⟨_, rfl, _, rfl, _, _, rfl, rfl, (by show (0 : Int) < n; exact hn), ?_⟩⟩
        refine ⟨_, rfl, b, _, _, _, rfl, rfl, SqL.of hb, rfl, _, rfl, _, _, rfl, rfl, ⟨hn, by omega⟩, ?_⟩
        refine ⟨_, rfl, b, _, _, _, rfl, rfl, hb, rfl, ?_⟩
        refine ⟨_, rfl, ?_⟩
        refine hQ _ _ (Int.emod_nonneg _ (by omega)) (Int.emod_lt_of_pos _ hn) (put 0 _ _ ⟨_, _, _, _, rfl, ?_, hs, hs2, hk, by omega⟩)
        exact Int.ediv_nonneg hg (by omega)
      · exact ⟨rfl, rfl⟩
    · exact ⟨rfl, rfl⟩
  · rintro σ H' ⟨rfl, rfl⟩
    refine ⟨_, rfl, b, _, _, _, rfl, rfl, SqL.of hb, rfl, _, _, rfl, rfl, ?_⟩
    refine ⟨_, rfl, b, _, _, _, rfl, rfl, hb, rfl, ?_⟩
    have hb2 : upd H' b (.lst ([V.int g, V.bl f, V.int s0, V.int k].set 3 (.int (k + 1)))) b = some (.lst [V.int g, V.bl f, V.int s0, V.int (k + 1)]) := upd_same
    refine ⟨_, rfl, b, _, _, _, rfl, rfl, SqL.of hb2, rfl, ?_⟩
    refine ⟨_, rfl, b, _, _, _, rfl, rfl, SqL.of hb2, rfl, _, _, rfl, rfl, .inl ⟨by decide, by decide⟩, _, _, rfl, rfl, _, _, rfl, rfl, ?_⟩
    refine ⟨_, _, rfl, rfl, ⟨by decide, by decide, ?_⟩, .inl ⟨_, rfl, _, _, rfl, rfl, (by show (0 : Int) < 2147483647; decide), ?_⟩⟩
    · omega
    generalize hm : (s0 + 15485867 * (k + 1) + 179425033) ^ Int.toNat 5 % 2147483647 = mx
    have m0 : 0 ≤ mx := by rw [← hm]; exact Int.emod_nonneg _ (by decide)
    have m1 : mx < 2147483647 := by rw [← hm]; exact Int.emod_lt_of_pos _ (by decide)
    refine ⟨_, rfl, _, _, rfl, rfl, .inl ⟨by omega, by omega⟩, ?_⟩
    refine ⟨_, rfl, b, _, _, _, rfl, rfl, SqL.of hb2, rfl, _, _, rfl, rfl, .inl ⟨by decide, by decide⟩, _, _, rfl, rfl, ?_⟩
    refine ⟨_, _, rfl, rfl, ⟨by decide, by decide, ?_⟩, .inl ⟨_, rfl, _, _, rfl, rfl, (by show (0 : Int) < 2147483587; decide), _, _, rfl, rfl, ⟨by decide, by decide⟩, ?_⟩⟩
    · omega
    refine ⟨_, rfl, _, _, rfl, rfl, (by show (0 : Int) < n; exact hn), ?_⟩
    exact hQ _ _ (Int.emod_nonneg _ (by omega)) (Int.emod_lt_of_pos _ hn) (put 3 _ _ ⟨_, _, _, _, rfl, hg, hs, hs2, by omega, by omega⟩)

abbrev N_l_barred : List Str := []
theorem sc_l_barred : FnScope N_l_barred [] (defScope (top 32)) := ⟨rfl, rfl, rfl, by decide +kernel, rfl, by decide +kernel, by decide +kernel⟩
def spBarred : Sp := fun vs H Q _ => vs = [] ∧ ∀ l H', H l = none → Ex H H' → H' l = some (.lst (barred.map V.str)) → Q (.ref l) H'
theorem ok_l_barred (T : Txt K mg)  : Cal P w K mg base 1 "_law_barred" (spBarred) [] := by
  obtain ⟨fd, F⟩ := T.d__law_barred
  refine ⟨_, fd, [], [], ?_, T.g__law_barred, F.kp, F.bindsN fun _ _ _ _ _ _ us hl => match us, hl with | [], _ => rfl, .nil⟩
  refine F.ok sc_l_barred (fun vs H Q E h => by obtain ⟨rfl, _⟩ := h; rfl) (fun cdv A outer s H vs Q E hr h => ?_)
  have hu := hu_of hr
  refine ⟨_, PSs.nox (pss_one (ps_ret (pe_lst (pa_cons pe_str (pa_cons pe_str (pa_cons pe_str (pa_cons pe_str (pa_cons pe_str (pa_cons pe_str (pa_cons pe_str (pa_cons pe_str (pa_cons pe_str (pa_cons pe_str (pa_cons pe_str (pa_cons pe_str (pa_cons pe_str (pa_cons pe_str pa_nil))))))))))))))))), ?_⟩
  obtain ⟨rfl, hQ⟩ := h
  exact ⟨(by show 14 ≤ sizeLine; decide), fun l hl => hQ l _ hl (Evl.Ex.new hl) upd_same⟩

abbrev N_Space_stores : List Str := ["self"]
theorem sc_Space_stores : FnScope N_Space_stores ["self"] (defScope (inClass (top 25) 4)) := ⟨rfl, rfl, rfl, by decide +kernel, rfl, by decide +kernel, by decide +kernel⟩
def spStores (K : PySem.W.Frag) : Sp := fun vs H Q _ => ∃ (x : Addr) (ns : NS), vs = [.ref x] ∧ SpaceAt K H x ns ∧ NsOk ns ∧ ∀ p H', H p = none → Ex H H' → H' p = some (.lst (rV (List.range (prodN (szs ns))))) → Q (.ref p) H'
theorem fn_Space_stores (T : Txt K mg)  {fd : FuncData} (F : FunD K "stores" "Space.stores" (defArgs (inClass (top 25) 4)) (defBody (inClass (top 25) 4)) (defScope (inClass (top 25) 4)) [] [] (He.ma K (He.ga K "Space") "stores") fd) : FnOk P w K mg base C8.CX0 1 (He.ma K (He.ga K "Space") "stores") fd ["self"] (spStores K) := by
  refine F.ok sc_Space_stores (fun vs H Q E h => by obtain ⟨_, _, rfl, _⟩ := h; rfl) (fun cdv A outer s H vs Q E hr h => ?_)
  have hu := hu_of hr
  refine ⟨_, PSs.nox (pss_one (ps_ret (pe_listRg rfl (by rfl) T.f_list (prg_1 (by rfl) T.f_range (pe_fld (pv 0) rfl))))), ?_⟩
  obtain ⟨x, ns, rfl, ⟨dx, t, o, ps, hx, ht, ho, hT⟩, hok, hQ⟩ := h
  have f := menu_facts _ hok.sz
  refine ⟨_, rfl, x, _, dx, _, _, rfl, hx, T.cl_Space, T.n_never, rfl, _, rfl, RgOk.of_le (by omega) (by omega) (by omega) (by omega), fun p hp => ?_⟩
  refine hQ p _ hp (Evl.Ex.new hp) ?_
  rw [upd_same, rg_list]
theorem ok_Space_stores (T : Txt K mg)  : Met P w K mg base 1 (He.ga K "Space") "stores" (spStores K) [] := by
  obtain ⟨fd, F⟩ := T.d_Space_stores
  exact ⟨_, fd, ["self"], [], T.cl_Space, T.m_Space_stores, fn_Space_stores T  F, F.bindsN fun _ _ _ _ _ _ us hl => match us, hl with | [_], _ => rfl, .nil⟩

end
end K05
set_option Elab.async false
set_option linter.all false
set_option maxRecDepth 100000
set_option maxHeartbeats 1000000
/-! HxP: lists against the empty list; a def called with nothing -/
namespace L2
open PySem PySem.Spec PyProof.Rows C8
section
variable {X : Cx}
def rNilE (K : PySem.W.Frag) (neg : Bool) : R2 := fun x y H Q => ∃ a b xs, x = .ref a ∧ y = .ref b ∧ SqL K H a xs ∧ SqL K H b [] ∧ Q (.bl (xs.isEmpty != neg)) H
theorem op_eqNil {K : PySem.W.Frag} (hK : X.K = K) (hu : X.A.units + 64 < cLine) : OpR X (compareOp .Eq) (rNilE K false) := by
  subst hK
  intro pins s σ H x y v u Q I rx ry h
  obtain ⟨a, b, xs, rfl, rfl, ha, hb, q⟩ := h
  cases rx
  cases ry
  obtain ⟨its, r, pl, _⟩ := I.list ha
  obtain ⟨its2, r2, pl2, _⟩ := I.list hb
  cases r2
  cases xs with
  | nil =>
    cases r
    exact SeqAt.eq_listAt (e := fun _ => true) pl.isList pl2.isList rfl (by omega) (fun j h1 _ => absurd h1 (by simp)) ⟨.bl true, H, I, rfl, q⟩
  | cons x xs =>
    cases r with
    | cons r0 r1 => exact SeqAt.eq_list_lengthsAt pl.isList pl2.isList (by simp) (by omega) ⟨.bl false, H, I, rfl, q⟩
theorem op_neNil {K : PySem.W.Frag} (hK : X.K = K) (hu : X.A.units + 64 < cLine) : OpR X (compareOp .NotEq) (rNilE K true) := by
  subst hK
  intro pins s σ H x y v u Q I rx ry h
  obtain ⟨a, b, xs, rfl, rfl, ha, hb, q⟩ := h
  cases rx
  cases ry
  obtain ⟨its, r, pl, _⟩ := I.list ha
  obtain ⟨its2, r2, pl2, _⟩ := I.list hb
  cases r2
  cases xs with
  | nil =>
    cases r
    exact SeqAt.RcNeAt.lists (e := fun _ => true) pl.isList pl2.isList rfl (by omega) (fun j h1 _ => absurd h1 (by simp)) X.prog X.w _ _ ⟨.bl false, H, I, rfl, q⟩
  | cons x xs =>
    cases r with
    | cons r0 r1 => exact SeqAt.RcNeAt.lists_lengths pl.isList pl2.isList (by simp) (by omega) X.prog X.w _ _ ⟨.bl true, H, I, rfl, q⟩
theorem pe_c0 {k j : Nat} {x : Str} {sp : Sp} {p pos : Pos} (c : Cal X.prog X.w X.K X.mg X.base k x sp []) (hr : Room j X.A) (hk : k ≤ j) (hg : Gl X x) (hdb : (x == ("__debug__" : Str)) = false := by decide) :
    PE X (.Call (.Name x p) [] [] pos) (tCall sp [] C8.E0 tNil) := by
  obtain ⟨f, fd, ps, ds, F, hm, kp, b, d⟩ := c.ex
  exact pe_call0 F (hr.mono hk) hg hm kp b d C8.pass0 hdb
end
end L2
set_option Elab.async false
set_option linter.all false
set_option maxRecDepth 100000
set_option maxHeartbeats 400000
namespace K05
open PySem PySem.Spec PyProof.Rows L2 C8
/-- the signs that are no letters -/
def badS (z : Str) : List Nat := z.cps.toList.filter fun c => !decide (c ∈ alpha.cps.toList)
theorem badS_nil (z : Str) : (badS z).isEmpty = lowB z := by
  unfold badS lowB
  induction z.cps.toList with
  | nil => rfl
  | cons c l ih =>
    rw [List.filter_cons, List.all_cons]
    cases h : decide (c ∈ alpha.cps.toList) with
    | true => simpa using ih
    | false => simp
theorem inV_bar (z : Str) : inV (.str z) (barred.map V.str) = isBar z := by
  simp only [inV, isBar, barred, List.map_cons, List.map_nil, List.any_cons, List.any_nil, eqV, List.contains_cons, List.contains_nil]
  simp only [Bool.beq_comm]
theorem bad_take (z : Str) (i : Nat) (c : Nat) (h : z.cps[i]? = some c) : ((z.cps.toList.take (i + 1)).filter fun c => !decide (c ∈ alpha.cps.toList)) = ((z.cps.toList.take i).filter fun c => !decide (c ∈ alpha.cps.toList)) ++ (if decide (c ∈ alpha.cps.toList) = true then [] else [c]) := by
  have h2 : z.cps.toList[i]? = some c := by rw [Array.getElem?_toList]; exact h
  rw [List.take_succ, h2, List.filter_append]
  congr 1
  cases h3 : decide (c ∈ alpha.cps.toList) <;> simp [List.filter_cons, h3] <;> simpa using h3
section
variable {P : Program} {w : World} {K : PySem.W.Frag} {mg : Str → Option Value} {base : Heap}
abbrev N_l_is_word : List Str := ["thing", "sign"]
theorem sc_l_is_word : FnScope N_l_is_word ["thing"] (defScope (top 33)) := ⟨rfl, rfl, rfl, by decide +kernel, rfl, by decide +kernel, by decide +kernel⟩

theorem ok_l_is_word (T : Txt K mg) (C_l_barred : Cal P w K mg base 1 "_law_barred" spBarred []) : Cal P w K mg base 2 "_law_is_word" (spWord K) [] := by
  obtain ⟨fd, F⟩ := T.d__law_is_word
  refine ⟨_, fd, ["thing"], [], ?_, T.g__law_is_word, F.kp, F.bindsN fun _ _ _ _ _ _ us hl => match us, hl with | [_], _ => rfl, .nil⟩
  refine F.ok sc_l_is_word (fun vs H Q E h => by obtain ⟨_, _, rfl, _⟩ := h; rfl) (fun cdv A outer s H vs Q E hr h => ?_)
  have hu := hu_of hr
  refine ⟨_, PSs.nox (pss_cons (ps_if (PW.pt (pw_or (pt_not (pt_val (pe_callB call_isi (by rfl) T.f_isinstance (by decide +kernel) (pa_cons (pv 0) (pa_cons (pe_bltn (v := .ty "str") (u := .type "str") (by rfl) T.f_str (by decide +kernel) rfl) pa_nil))))) (pw_or (pt_not (pt_chain op_lt op_lt pe_int (pe_callB call_len_str (by rfl) T.f_len (by decide +kernel) (pa_cons (pv 0) pa_nil)) pe_int)) (pw_or1 (pt_cmpR op_in_seq (pv 0) (pe_c0 C_l_barred hr (by omega) rfl) rfl))))) (pss_one (ps_ret pe_bl)) pss_nil)
      (pss_one (ps_ret (pe_cmpR (op_eqNil rfl hr.units) (pe_lc (own := [("sign", 1)]) rfl sc_l_is_word.nd (pi_str (pv 0)) (blkOk_by (own := [("sign", 1)]) (N := N_l_is_word) (sc := defScope (top 33)) (by decide +kernel)) (fun _ _ _ _ _ => (pg_name (i := 1) sc_l_is_word.nd rfl (Or.inl rfl))) (fun _ _ _ _ _ => (pts_one (pt_cmpR op_notIn_sign (pv 1) pe_str rfl))) (fun _ _ _ _ _ => (pv 1))) (pe_lst pa_nil) (nomark _))))), ?_⟩
  obtain ⟨v, d, rfl, hv, hQ⟩ := h
  refine ⟨_, rfl, _, _, _, _, _, rfl, .ty _, At.tyx T.rc hv, Kd.kit T.rc _ (by decide), _, rfl, ?_⟩
  cases hv with
  | str z hz =>
    refine iteFo rfl ?_
    refine ⟨_, rfl, _, rfl, Nat.le_trans hz (by decide), _, _, rfl, rfl, _, rfl, ?_⟩
    have hQ : ∀ H', Ex H H' → Q (.bl (wordS z)) H' := hQ
    unfold wordS at hQ
    by_cases c1 : 1 ≤ z.length
    case neg =>
      rw [decide_eq_false c1] at hQ
      rw [if_neg (by simp; omega)]
      exact ⟨_, rfl, iteTo rfl (hQ _ (Evl.Ex.refl _))⟩
    rw [decide_eq_true c1] at hQ
    rw [if_pos (decide_eq_true (by omega))]
    refine ⟨_, _, rfl, rfl, _, rfl, ?_⟩
    by_cases c2 : z.length ≤ 8
    case neg =>
      rw [decide_eq_false c2] at hQ
      rw [decide_eq_false (by omega)]
      exact iteTo rfl (hQ _ (Evl.Ex.refl _))
    rw [decide_eq_true c2] at hQ
    rw [decide_eq_true (by omega)]
    refine iteFo rfl ?_
    refine ⟨_, rfl, rfl, fun lb H1 nb g1 h1 => ?_⟩
    refine ⟨lb, _, rfl, .inl (SqL.of h1), rfl, by decide +kernel, _, rfl, ?_⟩
    rw [if_neg (by decide), inV_bar]
    cases hb : isBar z with
    | true =>
      rw [hb] at hQ
      refine iteTo rfl ?_
      have hQ := hQ _ g1
      rw [Bool.not_true, Bool.and_false] at hQ
      exact hQ
    | false =>
    rw [hb] at hQ
    refine iteFo rfl ?_
    refine ⟨_, rfl, z, rfl, fun D hD => ?_⟩
    refine lc_it (walk_str (z := z)) (fun i H' => Ex H1 H' ∧ H' D = some (.lst (((z.cps.toList.take i).filter fun c => !decide (c ∈ alpha.cps.toList)).map fun c => V.str ⟨#[c]⟩))) ⟨Evl.Ex.new hD, upd_same⟩ (fun _ _ _ _ => trivial) ?_ ?_
    · rintro i x H2 H2' hi ⟨g2, h2⟩ ⟨rfl, c, hc, rfl⟩
      refine ⟨rfl, ?_⟩
      refine ⟨_, rfl, c, alpha, rfl, rfl, _, rfl, ?_⟩
      rw [bad_take z i c hc]
      cases hcc : decide (c ∈ alpha.cps.toList) with
      | true =>
        refine iteFo rfl ?_
        rw [if_pos rfl, List.append_nil]
        exact ⟨g2, h2⟩
      | false =>
        refine iteTo rfl ?_
        rw [if_neg (by decide)]
        refine ⟨_, rfl, _, h2, ?_, Evl.Ex.mut g2 hD, ?_⟩
        · rw [List.length_map]
          refine Nat.lt_of_le_of_lt (List.length_filter_le _ _) (Nat.lt_of_le_of_lt (List.length_take_le _ _) ?_)
          have : 10 < sizeLine := by decide
          have : z.length = z.cps.size := rfl
          omega
        · rw [upd_same, List.map_append]
          rfl
    · rintro H2 ⟨g2, h2⟩
      refine ⟨(by show 0 ≤ sizeLine; decide), fun m hm => ?_⟩
      refine ⟨D, m, _, rfl, rfl, SqL.of (Evl.Ex.new hm _ _ h2), SqL.of upd_same, ?_⟩
      have hQ := hQ _ ((g1.trans g2).trans (Evl.Ex.new (o := .lst []) hm))
      have e3 : z.cps.toList.take z.cps.size = z.cps.toList := List.take_of_length_le (by simp)
      rw [e3]
      have e4 : ((badS z).map fun c => V.str ⟨#[c]⟩).isEmpty = lowB z := by rw [List.isEmpty_map]; exact badS_nil z
      show Q (V.bl ((((badS z).map fun c => V.str ⟨#[c]⟩).isEmpty) != false)) _
      rw [e4]
      rw [Bool.not_false, Bool.and_true] at hQ
      cases hl : lowB z with
      | true => rw [hl] at hQ; exact hQ
      | false => rw [hl] at hQ; exact hQ
  | bl b => exact iteTo rfl (hQ _ (Evl.Ex.refl _))
  | non => exact iteTo rfl (hQ _ (Evl.Ex.refl _))
  | int i => exact iteTo rfl (hQ _ (Evl.Ex.refl _))
  | rat _ => exact iteTo rfl (hQ _ (Evl.Ex.refl _))
  | lst _ _ => exact iteTo rfl (hQ _ (Evl.Ex.refl _))
  | tup _ _ => exact iteTo rfl (hQ _ (Evl.Ex.refl _))
  | dic _ _ => exact iteTo rfl (hQ _ (Evl.Ex.refl _))

abbrev N_l_is_pair : List Str := ["thing"]
theorem sc_l_is_pair : FnScope N_l_is_pair ["thing"] (defScope (top 34)) := ⟨rfl, rfl, rfl, by decide +kernel, rfl, by decide +kernel, by decide +kernel⟩

theorem ok_l_is_pair (T : Txt K mg) (C_l_is_word : Cal P w K mg base 2 "_law_is_word" (spWord K) []) : Cal P w K mg base 3 "_law_is_pair" (spSized K) [] := by
  obtain ⟨fd, F⟩ := T.d__law_is_pair
  refine ⟨_, fd, ["thing"], [], ?_, T.g__law_is_pair, F.kp, F.bindsN fun _ _ _ _ _ _ us hl => match us, hl with | [_], _ => rfl, .nil⟩
  refine F.ok sc_l_is_pair (fun vs H Q E h => by obtain ⟨_, _, rfl, _⟩ := h; rfl) (fun cdv A outer s H vs Q E hr h => ?_)
  have hu := hu_of hr
  refine ⟨_, PSs.nox (pss_cons (ps_if (PW.pt (pw_or (pt_not (pt_val (pe_callB call_isi (by rfl) T.f_isinstance (by decide +kernel) (pa_cons (pv 0) (pa_cons (pe_bltn (v := .ty "tuple") (u := .type "tuple") (by rfl) T.f_tuple (by decide +kernel) rfl) pa_nil))))) (pw_or (pt_cmpR op_ne (pe_callB call_len_seq (by rfl) T.f_len (by decide +kernel) (pa_cons (pv 0) pa_nil)) pe_int (nomark _)) (pw_or1 (pt_not (pt_val (pe_c C_l_is_word hr (by omega) rfl (pa_cons (pe_ix ix_tup (pv 0) pe_int (fun _ _ => rfl)) pa_nil)))))))) (pss_one (ps_ret pe_bl)) pss_nil)
      (pss_one (ps_ret (pe_and (pe_callB call_isi (by rfl) T.f_isinstance (by decide +kernel) (pa_cons (pe_ix ix_tup (pv 0) pe_int (fun _ _ => rfl)) (pa_cons (pe_bltn (v := .ty "int") (u := .type "int") (by rfl) T.f_int (by decide +kernel) rfl) pa_nil))) (pe_and (pe_not (pe_callB call_isi (by rfl) T.f_isinstance (by decide +kernel) (pa_cons (pe_ix ix_tup (pv 0) pe_int (fun _ _ => rfl)) (pa_cons (pe_bltn (v := .ty "bool") (u := .type "bool") (by rfl) T.f_bool (by decide +kernel) rfl) pa_nil)))) (pe_one (pe_chain op_lt op_lt pe_int (pe_ix ix_tup (pv 0) pe_int (fun _ _ => rfl)) pe_int))))))), ?_⟩
  obtain ⟨v, d, rfl, hv, hQ⟩ := h
  refine ⟨_, rfl, _, _, _, _, _, rfl, .ty _, At.tyx T.rc hv, Kd.kit T.rc _ (by decide), _, rfl, ?_⟩
  cases hv with
  | @tup a xs ds hh hs =>
    refine iteFo rfl ?_
    refine ⟨_, rfl, a, xs, rfl, .inr (.inl hh), rfl, _, rfl, ?_⟩
    by_cases hl : ds.length = 2
    · obtain ⟨v1, v2, d1, d2, rfl, rfl, h1, h2⟩ := hs.two hl
      refine iteFo rfl ?_
      refine ⟨_, rfl, a, _, 0, v1, rfl, rfl, .inl hh, rfl, v1, d1, rfl, h1, fun H1 g1 => ⟨_, rfl, ?_⟩⟩
      have hQ : ∀ H', Ex H H' → Q (.bl (wordB d1 && fromB 2 6 d2)) H' := hQ
      cases c : wordB d1 with
      | false =>
        rw [c] at hQ
        exact iteTo rfl (hQ _ g1)
      | true =>
        rw [c] at hQ
        refine iteFo rfl ?_
        have hv2 := h2.up g1
        have at1 : atI [v1, v2] 1 = some v2 := rfl
        refine ⟨_, rfl, a, _, 1, v2, rfl, rfl, .inl (hh.mono g1), rfl, _, _, _, _, _, rfl, .ty _, At.tyx T.rc hv2, Kd.kit T.rc _ (by decide), _, rfl, ?_⟩
        cases h2 with
        | int i =>
          refine iteTo rfl ?_
          refine ⟨_, rfl, a, _, 1, _, rfl, rfl, .inl (hh.mono g1), rfl, _, _, _, _, _, rfl, .ty _, At.tyx T.rc hv2, Kd.kit T.rc _ (by decide), _, rfl, _, rfl, iteTo rfl ?_⟩
          refine ⟨_, rfl, a, _, 1, _, rfl, rfl, .inl (hh.mono g1), rfl, _, _, rfl, rfl, _, rfl, ?_⟩
          have hQ : ∀ H', Ex H H' → Q (.bl (true && (decide ((2 : Int) ≤ i) && decide (i ≤ 6)))) H' := hQ
          rw [Bool.true_and] at hQ
          by_cases c1 : 2 ≤ i
          · rw [decide_eq_true c1, Bool.true_and] at hQ
            refine iteTo (decide_eq_true (by omega)) ⟨_, _, rfl, rfl, ?_⟩
            have e1 : decide (i < 7) = decide (i ≤ 6) := decide_eq_decide.mpr (by omega)
            show Q (V.bl (decide (i < 7))) H1
            rw [e1]
            exact hQ _ g1
          · rw [decide_eq_false c1, Bool.false_and] at hQ
            exact iteFo (decide_eq_false (by omega)) (hQ _ g1)
        | bl b =>
          refine iteTo rfl ?_
          exact ⟨_, rfl, a, _, 1, _, rfl, rfl, .inl (hh.mono g1), rfl, _, _, _, _, _, rfl, .ty _, At.tyx T.rc hv2, Kd.kit T.rc _ (by decide), _, rfl, _, rfl, iteFo rfl (hQ _ g1)⟩
        | non => exact iteFo rfl (hQ _ g1)
        | str _ _ => exact iteFo rfl (hQ _ g1)
        | rat _ => exact iteFo rfl (hQ _ g1)
        | lst _ _ => exact iteFo rfl (hQ _ g1)
        | tup _ _ => exact iteFo rfl (hQ _ g1)
        | dic _ _ => exact iteFo rfl (hQ _ g1)
    · refine iteTo ?_ ?_
      · have := hs.len
        simp
        omega
      · rw [pairB_len hl] at hQ
        exact hQ _ (Evl.Ex.refl _)
  | bl b => exact iteTo rfl (hQ _ (Evl.Ex.refl _))
  | non => exact iteTo rfl (hQ _ (Evl.Ex.refl _))
  | int i => exact iteTo rfl (hQ _ (Evl.Ex.refl _))
  | rat _ => exact iteTo rfl (hQ _ (Evl.Ex.refl _))
  | lst _ _ => exact iteTo rfl (hQ _ (Evl.Ex.refl _))
  | str _ _ => exact iteTo rfl (hQ _ (Evl.Ex.refl _))
  | dic _ _ => exact iteTo rfl (hQ _ (Evl.Ex.refl _))

end
end K05
namespace K05
open PySem PySem.Spec PyProof.Rows L2 C8
section
variable {P : Program} {w : World} {K : PySem.W.Frag} {mg : Str → Option Value} {base : Heap}
abbrev N_l_are_names : List Str := ["thing", "many", "name", "size", "one", "pair"]
theorem sc_l_are_names : FnScope N_l_are_names ["thing"] (defScope (top 35)) := ⟨rfl, rfl, rfl, by decide +kernel, rfl, by decide +kernel, by decide +kernel⟩

theorem ok_l_are_names (T : Txt K mg) (C_l_is_pair : Cal P w K mg base 3 "_law_is_pair" (spSized K) []) : Cal P w K mg base 4 "_law_are_names" (spNames K) [] := by
  obtain ⟨fd, F⟩ := T.d__law_are_names
  refine ⟨_, fd, ["thing"], [], ?_, T.g__law_are_names, F.kp, F.bindsN fun _ _ _ _ _ _ us hl => match us, hl with | [_], _ => rfl, .nil⟩
  refine F.ok sc_l_are_names (fun vs H Q E h => by obtain ⟨_, _, rfl, _⟩ := h; rfl) (fun cdv A outer s H vs Q E hr h => ?_)
  have hu := hu_of hr
  obtain ⟨v, d, rfl, hv, hQ⟩ := h
  cases id hv with
  | @lst a xs ds hh hs =>
    have hlen := hs.len
    refine ⟨_, PSs.nox (pss_cons (ps_if (PW.pt (pw_or (pt_not (pt_val (pe_callB call_isiT (by rfl) T.f_isinstance (by decide +kernel) (pa_cons (pv 0) (pa_cons (pe_tup (pa_cons (pe_bltn (v := .ty "list") (u := .type "list") (by rfl) T.f_list (by decide +kernel) rfl) (pa_cons (pe_bltn (v := .ty "tuple") (u := .type "tuple") (by rfl) T.f_tuple (by decide +kernel) rfl) pa_nil))) pa_nil))))) (pw_or1 (pt_not (pt_chain op_lt op_lt pe_int (pe_callB call_len_seq (by rfl) T.f_len (by decide +kernel) (pa_cons (pv 0) pa_nil)) pe_int))))) (pss_one (ps_ret pe_bl)) pss_nil)
      (pss_cons (ps_if (pt_cmpR (op_neNil rfl hr.units) (pe_lc (own := [("one", 4)]) rfl sc_l_are_names.nd (pi_list (pv 0)) (blkOk_by (own := [("one", 4)]) (N := N_l_are_names) (sc := defScope (top 35)) (by decide +kernel)) (fun _ _ _ _ _ => (pg_name (i := 4) sc_l_are_names.nd rfl (Or.inl rfl))) (fun _ _ _ _ _ => (pts_one (pt_not (pt_val (pe_c C_l_is_pair hr (by decide) rfl (pa_cons (pv 4) pa_nil)))))) (fun _ _ _ _ _ => (pv 4))) (pe_lst pa_nil) (nomark _)) (pss_one (ps_ret pe_bl)) pss_nil)
      (pss_cons (ps_set (i := 1) sc_l_are_names.nd rfl (Or.inl rfl) pe_int)
      (pss_cons (ps_for PassesOwn.never rfl (pi_list (pv 0)) (pg_tup (by rfl) (pgs_cons (pg_name (i := 2) sc_l_are_names.nd rfl (Or.inl rfl)) (pgs_cons (pg_name (i := 3) sc_l_are_names.nd rfl (Or.inl rfl)) pgs_nil))) (pss_one (ps_set (i := 1) sc_l_are_names.nd rfl (Or.inl rfl) (pe_op op_mul (pv 1) (pv 3)))))
      (pss_one (ps_ret (pe_and (pe_cmpR op_lt (pv 1) pe_int (nomark _)) (pe_one (pe_cmpR op_eq (pe_lenSetD rfl (by rfl) T.f_len (by rfl) T.f_set (pe_lc (own := [("pair", 5)]) rfl sc_l_are_names.nd (pi_list (pv 0)) (blkOk_by (own := [("pair", 5)]) (N := N_l_are_names) (sc := defScope (top 35)) (by decide +kernel)) (fun _ _ _ _ _ => (pg_name (i := 5) sc_l_are_names.nd rfl (Or.inl rfl))) (fun _ _ _ _ _ => pts_nil) (fun _ _ _ _ _ => (pe_ix (ixT (K := K) rfl) (pv 5) pe_int (fun _ _ => rfl))))) (pe_callB call_len_seq (by rfl) T.f_len (by decide +kernel) (pa_cons (pv 0) pa_nil)) (nomark _)))))))))), ?_⟩
    refine ⟨_, rfl, (by show 2 ≤ sizeLine; decide), fun tp htp => ⟨_, tp, _, _, _, _, rfl, upd_same, .cons (ClsV.ty _) (.cons (ClsV.ty _) .nil), At.tyx T.rc (hv.up (Evl.Ex.new htp)), Kd.kit2 T.rc _ (by decide) (by decide), _, rfl, ?_⟩⟩
    have e1 := Evl.Ex.new (o := .tup [.ty "list", .ty "tuple"]) htp
    generalize upd H tp (.tup [.ty "list", .ty "tuple"]) = H1 at e1
    refine iteFo rfl ?_
    refine ⟨_, rfl, a, xs, rfl, (.inl ((SqL.of (e1 _ _ hh) : SqL K _ a xs))), _, _, rfl, rfl, _, rfl, ?_⟩
    have hQ : ∀ H', Ex H H' → Q (.bl (namesL ds)) H' := hQ
    unfold namesL at hQ
    by_cases c1 : 1 ≤ ds.length
    case neg =>
      rw [decide_eq_false c1] at hQ
      rw [if_neg (fun z => by have := of_decide_eq_true z; omega)]
      exact ⟨_, rfl, iteTo rfl (hQ _ e1)⟩
    rw [if_pos (decide_eq_true (by omega))]
    rw [decide_eq_true c1] at hQ
    refine ⟨_, _, rfl, rfl, _, rfl, ?_⟩
    by_cases c2 : ds.length ≤ 3
    case neg =>
      rw [decide_eq_false c2] at hQ
      rw [decide_eq_false (by omega)]
      exact iteTo rfl (hQ _ e1)
    rw [decide_eq_true (by omega)]
    rw [decide_eq_true c2] at hQ
    refine iteFo rfl ?_
    -- all pairs
    refine ⟨_, rfl, a, rfl, ⟨_, (SqL.of (e1 _ _ hh) : SqL K _ a xs)⟩, fun D hD => ?_⟩
    refine lc_it (walk_list (xs := xs)) (fun i H' => Ex H1 H' ∧ ∃ ys, H' D = some (.lst ys) ∧ ys.length ≤ i ∧ ys.isEmpty = (ds.take i).all pairB) ⟨Evl.Ex.new hD, [], upd_same, Nat.le_refl _, rfl⟩ (fun i H' _ p => (SqL.of ((e1.trans p.1) _ _ hh) : SqL K _ a xs)) ?_ ?_
    · rintro i x H2 H2' hi ⟨g2, ys, h2, hy, hem⟩ ⟨rfl, hx⟩
      obtain ⟨d2, hd2, hax⟩ := hs.get hx
      refine ⟨rfl, ?_⟩
      refine ⟨_, rfl, x, d2, rfl, hax.up (e1.trans g2), fun H3 g3 => ?_⟩
      have tk : (ds.take (i + 1)).all pairB = ((ds.take i).all pairB && pairB d2) := by
        rw [List.take_succ, hd2, List.all_append]
        simp
      have hy3 : ys.length ≤ 3 := by omega
      cases c : pairB d2 with
      | true =>
        refine ⟨_, rfl, iteFo rfl ?_⟩
        exact ⟨g2.trans g3, ys, g3 _ _ h2, by omega, by rw [tk, c, hem, Bool.and_true]⟩
      | false =>
        refine ⟨_, rfl, iteTo rfl ?_⟩
        refine ⟨_, rfl, ys, g3 _ _ h2, Nat.lt_of_le_of_lt hy3 (by decide), Evl.Ex.mut (g2.trans g3) hD, _, upd_same, by simp; omega, ?_⟩
        rw [tk, c, Bool.and_false]
        simp
    rintro H2 ⟨g2, ys, h2, _, hem⟩
    refine ⟨(by show 0 ≤ sizeLine; decide), fun m hm => ?_⟩
    have gm := Evl.Ex.new (o := .lst []) hm
    refine ⟨D, m, ys, rfl, rfl, SqL.of (gm _ _ h2), SqL.of upd_same, _, rfl, ?_⟩
    rw [List.take_of_length_le (by omega)] at hem
    rw [hem]
    have e12 := e1.trans (g2.trans gm)
    generalize upd H2 m (.lst []) = H3 at e12
    cases ca : ds.all pairB with
    | false =>
      rw [ca] at hQ
      exact iteTo rfl (hQ _ e12)
    | true =>
    rw [ca] at hQ
    refine iteFo rfl ?_
    obtain ⟨ns, rfl, hok⟩ := pairs_get ca
    rw [map_un] at hQ
    rw [List.length_map] at hlen c1 c2
    have few : FewS (szs ns) := ⟨by simp [szs]; omega, fun s hs => by
      obtain ⟨n, hn, rfl⟩ := List.mem_map.mp hs
      exact (hok n hn).2.2⟩
    have lsz : (szs ns).length = ns.length := by simp [szs]
    -- the product
    refine ⟨_, rfl, a, rfl, ⟨_, (SqL.of (e12 _ _ hh) : SqL K _ a xs)⟩, ?_⟩
    refine for_it (walk_list (xs := xs)) (fun i σ H' => H' = H3 ∧ ∃ x1 x2, σ = [some (.ref a), some (.int ((prodN ((szs ns).take i) : Nat) : Int)), x1, x2, none, none]) ⟨rfl, _, _, rfl⟩ (fun i σ H' _ p => by rw [p.1]; exact (SqL.of (e12 _ _ hh) : SqL K _ a xs)) ?_ ?_
    · rintro i x σ H4 H4' hi ⟨rfl, x1, x2, rfl⟩ ⟨rfl, hx⟩
      obtain ⟨d2, hd2, hax⟩ := hs.get hx
      rw [List.getElem?_map] at hd2
      obtain ⟨n, hn, rfl⟩ := Option.map_eq_some_iff.mp hd2
      obtain ⟨p, rfl, hp⟩ := at_pair hax
      have f1 := few.take i
      have f2 := few.2 n.2 (List.mem_of_getElem? (sz_at hn))
      refine ⟨p, nV n, rfl, .inl (hp.mono e12), rfl, _, _, rfl, _, _, rfl, rfl, ?_⟩
      refine ⟨_, rfl, _, rfl, _, _, rfl, rfl, .inl ⟨by omega, by omega⟩, rfl, some (.str n.1), some (.int (n.2 : Int)), ?_⟩
      rw [prodN_take _ _ _ (sz_at hn), Int.natCast_mul]
      rfl
    rintro σ H4 ⟨rfl, x1, x2, rfl⟩
    rw [List.take_of_length_le (by rw [lsz]; omega)]
    have hQ : ∀ H', Ex H H' → Q (.bl (decide (wds ns).Nodup && decide (prodN (szs ns) ≤ 8))) H' := hQ
    refine ⟨_, rfl, _, _, rfl, rfl, _, rfl, ?_⟩
    by_cases c8 : prodN (szs ns) ≤ 8
    case neg =>
      rw [decide_eq_false c8, Bool.and_false] at hQ
      rw [decide_eq_false (by omega)]
      exact iteFo rfl (hQ _ e12)
    rw [decide_eq_true c8, Bool.and_true] at hQ
    rw [decide_eq_true (by omega)]
    refine iteTo rfl ?_
    refine ⟨_, rfl, a, rfl, ⟨_, (SqL.of (e12 _ _ hh) : SqL K _ a xs)⟩, fun D2 hD2 => ?_⟩
    refine lc_fn (walk_list (xs := xs)) (fun i => V.str ((ns.getD i (alpha, 0)).1)) (by omega) hD2 (fun H' e => (SqL.of ((e12.trans e) _ _ hh) : SqL K _ a xs)) ?_ ?_
    · rintro i x H5' H5 Z B hi e hl ⟨rfl, hx⟩ hZ
      obtain ⟨dx, hdx, hax⟩ := hs.get hx
      rw [List.getElem?_map] at hdx
      obtain ⟨n, hn, rfl⟩ := Option.map_eq_some_iff.mp hdx
      obtain ⟨p, rfl, hp⟩ := at_pair hax
      refine ⟨rfl, ?_⟩
      rw [getD_of hn] at hZ
      exact ⟨_, rfl, p, _, 0, _, rfl, rfl, .inl (hp.mono (e12.trans e)), rfl, hZ _ (Evl.Ex.refl _)⟩
    intro H5 e5 hd5
    rw [hlen, words_list] at hd5
    have lw : (wds ns).length = ns.length := by simp [wds]
    have e15 := e12.trans e5
    refine ⟨D2, wds ns, rfl, SqL.of hd5, by omega, ?_⟩
    refine ⟨_, rfl, a, xs, rfl, (.inl ((SqL.of (e15 _ _ hh) : SqL K _ a xs))), ?_⟩
    have e6 : decide (V.int ((SY.dc (wds ns) (wds ns).length : Nat) : Int) = V.int ((xs.length : Nat) : Int)) = decide (wds ns).Nodup := decide_eq_decide.mpr ⟨fun z => (SY.dc_nodup _).mp (by have := V.int.inj z; omega), fun z => by rw [(SY.dc_nodup _).mpr z, lw, hlen]⟩
    rw [← e6] at hQ
    exact ⟨rfl, hQ _ e15⟩
  | @tup a xs ds hh hs =>
    have hlen := hs.len
    refine ⟨_, PSs.nox (pss_cons (ps_if (PW.pt (pw_or (pt_not (pt_val (pe_callB call_isiT (by rfl) T.f_isinstance (by decide +kernel) (pa_cons (pv 0) (pa_cons (pe_tup (pa_cons (pe_bltn (v := .ty "list") (u := .type "list") (by rfl) T.f_list (by decide +kernel) rfl) (pa_cons (pe_bltn (v := .ty "tuple") (u := .type "tuple") (by rfl) T.f_tuple (by decide +kernel) rfl) pa_nil))) pa_nil))))) (pw_or1 (pt_not (pt_chain op_lt op_lt pe_int (pe_callB call_len_seq (by rfl) T.f_len (by decide +kernel) (pa_cons (pv 0) pa_nil)) pe_int))))) (pss_one (ps_ret pe_bl)) pss_nil)
      (pss_cons (ps_if (pt_cmpR (op_neNil rfl hr.units) (pe_lc (own := [("one", 4)]) rfl sc_l_are_names.nd (pi_tup (pv 0)) (blkOk_by (own := [("one", 4)]) (N := N_l_are_names) (sc := defScope (top 35)) (by decide +kernel)) (fun _ _ _ _ _ => (pg_name (i := 4) sc_l_are_names.nd rfl (Or.inl rfl))) (fun _ _ _ _ _ => (pts_one (pt_not (pt_val (pe_c C_l_is_pair hr (by decide) rfl (pa_cons (pv 4) pa_nil)))))) (fun _ _ _ _ _ => (pv 4))) (pe_lst pa_nil) (nomark _)) (pss_one (ps_ret pe_bl)) pss_nil)
      (pss_cons (ps_set (i := 1) sc_l_are_names.nd rfl (Or.inl rfl) pe_int)
      (pss_cons (ps_for PassesOwn.never rfl (pi_tup (pv 0)) (pg_tup (by rfl) (pgs_cons (pg_name (i := 2) sc_l_are_names.nd rfl (Or.inl rfl)) (pgs_cons (pg_name (i := 3) sc_l_are_names.nd rfl (Or.inl rfl)) pgs_nil))) (pss_one (ps_set (i := 1) sc_l_are_names.nd rfl (Or.inl rfl) (pe_op op_mul (pv 1) (pv 3)))))
      (pss_one (ps_ret (pe_and (pe_cmpR op_lt (pv 1) pe_int (nomark _)) (pe_one (pe_cmpR op_eq (pe_lenSetD rfl (by rfl) T.f_len (by rfl) T.f_set (pe_lc (own := [("pair", 5)]) rfl sc_l_are_names.nd (pi_tup (pv 0)) (blkOk_by (own := [("pair", 5)]) (N := N_l_are_names) (sc := defScope (top 35)) (by decide +kernel)) (fun _ _ _ _ _ => (pg_name (i := 5) sc_l_are_names.nd rfl (Or.inl rfl))) (fun _ _ _ _ _ => pts_nil) (fun _ _ _ _ _ => (pe_ix (ixT (K := K) rfl) (pv 5) pe_int (fun _ _ => rfl))))) (pe_callB call_len_seq (by rfl) T.f_len (by decide +kernel) (pa_cons (pv 0) pa_nil)) (nomark _)))))))))), ?_⟩
    refine ⟨_, rfl, (by show 2 ≤ sizeLine; decide), fun tp htp => ⟨_, tp, _, _, _, _, rfl, upd_same, .cons (ClsV.ty _) (.cons (ClsV.ty _) .nil), At.tyx T.rc (hv.up (Evl.Ex.new htp)), Kd.kit2 T.rc _ (by decide) (by decide), _, rfl, ?_⟩⟩
    have e1 := Evl.Ex.new (o := .tup [.ty "list", .ty "tuple"]) htp
    generalize upd H tp (.tup [.ty "list", .ty "tuple"]) = H1 at e1
    refine iteFo rfl ?_
    refine ⟨_, rfl, a, xs, rfl, (.inr ((.inl (Rd.mono e1 hh) : SqT K _ a xs))), _, _, rfl, rfl, _, rfl, ?_⟩
    have hQ : ∀ H', Ex H H' → Q (.bl (namesL ds)) H' := hQ
    unfold namesL at hQ
    by_cases c1 : 1 ≤ ds.length
    case neg =>
      rw [decide_eq_false c1] at hQ
      rw [if_neg (fun z => by have := of_decide_eq_true z; omega)]
      exact ⟨_, rfl, iteTo rfl (hQ _ e1)⟩
    rw [if_pos (decide_eq_true (by omega))]
    rw [decide_eq_true c1] at hQ
    refine ⟨_, _, rfl, rfl, _, rfl, ?_⟩
    by_cases c2 : ds.length ≤ 3
    case neg =>
      rw [decide_eq_false c2] at hQ
      rw [decide_eq_false (by omega)]
      exact iteTo rfl (hQ _ e1)
    rw [decide_eq_true (by omega)]
    rw [decide_eq_true c2] at hQ
    refine iteFo rfl ?_
    -- all pairs
    refine ⟨_, rfl, a, rfl, ⟨_, (.inl (Rd.mono e1 hh) : SqT K _ a xs)⟩, fun D hD => ?_⟩
    refine lc_it (walk_tup (xs := xs)) (fun i H' => Ex H1 H' ∧ ∃ ys, H' D = some (.lst ys) ∧ ys.length ≤ i ∧ ys.isEmpty = (ds.take i).all pairB) ⟨Evl.Ex.new hD, [], upd_same, Nat.le_refl _, rfl⟩ (fun i H' _ p => (.inl (Rd.mono (e1.trans p.1) hh) : SqT K _ a xs)) ?_ ?_
    · rintro i x H2 H2' hi ⟨g2, ys, h2, hy, hem⟩ ⟨rfl, hx⟩
      obtain ⟨d2, hd2, hax⟩ := hs.get hx
      refine ⟨rfl, ?_⟩
      refine ⟨_, rfl, x, d2, rfl, hax.up (e1.trans g2), fun H3 g3 => ?_⟩
      have tk : (ds.take (i + 1)).all pairB = ((ds.take i).all pairB && pairB d2) := by
        rw [List.take_succ, hd2, List.all_append]
        simp
      have hy3 : ys.length ≤ 3 := by omega
      cases c : pairB d2 with
      | true =>
        refine ⟨_, rfl, iteFo rfl ?_⟩
        exact ⟨g2.trans g3, ys, g3 _ _ h2, by omega, by rw [tk, c, hem, Bool.and_true]⟩
      | false =>
        refine ⟨_, rfl, iteTo rfl ?_⟩
        refine ⟨_, rfl, ys, g3 _ _ h2, Nat.lt_of_le_of_lt hy3 (by decide), Evl.Ex.mut (g2.trans g3) hD, _, upd_same, by simp; omega, ?_⟩
        rw [tk, c, Bool.and_false]
        simp
    rintro H2 ⟨g2, ys, h2, _, hem⟩
    refine ⟨(by show 0 ≤ sizeLine; decide), fun m hm => ?_⟩
    have gm := Evl.Ex.new (o := .lst []) hm
    refine ⟨D, m, ys, rfl, rfl, SqL.of (gm _ _ h2), SqL.of upd_same, _, rfl, ?_⟩
    rw [List.take_of_length_le (by omega)] at hem
    rw [hem]
    have e12 := e1.trans (g2.trans gm)
    generalize upd H2 m (.lst []) = H3 at e12
    cases ca : ds.all pairB with
    | false =>
      rw [ca] at hQ
      exact iteTo rfl (hQ _ e12)
    | true =>
    rw [ca] at hQ
    refine iteFo rfl ?_
    obtain ⟨ns, rfl, hok⟩ := pairs_get ca
    rw [map_un] at hQ
    rw [List.length_map] at hlen c1 c2
    have few : FewS (szs ns) := ⟨by simp [szs]; omega, fun s hs => by
      obtain ⟨n, hn, rfl⟩ := List.mem_map.mp hs
      exact (hok n hn).2.2⟩
    have lsz : (szs ns).length = ns.length := by simp [szs]
    -- the product
    refine ⟨_, rfl, a, rfl, ⟨_, (.inl (Rd.mono e12 hh) : SqT K _ a xs)⟩, ?_⟩
    refine for_it (walk_tup (xs := xs)) (fun i σ H' => H' = H3 ∧ ∃ x1 x2, σ = [some (.ref a), some (.int ((prodN ((szs ns).take i) : Nat) : Int)), x1, x2, none, none]) ⟨rfl, _, _, rfl⟩ (fun i σ H' _ p => by rw [p.1]; exact (.inl (Rd.mono e12 hh) : SqT K _ a xs)) ?_ ?_
    · rintro i x σ H4 H4' hi ⟨rfl, x1, x2, rfl⟩ ⟨rfl, hx⟩
      obtain ⟨d2, hd2, hax⟩ := hs.get hx
      rw [List.getElem?_map] at hd2
      obtain ⟨n, hn, rfl⟩ := Option.map_eq_some_iff.mp hd2
      obtain ⟨p, rfl, hp⟩ := at_pair hax
      have f1 := few.take i
      have f2 := few.2 n.2 (List.mem_of_getElem? (sz_at hn))
      refine ⟨p, nV n, rfl, .inl (hp.mono e12), rfl, _, _, rfl, _, _, rfl, rfl, ?_⟩
      refine ⟨_, rfl, _, rfl, _, _, rfl, rfl, .inl ⟨by omega, by omega⟩, rfl, some (.str n.1), some (.int (n.2 : Int)), ?_⟩
      rw [prodN_take _ _ _ (sz_at hn), Int.natCast_mul]
      rfl
    rintro σ H4 ⟨rfl, x1, x2, rfl⟩
    rw [List.take_of_length_le (by rw [lsz]; omega)]
    have hQ : ∀ H', Ex H H' → Q (.bl (decide (wds ns).Nodup && decide (prodN (szs ns) ≤ 8))) H' := hQ
    refine ⟨_, rfl, _, _, rfl, rfl, _, rfl, ?_⟩
    by_cases c8 : prodN (szs ns) ≤ 8
    case neg =>
      rw [decide_eq_false c8, Bool.and_false] at hQ
      rw [decide_eq_false (by omega)]
      exact iteFo rfl (hQ _ e12)
    rw [decide_eq_true c8, Bool.and_true] at hQ
    rw [decide_eq_true (by omega)]
    refine iteTo rfl ?_
    refine ⟨_, rfl, a, rfl, ⟨_, (.inl (Rd.mono e12 hh) : SqT K _ a xs)⟩, fun D2 hD2 => ?_⟩
    refine lc_fn (walk_tup (xs := xs)) (fun i => V.str ((ns.getD i (alpha, 0)).1)) (by omega) hD2 (fun H' e => (.inl (Rd.mono (e12.trans e) hh) : SqT K _ a xs)) ?_ ?_
    · rintro i x H5' H5 Z B hi e hl ⟨rfl, hx⟩ hZ
      obtain ⟨dx, hdx, hax⟩ := hs.get hx
      rw [List.getElem?_map] at hdx
      obtain ⟨n, hn, rfl⟩ := Option.map_eq_some_iff.mp hdx
      obtain ⟨p, rfl, hp⟩ := at_pair hax
      refine ⟨rfl, ?_⟩
      rw [getD_of hn] at hZ
      exact ⟨_, rfl, p, _, 0, _, rfl, rfl, .inl (hp.mono (e12.trans e)), rfl, hZ _ (Evl.Ex.refl _)⟩
    intro H5 e5 hd5
    rw [hlen, words_list] at hd5
    have lw : (wds ns).length = ns.length := by simp [wds]
    have e15 := e12.trans e5
    refine ⟨D2, wds ns, rfl, SqL.of hd5, by omega, ?_⟩
    refine ⟨_, rfl, a, xs, rfl, (.inr ((.inl (Rd.mono e15 hh) : SqT K _ a xs))), ?_⟩
    have e6 : decide (V.int ((SY.dc (wds ns) (wds ns).length : Nat) : Int) = V.int ((xs.length : Nat) : Int)) = decide (wds ns).Nodup := decide_eq_decide.mpr ⟨fun z => (SY.dc_nodup _).mp (by have := V.int.inj z; omega), fun z => by rw [(SY.dc_nodup _).mpr z, lw, hlen]⟩
    rw [← e6] at hQ
    exact ⟨rfl, hQ _ e15⟩
  | bl b =>
    refine ⟨_, PSs.nox (pss_cons (ps_if (PW.pt (pw_or (pt_not (pt_val (pe_callB call_isiT (by rfl) T.f_isinstance (by decide +kernel) (pa_cons (pv 0) (pa_cons (pe_tup (pa_cons (pe_bltn (v := .ty "list") (u := .type "list") (by rfl) T.f_list (by decide +kernel) rfl) (pa_cons (pe_bltn (v := .ty "tuple") (u := .type "tuple") (by rfl) T.f_tuple (by decide +kernel) rfl) pa_nil))) pa_nil))))) (pw_or1 (pt_not (pt_chain op_lt op_lt pe_int (pe_callB call_len_seq (by rfl) T.f_len (by decide +kernel) (pa_cons (pv 0) pa_nil)) pe_int))))) (pss_one (ps_ret pe_bl)) pss_nil)
      (pss_cons (ps_if (pt_cmpR (op_neNil rfl hr.units) (pe_lc (own := [("one", 4)]) rfl sc_l_are_names.nd (pi_list (pv 0)) (blkOk_by (own := [("one", 4)]) (N := N_l_are_names) (sc := defScope (top 35)) (by decide +kernel)) (fun _ _ _ _ _ => (pg_name (i := 4) sc_l_are_names.nd rfl (Or.inl rfl))) (fun _ _ _ _ _ => (pts_one (pt_not (pt_val (pe_c C_l_is_pair hr (by decide) rfl (pa_cons (pv 4) pa_nil)))))) (fun _ _ _ _ _ => (pv 4))) (pe_lst pa_nil) (nomark _)) (pss_one (ps_ret pe_bl)) pss_nil)
      (pss_cons (ps_set (i := 1) sc_l_are_names.nd rfl (Or.inl rfl) pe_int)
      (pss_cons (ps_for PassesOwn.never rfl (pi_list (pv 0)) (pg_tup (by rfl) (pgs_cons (pg_name (i := 2) sc_l_are_names.nd rfl (Or.inl rfl)) (pgs_cons (pg_name (i := 3) sc_l_are_names.nd rfl (Or.inl rfl)) pgs_nil))) (pss_one (ps_set (i := 1) sc_l_are_names.nd rfl (Or.inl rfl) (pe_op op_mul (pv 1) (pv 3)))))
      (pss_one (ps_ret (pe_and (pe_cmpR op_lt (pv 1) pe_int (nomark _)) (pe_one (pe_cmpR op_eq (pe_lenSetD rfl (by rfl) T.f_len (by rfl) T.f_set (pe_lc (own := [("pair", 5)]) rfl sc_l_are_names.nd (pi_list (pv 0)) (blkOk_by (own := [("pair", 5)]) (N := N_l_are_names) (sc := defScope (top 35)) (by decide +kernel)) (fun _ _ _ _ _ => (pg_name (i := 5) sc_l_are_names.nd rfl (Or.inl rfl))) (fun _ _ _ _ _ => pts_nil) (fun _ _ _ _ _ => (pe_ix (ixT (K := K) rfl) (pv 5) pe_int (fun _ _ => rfl))))) (pe_callB call_len_seq (by rfl) T.f_len (by decide +kernel) (pa_cons (pv 0) pa_nil)) (nomark _)))))))))), ?_⟩
    refine ⟨_, rfl, (by show 2 ≤ sizeLine; decide), fun tp htp => ⟨_, tp, _, _, _, _, rfl, upd_same, .cons (ClsV.ty _) (.cons (ClsV.ty _) .nil), At.tyx T.rc (hv.up (Evl.Ex.new htp)), Kd.kit2 T.rc _ (by decide) (by decide), _, rfl, ?_⟩⟩
    exact iteTo rfl (hQ _ (Evl.Ex.new htp))
  | non =>
    refine ⟨_, PSs.nox (pss_cons (ps_if (PW.pt (pw_or (pt_not (pt_val (pe_callB call_isiT (by rfl) T.f_isinstance (by decide +kernel) (pa_cons (pv 0) (pa_cons (pe_tup (pa_cons (pe_bltn (v := .ty "list") (u := .type "list") (by rfl) T.f_list (by decide +kernel) rfl) (pa_cons (pe_bltn (v := .ty "tuple") (u := .type "tuple") (by rfl) T.f_tuple (by decide +kernel) rfl) pa_nil))) pa_nil))))) (pw_or1 (pt_not (pt_chain op_lt op_lt pe_int (pe_callB call_len_seq (by rfl) T.f_len (by decide +kernel) (pa_cons (pv 0) pa_nil)) pe_int))))) (pss_one (ps_ret pe_bl)) pss_nil)
      (pss_cons (ps_if (pt_cmpR (op_neNil rfl hr.units) (pe_lc (own := [("one", 4)]) rfl sc_l_are_names.nd (pi_list (pv 0)) (blkOk_by (own := [("one", 4)]) (N := N_l_are_names) (sc := defScope (top 35)) (by decide +kernel)) (fun _ _ _ _ _ => (pg_name (i := 4) sc_l_are_names.nd rfl (Or.inl rfl))) (fun _ _ _ _ _ => (pts_one (pt_not (pt_val (pe_c C_l_is_pair hr (by decide) rfl (pa_cons (pv 4) pa_nil)))))) (fun _ _ _ _ _ => (pv 4))) (pe_lst pa_nil) (nomark _)) (pss_one (ps_ret pe_bl)) pss_nil)
      (pss_cons (ps_set (i := 1) sc_l_are_names.nd rfl (Or.inl rfl) pe_int)
      (pss_cons (ps_for PassesOwn.never rfl (pi_list (pv 0)) (pg_tup (by rfl) (pgs_cons (pg_name (i := 2) sc_l_are_names.nd rfl (Or.inl rfl)) (pgs_cons (pg_name (i := 3) sc_l_are_names.nd rfl (Or.inl rfl)) pgs_nil))) (pss_one (ps_set (i := 1) sc_l_are_names.nd rfl (Or.inl rfl) (pe_op op_mul (pv 1) (pv 3)))))
      (pss_one (ps_ret (pe_and (pe_cmpR op_lt (pv 1) pe_int (nomark _)) (pe_one (pe_cmpR op_eq (pe_lenSetD rfl (by rfl) T.f_len (by rfl) T.f_set (pe_lc (own := [("pair", 5)]) rfl sc_l_are_names.nd (pi_list (pv 0)) (blkOk_by (own := [("pair", 5)]) (N := N_l_are_names) (sc := defScope (top 35)) (by decide +kernel)) (fun _ _ _ _ _ => (pg_name (i := 5) sc_l_are_names.nd rfl (Or.inl rfl))) (fun _ _ _ _ _ => pts_nil) (fun _ _ _ _ _ => (pe_ix (ixT (K := K) rfl) (pv 5) pe_int (fun _ _ => rfl))))) (pe_callB call_len_seq (by rfl) T.f_len (by decide +kernel) (pa_cons (pv 0) pa_nil)) (nomark _)))))))))), ?_⟩
    refine ⟨_, rfl, (by show 2 ≤ sizeLine; decide), fun tp htp => ⟨_, tp, _, _, _, _, rfl, upd_same, .cons (ClsV.ty _) (.cons (ClsV.ty _) .nil), At.tyx T.rc (hv.up (Evl.Ex.new htp)), Kd.kit2 T.rc _ (by decide) (by decide), _, rfl, ?_⟩⟩
    exact iteTo rfl (hQ _ (Evl.Ex.new htp))
  | int i =>
    refine ⟨_, PSs.nox (pss_cons (ps_if (PW.pt (pw_or (pt_not (pt_val (pe_callB call_isiT (by rfl) T.f_isinstance (by decide +kernel) (pa_cons (pv 0) (pa_cons (pe_tup (pa_cons (pe_bltn (v := .ty "list") (u := .type "list") (by rfl) T.f_list (by decide +kernel) rfl) (pa_cons (pe_bltn (v := .ty "tuple") (u := .type "tuple") (by rfl) T.f_tuple (by decide +kernel) rfl) pa_nil))) pa_nil))))) (pw_or1 (pt_not (pt_chain op_lt op_lt pe_int (pe_callB call_len_seq (by rfl) T.f_len (by decide +kernel) (pa_cons (pv 0) pa_nil)) pe_int))))) (pss_one (ps_ret pe_bl)) pss_nil)
      (pss_cons (ps_if (pt_cmpR (op_neNil rfl hr.units) (pe_lc (own := [("one", 4)]) rfl sc_l_are_names.nd (pi_list (pv 0)) (blkOk_by (own := [("one", 4)]) (N := N_l_are_names) (sc := defScope (top 35)) (by decide +kernel)) (fun _ _ _ _ _ => (pg_name (i := 4) sc_l_are_names.nd rfl (Or.inl rfl))) (fun _ _ _ _ _ => (pts_one (pt_not (pt_val (pe_c C_l_is_pair hr (by decide) rfl (pa_cons (pv 4) pa_nil)))))) (fun _ _ _ _ _ => (pv 4))) (pe_lst pa_nil) (nomark _)) (pss_one (ps_ret pe_bl)) pss_nil)
      (pss_cons (ps_set (i := 1) sc_l_are_names.nd rfl (Or.inl rfl) pe_int)
      (pss_cons (ps_for PassesOwn.never rfl (pi_list (pv 0)) (pg_tup (by rfl) (pgs_cons (pg_name (i := 2) sc_l_are_names.nd rfl (Or.inl rfl)) (pgs_cons (pg_name (i := 3) sc_l_are_names.nd rfl (Or.inl rfl)) pgs_nil))) (pss_one (ps_set (i := 1) sc_l_are_names.nd rfl (Or.inl rfl) (pe_op op_mul (pv 1) (pv 3)))))
      (pss_one (ps_ret (pe_and (pe_cmpR op_lt (pv 1) pe_int (nomark _)) (pe_one (pe_cmpR op_eq (pe_lenSetD rfl (by rfl) T.f_len (by rfl) T.f_set (pe_lc (own := [("pair", 5)]) rfl sc_l_are_names.nd (pi_list (pv 0)) (blkOk_by (own := [("pair", 5)]) (N := N_l_are_names) (sc := defScope (top 35)) (by decide +kernel)) (fun _ _ _ _ _ => (pg_name (i := 5) sc_l_are_names.nd rfl (Or.inl rfl))) (fun _ _ _ _ _ => pts_nil) (fun _ _ _ _ _ => (pe_ix (ixT (K := K) rfl) (pv 5) pe_int (fun _ _ => rfl))))) (pe_callB call_len_seq (by rfl) T.f_len (by decide +kernel) (pa_cons (pv 0) pa_nil)) (nomark _)))))))))), ?_⟩
    refine ⟨_, rfl, (by show 2 ≤ sizeLine; decide), fun tp htp => ⟨_, tp, _, _, _, _, rfl, upd_same, .cons (ClsV.ty _) (.cons (ClsV.ty _) .nil), At.tyx T.rc (hv.up (Evl.Ex.new htp)), Kd.kit2 T.rc _ (by decide) (by decide), _, rfl, ?_⟩⟩
    exact iteTo rfl (hQ _ (Evl.Ex.new htp))
  | str x _ =>
    refine ⟨_, PSs.nox (pss_cons (ps_if (PW.pt (pw_or (pt_not (pt_val (pe_callB call_isiT (by rfl) T.f_isinstance (by decide +kernel) (pa_cons (pv 0) (pa_cons (pe_tup (pa_cons (pe_bltn (v := .ty "list") (u := .type "list") (by rfl) T.f_list (by decide +kernel) rfl) (pa_cons (pe_bltn (v := .ty "tuple") (u := .type "tuple") (by rfl) T.f_tuple (by decide +kernel) rfl) pa_nil))) pa_nil))))) (pw_or1 (pt_not (pt_chain op_lt op_lt pe_int (pe_callB call_len_seq (by rfl) T.f_len (by decide +kernel) (pa_cons (pv 0) pa_nil)) pe_int))))) (pss_one (ps_ret pe_bl)) pss_nil)
      (pss_cons (ps_if (pt_cmpR (op_neNil rfl hr.units) (pe_lc (own := [("one", 4)]) rfl sc_l_are_names.nd (pi_list (pv 0)) (blkOk_by (own := [("one", 4)]) (N := N_l_are_names) (sc := defScope (top 35)) (by decide +kernel)) (fun _ _ _ _ _ => (pg_name (i := 4) sc_l_are_names.nd rfl (Or.inl rfl))) (fun _ _ _ _ _ => (pts_one (pt_not (pt_val (pe_c C_l_is_pair hr (by decide) rfl (pa_cons (pv 4) pa_nil)))))) (fun _ _ _ _ _ => (pv 4))) (pe_lst pa_nil) (nomark _)) (pss_one (ps_ret pe_bl)) pss_nil)
      (pss_cons (ps_set (i := 1) sc_l_are_names.nd rfl (Or.inl rfl) pe_int)
      (pss_cons (ps_for PassesOwn.never rfl (pi_list (pv 0)) (pg_tup (by rfl) (pgs_cons (pg_name (i := 2) sc_l_are_names.nd rfl (Or.inl rfl)) (pgs_cons (pg_name (i := 3) sc_l_are_names.nd rfl (Or.inl rfl)) pgs_nil))) (pss_one (ps_set (i := 1) sc_l_are_names.nd rfl (Or.inl rfl) (pe_op op_mul (pv 1) (pv 3)))))
      (pss_one (ps_ret (pe_and (pe_cmpR op_lt (pv 1) pe_int (nomark _)) (pe_one (pe_cmpR op_eq (pe_lenSetD rfl (by rfl) T.f_len (by rfl) T.f_set (pe_lc (own := [("pair", 5)]) rfl sc_l_are_names.nd (pi_list (pv 0)) (blkOk_by (own := [("pair", 5)]) (N := N_l_are_names) (sc := defScope (top 35)) (by decide +kernel)) (fun _ _ _ _ _ => (pg_name (i := 5) sc_l_are_names.nd rfl (Or.inl rfl))) (fun _ _ _ _ _ => pts_nil) (fun _ _ _ _ _ => (pe_ix (ixT (K := K) rfl) (pv 5) pe_int (fun _ _ => rfl))))) (pe_callB call_len_seq (by rfl) T.f_len (by decide +kernel) (pa_cons (pv 0) pa_nil)) (nomark _)))))))))), ?_⟩
    refine ⟨_, rfl, (by show 2 ≤ sizeLine; decide), fun tp htp => ⟨_, tp, _, _, _, _, rfl, upd_same, .cons (ClsV.ty _) (.cons (ClsV.ty _) .nil), At.tyx T.rc (hv.up (Evl.Ex.new htp)), Kd.kit2 T.rc _ (by decide) (by decide), _, rfl, ?_⟩⟩
    exact iteTo rfl (hQ _ (Evl.Ex.new htp))
  | rat _ =>
    refine ⟨_, PSs.nox (pss_cons (ps_if (PW.pt (pw_or (pt_not (pt_val (pe_callB call_isiT (by rfl) T.f_isinstance (by decide +kernel) (pa_cons (pv 0) (pa_cons (pe_tup (pa_cons (pe_bltn (v := .ty "list") (u := .type "list") (by rfl) T.f_list (by decide +kernel) rfl) (pa_cons (pe_bltn (v := .ty "tuple") (u := .type "tuple") (by rfl) T.f_tuple (by decide +kernel) rfl) pa_nil))) pa_nil))))) (pw_or1 (pt_not (pt_chain op_lt op_lt pe_int (pe_callB call_len_seq (by rfl) T.f_len (by decide +kernel) (pa_cons (pv 0) pa_nil)) pe_int))))) (pss_one (ps_ret pe_bl)) pss_nil)
      (pss_cons (ps_if (pt_cmpR (op_neNil rfl hr.units) (pe_lc (own := [("one", 4)]) rfl sc_l_are_names.nd (pi_list (pv 0)) (blkOk_by (own := [("one", 4)]) (N := N_l_are_names) (sc := defScope (top 35)) (by decide +kernel)) (fun _ _ _ _ _ => (pg_name (i := 4) sc_l_are_names.nd rfl (Or.inl rfl))) (fun _ _ _ _ _ => (pts_one (pt_not (pt_val (pe_c C_l_is_pair hr (by decide) rfl (pa_cons (pv 4) pa_nil)))))) (fun _ _ _ _ _ => (pv 4))) (pe_lst pa_nil) (nomark _)) (pss_one (ps_ret pe_bl)) pss_nil)
      (pss_cons (ps_set (i := 1) sc_l_are_names.nd rfl (Or.inl rfl) pe_int)
      (pss_cons (ps_for PassesOwn.never rfl (pi_list (pv 0)) (pg_tup (by rfl) (pgs_cons (pg_name (i := 2) sc_l_are_names.nd rfl (Or.inl rfl)) (pgs_cons (pg_name (i := 3) sc_l_are_names.nd rfl (Or.inl rfl)) pgs_nil))) (pss_one (ps_set (i := 1) sc_l_are_names.nd rfl (Or.inl rfl) (pe_op op_mul (pv 1) (pv 3)))))
      (pss_one (ps_ret (pe_and (pe_cmpR op_lt (pv 1) pe_int (nomark _)) (pe_one (pe_cmpR op_eq (pe_lenSetD rfl (by rfl) T.f_len (by rfl) T.f_set (pe_lc (own := [("pair", 5)]) rfl sc_l_are_names.nd (pi_list (pv 0)) (blkOk_by (own := [("pair", 5)]) (N := N_l_are_names) (sc := defScope (top 35)) (by decide +kernel)) (fun _ _ _ _ _ => (pg_name (i := 5) sc_l_are_names.nd rfl (Or.inl rfl))) (fun _ _ _ _ _ => pts_nil) (fun _ _ _ _ _ => (pe_ix (ixT (K := K) rfl) (pv 5) pe_int (fun _ _ => rfl))))) (pe_callB call_len_seq (by rfl) T.f_len (by decide +kernel) (pa_cons (pv 0) pa_nil)) (nomark _)))))))))), ?_⟩
    refine ⟨_, rfl, (by show 2 ≤ sizeLine; decide), fun tp htp => ⟨_, tp, _, _, _, _, rfl, upd_same, .cons (ClsV.ty _) (.cons (ClsV.ty _) .nil), At.tyx T.rc (hv.up (Evl.Ex.new htp)), Kd.kit2 T.rc _ (by decide) (by decide), _, rfl, ?_⟩⟩
    exact iteTo rfl (hQ _ (Evl.Ex.new htp))
  | dic _ _ =>
    refine ⟨_, PSs.nox (pss_cons (ps_if (PW.pt (pw_or (pt_not (pt_val (pe_callB call_isiT (by rfl) T.f_isinstance (by decide +kernel) (pa_cons (pv 0) (pa_cons (pe_tup (pa_cons (pe_bltn (v := .ty "list") (u := .type "list") (by rfl) T.f_list (by decide +kernel) rfl) (pa_cons (pe_bltn (v := .ty "tuple") (u := .type "tuple") (by rfl) T.f_tuple (by decide +kernel) rfl) pa_nil))) pa_nil))))) (pw_or1 (pt_not (pt_chain op_lt op_lt pe_int (pe_callB call_len_seq (by rfl) T.f_len (by decide +kernel) (pa_cons (pv 0) pa_nil)) pe_int))))) (pss_one (ps_ret pe_bl)) pss_nil)
      (pss_cons (ps_if (pt_cmpR (op_neNil rfl hr.units) (pe_lc (own := [("one", 4)]) rfl sc_l_are_names.nd (pi_list (pv 0)) (blkOk_by (own := [("one", 4)]) (N := N_l_are_names) (sc := defScope (top 35)) (by decide +kernel)) (fun _ _ _ _ _ => (pg_name (i := 4) sc_l_are_names.nd rfl (Or.inl rfl))) (fun _ _ _ _ _ => (pts_one (pt_not (pt_val (pe_c C_l_is_pair hr (by decide) rfl (pa_cons (pv 4) pa_nil)))))) (fun _ _ _ _ _ => (pv 4))) (pe_lst pa_nil) (nomark _)) (pss_one (ps_ret pe_bl)) pss_nil)
      (pss_cons (ps_set (i := 1) sc_l_are_names.nd rfl (Or.inl rfl) pe_int)
      (pss_cons (ps_for PassesOwn.never rfl (pi_list (pv 0)) (pg_tup (by rfl) (pgs_cons (pg_name (i := 2) sc_l_are_names.nd rfl (Or.inl rfl)) (pgs_cons (pg_name (i := 3) sc_l_are_names.nd rfl (Or.inl rfl)) pgs_nil))) (pss_one (ps_set (i := 1) sc_l_are_names.nd rfl (Or.inl rfl) (pe_op op_mul (pv 1) (pv 3)))))
      (pss_one (ps_ret (pe_and (pe_cmpR op_lt (pv 1) pe_int (nomark _)) (pe_one (pe_cmpR op_eq (pe_lenSetD rfl (by rfl) T.f_len (by rfl) T.f_set (pe_lc (own := [("pair", 5)]) rfl sc_l_are_names.nd (pi_list (pv 0)) (blkOk_by (own := [("pair", 5)]) (N := N_l_are_names) (sc := defScope (top 35)) (by decide +kernel)) (fun _ _ _ _ _ => (pg_name (i := 5) sc_l_are_names.nd rfl (Or.inl rfl))) (fun _ _ _ _ _ => pts_nil) (fun _ _ _ _ _ => (pe_ix (ixT (K := K) rfl) (pv 5) pe_int (fun _ _ => rfl))))) (pe_callB call_len_seq (by rfl) T.f_len (by decide +kernel) (pa_cons (pv 0) pa_nil)) (nomark _)))))))))), ?_⟩
    refine ⟨_, rfl, (by show 2 ≤ sizeLine; decide), fun tp htp => ⟨_, tp, _, _, _, _, rfl, upd_same, .cons (ClsV.ty _) (.cons (ClsV.ty _) .nil), At.tyx T.rc (hv.up (Evl.Ex.new htp)), Kd.kit2 T.rc _ (by decide) (by decide), _, rfl, ?_⟩⟩
    exact iteTo rfl (hQ _ (Evl.Ex.new htp))
  -- 

end
end K05
set_option Elab.async false
set_option linter.all false
set_option maxRecDepth 100000
set_option maxHeartbeats 1000000
/-! HxQ: == of two things that are the same one -/
namespace L2
open PySem PySem.Spec PyProof.Rows C8
/-- no list, tuple or dict -/
def Th.leaf : Th → Bool
  | .lst _ => false
  | .tup _ => false
  | .dic _ => false
  | _ => true
def rEqTh (R : Addr) : R2 := fun x y H Q => ∃ d, At R H x d ∧ At R H y d ∧ d.leaf = true ∧ Q (.bl true) H
theorem op_eqTh {X : Cx} {k j : Nat} {R : Addr} {sp : Sp} (c : Spc X.prog X.w X.K X.mg X.base k R "__eq__" sp) (C : RatC X.K R) (nf : PySem.W.notFirst X.K R (.ref R) = true)
    (hsp : ∀ (r q dx dq : Addr) (i : Int) (H : Hp) (Q : VK), H r = some (.ins R dx (wholeF i)) → H q = some (.ins R dq (wholeF i)) → Q (.bl true) H → sp [.ref r, .ref q] H Q C8.E0)
    (hr : Room j X.A) (hk : k ≤ j) : OpR X (compareOp .Eq) (rEqTh R) := by
  intro pins s σ H x y v u Q I rx ry h
  obtain ⟨d, h1, h2, hl, q⟩ := h
  have flat : x = y → scal x y = true → wpAny (model X.prog X.w) X.A (compareOp .Eq v u) (EP X pins σ Q) X.xe s := fun e1 e2 => by
    refine op_eq pins s σ H x y v u Q I rx ry ⟨e2, ?_⟩
    rw [decide_eq_true e1]
    exact q
  cases h1 with
  | non => cases h2; exact flat rfl rfl
  | bl b => cases h2; exact flat rfl rfl
  | int i => cases h2; exact flat rfl rfl
  | str z _ => cases h2; exact flat rfl rfl
  | @rat a dx i ha =>
    cases h2 with
    | @rat b dy _ hb => exact op_ownEq c hr hk pins s σ H (.ref a) (.ref b) v u Q I rx ry ⟨a, dx, _, _, rfl, ha, .base (.ins hb C.cl C.ac C.cg C.ct C.ob), nf, hsp a b dx dy i H _ ha hb ⟨_, rfl, q⟩⟩
  | lst _ _ => cases hl
  | tup _ _ => cases hl
  | dic _ _ => cases hl
end L2
set_option Elab.async false
set_option linter.all false
set_option maxRecDepth 100000
set_option maxHeartbeats 400000
namespace K05
open PySem PySem.Spec PyProof.Rows L2 C8
mutual
def dep : Th → Nat
  | .lst l => depA l + l.length + 1
  | .tup l => depA l + l.length + 1
  | .dic l => depK l + l.length + 6
  | _ => 0
def depA : List Th → Nat
  | [] => 0
  | d :: l => max (dep d) (depA l)
def depK : List (Str × Th) → Nat
  | [] => 0
  | (_, d) :: l => max (dep d) (depK l)
end
theorem depA_get : ∀ {l : List Th} {i : Nat} {d : Th}, l[i]? = some d → dep d ≤ depA l
  | [], i, d, h => by simp at h
  | e :: l, 0, d, h => by
    cases h
    simp only [depA]
    omega
  | e :: l, i + 1, d, h => by
    have := depA_get (l := l) (i := i) (by simpa using h)
    simp only [depA]
    omega
/-- a dict's items -/
def itemsT (l : List (Str × Th)) : List Th := l.map fun p => .tup [.str p.1, p.2]
theorem dep_items : ∀ l : List (Str × Th), depA (itemsT l) ≤ depK l + 3
  | [] => by simp [itemsT, depA]
  | (k, d) :: l => by
    have ih := dep_items l
    have e : depA (itemsT ((k, d) :: l)) = max (depA [.str k, d] + 2 + 1) (depA (itemsT l)) := rfl
    have e2 : depA [.str k, d] = max 0 (max (dep d) 0) := rfl
    have e3 : depK ((k, d) :: l) = max (dep d) (depK l) := rfl
    rw [e, e2, e3]
    omega
theorem items_at {R : Addr} {H H' : Hp} (e : Ex H H') : ∀ {kvs : List (Key × V)} {ds : List (Str × Th)} {ts : List Addr}, AtK R H kvs ds → Paired (fun (t : Addr) (q : Key × V) => H' t = some (.tup [kV q.1, q.2])) ts kvs → AtA R H' (ts.map V.ref) (itemsT ds)
  | _, _, _, .nil, .nil => .nil
  | _, _, _, .cons h0 h1 h2, .cons t1 t2 => .cons (.tup (.inl t1) (.cons (.str _ h0) (.cons (h1.up e) .nil))) (items_at e h2 t2)
theorem at_dic {R : Addr} {H : Hp} {v : V} {l : List (Str × Th)} (h : At R H v (.dic l)) : ∃ a kvs, v = .ref a ∧ H a = some (.dK kvs) ∧ AtK R H kvs l := by
  cases h with
  | dic h1 h2 => exact ⟨_, _, rfl, h1, h2⟩
section
variable {P : Program} {w : World} {K : PySem.W.Frag} {mg : Str → Option Value} {base : Heap}
abbrev N_l_same : List Str := ["one", "other", "k"]
theorem sc_l_same : FnScope N_l_same ["one", "other"] (defScope (top 42)) := ⟨rfl, rfl, rfl, by decide +kernel, rfl, by decide +kernel, by decide +kernel⟩
/-- two of the same thing -/
def spSame (K : PySem.W.Frag) (n : Nat) : Sp := fun vs H Q _ => ∃ (v w : V) (d : Th), vs = [v, w] ∧ AtK5 K H v d ∧ AtK5 K H w d ∧ dep d < n ∧ n ≤ 1000 ∧ ∀ H', Ex H H' → Q (.bl true) H'
theorem noSame {K : PySem.W.Frag} {vs : List V} {H : Hp} {Q : VK} {E : XK} (h : spSame K 0 vs H Q E) : False := by
  obtain ⟨_, _, _, _, _, _, h, _⟩ := h
  omega
theorem ok0_l_same (T : Txt K mg) : Cal P w K mg base 4 "_law_same" (spSame K 0) [] := by
  obtain ⟨fd, F⟩ := T.d__law_same
  refine ⟨_, fd, ["one", "other"], [], ?_, T.g__law_same, F.kp, F.bindsN fun _ _ _ _ _ _ us hl => match us, hl with | [_, _], _ => rfl, .nil⟩
  refine F.ok sc_l_same (fun vs H Q E h => False.elim (noSame h)) (fun cdv A outer s H vs Q E hr h => False.elim (noSame h))
theorem st_l_same (T : Txt K mg) (R_eq : Spc P w K mg base 2 (He.ga K "Ratio") "__eq__" (spRatEq K)) {n : Nat} (C_l_same : Cal P w K mg base (n + 4) "_law_same" (spSame K n) []) : Cal P w K mg base (n + 5) "_law_same" (spSame K (n + 1)) [] := by
  obtain ⟨fd, F⟩ := T.d__law_same
  refine ⟨_, fd, ["one", "other"], [], ?_, T.g__law_same, F.kp, F.bindsN fun _ _ _ _ _ _ us hl => match us, hl with | [_, _], _ => rfl, .nil⟩
  refine F.ok sc_l_same (fun vs H Q E h => by obtain ⟨_, _, _, rfl, _⟩ := h; rfl) (fun cdv A outer s H vs Q E hr h => ?_)
  have hu := hu_of hr
  obtain ⟨v, w2, d, rfl, h1, h2, hd, hn, hQ⟩ := h
  cases d with
  | lst l =>
    refine ⟨_, PSs.nox (pss_cons (ps_if (PW.pt (pw_and (pt_val (pe_callB call_isi (by rfl) T.f_isinstance (by decide +kernel) (pa_cons (pv 0) (pa_cons (pe_bltn (v := .ty "dict") (u := .type "dict") (by rfl) T.f_dict (by decide +kernel) rfl) pa_nil)))) (pw_and1 (pt_val (pe_callB call_isi (by rfl) T.f_isinstance (by decide +kernel) (pa_cons (pv 1) (pa_cons (pe_bltn (v := .ty "dict") (u := .type "dict") (by rfl) T.f_dict (by decide +kernel) rfl) pa_nil))))))) (pss_one (ps_ret (pe_c C_l_same hr (by omega) rfl (pa_cons (LiI.pe_listItems rfl (pv 0) (by rfl) T.f_list (by rfl)) (pa_cons (LiI.pe_listItems rfl (pv 1) (by rfl) T.f_list (by rfl)) pa_nil))))) pss_nil)
      (pss_cons (ps_if (PW.pt (pw_and (pt_val (pe_callB call_isiT (by rfl) T.f_isinstance (by decide +kernel) (pa_cons (pv 0) (pa_cons (pe_tup (pa_cons (pe_bltn (v := .ty "list") (u := .type "list") (by rfl) T.f_list (by decide +kernel) rfl) (pa_cons (pe_bltn (v := .ty "tuple") (u := .type "tuple") (by rfl) T.f_tuple (by decide +kernel) rfl) pa_nil))) pa_nil)))) (pw_and1 (pt_val (pe_callB call_isiT (by rfl) T.f_isinstance (by decide +kernel) (pa_cons (pv 1) (pa_cons (pe_tup (pa_cons (pe_bltn (v := .ty "list") (u := .type "list") (by rfl) T.f_list (by decide +kernel) rfl) (pa_cons (pe_bltn (v := .ty "tuple") (u := .type "tuple") (by rfl) T.f_tuple (by decide +kernel) rfl) pa_nil))) pa_nil))))))) (pss_cons (ps_if (PW.pt (pw_or (pt_cmpR op_ne (pe_callB call_isi (by rfl) T.f_isinstance (by decide +kernel) (pa_cons (pv 0) (pa_cons (pe_bltn (v := .ty "list") (u := .type "list") (by rfl) T.f_list (by decide +kernel) rfl) pa_nil))) (pe_callB call_isi (by rfl) T.f_isinstance (by decide +kernel) (pa_cons (pv 1) (pa_cons (pe_bltn (v := .ty "list") (u := .type "list") (by rfl) T.f_list (by decide +kernel) rfl) pa_nil))) (nomark _)) (pw_or1 (pt_cmpR op_ne (pe_callB call_len_seq (by rfl) T.f_len (by decide +kernel) (pa_cons (pv 0) pa_nil)) (pe_callB call_len_seq (by rfl) T.f_len (by decide +kernel) (pa_cons (pv 1) pa_nil)) (nomark _))))) (pss_one (ps_ret pe_bl)) pss_nil)
      (pss_one (ps_ret (pe_cmpR (op_eqNil rfl hr.units) (pe_lc (own := [("k", 2)]) rfl sc_l_same.nd (pi_range1 (by rfl) T.f_range (pa_cons (pe_callB call_len_seq (by rfl) T.f_len (by decide +kernel) (pa_cons (pv 0) pa_nil)) pa_nil)) (blkOk_by (own := [("k", 2)]) (N := N_l_same) (sc := defScope (top 42)) (by decide +kernel)) (fun _ _ _ _ _ => (pg_name (i := 2) sc_l_same.nd rfl (Or.inl rfl))) (fun _ _ _ _ _ => (pts_one (pt_not (pt_val (pe_c C_l_same hr (by omega) rfl (pa_cons (pe_ix (ixL (K := K) rfl) (pv 0) (pv 2) (fun _ _ => rfl)) (pa_cons (pe_ix (ixL (K := K) rfl) (pv 1) (pv 2) (fun _ _ => rfl)) pa_nil))))))) (fun _ _ _ _ _ => (pv 2))) (pe_lst pa_nil) (nomark _))))) pss_nil)
      (pss_one (ps_ret (pe_and (pe_cmpR op_eq (pe_callB call_isi (by rfl) T.f_isinstance (by decide +kernel) (pa_cons (pv 0) (pa_cons (pe_bltn (v := .ty "bool") (u := .type "bool") (by rfl) T.f_bool (by decide +kernel) rfl) pa_nil))) (pe_callB call_isi (by rfl) T.f_isinstance (by decide +kernel) (pa_cons (pv 1) (pa_cons (pe_bltn (v := .ty "bool") (u := .type "bool") (by rfl) T.f_bool (by decide +kernel) rfl) pa_nil))) (nomark _)) (pe_one (pe_cmpR (op_eqTh R_eq T.rc T.nf_Ratio (fun r q dx dq i H Q h1 h2 h3 => ⟨r, dx, i, .ref q, rfl, h1, .inr ⟨q, dq, i, rfl, h2, by rw [decide_eq_true rfl]; exact h3⟩⟩) hr (by omega)) (pv 0) (pv 1) (nomark _)))))))), ?_⟩
    refine ⟨_, rfl, _, _, _, _, _, rfl, .ty _, At.tyx T.rc h1, Kd.kit T.rc _ (by decide), _, rfl, iteFo rfl ?_⟩
    obtain ⟨a, xs, rfl, ha, hxs⟩ := at_lst h1
    obtain ⟨b, ys, rfl, hb, hys⟩ := at_lst h2
    refine ⟨_, rfl, (by show 2 ≤ sizeLine; decide), fun tp1 ntp => ⟨_, tp1, _, _, _, _, rfl, upd_same, .cons (ClsV.ty _) (.cons (ClsV.ty _) .nil), At.tyx T.rc (At.up h1 (Evl.Ex.new ntp)), Kd.kit2 T.rc _ (by decide) (by decide), _, rfl, iteTo rfl ?_⟩⟩
    have g1 := Evl.Ex.new (o := .tup [.ty "list", .ty "tuple"]) ntp
    have h1 := At.up h1 g1
    have h2 := At.up h2 g1
    refine ⟨_, rfl, (by show 2 ≤ sizeLine; decide), fun tp2 ntp => ⟨_, tp2, _, _, _, _, rfl, upd_same, .cons (ClsV.ty _) (.cons (ClsV.ty _) .nil), At.tyx T.rc (At.up h2 (Evl.Ex.new ntp)), Kd.kit2 T.rc _ (by decide) (by decide), _, rfl, iteTo rfl ?_⟩⟩
    have g2 := Evl.Ex.new (o := .tup [.ty "list", .ty "tuple"]) ntp
    have h1 := At.up h1 g2
    have h2 := At.up h2 g2
    have lx := hxs.len
    have ly := hys.len
    have dl : dep (.lst l) = depA l + l.length + 1 := rfl
    refine ⟨_, rfl, _, _, _, _, _, rfl, .ty _, At.tyx T.rc h1, Kd.kit T.rc _ (by decide), _, rfl, _, _, _, _, _, rfl, .ty _, At.tyx T.rc h2, Kd.kit T.rc _ (by decide), rfl, _, rfl, iteFo (by simp) ?_⟩
    refine ⟨_, rfl, a, xs, rfl, .inl (SqL.of ((g1.trans g2) _ _ ha)), _, rfl, b, ys, rfl, .inl (SqL.of ((g1.trans g2) _ _ hb)), rfl, _, rfl, iteFo ?_ ?_⟩
    · rw [lx, ly]
      simp
    refine ⟨_, rfl, a, xs, rfl, .inl (SqL.of ((g1.trans g2) _ _ ha)), ?_⟩
    have lim : 1000 < sizeLine := by decide
    refine ⟨xs.length, rfl, by omega, by omega, fun D hD => ?_⟩
    have g12 := g1.trans g2
    have gD := Evl.Ex.new (o := .lst []) hD
    refine lc_range (lo := 0) (n := xs.length) (fun k H' => Ex (upd (upd H tp1 (.tup [.ty "list", .ty "tuple"])) tp2 (.tup [.ty "list", .ty "tuple"])) H' ∧ H' D = some (.lst [])) ⟨gD, upd_same⟩ ?_ ?_
    · rintro k H5 hk ⟨g5, h5⟩
      obtain ⟨x, hx⟩ : ∃ x, xs[k]? = some x := ⟨_, List.getElem?_eq_getElem hk⟩
      obtain ⟨y, hy⟩ : ∃ y, ys[k]? = some y := ⟨_, List.getElem?_eq_getElem (by omega)⟩
      obtain ⟨d1, e1, p1⟩ := hxs.get hx
      obtain ⟨d2, e2, p2⟩ := hys.get hy
      rw [e1] at e2
      cases e2
      have dd := depA_get e1
      refine ⟨rfl, ?_⟩
      refine ⟨_, rfl, _, rfl, a, _, (k : Int), x, rfl, (by show V.int (0 + (k : Int)) = _; rw [Int.zero_add]), SqL.of ((g12.trans g5) _ _ ha), atI_nat hx, ?_⟩
      refine ⟨_, rfl, _, rfl, b, _, (k : Int), y, rfl, (by show V.int (0 + (k : Int)) = _; rw [Int.zero_add]), SqL.of ((g12.trans g5) _ _ hb), atI_nat hy, ?_⟩
      refine ⟨x, y, d1, rfl, p1.up (g12.trans g5), p2.up (g12.trans g5), by omega, by omega, fun H6 g6 => ⟨_, rfl, iteFo rfl ?_⟩⟩
      exact ⟨g5.trans g6, g6 _ _ h5⟩
    rintro H5 ⟨g5, h5⟩
    refine ⟨(by show 0 ≤ sizeLine; decide), fun m hm => ?_⟩
    have gm := Evl.Ex.new (o := .lst []) hm
    refine ⟨D, m, [], rfl, rfl, SqL.of (gm _ _ h5), SqL.of upd_same, ?_⟩
    exact hQ _ (g12.trans (g5.trans gm))
  | tup l =>
    refine ⟨_, PSs.nox (pss_cons (ps_if (PW.pt (pw_and (pt_val (pe_callB call_isi (by rfl) T.f_isinstance (by decide +kernel) (pa_cons (pv 0) (pa_cons (pe_bltn (v := .ty "dict") (u := .type "dict") (by rfl) T.f_dict (by decide +kernel) rfl) pa_nil)))) (pw_and1 (pt_val (pe_callB call_isi (by rfl) T.f_isinstance (by decide +kernel) (pa_cons (pv 1) (pa_cons (pe_bltn (v := .ty "dict") (u := .type "dict") (by rfl) T.f_dict (by decide +kernel) rfl) pa_nil))))))) (pss_one (ps_ret (pe_c C_l_same hr (by omega) rfl (pa_cons (LiI.pe_listItems rfl (pv 0) (by rfl) T.f_list (by rfl)) (pa_cons (LiI.pe_listItems rfl (pv 1) (by rfl) T.f_list (by rfl)) pa_nil))))) pss_nil)
      (pss_cons (ps_if (PW.pt (pw_and (pt_val (pe_callB call_isiT (by rfl) T.f_isinstance (by decide +kernel) (pa_cons (pv 0) (pa_cons (pe_tup (pa_cons (pe_bltn (v := .ty "list") (u := .type "list") (by rfl) T.f_list (by decide +kernel) rfl) (pa_cons (pe_bltn (v := .ty "tuple") (u := .type "tuple") (by rfl) T.f_tuple (by decide +kernel) rfl) pa_nil))) pa_nil)))) (pw_and1 (pt_val (pe_callB call_isiT (by rfl) T.f_isinstance (by decide +kernel) (pa_cons (pv 1) (pa_cons (pe_tup (pa_cons (pe_bltn (v := .ty "list") (u := .type "list") (by rfl) T.f_list (by decide +kernel) rfl) (pa_cons (pe_bltn (v := .ty "tuple") (u := .type "tuple") (by rfl) T.f_tuple (by decide +kernel) rfl) pa_nil))) pa_nil))))))) (pss_cons (ps_if (PW.pt (pw_or (pt_cmpR op_ne (pe_callB call_isi (by rfl) T.f_isinstance (by decide +kernel) (pa_cons (pv 0) (pa_cons (pe_bltn (v := .ty "list") (u := .type "list") (by rfl) T.f_list (by decide +kernel) rfl) pa_nil))) (pe_callB call_isi (by rfl) T.f_isinstance (by decide +kernel) (pa_cons (pv 1) (pa_cons (pe_bltn (v := .ty "list") (u := .type "list") (by rfl) T.f_list (by decide +kernel) rfl) pa_nil))) (nomark _)) (pw_or1 (pt_cmpR op_ne (pe_callB call_len_seq (by rfl) T.f_len (by decide +kernel) (pa_cons (pv 0) pa_nil)) (pe_callB call_len_seq (by rfl) T.f_len (by decide +kernel) (pa_cons (pv 1) pa_nil)) (nomark _))))) (pss_one (ps_ret pe_bl)) pss_nil)
      (pss_one (ps_ret (pe_cmpR (op_eqNil rfl hr.units) (pe_lc (own := [("k", 2)]) rfl sc_l_same.nd (pi_range1 (by rfl) T.f_range (pa_cons (pe_callB call_len_seq (by rfl) T.f_len (by decide +kernel) (pa_cons (pv 0) pa_nil)) pa_nil)) (blkOk_by (own := [("k", 2)]) (N := N_l_same) (sc := defScope (top 42)) (by decide +kernel)) (fun _ _ _ _ _ => (pg_name (i := 2) sc_l_same.nd rfl (Or.inl rfl))) (fun _ _ _ _ _ => (pts_one (pt_not (pt_val (pe_c C_l_same hr (by omega) rfl (pa_cons (pe_ix (ixT (K := K) rfl) (pv 0) (pv 2) (fun _ _ => rfl)) (pa_cons (pe_ix (ixT (K := K) rfl) (pv 1) (pv 2) (fun _ _ => rfl)) pa_nil))))))) (fun _ _ _ _ _ => (pv 2))) (pe_lst pa_nil) (nomark _))))) pss_nil)
      (pss_one (ps_ret (pe_and (pe_cmpR op_eq (pe_callB call_isi (by rfl) T.f_isinstance (by decide +kernel) (pa_cons (pv 0) (pa_cons (pe_bltn (v := .ty "bool") (u := .type "bool") (by rfl) T.f_bool (by decide +kernel) rfl) pa_nil))) (pe_callB call_isi (by rfl) T.f_isinstance (by decide +kernel) (pa_cons (pv 1) (pa_cons (pe_bltn (v := .ty "bool") (u := .type "bool") (by rfl) T.f_bool (by decide +kernel) rfl) pa_nil))) (nomark _)) (pe_one (pe_cmpR (op_eqTh R_eq T.rc T.nf_Ratio (fun r q dx dq i H Q h1 h2 h3 => ⟨r, dx, i, .ref q, rfl, h1, .inr ⟨q, dq, i, rfl, h2, by rw [decide_eq_true rfl]; exact h3⟩⟩) hr (by omega)) (pv 0) (pv 1) (nomark _)))))))), ?_⟩
    refine ⟨_, rfl, _, _, _, _, _, rfl, .ty _, At.tyx T.rc h1, Kd.kit T.rc _ (by decide), _, rfl, iteFo rfl ?_⟩
    obtain ⟨a, xs, rfl, ha, hxs⟩ := at_tup h1
    obtain ⟨b, ys, rfl, hb, hys⟩ := at_tup h2
    refine ⟨_, rfl, (by show 2 ≤ sizeLine; decide), fun tp1 ntp => ⟨_, tp1, _, _, _, _, rfl, upd_same, .cons (ClsV.ty _) (.cons (ClsV.ty _) .nil), At.tyx T.rc (At.up h1 (Evl.Ex.new ntp)), Kd.kit2 T.rc _ (by decide) (by decide), _, rfl, iteTo rfl ?_⟩⟩
    have g1 := Evl.Ex.new (o := .tup [.ty "list", .ty "tuple"]) ntp
    have h1 := At.up h1 g1
    have h2 := At.up h2 g1
    refine ⟨_, rfl, (by show 2 ≤ sizeLine; decide), fun tp2 ntp => ⟨_, tp2, _, _, _, _, rfl, upd_same, .cons (ClsV.ty _) (.cons (ClsV.ty _) .nil), At.tyx T.rc (At.up h2 (Evl.Ex.new ntp)), Kd.kit2 T.rc _ (by decide) (by decide), _, rfl, iteTo rfl ?_⟩⟩
    have g2 := Evl.Ex.new (o := .tup [.ty "list", .ty "tuple"]) ntp
    have h1 := At.up h1 g2
    have h2 := At.up h2 g2
    have lx := hxs.len
    have ly := hys.len
    have dl : dep (.tup l) = depA l + l.length + 1 := rfl
    refine ⟨_, rfl, _, _, _, _, _, rfl, .ty _, At.tyx T.rc h1, Kd.kit T.rc _ (by decide), _, rfl, _, _, _, _, _, rfl, .ty _, At.tyx T.rc h2, Kd.kit T.rc _ (by decide), rfl, _, rfl, iteFo (by simp) ?_⟩
    refine ⟨_, rfl, a, xs, rfl, .inr (.inl (Rd.mono (g1.trans g2) ha)), _, rfl, b, ys, rfl, .inr (.inl (Rd.mono (g1.trans g2) hb)), rfl, _, rfl, iteFo ?_ ?_⟩
    · rw [lx, ly]
      simp
    refine ⟨_, rfl, a, xs, rfl, .inr (.inl (Rd.mono (g1.trans g2) ha)), ?_⟩
    have lim : 1000 < sizeLine := by decide
    refine ⟨xs.length, rfl, by omega, by omega, fun D hD => ?_⟩
    have g12 := g1.trans g2
    have gD := Evl.Ex.new (o := .lst []) hD
    refine lc_range (lo := 0) (n := xs.length) (fun k H' => Ex (upd (upd H tp1 (.tup [.ty "list", .ty "tuple"])) tp2 (.tup [.ty "list", .ty "tuple"])) H' ∧ H' D = some (.lst [])) ⟨gD, upd_same⟩ ?_ ?_
    · rintro k H5 hk ⟨g5, h5⟩
      obtain ⟨x, hx⟩ : ∃ x, xs[k]? = some x := ⟨_, List.getElem?_eq_getElem hk⟩
      obtain ⟨y, hy⟩ : ∃ y, ys[k]? = some y := ⟨_, List.getElem?_eq_getElem (by omega)⟩
      obtain ⟨d1, e1, p1⟩ := hxs.get hx
      obtain ⟨d2, e2, p2⟩ := hys.get hy
      rw [e1] at e2
      cases e2
      have dd := depA_get e1
      refine ⟨rfl, ?_⟩
      refine ⟨_, rfl, _, rfl, a, _, (k : Int), x, rfl, (by show V.int (0 + (k : Int)) = _; rw [Int.zero_add]), .inl (Rd.mono (g12.trans g5) ha), atI_nat hx, ?_⟩
      refine ⟨_, rfl, _, rfl, b, _, (k : Int), y, rfl, (by show V.int (0 + (k : Int)) = _; rw [Int.zero_add]), .inl (Rd.mono (g12.trans g5) hb), atI_nat hy, ?_⟩
      refine ⟨x, y, d1, rfl, p1.up (g12.trans g5), p2.up (g12.trans g5), by omega, by omega, fun H6 g6 => ⟨_, rfl, iteFo rfl ?_⟩⟩
      exact ⟨g5.trans g6, g6 _ _ h5⟩
    rintro H5 ⟨g5, h5⟩
    refine ⟨(by show 0 ≤ sizeLine; decide), fun m hm => ?_⟩
    have gm := Evl.Ex.new (o := .lst []) hm
    refine ⟨D, m, [], rfl, rfl, SqL.of (gm _ _ h5), SqL.of upd_same, ?_⟩
    exact hQ _ (g12.trans (g5.trans gm))
  | dic l =>
    refine ⟨_, PSs.nox (pss_cons (ps_if (PW.pt (pw_and (pt_val (pe_callB call_isi (by rfl) T.f_isinstance (by decide +kernel) (pa_cons (pv 0) (pa_cons (pe_bltn (v := .ty "dict") (u := .type "dict") (by rfl) T.f_dict (by decide +kernel) rfl) pa_nil)))) (pw_and1 (pt_val (pe_callB call_isi (by rfl) T.f_isinstance (by decide +kernel) (pa_cons (pv 1) (pa_cons (pe_bltn (v := .ty "dict") (u := .type "dict") (by rfl) T.f_dict (by decide +kernel) rfl) pa_nil))))))) (pss_one (ps_ret (pe_c C_l_same hr (by omega) rfl (pa_cons (LiI.pe_listItems rfl (pv 0) (by rfl) T.f_list (by rfl)) (pa_cons (LiI.pe_listItems rfl (pv 1) (by rfl) T.f_list (by rfl)) pa_nil))))) pss_nil)
      (pss_cons (ps_if (PW.pt (pw_and (pt_val (pe_callB call_isiT (by rfl) T.f_isinstance (by decide +kernel) (pa_cons (pv 0) (pa_cons (pe_tup (pa_cons (pe_bltn (v := .ty "list") (u := .type "list") (by rfl) T.f_list (by decide +kernel) rfl) (pa_cons (pe_bltn (v := .ty "tuple") (u := .type "tuple") (by rfl) T.f_tuple (by decide +kernel) rfl) pa_nil))) pa_nil)))) (pw_and1 (pt_val (pe_callB call_isiT (by rfl) T.f_isinstance (by decide +kernel) (pa_cons (pv 1) (pa_cons (pe_tup (pa_cons (pe_bltn (v := .ty "list") (u := .type "list") (by rfl) T.f_list (by decide +kernel) rfl) (pa_cons (pe_bltn (v := .ty "tuple") (u := .type "tuple") (by rfl) T.f_tuple (by decide +kernel) rfl) pa_nil))) pa_nil))))))) (pss_cons (ps_if (PW.pt (pw_or (pt_cmpR op_ne (pe_callB call_isi (by rfl) T.f_isinstance (by decide +kernel) (pa_cons (pv 0) (pa_cons (pe_bltn (v := .ty "list") (u := .type "list") (by rfl) T.f_list (by decide +kernel) rfl) pa_nil))) (pe_callB call_isi (by rfl) T.f_isinstance (by decide +kernel) (pa_cons (pv 1) (pa_cons (pe_bltn (v := .ty "list") (u := .type "list") (by rfl) T.f_list (by decide +kernel) rfl) pa_nil))) (nomark _)) (pw_or1 (pt_cmpR op_ne (pe_callB call_len_seq (by rfl) T.f_len (by decide +kernel) (pa_cons (pv 0) pa_nil)) (pe_callB call_len_seq (by rfl) T.f_len (by decide +kernel) (pa_cons (pv 1) pa_nil)) (nomark _))))) (pss_one (ps_ret pe_bl)) pss_nil)
      (pss_one (ps_ret (pe_cmpR (op_eqNil rfl hr.units) (pe_lc (own := [("k", 2)]) rfl sc_l_same.nd (pi_range1 (by rfl) T.f_range (pa_cons (pe_callB call_len_seq (by rfl) T.f_len (by decide +kernel) (pa_cons (pv 0) pa_nil)) pa_nil)) (blkOk_by (own := [("k", 2)]) (N := N_l_same) (sc := defScope (top 42)) (by decide +kernel)) (fun _ _ _ _ _ => (pg_name (i := 2) sc_l_same.nd rfl (Or.inl rfl))) (fun _ _ _ _ _ => (pts_one (pt_not (pt_val (pe_c C_l_same hr (by omega) rfl (pa_cons (pe_ix (ixL (K := K) rfl) (pv 0) (pv 2) (fun _ _ => rfl)) (pa_cons (pe_ix (ixL (K := K) rfl) (pv 1) (pv 2) (fun _ _ => rfl)) pa_nil))))))) (fun _ _ _ _ _ => (pv 2))) (pe_lst pa_nil) (nomark _))))) pss_nil)
      (pss_one (ps_ret (pe_and (pe_cmpR op_eq (pe_callB call_isi (by rfl) T.f_isinstance (by decide +kernel) (pa_cons (pv 0) (pa_cons (pe_bltn (v := .ty "bool") (u := .type "bool") (by rfl) T.f_bool (by decide +kernel) rfl) pa_nil))) (pe_callB call_isi (by rfl) T.f_isinstance (by decide +kernel) (pa_cons (pv 1) (pa_cons (pe_bltn (v := .ty "bool") (u := .type "bool") (by rfl) T.f_bool (by decide +kernel) rfl) pa_nil))) (nomark _)) (pe_one (pe_cmpR (op_eqTh R_eq T.rc T.nf_Ratio (fun r q dx dq i H Q h1 h2 h3 => ⟨r, dx, i, .ref q, rfl, h1, .inr ⟨q, dq, i, rfl, h2, by rw [decide_eq_true rfl]; exact h3⟩⟩) hr (by omega)) (pv 0) (pv 1) (nomark _)))))))), ?_⟩
    refine ⟨_, rfl, _, _, _, _, _, rfl, .ty _, At.tyx T.rc h1, Kd.kit T.rc _ (by decide), _, rfl, iteTo rfl ?_⟩
    refine ⟨_, rfl, _, _, _, _, _, rfl, .ty _, At.tyx T.rc h2, Kd.kit T.rc _ (by decide), _, rfl, iteTo rfl ?_⟩
    obtain ⟨a, kvs, rfl, ha, hk⟩ := at_dic h1
    obtain ⟨b, kvs2, rfl, hb, hk2⟩ := at_dic h2
    refine ⟨_, rfl, a, kvs, rfl, ha, fun H1 p ts g1 np nts _ hp hts => ?_⟩
    refine ⟨_, rfl, b, kvs2, rfl, g1 _ _ hb, fun H2 p2 ts2 g2 np2 nts2 _ hp2 hts2 => ?_⟩
    have di := dep_items l
    have dl : dep (.dic l) = depK l + l.length + 6 := rfl
    have dl2 : dep (.lst (itemsT l)) = depA (itemsT l) + (itemsT l).length + 1 := rfl
    have il : (itemsT l).length = l.length := List.length_map ..
    have q1 : AtK5 K H2 (.ref p) (.lst (itemsT l)) := At.up (.lst hp (items_at g1 hk hts)) g2
    have q2 : AtK5 K H2 (.ref p2) (.lst (itemsT l)) := .lst hp2 (items_at (Evl.Ex.trans g1 g2) hk2 hts2)
    exact ⟨.ref p, .ref p2, _, rfl, q1, q2, by omega, by omega, fun H3 g3 => hQ _ (Evl.Ex.trans g1 (Evl.Ex.trans g2 g3))⟩
  | non =>
    refine ⟨_, PSs.nox (pss_cons (ps_if (PW.pt (pw_and (pt_val (pe_callB call_isi (by rfl) T.f_isinstance (by decide +kernel) (pa_cons (pv 0) (pa_cons (pe_bltn (v := .ty "dict") (u := .type "dict") (by rfl) T.f_dict (by decide +kernel) rfl) pa_nil)))) (pw_and1 (pt_val (pe_callB call_isi (by rfl) T.f_isinstance (by decide +kernel) (pa_cons (pv 1) (pa_cons (pe_bltn (v := .ty "dict") (u := .type "dict") (by rfl) T.f_dict (by decide +kernel) rfl) pa_nil))))))) (pss_one (ps_ret (pe_c C_l_same hr (by omega) rfl (pa_cons (LiI.pe_listItems rfl (pv 0) (by rfl) T.f_list (by rfl)) (pa_cons (LiI.pe_listItems rfl (pv 1) (by rfl) T.f_list (by rfl)) pa_nil))))) pss_nil)
      (pss_cons (ps_if (PW.pt (pw_and (pt_val (pe_callB call_isiT (by rfl) T.f_isinstance (by decide +kernel) (pa_cons (pv 0) (pa_cons (pe_tup (pa_cons (pe_bltn (v := .ty "list") (u := .type "list") (by rfl) T.f_list (by decide +kernel) rfl) (pa_cons (pe_bltn (v := .ty "tuple") (u := .type "tuple") (by rfl) T.f_tuple (by decide +kernel) rfl) pa_nil))) pa_nil)))) (pw_and1 (pt_val (pe_callB call_isiT (by rfl) T.f_isinstance (by decide +kernel) (pa_cons (pv 1) (pa_cons (pe_tup (pa_cons (pe_bltn (v := .ty "list") (u := .type "list") (by rfl) T.f_list (by decide +kernel) rfl) (pa_cons (pe_bltn (v := .ty "tuple") (u := .type "tuple") (by rfl) T.f_tuple (by decide +kernel) rfl) pa_nil))) pa_nil))))))) (pss_cons (ps_if (PW.pt (pw_or (pt_cmpR op_ne (pe_callB call_isi (by rfl) T.f_isinstance (by decide +kernel) (pa_cons (pv 0) (pa_cons (pe_bltn (v := .ty "list") (u := .type "list") (by rfl) T.f_list (by decide +kernel) rfl) pa_nil))) (pe_callB call_isi (by rfl) T.f_isinstance (by decide +kernel) (pa_cons (pv 1) (pa_cons (pe_bltn (v := .ty "list") (u := .type "list") (by rfl) T.f_list (by decide +kernel) rfl) pa_nil))) (nomark _)) (pw_or1 (pt_cmpR op_ne (pe_callB call_len_seq (by rfl) T.f_len (by decide +kernel) (pa_cons (pv 0) pa_nil)) (pe_callB call_len_seq (by rfl) T.f_len (by decide +kernel) (pa_cons (pv 1) pa_nil)) (nomark _))))) (pss_one (ps_ret pe_bl)) pss_nil)
      (pss_one (ps_ret (pe_cmpR (op_eqNil rfl hr.units) (pe_lc (own := [("k", 2)]) rfl sc_l_same.nd (pi_range1 (by rfl) T.f_range (pa_cons (pe_callB call_len_seq (by rfl) T.f_len (by decide +kernel) (pa_cons (pv 0) pa_nil)) pa_nil)) (blkOk_by (own := [("k", 2)]) (N := N_l_same) (sc := defScope (top 42)) (by decide +kernel)) (fun _ _ _ _ _ => (pg_name (i := 2) sc_l_same.nd rfl (Or.inl rfl))) (fun _ _ _ _ _ => (pts_one (pt_not (pt_val (pe_c C_l_same hr (by omega) rfl (pa_cons (pe_ix (ixL (K := K) rfl) (pv 0) (pv 2) (fun _ _ => rfl)) (pa_cons (pe_ix (ixL (K := K) rfl) (pv 1) (pv 2) (fun _ _ => rfl)) pa_nil))))))) (fun _ _ _ _ _ => (pv 2))) (pe_lst pa_nil) (nomark _))))) pss_nil)
      (pss_one (ps_ret (pe_and (pe_cmpR op_eq (pe_callB call_isi (by rfl) T.f_isinstance (by decide +kernel) (pa_cons (pv 0) (pa_cons (pe_bltn (v := .ty "bool") (u := .type "bool") (by rfl) T.f_bool (by decide +kernel) rfl) pa_nil))) (pe_callB call_isi (by rfl) T.f_isinstance (by decide +kernel) (pa_cons (pv 1) (pa_cons (pe_bltn (v := .ty "bool") (u := .type "bool") (by rfl) T.f_bool (by decide +kernel) rfl) pa_nil))) (nomark _)) (pe_one (pe_cmpR (op_eqTh R_eq T.rc T.nf_Ratio (fun r q dx dq i H Q h1 h2 h3 => ⟨r, dx, i, .ref q, rfl, h1, .inr ⟨q, dq, i, rfl, h2, by rw [decide_eq_true rfl]; exact h3⟩⟩) hr (by omega)) (pv 0) (pv 1) (nomark _)))))))), ?_⟩
    refine ⟨_, rfl, _, _, _, _, _, rfl, .ty _, At.tyx T.rc h1, Kd.kit T.rc _ (by decide), _, rfl, iteFo rfl ?_⟩
    refine ⟨_, rfl, (by show 2 ≤ sizeLine; decide), fun tp1 ntp => ⟨_, tp1, _, _, _, _, rfl, upd_same, .cons (ClsV.ty _) (.cons (ClsV.ty _) .nil), At.tyx T.rc (At.up h1 (Evl.Ex.new ntp)), Kd.kit2 T.rc _ (by decide) (by decide), _, rfl, iteFo rfl ?_⟩⟩
    have g1 := Evl.Ex.new (o := .tup [.ty "list", .ty "tuple"]) ntp
    have h1 := At.up h1 g1
    have h2 := At.up h2 g1
    refine iteFo rfl ?_
    refine ⟨_, rfl, _, _, _, _, _, rfl, .ty _, At.tyx T.rc h1, Kd.kit T.rc _ (by decide), _, rfl, _, _, _, _, _, rfl, .ty _, At.tyx T.rc h2, Kd.kit T.rc _ (by decide), rfl, _, rfl, iteTo (by simp) ?_⟩
    exact ⟨_, rfl, _, rfl, _, h1, h2, rfl, hQ _ g1⟩
  | bl b =>
    refine ⟨_, PSs.nox (pss_cons (ps_if (PW.pt (pw_and (pt_val (pe_callB call_isi (by rfl) T.f_isinstance (by decide +kernel) (pa_cons (pv 0) (pa_cons (pe_bltn (v := .ty "dict") (u := .type "dict") (by rfl) T.f_dict (by decide +kernel) rfl) pa_nil)))) (pw_and1 (pt_val (pe_callB call_isi (by rfl) T.f_isinstance (by decide +kernel) (pa_cons (pv 1) (pa_cons (pe_bltn (v := .ty "dict") (u := .type "dict") (by rfl) T.f_dict (by decide +kernel) rfl) pa_nil))))))) (pss_one (ps_ret (pe_c C_l_same hr (by omega) rfl (pa_cons (LiI.pe_listItems rfl (pv 0) (by rfl) T.f_list (by rfl)) (pa_cons (LiI.pe_listItems rfl (pv 1) (by rfl) T.f_list (by rfl)) pa_nil))))) pss_nil)
      (pss_cons (ps_if (PW.pt (pw_and (pt_val (pe_callB call_isiT (by rfl) T.f_isinstance (by decide +kernel) (pa_cons (pv 0) (pa_cons (pe_tup (pa_cons (pe_bltn (v := .ty "list") (u := .type "list") (by rfl) T.f_list (by decide +kernel) rfl) (pa_cons (pe_bltn (v := .ty "tuple") (u := .type "tuple") (by rfl) T.f_tuple (by decide +kernel) rfl) pa_nil))) pa_nil)))) (pw_and1 (pt_val (pe_callB call_isiT (by rfl) T.f_isinstance (by decide +kernel) (pa_cons (pv 1) (pa_cons (pe_tup (pa_cons (pe_bltn (v := .ty "list") (u := .type "list") (by rfl) T.f_list (by decide +kernel) rfl) (pa_cons (pe_bltn (v := .ty "tuple") (u := .type "tuple") (by rfl) T.f_tuple (by decide +kernel) rfl) pa_nil))) pa_nil))))))) (pss_cons (ps_if (PW.pt (pw_or (pt_cmpR op_ne (pe_callB call_isi (by rfl) T.f_isinstance (by decide +kernel) (pa_cons (pv 0) (pa_cons (pe_bltn (v := .ty "list") (u := .type "list") (by rfl) T.f_list (by decide +kernel) rfl) pa_nil))) (pe_callB call_isi (by rfl) T.f_isinstance (by decide +kernel) (pa_cons (pv 1) (pa_cons (pe_bltn (v := .ty "list") (u := .type "list") (by rfl) T.f_list (by decide +kernel) rfl) pa_nil))) (nomark _)) (pw_or1 (pt_cmpR op_ne (pe_callB call_len_seq (by rfl) T.f_len (by decide +kernel) (pa_cons (pv 0) pa_nil)) (pe_callB call_len_seq (by rfl) T.f_len (by decide +kernel) (pa_cons (pv 1) pa_nil)) (nomark _))))) (pss_one (ps_ret pe_bl)) pss_nil)
      (pss_one (ps_ret (pe_cmpR (op_eqNil rfl hr.units) (pe_lc (own := [("k", 2)]) rfl sc_l_same.nd (pi_range1 (by rfl) T.f_range (pa_cons (pe_callB call_len_seq (by rfl) T.f_len (by decide +kernel) (pa_cons (pv 0) pa_nil)) pa_nil)) (blkOk_by (own := [("k", 2)]) (N := N_l_same) (sc := defScope (top 42)) (by decide +kernel)) (fun _ _ _ _ _ => (pg_name (i := 2) sc_l_same.nd rfl (Or.inl rfl))) (fun _ _ _ _ _ => (pts_one (pt_not (pt_val (pe_c C_l_same hr (by omega) rfl (pa_cons (pe_ix (ixL (K := K) rfl) (pv 0) (pv 2) (fun _ _ => rfl)) (pa_cons (pe_ix (ixL (K := K) rfl) (pv 1) (pv 2) (fun _ _ => rfl)) pa_nil))))))) (fun _ _ _ _ _ => (pv 2))) (pe_lst pa_nil) (nomark _))))) pss_nil)
      (pss_one (ps_ret (pe_and (pe_cmpR op_eq (pe_callB call_isi (by rfl) T.f_isinstance (by decide +kernel) (pa_cons (pv 0) (pa_cons (pe_bltn (v := .ty "bool") (u := .type "bool") (by rfl) T.f_bool (by decide +kernel) rfl) pa_nil))) (pe_callB call_isi (by rfl) T.f_isinstance (by decide +kernel) (pa_cons (pv 1) (pa_cons (pe_bltn (v := .ty "bool") (u := .type "bool") (by rfl) T.f_bool (by decide +kernel) rfl) pa_nil))) (nomark _)) (pe_one (pe_cmpR (op_eqTh R_eq T.rc T.nf_Ratio (fun r q dx dq i H Q h1 h2 h3 => ⟨r, dx, i, .ref q, rfl, h1, .inr ⟨q, dq, i, rfl, h2, by rw [decide_eq_true rfl]; exact h3⟩⟩) hr (by omega)) (pv 0) (pv 1) (nomark _)))))))), ?_⟩
    refine ⟨_, rfl, _, _, _, _, _, rfl, .ty _, At.tyx T.rc h1, Kd.kit T.rc _ (by decide), _, rfl, iteFo rfl ?_⟩
    refine ⟨_, rfl, (by show 2 ≤ sizeLine; decide), fun tp1 ntp => ⟨_, tp1, _, _, _, _, rfl, upd_same, .cons (ClsV.ty _) (.cons (ClsV.ty _) .nil), At.tyx T.rc (At.up h1 (Evl.Ex.new ntp)), Kd.kit2 T.rc _ (by decide) (by decide), _, rfl, iteFo rfl ?_⟩⟩
    have g1 := Evl.Ex.new (o := .tup [.ty "list", .ty "tuple"]) ntp
    have h1 := At.up h1 g1
    have h2 := At.up h2 g1
    refine iteFo rfl ?_
    refine ⟨_, rfl, _, _, _, _, _, rfl, .ty _, At.tyx T.rc h1, Kd.kit T.rc _ (by decide), _, rfl, _, _, _, _, _, rfl, .ty _, At.tyx T.rc h2, Kd.kit T.rc _ (by decide), rfl, _, rfl, iteTo (by simp) ?_⟩
    exact ⟨_, rfl, _, rfl, _, h1, h2, rfl, hQ _ g1⟩
  | int i =>
    refine ⟨_, PSs.nox (pss_cons (ps_if (PW.pt (pw_and (pt_val (pe_callB call_isi (by rfl) T.f_isinstance (by decide +kernel) (pa_cons (pv 0) (pa_cons (pe_bltn (v := .ty "dict") (u := .type "dict") (by rfl) T.f_dict (by decide +kernel) rfl) pa_nil)))) (pw_and1 (pt_val (pe_callB call_isi (by rfl) T.f_isinstance (by decide +kernel) (pa_cons (pv 1) (pa_cons (pe_bltn (v := .ty "dict") (u := .type "dict") (by rfl) T.f_dict (by decide +kernel) rfl) pa_nil))))))) (pss_one (ps_ret (pe_c C_l_same hr (by omega) rfl (pa_cons (LiI.pe_listItems rfl (pv 0) (by rfl) T.f_list (by rfl)) (pa_cons (LiI.pe_listItems rfl (pv 1) (by rfl) T.f_list (by rfl)) pa_nil))))) pss_nil)
      (pss_cons (ps_if (PW.pt (pw_and (pt_val (pe_callB call_isiT (by rfl) T.f_isinstance (by decide +kernel) (pa_cons (pv 0) (pa_cons (pe_tup (pa_cons (pe_bltn (v := .ty "list") (u := .type "list") (by rfl) T.f_list (by decide +kernel) rfl) (pa_cons (pe_bltn (v := .ty "tuple") (u := .type "tuple") (by rfl) T.f_tuple (by decide +kernel) rfl) pa_nil))) pa_nil)))) (pw_and1 (pt_val (pe_callB call_isiT (by rfl) T.f_isinstance (by decide +kernel) (pa_cons (pv 1) (pa_cons (pe_tup (pa_cons (pe_bltn (v := .ty "list") (u := .type "list") (by rfl) T.f_list (by decide +kernel) rfl) (pa_cons (pe_bltn (v := .ty "tuple") (u := .type "tuple") (by rfl) T.f_tuple (by decide +kernel) rfl) pa_nil))) pa_nil))))))) (pss_cons (ps_if (PW.pt (pw_or (pt_cmpR op_ne (pe_callB call_isi (by rfl) T.f_isinstance (by decide +kernel) (pa_cons (pv 0) (pa_cons (pe_bltn (v := .ty "list") (u := .type "list") (by rfl) T.f_list (by decide +kernel) rfl) pa_nil))) (pe_callB call_isi (by rfl) T.f_isinstance (by decide +kernel) (pa_cons (pv 1) (pa_cons (pe_bltn (v := .ty "list") (u := .type "list") (by rfl) T.f_list (by decide +kernel) rfl) pa_nil))) (nomark _)) (pw_or1 (pt_cmpR op_ne (pe_callB call_len_seq (by rfl) T.f_len (by decide +kernel) (pa_cons (pv 0) pa_nil)) (pe_callB call_len_seq (by rfl) T.f_len (by decide +kernel) (pa_cons (pv 1) pa_nil)) (nomark _))))) (pss_one (ps_ret pe_bl)) pss_nil)
      (pss_one (ps_ret (pe_cmpR (op_eqNil rfl hr.units) (pe_lc (own := [("k", 2)]) rfl sc_l_same.nd (pi_range1 (by rfl) T.f_range (pa_cons (pe_callB call_len_seq (by rfl) T.f_len (by decide +kernel) (pa_cons (pv 0) pa_nil)) pa_nil)) (blkOk_by (own := [("k", 2)]) (N := N_l_same) (sc := defScope (top 42)) (by decide +kernel)) (fun _ _ _ _ _ => (pg_name (i := 2) sc_l_same.nd rfl (Or.inl rfl))) (fun _ _ _ _ _ => (pts_one (pt_not (pt_val (pe_c C_l_same hr (by omega) rfl (pa_cons (pe_ix (ixL (K := K) rfl) (pv 0) (pv 2) (fun _ _ => rfl)) (pa_cons (pe_ix (ixL (K := K) rfl) (pv 1) (pv 2) (fun _ _ => rfl)) pa_nil))))))) (fun _ _ _ _ _ => (pv 2))) (pe_lst pa_nil) (nomark _))))) pss_nil)
      (pss_one (ps_ret (pe_and (pe_cmpR op_eq (pe_callB call_isi (by rfl) T.f_isinstance (by decide +kernel) (pa_cons (pv 0) (pa_cons (pe_bltn (v := .ty "bool") (u := .type "bool") (by rfl) T.f_bool (by decide +kernel) rfl) pa_nil))) (pe_callB call_isi (by rfl) T.f_isinstance (by decide +kernel) (pa_cons (pv 1) (pa_cons (pe_bltn (v := .ty "bool") (u := .type "bool") (by rfl) T.f_bool (by decide +kernel) rfl) pa_nil))) (nomark _)) (pe_one (pe_cmpR (op_eqTh R_eq T.rc T.nf_Ratio (fun r q dx dq i H Q h1 h2 h3 => ⟨r, dx, i, .ref q, rfl, h1, .inr ⟨q, dq, i, rfl, h2, by rw [decide_eq_true rfl]; exact h3⟩⟩) hr (by omega)) (pv 0) (pv 1) (nomark _)))))))), ?_⟩
    refine ⟨_, rfl, _, _, _, _, _, rfl, .ty _, At.tyx T.rc h1, Kd.kit T.rc _ (by decide), _, rfl, iteFo rfl ?_⟩
    refine ⟨_, rfl, (by show 2 ≤ sizeLine; decide), fun tp1 ntp => ⟨_, tp1, _, _, _, _, rfl, upd_same, .cons (ClsV.ty _) (.cons (ClsV.ty _) .nil), At.tyx T.rc (At.up h1 (Evl.Ex.new ntp)), Kd.kit2 T.rc _ (by decide) (by decide), _, rfl, iteFo rfl ?_⟩⟩
    have g1 := Evl.Ex.new (o := .tup [.ty "list", .ty "tuple"]) ntp
    have h1 := At.up h1 g1
    have h2 := At.up h2 g1
    refine iteFo rfl ?_
    refine ⟨_, rfl, _, _, _, _, _, rfl, .ty _, At.tyx T.rc h1, Kd.kit T.rc _ (by decide), _, rfl, _, _, _, _, _, rfl, .ty _, At.tyx T.rc h2, Kd.kit T.rc _ (by decide), rfl, _, rfl, iteTo (by simp) ?_⟩
    exact ⟨_, rfl, _, rfl, _, h1, h2, rfl, hQ _ g1⟩
  | str z =>
    refine ⟨_, PSs.nox (pss_cons (ps_if (PW.pt (pw_and (pt_val (pe_callB call_isi (by rfl) T.f_isinstance (by decide +kernel) (pa_cons (pv 0) (pa_cons (pe_bltn (v := .ty "dict") (u := .type "dict") (by rfl) T.f_dict (by decide +kernel) rfl) pa_nil)))) (pw_and1 (pt_val (pe_callB call_isi (by rfl) T.f_isinstance (by decide +kernel) (pa_cons (pv 1) (pa_cons (pe_bltn (v := .ty "dict") (u := .type "dict") (by rfl) T.f_dict (by decide +kernel) rfl) pa_nil))))))) (pss_one (ps_ret (pe_c C_l_same hr (by omega) rfl (pa_cons (LiI.pe_listItems rfl (pv 0) (by rfl) T.f_list (by rfl)) (pa_cons (LiI.pe_listItems rfl (pv 1) (by rfl) T.f_list (by rfl)) pa_nil))))) pss_nil)
      (pss_cons (ps_if (PW.pt (pw_and (pt_val (pe_callB call_isiT (by rfl) T.f_isinstance (by decide +kernel) (pa_cons (pv 0) (pa_cons (pe_tup (pa_cons (pe_bltn (v := .ty "list") (u := .type "list") (by rfl) T.f_list (by decide +kernel) rfl) (pa_cons (pe_bltn (v := .ty "tuple") (u := .type "tuple") (by rfl) T.f_tuple (by decide +kernel) rfl) pa_nil))) pa_nil)))) (pw_and1 (pt_val (pe_callB call_isiT (by rfl) T.f_isinstance (by decide +kernel) (pa_cons (pv 1) (pa_cons (pe_tup (pa_cons (pe_bltn (v := .ty "list") (u := .type "list") (by rfl) T.f_list (by decide +kernel) rfl) (pa_cons (pe_bltn (v := .ty "tuple") (u := .type "tuple") (by rfl) T.f_tuple (by decide +kernel) rfl) pa_nil))) pa_nil))))))) (pss_cons (ps_if (PW.pt (pw_or (pt_cmpR op_ne (pe_callB call_isi (by rfl) T.f_isinstance (by decide +kernel) (pa_cons (pv 0) (pa_cons (pe_bltn (v := .ty "list") (u := .type "list") (by rfl) T.f_list (by decide +kernel) rfl) pa_nil))) (pe_callB call_isi (by rfl) T.f_isinstance (by decide +kernel) (pa_cons (pv 1) (pa_cons (pe_bltn (v := .ty "list") (u := .type "list") (by rfl) T.f_list (by decide +kernel) rfl) pa_nil))) (nomark _)) (pw_or1 (pt_cmpR op_ne (pe_callB call_len_seq (by rfl) T.f_len (by decide +kernel) (pa_cons (pv 0) pa_nil)) (pe_callB call_len_seq (by rfl) T.f_len (by decide +kernel) (pa_cons (pv 1) pa_nil)) (nomark _))))) (pss_one (ps_ret pe_bl)) pss_nil)
      (pss_one (ps_ret (pe_cmpR (op_eqNil rfl hr.units) (pe_lc (own := [("k", 2)]) rfl sc_l_same.nd (pi_range1 (by rfl) T.f_range (pa_cons (pe_callB call_len_seq (by rfl) T.f_len (by decide +kernel) (pa_cons (pv 0) pa_nil)) pa_nil)) (blkOk_by (own := [("k", 2)]) (N := N_l_same) (sc := defScope (top 42)) (by decide +kernel)) (fun _ _ _ _ _ => (pg_name (i := 2) sc_l_same.nd rfl (Or.inl rfl))) (fun _ _ _ _ _ => (pts_one (pt_not (pt_val (pe_c C_l_same hr (by omega) rfl (pa_cons (pe_ix (ixL (K := K) rfl) (pv 0) (pv 2) (fun _ _ => rfl)) (pa_cons (pe_ix (ixL (K := K) rfl) (pv 1) (pv 2) (fun _ _ => rfl)) pa_nil))))))) (fun _ _ _ _ _ => (pv 2))) (pe_lst pa_nil) (nomark _))))) pss_nil)
      (pss_one (ps_ret (pe_and (pe_cmpR op_eq (pe_callB call_isi (by rfl) T.f_isinstance (by decide +kernel) (pa_cons (pv 0) (pa_cons (pe_bltn (v := .ty "bool") (u := .type "bool") (by rfl) T.f_bool (by decide +kernel) rfl) pa_nil))) (pe_callB call_isi (by rfl) T.f_isinstance (by decide +kernel) (pa_cons (pv 1) (pa_cons (pe_bltn (v := .ty "bool") (u := .type "bool") (by rfl) T.f_bool (by decide +kernel) rfl) pa_nil))) (nomark _)) (pe_one (pe_cmpR (op_eqTh R_eq T.rc T.nf_Ratio (fun r q dx dq i H Q h1 h2 h3 => ⟨r, dx, i, .ref q, rfl, h1, .inr ⟨q, dq, i, rfl, h2, by rw [decide_eq_true rfl]; exact h3⟩⟩) hr (by omega)) (pv 0) (pv 1) (nomark _)))))))), ?_⟩
    refine ⟨_, rfl, _, _, _, _, _, rfl, .ty _, At.tyx T.rc h1, Kd.kit T.rc _ (by decide), _, rfl, iteFo rfl ?_⟩
    refine ⟨_, rfl, (by show 2 ≤ sizeLine; decide), fun tp1 ntp => ⟨_, tp1, _, _, _, _, rfl, upd_same, .cons (ClsV.ty _) (.cons (ClsV.ty _) .nil), At.tyx T.rc (At.up h1 (Evl.Ex.new ntp)), Kd.kit2 T.rc _ (by decide) (by decide), _, rfl, iteFo rfl ?_⟩⟩
    have g1 := Evl.Ex.new (o := .tup [.ty "list", .ty "tuple"]) ntp
    have h1 := At.up h1 g1
    have h2 := At.up h2 g1
    refine iteFo rfl ?_
    refine ⟨_, rfl, _, _, _, _, _, rfl, .ty _, At.tyx T.rc h1, Kd.kit T.rc _ (by decide), _, rfl, _, _, _, _, _, rfl, .ty _, At.tyx T.rc h2, Kd.kit T.rc _ (by decide), rfl, _, rfl, iteTo (by simp) ?_⟩
    exact ⟨_, rfl, _, rfl, _, h1, h2, rfl, hQ _ g1⟩
  | rat i =>
    refine ⟨_, PSs.nox (pss_cons (ps_if (PW.pt (pw_and (pt_val (pe_callB call_isi (by rfl) T.f_isinstance (by decide +kernel) (pa_cons (pv 0) (pa_cons (pe_bltn (v := .ty "dict") (u := .type "dict") (by rfl) T.f_dict (by decide +kernel) rfl) pa_nil)))) (pw_and1 (pt_val (pe_callB call_isi (by rfl) T.f_isinstance (by decide +kernel) (pa_cons (pv 1) (pa_cons (pe_bltn (v := .ty "dict") (u := .type "dict") (by rfl) T.f_dict (by decide +kernel) rfl) pa_nil))))))) (pss_one (ps_ret (pe_c C_l_same hr (by omega) rfl (pa_cons (LiI.pe_listItems rfl (pv 0) (by rfl) T.f_list (by rfl)) (pa_cons (LiI.pe_listItems rfl (pv 1) (by rfl) T.f_list (by rfl)) pa_nil))))) pss_nil)
      (pss_cons (ps_if (PW.pt (pw_and (pt_val (pe_callB call_isiT (by rfl) T.f_isinstance (by decide +kernel) (pa_cons (pv 0) (pa_cons (pe_tup (pa_cons (pe_bltn (v := .ty "list") (u := .type "list") (by rfl) T.f_list (by decide +kernel) rfl) (pa_cons (pe_bltn (v := .ty "tuple") (u := .type "tuple") (by rfl) T.f_tuple (by decide +kernel) rfl) pa_nil))) pa_nil)))) (pw_and1 (pt_val (pe_callB call_isiT (by rfl) T.f_isinstance (by decide +kernel) (pa_cons (pv 1) (pa_cons (pe_tup (pa_cons (pe_bltn (v := .ty "list") (u := .type "list") (by rfl) T.f_list (by decide +kernel) rfl) (pa_cons (pe_bltn (v := .ty "tuple") (u := .type "tuple") (by rfl) T.f_tuple (by decide +kernel) rfl) pa_nil))) pa_nil))))))) (pss_cons (ps_if (PW.pt (pw_or (pt_cmpR op_ne (pe_callB call_isi (by rfl) T.f_isinstance (by decide +kernel) (pa_cons (pv 0) (pa_cons (pe_bltn (v := .ty "list") (u := .type "list") (by rfl) T.f_list (by decide +kernel) rfl) pa_nil))) (pe_callB call_isi (by rfl) T.f_isinstance (by decide +kernel) (pa_cons (pv 1) (pa_cons (pe_bltn (v := .ty "list") (u := .type "list") (by rfl) T.f_list (by decide +kernel) rfl) pa_nil))) (nomark _)) (pw_or1 (pt_cmpR op_ne (pe_callB call_len_seq (by rfl) T.f_len (by decide +kernel) (pa_cons (pv 0) pa_nil)) (pe_callB call_len_seq (by rfl) T.f_len (by decide +kernel) (pa_cons (pv 1) pa_nil)) (nomark _))))) (pss_one (ps_ret pe_bl)) pss_nil)
      (pss_one (ps_ret (pe_cmpR (op_eqNil rfl hr.units) (pe_lc (own := [("k", 2)]) rfl sc_l_same.nd (pi_range1 (by rfl) T.f_range (pa_cons (pe_callB call_len_seq (by rfl) T.f_len (by decide +kernel) (pa_cons (pv 0) pa_nil)) pa_nil)) (blkOk_by (own := [("k", 2)]) (N := N_l_same) (sc := defScope (top 42)) (by decide +kernel)) (fun _ _ _ _ _ => (pg_name (i := 2) sc_l_same.nd rfl (Or.inl rfl))) (fun _ _ _ _ _ => (pts_one (pt_not (pt_val (pe_c C_l_same hr (by omega) rfl (pa_cons (pe_ix (ixL (K := K) rfl) (pv 0) (pv 2) (fun _ _ => rfl)) (pa_cons (pe_ix (ixL (K := K) rfl) (pv 1) (pv 2) (fun _ _ => rfl)) pa_nil))))))) (fun _ _ _ _ _ => (pv 2))) (pe_lst pa_nil) (nomark _))))) pss_nil)
      (pss_one (ps_ret (pe_and (pe_cmpR op_eq (pe_callB call_isi (by rfl) T.f_isinstance (by decide +kernel) (pa_cons (pv 0) (pa_cons (pe_bltn (v := .ty "bool") (u := .type "bool") (by rfl) T.f_bool (by decide +kernel) rfl) pa_nil))) (pe_callB call_isi (by rfl) T.f_isinstance (by decide +kernel) (pa_cons (pv 1) (pa_cons (pe_bltn (v := .ty "bool") (u := .type "bool") (by rfl) T.f_bool (by decide +kernel) rfl) pa_nil))) (nomark _)) (pe_one (pe_cmpR (op_eqTh R_eq T.rc T.nf_Ratio (fun r q dx dq i H Q h1 h2 h3 => ⟨r, dx, i, .ref q, rfl, h1, .inr ⟨q, dq, i, rfl, h2, by rw [decide_eq_true rfl]; exact h3⟩⟩) hr (by omega)) (pv 0) (pv 1) (nomark _)))))))), ?_⟩
    refine ⟨_, rfl, _, _, _, _, _, rfl, .ty _, At.tyx T.rc h1, Kd.kit T.rc _ (by decide), _, rfl, iteFo rfl ?_⟩
    refine ⟨_, rfl, (by show 2 ≤ sizeLine; decide), fun tp1 ntp => ⟨_, tp1, _, _, _, _, rfl, upd_same, .cons (ClsV.ty _) (.cons (ClsV.ty _) .nil), At.tyx T.rc (At.up h1 (Evl.Ex.new ntp)), Kd.kit2 T.rc _ (by decide) (by decide), _, rfl, iteFo rfl ?_⟩⟩
    have g1 := Evl.Ex.new (o := .tup [.ty "list", .ty "tuple"]) ntp
    have h1 := At.up h1 g1
    have h2 := At.up h2 g1
    refine iteFo rfl ?_
    refine ⟨_, rfl, _, _, _, _, _, rfl, .ty _, At.tyx T.rc h1, Kd.kit T.rc _ (by decide), _, rfl, _, _, _, _, _, rfl, .ty _, At.tyx T.rc h2, Kd.kit T.rc _ (by decide), rfl, _, rfl, iteTo (by simp) ?_⟩
    exact ⟨_, rfl, _, rfl, _, h1, h2, rfl, hQ _ g1⟩
  -- 
theorem ok_l_same (T : Txt K mg) (R_eq : Spc P w K mg base 2 (He.ga K "Ratio") "__eq__" (spRatEq K)) : ∀ n, Cal P w K mg base (n + 4) "_law_same" (spSame K n) []
  | 0 => ok0_l_same T
  | n + 1 => st_l_same T R_eq (ok_l_same T R_eq n)

end
end K05
namespace K05
open PySem PySem.Spec PyProof.Rows L2 C8
/-- what is known grows by new objects alone -/
structure Kn (Hb H Hb' H' : Hp) : Prop where
  kb : Ex Hb Hb'
  bh : Ex Hb' H'
  hh : Ex H H'
  nw : ∀ p, H p ≠ none → Hb p = none → Hb' p = none
theorem Kn.refl {Hb H : Hp} (e : Ex Hb H) : Kn Hb H Hb H := ⟨Evl.Ex.refl _, e, Evl.Ex.refl _, fun _ _ h => h⟩
theorem some_up {H H' : Hp} {p : Addr} (e : Ex H H') (h : H p ≠ none) : H' p ≠ none := by
  cases q : H p with
  | none => exact absurd q h
  | some o => rw [e _ _ q]; intro z; cases z
theorem Kn.trans {Hb H Hb1 H1 Hb2 H2 : Hp} (a : Kn Hb H Hb1 H1) (b : Kn Hb1 H1 Hb2 H2) : Kn Hb H Hb2 H2 :=
  ⟨a.kb.trans b.kb, b.bh, a.hh.trans b.hh, fun p h1 h2 => b.nw p (some_up a.hh h1) (a.nw p h1 h2)⟩
/-- a new object is known from now on -/
theorem Kn.new {Hb H : Hp} {p : Addr} {o : HO} (e : Ex Hb H) (h : H p = none) : Kn Hb H (upd Hb p o) (upd H p o) := by
  have hb : Hb p = none := by
    cases q : Hb p with
    | none => rfl
    | some u => rw [e _ _ q] at h; cases h
  refine ⟨Evl.Ex.new hb, fun a u q => ?_, Evl.Ex.new h, fun q h1 h2 => ?_⟩
  · by_cases c : a = p
    · subst c
      rw [upd_same] at q ⊢
      exact q
    · rw [upd_ne c] at q ⊢
      exact e _ _ q
  · rw [upd_ne (fun z => h1 (by rw [z]; exact h))]
    exact h2
/-- .. not known -/
theorem Kn.skip {Hb H : Hp} {p : Addr} {o : HO} (e : Ex Hb H) (h : H p = none) : Kn Hb H Hb (upd H p o) := ⟨Evl.Ex.refl _, e.trans (Evl.Ex.new h), Evl.Ex.new h, fun _ _ h => h⟩
section
variable {P : Program} {w : World} {K : PySem.W.Frag} {mg : Str → Option Value} {base : Heap}
abbrev N_l_copy : List Str := ["thing", "part"]
theorem sc_l_copy : FnScope N_l_copy ["thing"] (defScope (top 43)) := ⟨rfl, rfl, rfl, by decide +kernel, rfl, by decide +kernel, by decide +kernel⟩
/-- a copy: lists are made anew -/
def spCopy (K : PySem.W.Frag) (n : Nat) : Sp := fun vs H Q _ => ∃ (Hb : Hp) (v : V) (d : Th), vs = [v] ∧ Ex Hb H ∧ AtK5 K Hb v d ∧ dep d < n ∧ n ≤ 1000 ∧
  ∀ Hb' v' H', Kn Hb H Hb' H' → AtK5 K Hb' v' d → (d.kd ≠ .lst → v' = v) → (d.kd = .lst → ∃ a, v' = .ref a ∧ H a = none) → Q v' H'
theorem noCopy {K : PySem.W.Frag} {vs : List V} {H : Hp} {Q : VK} {E : XK} (h : spCopy K 0 vs H Q E) : False := by
  obtain ⟨_, _, _, _, _, _, h, _⟩ := h
  omega
theorem ok0_l_copy (T : Txt K mg) : Cal P w K mg base 1 "_law_copy" (spCopy K 0) [] := by
  obtain ⟨fd, F⟩ := T.d__law_copy
  refine ⟨_, fd, ["thing"], [], ?_, T.g__law_copy, F.kp, F.bindsN fun _ _ _ _ _ _ us hl => match us, hl with | [_], _ => rfl, .nil⟩
  refine F.ok sc_l_copy (fun vs H Q E h => False.elim (noCopy h)) (fun cdv A outer s H vs Q E hr h => False.elim (noCopy h))
theorem st_l_copy (T : Txt K mg)  {n : Nat} (C_l_copy : Cal P w K mg base (n + 1) "_law_copy" (spCopy K n) []) : Cal P w K mg base (n + 2) "_law_copy" (spCopy K (n + 1)) [] := by
  obtain ⟨fd, F⟩ := T.d__law_copy
  refine ⟨_, fd, ["thing"], [], ?_, T.g__law_copy, F.kp, F.bindsN fun _ _ _ _ _ _ us hl => match us, hl with | [_], _ => rfl, .nil⟩
  refine F.ok sc_l_copy (fun vs H Q E h => by obtain ⟨_, _, _, rfl, _⟩ := h; rfl) (fun cdv A outer s H vs Q E hr h => ?_)
  have hu := hu_of hr
  refine ⟨_, PSs.nox (pss_one (ps_ret (pe_ifExp (pt_val (pe_callB call_isi (by rfl) T.f_isinstance (by decide +kernel) (pa_cons (pv 0) (pa_cons (pe_bltn (v := .ty "list") (u := .type "list") (by rfl) T.f_list (by decide +kernel) rfl) pa_nil)))) (pe_lc (own := [("part", 1)]) rfl sc_l_copy.nd (pi_list (pv 0)) (blkOk_by (own := [("part", 1)]) (N := N_l_copy) (sc := defScope (top 43)) (by decide +kernel)) (fun _ _ _ _ _ => (pg_name (i := 1) sc_l_copy.nd rfl (Or.inl rfl))) (fun _ _ _ _ _ => pts_nil) (fun _ _ _ _ _ => (pe_c C_l_copy hr (by omega) rfl (pa_cons (pv 1) pa_nil)))) (pv 0)))), ?_⟩
  obtain ⟨Hb, v, d, rfl, eb, hv, hd, hn, hQ⟩ := h
  have hv1 := At.up hv eb
  refine ⟨_, rfl, _, _, _, _, _, rfl, .ty _, At.tyx T.rc hv1, Kd.kit T.rc _ (by decide), _, rfl, ?_⟩
  cases d with
  | lst l =>
    refine iteTo rfl ?_
    obtain ⟨a, xs, rfl, ha, hxs⟩ := at_lst hv
    have lx := hxs.len
    have dl : dep (.lst l) = depA l + l.length + 1 := rfl
    have lim : 1000 < sizeLine := by decide
    refine ⟨_, rfl, a, rfl, ⟨_, SqL.of (eb _ _ ha)⟩, fun D hD => ?_⟩
    have hbD : Hb D = none := by
      cases q : Hb D with
      | none => rfl
      | some u => rw [eb _ _ q] at hD; cases hD
    refine lc_it (walk_list (xs := xs)) (fun i H2 => ∃ Hb2 ys, Ex Hb Hb2 ∧ Ex Hb2 H2 ∧ Ex H H2 ∧ (∀ p, H p ≠ none → Hb p = none → Hb2 p = none) ∧ Hb2 D = none ∧ H2 D = some (.lst ys) ∧ AtA (He.ga K "Ratio") Hb2 ys (l.take i) ∧ ys.length = i)
      ⟨Hb, [], Evl.Ex.refl _, eb.trans (Evl.Ex.new hD), Evl.Ex.new hD, fun _ _ h => h, hbD, upd_same, .nil, rfl⟩ (fun i H2 _ ⟨Hb2, _, k1, k2, _⟩ => SqL.of (k2 _ _ (k1 _ _ ha))) ?_ ?_
    · rintro i x H2 H2' hi ⟨Hb2, ys, k1, k2, k3, k4, k5, k6, k7, rfl⟩ ⟨rfl, hx⟩
      obtain ⟨d2, hd2, hax⟩ := hxs.get hx
      have dd := depA_get hd2
      refine ⟨rfl, ?_⟩
      refine ⟨_, rfl, Hb2, x, d2, rfl, k2, hax.up k1, by omega, by omega, fun Hb3 v3 H3 kn hv3 _ _ => ?_⟩
      have n3 : Hb3 D = none := kn.nw D (by rw [k6]; intro z; cases z) k5
      refine ⟨ys, kn.hh _ _ k6, by omega, Hb3, ys ++ [v3], k1.trans kn.kb, Evl.Ex.mut kn.bh n3, Evl.Ex.mut (k3.trans kn.hh) hD, fun p h1 h2 => kn.nw p (some_up k3 h1) (k4 p h1 h2), n3, upd_same, ?_, by simp⟩
      rw [List.take_succ, hd2]
      exact (k7.up kn.kb).app (.cons hv3 .nil)
    · rintro H2 ⟨Hb2, ys, k1, k2, k3, k4, k5, k6, k7, _⟩
      rw [List.take_of_length_le (by omega)] at k7
      refine hQ (upd Hb2 D (.lst ys)) (.ref D) H2 ⟨k1.trans (Evl.Ex.new k5), fun q u hq => ?_, k3, fun p h1 h2 => ?_⟩ (.lst upd_same (k7.up (Evl.Ex.new k5))) (fun z => absurd rfl z) (fun _ => ⟨D, rfl, hD⟩)
      · by_cases c : q = D
        · subst c
          rw [upd_same] at hq
          rw [k6]
          exact hq
        · rw [upd_ne c] at hq
          exact k2 _ _ hq
      · rw [upd_ne (fun z => h1 (by rw [z]; exact hD))]
        exact k4 p h1 h2
  | non => exact iteFo rfl ⟨_, rfl, hQ Hb _ H (Kn.refl eb) hv (fun _ => rfl) (fun z => by cases z)⟩
  | bl b => exact iteFo rfl ⟨_, rfl, hQ Hb _ H (Kn.refl eb) hv (fun _ => rfl) (fun z => by cases z)⟩
  | int i => exact iteFo rfl ⟨_, rfl, hQ Hb _ H (Kn.refl eb) hv (fun _ => rfl) (fun z => by cases z)⟩
  | str z => exact iteFo rfl ⟨_, rfl, hQ Hb _ H (Kn.refl eb) hv (fun _ => rfl) (fun z => by cases z)⟩
  | rat i => exact iteFo rfl ⟨_, rfl, hQ Hb _ H (Kn.refl eb) hv (fun _ => rfl) (fun z => by cases z)⟩
  | tup l => exact iteFo rfl ⟨_, rfl, hQ Hb _ H (Kn.refl eb) hv (fun _ => rfl) (fun z => by cases z)⟩
  | dic l => exact iteFo rfl ⟨_, rfl, hQ Hb _ H (Kn.refl eb) hv (fun _ => rfl) (fun z => by cases z)⟩
theorem ok_l_copy (T : Txt K mg)  : ∀ n, Cal P w K mg base (n + 1) "_law_copy" (spCopy K n) []
  | 0 => ok0_l_copy T
  | n + 1 => st_l_copy T  (ok_l_copy T  n)

end
end K05
set_option Elab.async false
set_option linter.all false
set_option maxRecDepth 100000
set_option maxHeartbeats 1000000
/-! HxH: a row of clauses, with names and without -/
namespace L2
open PySem PySem.Spec PyProof.Rows
/-- a clause: its class, the slot of its name if it has one, its suite -/
abbrev ClaX := Value × Option Nat × (Addr → Value → Option Addr → TS)
/-- the ends of a suite behind which slot i is empty again -/
def Ends.less (D : Ends) (i : Nat) : Ends := { nx := fun σ H => D.nx (σ.set i none) H, rt := D.rt, bk := fun σ H => D.bk (σ.set i none) H, ct := fun σ H => D.ct (σ.set i none) H }
def goIn (D : Ends) : Option Nat → Ends
  | some i => D.less i
  | none => D
def atIn (σ : St) (a : Addr) : Option Nat → St
  | some i => σ.set i (some (.ref a))
  | none => σ
def wRowX (K : PySem.W.Frag) (Wo : WX) (D : Ends) : List ClaX → WX
  | [] => Wo
  | z :: r => fun cls d σ H => ∃ b, PySem.W.exmOne K cls z.1 = some b ∧
      (b = true → ∀ a, H a = none → z.2.2 a cls d (goIn D z.2.1) (atIn σ a z.2.1) H) ∧ (b = false → wRowX K Wo D r cls d σ H)
inductive RowXOk (X : Cx) : List ExceptHandler → List ClaX → Prop
  | nil : RowXOk X [] []
  | cons {x n : Str} {c : Value} {i : Nat} {ts : Addr → Value → Option Addr → TS} {b₀ : Stmt} {more : List Stmt} {p1 p2 : Pos} {hds : List ExceptHandler} {l : List ClaX} (nm : Names X x c) (at_ : X.N[i]? = some n) (lo : X.env.kindOf n = some .local)
      (su : ∀ (a : Addr) (oe : Obj) (cls : Value) (d : Option Addr) (pn : List (Addr × Obj)), Zc cls d oe → (∃ vs, oe.data = .fields vs) → PSs (X.suite a ((a, oe) :: pn)) (b₀ :: more) (ts a cls d)) (r : RowXOk X hds l) :
      RowXOk X (.ExceptHandler (some (.Name x p1)) (some n) (b₀ :: more) p2 :: hds) ((c, some i, ts) :: l)
  | bare {x : Str} {c : Value} {ts : Addr → Value → Option Addr → TS} {b₀ : Stmt} {more : List Stmt} {p1 p2 : Pos} {hds : List ExceptHandler} {l : List ClaX} (nm : Names X x c)
      (su : ∀ (a : Addr) (oe : Obj) (cls : Value) (d : Option Addr) (pn : List (Addr × Obj)), Zc cls d oe → (∃ vs, oe.data = .fields vs) → PSs (X.suite a ((a, oe) :: pn)) (b₀ :: more) (ts a cls d)) (r : RowXOk X hds l) :
      RowXOk X (.ExceptHandler (some (.Name x p1)) none (b₀ :: more) p2 :: hds) ((c, none, ts) :: l)
section
variable {X : Cx} {body : List Stmt} {h1 : ExceptHandler} {hds : List ExceptHandler} {l : List ClaX} {pos : Pos} {tb : WX → TS} {Wo : WX}
theorem ps_try_rowX (st : X.stack = X.env :: X.outer) (fr : X.env.frame = some X.env.locals) (nd : X.N.Nodup) (tk : Takes X Wo)
    (hb : ∀ (W : WX) (pn : List (Addr × Obj)) (xe : Value → Shared → Prop), Takes (X.tr pn xe) W → PassesOwn (model X.prog X.w) X.A X.env xe → PSs (X.tr pn xe) body (tb W))
    (ro : RowXOk X (h1 :: hds) l) : PS X (.Try body (h1 :: hds) [] [] pos) (fun D σ H => tb (wRowX X.K Wo D l) D σ H) := by
  constructor
  intro pins s σ H D I wish
  have k := I.ok
  have frames := (k.frames).trans (congrArg some st)
  have run := hb (wRowX X.K Wo D l) (X.pn ++ pins) (fun e t1 => wpAny (model X.prog X.w) X.A (noteFrame e X.env) (fun _ t2 => wpAny (model X.prog X.w) X.A (setFlight e none) (fun _ t3 => wpAny (model X.prog X.w) X.A (handleBy e X.env (h1 :: hds)) (SP X pins D) X.xe t3) X.xe t2) X.xe t1)
  apply wpAny_Try_except
  refine wpAny_mono ((run (fun u t0 caught => ?_) PassesOwn.looking).run [] s σ H D (I.toTry _) wish) (fun f t0 good => ?_) (fun e t0 z => z)
  · obtain ⟨a, B, sI, pins', τ, G, cls, d, rfl, Jt, nb, up, sky, na, os, ag, w⟩ := caught
    have J := Jt.ofTry k
    rw [st] at sky
    show wpAny (model X.prog X.w) X.A (noteFrame (.ref a) X.env) _ _ _
    refine Sky.land Zc.steady frames fr sky fun q3 fl3 up3 => ?_
    have J3 : Inv X pins τ G { t0 with heap := q3 } := J.landed nb fl3.1 (up.trans up3) os ag
    obtain ⟨e3, v3, ge3, z3, dt3⟩ := fl3.there
    have away : a ∉ frs (X.env :: X.outer) := by
      intro hm
      obtain ⟨_, e', g', no⟩ := fl3.2.2.1.mem hm
      exact no _ ((Option.some.inj (ge3.symm.trans g')) ▸ dt3)
    have nL : a ≠ X.env.locals := by
      intro z
      exact away (List.mem_filterMap.mpr ⟨X.env, List.mem_cons_self, by rw [fr, z]⟩)
    have nF : a ∉ X.fs := by
      intro hm
      obtain ⟨e, he, q⟩ := List.mem_filterMap.mp hm
      exact away (List.mem_filterMap.mpr ⟨e, List.mem_cons_of_mem _ he, q⟩)
    have S3 := J3.suite ge3 dt3 na nL nF
    suffices go : ∀ {cs : List ExceptHandler} {m : List ClaX}, RowXOk X cs m → wRowX X.K Wo D m cls d τ G → wpAny (model X.prog X.w) X.A (handleBy (.ref a) X.env cs) (SP X pins D) X.xe { t0 with heap := q3 } from go ro w
    intro cs m rk
    induction rk with
    | nil =>
      intro w
      apply wpAny_handleBy_nil
      obtain ⟨_, _, _, oe, vs, T, oT, ts', he, _, hd, hT, _⟩ := id fl3
      unfold PySem.passOn
      refine wpAny_bind (wpAny_field he hd hT ?_)
      rw [if_neg (by simp : ¬ ((Value.ref T == Value.none) = true))]
      have out : wpAny (model X.prog X.w) X.A (setFlight (.ref a) X.env.frame) (fun _ t4 => wpAny (model X.prog X.w) X.A (throw (.ref a) : Sem Flow) (SP X pins D) X.xe t4) X.xe { t0 with heap := q3 } := by
        rw [fr]
        exact HandSPX.setFlight_upZ fl3 fun q4 hq4 up4 => wpAny_throw (tk _ _ ⟨a, B, sI, pins, τ, G, cls, d, rfl, J, nb, (up.trans up3).trans up4, .inr (.inr (by rw [st]; exact hq4)), na, os, ag, w⟩)
      first
        | exact wpAny_bind (wpAny_pure (wpAny_bind out))
        | exact wpAny_bind out
    | @cons x n cc ii ts b₀ more p1 p2 rest m2 nm at_ lo su r ih =>
      rintro ⟨b, is, yes, no⟩
      refine wpAny_handleBy_cons (codeAny_handlers_test ?_) (by intro q; cases q)
      have look : PySem.W.Looks (model X.prog X.w) q3 (typeOf (.ref a)) cls := fun _ _ _ _ kk q => wpAny_typeOf_ref (kk _ _ ge3) (z3.1 ▸ q)
      have fits := PySem.W.exm_one (M := model X.prog X.w) (J3.kIn) look is
      have load : ∀ {Q E : Value → Shared → Prop}, Q cc { t0 with heap := q3 } → wpAny (model X.prog X.w) (X.A.mark (some (.ref a))) (eval (.Name x p1) X.env) Q E { t0 with heap := q3 } := by
        intro Q E q
        rcases nm with ⟨g, dbg, own | ⟨own, boot, ne⟩⟩
        · exact ld_glob (X := X.suite a ((a, e3) :: (X.pn ++ pins))) S3 g own q dbg
        · exact ld_blt (X := X.suite a ((a, e3) :: (X.pn ++ pins))) S3 g own boot q ne dbg
      refine load (fits.here ?_)
      cases b with
      | false =>
        show wpAny _ X.A (handleBy (.ref a) X.env rest) _ _ _
        exact ih (no rfl)
      | true =>
        apply codeAny_handlers_suite_as
        refine HandSPX.lands_againZ fl3 fun q4 fl4 up4 => ?_
        have J4 : Inv X pins τ G { t0 with heap := q4 } := J.landed nb fl4.1 ((up.trans up3).trans up4) os ag
        obtain ⟨e4, v4, ge4, z4, dt4⟩ := fl4.there
        refine store_ok (X := X.suite a ((a, e4) :: (X.pn ++ pins))) (v := .ref a) (J4.suite ge4 dt4 na nL nF) nd at_ (.inl lo) rfl (fun t5 S5 => ?_) (.inr lo)
        refine wpAny_mono ((su a e4 cls d (X.pn ++ pins) z4 ⟨_, dt4⟩).run [] t5 _ G _ S5 (yes rfl a na)) (fun f t6 done => ?_) (fun _ _ q => False.elim q)
        have leave : ∀ {τ6 : St} {G6 : Hp} {Q : Shared → Prop}, Inv (X.suite a ((a, e4) :: (X.pn ++ pins))) [] τ6 G6 t6 → (∀ t7, Inv X pins (τ6.set ii none) G6 t7 → Q t7) →
            wpAny (model X.prog X.w) X.A (do bindName X.env n .none; unbindBehindTheSuite X.env n p2) (fun _ t7 => Q t7) X.xe t6 := by
          intro τ6 G6 Q S6 q
          exact gone_ok (S6.unsuite k) nd at_ lo q
        cases f with
        | ret u => rcases done with ⟨v6, τ6, G6, S6, r6, q6⟩; exact leave S6 fun t7 J7 => ⟨_, _, _, J7, r6, q6⟩
        | next => rcases done with ⟨τ6, G6, S6, q6⟩; exact leave S6 fun t7 J7 => ⟨_, _, J7, q6⟩
        | brk => rcases done with ⟨τ6, G6, S6, q6⟩; exact leave S6 fun t7 J7 => ⟨_, _, J7, q6⟩
        | cont => rcases done with ⟨τ6, G6, S6, q6⟩; exact leave S6 fun t7 J7 => ⟨_, _, J7, q6⟩
    | @bare x cc ts b₀ more p1 p2 rest m2 nm su r ih =>
      rintro ⟨b, is, yes, no⟩
      refine wpAny_handleBy_cons (codeAny_handlers_test ?_) (by intro q; cases q)
      have look : PySem.W.Looks (model X.prog X.w) q3 (typeOf (.ref a)) cls := fun _ _ _ _ kk q => wpAny_typeOf_ref (kk _ _ ge3) (z3.1 ▸ q)
      have fits := PySem.W.exm_one (M := model X.prog X.w) (J3.kIn) look is
      have load : ∀ {Q E : Value → Shared → Prop}, Q cc { t0 with heap := q3 } → wpAny (model X.prog X.w) (X.A.mark (some (.ref a))) (eval (.Name x p1) X.env) Q E { t0 with heap := q3 } := by
        intro Q E q
        rcases nm with ⟨g, dbg, own | ⟨own, boot, ne⟩⟩
        · exact ld_glob (X := X.suite a ((a, e3) :: (X.pn ++ pins))) S3 g own q dbg
        · exact ld_blt (X := X.suite a ((a, e3) :: (X.pn ++ pins))) S3 g own boot q ne dbg
      refine load (fits.here ?_)
      cases b with
      | false =>
        show wpAny _ X.A (handleBy (.ref a) X.env rest) _ _ _
        exact ih (no rfl)
      | true =>
        apply codeAny_handlers_suite
        refine HandSPX.lands_againZ fl3 fun q4 fl4 up4 => ?_
        have J4 : Inv X pins τ G { t0 with heap := q4 } := J.landed nb fl4.1 ((up.trans up3).trans up4) os ag
        obtain ⟨e4, v4, ge4, z4, dt4⟩ := fl4.there
        refine wpAny_mono ((su a e4 cls d (X.pn ++ pins) z4 ⟨_, dt4⟩).run [] _ _ G _ (J4.suite ge4 dt4 na nL nF) (yes rfl a na)) (fun f t6 done => ?_) (fun _ _ q => False.elim q)
        cases f with
        | ret u => rcases done with ⟨v6, τ6, G6, S6, r6, q6⟩; exact ⟨_, _, _, S6.unsuite k, r6, q6⟩
        | next => rcases done with ⟨τ6, G6, S6, q6⟩; exact ⟨_, _, S6.unsuite k, q6⟩
        | brk => rcases done with ⟨τ6, G6, S6, q6⟩; exact ⟨_, _, S6.unsuite k, q6⟩
        | cont => rcases done with ⟨τ6, G6, S6, q6⟩; exact ⟨_, _, S6.unsuite k, q6⟩
  · cases f with
    | ret u => rcases good with ⟨v, τ, G, J, r, q⟩; exact ⟨v, τ, G, J.ofTry k, r, q⟩
    | next => rcases good with ⟨τ, G, J, q⟩; exact wpAny_execs_nil ⟨τ, G, J.ofTry k, q⟩
    | brk => rcases good with ⟨τ, G, J, q⟩; exact ⟨τ, G, J.ofTry k, q⟩
    | cont => rcases good with ⟨τ, G, J, q⟩; exact ⟨τ, G, J.ofTry k, q⟩
end
end L2
set_option Elab.async false
set_option linter.all false
set_option maxRecDepth 100000
set_option maxHeartbeats 8000000
/-! HxW: what runs while the exception p is handled: defs whose promises speak of p, and a list comprehension -/
namespace L2
open PySem PySem.Spec PyProof.Rows C8 HotX
open L2H (RoomH Hot1 PinOk HotC cxH inv_startH PIH PIEH TurnH)

/-- a def called while p is handled; its promise may speak of p -/
structure FnP (p : Addr × Obj) (P : Program) (w : World) (K : PySem.W.Frag) (mg : Str → Option Value) (base : Heap) (k : Nat) (f : Addr) (fd : FuncData) (ps : List Str) (sp : Sp) : Prop where
  len : ∀ vs H Q E, sp vs H Q E → vs.length = ps.length
  run : ∀ (A : Around) (outer : List Env) (s : Shared) (H : Hp) (args : Args) (us : List Value) (vs : List V) (Q : VK), RoomH k A → Hot1 A p → PinOk outer H s p → Env0 P w K mg base A outer s H →
    BindsTo s fd args (ps.zip us) → Vals vs us → sp vs H Q E0 → codeAny (model P w) A (.call (.ref f) args) (CR CX0 outer P w H s Q E0) s
theorem fnP_of {p : Addr × Obj} {P : Program} {w : World} {K : PySem.W.Frag} {mg : Str → Option Value} {base : Heap} {x qual : Str} {params : Arguments} {body : List Stmt} {scope : Scope} {dvs : List V} {kws : List (Str × V)} {f : Addr} {fd : FuncData} {N ps : List Str} {k : Nat} {sp : Sp}
    (F : FunD K x qual params body scope dvs kws f fd) (S : FnScope N ps scope) (len : ∀ vs H Q E, sp vs H Q E → vs.length = ps.length)
    (go : ∀ (cdv : Value) (A : Around) (outer : List Env) (s : Shared) (H : Hp) (vs : List V) (Q : VK), Hot1 A p → RoomH k (A.deeper (envOfC qual scope s.heap.objs.size f cdv)) → sp vs H Q E0 →
      ∃ t, PSs (cxH CX0 P w K mg base N qual scope f cdv A outer s H E0 p) body t ∧ t { nx := fun _ H' => Q .non H', rt := Q } (start N vs) H) : FnP p P w K mg base (k + 1) f fd ps sp := by
  obtain ⟨oc, od, dV, kV, doc, pm, an, cdv, ct, osl, rfl, lk, hcd, _, _⟩ := F.ex
  refine ⟨len, fun A outer s H args us vs Q room hot pin e0 hb r want => ?_⟩
  have count := len _ _ _ _ want
  have kin : K.In s.heap := e0.mod.kin.keeps fun b o e => (e0.bs b o e).1
  have open_ : s.heap.NoLimit := e0.mod.nolimit.keeps fun b o e => (e0.bs b o e).1
  have kinds : ∀ y ∈ ps.zip us, scope.names.lookup y.1 = some .local ∨ (scope.names.lookup y.1 = some .cell ∧ ((cellsFrom (s.heap.objs.size + 1) scope.names []).lookup y.1).isSome = true) := by
    rintro ⟨n, v⟩ hy
    rcases S.par n (List.of_mem_zip hy).1 with q | q
    · exact .inl q
    · exact .inr ⟨q, PySem.W.cellsFrom_some _ _ _ (.inl q)⟩
  refine codeAny_call_function room.depth (kin _ _ lk) rfl S.co S.gen rfl (PySem.W.codeRec_of kin hcd) (hb _ _ _ _ (wpAny_newFunctionEnv_cells S.kind kinds fun env he s1 new => ?_))
  subst he
  refine ⟨open_.keeps new.toInCall.keep, codeAny_func ?_⟩
  obtain ⟨t, ht, hq⟩ := go cdv A outer s H vs Q hot (room.deeper _) want
  have I := inv_startH (CX := CX0) (P := P) (w := w) (E := E0) S pin e0 count r new
  refine wpAny_mono (ht.run [] s1 _ H _ I hq) (fun fl s' done => ?_) fun e s' bad => bad
  cases fl with
  | ret u =>
    obtain ⟨v, σ', H', J, rv, q⟩ := done
    exact ⟨v, H', J.os, J.bare, J.base, J.hok, rv, q⟩
  | next =>
    obtain ⟨σ', H', J, q⟩ := done
    exact ⟨.non, H', J.os, J.bare, J.base, J.hok, rfl, q⟩
  | brk => exact False.elim done.choose_spec.choose_spec.2
  | cont => exact False.elim done.choose_spec.choose_spec.2
/-- .. under its name -/
structure CalP (p : Addr × Obj) (P : Program) (w : World) (K : PySem.W.Frag) (mg : Str → Option Value) (base : Heap) (k : Nat) (x : Str) (sp : Sp) : Prop where
  ex : ∃ f fd ps, FnP p P w K mg base k f fd ps sp ∧ mg x = some (.ref f) ∧ PySem.W.keepIn K (.ref f) = true ∧ Binds K fd ps []
section
variable {X : Cx} {p : Addr × Obj} {j k : Nat} {x : Str} {sp : Sp} {e : Expr} {es : List Expr} {t : TA} {q pos : Pos}
theorem pe_cP (c : CalP p X.prog X.w X.K X.mg X.base k x sp) (hr : RoomH j X.A) (hk : k ≤ j) (hot : Hot1 X.A p) (hp : p ∈ X.pn) (hg : Gl X x) (ha : PA X (e :: es) t) (hdb : (x == ("__debug__" : Str)) = false := by decide)
    (he : starEach (e :: es) X.env = (false, eval e X.env) :: starEach es X.env := by rfl) (hpl : (backTo pos (starEach es X.env)).any (·.1) = false := by rfl) :
    PE X (.Call (.Name x q) (e :: es) [] pos) (fun σ H Q => t σ H fun vs H1 => sp vs H1 Q E0) := by
  obtain ⟨f, fd, ps, F, hm, kp, hb⟩ := c.ex
  refine ⟨fun pins s σ H Q I h => wpAny_Call_Name_kw (ld_glob I hg hm ?_ hdb)⟩
  refine PySem.W.callWith_K (h₀ := X.base) I.ok.mod.kin kp (thn (ha.run pos pins s σ H _ I h) fun us s1 ⟨vs, H1, I1, r, want⟩ => ⟨I1.kIn, ?_⟩) he hpl
  have many : us.length = ps.length := r.length.symm.trans (F.len _ _ _ _ want)
  have b := hb s1 us I1.kIn (by rw [List.append_nil]; exact many)
  rw [List.append_nil] at b
  obtain ⟨z1, z2, z3, z4, z5⟩ := I1.pin p (List.mem_append_left _ hp)
  have pin : PinOk X.stack H1 s1 p := ⟨z1, z2, fun hm => (List.mem_cons.mp (I1.stkSub p.1 hm)).elim z3 z4, z5⟩
  refine wpAny_call (codeAny_mono (F.run X.A X.stack s1 H1 ⟨us, []⟩ us vs Q (hr.mono hk) hot pin I1.env0 b r want) fun r s' done => ?_)
  cases r with
  | error e => exact False.elim done
  | ok fl =>
    cases fl with
    | ret u => exact I1.after done
    | next => exact False.elim done
    | brk => exact False.elim done
    | cont => exact False.elim done
end
/-! ### a list comprehension while an exception is handled -/
abbrev Cx.blkH (X : Cx) (s : Shared) (H : Hp) (scope : Scope) (cenv : Env) (fp : List Addr) : Cx := (X.blk s H scope cenv fp).tr X.pn (fun _ _ => False)
section
variable {X : Cx}
theorem pe_lcH {elt tg iter : Expr} {ifs : List Expr} {scope : Scope} {own : List (Str × Nat)} {pos : Pos} {wi : TI} {g : TG} {tt : TT} {te : TE} (hot : HotC X) (hN : X.N.Nodup) (hi : PIH X tg iter wi) (ok : BlkOk X.N X.env.scope scope own)
    (hg : ∀ (s : Shared) (H : Hp) (C : Addr) (cl : List (Str × Addr)) (fp : List Addr), PG (X.blkH s H scope (compEnvC scope cl C X.env) fp) tg g)
    (ht : ∀ (s : Shared) (H : Hp) (C : Addr) (cl : List (Str × Addr)) (fp : List Addr), PTs (X.blkH s H scope (compEnvC scope cl C X.env) fp) ifs tt)
    (he : ∀ (s : Shared) (H : Hp) (C : Addr) (cl : List (Str × Addr)) (fp : List Addr), PE (X.blkH s H scope (compEnvC scope cl C X.env) fp) elt te)
    (hs : ∀ x, foldedSetIterable iter X.env x = pure x := by intro _; rfl) : PE X (.ListComp elt [⟨tg, iter, ifs, 0⟩] scope pos) (tLc wi g tt te (own.map (·.2))) := by
  refine ⟨fun pins s σ H Q I h => ?_⟩
  rw [eval_ListComp]
  have free_ : ∀ y ∈ scope.names, y.2 = .free → ∃ c, X.env.cells.lookup y.1 = some c := by
    intro y hy e
    rcases ok.free y hy e with k | k
    · exact I.ok.has _ (.inl k)
    · exact I.ok.has _ (.inr k)
  refine wpAny_comprehension_free (use := none) rfl hs (closure_ok free_) ok.kind (fun y hy e => by rw [ok.uniq y hy, e]) (thn (hi.run pins s σ H _ I h) fun xv s1 hx => thn hx fun itv s2 h2 => ?_)
  obtain ⟨it, fp, tn, J, H2, rfl, I2, T, t2, f2, more⟩ := h2
  refine wpAny_newObj_type (newEnv_comp ?_) (by show 0 ≤ sizeLine; decide)
  generalize hD : s2.heap.objs.size = D
  have noD : H2 D = none := I2.hok.fresh (Nat.le_of_eq hD)
  obtain ⟨W, ⟨m0, w0⟩, turn⟩ := more D noD
  generalize hs3 : ({ s2 with heap := s2.heap.push { cls := .type "list", data := .seq ([] : List Value).toArray } } : Shared) = s3
  have e3 : s3.heap = s2.heap.push { cls := .type "list", data := .seq ([] : List Value).toArray } := by rw [← hs3]
  have I3 : Inv X pins σ (upd H2 D (.lst [])) s3 := by
    rw [← hs3]
    refine I2.laid (t' := s2.toks) (fun b o e => Heap.get?_push_of_some _ e) (Nat.le_of_eq hD) ⟨Nat.zero_le _, [], 0, .nil, ?_⟩
    rw [← hD]
    exact Heap.get?_push_size _ rfl
  have old : ∀ b ∈ fp, b < s2.heap.objs.size := fun b hb => Heap.lt_size (T.obj _ _ t2 b hb).choose_spec.1
  have f3 : ∀ b ∈ fp, FpOk X pins (upd H2 D (.lst [])) b ∧ b < s3.heap.objs.size := by
    intro b hb
    refine ⟨⟨?_, (f2 b hb).2⟩, by rw [e3, Heap.size_push]; exact Nat.lt_succ_of_lt (old b hb)⟩
    rw [upd_ne (by rw [← hD]; exact Nat.ne_of_lt (old b hb))]
    exact (f2 b hb).1
  have t3 : tn 0 s3.heap := T.keep _ _ _ t2 fun b _ o e => by rw [e3]; exact Heap.get?_push_of_some _ e
  have I4 := block_start I3 ok hN f3
  generalize hcl : cellsFrom (s3.heap.objs.size + 1) scope.names (cloFrom X.env.cells scope.names []) = cl at I4
  have pg := hg s3 (upd H2 D (.lst [])) s3.heap.objs.size cl fp
  have pt := ht s3 (upd H2 D (.lst [])) s3.heap.objs.size cl fp
  have pe := he s3 (upd H2 D (.lst [])) s3.heap.objs.size cl fp
  subst hcl
  show codeAny _ _ (.compStart (.ListComp elt [⟨tg, iter, ifs, 0⟩] scope pos) 0 (.ref it) (.ref D) (compEnvC scope (cellsFrom (s3.heap.objs.size + 1) scope.names (cloFrom X.env.cells scope.names [])) s3.heap.objs.size X.env)) (compPost (model X.prog X.w) X.A X.xe none _ (.ref D) s3.heap.objs.size) { s3 with heap := pushCells (s3.heap.push { cls := .type "dict", data := .dict #[] }) scope.names }
  have clear : ∀ b ∈ fp, (upd H2 D (.lst [])) b = none := fun b hb => (f3 b hb).1.1
  generalize hce : compEnvC scope (cellsFrom (s3.heap.objs.size + 1) scope.names (cloFrom X.env.cells scope.names [])) s3.heap.objs.size X.env = ce at I4 pg pt pe ⊢
  have cL : ce.locals = s3.heap.objs.size := by
    subst hce
    rfl
  generalize hs4 : ({ s3 with heap := pushCells (s3.heap.push { cls := .type "dict", data := .dict #[] }) scope.names } : Shared) = s4 at I4 ⊢
  have k34 : ∀ b o, s3.heap.get? b = some o → s4.heap.get? b = some o := fun b o e => by
    rw [← hs4]
    exact pushCells_keeps _ _ _ _ (Heap.get?_push_of_some _ e)
  have t4 : tn 0 s4.heap := T.keep _ _ _ t3 fun b _ o e => k34 b o e
  generalize hH3 : upd H2 D (.lst []) = H3 at I3 I4 pg pt pe w0 clear f3
  -- the pins of the def stand in the block, too
  have pinB : ∀ q ∈ X.pn, s4.heap.get? q.1 = some q.2 ∧ H3 q.1 = none ∧ q.1 ≠ ce.locals ∧ q.1 ∉ frs X.stack ∧ ∀ v, q.2.data ≠ .cell v := by
    intro q hq
    obtain ⟨z1, z2, z3, z4, z5⟩ := I3.pin q (List.mem_append_left _ hq)
    exact ⟨k34 _ _ z1, z2, by rw [cL]; exact Nat.ne_of_lt (Heap.lt_size z1), fun hm => (List.mem_cons.mp (I3.stkSub q.1 hm)).elim z3 z4, z5⟩
  have I5 : Inv (X.blkH s3 H3 scope ce fp) [] (wipe σ (own.map (·.2))) H3 s4 := (I4.pins_of (pins' := X.pn) pinB).toTry _
  have hotB : HotC (X.blkH s3 H3 scope ce fp) := by
    obtain ⟨q, h1, h2⟩ := hot
    exact ⟨q, h1, h2⟩
  have fpB : ∀ {σ' : St} {H' : Hp} {s' : Shared}, Inv (X.blkH s3 H3 scope ce fp) [] σ' H' s' → (∀ b ∈ fp, H' b = none) → ∀ b ∈ fp, FpOk (X.blkH s3 H3 scope ce fp) [] H' b := by
    intro σ' H' s' I' hn b hb
    refine ⟨hn b hb, (I'.ok.exf b hb).1, I'.ok.exfs b hb, .inl hb, fun x c e => (I'.ok.exf b hb).2 x c e, fun q hq => ?_⟩
    rw [List.append_nil] at hq
    exact (f3 b hb).1.2.2.2.2.2 q (List.mem_append_left _ hq)
  have loop : codeAny (model X.prog X.w) X.A (.compLoop (.ListComp elt [⟨tg, iter, ifs, 0⟩] scope pos) 0 (.ref it) (.ref D) ce) (compPost (model X.prog X.w) X.A X.xe none (fun v s' => EP X pins σ Q v s') (.ref D) s3.heap.objs.size) s4 := by
    refine compLoop_any (fun n s' => ∃ i H', Inv (X.blkH s3 H3 scope ce fp) [] (wipe σ (own.map (·.2))) H' s' ∧ tn i s'.heap ∧ (∀ b ∈ fp, H' b = none) ∧ W i n H') ?_ m0 ⟨0, H3, I5, t4, clear, w0⟩
    rintro n s6 ⟨i, H6, I6, t6, n6, w6⟩
    rcases turn i n H6 w6 with ⟨stop, goal⟩ | ⟨go, Nx, hNx, step⟩
    · refine thnF (T.done (X.blkH s3 H3 scope ce fp) rfl rfl rfl hotB i [] s6 _ H6 (fun _ _ => False) I6 (fpB I6 n6) t6 stop) fun r s7 ⟨hr, I7⟩ => ?_
      subst hr
      have back : Inv X pins σ H6 s7 := I3.call' (ch := fp) I7.os I7.base I7.hok I7.bare fun b hb => ⟨(f3 b hb).1.2.2.2.1, (f3 b hb).1.2.1, (f3 b hb).1.2.2.2.2.1, (f3 b hb).1.2.2.2.2.2⟩
      have noC : H6 s3.heap.objs.size = none := by
        have z : H6 ce.locals = none := I7.free
        rwa [cL] at z
      obtain ⟨m, hn, _⟩ := I7.loc
      have hn : s7.heap.Ns ce.locals m := hn
      rw [cL] at hn
      obtain ⟨f0, f1, f2', f3', f4, f5⟩ := I3.fpOk (Nat.le_refl _) noC
      exact ⟨m, hn, fun h'' sb => ⟨.ref D, H6, back.turned (t' := s7.toks) (fun b o hb e => (sb.2 b hb).trans e) f0 f1 f3' f4 f5, rfl, goal⟩⟩
    · refine thnF (T.item (X.blkH s3 H3 scope ce fp) rfl rfl rfl hotB i [] s6 _ H6 (fun _ _ => False) I6 (fpB I6 n6) t6 go) fun r s7 ⟨u, hr, h7⟩ => ?_
      subst hr
      refine thnF h7 fun _ s8 ⟨x, H8, I8, r8, y8, t8, n8⟩ => ?_
      refine thnF (pg.run _ s8 _ H8 x u _ (I8.pinned (fpB I8 n8) (T.obj _ _ t8)) r8 (step x H8 y8)) fun _ s9 ⟨σ9, H9, I9, hw9, q9⟩ => ?_
      refine thnF (pt.run _ s9 σ9 H9 _ I9 q9) fun b s10 ⟨H10, I10, q10⟩ => ?_
      have fin : ∀ {s' : Shared} {H' : Hp}, Inv (X.blkH s3 H3 scope ce fp) ([] ++ pinsAt fp s8.heap) σ9 H' s' → Nx H' →
          ∃ m, m < n ∧ ∃ i H', Inv (X.blkH s3 H3 scope ce fp) [] (wipe σ (own.map (·.2))) H' s' ∧ tn i s'.heap ∧ (∀ b ∈ fp, H' b = none) ∧ W i m H' := by
        intro s' H' I' nx
        obtain ⟨m', hm, w'⟩ := hNx H' nx
        have held : ∀ b ∈ fp, ∀ o, s8.heap.get? b = some o → s'.heap.get? b = some o ∧ H' b = none := fun b hb o e =>
          ⟨(I'.pin (b, o) (List.mem_append_right _ (List.mem_append_right _ (mem_pinsAt hb e)))).1, (I'.pin (b, o) (List.mem_append_right _ (List.mem_append_right _ (mem_pinsAt hb e)))).2.1⟩
        have same : (wipe σ (own.map (·.2))).length = σ9.length := by rw [← hw9, wipe_length]
        refine ⟨m', hm, i + 1, H', (I'.unpinned (pins := [])).weak same (fun j v e => ?_), T.keep _ _ _ t8 fun b hb o e => (held b hb o e).1, fun b hb => ?_, w'⟩
        · rw [← hw9] at e
          exact (wipe_some e).1
        · obtain ⟨o, e, _⟩ := T.obj _ _ t8 b hb
          exact (held b hb o e).2
      cases b with
      | false =>
        simp only [Bool.false_eq_true, if_false] at q10 ⊢
        exact fin I10 q10
      | true =>
        simp only [if_true] at q10 ⊢
        refine thnF (pe.run _ s10 σ9 H10 _ I10 q10) fun z s11 ⟨yv, H11, I11, r11, acc, hD11, hz11, nx⟩ => ?_
        exact app_ok (X := X.blkH s3 H3 scope ce fp) I11 hD11 hz11 r11 fun s12 I12 => fin I12 nx
  exact codeAny_compStart_list loop (T.self X.A 0 _ _ _ t4 loop)
end
end L2
/-! HxV: except clauses that each name a tuple of four classes -/
namespace L2
open PySem PySem.Spec PyProof.Rows
/-- what takes an exception of which less is known takes one of which more is known -/
theorem takesN {X : Cx} {W : WX} (tk : Takes X W) : L2N.Takes X W := fun u s' ⟨a, B, sI, pins, σ, H, cls, d, e, I, nb, up, sky, na, os, ag, w⟩ => by
  refine tk u s' ⟨a, B, sI, pins, σ, H, cls, d, e, I, nb, up, ?_, na, os, ag, w⟩
  rcases sky with ⟨s1, s2, s3, oe, vs, s4, s5, s6, s7⟩ | s | ⟨s1, s2, s3, s4⟩
  · exact .inl ⟨s1, s2, s3, oe, vs, s4, L2N.Zn.zc s5, s6, s7⟩
  · exact .inr (.inl (L2H.flyingZ_imp (fun _ z => L2N.Zn.zc z) s))
  · exact .inr (.inr ⟨s1, s2, s3, L2H.tracedZ_imp (fun _ z => L2N.Zn.zc z) s4⟩)
theorem fly_keeps {B h h' : Heap} {l : List Env} {a : Addr} {Z : Obj → Prop} (x : HandSPX.FlyingZ B l a Z h) (k : ∀ b o, h.get? b = some o → h'.get? b = some o) : HandSPX.FlyingZ B l a Z h' := by
  obtain ⟨f1, f2, f3, oe, vs, T, oT, ts, he, hz, hd, h1, hn, hne, hT, hdT, h3⟩ := x
  exact ⟨fun b o q => k b o (f1 b o q), f2, f3.of_keeps fun b o q _ => ⟨o, k b o q, rfl⟩, oe, vs, T, oT, ts, k _ _ he, hz, hd, h1, hn, hne, k _ _ hT, hdT, h3⟩
/-- a clause: its four classes, its suite -/
abbrev Cla4 := List Value × (Addr → Value → Option Addr → TS)
def wRow4 (K : PySem.W.Frag) (Wo : WX) (D : Ends) : List Cla4 → WX
  | [] => Wo
  | z :: r => fun cls d σ H => ∃ b, PySem.W.exmAny K cls z.1 = some b ∧ (b = true → ∀ a, H a = none → z.2 a cls d D σ H) ∧ (b = false → wRow4 K Wo D r cls d σ H)
inductive Row4Ok (X : Cx) : List ExceptHandler → List Cla4 → Prop
  | nil : Row4Ok X [] []
  | cons {x1 x2 x3 x4 : Str} {c1 c2 c3 c4 : Value} {ts : Addr → Value → Option Addr → TS} {b₀ : Stmt} {more : List Stmt} {p1 p2 p3 p4 tp p : Pos} {kk : Nat} {hds : List ExceptHandler} {l : List Cla4}
      (n1 : Names X x1 c1) (n2 : Names X x2 c2) (n3 : Names X x3 c3) (n4 : Names X x4 c4)
      (su : ∀ (a : Addr) (oe : Obj) (cls : Value) (d : Option Addr) (pn : List (Addr × Obj)), Zc cls d oe → (∃ vs, oe.data = .fields vs) → PSs (X.suite a ((a, oe) :: pn)) (b₀ :: more) (ts a cls d)) (r : Row4Ok X hds l) :
      Row4Ok X (.ExceptHandler (some (.Tuple [.Name x1 p1, .Name x2 p2, .Name x3 p3, .Name x4 p4] kk tp)) none (b₀ :: more) p :: hds) (([c1, c2, c3, c4], ts) :: l)
section
variable {X : Cx} {body : List Stmt} {h1 : ExceptHandler} {hds : List ExceptHandler} {l : List Cla4} {pos : Pos} {tb : WX → TS} {Wo : WX}
theorem ps_try_row4 (st : X.stack = X.env :: X.outer) (fr : X.env.frame = some X.env.locals) (tk : Takes X Wo)
    (hb : ∀ (W : WX) (pn : List (Addr × Obj)) (xe : Value → Shared → Prop), Takes (X.tr pn xe) W → PassesOwn (model X.prog X.w) X.A X.env xe → PSs (X.tr pn xe) body (tb W))
    (ro : Row4Ok X (h1 :: hds) l) : PS X (.Try body (h1 :: hds) [] [] pos) (fun D σ H => tb (wRow4 X.K Wo D l) D σ H) := by
  constructor
  intro pins s σ H D I wish
  have k := I.ok
  have frames := (k.frames).trans (congrArg some st)
  have run := hb (wRow4 X.K Wo D l) (X.pn ++ pins) (fun e t1 => wpAny (model X.prog X.w) X.A (noteFrame e X.env) (fun _ t2 => wpAny (model X.prog X.w) X.A (setFlight e none) (fun _ t3 => wpAny (model X.prog X.w) X.A (handleBy e X.env (h1 :: hds)) (SP X pins D) X.xe t3) X.xe t2) X.xe t1)
  apply wpAny_Try_except
  refine wpAny_mono ((run (fun u t0 caught => ?_) PassesOwn.looking).run [] s σ H D (I.toTry _) wish) (fun f t0 good => ?_) (fun e t0 z => z)
  · obtain ⟨a, B, sI, pins', τ, G, cls, d, rfl, Jt, nb, up, sky, na, os, ag, w⟩ := caught
    have J := Jt.ofTry k
    rw [st] at sky
    show wpAny (model X.prog X.w) X.A (noteFrame (.ref a) X.env) _ _ _
    refine Sky.land Zc.steady frames fr sky fun q3 fl3 up3 => ?_
    suffices go : ∀ {cs : List ExceptHandler} {m : List Cla4}, Row4Ok X cs m → ∀ q3, HandSPX.FlyingZ B (X.env :: X.outer) a (Zc cls d) q3 → t0.heap.UpToSlots q3 → wRow4 X.K Wo D m cls d τ G → wpAny (model X.prog X.w) X.A (handleBy (.ref a) X.env cs) (SP X pins D) X.xe { t0 with heap := q3 } from go ro q3 fl3 up3 w
    intro cs m rk
    induction rk with
    | nil =>
      intro q3 fl3 up3 w
      have J3 : Inv X pins τ G { t0 with heap := q3 } := J.landed nb fl3.1 (up.trans up3) os ag
      apply wpAny_handleBy_nil
      obtain ⟨_, _, _, oe, vs, T, oT, ts', he, _, hd, hT, _⟩ := id fl3
      unfold PySem.passOn
      refine wpAny_bind (wpAny_field he hd hT ?_)
      rw [if_neg (by simp : ¬ ((Value.ref T == Value.none) = true))]
      have out : wpAny (model X.prog X.w) X.A (setFlight (.ref a) X.env.frame) (fun _ t4 => wpAny (model X.prog X.w) X.A (throw (.ref a) : Sem Flow) (SP X pins D) X.xe t4) X.xe { t0 with heap := q3 } := by
        rw [fr]
        exact HandSPX.setFlight_upZ fl3 fun q4 hq4 up4 => wpAny_throw (tk _ _ ⟨a, B, sI, pins, τ, G, cls, d, rfl, J, nb, (up.trans up3).trans up4, .inr (.inr (by rw [st]; exact hq4)), na, os, ag, w⟩)
      first
        | exact wpAny_bind (wpAny_pure (wpAny_bind out))
        | exact wpAny_bind out
    | @cons x1 x2 x3 x4 c1 c2 c3 c4 ts b₀ more p1 p2 p3 p4 tp p kk rest m2 n1 n2 n3 n4 su r ih =>
      rintro q3 fl3 up3 ⟨b, is, yes, no⟩
      have J3 : Inv X pins τ G { t0 with heap := q3 } := J.landed nb fl3.1 (up.trans up3) os ag
      obtain ⟨e3, v3, ge3, z3, dt3⟩ := fl3.there
      have away : a ∉ frs (X.env :: X.outer) := by
        intro hm
        obtain ⟨_, e', g', no⟩ := fl3.2.2.1.mem hm
        exact no _ ((Option.some.inj (ge3.symm.trans g')) ▸ dt3)
      have nL : a ≠ X.env.locals := by
        intro z
        exact away (List.mem_filterMap.mpr ⟨X.env, List.mem_cons_self, by rw [fr, z]⟩)
      have nF : a ∉ X.fs := by
        intro hm
        obtain ⟨e, he, q⟩ := List.mem_filterMap.mp hm
        exact away (List.mem_filterMap.mpr ⟨e, List.mem_cons_of_mem _ he, q⟩)
      have S3 := J3.suite ge3 dt3 na nL nF
      refine wpAny_handleBy_cons (codeAny_handlers_test ?_) (by intro q; cases q)
      have look : PySem.W.Looks (model X.prog X.w) q3 (typeOf (.ref a)) cls := fun _ _ _ _ kk q => wpAny_typeOf_ref (kk _ _ ge3) (z3.1 ▸ q)
      have load : ∀ {x : Str} {c : Value} {pp : Pos}, Names X x c → ∀ {Q E : Value → Shared → Prop}, Q c { t0 with heap := q3 } → wpAny (model X.prog X.w) (X.A.mark (some (.ref a))) (eval (.Name x pp) X.env) Q E { t0 with heap := q3 } := by
        intro x c pp nm Q E q
        rcases nm with ⟨g, dbg, own | ⟨own, boot, ne⟩⟩
        · exact ld_glob (X := X.suite a ((a, e3) :: (X.pn ++ pins))) S3 g own q dbg
        · exact ld_blt (X := X.suite a ((a, e3) :: (X.pn ++ pins))) S3 g own boot q ne dbg
      refine wpAny_Tuple ?_
      refine wpAny_items_cons (load n1 ?_)
      refine wpAny_items_cons (load n2 ?_)
      refine wpAny_items_cons (load n3 ?_)
      refine wpAny_items_cons (load n4 ?_)
      refine wpAny_items_nil ⟨by size_fits, ?_⟩
      have kp : ∀ q o, q3.get? q = some o → (q3.push { cls := .type "tuple", data := .seq [c1, c2, c3, c4].toArray }).get? q = some o := fun _ _ z => Heap.get?_push_of_some _ z
      have fits := PySem.W.exm_tup4 (M := model X.prog X.w) (J3.kIn.keeps kp) (look.keeps kp) (Heap.get?_push_size q3 rfl) is
      refine fits.here ?_
      have fl5 := fly_keeps fl3 kp
      have up5 : t0.heap.UpToSlots (q3.push { cls := .type "tuple", data := .seq [c1, c2, c3, c4].toArray }) := up3.trans (.of_keeps kp)
      cases b with
      | false =>
        show wpAny _ X.A (handleBy (.ref a) X.env rest) _ _ _
        exact ih _ fl5 up5 (no rfl)
      | true =>
        apply codeAny_handlers_suite
        refine HandSPX.lands_againZ fl5 fun q4 fl4 up4 => ?_
        have J4 : Inv X pins τ G { t0 with heap := q4 } := J.landed nb fl4.1 ((up.trans up5).trans up4) os ag
        obtain ⟨e4, v4, ge4, z4, dt4⟩ := fl4.there
        refine wpAny_mono ((su a e4 cls d (X.pn ++ pins) z4 ⟨_, dt4⟩).run [] _ _ G _ (J4.suite ge4 dt4 na nL nF) (yes rfl a na)) (fun f t6 done => ?_) (fun _ _ q => False.elim q)
        cases f with
        | ret u => rcases done with ⟨v6, τ6, G6, S6, r6, q6⟩; exact ⟨_, _, _, S6.unsuite k, r6, q6⟩
        | next => rcases done with ⟨τ6, G6, S6, q6⟩; exact ⟨_, _, S6.unsuite k, q6⟩
        | brk => rcases done with ⟨τ6, G6, S6, q6⟩; exact ⟨_, _, S6.unsuite k, q6⟩
        | cont => rcases done with ⟨τ6, G6, S6, q6⟩; exact ⟨_, _, S6.unsuite k, q6⟩
  · cases f with
    | ret u => rcases good with ⟨v, τ, G, J, r, q⟩; exact ⟨v, τ, G, J.ofTry k, r, q⟩
    | next => rcases good with ⟨τ, G, J, q⟩; exact wpAny_execs_nil ⟨τ, G, J.ofTry k, q⟩
    | brk => rcases good with ⟨τ, G, J, q⟩; exact ⟨τ, G, J.ofTry k, q⟩
    | cont => rcases good with ⟨τ, G, J, q⟩; exact ⟨τ, G, J.ofTry k, q⟩
end
end L2
set_option Elab.async false
set_option linter.all false
set_option maxRecDepth 100000
set_option maxHeartbeats 400000
namespace K05
open PySem PySem.Spec PyProof.Rows L2 C8
theorem takesF {X : Cx} : Takes X (fun _ _ _ _ => False) := fun _ _ ⟨_, _, _, _, _, _, _, _, _, _, _, _, _, _, _, _, z⟩ => z.elim
theorem pss_sp {X : Cx} {body : List Stmt} {t Sp : TS} (h : PSs X body t) (g : ∀ D σ H, Sp D σ H → t D σ H) : PSs X body Sp := ⟨fun pins s σ H D I q => h.run pins s σ H D I (g D σ H q)⟩
theorem pe_fldK {X : Cx} {K : PySem.W.Frag} {e : Expr} {te : TE} {f : Str} {pos : Pos} (hK : X.K = K) (he : PE X e te) (hb : attributeBase e f X.env (eval e X.env) = eval e X.env) : PE X (.Attribute e f pos) (tFld K te f) := by
  subst hK
  exact pe_fld he hb
/-- what is known and wanted in a clause for the class x -/
def clSp (K : PySem.W.Frag) (x tag : Str) (a : Addr) (cls : Value) (d : Option Addr) : TS := fun D σ H => ∃ v, σ[2]? = some (some (.ref a)) ∧ cls = .ref (ca K x) ∧ (∃ dx, d = some dx ∧ H dx = some (.xd [("given", v)])) ∧
  ∀ m H', H m = none → Ex H H' → H' m = some (.lst [.str tag, v]) → D.rt (.ref m) H'
section
variable {P : Program} {w : World} {K : PySem.W.Frag} {mg : Str → Option Value} {base : Heap}
abbrev rowsM (K : PySem.W.Frag) : List ClaX := [(.ref (ca K "InvalidNames"), some 2, clSp K "InvalidNames" "names"), (.ref (ca K "InvalidStore"), some 2, clSp K "InvalidStore" "store"), (.ref (ca K "InvalidName"), some 2, clSp K "InvalidName" "name"), (.ref (ca K "InvalidValues"), some 2, clSp K "InvalidValues" "values"), (.ref (pe_ K), none, fun _ _ _ _ _ _ => False)]
/-- told with something -/
def Tld (Q : VK) (H : Hp) (Pr : Hp → V → Prop) : Prop := ∀ m H' u, Ex H H' → H' m = some (.lst [.str "told", u]) → Pr H' u → Q (.ref m) H'
/-- refused with v -/
def Err (Q : VK) (H : Hp) (tag : Str) (v : V) : Prop := ∀ m H', Ex H H' → H' m = some (.lst [.str tag, v]) → Q (.ref m) H'
theorem cl_here {D : Ends} {σ : L2.St} {H : Hp} {x tag : Str} {v : V} {dx a : Addr} (hσ : ∃ s0 s1 s2, σ = [s0, s1, s2]) (hrt : Err D.rt H tag v) (hdx : H dx = some (.xd [("given", v)])) : clSp K x tag a (.ref (ca K x)) (some dx) (goIn D (some 2)) (atIn σ a (some 2)) H := by
  obtain ⟨s0, s1, s2, rfl⟩ := hσ
  exact ⟨v, rfl, rfl, ⟨dx, rfl, hdx⟩, fun m H' _ e q => hrt m H' e q⟩
theorem out_names (T : Txt K mg) {D : Ends} {σ : L2.St} {H : Hp} {v : V} {dx : Addr} (hσ : ∃ s0 s1 s2, σ = [s0, s1, s2]) (hrt : Err D.rt H "names" v) (hdx : H dx = some (.xd [("given", v)])) : wRowX K (fun _ _ _ _ => False) D (rowsM K) (.ref (ca K "InvalidNames")) (some dx) σ H :=
  ⟨true, exmIJ T (i := 1) (j := 1) rfl rfl, fun _ _ _ => cl_here hσ hrt hdx, fun z => Bool.noConfusion z⟩
theorem out_store (T : Txt K mg) {D : Ends} {σ : L2.St} {H : Hp} {v : V} {dx : Addr} (hσ : ∃ s0 s1 s2, σ = [s0, s1, s2]) (hrt : Err D.rt H "store" v) (hdx : H dx = some (.xd [("given", v)])) : wRowX K (fun _ _ _ _ => False) D (rowsM K) (.ref (ca K "InvalidStore")) (some dx) σ H :=
  ⟨false, exmIJ T (i := 2) (j := 1) rfl rfl, fun z => Bool.noConfusion z, fun _ => ⟨true, exmIJ T (i := 2) (j := 2) rfl rfl, fun _ _ _ => cl_here hσ hrt hdx, fun z => Bool.noConfusion z⟩⟩
theorem out_name (T : Txt K mg) {D : Ends} {σ : L2.St} {H : Hp} {v : V} {dx : Addr} (hσ : ∃ s0 s1 s2, σ = [s0, s1, s2]) (hrt : Err D.rt H "name" v) (hdx : H dx = some (.xd [("given", v)])) : wRowX K (fun _ _ _ _ => False) D (rowsM K) (.ref (ca K "InvalidName")) (some dx) σ H :=
  ⟨false, exmIJ T (i := 4) (j := 1) rfl rfl, fun z => Bool.noConfusion z, fun _ => ⟨false, exmIJ T (i := 4) (j := 2) rfl rfl, fun z => Bool.noConfusion z, fun _ => ⟨true, exmIJ T (i := 4) (j := 4) rfl rfl, fun _ _ _ => cl_here hσ hrt hdx, fun z => Bool.noConfusion z⟩⟩⟩
theorem out_values (T : Txt K mg) {D : Ends} {σ : L2.St} {H : Hp} {v : V} {dx : Addr} (hσ : ∃ s0 s1 s2, σ = [s0, s1, s2]) (hrt : Err D.rt H "values" v) (hdx : H dx = some (.xd [("given", v)])) : wRowX K (fun _ _ _ _ => False) D (rowsM K) (.ref (ca K "InvalidValues")) (some dx) σ H :=
  ⟨false, exmIJ T (i := 3) (j := 1) rfl rfl, fun z => Bool.noConfusion z, fun _ => ⟨false, exmIJ T (i := 3) (j := 2) rfl rfl, fun z => Bool.noConfusion z, fun _ => ⟨false, exmIJ T (i := 3) (j := 4) rfl rfl, fun z => Bool.noConfusion z, fun _ => ⟨true, exmIJ T (i := 3) (j := 3) rfl rfl, fun _ _ _ => cl_here hσ hrt hdx, fun z => Bool.noConfusion z⟩⟩⟩⟩
theorem Err.up {Q : VK} {H H1 : Hp} {tag : Str} {v : V} (h : Err Q H tag v) (e : Ex H H1) : Err Q H1 tag v := fun m H' e' q => h m H' (Evl.Ex.trans e e') q
theorem Tld.up {Q : VK} {H H1 : Hp} {Pr : Hp → V → Prop} (h : Tld Q H Pr) (e : Ex H H1) : Tld Q H1 Pr := fun m H' u e' q p => h m H' u (Evl.Ex.trans e e') q p
theorem names_at {H : Hp} {ps : List Addr} {ns : NS} (hw : ∀ n ∈ ns, n.1.length ≤ 1000) (h : Prs H ps ns) : AtA (He.ga K "Ratio") H (ps.map V.ref) (ns.map nsTh) := by
  induction h with
  | nil => exact .nil
  | cons h t ih => exact .cons (.tup h (.cons (.str _ (hw _ (List.mem_cons_self ..))) (.cons (.int _) .nil))) (ih fun n hn => hw n (List.mem_cons_of_mem _ hn))
theorem nestr {a b : Str} (h : a ≠ b) : decide (V.str a = V.str b) = false := decide_eq_false fun z => h (V.str.inj z)
abbrev N_l_met : List Str := ["ask", "space", "e"]
theorem sc_l_met : FnScope N_l_met ["ask"] (defScope (top 44)) := ⟨rfl, rfl, rfl, by decide +kernel, rfl, by decide +kernel, by decide +kernel⟩
def spMet (K : PySem.W.Frag) : Sp := fun vs H Q _ => ∃ l, vs = [.ref l] ∧
  ((∃ (v : V) (d : Th), H l = some (.lst [.str "space", v]) ∧ AtK5 K H v d ∧ (namesB d = true → FrzT H v d) ∧ (∀ ns, d = .lst (ns.map nsTh) ∨ d = .tup (ns.map nsTh) → NsOk ns → Tld Q H fun H' u => AtK5 K H' u (.tup (ns.map nsTh))) ∧ (namesB d = false → Err Q H "names" v)) ∨
   ∃ (x : Addr) (ns : NS), SpaceAt K H x ns ∧ NsOk ns ∧
    ((∃ (v : V) (d : Th), H l = some (.lst [.str "values_of", .ref x, v]) ∧ AtK5 K H v d ∧ (storeB ns d = true → Tld Q H fun _ _ => True) ∧ (storeB ns d = false → Err Q H "store" v)) ∨
     (∃ v, H l = some (.lst [.str "store_of", .ref x, v]) ∧ ((∃ d, AtK5 K H v d ∧ d.kd ≠ .dic ∧ Err Q H "values" v) ∨
       ∃ (a : Addr) (kvs : List (Key × V)), v = .ref a ∧ H a = some (.dK kvs) ∧ (∀ z u, valV kvs (.inr z) = some u → ∃ t, AtK5 K H u t) ∧ (valsB ns kvs = true → Tld Q H fun _ _ => True) ∧ (valsB ns kvs = false → Err Q H "values" v))) ∨
     (∃ (v : V) (d : Th), H l = some (.lst [.str "size_of", .ref x, v]) ∧ AtK5 K H v d ∧ (inB (wds ns) d = true → Tld Q H fun _ _ => True) ∧ (inB (wds ns) d = false → Err Q H "name" v)) ∨
     (∃ (v u : V) (d e : Th), H l = some (.lst [.str "value_of", .ref x, v, u]) ∧ AtK5 K H v d ∧ AtK5 K H u e ∧ (storeB ns d = true → inB (wds ns) e = true → Tld Q H fun _ _ => True) ∧ (storeB ns d = false → Err Q H "store" v) ∧ (storeB ns d = true → inB (wds ns) e = false → Err Q H "name" u)) ∨
     (∃ (v u y : V) (d e f : Th), H l = some (.lst [.str "with_value", .ref x, v, u, y]) ∧ AtK5 K H v d ∧ AtK5 K H u e ∧ AtK5 K H y f ∧ (storeB ns d = true → inB (wds ns) e = true → wholeB f = true → Tld Q H fun _ _ => True) ∧ (storeB ns d = false → Err Q H "store" v) ∧
       (storeB ns d = true → inB (wds ns) e = false → Err Q H "name" u) ∧ (storeB ns d = true → inB (wds ns) e = true → wholeB f = false → Err Q H "values" y))))
theorem ok_l_met (T : Txt K mg) (M_Space : MakE P w K mg base 5 "Space" (He.ga K "Space") (spSpace K)) (M_values_of : MetE P w K mg base 4 (He.ga K "Space") "values_of" (spValuesOf K)) (M_store_of : MetE P w K mg base 3 (He.ga K "Space") "store_of" (spStoreOf K)) (M_size_of : MetE P w K mg base 6 (He.ga K "Space") "size_of" (spSizeOf K)) (M_value_of : MetE P w K mg base 6 (He.ga K "Space") "value_of" (spValueOf K)) (M_with_value : MetE P w K mg base 7 (He.ga K "Space") "with_value" (spWithValue K)) : Cal P w K mg base 8 "_law_met" (spMet K) [] := by
  obtain ⟨fd, F⟩ := T.d__law_met
  refine ⟨_, fd, ["ask"], [], ?_, T.g__law_met, F.kp, F.bindsN fun _ _ _ _ _ _ us hl => match us, hl with | [_], _ => rfl, .nil⟩
  refine F.ok sc_l_met (fun vs H Q E h => by obtain ⟨_, rfl, _⟩ := h; rfl) (fun cdv A outer s H vs Q E hr h => ?_)
  have hu := hu_of hr
  refine ⟨_, PSs.nox (pss_one (ps_try_rowX rfl rfl sc_l_met.nd takesF (fun W pn xe tk _ => (pss_cons (ps_if (pt_cmpR op_eq (pe_ix (ixL (K := K) rfl) (pv 0) pe_int (fun _ _ => rfl)) pe_str (nomark _)) (pss_one (ps_ret (pe_lst (pa_cons pe_str (pa_cons (pe_fldK (K := K) rfl (pe_mkE (x := "Space") M_Space (hr.mono (by decide)) (Nat.le_refl _) (fun σ => L2N.passAt (takesN tk) σ) rfl (pa_cons (pe_ix (ixL (K := K) rfl) (pv 0) pe_int (fun _ _ => rfl)) pa_nil)) rfl) pa_nil))))) pss_nil)
      (pss_cons (ps_set (i := 1) sc_l_met.nd rfl (Or.inl rfl) (pe_ix (ixL (K := K) rfl) (pv 0) pe_int (fun _ _ => rfl)))
      (pss_cons (ps_if (pt_cmpR op_eq (pe_ix (ixL (K := K) rfl) (pv 0) pe_int (fun _ _ => rfl)) pe_str (nomark _)) (pss_one (ps_ret (pe_lst (pa_cons pe_str (pa_cons (LiI.pe_listItems rfl (pe_mtE M_values_of (hr.mono (by decide)) (Nat.le_refl _) (fun σ => L2N.passAt (takesN tk) σ) (pv 1) (pa_cons (pe_ix (ixL (K := K) rfl) (pv 0) pe_int (fun _ _ => rfl)) pa_nil)) (by rfl) T.f_list (by rfl)) pa_nil))))) pss_nil)
      (pss_cons (ps_if (pt_cmpR op_eq (pe_ix (ixL (K := K) rfl) (pv 0) pe_int (fun _ _ => rfl)) pe_str (nomark _)) (pss_one (ps_ret (pe_lst (pa_cons pe_str (pa_cons (pe_mtE M_store_of (hr.mono (by decide)) (Nat.le_refl _) (fun σ => L2N.passAt (takesN tk) σ) (pv 1) (pa_cons (pe_ix (ixL (K := K) rfl) (pv 0) pe_int (fun _ _ => rfl)) pa_nil)) pa_nil))))) pss_nil)
      (pss_cons (ps_if (pt_cmpR op_eq (pe_ix (ixL (K := K) rfl) (pv 0) pe_int (fun _ _ => rfl)) pe_str (nomark _)) (pss_one (ps_ret (pe_lst (pa_cons pe_str (pa_cons (pe_mtE M_size_of (hr.mono (by decide)) (Nat.le_refl _) (fun σ => L2N.passAt (takesN tk) σ) (pv 1) (pa_cons (pe_ix (ixL (K := K) rfl) (pv 0) pe_int (fun _ _ => rfl)) pa_nil)) pa_nil))))) pss_nil)
      (pss_cons (ps_if (pt_cmpR op_eq (pe_ix (ixL (K := K) rfl) (pv 0) pe_int (fun _ _ => rfl)) pe_str (nomark _)) (pss_one (ps_ret (pe_lst (pa_cons pe_str (pa_cons (pe_mtE M_value_of (hr.mono (by decide)) (Nat.le_refl _) (fun σ => L2N.passAt (takesN tk) σ) (pv 1) (pa_cons (pe_ix (ixL (K := K) rfl) (pv 0) pe_int (fun _ _ => rfl)) (pa_cons (pe_ix (ixL (K := K) rfl) (pv 0) pe_int (fun _ _ => rfl)) pa_nil))) pa_nil))))) pss_nil)
      (pss_one (ps_ret (pe_lst (pa_cons pe_str (pa_cons (pe_mtE M_with_value (hr.mono (by decide)) (Nat.le_refl _) (fun σ => L2N.passAt (takesN tk) σ) (pv 1) (pa_cons (pe_ix (ixL (K := K) rfl) (pv 0) pe_int (fun _ _ => rfl)) (pa_cons (pe_ix (ixL (K := K) rfl) (pv 0) pe_int (fun _ _ => rfl)) (pa_cons (pe_ix (ixL (K := K) rfl) (pv 0) pe_int (fun _ _ => rfl)) pa_nil)))) pa_nil)))))))))))) (.cons (i := 2) (ts := clSp K "InvalidNames" "names") ⟨rfl, by decide, .inl T.g_InvalidNames⟩ rfl rfl (fun a oe cls d pn hz hf => (pss_sp (pss_one (ps_ret (pe_lst (pa_cons pe_str (pa_cons (pe_xv (pv 2)) pa_nil))))) (fun D1 σ1 H1 h1 => by obtain ⟨v, q1, rfl, ⟨dx, rfl, q4⟩, q5⟩ := h1; exact ⟨_, q1, a, _, _, _, ["given"], _, v, rfl, exT T (i := 1) (x := "InvalidNames") rfl, (by simp), ⟨_, .inr ⟨oe, List.mem_cons_self, hz, hf⟩, .inr ⟨dx, rfl, q4⟩⟩, rfl, (by show 2 ≤ sizeLine; decide), fun m hm => q5 m _ hm (Evl.Ex.new hm) upd_same⟩))) (.cons (i := 2) (ts := clSp K "InvalidStore" "store") ⟨rfl, by decide, .inl T.g_InvalidStore⟩ rfl rfl (fun a oe cls d pn hz hf => (pss_sp (pss_one (ps_ret (pe_lst (pa_cons pe_str (pa_cons (pe_xv (pv 2)) pa_nil))))) (fun D1 σ1 H1 h1 => by obtain ⟨v, q1, rfl, ⟨dx, rfl, q4⟩, q5⟩ := h1; exact ⟨_, q1, a, _, _, _, ["given"], _, v, rfl, exT T (i := 2) (x := "InvalidStore") rfl, (by simp), ⟨_, .inr ⟨oe, List.mem_cons_self, hz, hf⟩, .inr ⟨dx, rfl, q4⟩⟩, rfl, (by show 2 ≤ sizeLine; decide), fun m hm => q5 m _ hm (Evl.Ex.new hm) upd_same⟩))) (.cons (i := 2) (ts := clSp K "InvalidName" "name") ⟨rfl, by decide, .inl T.g_InvalidName⟩ rfl rfl (fun a oe cls d pn hz hf => (pss_sp (pss_one (ps_ret (pe_lst (pa_cons pe_str (pa_cons (pe_xv (pv 2)) pa_nil))))) (fun D1 σ1 H1 h1 => by obtain ⟨v, q1, rfl, ⟨dx, rfl, q4⟩, q5⟩ := h1; exact ⟨_, q1, a, _, _, _, ["given"], _, v, rfl, exT T (i := 4) (x := "InvalidName") rfl, (by simp), ⟨_, .inr ⟨oe, List.mem_cons_self, hz, hf⟩, .inr ⟨dx, rfl, q4⟩⟩, rfl, (by show 2 ≤ sizeLine; decide), fun m hm => q5 m _ hm (Evl.Ex.new hm) upd_same⟩))) (.cons (i := 2) (ts := clSp K "InvalidValues" "values") ⟨rfl, by decide, .inl T.g_InvalidValues⟩ rfl rfl (fun a oe cls d pn hz hf => (pss_sp (pss_one (ps_ret (pe_lst (pa_cons pe_str (pa_cons (pe_xv (pv 2)) pa_nil))))) (fun D1 σ1 H1 h1 => by obtain ⟨v, q1, rfl, ⟨dx, rfl, q4⟩, q5⟩ := h1; exact ⟨_, q1, a, _, _, _, ["given"], _, v, rfl, exT T (i := 3) (x := "InvalidValues") rfl, (by simp), ⟨_, .inr ⟨oe, List.mem_cons_self, hz, hf⟩, .inr ⟨dx, rfl, q4⟩⟩, rfl, (by show 2 ≤ sizeLine; decide), fun m hm => q5 m _ hm (Evl.Ex.new hm) upd_same⟩))) (.bare (ts := fun _ _ _ _ _ _ => False) ⟨rfl, by decide, .inl T.g_PatchError⟩ (fun a oe cls d pn hz hf => (pss_sp (pss_one (ps_ret (pe_lst (pa_cons pe_str (pa_cons pe_non pa_nil))))) (fun D1 σ1 H1 h1 => h1.elim))) .nil))))))), ?_⟩
  obtain ⟨l, rfl, hcase⟩ := h
  rcases hcase with ⟨v, d, hl, hv, hF, hQ, hE⟩ | ⟨x, ns, hS, hok, hcase⟩
  · refine ⟨_, rfl, l, _, 0, .str "space", rfl, rfl, SqL.of hl, rfl, rfl, _, rfl, iteTo (decide_eq_true rfl) ?_⟩
    refine ⟨_, rfl, l, _, 1, v, rfl, rfl, SqL.of hl, rfl, ?_⟩
    refine fun x dx nx ndx dne => ?_
    have up : Ex H (upd (upd H dx (.own x)) x (.ins (He.ga K "Space") dx [])) := fun q o h => by
      rw [upd_ne (ne_of_none h nx), upd_ne (ne_of_none h ndx)]
      exact h
    have hF' : namesB d = true → FrzT (upd (upd H dx (.own x)) x (.ins (He.ga K "Space") dx [])) v d := by
      intro hn
      have hF := hF hn
      cases d with
      | tup l =>
        obtain ⟨a, o, xs, e1, e2, e3⟩ := hF
        exact ⟨a, o, xs, e1, up _ _ e2, e3⟩
      | _ => trivial
    refine ⟨x, dx, v, d, rfl, upd_same, hv.up up, hF', fun ns hd hok H1 keep sat => ⟨rfl, ?_⟩, fun hn d1 H1 e1 q1 => out_names T ⟨_, _, _, rfl⟩ ((hE hn).up (up.trans e1)) q1⟩
    obtain ⟨dx1, t, o, ps, hx, ht, ho, hT⟩ := id sat
    have e1 : Ex H H1 := fun q o h => keep q o (ne_of_none h nx) (up q o h)
    refine ⟨x, _, dx1, _, .ref t, rfl, hx, T.cl_Space, T.n_names, rfl, ?_⟩
    refine ⟨(by show 2 ≤ sizeLine; decide), fun m hm => ?_⟩
    refine hQ ns hd hok m _ _ (e1.trans (Evl.Ex.new hm)) upd_same ?_
    exact .tup (.inr ⟨o, (Evl.Ex.new hm) _ _ ht⟩) (names_at (fun n hn => Nat.le_trans (hok.wd _ (List.mem_map_of_mem hn)).hi (by omega)) (hT.up (Evl.Ex.new hm)))
  obtain ⟨dx, t, o, ps, hx, ht, ho, hT⟩ := id hS
  rcases hcase with ⟨v, d, hl, hv, hQ, hE⟩ | ⟨v, hl, hcase⟩ | ⟨v, d, hl, hv, hQ, hE⟩ | ⟨v, u, d, e, hl, hv, hu2, hQ, hE, hE2⟩ | ⟨v, u, y, d, e, f, hl, hv, hu2, hy2, hQ, hE, hE2, hE3⟩
  · refine ⟨_, rfl, l, _, 0, .str "values_of", rfl, rfl, SqL.of hl, rfl, rfl, _, rfl, iteFo (nestr (by decide)) ?_⟩
    refine ⟨_, rfl, l, _, 1, .ref x, rfl, rfl, SqL.of hl, rfl, ?_⟩
    refine ⟨_, rfl, l, _, 0, .str "values_of", rfl, rfl, SqL.of hl, rfl, rfl, _, rfl, iteTo (decide_eq_true rfl) ?_⟩
    refine ⟨_, rfl, x, dx, _, rfl, hx, rfl, _, rfl, l, _, 2, _, rfl, rfl, SqL.of hl, rfl, x, ns, v, d, rfl, hS, hok, hv, fun k hk1 hk p H1 hp e1 hp1 => ?_, fun hs d1 H1 e1 q1 => out_store T ⟨_, _, _, rfl⟩ ((hE hs).up e1) q1⟩
    have hst : storeB ns d = true := by
      rw [hk1]
      show (decide ((0 : Int) ≤ (k : Int)) && decide ((k : Int) ≤ ((prodN (szs ns) : Nat) : Int) - 1)) = true
      rw [decide_eq_true (by omega), decide_eq_true (by omega)]
      rfl
    exact ⟨p, _, rfl, hp1, fun H2 p2 ts g2 np2 _ _ hp2 _ => ⟨(by show 2 ≤ sizeLine; decide), fun m hm => hQ hst m _ _ (Evl.Ex.trans e1 (Evl.Ex.trans g2 (Evl.Ex.new hm))) upd_same trivial⟩⟩
  · rcases hcase with ⟨d, hv, hk, hE⟩ | ⟨a, kvs, rfl, ha, hvs, hQ, hE⟩
    · refine ⟨_, rfl, l, _, 0, .str "store_of", rfl, rfl, SqL.of hl, rfl, rfl, _, rfl, iteFo (nestr (by decide)) ?_⟩
      refine ⟨_, rfl, l, _, 1, .ref x, rfl, rfl, SqL.of hl, rfl, ?_⟩
      refine ⟨_, rfl, l, _, 0, .str "store_of", rfl, rfl, SqL.of hl, rfl, rfl, _, rfl, iteFo (nestr (by decide)) ?_⟩
      refine ⟨_, rfl, l, _, 0, .str "store_of", rfl, rfl, SqL.of hl, rfl, rfl, _, rfl, iteTo (decide_eq_true rfl) ?_⟩
      exact ⟨_, rfl, x, dx, _, rfl, hx, rfl, _, rfl, l, _, 2, _, rfl, rfl, SqL.of hl, rfl, x, ns, v, rfl, hS, hok, .inl ⟨d, hv, hk, fun d1 H1 e1 q1 => out_values T ⟨_, _, _, rfl⟩ ((hE).up e1) q1⟩⟩
    · refine ⟨_, rfl, l, _, 0, .str "store_of", rfl, rfl, SqL.of hl, rfl, rfl, _, rfl, iteFo (nestr (by decide)) ?_⟩
      refine ⟨_, rfl, l, _, 1, .ref x, rfl, rfl, SqL.of hl, rfl, ?_⟩
      refine ⟨_, rfl, l, _, 0, .str "store_of", rfl, rfl, SqL.of hl, rfl, rfl, _, rfl, iteFo (nestr (by decide)) ?_⟩
      refine ⟨_, rfl, l, _, 0, .str "store_of", rfl, rfl, SqL.of hl, rfl, rfl, _, rfl, iteTo (decide_eq_true rfl) ?_⟩
      exact ⟨_, rfl, x, dx, _, rfl, hx, rfl, _, rfl, l, _, 2, _, rfl, rfl, SqL.of hl, rfl, x, ns, _, rfl, hS, hok, .inr ⟨a, kvs, rfl, ha, hvs, fun hz k => ⟨(by show 2 ≤ sizeLine; decide), fun m hm => hQ hz m _ _ (Evl.Ex.new hm) upd_same trivial⟩, fun hz d1 H1 e1 q1 => out_values T ⟨_, _, _, rfl⟩ ((hE hz).up e1) q1⟩⟩
  · refine ⟨_, rfl, l, _, 0, .str "size_of", rfl, rfl, SqL.of hl, rfl, rfl, _, rfl, iteFo (nestr (by decide)) ?_⟩
    refine ⟨_, rfl, l, _, 1, .ref x, rfl, rfl, SqL.of hl, rfl, ?_⟩
    refine ⟨_, rfl, l, _, 0, .str "size_of", rfl, rfl, SqL.of hl, rfl, rfl, _, rfl, iteFo (nestr (by decide)) ?_⟩
    refine ⟨_, rfl, l, _, 0, .str "size_of", rfl, rfl, SqL.of hl, rfl, rfl, _, rfl, iteFo (nestr (by decide)) ?_⟩
    refine ⟨_, rfl, l, _, 0, .str "size_of", rfl, rfl, SqL.of hl, rfl, rfl, _, rfl, iteTo (decide_eq_true rfl) ?_⟩
    refine ⟨_, rfl, x, dx, _, rfl, hx, rfl, _, rfl, l, _, 2, _, rfl, rfl, SqL.of hl, rfl, x, ns, v, d, rfl, hS, hok, hv, fun n i hn hd H1 e1 => ?_, fun hz d1 H1 e1 q1 => out_name T ⟨_, _, _, rfl⟩ ((hE hz).up e1) q1⟩
    have hin : inB (wds ns) d = true := by
      rw [hd]
      show (wds ns).contains n.1 = true
      simpa using mem_wds hn
    exact ⟨(by show 2 ≤ sizeLine; decide), fun m hm => hQ hin m _ _ (Evl.Ex.trans e1 (Evl.Ex.new hm)) upd_same trivial⟩
  · refine ⟨_, rfl, l, _, 0, .str "value_of", rfl, rfl, SqL.of hl, rfl, rfl, _, rfl, iteFo (nestr (by decide)) ?_⟩
    refine ⟨_, rfl, l, _, 1, .ref x, rfl, rfl, SqL.of hl, rfl, ?_⟩
    refine ⟨_, rfl, l, _, 0, .str "value_of", rfl, rfl, SqL.of hl, rfl, rfl, _, rfl, iteFo (nestr (by decide)) ?_⟩
    refine ⟨_, rfl, l, _, 0, .str "value_of", rfl, rfl, SqL.of hl, rfl, rfl, _, rfl, iteFo (nestr (by decide)) ?_⟩
    refine ⟨_, rfl, l, _, 0, .str "value_of", rfl, rfl, SqL.of hl, rfl, rfl, _, rfl, iteFo (nestr (by decide)) ?_⟩
    refine ⟨_, rfl, l, _, 0, .str "value_of", rfl, rfl, SqL.of hl, rfl, rfl, _, rfl, iteTo (decide_eq_true rfl) ?_⟩
    exact ⟨_, rfl, x, dx, _, rfl, hx, rfl, _, rfl, l, _, 2, _, rfl, rfl, SqL.of hl, rfl, _, rfl, l, _, 3, _, rfl, rfl, SqL.of hl, rfl, x, ns, v, u, d, e, rfl, hS, hok, hv, hu2, fun h1 h2 k H1 e1 => ⟨(by show 2 ≤ sizeLine; decide), fun m hm => hQ h1 h2 m _ _ (Evl.Ex.trans e1 (Evl.Ex.new hm)) upd_same trivial⟩, fun h1 d1 H1 e1 q1 => out_store T ⟨_, _, _, rfl⟩ ((hE h1).up e1) q1, fun h1 h2 d1 H1 e1 q1 => out_name T ⟨_, _, _, rfl⟩ ((hE2 h1 h2).up e1) q1⟩
  · refine ⟨_, rfl, l, _, 0, .str "with_value", rfl, rfl, SqL.of hl, rfl, rfl, _, rfl, iteFo (nestr (by decide)) ?_⟩
    refine ⟨_, rfl, l, _, 1, .ref x, rfl, rfl, SqL.of hl, rfl, ?_⟩
    refine ⟨_, rfl, l, _, 0, .str "with_value", rfl, rfl, SqL.of hl, rfl, rfl, _, rfl, iteFo (nestr (by decide)) ?_⟩
    refine ⟨_, rfl, l, _, 0, .str "with_value", rfl, rfl, SqL.of hl, rfl, rfl, _, rfl, iteFo (nestr (by decide)) ?_⟩
    refine ⟨_, rfl, l, _, 0, .str "with_value", rfl, rfl, SqL.of hl, rfl, rfl, _, rfl, iteFo (nestr (by decide)) ?_⟩
    refine ⟨_, rfl, l, _, 0, .str "with_value", rfl, rfl, SqL.of hl, rfl, rfl, _, rfl, iteFo (nestr (by decide)) ?_⟩
    exact ⟨_, rfl, x, dx, _, rfl, hx, rfl, _, rfl, l, _, 2, _, rfl, rfl, SqL.of hl, rfl, _, rfl, l, _, 3, _, rfl, rfl, SqL.of hl, rfl, _, rfl, l, _, 4, _, rfl, rfl, SqL.of hl, rfl, x, ns, v, u, y, d, e, f, rfl, hS, hok, hv, hu2, hy2, fun h1 h2 h3 k H1 e1 => ⟨(by show 2 ≤ sizeLine; decide), fun m hm => hQ h1 h2 h3 m _ _ (Evl.Ex.trans e1 (Evl.Ex.new hm)) upd_same trivial⟩, fun h1 d1 H1 e1 q1 => out_store T ⟨_, _, _, rfl⟩ ((hE h1).up e1) q1, fun h1 h2 d1 H1 e1 q1 => out_name T ⟨_, _, _, rfl⟩ ((hE2 h1 h2).up e1) q1, fun h1 h2 h3 d1 H1 e1 q1 => out_values T ⟨_, _, _, rfl⟩ ((hE3 h1 h2 h3).up e1) q1⟩

end
end K05
namespace K05
open PySem PySem.Spec PyProof.Rows L2 C8
section
variable {P : Program} {w : World} {K : PySem.W.Frag} {mg : Str → Option Value} {base : Heap}
/-- the names as a list of pairs -/
def NamesAt (H : Hp) (l : Addr) (ns : NS) : Prop := ∃ ps : List Addr, H l = some (.lst (ps.map V.ref)) ∧ Prs H ps ns
theorem NamesAt.up {H H' : Hp} {l : Addr} {ns : NS} (h : NamesAt H l ns) (e : Ex H H') : NamesAt H' l ns := by
  obtain ⟨ps, h1, h2⟩ := h
  exact ⟨ps, e _ _ h1, h2.up e⟩
abbrev N_l_is_odd : List Str := ["kind", "thing", "names", "many", "pair"]
theorem sc_l_is_odd : FnScope N_l_is_odd ["kind", "thing", "names", "many"] (defScope (top 47)) := ⟨rfl, rfl, rfl, by decide +kernel, rfl, by decide +kernel, by decide +kernel⟩
def oddB (ns : NS) (kind : Str) (d : Th) : Bool := if kind = "name" then !inB (wds ns) d else if kind = "store" then !storeB ns d else !wholeB d
def spOdd (K : PySem.W.Frag) : Sp := fun vs H Q _ => ∃ (kind : Str) (v : V) (d : Th) (l : Addr) (ns : NS), vs = [.str kind, v, .ref l, .int ((prodN (szs ns) : Nat) : Int)] ∧ (kind = "name" ∨ kind = "store" ∨ kind = "values") ∧ AtK5 K H v d ∧ NamesAt H l ns ∧ NsOk ns ∧ ∀ H', Ex H H' → Q (.bl (oddB ns kind d)) H'
theorem ok_l_is_odd (T : Txt K mg)  : Cal P w K mg base 1 "_law_is_odd" (spOdd K) [] := by
  obtain ⟨fd, F⟩ := T.d__law_is_odd
  refine ⟨_, fd, ["kind", "thing", "names", "many"], [], ?_, T.g__law_is_odd, F.kp, F.bindsN fun _ _ _ _ _ _ us hl => match us, hl with | [_, _, _, _], _ => rfl, .nil⟩
  refine F.ok sc_l_is_odd (fun vs H Q E h => by obtain ⟨_, _, _, _, _, rfl, _⟩ := h; rfl) (fun cdv A outer s H vs Q E hr h => ?_)
  have hu := hu_of hr
  refine ⟨_, PSs.nox (pss_cons (ps_if (pt_cmpR op_eq (pv 0) pe_str (nomark _)) (pss_one (ps_ret (pe_or (pe_not (pe_callB call_isi (by rfl) T.f_isinstance (by decide +kernel) (pa_cons (pv 1) (pa_cons (pe_bltn (v := .ty "str") (u := .type "str") (by rfl) T.f_str (by decide +kernel) rfl) pa_nil)))) (pe_one (pe_cmpR op_notIn_seq (pv 1) (pe_lc (own := [("pair", 4)]) rfl sc_l_is_odd.nd (pi_list (pv 2)) (blkOk_by (own := [("pair", 4)]) (N := N_l_is_odd) (sc := defScope (top 47)) (by decide +kernel)) (fun _ _ _ _ _ => (pg_name (i := 4) sc_l_is_odd.nd rfl (Or.inl rfl))) (fun _ _ _ _ _ => pts_nil) (fun _ _ _ _ _ => (pe_ix (ixT (K := K) rfl) (pv 4) pe_int (fun _ _ => rfl)))) rfl))))) pss_nil)
      (pss_cons (ps_if (PW.pt (pw_or (pt_not (pt_val (pe_callB call_isi (by rfl) T.f_isinstance (by decide +kernel) (pa_cons (pv 1) (pa_cons (pe_bltn (v := .ty "int") (u := .type "int") (by rfl) T.f_int (by decide +kernel) rfl) pa_nil))))) (pw_or1 (pt_val (pe_callB call_isi (by rfl) T.f_isinstance (by decide +kernel) (pa_cons (pv 1) (pa_cons (pe_bltn (v := .ty "bool") (u := .type "bool") (by rfl) T.f_bool (by decide +kernel) rfl) pa_nil))))))) (pss_one (ps_ret pe_bl)) pss_nil)
      (pss_one (ps_ret (pe_and (pe_cmpR op_eq (pv 0) pe_str (nomark _)) (pe_one (pe_not (pe_chain op_le op_lt pe_int (pv 1) (pv 3))))))))), ?_⟩
  obtain ⟨kind, v, d, l, ns, rfl, hk, hv, ⟨ps, hl0, hT⟩, hok, hQ⟩ := h
  have hlen := hT.length
  have hn3 := hok.len
  rcases hk with rfl | rfl | rfl
  · refine ⟨_, rfl, rfl, _, rfl, iteTo (decide_eq_true rfl) ?_⟩
    have hQ : ∀ H', Ex H H' → Q (.bl (!inB (wds ns) d)) H' := hQ
    refine ⟨_, rfl, _, _, _, _, _, rfl, .ty _, At.tyx T.rc hv, Kd.kit T.rc _ (by decide), _, rfl, _, rfl, ?_⟩
    cases hv with
    | str z hz =>
      refine iteFo rfl ?_
      refine ⟨_, rfl, _, rfl, l, rfl, ⟨_, SqL.of hl0⟩, fun D hD => ?_⟩
      refine lc_fn (walk_list (xs := ps.map V.ref)) (fun i => V.str ((ns.getD i (alpha, 0)).1)) (by rw [List.length_map]; omega) hD (fun H' e => SqL.of (e _ _ hl0)) ?_ ?_
      · rintro i y H1' H1 Z B hi e hl ⟨rfl, hy⟩ hZ
        obtain ⟨p, rfl, hp2⟩ := refs_get hy
        obtain ⟨n, hn, hpn⟩ := hT.get hp2
        refine ⟨rfl, ?_⟩
        rw [getD_of hn] at hZ
        exact ⟨_, rfl, p, _, 0, _, rfl, rfl, .inl (hpn.mono e), rfl, hZ _ (Evl.Ex.refl _)⟩
      intro H1 e1 hd1
      rw [List.length_map, hlen, words_list] at hd1
      refine ⟨D, _, rfl, .inl (SqL.of hd1), rfl, flat_strs _, ?_⟩
      rw [if_pos rfl, inV_strs]
      exact hQ _ e1
    | bl b => exact iteTo rfl (hQ _ (Evl.Ex.refl _))
    | non => exact iteTo rfl (hQ _ (Evl.Ex.refl _))
    | int i => exact iteTo rfl (hQ _ (Evl.Ex.refl _))
    | rat _ => exact iteTo rfl (hQ _ (Evl.Ex.refl _))
    | lst _ _ => exact iteTo rfl (hQ _ (Evl.Ex.refl _))
    | tup _ _ => exact iteTo rfl (hQ _ (Evl.Ex.refl _))
    | dic _ _ => exact iteTo rfl (hQ _ (Evl.Ex.refl _))
  · refine ⟨_, rfl, rfl, _, rfl, iteFo (nestr (by decide)) ?_⟩
    have hQ : ∀ H', Ex H H' → Q (.bl (!storeB ns d)) H' := hQ
    refine ⟨_, rfl, _, _, _, _, _, rfl, .ty _, At.tyx T.rc hv, Kd.kit T.rc _ (by decide), _, rfl, ?_⟩
    cases id hv with
    | int i =>
      refine iteFo rfl ?_
      refine ⟨_, rfl, _, _, _, _, _, rfl, .ty _, At.tyx T.rc hv, Kd.kit T.rc _ (by decide), _, rfl, iteFo rfl ?_⟩
      refine ⟨_, rfl, rfl, _, rfl, iteTo (decide_eq_true rfl) ?_⟩
      have hQ : ∀ H', Ex H H' → Q (.bl (!(decide ((0 : Int) ≤ i) && decide (i ≤ ((prodN (szs ns) : Nat) : Int) - 1)))) H' := hQ
      refine ⟨_, rfl, _, _, rfl, rfl, _, rfl, ?_⟩
      by_cases c1 : 0 ≤ i
      · rw [decide_eq_true c1, Bool.true_and] at hQ
        refine iteTo (decide_eq_true c1) ⟨_, rfl, _, _, rfl, rfl, _, rfl, ?_⟩
        have e1 : decide (i < ((prodN (szs ns) : Nat) : Int)) = decide (i ≤ ((prodN (szs ns) : Nat) : Int) - 1) := decide_eq_decide.mpr (by omega)
        rw [e1]
        exact hQ _ (Evl.Ex.refl _)
      · rw [decide_eq_false c1, Bool.false_and] at hQ
        exact iteFo (decide_eq_false c1) ⟨_, rfl, hQ _ (Evl.Ex.refl _)⟩
    | bl b =>
      refine iteFo rfl ?_
      refine ⟨_, rfl, _, _, _, _, _, rfl, .ty _, At.tyx T.rc hv, Kd.kit T.rc _ (by decide), _, rfl, iteTo rfl ?_⟩
      exact hQ _ (Evl.Ex.refl _)
    | non => exact iteTo rfl (hQ _ (Evl.Ex.refl _))
    | str _ _ => exact iteTo rfl (hQ _ (Evl.Ex.refl _))
    | rat _ => exact iteTo rfl (hQ _ (Evl.Ex.refl _))
    | lst _ _ => exact iteTo rfl (hQ _ (Evl.Ex.refl _))
    | tup _ _ => exact iteTo rfl (hQ _ (Evl.Ex.refl _))
    | dic _ _ => exact iteTo rfl (hQ _ (Evl.Ex.refl _))
  · refine ⟨_, rfl, rfl, _, rfl, iteFo (nestr (by decide)) ?_⟩
    have hQ : ∀ H', Ex H H' → Q (.bl (!wholeB d)) H' := hQ
    refine ⟨_, rfl, _, _, _, _, _, rfl, .ty _, At.tyx T.rc hv, Kd.kit T.rc _ (by decide), _, rfl, ?_⟩
    cases id hv with
    | int i =>
      refine iteFo rfl ?_
      refine ⟨_, rfl, _, _, _, _, _, rfl, .ty _, At.tyx T.rc hv, Kd.kit T.rc _ (by decide), _, rfl, iteFo rfl ?_⟩
      refine ⟨_, rfl, rfl, _, rfl, iteFo (nestr (by decide)) ?_⟩
      exact hQ _ (Evl.Ex.refl _)
    | bl b =>
      refine iteFo rfl ?_
      refine ⟨_, rfl, _, _, _, _, _, rfl, .ty _, At.tyx T.rc hv, Kd.kit T.rc _ (by decide), _, rfl, iteTo rfl ?_⟩
      exact hQ _ (Evl.Ex.refl _)
    | non => exact iteTo rfl (hQ _ (Evl.Ex.refl _))
    | str _ _ => exact iteTo rfl (hQ _ (Evl.Ex.refl _))
    | rat _ => exact iteTo rfl (hQ _ (Evl.Ex.refl _))
    | lst _ _ => exact iteTo rfl (hQ _ (Evl.Ex.refl _))
    | tup _ _ => exact iteTo rfl (hQ _ (Evl.Ex.refl _))
    | dic _ _ => exact iteTo rfl (hQ _ (Evl.Ex.refl _))

end
end K05
namespace K05
open PySem PySem.Spec PyProof.Rows L2 C8
section
variable {P : Program} {w : World} {K : PySem.W.Frag} {mg : Str → Option Value} {base : Heap}
abbrev N_l_are_values : List Str := ["thing", "names", "name", "size", "value"]
theorem sc_l_are_values : FnScope N_l_are_values ["thing", "names"] (defScope (top 41)) := ⟨rfl, rfl, rfl, by decide +kernel, rfl, by decide +kernel, by decide +kernel⟩
def spAreVals (K : PySem.W.Frag) : Sp := fun vs H Q _ => ∃ (a l : Addr) (kvs : List (Key × V)) (ns : NS), vs = [.ref a, .ref l] ∧ H a = some (.dK kvs) ∧ (∀ z u, valV kvs (.inr z) = some u → ∃ t, AtK5 K H u t) ∧ NamesAt H l ns ∧ NsOk ns ∧ Q (.bl (valsB ns kvs)) H
theorem ok_l_are_values (T : Txt K mg)  : Cal P w K mg base 1 "_law_are_values" (spAreVals K) [] := by
  obtain ⟨fd, F⟩ := T.d__law_are_values
  refine ⟨_, fd, ["thing", "names"], [], ?_, T.g__law_are_values, F.kp, F.bindsN fun _ _ _ _ _ _ us hl => match us, hl with | [_, _], _ => rfl, .nil⟩
  refine F.ok sc_l_are_values (fun vs H Q E h => by obtain ⟨_, _, _, _, rfl, _⟩ := h; rfl) (fun cdv A outer s H vs Q E hr h => ?_)
  have hu := hu_of hr
  refine ⟨_, PSs.nox (pss_cons (ps_if (PW.pt (pw_or (pt_not (pt_val (pe_callB call_isi (by rfl) T.f_isinstance (by decide +kernel) (pa_cons (pv 0) (pa_cons (pe_bltn (v := .ty "dict") (u := .type "dict") (by rfl) T.f_dict (by decide +kernel) rfl) pa_nil))))) (pw_or1 (pt_cmpR op_ne (pe_callB call_lenD (by rfl) T.f_len (by decide +kernel) (pa_cons (pv 0) pa_nil)) (pe_callB call_len_seq (by rfl) T.f_len (by decide +kernel) (pa_cons (pv 1) pa_nil)) (nomark _))))) (pss_one (ps_ret pe_bl)) pss_nil)
      (pss_cons (ps_for PassesOwn.never rfl (pi_list (pv 1)) (pg_tup (by rfl) (pgs_cons (pg_name (i := 2) sc_l_are_values.nd rfl (Or.inl rfl)) (pgs_cons (pg_name (i := 3) sc_l_are_values.nd rfl (Or.inl rfl)) pgs_nil))) (pss_cons (ps_set (i := 4) sc_l_are_values.nd rfl (Or.inl rfl) (pe_dget1 hu (pv 0) (pv 2) ⟨rfl, rfl, rfl, rfl⟩))
      (pss_one (ps_if (PW.pt (pw_or (pt_not (pt_val (pe_callB call_isi (by rfl) T.f_isinstance (by decide +kernel) (pa_cons (pv 4) (pa_cons (pe_bltn (v := .ty "int") (u := .type "int") (by rfl) T.f_int (by decide +kernel) rfl) pa_nil))))) (pw_or (pt_val (pe_callB call_isi (by rfl) T.f_isinstance (by decide +kernel) (pa_cons (pv 4) (pa_cons (pe_bltn (v := .ty "bool") (u := .type "bool") (by rfl) T.f_bool (by decide +kernel) rfl) pa_nil)))) (pw_or1 (pt_not (pt_chain op_le op_lt pe_int (pv 4) (pv 3))))))) (pss_one (ps_ret pe_bl)) pss_nil))))
      (pss_one (ps_ret pe_bl)))), ?_⟩
  obtain ⟨a, l, kvs, ns, rfl, hd, hvs, ⟨ps, hl0, hT⟩, hok, hQ⟩ := h
  have hlen := hT.length
  have hn3 := hok.len
  refine ⟨_, rfl, _, _, _, _, _, rfl, ClsV.ty _, TyX.base (TyOf.dK hd), kit_ty (r := true) (by decide +kernel), _, rfl, iteFo rfl ?_⟩
  refine ⟨_, rfl, a, kvs, rfl, hd, ?_⟩
  refine ⟨_, rfl, l, _, rfl, .inl (SqL.of hl0), rfl, _, rfl, ?_⟩
  by_cases ln : kvs.length = ns.length
  case neg =>
    have e1 : valsB ns kvs = false := by unfold valsB; rw [decide_eq_false ln]; rfl
    rw [e1] at hQ
    rw [decide_eq_false (fun z => ln (by
      have z := V.int.inj z
      rw [List.length_map, hlen] at z
      omega))]
    exact iteTo rfl hQ
  rw [decide_eq_true (by rw [List.length_map, hlen, ln])]
  refine iteFo rfl ?_
  refine ⟨_, rfl, l, rfl, ⟨_, SqL.of hl0⟩, ?_⟩
  refine for_it (walk_list (xs := ps.map V.ref)) (fun i σ H' => H' = H ∧ (∀ j n, j < i → ns[j]? = some n → valB kvs n = true) ∧ ∃ x2 x3 x4 : Option V, σ = [some (.ref a), some (.ref l), x2, x3, x4]) ⟨rfl, fun j n h _ => by omega, none, none, none, rfl⟩ (fun i σ H' _ p => by rw [p.1]; exact SqL.of hl0) ?_ ?_
  · rintro i y σ H1 H1' hi ⟨rfl, hb, x2, x3, x4, rfl⟩ ⟨rfl, hy⟩
    obtain ⟨p, rfl, hp2⟩ := refs_get hy
    obtain ⟨n, hn, hpn⟩ := hT.get hp2
    have hsz := hok.size (List.mem_of_getElem? hn)
    refine ⟨p, nV n, rfl, .inl hpn, rfl, _, _, rfl, _, _, rfl, rfl, ?_⟩
    have dg := DGet.k (k := .inr n.1) hd
    have bad : valB kvs n = false → valsB ns kvs = false := fun e => by
      unfold valsB
      rw [Bool.and_eq_false_iff]
      right
      rw [List.all_eq_false]
      exact ⟨n, List.mem_of_getElem? hn, by rw [e]; decide⟩
    refine ⟨_, rfl, a, rfl, .inl ⟨kvs, .inl hd⟩, _, rfl, _, dg, ?_⟩
    obtain ⟨u, tu, hu1, hval⟩ : ∃ u tu, AtK5 K H1' u tu ∧ (valV kvs (.inr n.1)).getD .non = u ∧ valB kvs n = fromB 0 ((n.2 : Int) - 1) tu := by
      cases hw : valV kvs (.inr n.1) with
      | none => exact ⟨.non, .non, .non, rfl, by unfold valB; rw [hw]; rfl⟩
      | some u =>
        obtain ⟨tu, h⟩ := hvs _ _ hw
        refine ⟨u, tu, h, rfl, ?_⟩
        unfold valB
        rw [hw]
        cases h <;> rfl
    rw [hval.1]
    refine ⟨_, rfl, _, _, _, _, _, rfl, .ty _, At.tyx T.rc hu1, Kd.kit T.rc _ (by decide), _, rfl, ?_⟩
    cases id hu1 with
    | int i2 =>
      refine iteFo rfl ?_
      refine ⟨_, rfl, _, _, _, _, _, rfl, .ty _, At.tyx T.rc hu1, Kd.kit T.rc _ (by decide), _, rfl, iteFo rfl ?_⟩
      have hb2 : valB kvs n = (decide ((0 : Int) ≤ i2) && decide (i2 ≤ (n.2 : Int) - 1)) := hval.2
      refine ⟨_, rfl, _, _, rfl, rfl, _, rfl, ?_⟩
      by_cases c1 : 0 ≤ i2
      · rw [decide_eq_true c1, Bool.true_and] at hb2
        refine iteTo (decide_eq_true c1) ⟨_, rfl, _, _, rfl, rfl, _, rfl, ?_⟩
        by_cases c2 : i2 ≤ (n.2 : Int) - 1
        · rw [decide_eq_true c2] at hb2
          rw [decide_eq_true (by omega)]
          refine iteFo rfl ⟨rfl, fun j m hj hm => ?_, _, _, _, rfl⟩
          by_cases c : j < i
          · exact hb j m c hm
          · have : j = i := by omega
            subst this
            rw [hn] at hm
            cases hm
            exact hb2
        · rw [decide_eq_false c2] at hb2
          rw [decide_eq_false (by omega)]
          rw [bad hb2] at hQ
          exact iteTo rfl hQ
      · rw [decide_eq_false c1, Bool.false_and] at hb2
        rw [bad hb2] at hQ
        exact iteFo (decide_eq_false c1) ⟨_, rfl, iteTo rfl hQ⟩
    | bl b =>
      refine iteFo rfl ?_
      rw [bad hval.2] at hQ
      exact ⟨_, rfl, _, _, _, _, _, rfl, .ty _, At.tyx T.rc hu1, Kd.kit T.rc _ (by decide), _, rfl, iteTo rfl hQ⟩
    | non =>
      rw [bad hval.2] at hQ
      exact iteTo rfl hQ
    | str _ _ =>
      rw [bad hval.2] at hQ
      exact iteTo rfl hQ
    | rat _ =>
      rw [bad hval.2] at hQ
      exact iteTo rfl hQ
    | lst _ _ =>
      rw [bad hval.2] at hQ
      exact iteTo rfl hQ
    | tup _ _ =>
      rw [bad hval.2] at hQ
      exact iteTo rfl hQ
    | dic _ _ =>
      rw [bad hval.2] at hQ
      exact iteTo rfl hQ
  · rintro σ H1 ⟨rfl, hb, x2, x3, x4, rfl⟩
    have e1 : valsB ns kvs = true := by
      unfold valsB
      rw [decide_eq_true ln, Bool.true_and, List.all_eq_true]
      intro n hn
      obtain ⟨i, hi⟩ := List.getElem?_of_mem hn
      exact hb i n (by rw [List.length_map, hlen]; exact (List.getElem?_eq_some_iff.mp hi).1) hi
    rw [e1] at hQ
    exact hQ

end
end K05
namespace K05
open PySem PySem.Spec PyProof.Rows L2 C8
theorem barq : ∀ z ∈ barred, barred.contains (z ++ ("q" : Str)) = false := by decide +kernel
theorem bar_short : ∀ z ∈ barred, z.length ≤ 6 := by decide +kernel
/-- the letters of a word: with a q behind where the language has the word -/
def freeQ (l : List Nat) : List Nat := if isBar (S l) then l ++ [113] else l
theorem freeQ_bar (l : List Nat) : isBar (S (freeQ l)) = false := by
  unfold freeQ
  cases e : isBar (S l) with
  | false => rw [if_neg Bool.false_ne_true]; exact e
  | true =>
    rw [if_pos rfl]
    have hm : S l ∈ barred := by simpa [isBar] using e
    have := barq _ hm
    have e2 : S l ++ ("q" : Str) = S (l ++ [113]) := S_app l [113]
    rw [e2] at this
    exact this
theorem freeQ_low {l : List Nat} (h : Low l) : Low (freeQ l) := by
  unfold freeQ
  split
  · intro c hc
    rcases List.mem_append.mp hc with hc | hc
    · exact h c hc
    · have : c = 113 := by simpa using hc
      omega
  · exact h
theorem freeQ_len (l : List Nat) : l.length ≤ (freeQ l).length ∧ ((freeQ l).length ≤ l.length ∨ (freeQ l).length ≤ 7) := by
  unfold freeQ
  split
  · next e =>
    have hm : S l ∈ barred := by simpa [isBar] using e
    have := bar_short _ hm
    rw [S_len] at this
    rw [List.length_append]
    exact ⟨by omega, .inr (by simp; omega)⟩
  · exact ⟨Nat.le_refl _, .inl (Nat.le_refl _)⟩
section
variable {P : Program} {w : World} {K : PySem.W.Frag} {mg : Str → Option Value} {base : Heap}
abbrev N_l_word : List Str := ["box", "letters", "found", "turn"]
theorem sc_l_word : FnScope N_l_word ["box"] (defScope (top 37)) := ⟨rfl, rfl, rfl, by decide +kernel, rfl, by decide +kernel, by decide +kernel⟩
/-- a new word -/
def spWordL : Sp := fun vs H Q _ => ∃ (Hb : Hp) (b : Addr) (c : Nat), vs = [.ref b] ∧ Wd Hb H b c ∧ c ≤ 800000 ∧ ∀ l H', Low l → 1 ≤ l.length → l.length ≤ 7 → isBar (S l) = false → Wd Hb H' b (c + 8) → Q (.str (S l)) H'
theorem ok_l_word (T : Txt K mg) (C_l_take : Cal P w K mg base 1 "_law_take" spTake []) (C_l_barred : Cal P w K mg base 1 "_law_barred" spBarred []) : Cal P w K mg base 2 "_law_word" (spWordL) [] := by
  obtain ⟨fd, F⟩ := T.d__law_word
  refine ⟨_, fd, ["box"], [], ?_, T.g__law_word, F.kp, F.bindsN fun _ _ _ _ _ _ us hl => match us, hl with | [_], _ => rfl, .nil⟩
  refine F.ok sc_l_word (fun vs H Q E h => by obtain ⟨_, _, _, rfl, _⟩ := h; rfl) (fun cdv A outer s H vs Q E hr h => ?_)
  have hu := hu_of hr
  refine ⟨_, PSs.nox (pss_cons (ps_set (i := 1) sc_l_word.nd rfl (Or.inr rfl) pe_str)
      (pss_cons (ps_set (i := 2) sc_l_word.nd rfl (Or.inl rfl) (pe_join pe_str (pe_lc (own := [("turn", 3)]) rfl sc_l_word.nd (pi_range1 (by rfl) T.f_range (pa_cons (pe_op op_add pe_int (pe_c C_l_take hr (by omega) rfl (pa_cons (pv 0) (pa_cons pe_int pa_nil)))) pa_nil)) (blkOk_by (own := [("turn", 3)]) (N := N_l_word) (sc := defScope (top 37)) (by decide +kernel)) (fun _ _ _ _ _ => (pg_name (i := 3) sc_l_word.nd rfl (Or.inl rfl))) (fun _ _ _ _ _ => pts_nil) (fun _ _ _ _ _ => (pe_ix ix_str (pv 1) (pe_c C_l_take hr (by omega) rfl (pa_cons (pv 0) (pa_cons pe_int pa_nil))) (fun _ _ => rfl))))))
      (pss_one (ps_ret (pe_ifExp (pt_cmpR op_in_seq (pv 2) (pe_c0 C_l_barred hr (by omega) rfl) rfl) (pe_op op_add_str (pv 2) pe_str) (pv 2)))))), ?_⟩
  obtain ⟨Hb, b, c, rfl, W, hc, hQ⟩ := h
  refine ⟨⟨_, rfl⟩, ?_⟩
  refine ⟨_, rfl, Hb, b, c, 7, rfl, W, by omega, by decide, by decide, fun r0 H1 r00 r01 W1 => ?_⟩
  refine ⟨_, _, rfl, rfl, _, rfl, by omega, by omega, fun D hD => ?_⟩
  obtain ⟨m, em⟩ : ∃ m : Nat, (1 + r0) = (m : Int) := ⟨(1 + r0).toNat, by omega⟩
  have m1 : 1 ≤ m := by omega
  have m7 : m ≤ 7 := by omega
  have emt : (1 + r0).toNat = m := by omega
  rw [emt]
  have nD := W1.ne hD
  have bD := W1.free hD
  refine lc_range (lo := 0) (n := m) (fun i H' => ∃ cs : List Nat, cs.length = i ∧ Low cs ∧ Wd Hb H' b (c + 1 + i) ∧ H' D = some (.lst ((cs.map fun c => (⟨#[c]⟩ : Str)).map V.str))) ⟨[], rfl, (fun x hx => by cases hx), W1.skip hD, upd_same⟩ ?_ ?_
  · rintro i H' hi ⟨cs, hcl, hlow, W2, hD2⟩
    refine ⟨rfl, ?_⟩
    refine ⟨_, rfl, _, rfl, _, b, _, 26, rfl, W2.know hD2 nD, by omega, by decide, by decide, fun r H3 r0 r1 W3 => ?_⟩
    have hD3 : H3 D = some (.lst ((cs.map fun c => (⟨#[c]⟩ : Str)).map V.str)) := W3.ex D _ upd_same
    refine ⟨_, _, _, rfl, rfl, (by decide), alpha_at r0 r1, ?_⟩
    refine ⟨_, hD3, ?_, cs ++ [r.toNat + 97], by rw [List.length_append, hcl]; rfl, ?_, (W3.less (Evl.Ex.new bD)).chg bD nD, ?_⟩
    · rw [List.length_map, List.length_map, hcl]
      exact Nat.lt_of_lt_of_le (show i < 8 by omega) (by decide)
    · intro x hx
      rcases List.mem_append.mp hx with hx | hx
      · exact hlow x hx
      · have : x = r.toNat + 97 := by simpa using hx
        omega
    · rw [List.map_append, List.map_append]
      exact upd_same
  rintro H2 ⟨cs, hcl, hlow, W2, hD2⟩
  refine ⟨_, D, cs.map fun c => (⟨#[c]⟩ : Str), rfl, rfl, .inl (SqL.of hD2), ?_, ?_⟩
  · have e : ((cs.map fun c => (⟨#[c]⟩ : Str)).map (·.length)).sum = cs.length := by
      rw [List.map_map]
      clear hcl hlow hD2 hQ
      induction cs with
      | nil => rfl
      | cons a r ih =>
        rw [List.map_cons, List.sum_cons, ih, List.length_cons]
        show 1 + r.length = r.length + 1
        omega
    rw [e, List.length_map, hcl]
    show m + m * 0 ≤ _
    omega
  rw [join_S]
  refine ⟨_, rfl, rfl, fun lb H3 nb g3 h3 => ?_⟩
  refine ⟨lb, _, rfl, .inl (SqL.of h3), rfl, by decide +kernel, _, rfl, ?_⟩
  rw [if_neg (by decide), inV_bar]
  have W3 := (W2.grow g3).mono (show c + 1 + m ≤ c + 8 by omega)
  have fl := freeQ_len cs
  have hQ := hQ (freeQ cs) H3 (freeQ_low hlow) (by omega) (by omega) (freeQ_bar cs) W3
  unfold freeQ at hQ
  cases hb : isBar (S cs) with
  | true =>
    rw [hb, if_pos rfl] at hQ
    refine iteTo rfl ⟨_, rfl, _, _, rfl, rfl, ?_, ?_⟩
    · rw [S_len]
      exact Nat.le_trans (show cs.length + 1 ≤ 101 by omega) (by decide)
    · have e2 : S cs ++ Str.ofString "q" = S (cs ++ [113]) := S_app cs [113]
      rw [e2]
      exact hQ
  | false =>
    rw [hb, if_neg Bool.false_ne_true] at hQ
    exact iteFo rfl ⟨_, rfl, hQ⟩

end
end K05
namespace K05
open PySem PySem.Spec PyProof.Rows L2 C8
theorem bark : ∀ z ∈ barred, z.cps.toList.getLast? ≠ some 107 ∧ z.cps.toList.getLast? ≠ some 106 := by decide +kernel
theorem bar_end {l : List Nat} {c : Nat} (hc : c = 107 ∨ c = 106) : isBar (S (l ++ [c])) = false := by
  rw [Bool.eq_false_iff]
  intro e
  have hm : S (l ++ [c]) ∈ barred := by simpa [isBar] using e
  have := bark _ hm
  rw [S_toList, List.getLast?_concat] at this
  rcases hc with rfl | rfl
  · exact this.1 rfl
  · exact this.2 rfl
theorem cut_any (l : List Nat) (k : Nat) : cutS (S l) none (some (k : Int)) = S (l.take k) := by
  by_cases h : k ≤ l.length
  · exact cut_head l k h
  · have e : HT.sIx (S l).length (S l).length (some (k : Int)) = l.length := by
      simp only [HT.sIx]
      rw [if_neg (by omega), S_len]
      omega
    unfold cutS
    rw [e, S_toList]
    simp [HT.sIx_none, S, List.take_of_length_le (show l.length ≤ k by omega)]
theorem Prs.app {H : Hp} : ∀ {ps qs : List Addr} {ns ms : NS}, Prs H ps ns → Prs H qs ms → Prs H (ps ++ qs) (ns ++ ms)
  | _, _, _, _, .nil, t => t
  | _, _, _, _, .cons h t, u => .cons h (Prs.app t u)
/-- the three words of a stem -/
def wordsN (l : List Nat) : List Str := if isBar (S l) then ["ax", "a", "bya"] else [S (l ++ [107]), S l, S (l ++ [106, 106])]
theorem low_abc : Low ("ax" : Str).cps.toList ∧ Low ("a" : Str).cps.toList ∧ Low ("bya" : Str).cps.toList := by
  have e1 : ("ax" : Str).cps.toList = [97, 120] := by decide +kernel
  have e2 : ("a" : Str).cps.toList = [97] := by decide +kernel
  have e3 : ("bya" : Str).cps.toList = [98, 121, 97] := by decide +kernel
  rw [e1, e2, e3]
  refine ⟨fun c h => ?_, fun c h => ?_, fun c h => ?_⟩ <;> simp at h <;> omega
theorem wordsN_ok {l : List Nat} (hl : Low l) (h1 : 1 ≤ l.length) (h6 : l.length ≤ 6) : (∀ z ∈ wordsN l, WordOk z) ∧ (wordsN l).Nodup ∧ (wordsN l).length = 3 := by
  unfold wordsN
  cases hb : isBar (S l) with
  | true =>
    rw [if_pos rfl]
    refine ⟨fun z hz => ?_, by decide +kernel, rfl⟩
    simp only [List.mem_cons, List.not_mem_nil, or_false] at hz
    rcases hz with rfl | rfl | rfl
    · exact ⟨low_abc.1, by decide +kernel, by decide +kernel, by decide +kernel⟩
    · exact ⟨low_abc.2.1, by decide +kernel, by decide +kernel, by decide +kernel⟩
    · exact ⟨low_abc.2.2, by decide +kernel, by decide +kernel, by decide +kernel⟩
  | false =>
    rw [if_neg Bool.false_ne_true]
    have app : ∀ {a : List Nat}, Low a → Low (l ++ a) := fun ha c hc => by
      rcases List.mem_append.mp hc with hc | hc
      · exact hl c hc
      · exact ha c hc
    refine ⟨fun z hz => ?_, ?_, rfl⟩
    · simp only [List.mem_cons, List.not_mem_nil, or_false] at hz
      rcases hz with rfl | rfl | rfl
      · exact ⟨by rw [S_toList]; exact app (by intro c h; simp at h; omega), by rw [S_len, List.length_append]; simp, by rw [S_len, List.length_append]; simp; omega, bar_end (.inl rfl)⟩
      · exact ⟨by rw [S_toList]; exact hl, by rw [S_len]; omega, by rw [S_len]; omega, hb⟩
      · refine ⟨by rw [S_toList]; exact app (by intro c h; simp at h; omega), by rw [S_len, List.length_append]; simp, by rw [S_len, List.length_append]; simp; omega, ?_⟩
        have e : l ++ [106, 106] = (l ++ [106]) ++ [106] := by simp
        rw [e]
        exact bar_end (.inr rfl)
    · have ne : ∀ {a b : List Nat}, a.length ≠ b.length → S a ≠ S b := fun h z => h (by rw [S_inj z])
      simp only [List.nodup_cons, List.mem_cons, List.not_mem_nil, or_false, not_or, List.nodup_nil, not_false_iff, and_true]
      exact ⟨⟨ne (by simp), ne (by simp)⟩, ne (by simp)⟩
theorem wordsN_0 {l : List Nat} (h1 : 1 ≤ l.length) {sz : List Nat} {n : Str × Nat} (h : ((wordsN l).zip sz)[0]? = some n) : 2 ≤ n.1.length := by
  have h0 : (wordsN l)[0]? = some n.1 := by
    rw [List.getElem?_zip_eq_some] at h
    exact h.1
  unfold wordsN at h0
  split at h0
  · have e : ("ax" : Str) = n.1 := Option.some.inj h0
    rw [← e]
    decide +kernel
  · have e : S (l ++ [107]) = n.1 := Option.some.inj h0
    rw [← e, S_len, List.length_append]
    show 2 ≤ l.length + 1
    omega
section
variable {P : Program} {w : World} {K : PySem.W.Frag} {mg : Str → Option Value} {base : Heap}
abbrev N_l_names : List Str := ["box", "sizes", "stem", "words", "word", "size"]
theorem sc_l_names : FnScope N_l_names ["box"] (defScope (top 38)) := ⟨rfl, rfl, rfl, by decide +kernel, rfl, by decide +kernel, by decide +kernel⟩
abbrev _root_.K05.Wd.hb {Hb H : Hp} {b : Addr} {c : Nat} (_ : Wd Hb H b c) : Hp := Hb
/-- names with sizes, drawn -/
def spNamesL : Sp := fun vs H Q _ => ∃ (Hb : Hp) (b : Addr) (c : Nat), vs = [.ref b] ∧ Wd Hb H b c ∧ c ≤ 700000 ∧
  ∀ Hb' l ns H', Ex Hb Hb' → Wd Hb' H' b (c + 9) → NamesAt Hb' l ns → NsOk ns → Hb l = none → (∀ n, ns[0]? = some n → 2 ≤ n.1.length) → Q (.ref l) H'
theorem ok_l_names (T : Txt K mg) (C_l_take : Cal P w K mg base 1 "_law_take" spTake []) (C_l_barred : Cal P w K mg base 1 "_law_barred" spBarred []) (C_l_word : Cal P w K mg base 2 "_law_word" (spWordL) []) : Cal P w K mg base 3 "_law_names" (spNamesL) [] := by
  obtain ⟨fd, F⟩ := T.d__law_names
  refine ⟨_, fd, ["box"], [], ?_, T.g__law_names, F.kp, F.bindsN fun _ _ _ _ _ _ us hl => match us, hl with | [_], _ => rfl, .nil⟩
  refine F.ok sc_l_names (fun vs H Q E h => by obtain ⟨_, _, _, rfl, _⟩ := h; rfl) (fun cdv A outer s H vs Q E hr h => ?_)
  have hu := hu_of hr
  refine ⟨_, PSs.nox (pss_cons (ps_set (i := 1) sc_l_names.nd rfl (Or.inl rfl) (pe_ix ix_list (pe_lst (pa_cons (pe_lst (pa_cons pe_int pa_nil)) (pa_cons (pe_lst (pa_cons pe_int pa_nil)) (pa_cons (pe_lst (pa_cons pe_int pa_nil)) (pa_cons (pe_lst (pa_cons pe_int pa_nil)) (pa_cons (pe_lst (pa_cons pe_int pa_nil)) (pa_cons (pe_lst (pa_cons pe_int (pa_cons pe_int pa_nil))) (pa_cons (pe_lst (pa_cons pe_int (pa_cons pe_int pa_nil))) (pa_cons (pe_lst (pa_cons pe_int (pa_cons pe_int pa_nil))) (pa_cons (pe_lst (pa_cons pe_int (pa_cons pe_int pa_nil))) (pa_cons (pe_lst (pa_cons pe_int (pa_cons pe_int pa_nil))) (pa_cons (pe_lst (pa_cons pe_int (pa_cons pe_int (pa_cons pe_int pa_nil)))) pa_nil)))))))))))) (pe_c C_l_take hr (by omega) rfl (pa_cons (pv 0) (pa_cons pe_int pa_nil))) (fun _ _ => rfl)))
      (pss_cons (ps_set (i := 2) sc_l_names.nd rfl (Or.inl rfl) (pe_slice sl_str (pe_c C_l_word hr (by omega) rfl (pa_cons (pv 0) pa_nil)) po_none (po_some pe_int)))
      (pss_cut (ps_set (i := 3) sc_l_names.nd rfl (Or.inl rfl) (pe_ifExp (pt_cmpR op_notIn_seq (pv 2) (pe_c0 C_l_barred hr (by omega) rfl) rfl) (pe_lst (pa_cons (pe_op op_add_str (pv 2) pe_str) (pa_cons (pv 2) (pa_cons (pe_op op_add_str (pv 2) pe_str) pa_nil)))) (pe_lst (pa_cons pe_str (pa_cons pe_str (pa_cons (pe_op op_add_str pe_str pe_str) pa_nil))))))
      (pss_one (ps_ret (pe_lc (own := [("word", 4), ("size", 5)]) rfl sc_l_names.nd (pi_zip (by rfl) T.f_zip (pa_cons (pv 3) (pa_cons (pv 1) pa_nil))) (blkOk_by (own := [("word", 4), ("size", 5)]) (N := N_l_names) (sc := defScope (top 38)) (by decide +kernel)) (fun _ _ _ _ _ => (pgT (K := K) (n := 2) rfl (by rfl) (pgs_cons (pg_name (i := 4) sc_l_names.nd rfl (Or.inl rfl)) (pgs_cons (pg_name (i := 5) sc_l_names.nd rfl (Or.inl rfl)) pgs_nil)))) (fun _ _ _ _ _ => pts_nil) (fun _ _ _ _ _ => (pe_tup (pa_cons (pv 4) (pa_cons (pv 5) pa_nil)))))))))), ?_⟩
  obtain ⟨Hb, b, c, rfl, W, hc, hQ⟩ := h
  refine ⟨(by show 1 ≤ sizeLine; decide), fun p0 hp0 => ?_⟩
  have W0 := W.new (o := .lst (rV [2])) hp0
  have f0 := W.free hp0
  refine ⟨(by show 1 ≤ sizeLine; decide), fun p1 hp1 => ?_⟩
  have W1 := W0.new (o := .lst (rV [3])) hp1
  have f1 := W0.free hp1
  refine ⟨(by show 1 ≤ sizeLine; decide), fun p2 hp2 => ?_⟩
  have W2 := W1.new (o := .lst (rV [4])) hp2
  have f2 := W1.free hp2
  refine ⟨(by show 1 ≤ sizeLine; decide), fun p3 hp3 => ?_⟩
  have W3 := W2.new (o := .lst (rV [5])) hp3
  have f3 := W2.free hp3
  refine ⟨(by show 1 ≤ sizeLine; decide), fun p4 hp4 => ?_⟩
  have W4 := W3.new (o := .lst (rV [6])) hp4
  have f4 := W3.free hp4
  refine ⟨(by show 2 ≤ sizeLine; decide), fun p5 hp5 => ?_⟩
  have W5 := W4.new (o := .lst (rV [2, 2])) hp5
  have f5 := W4.free hp5
  refine ⟨(by show 2 ≤ sizeLine; decide), fun p6 hp6 => ?_⟩
  have W6 := W5.new (o := .lst (rV [2, 3])) hp6
  have f6 := W5.free hp6
  refine ⟨(by show 2 ≤ sizeLine; decide), fun p7 hp7 => ?_⟩
  have W7 := W6.new (o := .lst (rV [2, 4])) hp7
  have f7 := W6.free hp7
  refine ⟨(by show 2 ≤ sizeLine; decide), fun p8 hp8 => ?_⟩
  have W8 := W7.new (o := .lst (rV [3, 2])) hp8
  have f8 := W7.free hp8
  refine ⟨(by show 2 ≤ sizeLine; decide), fun p9 hp9 => ?_⟩
  have W9 := W8.new (o := .lst (rV [4, 2])) hp9
  have f9 := W8.free hp9
  refine ⟨(by show 3 ≤ sizeLine; decide), fun p10 hp10 => ?_⟩
  have W10 := W9.new (o := .lst (rV [2, 2, 2])) hp10
  have f10 := W9.free hp10
  refine ⟨(by show 11 ≤ sizeLine; decide), fun m hm => ?_⟩
  have Wm := W10.new (o := .lst [.ref p0, .ref p1, .ref p2, .ref p3, .ref p4, .ref p5, .ref p6, .ref p7, .ref p8, .ref p9, .ref p10]) hm
  have fm := W10.free hm
  refine ⟨_, rfl, _, b, c, 11, rfl, Wm, by omega, by decide, by decide, fun r H1 r0 r1 W1 => ?_⟩
  obtain ⟨k, rfl⟩ : ∃ k : Nat, r = (k : Int) := ⟨r.toNat, by omega⟩
  have hk : k < 11 := by omega
  have gr : Ex Hb Wm.hb := Evl.Ex.trans (Evl.Ex.new (o := .lst (rV [2])) f0) (Evl.Ex.trans (Evl.Ex.new (o := .lst (rV [3])) f1) (Evl.Ex.trans (Evl.Ex.new (o := .lst (rV [4])) f2) (Evl.Ex.trans (Evl.Ex.new (o := .lst (rV [5])) f3) (Evl.Ex.trans (Evl.Ex.new (o := .lst (rV [6])) f4) (Evl.Ex.trans (Evl.Ex.new (o := .lst (rV [2, 2])) f5) (Evl.Ex.trans (Evl.Ex.new (o := .lst (rV [2, 3])) f6) (Evl.Ex.trans (Evl.Ex.new (o := .lst (rV [2, 4])) f7) (Evl.Ex.trans (Evl.Ex.new (o := .lst (rV [3, 2])) f8) (Evl.Ex.trans (Evl.Ex.new (o := .lst (rV [4, 2])) f9) (Evl.Ex.trans (Evl.Ex.new (o := .lst (rV [2, 2, 2])) f10) (Evl.Ex.new (o := .lst [.ref p0, .ref p1, .ref p2, .ref p3, .ref p4, .ref p5, .ref p6, .ref p7, .ref p8, .ref p9, .ref p10]) fm)))))))))))
  have key : ∃ y sz, ([.ref p0, .ref p1, .ref p2, .ref p3, .ref p4, .ref p5, .ref p6, .ref p7, .ref p8, .ref p9, .ref p10] : List V)[k]? = some (.ref y) ∧ Wm.hb y = some (.lst (rV sz)) ∧ sz ∈ menus := by
    match k, hk with
    | 0, _ => exact ⟨p0, [2], rfl, (Evl.Ex.trans (Evl.Ex.new (o := .lst (rV [3])) f1) (Evl.Ex.trans (Evl.Ex.new (o := .lst (rV [4])) f2) (Evl.Ex.trans (Evl.Ex.new (o := .lst (rV [5])) f3) (Evl.Ex.trans (Evl.Ex.new (o := .lst (rV [6])) f4) (Evl.Ex.trans (Evl.Ex.new (o := .lst (rV [2, 2])) f5) (Evl.Ex.trans (Evl.Ex.new (o := .lst (rV [2, 3])) f6) (Evl.Ex.trans (Evl.Ex.new (o := .lst (rV [2, 4])) f7) (Evl.Ex.trans (Evl.Ex.new (o := .lst (rV [3, 2])) f8) (Evl.Ex.trans (Evl.Ex.new (o := .lst (rV [4, 2])) f9) (Evl.Ex.trans (Evl.Ex.new (o := .lst (rV [2, 2, 2])) f10) (Evl.Ex.new (o := .lst [.ref p0, .ref p1, .ref p2, .ref p3, .ref p4, .ref p5, .ref p6, .ref p7, .ref p8, .ref p9, .ref p10]) fm))))))))))) _ _ upd_same, by decide⟩
    | 1, _ => exact ⟨p1, [3], rfl, (Evl.Ex.trans (Evl.Ex.new (o := .lst (rV [4])) f2) (Evl.Ex.trans (Evl.Ex.new (o := .lst (rV [5])) f3) (Evl.Ex.trans (Evl.Ex.new (o := .lst (rV [6])) f4) (Evl.Ex.trans (Evl.Ex.new (o := .lst (rV [2, 2])) f5) (Evl.Ex.trans (Evl.Ex.new (o := .lst (rV [2, 3])) f6) (Evl.Ex.trans (Evl.Ex.new (o := .lst (rV [2, 4])) f7) (Evl.Ex.trans (Evl.Ex.new (o := .lst (rV [3, 2])) f8) (Evl.Ex.trans (Evl.Ex.new (o := .lst (rV [4, 2])) f9) (Evl.Ex.trans (Evl.Ex.new (o := .lst (rV [2, 2, 2])) f10) (Evl.Ex.new (o := .lst [.ref p0, .ref p1, .ref p2, .ref p3, .ref p4, .ref p5, .ref p6, .ref p7, .ref p8, .ref p9, .ref p10]) fm)))))))))) _ _ upd_same, by decide⟩
    | 2, _ => exact ⟨p2, [4], rfl, (Evl.Ex.trans (Evl.Ex.new (o := .lst (rV [5])) f3) (Evl.Ex.trans (Evl.Ex.new (o := .lst (rV [6])) f4) (Evl.Ex.trans (Evl.Ex.new (o := .lst (rV [2, 2])) f5) (Evl.Ex.trans (Evl.Ex.new (o := .lst (rV [2, 3])) f6) (Evl.Ex.trans (Evl.Ex.new (o := .lst (rV [2, 4])) f7) (Evl.Ex.trans (Evl.Ex.new (o := .lst (rV [3, 2])) f8) (Evl.Ex.trans (Evl.Ex.new (o := .lst (rV [4, 2])) f9) (Evl.Ex.trans (Evl.Ex.new (o := .lst (rV [2, 2, 2])) f10) (Evl.Ex.new (o := .lst [.ref p0, .ref p1, .ref p2, .ref p3, .ref p4, .ref p5, .ref p6, .ref p7, .ref p8, .ref p9, .ref p10]) fm))))))))) _ _ upd_same, by decide⟩
    | 3, _ => exact ⟨p3, [5], rfl, (Evl.Ex.trans (Evl.Ex.new (o := .lst (rV [6])) f4) (Evl.Ex.trans (Evl.Ex.new (o := .lst (rV [2, 2])) f5) (Evl.Ex.trans (Evl.Ex.new (o := .lst (rV [2, 3])) f6) (Evl.Ex.trans (Evl.Ex.new (o := .lst (rV [2, 4])) f7) (Evl.Ex.trans (Evl.Ex.new (o := .lst (rV [3, 2])) f8) (Evl.Ex.trans (Evl.Ex.new (o := .lst (rV [4, 2])) f9) (Evl.Ex.trans (Evl.Ex.new (o := .lst (rV [2, 2, 2])) f10) (Evl.Ex.new (o := .lst [.ref p0, .ref p1, .ref p2, .ref p3, .ref p4, .ref p5, .ref p6, .ref p7, .ref p8, .ref p9, .ref p10]) fm)))))))) _ _ upd_same, by decide⟩
    | 4, _ => exact ⟨p4, [6], rfl, (Evl.Ex.trans (Evl.Ex.new (o := .lst (rV [2, 2])) f5) (Evl.Ex.trans (Evl.Ex.new (o := .lst (rV [2, 3])) f6) (Evl.Ex.trans (Evl.Ex.new (o := .lst (rV [2, 4])) f7) (Evl.Ex.trans (Evl.Ex.new (o := .lst (rV [3, 2])) f8) (Evl.Ex.trans (Evl.Ex.new (o := .lst (rV [4, 2])) f9) (Evl.Ex.trans (Evl.Ex.new (o := .lst (rV [2, 2, 2])) f10) (Evl.Ex.new (o := .lst [.ref p0, .ref p1, .ref p2, .ref p3, .ref p4, .ref p5, .ref p6, .ref p7, .ref p8, .ref p9, .ref p10]) fm))))))) _ _ upd_same, by decide⟩
    | 5, _ => exact ⟨p5, [2, 2], rfl, (Evl.Ex.trans (Evl.Ex.new (o := .lst (rV [2, 3])) f6) (Evl.Ex.trans (Evl.Ex.new (o := .lst (rV [2, 4])) f7) (Evl.Ex.trans (Evl.Ex.new (o := .lst (rV [3, 2])) f8) (Evl.Ex.trans (Evl.Ex.new (o := .lst (rV [4, 2])) f9) (Evl.Ex.trans (Evl.Ex.new (o := .lst (rV [2, 2, 2])) f10) (Evl.Ex.new (o := .lst [.ref p0, .ref p1, .ref p2, .ref p3, .ref p4, .ref p5, .ref p6, .ref p7, .ref p8, .ref p9, .ref p10]) fm)))))) _ _ upd_same, by decide⟩
    | 6, _ => exact ⟨p6, [2, 3], rfl, (Evl.Ex.trans (Evl.Ex.new (o := .lst (rV [2, 4])) f7) (Evl.Ex.trans (Evl.Ex.new (o := .lst (rV [3, 2])) f8) (Evl.Ex.trans (Evl.Ex.new (o := .lst (rV [4, 2])) f9) (Evl.Ex.trans (Evl.Ex.new (o := .lst (rV [2, 2, 2])) f10) (Evl.Ex.new (o := .lst [.ref p0, .ref p1, .ref p2, .ref p3, .ref p4, .ref p5, .ref p6, .ref p7, .ref p8, .ref p9, .ref p10]) fm))))) _ _ upd_same, by decide⟩
    | 7, _ => exact ⟨p7, [2, 4], rfl, (Evl.Ex.trans (Evl.Ex.new (o := .lst (rV [3, 2])) f8) (Evl.Ex.trans (Evl.Ex.new (o := .lst (rV [4, 2])) f9) (Evl.Ex.trans (Evl.Ex.new (o := .lst (rV [2, 2, 2])) f10) (Evl.Ex.new (o := .lst [.ref p0, .ref p1, .ref p2, .ref p3, .ref p4, .ref p5, .ref p6, .ref p7, .ref p8, .ref p9, .ref p10]) fm)))) _ _ upd_same, by decide⟩
    | 8, _ => exact ⟨p8, [3, 2], rfl, (Evl.Ex.trans (Evl.Ex.new (o := .lst (rV [4, 2])) f9) (Evl.Ex.trans (Evl.Ex.new (o := .lst (rV [2, 2, 2])) f10) (Evl.Ex.new (o := .lst [.ref p0, .ref p1, .ref p2, .ref p3, .ref p4, .ref p5, .ref p6, .ref p7, .ref p8, .ref p9, .ref p10]) fm))) _ _ upd_same, by decide⟩
    | 9, _ => exact ⟨p9, [4, 2], rfl, (Evl.Ex.trans (Evl.Ex.new (o := .lst (rV [2, 2, 2])) f10) (Evl.Ex.new (o := .lst [.ref p0, .ref p1, .ref p2, .ref p3, .ref p4, .ref p5, .ref p6, .ref p7, .ref p8, .ref p9, .ref p10]) fm)) _ _ upd_same, by decide⟩
    | 10, _ => exact ⟨p10, [2, 2, 2], rfl, (Evl.Ex.new (o := .lst [.ref p0, .ref p1, .ref p2, .ref p3, .ref p4, .ref p5, .ref p6, .ref p7, .ref p8, .ref p9, .ref p10]) fm) _ _ upd_same, by decide⟩
    | n + 11, h => exact absurd h (by omega)
  obtain ⟨y, sz, hy, hysz, hmenu⟩ := key
  have m1 : Wm.hb m = some (.lst [.ref p0, .ref p1, .ref p2, .ref p3, .ref p4, .ref p5, .ref p6, .ref p7, .ref p8, .ref p9, .ref p10]) := upd_same
  have W1 : Wd Wm.hb H1 b (c + 1) := W1
  generalize hB : Wm.hb = B at W1 gr hysz m1
  refine ⟨m, _, _, .ref y, rfl, rfl, SqL.of (W1.ex _ _ m1), atI_nat hy, ?_⟩
  refine ⟨_, rfl, B, b, c + 1, rfl, W1, by omega, fun l H2 hlow l1 l7 hbar W2 => ?_⟩
  refine ⟨(6 : Int), rfl, S l, rfl, Nat.le_trans (show (S l).length ≤ 100 by rw [S_len]; omega) (by decide), ?_⟩
  rw [show (6 : Int) = ((6 : Nat) : Int) from rfl, cut_any l 6]
  have hl6 : Low (l.take 6) := fun c hc => hlow c (List.mem_of_mem_take hc)
  have s1 : 1 ≤ (l.take 6).length := by rw [List.length_take]; omega
  have s6 : (l.take 6).length ≤ 6 := by rw [List.length_take]; omega
  generalize l.take 6 = st at hl6 s1 s6
  obtain ⟨wok, wnd, wl⟩ := wordsN_ok hl6 s1 s6
  refine ⟨fun σ H' => ∃ q, σ = [some (.ref b), some (.ref y), some (.str (S st)), some (.ref q), none, none] ∧ (∃ B', Ex B B' ∧ Wd B' H' b (c + 9) ∧ B' q = some (.lst ((wordsN st).map V.str))), ?_, ?_⟩
  · refine ⟨_, rfl, rfl, fun lb H3 nb g3 h3 => ⟨lb, _, rfl, .inl (SqL.of h3), rfl, by decide +kernel, _, rfl, ?_⟩⟩
    rw [if_pos rfl, inV_bar]
    have W3 := (W2.grow g3).mono (show c + 1 + 8 ≤ c + 9 by omega)
    cases hb : isBar (S st) with
    | false =>
      refine iteTo rfl ?_
      have ew : wordsN st = [S st ++ ("k" : Str), S st, S st ++ ("jj" : Str)] := by
        unfold wordsN
        rw [hb, if_neg Bool.false_ne_true]
        have e1 : S st ++ ("k" : Str) = S (st ++ [107]) := S_app st [107]
        have e2 : S st ++ ("jj" : Str) = S (st ++ [106, 106]) := S_app st [106, 106]
        rw [e1, e2]
      refine ⟨_, rfl, _, _, rfl, rfl, Nat.le_trans (show (S st).length + 1 ≤ 100 by rw [S_len]; omega) (by decide), _, rfl, _, rfl, _, _, rfl, rfl, Nat.le_trans (show (S st).length + 2 ≤ 100 by rw [S_len]; omega) (by decide), (by show 3 ≤ sizeLine; decide), fun q hq => ?_⟩
      refine ⟨q, rfl, _, Evl.Ex.new (W3.free hq), W3.new hq, ?_⟩
      rw [upd_same, ew]
      rfl
    | true =>
      refine iteFo rfl ?_
      have ew : wordsN st = [Str.ofString "ax", Str.ofString "a", Str.ofString "by" ++ Str.ofString "a"] := by
        unfold wordsN
        rw [hb, if_pos rfl]
        have e1 : Str.ofString "by" ++ Str.ofString "a" = Str.ofString "bya" := by decide +kernel
        rw [e1]
      refine ⟨_, _, rfl, rfl, (by show 3 ≤ sizeLine; decide), (by show 3 ≤ sizeLine; decide), fun q hq => ?_⟩
      refine ⟨q, rfl, _, Evl.Ex.new (W3.free hq), W3.new hq, ?_⟩
      rw [upd_same, ew]
      rfl
  rintro σ H3 ⟨q, rfl, B', eB, W3, hq⟩
  have hy3 : B' y = some (.lst (rV sz)) := eB _ _ hysz
  have fl := (menu_facts _ hmenu).2.2.2.1
  have hn : sz.length = min ((wordsN st).map V.str).length (rV sz).length := by
    rw [List.length_map, List.length_map, wl]
    omega
  refine ⟨_, rfl, _, rfl, q, y, _, _, rfl, SqL.of (W3.ex _ _ hq), SqL.of (W3.ex _ _ hy3), fun D hD => ?_⟩
  have nD := W3.ne hD
  have bD := W3.free hD
  refine lc_it (walk_zip (n := sz.length) hn) (fun i H' => ∃ B2 ts, Ex B' B2 ∧ Wd B2 H' b (c + 9) ∧ B2 D = none ∧ H' D = some (.lst (ts.map V.ref)) ∧ Prs B2 ts (((wordsN st).zip sz).take i) ∧ ts.length = i)
    ⟨B', [], Evl.Ex.refl _, W3.skip hD, bD, upd_same, .nil, rfl⟩ (fun i H' _ ⟨B2, _, k1, k2, _⟩ => ⟨SqL.of (k2.ex _ _ (k1 _ _ hq)), SqL.of (k2.ex _ _ (k1 _ _ hy3))⟩) ?_ ?_
  · rintro i x H4 H4' hi ⟨B2, ts, k1, k2, k3, k4, k5, rfl⟩ ⟨T1, x0, y0, rfl, nT, rfl, hx0, hy0⟩
    have hx0 : ((wordsN st).map V.str)[ts.length]? = some x0 := hx0
    have hy0 : (sz.map fun v : Nat => V.int (v : Int))[ts.length]? = some y0 := hy0
    rw [List.getElem?_map] at hx0 hy0
    obtain ⟨z, hz, rfl⟩ := Option.map_eq_some_iff.mp hx0
    obtain ⟨s0, hs0, rfl⟩ := Option.map_eq_some_iff.mp hy0
    refine ⟨T1, [.str z, .int (s0 : Int)], rfl, SqT.of upd_same, rfl, _, _, rfl, _, _, rfl, rfl, ?_⟩
    refine ⟨rfl, ?_⟩
    refine ⟨_, rfl, _, rfl, (by show 2 ≤ sizeLine; decide), fun p hp => ?_⟩
    have W4 := k2.skip (o := .tup [.str z, .int (s0 : Int)]) nT
    have W5 := W4.new (o := .tup [.str z, .int (s0 : Int)]) hp
    have DT : D ≠ T1 := fun z => by rw [z, nT] at k4; cases k4
    have h4 : (upd H4 T1 (.tup [.str z, .int (s0 : Int)])) D = some (.lst (ts.map V.ref)) := by rw [upd_ne DT]; exact k4
    have Dp' : D ≠ p := fun z => by rw [z, hp] at h4; cases h4
    refine ⟨_, by rw [upd_ne Dp']; exact h4, ?_, upd B2 p (.tup [.str z, .int (s0 : Int)]), ts ++ [p], k1.trans (Evl.Ex.new (W4.free hp)), W5.chg (by rw [upd_ne Dp']; exact k3) nD, by rw [upd_ne Dp']; exact k3, by rw [upd_same, List.map_append]; rfl, ?_, by simp⟩
    · rw [List.length_map]
      exact Nat.lt_of_lt_of_le (show ts.length < 4 by omega) (by decide)
    · have hzs : ((wordsN st).zip sz)[ts.length]? = some (z, s0) := by rw [List.getElem?_zip_eq_some]; exact ⟨hz, hs0⟩
      rw [take_snoc hzs]
      exact Prs.app (k5.up (Evl.Ex.new (W4.free hp))) (.cons (.inl upd_same) .nil)
  · rintro H4 ⟨B2, ts, k1, k2, k3, k4, k5, hl⟩
    rw [List.take_of_length_le (by rw [List.length_zip]; omega)] at k5
    refine hQ (upd B2 D (.lst (ts.map V.ref))) D ((wordsN st).zip sz) H4 (gr.trans (eB.trans (k1.trans (Evl.Ex.new k3)))) (k2.know k4 nD) ⟨ts, upd_same, k5.up (Evl.Ex.new k3)⟩ (zip_ns wok wnd hmenu (by rw [wl]; exact fl)) ?_ ?_
    · cases q2 : Hb D with
      | none => rfl
      | some u => rw [eB _ _ (gr _ _ q2)] at bD; cases bD
    · exact fun n hn => wordsN_0 s1 hn

end
end K05
namespace K05
open PySem PySem.Spec PyProof.Rows L2 C8
theorem upd_twice {H : Hp} {p : Addr} {o1 o2 : HO} : upd (upd H p o1) p o2 = upd H p o2 := by
  funext a
  by_cases c : a = p
  · subst c; rw [upd_same, upd_same]
  · rw [upd_ne c, upd_ne c, upd_ne c]
/-- an instance that was made is known -/
theorem Wd.made {Hb H H' : Hp} {b x dx : Addr} {c : Nat} {o : HO} (W : Wd Hb H b c) (nx : H x = none) (ndx : H dx = none) {o1 o2 : HO} (keep : ∀ q u, q ≠ x → (upd (upd H dx o1) x o2) q = some u → H' q = some u) (hx : H' x = some o) : Wd (upd Hb x o) H' b c := by
  have up : ∀ q u, H q = some u → H' q = some u := fun q u h => by
    have n1 := ne_of_none h nx
    have n2 := ne_of_none h ndx
    exact keep q u n1 (by rw [upd_ne n1, upd_ne n2]; exact h)
  have nb := W.ne nx
  obtain ⟨e, n, g, f, s, k, h1, h2, h3, h4, h5, h6⟩ := id W
  refine ⟨fun q u h => ?_, by rw [upd_ne nb.symm]; exact n, g, f, s, k, up _ _ h1, h2, h3, h4, h5, h6⟩
  by_cases c : q = x
  · subst c
    rw [upd_same] at h
    rw [hx]
    exact h
  · rw [upd_ne c] at h
    exact up _ _ (e _ _ h)
/-- a dict of one name, a, with the value 0 -/
def aZero : List (Str × Th) := [(("a" : Str), Th.int 0)]
section
variable {P : Program} {w : World} {K : PySem.W.Frag} {mg : Str → Option Value} {base : Heap}
abbrev N_l_odd : List Str := ["box", "menu"]
theorem sc_l_odd : FnScope N_l_odd ["box"] (defScope (top 39)) := ⟨rfl, rfl, rfl, by decide +kernel, rfl, by decide +kernel, by decide +kernel⟩
/-- an odd thing, drawn -/
def spOddT (K : PySem.W.Frag) : Sp := fun vs H Q _ => ∃ (Hb : Hp) (b : Addr) (c : Nat), vs = [.ref b] ∧ Wd Hb H b c ∧ c ≤ 700000 ∧ ∀ Hb' v d H', Ex Hb Hb' → Wd Hb' H' b (c + 1) → AtK5 K Hb' v d → dep d ≤ 10 → namesB d = false → (∀ l, d = .dic l → l = [] ∨ l = aZero) → Q v H'
theorem ok_l_odd (T : Txt K mg) (C_l_take : Cal P w K mg base 1 "_law_take" spTake []) (M_Ratio : Mak P w K mg base 2 "Ratio" (He.ga K "Ratio") (spRat K) [.int 1]) : Cal P w K mg base 4 "_law_odd" (spOddT K) [] := by
  obtain ⟨fd, F⟩ := T.d__law_odd
  refine ⟨_, fd, ["box"], [], ?_, T.g__law_odd, F.kp, F.bindsN fun _ _ _ _ _ _ us hl => match us, hl with | [_], _ => rfl, .nil⟩
  refine F.ok sc_l_odd (fun vs H Q E h => by obtain ⟨_, _, _, rfl, _⟩ := h; rfl) (fun cdv A outer s H vs Q E hr h => ?_)
  have hu := hu_of hr
  refine ⟨_, PSs.nox (pss_cons (ps_set (i := 1) sc_l_odd.nd rfl (Or.inl rfl) (pe_lst (pa_cons pe_non (pa_cons pe_bl (pa_cons pe_bl (pa_cons pe_str (pa_cons pe_str (pa_cons pe_dnewK (pa_cons (pe_lst pa_nil) (pa_cons (pe_tup pa_nil) (pa_cons (pe_lst (pa_cons (pe_lst (pa_cons pe_int pa_nil)) pa_nil)) (pa_cons (pe_tup (pa_cons pe_str (pa_cons pe_int pa_nil))) (pa_cons (pe_lst (pa_cons pe_non pa_nil)) (pa_cons (pe_un un_neg (pe_op op_pow pe_int pe_int)) (pa_cons (pe_mk M_Ratio hr (by omega) rfl (pa_cons pe_int pa_nil)) (pa_cons pe_str (pa_cons (pe_lst (pa_cons pe_int pa_nil)) (pa_cons (pe_disp (pps_cons pe_str pe_int pps_nil) rfl rfl (by simp) (by decide)) pa_nil))))))))))))))))))
      (pss_one (ps_ret (pe_ix ix_list (pv 1) (pe_c C_l_take hr (by omega) rfl (pa_cons (pv 0) (pa_cons pe_int pa_nil))) (fun _ _ => rfl))))), ?_⟩
  obtain ⟨Hb, b, c, rfl, W, hc, hQ⟩ := h
  refine fun d1 n_d1 => ?_
  have W_d1 := W.new (o := .dK []) n_d1
  have f_d1 := W.free n_d1
  refine ⟨(by show 0 ≤ sizeLine; decide), fun l1 n_l1 => ?_⟩
  have W_l1 := W_d1.new (o := .lst []) n_l1
  have f_l1 := W_d1.free n_l1
  refine ⟨(by show 0 ≤ sizeLine; decide), fun t1 n_t1 => ?_⟩
  have W_t1 := W_l1.new (o := .tup []) n_t1
  have f_t1 := W_l1.free n_t1
  refine ⟨(by show 1 ≤ sizeLine; decide), fun l2 n_l2 => ?_⟩
  have W_l2 := W_t1.new (o := .lst [.int 2]) n_l2
  have f_l2 := W_t1.free n_l2
  refine ⟨(by show 1 ≤ sizeLine; decide), fun l3 n_l3 => ?_⟩
  have W_l3 := W_l2.new (o := .lst [.ref l2]) n_l3
  have f_l3 := W_l2.free n_l3
  refine ⟨(by show 2 ≤ sizeLine; decide), fun t2 n_t2 => ?_⟩
  have W_t2 := W_l3.new (o := .tup [.str "hp", .int 2]) n_t2
  have f_t2 := W_l3.free n_t2
  refine ⟨(by show 1 ≤ sizeLine; decide), fun l4 n_l4 => ?_⟩
  have W_l4 := W_t2.new (o := .lst [.non]) n_l4
  have f_l4 := W_t2.free n_l4
  refine ⟨_, _, rfl, rfl, ⟨by decide, by decide, by decide⟩, _, rfl, ?_⟩
  refine fun x dx n_x ndx dne => ⟨x, dx, 1, rfl, upd_same, ⟨by decide, by decide⟩, fun Hx keep hx => ⟨rfl, ?_⟩⟩
  have W_x := Wd.made W_l4 n_x ndx keep hx
  have f_x := W_l4.free n_x
  refine ⟨(by show 1 ≤ sizeLine; decide), fun l5 n_l5 => ?_⟩
  have W_l5 := W_x.new (o := .lst [.int 0]) n_l5
  have f_l5 := W_x.free n_l5
  refine fun d2 n_d2 => ?_
  refine ⟨upd_same, [(.inr "a", .int 0)], rfl, by decide, ?_⟩
  rw [upd_twice]
  have W_d2 := W_l5.new (o := .dK (mergeK [] [(.inr "a", .int 0)])) n_d2
  have f_d2 := W_l5.free n_d2
  refine ⟨(by show 16 ≤ sizeLine; decide), fun m n_m => ?_⟩
  have W_m := W_d2.new (o := .lst [.non, .bl true, .bl false, .str "", .str "2", .ref d1, .ref l1, .ref t1, .ref l3, .ref t2, .ref l4, .int (-(10 ^ 40)), .ref x, .str "hp 2", .ref l5, .ref d2]) n_m
  have f_m := W_d2.free n_m
  refine ⟨_, rfl, _, rfl, _, b, c, 16, rfl, W_m, by omega, by decide, by decide, fun r H' r0 r1 W' => ?_⟩
  obtain ⟨k, rfl⟩ : ∃ k : Nat, r = (k : Int) := ⟨r.toNat, by omega⟩
  have hk : k < 16 := by omega
  have gr : Ex Hb W_m.hb := Evl.Ex.trans (Evl.Ex.new (o := .dK []) f_d1) (Evl.Ex.trans (Evl.Ex.new (o := .lst []) f_l1) (Evl.Ex.trans (Evl.Ex.new (o := .tup []) f_t1) (Evl.Ex.trans (Evl.Ex.new (o := .lst [.int 2]) f_l2) (Evl.Ex.trans (Evl.Ex.new (o := .lst [.ref l2]) f_l3) (Evl.Ex.trans (Evl.Ex.new (o := .tup [.str "hp", .int 2]) f_t2) (Evl.Ex.trans (Evl.Ex.new (o := .lst [.non]) f_l4) (Evl.Ex.trans (Evl.Ex.new (o := .ins (He.ga K "Ratio") dx (wholeF 1)) f_x) (Evl.Ex.trans (Evl.Ex.new (o := .lst [.int 0]) f_l5) (Evl.Ex.trans (Evl.Ex.new (o := .dK (mergeK [] [(.inr "a", .int 0)])) f_d2) (Evl.Ex.new (o := .lst [.non, .bl true, .bl false, .str "", .str "2", .ref d1, .ref l1, .ref t1, .ref l3, .ref t2, .ref l4, .int (-(10 ^ 40)), .ref x, .str "hp 2", .ref l5, .ref d2]) f_m))))))))))
  have key : ∃ v d, ([.non, .bl true, .bl false, .str "", .str "2", .ref d1, .ref l1, .ref t1, .ref l3, .ref t2, .ref l4, .int (-(10 ^ 40)), .ref x, .str "hp 2", .ref l5, .ref d2] : List V)[k]? = some v ∧ AtK5 K W_m.hb v d ∧ dep d ≤ 10 ∧ namesB d = false ∧ (∀ l, d = .dic l → l = [] ∨ l = aZero) := by
    match k, hk with
    | 0, _ => exact ⟨_, .non, rfl, .non, by decide, by decide +kernel, fun l e => by first | (cases e; exact .inl rfl) | (cases e; exact .inr rfl) | cases e⟩
    | 1, _ => exact ⟨_, .bl true, rfl, .bl _, by decide, by decide +kernel, fun l e => by first | (cases e; exact .inl rfl) | (cases e; exact .inr rfl) | cases e⟩
    | 2, _ => exact ⟨_, .bl false, rfl, .bl _, by decide, by decide +kernel, fun l e => by first | (cases e; exact .inl rfl) | (cases e; exact .inr rfl) | cases e⟩
    | 3, _ => exact ⟨_, .str "", rfl, .str _ (by decide), by decide, by decide +kernel, fun l e => by first | (cases e; exact .inl rfl) | (cases e; exact .inr rfl) | cases e⟩
    | 4, _ => exact ⟨_, .str "2", rfl, .str _ (by decide), by decide, by decide +kernel, fun l e => by first | (cases e; exact .inl rfl) | (cases e; exact .inr rfl) | cases e⟩
    | 5, _ => exact ⟨_, .dic [], rfl, .dic ((Evl.Ex.trans (Evl.Ex.new (o := .lst []) f_l1) (Evl.Ex.trans (Evl.Ex.new (o := .tup []) f_t1) (Evl.Ex.trans (Evl.Ex.new (o := .lst [.int 2]) f_l2) (Evl.Ex.trans (Evl.Ex.new (o := .lst [.ref l2]) f_l3) (Evl.Ex.trans (Evl.Ex.new (o := .tup [.str "hp", .int 2]) f_t2) (Evl.Ex.trans (Evl.Ex.new (o := .lst [.non]) f_l4) (Evl.Ex.trans (Evl.Ex.new (o := .ins (He.ga K "Ratio") dx (wholeF 1)) f_x) (Evl.Ex.trans (Evl.Ex.new (o := .lst [.int 0]) f_l5) (Evl.Ex.trans (Evl.Ex.new (o := .dK (mergeK [] [(.inr "a", .int 0)])) f_d2) (Evl.Ex.new (o := .lst [.non, .bl true, .bl false, .str "", .str "2", .ref d1, .ref l1, .ref t1, .ref l3, .ref t2, .ref l4, .int (-(10 ^ 40)), .ref x, .str "hp 2", .ref l5, .ref d2]) f_m)))))))))) _ _ upd_same) .nil, by decide, by decide +kernel, fun l e => by first | (cases e; exact .inl rfl) | (cases e; exact .inr rfl) | cases e⟩
    | 6, _ => exact ⟨_, .lst [], rfl, .lst ((Evl.Ex.trans (Evl.Ex.new (o := .tup []) f_t1) (Evl.Ex.trans (Evl.Ex.new (o := .lst [.int 2]) f_l2) (Evl.Ex.trans (Evl.Ex.new (o := .lst [.ref l2]) f_l3) (Evl.Ex.trans (Evl.Ex.new (o := .tup [.str "hp", .int 2]) f_t2) (Evl.Ex.trans (Evl.Ex.new (o := .lst [.non]) f_l4) (Evl.Ex.trans (Evl.Ex.new (o := .ins (He.ga K "Ratio") dx (wholeF 1)) f_x) (Evl.Ex.trans (Evl.Ex.new (o := .lst [.int 0]) f_l5) (Evl.Ex.trans (Evl.Ex.new (o := .dK (mergeK [] [(.inr "a", .int 0)])) f_d2) (Evl.Ex.new (o := .lst [.non, .bl true, .bl false, .str "", .str "2", .ref d1, .ref l1, .ref t1, .ref l3, .ref t2, .ref l4, .int (-(10 ^ 40)), .ref x, .str "hp 2", .ref l5, .ref d2]) f_m))))))))) _ _ upd_same) .nil, by decide, by decide +kernel, fun l e => by first | (cases e; exact .inl rfl) | (cases e; exact .inr rfl) | cases e⟩
    | 7, _ => exact ⟨_, .tup [], rfl, .tup (.inl ((Evl.Ex.trans (Evl.Ex.new (o := .lst [.int 2]) f_l2) (Evl.Ex.trans (Evl.Ex.new (o := .lst [.ref l2]) f_l3) (Evl.Ex.trans (Evl.Ex.new (o := .tup [.str "hp", .int 2]) f_t2) (Evl.Ex.trans (Evl.Ex.new (o := .lst [.non]) f_l4) (Evl.Ex.trans (Evl.Ex.new (o := .ins (He.ga K "Ratio") dx (wholeF 1)) f_x) (Evl.Ex.trans (Evl.Ex.new (o := .lst [.int 0]) f_l5) (Evl.Ex.trans (Evl.Ex.new (o := .dK (mergeK [] [(.inr "a", .int 0)])) f_d2) (Evl.Ex.new (o := .lst [.non, .bl true, .bl false, .str "", .str "2", .ref d1, .ref l1, .ref t1, .ref l3, .ref t2, .ref l4, .int (-(10 ^ 40)), .ref x, .str "hp 2", .ref l5, .ref d2]) f_m)))))))) _ _ upd_same)) .nil, by decide, by decide +kernel, fun l e => by first | (cases e; exact .inl rfl) | (cases e; exact .inr rfl) | cases e⟩
    | 8, _ => exact ⟨_, .lst [.lst [.int 2]], rfl, .lst ((Evl.Ex.trans (Evl.Ex.new (o := .tup [.str "hp", .int 2]) f_t2) (Evl.Ex.trans (Evl.Ex.new (o := .lst [.non]) f_l4) (Evl.Ex.trans (Evl.Ex.new (o := .ins (He.ga K "Ratio") dx (wholeF 1)) f_x) (Evl.Ex.trans (Evl.Ex.new (o := .lst [.int 0]) f_l5) (Evl.Ex.trans (Evl.Ex.new (o := .dK (mergeK [] [(.inr "a", .int 0)])) f_d2) (Evl.Ex.new (o := .lst [.non, .bl true, .bl false, .str "", .str "2", .ref d1, .ref l1, .ref t1, .ref l3, .ref t2, .ref l4, .int (-(10 ^ 40)), .ref x, .str "hp 2", .ref l5, .ref d2]) f_m)))))) _ _ upd_same) (.cons (.lst ((Evl.Ex.trans (Evl.Ex.new (o := .lst [.ref l2]) f_l3) (Evl.Ex.trans (Evl.Ex.new (o := .tup [.str "hp", .int 2]) f_t2) (Evl.Ex.trans (Evl.Ex.new (o := .lst [.non]) f_l4) (Evl.Ex.trans (Evl.Ex.new (o := .ins (He.ga K "Ratio") dx (wholeF 1)) f_x) (Evl.Ex.trans (Evl.Ex.new (o := .lst [.int 0]) f_l5) (Evl.Ex.trans (Evl.Ex.new (o := .dK (mergeK [] [(.inr "a", .int 0)])) f_d2) (Evl.Ex.new (o := .lst [.non, .bl true, .bl false, .str "", .str "2", .ref d1, .ref l1, .ref t1, .ref l3, .ref t2, .ref l4, .int (-(10 ^ 40)), .ref x, .str "hp 2", .ref l5, .ref d2]) f_m))))))) _ _ upd_same) (.cons (.int 2) .nil)) .nil), by decide, by decide +kernel, fun l e => by first | (cases e; exact .inl rfl) | (cases e; exact .inr rfl) | cases e⟩
    | 9, _ => exact ⟨_, .tup [.str "hp", .int 2], rfl, .tup (.inl ((Evl.Ex.trans (Evl.Ex.new (o := .lst [.non]) f_l4) (Evl.Ex.trans (Evl.Ex.new (o := .ins (He.ga K "Ratio") dx (wholeF 1)) f_x) (Evl.Ex.trans (Evl.Ex.new (o := .lst [.int 0]) f_l5) (Evl.Ex.trans (Evl.Ex.new (o := .dK (mergeK [] [(.inr "a", .int 0)])) f_d2) (Evl.Ex.new (o := .lst [.non, .bl true, .bl false, .str "", .str "2", .ref d1, .ref l1, .ref t1, .ref l3, .ref t2, .ref l4, .int (-(10 ^ 40)), .ref x, .str "hp 2", .ref l5, .ref d2]) f_m))))) _ _ upd_same)) (.cons (.str _ (by decide)) (.cons (.int 2) .nil)), by decide, by decide +kernel, fun l e => by first | (cases e; exact .inl rfl) | (cases e; exact .inr rfl) | cases e⟩
    | 10, _ => exact ⟨_, .lst [.non], rfl, .lst ((Evl.Ex.trans (Evl.Ex.new (o := .ins (He.ga K "Ratio") dx (wholeF 1)) f_x) (Evl.Ex.trans (Evl.Ex.new (o := .lst [.int 0]) f_l5) (Evl.Ex.trans (Evl.Ex.new (o := .dK (mergeK [] [(.inr "a", .int 0)])) f_d2) (Evl.Ex.new (o := .lst [.non, .bl true, .bl false, .str "", .str "2", .ref d1, .ref l1, .ref t1, .ref l3, .ref t2, .ref l4, .int (-(10 ^ 40)), .ref x, .str "hp 2", .ref l5, .ref d2]) f_m)))) _ _ upd_same) (.cons .non .nil), by decide, by decide +kernel, fun l e => by first | (cases e; exact .inl rfl) | (cases e; exact .inr rfl) | cases e⟩
    | 11, _ => exact ⟨_, .int (-(10 ^ 40)), rfl, .int _, by decide, by decide +kernel, fun l e => by first | (cases e; exact .inl rfl) | (cases e; exact .inr rfl) | cases e⟩
    | 12, _ => exact ⟨_, .rat 1, rfl, .rat ((Evl.Ex.trans (Evl.Ex.new (o := .lst [.int 0]) f_l5) (Evl.Ex.trans (Evl.Ex.new (o := .dK (mergeK [] [(.inr "a", .int 0)])) f_d2) (Evl.Ex.new (o := .lst [.non, .bl true, .bl false, .str "", .str "2", .ref d1, .ref l1, .ref t1, .ref l3, .ref t2, .ref l4, .int (-(10 ^ 40)), .ref x, .str "hp 2", .ref l5, .ref d2]) f_m))) _ _ upd_same), by decide, by decide +kernel, fun l e => by first | (cases e; exact .inl rfl) | (cases e; exact .inr rfl) | cases e⟩
    | 13, _ => exact ⟨_, .str "hp 2", rfl, .str _ (by decide), by decide, by decide +kernel, fun l e => by first | (cases e; exact .inl rfl) | (cases e; exact .inr rfl) | cases e⟩
    | 14, _ => exact ⟨_, .lst [.int 0], rfl, .lst ((Evl.Ex.trans (Evl.Ex.new (o := .dK (mergeK [] [(.inr "a", .int 0)])) f_d2) (Evl.Ex.new (o := .lst [.non, .bl true, .bl false, .str "", .str "2", .ref d1, .ref l1, .ref t1, .ref l3, .ref t2, .ref l4, .int (-(10 ^ 40)), .ref x, .str "hp 2", .ref l5, .ref d2]) f_m)) _ _ upd_same) (.cons (.int 0) .nil), by decide, by decide +kernel, fun l e => by first | (cases e; exact .inl rfl) | (cases e; exact .inr rfl) | cases e⟩
    | 15, _ => exact ⟨_, .dic [("a", .int 0)], rfl, .dic ((Evl.Ex.new (o := .lst [.non, .bl true, .bl false, .str "", .str "2", .ref d1, .ref l1, .ref t1, .ref l3, .ref t2, .ref l4, .int (-(10 ^ 40)), .ref x, .str "hp 2", .ref l5, .ref d2]) f_m) _ _ upd_same) (.cons (by decide) (.int 0) .nil), by decide, by decide +kernel, fun l e => by first | (cases e; exact .inl rfl) | (cases e; exact .inr rfl) | cases e⟩
    | n + 16, h => exact absurd h (by omega)
  obtain ⟨v, d, hv, hd, ht, hnb, hdc⟩ := key
  refine ⟨m, _, _, v, rfl, rfl, SqL.of (W'.ex _ _ upd_same), atI_nat hv, ?_⟩
  exact hQ _ v d H' gr W' hd ht hnb hdc

end
end K05
namespace K05
open PySem PySem.Spec PyProof.Rows L2 C8
theorem bar_long : ∀ z ∈ barred, 2 ≤ z.length := by decide +kernel
theorem str_at {z : Str} {k : Nat} (h : k < z.length) : ∃ c, z.cps.toList[k]? = some c := ⟨_, List.getElem?_eq_getElem (by simpa [Str.length] using h)⟩
section
variable {P : Program} {w : World} {K : PySem.W.Frag} {mg : Str → Option Value} {base : Heap}
abbrev N_l_string : List Str := ["box", "way", "word", "at", "great", "many", "signs", "turn"]
theorem sc_l_string : FnScope N_l_string ["box"] (defScope (top 36)) := ⟨rfl, rfl, rfl, by decide +kernel, rfl, by decide +kernel, by decide +kernel⟩
/-- a text, drawn -/
def spStringL : Sp := fun vs H Q _ => ∃ (Hb : Hp) (b : Addr) (c : Nat), vs = [.ref b] ∧ Wd Hb H b c ∧ c ≤ 800000 ∧ ∀ z H', z.length ≤ 40 → Wd Hb H' b (c + 12) → Q (.str z) H'
theorem ok_l_string (T : Txt K mg) (C_l_take : Cal P w K mg base 1 "_law_take" spTake []) (C_l_barred : Cal P w K mg base 1 "_law_barred" spBarred []) : Cal P w K mg base 2 "_law_string" (spStringL) [] := by
  obtain ⟨fd, F⟩ := T.d__law_string
  refine ⟨_, fd, ["box"], [], ?_, T.g__law_string, F.kp, F.bindsN fun _ _ _ _ _ _ us hl => match us, hl with | [_], _ => rfl, .nil⟩
  refine F.ok sc_l_string (fun vs H Q E h => by obtain ⟨_, _, _, rfl, _⟩ := h; rfl) (fun cdv A outer s H vs Q E hr h => ?_)
  have hu := hu_of hr
  refine ⟨_, PSs.nox (pss_cons (ps_set (i := 1) sc_l_string.nd rfl (Or.inl rfl) (pe_c C_l_take hr (by omega) rfl (pa_cons (pv 0) (pa_cons pe_int pa_nil))))
      (pss_cons (ps_if (pt_cmpR op_lt (pv 1) pe_int (nomark _)) (pss_cons (ps_set (i := 2) sc_l_string.nd rfl (Or.inl rfl) (pe_ix ix_list (pe_c0 C_l_barred hr (by omega) rfl) (pe_c C_l_take hr (by omega) rfl (pa_cons (pv 0) (pa_cons pe_int pa_nil))) (fun _ _ => rfl)))
      (pss_cons (ps_set (i := 3) sc_l_string.nd rfl (Or.inl rfl) (pe_c C_l_take hr (by omega) rfl (pa_cons (pv 0) (pa_cons (pe_callB call_len_str (by rfl) T.f_len (by decide +kernel) (pa_cons (pv 2) pa_nil)) pa_nil))))
      (pss_cons (ps_set (i := 4) sc_l_string.nd rfl (Or.inl rfl) (pe_op op_add_str (pe_op op_add_str (pe_slice sl_str (pv 2) po_none (po_some (pv 3))) (pe_upper (pe_ix ix_str (pv 2) (pv 3) (fun _ _ => rfl)))) (pe_slice sl_str (pv 2) (po_some (pe_op op_add (pv 3) pe_int)) po_none)))
      (pss_one (ps_ret (pe_ix ix_list (pe_lst (pa_cons (pv 2) (pa_cons (pe_op op_add_str (pe_slice sl_str (pv 2) po_none (po_some (pv 3))) (pe_slice sl_str (pv 2) (po_some (pe_op op_add (pv 3) pe_int)) po_none)) (pa_cons (pe_op op_add_str (pv 2) (pe_ix ix_str (pv 2) (pv 3) (fun _ _ => rfl))) (pa_cons (pv 4) pa_nil))))) (pe_c C_l_take hr (by omega) rfl (pa_cons (pv 0) (pa_cons pe_int pa_nil))) (fun _ _ => rfl))))))) pss_nil)
      (pss_cons (ps_set (i := 5) sc_l_string.nd rfl (Or.inl rfl) (pe_ix ix_list (pe_lst (pa_cons pe_int (pa_cons pe_int (pa_cons pe_int (pa_cons pe_int (pa_cons pe_int (pa_cons pe_int (pa_cons pe_int (pa_cons pe_int pa_nil))))))))) (pe_c C_l_take hr (by omega) rfl (pa_cons (pv 0) (pa_cons pe_int pa_nil))) (fun _ _ => rfl)))
      (pss_cut (ps_set (i := 6) sc_l_string.nd rfl (Or.inr rfl) (pe_op op_add_str pe_str (pe_ifExp (pt_cmpR op_lt (pv 1) pe_int (nomark _)) pe_str pe_str)))
      (pss_one (ps_ret (pe_join pe_str (pe_lc (own := [("turn", 7)]) rfl sc_l_string.nd (pi_range1 (by rfl) T.f_range (pa_cons (pv 5) pa_nil)) (blkOk_by (own := [("turn", 7)]) (N := N_l_string) (sc := defScope (top 36)) (by decide +kernel)) (fun _ _ _ _ _ => (pg_name (i := 7) sc_l_string.nd rfl (Or.inl rfl))) (fun _ _ _ _ _ => pts_nil) (fun _ _ _ _ _ => (pe_ix ix_str (pv 6) (pe_c C_l_take hr (by omega) rfl (pa_cons (pv 0) (pa_cons (pe_callB call_len_str (by rfl) T.f_len (by decide +kernel) (pa_cons (pv 6) pa_nil)) pa_nil))) (fun _ _ => rfl))))))))))), ?_⟩
  obtain ⟨Hb, b, c, rfl, W, hc, hQ⟩ := h
  have lim : 1000 < sizeLine := by decide
  refine ⟨_, rfl, Hb, b, c, 5, rfl, W, by omega, by decide, by decide, fun way H1 w0 w1 W1 => ?_⟩
  refine ⟨_, rfl, _, _, rfl, rfl, _, rfl, ?_⟩
  by_cases c2 : way < 2
  · refine iteTo (decide_eq_true c2) ?_
    refine ⟨rfl, fun lb H2 nb g2 h2 => ?_⟩
    have W2 := (W1.grow g2).know h2 (W1.ne nb)
    have bl := W1.free nb
    refine ⟨_, rfl, _, b, _, 14, rfl, W2, by omega, by decide, by decide, fun r H3 r0 r1 W3 => ?_⟩
    obtain ⟨k, rfl⟩ : ∃ k : Nat, r = (k : Int) := ⟨r.toNat, by omega⟩
    obtain ⟨z, hz⟩ : ∃ z, barred[k]? = some z := ⟨_, List.getElem?_eq_getElem (show k < barred.length by show k < 14; omega)⟩
    have hzm := List.mem_of_getElem? hz
    have zl := bar_long z hzm
    have zs := bar_short z hzm
    refine ⟨lb, _, _, .str z, rfl, rfl, SqL.of (W3.ex _ _ upd_same), atI_nat (by rw [List.getElem?_map, hz]; rfl), ?_⟩
    have W3 : Wd Hb H3 b (c + 1 + 1) := W3.less (Evl.Ex.new bl)
    refine ⟨_, rfl, _, rfl, z, rfl, by omega, _, b, _, _, rfl, W3, by omega, by omega, by omega, fun at1 H4 a0 a1 W4 => ?_⟩
    obtain ⟨a, rfl⟩ : ∃ a : Nat, at1 = (a : Int) := ⟨at1.toNat, by omega⟩
    obtain ⟨s, hs⟩ := str_at (z := z) (k := a) (by omega)
    have l1 := cutS_length z none (some (a : Int))
    have l2 := cutS_length z (some ((a : Int) + 1)) none
    have l3 : (Txt.upper ⟨#[s]⟩).length ≤ 3 := Nat.le_trans (PyProof.Rows.len_upper (⟨#[s]⟩ : Str)) (show 3 * 1 ≤ 3 by decide)
    have l4 : (⟨#[s]⟩ : Str).length = 1 := rfl
    have zi := atI_nat hs
    have la : ∀ x y : Str, (x ++ y).length = x.length + y.length := fun x y => by simp [Str.length_append]
    refine ⟨_, rfl, _, rfl, _, rfl, z, rfl, by omega, ?_⟩
    refine ⟨_, rfl, _, rfl, z, _, s, rfl, rfl, by omega, zi, ⟨_, rfl⟩, _, rfl, rfl, Nat.le_trans (show (⟨#[s]⟩ : Str).length ≤ 1 from Nat.le_refl _) (by decide), _, _, rfl, rfl, by omega, ?_⟩
    refine ⟨_, rfl, _, rfl, _, _, rfl, rfl, _, rfl, z, rfl, by omega, _, _, rfl, rfl, by rw [la]; omega, ?_⟩
    generalize Txt.upper ⟨#[s]⟩ = u2 at l3
    refine ⟨_, rfl, _, rfl, _, rfl, _, rfl, z, rfl, by omega, ?_⟩
    refine ⟨_, rfl, _, rfl, _, _, rfl, rfl, _, rfl, z, rfl, by omega, _, _, rfl, rfl, by omega, ?_⟩
    refine ⟨_, rfl, _, rfl, _, rfl, z, _, s, rfl, rfl, by omega, zi, _, _, rfl, rfl, Nat.le_trans (show z.length + 1 ≤ 7 by omega) (by decide), _, rfl, (by show 4 ≤ sizeLine; decide), fun m hm => ?_⟩
    have W5 := W4.new (o := .lst [.str z, .str (cutS z none (some (a : Int)) ++ cutS z (some ((a : Int) + 1)) none), .str (z ++ ⟨#[s]⟩), .str (cutS z none (some (a : Int)) ++ u2 ++ cutS z (some ((a : Int) + 1)) none)]) hm
    have bm := W4.free hm
    refine ⟨_, rfl, _, b, _, 4, rfl, W5, by omega, by decide, by decide, fun r H6 r0 r1 W6 => ?_⟩
    obtain ⟨j, rfl⟩ : ∃ j : Nat, r = (j : Int) := ⟨r.toNat, by omega⟩
    have hj : j < 4 := by omega
    have W7 : Wd Hb H6 b (c + 12) := (W6.less (Evl.Ex.new bm)).mono (by omega)
    have key : ∀ x, ([.str z, .str (cutS z none (some (a : Int)) ++ cutS z (some ((a : Int) + 1)) none), .str (z ++ ⟨#[s]⟩), .str (cutS z none (some (a : Int)) ++ u2 ++ cutS z (some ((a : Int) + 1)) none)] : List V)[j]? = some x → ∃ y : Str, x = .str y ∧ y.length ≤ 40 := by
      intro x hx
      match j, hj with
      | 0, _ => cases hx; exact ⟨_, rfl, by omega⟩
      | 1, _ => cases hx; exact ⟨_, rfl, by rw [la]; omega⟩
      | 2, _ => cases hx; exact ⟨_, rfl, by rw [la]; show z.length + 1 ≤ 40; omega⟩
      | 3, _ => cases hx; exact ⟨_, rfl, by rw [la, la]; omega⟩
    obtain ⟨x, hx⟩ : ∃ x, ([.str z, .str (cutS z none (some (a : Int)) ++ cutS z (some ((a : Int) + 1)) none), .str (z ++ ⟨#[s]⟩), .str (cutS z none (some (a : Int)) ++ u2 ++ cutS z (some ((a : Int) + 1)) none)] : List V)[j]? = some x := ⟨_, List.getElem?_eq_getElem (show j < 4 from hj)⟩
    obtain ⟨y, rfl, hy⟩ := key x hx
    exact ⟨m, _, _, .str y, rfl, rfl, SqL.of (W6.ex _ _ upd_same), atI_nat hx, hQ y H6 hy W7⟩
  · refine iteFo (decide_eq_false c2) ?_
    refine ⟨(by show 8 ≤ sizeLine; decide), fun lm hlm => ?_⟩
    have W2 := W1.new (o := .lst [.int 1, .int 2, .int 5, .int 7, .int 8, .int 9, .int 10, .int 0]) hlm
    have bl := W1.free hlm
    refine ⟨_, rfl, _, b, _, 8, rfl, W2, by omega, by decide, by decide, fun r H3 r0 r1 W3 => ?_⟩
    obtain ⟨k, rfl⟩ : ∃ k : Nat, r = (k : Int) := ⟨r.toNat, by omega⟩
    have hk : k < 8 := by omega
    have key : ∃ n : Nat, ([.int 1, .int 2, .int 5, .int 7, .int 8, .int 9, .int 10, .int 0] : List V)[k]? = some (.int (n : Int)) ∧ n ≤ 10 := by
      match k, hk with
      | 0, _ => exact ⟨1, rfl, by decide⟩
      | 1, _ => exact ⟨2, rfl, by decide⟩
      | 2, _ => exact ⟨5, rfl, by decide⟩
      | 3, _ => exact ⟨7, rfl, by decide⟩
      | 4, _ => exact ⟨8, rfl, by decide⟩
      | 5, _ => exact ⟨9, rfl, by decide⟩
      | 6, _ => exact ⟨10, rfl, by decide⟩
      | 7, _ => exact ⟨0, rfl, by decide⟩
    obtain ⟨n, hn, n10⟩ := key
    refine ⟨lm, _, _, _, rfl, rfl, SqL.of (W3.ex _ _ upd_same), atI_nat hn, ?_⟩
    have W3 : Wd Hb H3 b (c + 1 + 1) := W3.less (Evl.Ex.new bl)
    refine ⟨fun σ H' => H' = H3 ∧ ∃ sg : Str, 1 ≤ sg.length ∧ sg.length ≤ 50 ∧ σ = [some (.ref b), some (.int way), none, none, none, some (.int (n : Int)), some (.str sg), none], ?_, ?_⟩
    · refine ⟨_, rfl, _, _, rfl, rfl, _, rfl, ?_⟩
      by_cases c4 : way < 4
      · refine iteTo (decide_eq_true c4) ?_
        refine ⟨_, _, rfl, rfl, by decide +kernel, rfl, _, ?_, ?_, rfl⟩ <;> decide +kernel
      · refine iteFo (decide_eq_false c4) ?_
        refine ⟨_, _, rfl, rfl, by decide +kernel, rfl, _, ?_, ?_, rfl⟩ <;> decide +kernel
    rintro σ H4 ⟨rfl, sg, s1, s50, rfl⟩
    refine ⟨⟨_, rfl⟩, _, rfl, _, rfl, by omega, by omega, fun D hD => ?_⟩
    have nD := W3.ne hD
    have bD := W3.free hD
    rw [Int.toNat_natCast]
    refine lc_range (lo := 0) (n := n) (fun i H' => ∃ cs : List Nat, cs.length = i ∧ Wd Hb H' b (c + 2 + i) ∧ H' D = some (.lst ((cs.map fun c => (⟨#[c]⟩ : Str)).map V.str))) ⟨[], rfl, W3.skip hD, upd_same⟩ ?_ ?_
    · rintro i H' hi ⟨cs, hcl, W5, hD2⟩
      refine ⟨rfl, ?_⟩
      refine ⟨_, rfl, _, rfl, _, rfl, sg, rfl, by omega, _, b, _, _, rfl, W5.know hD2 nD, by omega, by omega, by omega, fun r H5 r0 r1 W6 => ?_⟩
      have hD3 : H5 D = some (.lst ((cs.map fun c => (⟨#[c]⟩ : Str)).map V.str)) := W6.ex D _ upd_same
      obtain ⟨q, rfl⟩ : ∃ q : Nat, r = (q : Int) := ⟨r.toNat, by omega⟩
      obtain ⟨s, hs⟩ := str_at (z := sg) (k := q) (by omega)
      refine ⟨_, _, s, rfl, rfl, by omega, atI_nat hs, ?_⟩
      refine ⟨_, hD3, ?_, cs ++ [s], by rw [List.length_append, hcl]; rfl, (W6.less (Evl.Ex.new bD)).chg bD nD, ?_⟩
      · rw [List.length_map, List.length_map, hcl]
        exact Nat.lt_of_lt_of_le (show i < 11 by omega) (by decide)
      · rw [List.map_append, List.map_append]
        exact upd_same
    rintro H2 ⟨cs, hcl, W5, hD2⟩
    refine ⟨_, D, cs.map fun c => (⟨#[c]⟩ : Str), rfl, rfl, .inl (SqL.of hD2), ?_, ?_⟩
    · have e : ((cs.map fun c => (⟨#[c]⟩ : Str)).map (·.length)).sum = cs.length := by
        rw [List.map_map]
        clear hcl hD2 hQ
        induction cs with
        | nil => rfl
        | cons a r ih =>
          rw [List.map_cons, List.sum_cons, ih, List.length_cons]
          show 1 + r.length = r.length + 1
          omega
      rw [e, List.length_map, hcl]
      show n + n * 0 ≤ _
      omega
    rw [join_S]
    exact hQ _ _ (by rw [S_len]; omega) (W5.mono (by omega))

end
end K05
set_option Elab.async false
set_option linter.all false
set_option maxRecDepth 100000
set_option maxHeartbeats 1000000
/-! HxS: repr of a bool; things amid which one list changes -/
namespace L2
open PySem PySem.Spec PyProof.Rows
section
variable {X : Cx}
def boolS (b : Bool) : Str := if b then "True" else "False"
theorem call_reprB : CallR X (.builtin "repr") (fun xs H Q => ∃ b : Bool, xs = [.bl b] ∧ Q (.str (boolS b)) H) := by
  intro pins s σ H xs us Q I r h
  obtain ⟨b, rfl, q⟩ := h
  obtain ⟨u, rfl, ru⟩ := vals1 r
  cases (show u = Value.bool b from ru)
  exact PySem.P.repr_of_bool ⟨.str _, H, I.tok _, ⟨_, rfl⟩, q⟩
end
/-! a thing is told by where it stands -/
mutual
theorem At.det {R : Addr} {H : Hp} : ∀ (d e : Th) (v : V), At R H v d → At R H v e → d = e
  | .non, _, _, h, g => by cases h; cases g; rfl
  | .bl b, _, _, h, g => by cases h; cases g; rfl
  | .int i, _, _, h, g => by cases h; cases g; rfl
  | .str x, _, _, h, g => by cases h; cases g; rfl
  | .rat i, e, _, h, g => by
    cases h with
    | rat h =>
      cases g with
      | rat g => rw [h] at g; cases g; rfl
      | lst g _ => rw [h] at g; cases g
      | tup g _ => rcases g with g | ⟨u, g⟩ <;> (rw [h] at g; cases g)
      | dic g _ => rw [h] at g; cases g
  | .lst ds, e, _, h, g => by
    cases h with
    | lst h h2 =>
      cases g with
      | rat g => rw [h] at g; cases g
      | lst g g2 =>
        rw [h] at g
        cases g
        rw [AtA.det ds _ _ h2 g2]
      | tup g _ => rcases g with g | ⟨u, g⟩ <;> (rw [h] at g; cases g)
      | dic g _ => rw [h] at g; cases g
  | .tup ds, e, _, h, g => by
    cases h with
    | tup h h2 =>
      rcases h with h | ⟨u, h⟩
      · cases g with
        | rat g => rw [h] at g; cases g
        | lst g g2 => rw [h] at g; cases g
        | tup g g2 =>
          rcases g with g | ⟨u, g⟩
          · rw [h] at g
            cases g
            rw [AtA.det ds _ _ h2 g2]
          · rw [h] at g; cases g
        | dic g _ => rw [h] at g; cases g
      · cases g with
        | rat g => rw [h] at g; cases g
        | lst g g2 => rw [h] at g; cases g
        | tup g g2 =>
          rcases g with g | ⟨u, g⟩
          · rw [h] at g; cases g
          · rw [h] at g
            cases g
            rw [AtA.det ds _ _ h2 g2]
        | dic g _ => rw [h] at g; cases g
  | .dic ds, e, _, h, g => by
    cases h with
    | dic h h2 =>
      cases g with
      | rat g => rw [h] at g; cases g
      | lst g g2 => rw [h] at g; cases g
      | tup g _ => rcases g with g | ⟨u, g⟩ <;> (rw [h] at g; cases g)
      | dic g g2 =>
        rw [h] at g
        cases g
        rw [AtK.det ds _ _ h2 g2]
theorem AtA.det {R : Addr} {H : Hp} : ∀ (ds es : List Th) (vs : List V), AtA R H vs ds → AtA R H vs es → ds = es
  | [], _, _, h, g => by cases h; cases g; rfl
  | d :: ds, _, _, h, g => by
    cases h with
    | cons h1 h2 =>
      cases g with
      | cons g1 g2 => rw [At.det d _ _ h1 g1, AtA.det ds _ _ h2 g2]
theorem AtK.det {R : Addr} {H : Hp} : ∀ (ds es : List (Str × Th)) (vs : List (Key × V)), AtK R H vs ds → AtK R H vs es → ds = es
  | [], _, _, h, g => by cases h; cases g; rfl
  | (k, d) :: ds, _, _, h, g => by
    cases h with
    | cons h0 h1 h2 =>
      cases g with
      | cons g0 g1 g2 => rw [At.det d _ _ h1 g1, AtK.det ds _ _ h2 g2]
end
mutual
def szT : Th → Nat
  | .lst l => szA l + 1
  | .tup l => szA l + 1
  | .dic l => szK l + 1
  | _ => 1
def szA : List Th → Nat
  | [] => 0
  | d :: l => szT d + szA l
def szK : List (Str × Th) → Nat
  | [] => 0
  | (_, d) :: l => szT d + szK l
end
mutual
/-- what is smaller than a list's items stays when the list changes -/
theorem At.off {R : Addr} {H : Hp} {a : Addr} {o : HO} {xs : List V} {es : List Th} (ha : H a = some (.lst xs)) (hx : AtA R H xs es) : ∀ (d : Th) (v : V), szT d ≤ szA es → At R H v d → At R (upd H a o) v d
  | .non, _, _, h => by cases h; exact .non
  | .bl b, _, _, h => by cases h; exact .bl b
  | .int i, _, _, h => by cases h; exact .int i
  | .str x, _, _, h => by
    cases h with
    | str _ h => exact .str x h
  | .rat i, _, _, h => by
    cases h with
    | rat h => exact .rat (by rw [upd_ne (fun z => by rw [z, ha] at h; cases h)]; exact h)
  | .lst ds, _, hs, h => by
    cases h with
    | @lst b ys _ h h2 =>
      have hs : szA ds + 1 ≤ szA es := hs
      refine .lst (xs := ys) ?_ (AtA.off ha hx ds _ (by omega) h2)
      rw [upd_ne (fun z => ?_)]
      · exact h
      · rw [z, ha] at h
        cases h
        have := AtA.det _ _ _ h2 hx
        rw [this] at hs
        omega
  | .tup ds, _, hs, h => by
    cases h with
    | tup h h2 =>
      have hs : szA ds + 1 ≤ szA es := hs
      refine .tup ?_ (AtA.off ha hx ds _ (by omega) h2)
      rcases h with h | ⟨u, h⟩
      · exact .inl (by rw [upd_ne (fun z => by rw [z, ha] at h; cases h)]; exact h)
      · exact .inr ⟨u, by rw [upd_ne (fun z => by rw [z, ha] at h; cases h)]; exact h⟩
  | .dic ds, _, hs, h => by
    cases h with
    | dic h h2 =>
      have hs : szK ds + 1 ≤ szA es := hs
      exact .dic (by rw [upd_ne (fun z => by rw [z, ha] at h; cases h)]; exact h) (AtK.off ha hx ds _ (by omega) h2)
theorem AtA.off {R : Addr} {H : Hp} {a : Addr} {o : HO} {xs : List V} {es : List Th} (ha : H a = some (.lst xs)) (hx : AtA R H xs es) : ∀ (ds : List Th) (vs : List V), szA ds ≤ szA es → AtA R H vs ds → AtA R (upd H a o) vs ds
  | [], _, _, h => by cases h; exact .nil
  | d :: ds, _, hs, h => by
    cases h with
    | cons h1 h2 =>
      have hs : szT d + szA ds ≤ szA es := hs
      exact .cons (At.off ha hx d _ (by omega) h1) (AtA.off ha hx ds _ (by omega) h2)
theorem AtK.off {R : Addr} {H : Hp} {a : Addr} {o : HO} {xs : List V} {es : List Th} (ha : H a = some (.lst xs)) (hx : AtA R H xs es) : ∀ (ds : List (Str × Th)) (vs : List (Key × V)), szK ds ≤ szA es → AtK R H vs ds → AtK R (upd H a o) vs ds
  | [], _, _, h => by cases h; exact .nil
  | (k, d) :: ds, _, hs, h => by
    cases h with
    | cons h0 h1 h2 =>
      have hs : szT d + szK ds ≤ szA es := hs
      exact .cons h0 (At.off ha hx d _ (by omega) h1) (AtK.off ha hx ds _ (by omega) h2)
end
end L2
set_option Elab.async false
set_option linter.all false
set_option maxRecDepth 100000
set_option maxHeartbeats 400000
namespace K05
open PySem PySem.Spec PyProof.Rows L2 C8
/-- .. and the object f stands, o, that Hb does not know -/
structure Wf (Hb H : Hp) (b : Addr) (c : Nat) (f : Addr) (o : HO) : Prop where
  w : Wd Hb H b c
  hf : H f = some o
  bf : Hb f = none
  nf : f ≠ b
theorem Wf.start {Hb H : Hp} {b f : Addr} {c : Nat} {o : HO} (W : Wd Hb H b c) (h : H f = none) : Wf Hb (upd H f o) b c f o := ⟨W.skip h, upd_same, W.free h, W.ne h⟩
theorem Wf.up {Hb H : Hp} {b f : Addr} {c : Nat} {o : HO} (W : Wf Hb H b c f o) : Wd (upd Hb f o) H b c := W.w.know W.hf W.nf
theorem Wf.of {Hb H H' : Hp} {b f : Addr} {c c' : Nat} {o : HO} (W : Wf Hb H b c f o) (W' : Wd (upd Hb f o) H' b c') : Wf Hb H' b c' f o := ⟨W'.less (Evl.Ex.new W.bf), W'.ex _ _ upd_same, W.bf, W.nf⟩
/-- .. where more was made known -/
theorem Wf.by {Hb Hc H H' : Hp} {b f : Addr} {c c' : Nat} {o : HO} (W : Wf Hb H b c f o) (W' : Wd Hc H' b c') (e : Ex (upd Hb f o) Hc) : Wf Hb H' b c' f o := ⟨W'.less ((Evl.Ex.new W.bf).trans e), W'.ex _ _ (e _ _ upd_same), W.bf, W.nf⟩
theorem Wf.new {Hb H : Hp} {b f p : Addr} {c : Nat} {o o2 : HO} (W : Wf Hb H b c f o) (h : H p = none) : Wf (upd Hb p o2) (upd H p o2) b c f o := by
  have fp : f ≠ p := fun z => by rw [← z, W.hf] at h; cases h
  exact ⟨W.w.new h, by rw [upd_ne fp]; exact W.hf, by rw [upd_ne fp]; exact W.bf, W.nf⟩
theorem Wf.made {Hb H H' : Hp} {b f x dx : Addr} {c : Nat} {o o2 : HO} (W : Wf Hb H b c f o2) (nx : H x = none) (ndx : H dx = none) {o1 o2' : HO} (keep : ∀ q u, q ≠ x → (upd (upd H dx o1) x o2') q = some u → H' q = some u) (hx : H' x = some o) : Wf (upd Hb x o) H' b c f o2 := by
  have fx : f ≠ x := fun z => by rw [← z, W.hf] at nx; cases nx
  have fd : f ≠ dx := fun z => by rw [← z, W.hf] at ndx; cases ndx
  exact ⟨W.w.made nx ndx keep hx, keep _ _ fx (by rw [upd_ne fx, upd_ne fd]; exact W.hf), by rw [upd_ne fx]; exact W.bf, W.nf⟩
theorem Wf.free {Hb H : Hp} {b f p : Addr} {c : Nat} {o : HO} (W : Wf Hb H b c f o) (h : H p = none) : Hb p = none := W.w.free h
/-- the object changes, and is known from now on -/
theorem Wf.set {Hb H : Hp} {b f : Addr} {c : Nat} {o o2 : HO} (W : Wf Hb H b c f o) : Wd (upd Hb f o2) (upd H f o2) b c := (W.w.chg W.bf W.nf).know upd_same W.nf
theorem AtA.put {R : Addr} {H : Hp} {v : V} {d : Th} (h : At R H v d) : ∀ {vs : List V} {ds : List Th} (i : Nat), AtA R H vs ds → AtA R H (vs.set i v) (ds.set i d)
  | _, _, _, .nil => .nil
  | _, _, 0, .cons _ t => .cons h t
  | _, _, i + 1, .cons a t => .cons a (AtA.put h i t)
theorem depA_put {d : Th} {n : Nat} (hd : dep d ≤ n) : ∀ {l : List Th} (i : Nat), depA l ≤ n → depA (l.set i d) ≤ n
  | [], _, _ => by simp [depA]
  | e :: l, 0, h => by
    simp only [List.set, depA] at h ⊢
    omega
  | e :: l, i + 1, h => by
    simp only [List.set, depA] at h ⊢
    have := depA_put hd (l := l) i (by omega)
    omega
theorem depA_app {n : Nat} : ∀ {l m : List Th}, depA l ≤ n → depA m ≤ n → depA (l ++ m) ≤ n
  | [], _, _, h => h
  | e :: l, m, h, g => by
    simp only [List.cons_append, depA] at h ⊢
    have := depA_app (l := l) (m := m) (n := n) (by omega) g
    omega
theorem dep_ns : ∀ ns : NS, depA (ns.map nsTh) ≤ 3
  | [] => by simp [depA]
  | n :: l => by
    have := dep_ns l
    have e : depA ((n :: l).map nsTh) = max (dep (nsTh n)) (depA (l.map nsTh)) := rfl
    have e2 : dep (nsTh n) = 3 := rfl
    omega
theorem Wf.new' {Hb H : Hp} {b f p : Addr} {c : Nat} {o o2 : HO} (W : Wf Hb H b c f o) (h : H p = none) : ∃ B, Ex Hb B ∧ Wf B (upd H p o2) b c f o ∧ B p = some o2 := ⟨_, Evl.Ex.new (W.free h), W.new h, upd_same⟩
theorem Wd.new' {Hb H : Hp} {b p : Addr} {c : Nat} {o2 : HO} (W : Wd Hb H b c) (h : H p = none) : ∃ B, Ex Hb B ∧ Wd B (upd H p o2) b c ∧ B p = some o2 := ⟨_, Evl.Ex.new (W.free h), W.new h, upd_same⟩
theorem ixN_nat9 {n i : Nat} (h : i < n) : ixN n (i : Int) = some i := by
  unfold ixN
  rw [if_pos (by omega), if_pos (by omega), Int.toNat_natCast]
section
variable {P : Program} {w : World} {K : PySem.W.Frag} {mg : Str → Option Value} {base : Heap}
abbrev N_l_spoiled : List Str := ["box", "names", "found", "at", "way", "word", "size", "pairs"]
theorem sc_l_spoiled : FnScope N_l_spoiled ["box", "names"] (defScope (top 40)) := ⟨rfl, rfl, rfl, by decide +kernel, rfl, by decide +kernel, by decide +kernel⟩
/-- names of which one is spoilt, or too many -/
def spSpoiled (K : PySem.W.Frag) : Sp := fun vs H Q _ => ∃ (Hb : Hp) (b : Addr) (c : Nat) (l : Addr) (ns : NS), vs = [.ref b, .ref l] ∧ Wd Hb H b c ∧ c ≤ 700000 ∧ NamesAt Hb l ns ∧ NsOk ns ∧
  ∀ Hb' p xs ds H', Ex Hb Hb' → Wd Hb' H' b (c + 40) → Hb' p = some (.lst xs) → AtA (He.ga K "Ratio") Hb' xs ds → ds.length ≤ 5 → depA ds ≤ 10 → Q (.ref p) H'
theorem ok_l_spoiled (T : Txt K mg) (C_l_take : Cal P w K mg base 1 "_law_take" spTake []) (C_l_string : Cal P w K mg base 2 "_law_string" (spStringL) []) (C_l_word : Cal P w K mg base 2 "_law_word" (spWordL) []) (M_Ratio : Mak P w K mg base 2 "Ratio" (He.ga K "Ratio") (spRat K) [.int 1]) : Cal P w K mg base 5 "_law_spoiled" (spSpoiled K) [] := by
  obtain ⟨fd, F⟩ := T.d__law_spoiled
  refine ⟨_, fd, ["box", "names"], [], ?_, T.g__law_spoiled, F.kp, F.bindsN fun _ _ _ _ _ _ us hl => match us, hl with | [_, _], _ => rfl, .nil⟩
  refine F.ok sc_l_spoiled (fun vs H Q E h => by obtain ⟨_, _, _, _, _, rfl, _⟩ := h; rfl) (fun cdv A outer s H vs Q E hr h => ?_)
  have hu := hu_of hr
  refine ⟨_, PSs.nox (pss_cons (ps_par3 (i := 2) (j := 3) (l := 4) (by rfl) sc_l_spoiled.nd rfl rfl rfl (by decide) (by decide) (by decide) rfl rfl rfl (pa_cons (pe_callTy call_list_of (by rfl) T.f_list (by decide +kernel) (pa_cons (pv 1) pa_nil)) (pa_cons (pe_c C_l_take hr (by omega) rfl (pa_cons (pv 0) (pa_cons (pe_callB call_len_seq (by rfl) T.f_len (by decide +kernel) (pa_cons (pv 1) pa_nil)) pa_nil))) (pa_cons (pe_c C_l_take hr (by omega) rfl (pa_cons (pv 0) (pa_cons pe_int pa_nil))) pa_nil))) (by rfl))
      (pss_cons (ps_asg (pe_ix ix_list (pv 2) (pv 3) (fun _ _ => rfl)) (pg_tup (by rfl) (pgs_cons (pg_name (i := 5) sc_l_spoiled.nd rfl (Or.inl rfl)) (pgs_cons (pg_name (i := 6) sc_l_spoiled.nd rfl (Or.inl rfl)) pgs_nil))))
      (pss_cons (ps_set (i := 7) sc_l_spoiled.nd rfl (Or.inl rfl) (pe_lst (pa_cons (pe_tup (pa_cons (pv 5) (pa_cons (pe_ix ix_list (pe_lst (pa_cons pe_int (pa_cons pe_int (pa_cons pe_int (pa_cons (pe_un un_neg pe_int) (pa_cons pe_int (pa_cons (pe_op op_pow pe_int pe_int) pa_nil))))))) (pe_c C_l_take hr (by omega) rfl (pa_cons (pv 0) (pa_cons pe_int pa_nil))) (fun _ _ => rfl)) pa_nil))) (pa_cons (pe_tup (pa_cons (pv 5) (pa_cons (pe_ix ix_list (pe_lst (pa_cons pe_bl (pa_cons pe_non (pa_cons pe_str (pa_cons (pe_mk M_Ratio hr (by omega) rfl (pa_cons (pv 6) pa_nil)) (pa_cons (pe_tup (pa_cons pe_int pa_nil)) pa_nil)))))) (pe_c C_l_take hr (by omega) rfl (pa_cons (pv 0) (pa_cons pe_int pa_nil))) (fun _ _ => rfl)) pa_nil))) pa_nil))))
      (pss_cons (ps_set (i := 7) sc_l_spoiled.nd rfl (Or.inl rfl) (pe_op op_cat (pv 7) (pe_lst (pa_cons (pe_lst (pa_cons (pv 5) (pa_cons (pv 6) pa_nil))) (pa_cons (pe_tup (pa_cons (pv 5) (pa_cons (pv 6) (pa_cons (pv 6) pa_nil)))) (pa_cons (pe_tup (pa_cons (pv 5) pa_nil)) (pa_cons (pe_tup (pa_cons (pe_c C_l_string hr (by omega) rfl (pa_cons (pv 0) pa_nil)) (pa_cons (pv 6) pa_nil))) pa_nil)))))))
      (pss_cons (ps_set (i := 7) sc_l_spoiled.nd rfl (Or.inl rfl) (pe_op op_cat (pv 7) (pe_lst (pa_cons (pe_tup (pa_cons (pv 6) (pa_cons (pv 5) pa_nil))) (pa_cons (pv 5) (pa_cons (pe_tup (pa_cons (pe_upper (pv 5)) (pa_cons (pv 6) pa_nil))) pa_nil))))))
      (pss_cons (ps_if (pt_cmpR op_lt (pv 4) pe_int (nomark _)) (pss_one (ps_asg (pe_ix ix_list (pv 7) (pv 4) (fun _ _ => rfl)) (pg_sub (pv 2) (pv 3) set_list))) (pss_one (ps_if (pt_cmpR op_eq (pv 4) pe_int (nomark _)) (pss_one (ps_expr (pe_bm PySem.F.plainAttrs_list PySem.F.slot_list_append PySem.F.type_list_append mt_append (pv 2) (pa_cons (pe_tup (pa_cons (pv 5) (pa_cons pe_int pa_nil))) pa_nil)))) (pss_one (ps_if (pt_cmpR op_eq (pv 4) pe_int (nomark _)) (pss_one (ps_set (i := 2) sc_l_spoiled.nd rfl (Or.inl rfl) (pe_op op_cat (pv 2) (pe_lst (pa_cons (pe_tup (pa_cons (pe_c C_l_word hr (by omega) rfl (pa_cons (pv 0) pa_nil)) (pa_cons pe_int pa_nil))) (pa_cons (pe_tup (pa_cons pe_str (pa_cons pe_int pa_nil))) pa_nil)))))) (pss_one (ps_asg (pe_tup (pa_cons (pe_op op_add_str (pv 5) pe_str) (pa_cons (pv 6) pa_nil))) (pg_sub (pv 2) (pv 3) set_list))))))))
      (pss_one (ps_ret (pv 2))))))))), ?_⟩
  obtain ⟨Hb, b, c, l, ns, rfl, W, hc, ⟨ps, hl, hT⟩, hok, hQ⟩ := h
  have hlen := hT.length
  have hn1 := hok.len
  refine ⟨_, rfl, l, _, rfl, .inl (SqL.of (W.ex _ _ hl)), fun f hf => ?_⟩
  have F0 := Wf.start (o := .lst (ps.map V.ref)) W hf
  refine ⟨_, rfl, _, rfl, l, _, rfl, .inl (SqL.of (F0.w.ex _ _ hl)), _, b, c, _, rfl, F0.up, by omega, by rw [List.length_map]; omega, by rw [List.length_map]; omega, fun at1 H1 a0 a1 W1 => ?_⟩
  have F1 := F0.of W1
  obtain ⟨a, rfl⟩ : ∃ a : Nat, at1 = (a : Int) := ⟨at1.toNat, by omega⟩
  rw [List.length_map] at a1
  have ha : a < ps.length := by omega
  refine ⟨_, rfl, _, b, _, 12, rfl, F1.up, by omega, by decide, by decide, fun way1 H2 w0 w1 W2 => ?_⟩
  have F2 := F1.of W2
  obtain ⟨way, rfl⟩ : ∃ a : Nat, way1 = (a : Int) := ⟨way1.toNat, by omega⟩
  obtain ⟨p, hp⟩ : ∃ p, ps[a]? = some p := ⟨_, List.getElem?_eq_getElem ha⟩
  obtain ⟨n, hn, hpn⟩ := hT.get hp
  have hnm := List.mem_of_getElem? hn
  have hsz := hok.size hnm
  have hwd := hok.wd _ (List.mem_map_of_mem hnm)
  refine ⟨_, _, _, rfl, _, rfl, _, rfl, f, _, (a : Int), .ref p, rfl, rfl, SqL.of F2.hf, atI_nat (by rw [List.getElem?_map, hp]; rfl), ?_⟩
  refine ⟨p, nV n, rfl, .inl (hpn.mono F2.w.ex), rfl, _, _, rfl, _, _, rfl, rfl, ?_⟩
  refine ⟨_, rfl, _, rfl, _, _, rfl, rfl, ⟨by decide, by decide, by decide⟩, (by show 6 ≤ sizeLine; decide), fun n6 n_n6 => ?_⟩
  obtain ⟨B1, e_n6, F3, h_n6⟩ := F2.new' (o2 := .lst [.int 0, .int 1, .int 7, .int (-2), .int 6, .int (10 ^ 20)]) n_n6
  refine ⟨_, rfl, _, b, _, 6, rfl, F3.up, by omega, by decide, by decide, fun r1 H4 r10 r11 W4 => ?_⟩
  have F4 := F3.of W4
  obtain ⟨k1, rfl⟩ : ∃ k : Nat, r1 = (k : Int) := ⟨r1.toNat, by omega⟩
  obtain ⟨i1, hi1⟩ : ∃ i1 : Int, ([.int 0, .int 1, .int 7, .int (-2), .int 6, .int (10 ^ 20)] : List V)[k1]? = some (.int i1) := by
    match k1, (show k1 < 6 by omega) with
    | 0, _ => exact ⟨_, rfl⟩
    | 1, _ => exact ⟨_, rfl⟩
    | 2, _ => exact ⟨_, rfl⟩
    | 3, _ => exact ⟨_, rfl⟩
    | 4, _ => exact ⟨_, rfl⟩
    | 5, _ => exact ⟨_, rfl⟩
  refine ⟨n6, _, _, .int i1, rfl, rfl, SqL.of (F4.w.ex _ _ h_n6), atI_nat hi1, ?_⟩
  refine ⟨(by show 2 ≤ sizeLine; decide), fun t1 n_t1 => ?_⟩
  obtain ⟨B2, e_t1, F5, h_t1⟩ := F4.new' (o2 := .tup [.str n.1, .int i1]) n_t1
  have wst : (n.1).length ≤ 1000 := Nat.le_trans hwd.hi (by omega)
  have A1 : AtK5 K B2 (.ref t1) (.tup [.str n.1, .int i1]) := .tup (.inl h_t1) (.cons (.str _ wst) (.cons (.int _) .nil))
  refine ⟨_, rfl, _, rfl, fun x dx n_x n_dx dne => ⟨x, dx, (n.2 : Int), rfl, upd_same, ⟨by omega, by omega⟩, fun H6 keep hx => ⟨rfl, ?_⟩⟩⟩
  obtain ⟨B3, e_x, F6, h_x⟩ : ∃ B, Ex B2 B ∧ Wf B H6 b (c + 1 + 1 + 1) f (.lst (ps.map V.ref)) ∧ B x = some (.ins (He.ga K "Ratio") dx (wholeF (n.2 : Int))) := ⟨_, Evl.Ex.new (F5.free n_x), F5.made n_x n_dx keep hx, upd_same⟩
  refine ⟨(by show 1 ≤ sizeLine; decide), fun t2 n_t2 => ?_⟩
  obtain ⟨B4, e_t2, F7, h_t2⟩ := F6.new' (o2 := .tup [.int 2]) n_t2
  refine ⟨(by show 5 ≤ sizeLine; decide), fun l5 n_l5 => ?_⟩
  obtain ⟨B5, e_l5, F8, h_l5⟩ := F7.new' (o2 := .lst [.bl true, .non, .str "2", .ref x, .ref t2]) n_l5
  refine ⟨_, rfl, _, b, _, 5, rfl, F8.up, by omega, by decide, by decide, fun r2 H9 r20 r21 W9 => ?_⟩
  have F9 := F8.of W9
  obtain ⟨k2, rfl⟩ : ∃ k : Nat, r2 = (k : Int) := ⟨r2.toNat, by omega⟩
  obtain ⟨x2, d2, hx2, hd2, dd2⟩ : ∃ x2 d2, ([.bl true, .non, .str "2", .ref x, .ref t2] : List V)[k2]? = some x2 ∧ AtK5 K B5 x2 d2 ∧ dep d2 ≤ 2 := by
    match k2, (show k2 < 5 by omega) with
    | 0, _ => exact ⟨_, _, rfl, .bl _, by decide⟩
    | 1, _ => exact ⟨_, _, rfl, .non, by decide⟩
    | 2, _ => exact ⟨_, _, rfl, .str _ (by decide), by decide⟩
    | 3, _ => exact ⟨_, _, rfl, .rat (e_l5 _ _ (e_t2 _ _ h_x)), by simp [dep]⟩
    | 4, _ => exact ⟨_, .tup [.int 2], rfl, .tup (.inl (e_l5 _ _ h_t2)) (.cons (.int _) .nil), by decide⟩
  refine ⟨l5, _, _, x2, rfl, rfl, SqL.of (F9.w.ex _ _ h_l5), atI_nat hx2, ?_⟩
  refine ⟨(by show 2 ≤ sizeLine; decide), fun t3 n_t3 => ?_⟩
  obtain ⟨B6, e_t3, F10, h_t3⟩ := F9.new' (o2 := .tup [.str n.1, x2]) n_t3
  have A2 : AtK5 K B6 (.ref t3) (.tup [.str n.1, d2]) := .tup (.inl h_t3) (.cons (.str _ wst) (.cons (hd2.up e_t3) .nil))
  refine ⟨(by show 2 ≤ sizeLine; decide), fun q1 n_q1 => ?_⟩
  obtain ⟨B7, e_q1, F11, h_q1⟩ := F10.new' (o2 := .lst [.ref t1, .ref t3]) n_q1
  have C1 : AtA (He.ga K "Ratio") B7 [.ref t1, .ref t3] [.tup [.str n.1, .int i1], .tup [.str n.1, d2]] := .cons (((((A1.up e_x).up e_t2).up e_l5).up e_t3).up e_q1) (.cons (A2.up e_q1) .nil)
  have eA : Ex Hb B7 := e_n6.trans (e_t1.trans (e_x.trans (e_t2.trans (e_l5.trans (e_t3.trans e_q1)))))
  refine ⟨_, rfl, _, rfl, _, rfl, (by show 2 ≤ sizeLine; decide), fun l6 n_l6 => ?_⟩
  obtain ⟨B8, e_l6, F12, h_l6⟩ := F11.new' (o2 := .lst [.str n.1, .int (n.2 : Int)]) n_l6
  refine ⟨_, rfl, _, rfl, _, rfl, (by show 3 ≤ sizeLine; decide), fun t4 n_t4 => ?_⟩
  obtain ⟨B9, e_t4, F13, h_t4⟩ := F12.new' (o2 := .tup [.str n.1, .int (n.2 : Int), .int (n.2 : Int)]) n_t4
  refine ⟨_, rfl, (by show 1 ≤ sizeLine; decide), fun t5 n_t5 => ?_⟩
  obtain ⟨B10, e_t5, F14, h_t5⟩ := F13.new' (o2 := .tup [.str n.1]) n_t5
  refine ⟨_, rfl, _, b, _, rfl, F14.up, by omega, fun z H15 hz W15 => ?_⟩
  have F15 := F14.of W15
  refine ⟨_, rfl, (by show 2 ≤ sizeLine; decide), fun t6 n_t6 => ?_⟩
  obtain ⟨B11, e_t6, F16, h_t6⟩ := F15.new' (o2 := .tup [.str z, .int (n.2 : Int)]) n_t6
  refine ⟨(by show 4 ≤ sizeLine; decide), fun q2 n_q2 => ?_⟩
  obtain ⟨B12, e_q2, F17, h_q2⟩ := F16.new' (o2 := .lst [.ref l6, .ref t4, .ref t5, .ref t6]) n_q2
  have C2 : AtA (He.ga K "Ratio") B12 [.ref l6, .ref t4, .ref t5, .ref t6] [.lst [.str n.1, .int (n.2 : Int)], .tup [.str n.1, .int (n.2 : Int), .int (n.2 : Int)], .tup [.str n.1], .tup [.str z, .int (n.2 : Int)]] :=
    .cons (.lst (e_q2 _ _ (e_t6 _ _ (e_t5 _ _ (e_t4 _ _ h_l6)))) (.cons (.str _ wst) (.cons (.int _) .nil)))
    (.cons (.tup (.inl (e_q2 _ _ (e_t6 _ _ (e_t5 _ _ h_t4)))) (.cons (.str _ wst) (.cons (.int _) (.cons (.int _) .nil))))
    (.cons (.tup (.inl (e_q2 _ _ (e_t6 _ _ h_t5))) (.cons (.str _ wst) .nil))
    (.cons (.tup (.inl (e_q2 _ _ h_t6)) (.cons (.str _ (by omega)) (.cons (.int _) .nil))) .nil)))
  have eB : Ex B7 B12 := e_l6.trans (e_t4.trans (e_t5.trans (e_t6.trans e_q2)))
  refine ⟨q1, q2, _, _, rfl, rfl, F17.w.ex _ _ (eB _ _ h_q1), F17.w.ex _ _ h_q2, (by show 6 ≤ sizeLine; decide), fun q3 n_q3 => ?_⟩
  obtain ⟨B13, e_q3, F18, h_q3⟩ := F17.new' (o2 := .lst ([.ref t1, .ref t3] ++ [.ref l6, .ref t4, .ref t5, .ref t6])) n_q3
  refine ⟨_, rfl, _, rfl, _, rfl, (by show 2 ≤ sizeLine; decide), fun t7 n_t7 => ?_⟩
  obtain ⟨B14, e_t7, F19, h_t7⟩ := F18.new' (o2 := .tup [.int (n.2 : Int), .str n.1]) n_t7
  have l3 : (Txt.upper n.1).length ≤ 24 := Nat.le_trans (PyProof.Rows.len_upper n.1) (by have h8 : (n.1).length ≤ 8 := hwd.hi; show 3 * (n.1).length ≤ 24; omega)
  refine ⟨_, rfl, _, rfl, ⟨_, rfl⟩, _, rfl, rfl, Nat.le_trans wst (by decide), _, rfl, (by show 2 ≤ sizeLine; decide), fun t8 n_t8 => ?_⟩
  obtain ⟨B15, e_t8, F20, h_t8⟩ := F19.new' (o2 := .tup [.str (Txt.upper n.1), .int (n.2 : Int)]) n_t8
  refine ⟨(by show 3 ≤ sizeLine; decide), fun q4 n_q4 => ?_⟩
  obtain ⟨B16, e_q4, F21, h_q4⟩ := F20.new' (o2 := .lst [.ref t7, .str n.1, .ref t8]) n_q4
  refine ⟨q3, q4, _, _, rfl, rfl, F21.w.ex _ _ (e_q4 _ _ (e_t8 _ _ (e_t7 _ _ h_q3))), F21.w.ex _ _ h_q4, (by show 9 ≤ sizeLine; decide), fun q5 n_q5 => ?_⟩
  obtain ⟨B17, e_q5, F22, h_q5⟩ := F21.new' (o2 := .lst ([.ref t1, .ref t3] ++ [.ref l6, .ref t4, .ref t5, .ref t6] ++ [.ref t7, .str n.1, .ref t8])) n_q5
  have C3 : AtA (He.ga K "Ratio") B17 [.ref t7, .str n.1, .ref t8] [.tup [.int (n.2 : Int), .str n.1], .str n.1, .tup [.str (Txt.upper n.1), .int (n.2 : Int)]] :=
    .cons (.tup (.inl (e_q5 _ _ (e_q4 _ _ (e_t8 _ _ h_t7)))) (.cons (.int _) (.cons (.str _ wst) .nil)))
    (.cons (.str _ wst) (.cons (.tup (.inl (e_q5 _ _ (e_q4 _ _ h_t8))) (.cons (.str _ (by omega)) (.cons (.int _) .nil))) .nil))
  have eC : Ex B12 B17 := e_q3.trans (e_t7.trans (e_t8.trans (e_q4.trans e_q5)))
  have CC := ((C1.up (eB.trans eC)).app (C2.up eC)).app C3
  have eD : Ex Hb B17 := eA.trans (eB.trans eC)
  have dA : depA ([.tup [.str n.1, .int i1], .tup [.str n.1, d2]] ++ [.lst [.str n.1, .int (n.2 : Int)], .tup [.str n.1, .int (n.2 : Int), .int (n.2 : Int)], .tup [.str n.1], .tup [.str z, .int (n.2 : Int)]] ++ [.tup [.int (n.2 : Int), .str n.1], .str n.1, .tup [.str (Txt.upper n.1), .int (n.2 : Int)]]) ≤ 10 := by
    simp only [List.cons_append, List.nil_append, depA, dep, List.length_cons, List.length_nil]
    omega
  have NN : AtA (He.ga K "Ratio") B17 (ps.map V.ref) (ns.map nsTh) := names_at (fun n hn => Nat.le_trans (hok.wd _ (List.mem_map_of_mem hn)).hi (by omega)) (hT.up eD)
  have dN := dep_ns ns
  have lN : (ns.map nsTh).length ≤ 3 := by rw [List.length_map]; omega
  generalize hds : ([.tup [.str n.1, .int i1], .tup [.str n.1, d2]] ++ [.lst [.str n.1, .int (n.2 : Int)], .tup [.str n.1, .int (n.2 : Int), .int (n.2 : Int)], .tup [.str n.1], .tup [.str z, .int (n.2 : Int)]] ++ [.tup [.int (n.2 : Int), .str n.1], .str n.1, .tup [.str (Txt.upper n.1), .int (n.2 : Int)]] : List Th) = ds at CC dA
  have lds : ds.length = 9 := by rw [← hds]; rfl
  refine ⟨_, rfl, _, _, rfl, rfl, _, rfl, ?_⟩
  by_cases c9 : way < 9
  · refine iteTo (decide_eq_true (by omega)) ?_
    obtain ⟨d, hd⟩ : ∃ d, ds[way]? = some d := ⟨_, List.getElem?_eq_getElem (by omega)⟩
    obtain ⟨v, hv, av⟩ := CC.get' hd
    refine ⟨_, rfl, _, rfl, q5, _, _, v, rfl, rfl, SqL.of (F22.w.ex _ _ h_q5), atI_nat hv, ?_⟩
    refine ⟨_, rfl, _, rfl, f, _, _, a, rfl, rfl, F22.hf, ixN_nat9 (by rw [List.length_map]; exact ha), ?_⟩
    have F23 := F22.set (o2 := .lst ((ps.map V.ref).set a v))
    exact ⟨_, rfl, hQ _ f _ _ _ (eD.trans (Evl.Ex.new F22.bf)) (F23.mono (by omega)) upd_same ((AtA.put av a NN).up (Evl.Ex.new F22.bf)) (by rw [List.length_set]; omega) (depA_put (Nat.le_trans (depA_get hd) dA) a (by omega))⟩
  refine iteFo (decide_eq_false (by omega)) ?_
  refine ⟨_, rfl, rfl, _, rfl, ?_⟩
  by_cases e9 : way = 9
  · refine iteTo (decide_eq_true (by rw [e9]; rfl)) ?_
    refine ⟨_, rfl, .inl ⟨rfl, _, SqL.of F22.hf⟩, _, rfl, (by show 2 ≤ sizeLine; decide), fun t9 n_t9 => ?_⟩
    obtain ⟨B18, e_t9, F23, h_t9⟩ := F22.new' (o2 := .tup [.str n.1, .int 2]) n_t9
    refine ⟨_, _, _, rfl, rfl, F23.hf, by rw [List.length_map]; exact Nat.lt_of_lt_of_le (show ps.length < 4 by omega) (by decide), ?_⟩
    have F24 := F23.set (o2 := .lst (ps.map V.ref ++ [.ref t9]))
    refine ⟨_, rfl, hQ _ f _ _ _ ((eD.trans e_t9).trans (Evl.Ex.new F23.bf)) (F24.mono (by omega)) upd_same (((NN.up e_t9).app (.cons (.tup (.inl h_t9) (.cons (.str n.1 wst) (.cons (.int 2) .nil))) .nil)).up (Evl.Ex.new F23.bf)) (by rw [List.length_append]; show _ + 1 ≤ 5; omega) (depA_app (by omega) (by simp [depA, dep]))⟩
  refine iteFo (decide_eq_false (fun z => e9 (by have := V.int.inj z; omega))) ?_
  refine ⟨_, rfl, rfl, _, rfl, ?_⟩
  by_cases e10 : way = 10
  · refine iteTo (decide_eq_true (by rw [e10]; rfl)) ?_
    refine ⟨_, rfl, _, rfl, _, b, _, rfl, F22.up, by omega, fun lw H23 low l1 l7 lbar W23 => ?_⟩
    have F23 := F22.of W23
    refine ⟨(by show 2 ≤ sizeLine; decide), fun t9 n_t9 => ?_⟩
    obtain ⟨B18, e_t9, F24, h_t9⟩ := F23.new' (o2 := .tup [.str (S lw), .int 2]) n_t9
    refine ⟨(by show 2 ≤ sizeLine; decide), fun t10 n_t10 => ?_⟩
    obtain ⟨B19, e_t10, F25, h_t10⟩ := F24.new' (o2 := .tup [.str "zzy", .int 2]) n_t10
    refine ⟨(by show 2 ≤ sizeLine; decide), fun q6 n_q6 => ?_⟩
    obtain ⟨B20, e_q6, F26, h_q6⟩ := F25.new' (o2 := .lst [.ref t9, .ref t10]) n_q6
    refine ⟨f, q6, _, _, rfl, rfl, F26.hf, F26.w.ex _ _ h_q6, by rw [List.length_map]; exact Nat.le_trans (show ps.length + 2 ≤ 5 by omega) (by decide), fun q7 n_q7 => ?_⟩
    obtain ⟨B21, e_q7, F27, h_q7⟩ := F26.new' (o2 := .lst (ps.map V.ref ++ [.ref t9, .ref t10])) n_q7
    refine ⟨_, rfl, hQ _ q7 _ _ _ (eD.trans (e_t9.trans (e_t10.trans (e_q6.trans e_q7)))) (F27.w.mono (by omega)) h_q7 ((NN.up (e_t9.trans (e_t10.trans (e_q6.trans e_q7)))).app (.cons (.tup (.inl (e_q7 _ _ (e_q6 _ _ (e_t10 _ _ h_t9)))) (.cons (.str _ (by rw [S_len]; omega)) (.cons (.int 2) .nil))) (.cons (.tup (.inl (e_q7 _ _ (e_q6 _ _ h_t10))) (.cons (.str _ (by decide)) (.cons (.int 2) .nil))) .nil))) (by rw [List.length_append]; show _ + 2 ≤ 5; omega) (depA_app (by omega) (by simp [depA, dep]))⟩
  refine iteFo (decide_eq_false (fun z => e10 (by have := V.int.inj z; omega))) ?_
  refine ⟨_, rfl, _, _, rfl, rfl, Nat.le_trans (show (n.1).length + 8 ≤ 1008 by omega) (by decide), _, rfl, (by show 2 ≤ sizeLine; decide), fun t9 n_t9 => ?_⟩
  obtain ⟨B18, e_t9, F23, h_t9⟩ := F22.new' (o2 := .tup [.str (n.1 ++ Str.ofString "abcdefgh"), .int (n.2 : Int)]) n_t9
  refine ⟨_, rfl, _, rfl, f, _, _, a, rfl, rfl, F23.hf, ixN_nat9 (by rw [List.length_map]; exact ha), ?_⟩
  have F24 := F23.set (o2 := .lst ((ps.map V.ref).set a (.ref t9)))
  have av : AtK5 K B18 (.ref t9) (.tup [.str (n.1 ++ Str.ofString "abcdefgh"), .int (n.2 : Int)]) := .tup (.inl h_t9) (.cons (.str _ (by rw [Str.length_append]; show (n.1).length + 8 ≤ 1000; have h8 : (n.1).length ≤ 8 := hwd.hi; omega)) (.cons (.int _) .nil))
  exact ⟨_, rfl, hQ _ f _ _ _ ((eD.trans e_t9).trans (Evl.Ex.new F23.bf)) (F24.mono (by omega)) upd_same ((AtA.put av a (NN.up e_t9)).up (Evl.Ex.new F23.bf)) (by rw [List.length_set]; omega) (depA_put (by simp [dep, depA]) a (by omega))⟩

end
end K05
namespace K05
open PySem PySem.Spec PyProof.Rows L2 C8
section
variable {P : Program} {w : World} {K : PySem.W.Frag} {mg : Str → Option Value} {base : Heap}
abbrev N_l_drawn : List Str := ["box", "kind", "names", "many", "way", "word"]
theorem sc_l_drawn : FnScope N_l_drawn ["box", "kind", "names", "many"] (defScope (top 48)) := ⟨rfl, rfl, rfl, by decide +kernel, rfl, by decide +kernel, by decide +kernel⟩
/-- a thing for a method's argument, drawn -/
def spDrawn (K : PySem.W.Frag) : Sp := fun vs H Q _ => ∃ (Hb : Hp) (b : Addr) (c : Nat) (kind : Str) (l : Addr) (ns : NS), vs = [.ref b, .str kind, .ref l, .int ((prodN (szs ns) : Nat) : Int)] ∧ (kind = "name" ∨ kind = "store" ∨ kind = "values") ∧ Wd Hb H b c ∧ c ≤ 600000 ∧ NamesAt Hb l ns ∧ NsOk ns ∧
  ∀ Hb' v d H', Ex Hb Hb' → Wd Hb' H' b (c + 4) → AtK5 K Hb' v d → dep d ≤ 10 → Q v H'
theorem ok_l_drawn (T : Txt K mg) (C_l_take : Cal P w K mg base 1 "_law_take" spTake []) (C_l_odd : Cal P w K mg base 4 "_law_odd" (spOddT K) []) : Cal P w K mg base 5 "_law_drawn" (spDrawn K) [] := by
  obtain ⟨fd, F⟩ := T.d__law_drawn
  refine ⟨_, fd, ["box", "kind", "names", "many"], [], ?_, T.g__law_drawn, F.kp, F.bindsN fun _ _ _ _ _ _ us hl => match us, hl with | [_, _, _, _], _ => rfl, .nil⟩
  refine F.ok sc_l_drawn (fun vs H Q E h => by obtain ⟨_, _, _, _, _, _, rfl, _⟩ := h; rfl) (fun cdv A outer s H vs Q E hr h => ?_)
  have hu := hu_of hr
  refine ⟨_, PSs.nox (pss_cons (ps_par (i := 4) (j := 5) (by rfl) sc_l_drawn.nd rfl rfl (by decide) rfl rfl (pa_cons (pe_c C_l_take hr (by omega) rfl (pa_cons (pv 0) (pa_cons pe_int pa_nil))) (pa_cons (pe_ix ix_tup (pe_ix ix_list (pv 2) (pe_c C_l_take hr (by omega) rfl (pa_cons (pv 0) (pa_cons (pe_callB call_len_seq (by rfl) T.f_len (by decide +kernel) (pa_cons (pv 2) pa_nil)) pa_nil))) (fun _ _ => rfl)) pe_int (fun _ _ => rfl)) pa_nil)) (by rfl))
      (pss_cons (ps_if (pt_cmpR op_gt (pv 4) pe_int (nomark _)) (pss_one (ps_ret (pe_c C_l_odd hr (by omega) rfl (pa_cons (pv 0) pa_nil)))) pss_nil)
      (pss_cons (ps_if (pt_cmpR op_eq (pv 1) pe_str (nomark _)) (pss_one (ps_ret (pe_ix ix_list (pe_lst (pa_cons (pv 5) (pa_cons (pv 5) (pa_cons (pv 5) (pa_cons (pe_op op_add_str (pv 5) pe_str) (pa_cons (pe_slice sl_str (pv 5) po_none (po_some (pe_un un_neg pe_int))) (pa_cons (pe_upper (pv 5)) pa_nil))))))) (pv 4) (fun _ _ => rfl)))) pss_nil)
      (pss_cons (ps_if (pt_cmpR op_eq (pv 1) pe_str (nomark _)) (pss_one (ps_ret (pe_ix ix_list (pe_lst (pa_cons pe_int (pa_cons (pe_op op_sub (pv 3) pe_int) (pa_cons (pe_c C_l_take hr (by omega) rfl (pa_cons (pv 0) (pa_cons (pv 3) pa_nil))) (pa_cons (pv 3) (pa_cons (pe_un un_neg pe_int) (pa_cons (pe_op op_sub pe_int (pv 3)) pa_nil))))))) (pv 4) (fun _ _ => rfl)))) pss_nil)
      (pss_one (ps_ret (pe_ix ix_list (pe_lst (pa_cons pe_int (pa_cons (pe_un un_neg pe_int) (pa_cons (pe_op op_pow pe_int pe_int) (pa_cons (pv 3) (pa_cons (pe_c C_l_take hr (by omega) rfl (pa_cons (pv 0) (pa_cons (pv 3) pa_nil))) (pa_cons (pe_un un_neg (pe_op op_pow pe_int pe_int)) pa_nil))))))) (pv 4) (fun _ _ => rfl)))))))), ?_⟩
  obtain ⟨Hb, b, c, kind, l, ns, rfl, hk, W, hc, ⟨ps, hl, hT⟩, hok, hQ⟩ := h
  have hlen := hT.length
  have hn1 := hok.len
  obtain ⟨mp, m8⟩ : 0 < prodN (szs ns) ∧ prodN (szs ns) ≤ 8 := ⟨Nat.lt_of_lt_of_le (by decide) (menu_facts _ hok.sz).2.2.1, (menu_facts _ hok.sz).2.1⟩
  generalize hm : prodN (szs ns) = mm at mp m8 ⊢
  refine ⟨_, rfl, _, b, c, 8, rfl, W, by omega, by decide, by decide, fun way1 H1 w0 w1 W1 => ?_⟩
  obtain ⟨way, rfl⟩ : ∃ a : Nat, way1 = (a : Int) := ⟨way1.toNat, by omega⟩
  refine ⟨_, rfl, _, rfl, _, rfl, l, _, rfl, .inl (SqL.of (W1.ex _ _ hl)), _, b, _, _, rfl, W1, by omega, by rw [List.length_map]; omega, by rw [List.length_map]; omega, fun at1 H2 a0 a1 W2 => ?_⟩
  obtain ⟨a, rfl⟩ : ∃ a : Nat, at1 = (a : Int) := ⟨at1.toNat, by omega⟩
  rw [List.length_map] at a1
  obtain ⟨p, hp⟩ : ∃ p, ps[a]? = some p := ⟨_, List.getElem?_eq_getElem (by omega)⟩
  obtain ⟨n, hn, hpn⟩ := hT.get hp
  have hnm := List.mem_of_getElem? hn
  have hwd := hok.wd _ (List.mem_map_of_mem hnm)
  have h8 : (n.1).length ≤ 8 := hwd.hi
  refine ⟨l, _, (a : Int), .ref p, rfl, rfl, SqL.of (W2.ex _ _ hl), atI_nat (by rw [List.getElem?_map, hp]; rfl), ?_⟩
  refine ⟨p, _, 0, _, rfl, rfl, .inl (hpn.mono W2.ex), rfl, ?_⟩
  refine ⟨_, _, rfl, ?_⟩
  refine ⟨_, rfl, _, _, rfl, rfl, _, rfl, ?_⟩
  by_cases c5 : way > 5
  · refine iteTo (decide_eq_true (by omega)) ?_
    refine ⟨_, rfl, Hb, b, _, rfl, W2, by omega, fun Hb' v d H' e W' hd dd _ _ => hQ Hb' v d H' e (W'.mono (by omega)) hd dd⟩
  refine iteFo (decide_eq_false (by omega)) ?_
  have w6 : way < 6 := by omega
  rcases hk with rfl | rfl | rfl
  · refine ⟨_, rfl, rfl, _, rfl, iteTo (decide_eq_true rfl) ?_⟩
    refine ⟨_, rfl, _, rfl, _, rfl, _, rfl, _, _, rfl, rfl, Nat.le_trans (show (n.1).length + 1 ≤ 9 by omega) (by decide), ?_⟩
    refine ⟨_, rfl, _, rfl, _, rfl, n.1, rfl, Nat.le_trans (show (n.1).length ≤ 9 by omega) (by decide), ?_⟩
    refine ⟨_, rfl, ⟨_, rfl⟩, _, rfl, rfl, Nat.le_trans h8 (by decide), (by show 6 ≤ sizeLine; decide), fun m n_m => ?_⟩
    have l1 := cutS_length n.1 none (some (-1))
    have l3 : (Txt.upper n.1).length ≤ 24 := Nat.le_trans (PyProof.Rows.len_upper n.1) (by show 3 * (n.1).length ≤ 24; omega)
    obtain ⟨B1, e1, W3, h_m⟩ := W2.new' (o2 := .lst [.str n.1, .str n.1, .str n.1, .str (n.1 ++ Str.ofString "a"), .str (cutS n.1 none (some (-1))), .str (Txt.upper n.1)]) n_m
    have key : ∃ z : Str, ([.str n.1, .str n.1, .str n.1, .str (n.1 ++ Str.ofString "a"), .str (cutS n.1 none (some (-1))), .str (Txt.upper n.1)] : List V)[way]? = some (.str z) ∧ z.length ≤ 1000 := by
      match way, w6 with
      | 0, _ => exact ⟨_, rfl, by omega⟩
      | 1, _ => exact ⟨_, rfl, by omega⟩
      | 2, _ => exact ⟨_, rfl, by omega⟩
      | 3, _ => exact ⟨_, rfl, by rw [Str.length_append]; show (n.1).length + 1 ≤ 1000; omega⟩
      | 4, _ => exact ⟨_, rfl, by omega⟩
      | 5, _ => exact ⟨_, rfl, by omega⟩
    obtain ⟨z, hz, zl⟩ := key
    exact ⟨_, rfl, m, _, _, _, rfl, rfl, SqL.of (W3.ex _ _ h_m), atI_nat hz, hQ B1 _ (.str z) _ e1 (W3.mono (by omega)) (.str z zl) (by simp [dep])⟩
  · refine ⟨_, rfl, rfl, _, rfl, iteFo (nestr (by decide)) ?_⟩
    refine ⟨_, rfl, rfl, _, rfl, iteTo (decide_eq_true rfl) ?_⟩
    refine ⟨_, rfl, _, _, rfl, rfl, _, rfl, _, rfl, Hb, b, _, _, rfl, W2, by omega, by omega, by omega, fun r H3 r0 r1 W3 => ?_⟩
    refine ⟨_, rfl, _, rfl, _, rfl, _, _, rfl, rfl, (by show 6 ≤ sizeLine; decide), fun m n_m => ?_⟩
    obtain ⟨B1, e1, W4, h_m⟩ := W3.new' (o2 := .lst [.int (0), .int ((mm : Int) - 1), .int (r), .int (mm), .int (-1), .int (0 - (mm : Int))]) n_m
    obtain ⟨i, hi⟩ : ∃ i : Int, ([.int (0), .int ((mm : Int) - 1), .int (r), .int (mm), .int (-1), .int (0 - (mm : Int))] : List V)[way]? = some (.int i) := by
      match way, w6 with
      | 0, _ => exact ⟨_, rfl⟩
      | 1, _ => exact ⟨_, rfl⟩
      | 2, _ => exact ⟨_, rfl⟩
      | 3, _ => exact ⟨_, rfl⟩
      | 4, _ => exact ⟨_, rfl⟩
      | 5, _ => exact ⟨_, rfl⟩
    exact ⟨_, rfl, m, _, _, _, rfl, rfl, SqL.of (W4.ex _ _ h_m), atI_nat hi, hQ B1 _ (.int i) _ e1 (W4.mono (by omega)) (.int i) (by simp [dep])⟩
  · refine ⟨_, rfl, rfl, _, rfl, iteFo (nestr (by decide)) ?_⟩
    refine ⟨_, rfl, rfl, _, rfl, iteFo (nestr (by decide)) ?_⟩
    refine ⟨_, rfl, _, _, rfl, rfl, ⟨by decide, by decide, by decide⟩, _, rfl, _, rfl, _, rfl, Hb, b, _, _, rfl, W2, by omega, by omega, by omega, fun r H3 r0 r1 W3 => ?_⟩
    refine ⟨_, _, rfl, rfl, ⟨by decide, by decide, by decide⟩, _, rfl, (by show 6 ≤ sizeLine; decide), fun m n_m => ?_⟩
    obtain ⟨B1, e1, W4, h_m⟩ := W3.new' (o2 := .lst [.int (0), .int (-1), .int (10 ^ 25), .int (mm), .int (r), .int (-(10 ^ 25))]) n_m
    obtain ⟨i, hi⟩ : ∃ i : Int, ([.int (0), .int (-1), .int (10 ^ 25), .int (mm), .int (r), .int (-(10 ^ 25))] : List V)[way]? = some (.int i) := by
      match way, w6 with
      | 0, _ => exact ⟨_, rfl⟩
      | 1, _ => exact ⟨_, rfl⟩
      | 2, _ => exact ⟨_, rfl⟩
      | 3, _ => exact ⟨_, rfl⟩
      | 4, _ => exact ⟨_, rfl⟩
      | 5, _ => exact ⟨_, rfl⟩
    exact ⟨_, rfl, m, _, _, _, rfl, rfl, SqL.of (W4.ex _ _ h_m), atI_nat hi, hQ B1 _ (.int i) _ e1 (W4.mono (by omega)) (.int i) (by simp [dep])⟩

end
end K05
namespace K05
open PySem PySem.Spec PyProof.Rows L2 C8
def words26 : List Str := barred ++ (["a", "zzzzzzzz", "abcdefghi", "ands", "hp2", "Hp", "hp ", " hp", "h\np", "hp\n", "-", "whilex"] : List Str)
theorem words26_eq : (barred.map V.str ++ [V.str (Str.ofString "a"), V.str (Str.ofString "zzzzzzzz"), V.str (Str.ofString "abcdefghi"), V.str (Str.ofString "ands"), V.str (Str.ofString "hp2"), V.str (Str.ofString "Hp"), V.str (Str.ofString "hp "), V.str (Str.ofString " hp"), V.str (Str.ofString "h\np"), V.str (Str.ofString "hp\n"), V.str (Str.ofString "-"), V.str (Str.ofString "whilex")]) = words26.map V.str := by rw [words26, List.map_append]; rfl
theorem words26_short : ∀ z ∈ words26, z.length ≤ 1000 := by decide +kernel
section
variable {P : Program} {w : World} {K : PySem.W.Frag} {mg : Str → Option Value} {base : Heap}
abbrev N_l_words_right : List Str := ["box", "turn", "thing", "odd"]
theorem sc_l_words_right : FnScope N_l_words_right ["box"] (defScope (top 45)) := ⟨rfl, rfl, rfl, by decide +kernel, rfl, by decide +kernel, by decide +kernel⟩
/-- what is a word -/
def spWordsR : Sp := fun vs H Q _ => ∃ (Hb : Hp) (b : Addr) (c : Nat), vs = [.ref b] ∧ Wd Hb H b c ∧ c ≤ 400000 ∧ ∀ H', Wd Hb H' b (c + 300) → Q (.bl true) H'
theorem ok_l_words_right (T : Txt K mg) (C_is_word : Cal P w K mg base 1 "is_word" (spWord K) []) (CK_is_word : CalK P w K mg base 1 "is_word" ["value"] [0] (spWord K)) (C_l_is_word : Cal P w K mg base 2 "_law_is_word" (spWord K) []) (C_l_string : Cal P w K mg base 2 "_law_string" (spStringL) []) (C_l_barred : Cal P w K mg base 1 "_law_barred" spBarred []) (M_Ratio : Mak P w K mg base 2 "Ratio" (He.ga K "Ratio") (spRat K) [.int 1]) : Cal P w K mg base 5 "_law_words_right" (spWordsR) [] := by
  obtain ⟨fd, F⟩ := T.d__law_words_right
  refine ⟨_, fd, ["box"], [], ?_, T.g__law_words_right, F.kp, F.bindsN fun _ _ _ _ _ _ us hl => match us, hl with | [_], _ => rfl, .nil⟩
  refine F.ok sc_l_words_right (fun vs H Q E h => by obtain ⟨_, _, _, rfl, _⟩ := h; rfl) (fun cdv A outer s H vs Q E hr h => ?_)
  have hu := hu_of hr
  refine ⟨_, PSs.nox (pss_cons (ps_for PassesOwn.never rfl (pi_range1 (by rfl) T.f_range (pa_cons pe_int pa_nil)) (pg_name (i := 1) sc_l_words_right.nd rfl (Or.inl rfl)) (pss_cons (ps_set (i := 2) sc_l_words_right.nd rfl (Or.inl rfl) (pe_c C_l_string hr (by omega) rfl (pa_cons (pv 0) pa_nil)))
      (pss_one (ps_if (pt_cmpR op_ne (pe_callB call_reprB (by rfl) T.f_repr (by decide +kernel) (pa_cons (pe_c C_is_word hr (by omega) rfl (pa_cons (pv 2) pa_nil)) pa_nil)) (pe_callB call_reprB (by rfl) T.f_repr (by decide +kernel) (pa_cons (pe_c C_l_is_word hr (by omega) rfl (pa_cons (pv 2) pa_nil)) pa_nil)) (nomark _)) (pss_one (ps_ret pe_bl)) pss_nil))))
      (pss_cons (ps_for PassesOwn.never rfl (pi_list (pe_op op_cat (pe_c0 C_l_barred hr (by omega) rfl) (pe_lst (pa_cons pe_str (pa_cons pe_str (pa_cons pe_str (pa_cons pe_str (pa_cons pe_str (pa_cons pe_str (pa_cons pe_str (pa_cons pe_str (pa_cons pe_str (pa_cons pe_str (pa_cons pe_str (pa_cons pe_str pa_nil))))))))))))))) (pg_name (i := 2) sc_l_words_right.nd rfl (Or.inl rfl)) (pss_one (ps_if (pt_cmpR op_ne (pe_callB call_reprB (by rfl) T.f_repr (by decide +kernel) (pa_cons (pe_cK0 CK_is_word (hr.mono (by decide)) (Nat.le_refl _) rfl  (pk_cons (pv 2) pk_nil)) pa_nil)) (pe_callB call_reprB (by rfl) T.f_repr (by decide +kernel) (pa_cons (pe_c C_l_is_word hr (by omega) rfl (pa_cons (pv 2) pa_nil)) pa_nil)) (nomark _)) (pss_one (ps_ret pe_bl)) pss_nil)))
      (pss_one (ps_ret (pe_cmpR (op_eqNil rfl hr.units) (pe_lc (own := [("odd", 3)]) rfl sc_l_words_right.nd (pi_list (pe_lst (pa_cons pe_non (pa_cons pe_bl (pa_cons pe_int (pa_cons pe_int (pa_cons (pe_lst (pa_cons pe_str pa_nil)) (pa_cons (pe_tup (pa_cons pe_str pa_nil)) (pa_cons (pe_disp (pps_cons pe_str pe_int pps_nil) rfl rfl (by simp) (by decide)) (pa_cons (pe_mk M_Ratio hr (by omega) rfl (pa_cons pe_int pa_nil)) (pa_cons (pe_lst pa_nil) (pa_cons pe_dnewK (pa_cons (pe_lst (pa_cons pe_str (pa_cons pe_str pa_nil))) pa_nil))))))))))))) (blkOk_by (own := [("odd", 3)]) (N := N_l_words_right) (sc := defScope (top 45)) (by decide +kernel)) (fun _ _ _ _ _ => (pg_name (i := 3) sc_l_words_right.nd rfl (Or.inl rfl))) (fun _ _ _ _ _ => (pts_one (pt_cmpR op_notBl (pe_c C_is_word hr (by omega) rfl (pa_cons (pv 3) pa_nil)) pe_bl (nomark _)))) (fun _ _ _ _ _ => (pv 3))) (pe_lst pa_nil) (nomark _)))))), ?_⟩
  obtain ⟨Hb, b, c, rfl, W, hc, hQ⟩ := h
  refine ⟨24, rfl, by decide, by decide, for_range (n := 24) (fun i σ H' => Wd Hb H' b (c + 12 * i) ∧ ∃ x1 x2, σ = [some (.ref b), x1, x2, none]) ⟨W, _, _, rfl⟩ ?_ ?_⟩
  · rintro i σ H1 hi ⟨W1, x1, x2, rfl⟩
    refine ⟨_, rfl, Hb, b, _, rfl, W1, by omega, fun z H2 hz W2 => ?_⟩
    have az : ∀ H, AtK5 K H (.str z) (.str z) := fun H => .str z (by omega)
    refine ⟨_, rfl, _, _, rfl, az _, fun H3 g3 => ⟨_, rfl, _, rfl, _, _, rfl, az _, fun H4 g4 => ⟨_, rfl, rfl, _, rfl, iteFo (by simp) ⟨(W2.grow (g3.trans g4)).mono (by omega), _, _, rfl⟩⟩⟩⟩
  rintro σ H1 ⟨W1, x1, x2, rfl⟩
  refine ⟨rfl, fun lb H2 nb g2 h2 => ⟨(by show 12 ≤ sizeLine; decide), fun m nm => ⟨lb, m, _, _, rfl, rfl, (Evl.Ex.new nm) _ _ h2, upd_same, (by show 26 ≤ sizeLine; decide), fun q nq => ?_⟩⟩⟩
  rw [words26_eq]
  have W2 := (((W1.grow g2).skip (o := .lst [.str "a", .str "zzzzzzzz", .str "abcdefghi", .str "ands", .str "hp2", .str "Hp", .str "hp ", .str " hp", .str "h\np", .str "hp\n", .str "-", .str "whilex"]) nm).new' (o2 := .lst (words26.map V.str)) nq)
  obtain ⟨B, eB, W3, hq⟩ := W2
  refine ⟨q, rfl, ⟨words26.map V.str, SqL.of upd_same⟩, ?_⟩
  refine for_it (walk_list (xs := words26.map V.str)) (fun i σ H' => Wd B H' b (c + 288) ∧ ∃ x1 x2, σ = [some (.ref b), x1, x2, none]) ⟨W3, _, _, rfl⟩ (fun i σ H' _ p => SqL.of (p.1.ex _ _ hq)) ?_ ?_
  · rintro i x σ H3 H3' hi ⟨W4, x1, x2, rfl⟩ ⟨rfl, hx⟩
    rw [List.getElem?_map] at hx
    obtain ⟨z, hz, rfl⟩ := Option.map_eq_some_iff.mp hx
    have zl := words26_short z (List.mem_of_getElem? hz)
    have az : ∀ H, AtK5 K H (.str z) (.str z) := fun H => .str z (by omega)
    refine ⟨_, rfl, rfl, _, _, rfl, az _, fun H3 g3 => ⟨_, rfl, _, rfl, _, _, rfl, az _, fun H4 g4 => ⟨_, rfl, rfl, _, rfl, iteFo (by simp) ⟨(W4.grow (g3.trans g4)), _, _, rfl⟩⟩⟩⟩
  rintro σ H4 ⟨W4, x1, x2, rfl⟩
  have W4 : Wd Hb H4 b (c + 288) := W4.less eB
  refine ⟨(by show 1 ≤ sizeLine; decide), fun l1 n_l1 => ?_⟩
  obtain ⟨B1, e1, W5, h_l1⟩ := W4.new' (o2 := .lst [.str "hp"]) n_l1
  refine ⟨(by show 1 ≤ sizeLine; decide), fun t1 n_t1 => ?_⟩
  obtain ⟨B2, e2, W6, h_t1⟩ := W5.new' (o2 := .tup [.str "hp"]) n_t1
  refine fun d1 n_d1 => ⟨upd_same, [(.inr "hp", .int 1)], rfl, by decide, ?_⟩
  rw [upd_twice]
  obtain ⟨B3, e3, W7, h_d1⟩ := W6.new' (o2 := .dK (mergeK [] [(.inr "hp", .int 1)])) n_d1
  refine fun x dx n_x n_dx dne => ⟨x, dx, 2, rfl, upd_same, ⟨by decide, by decide⟩, fun H8 keep hx => ⟨rfl, ?_⟩⟩
  obtain ⟨B4, e4, W8, h_x⟩ : ∃ B, Ex B3 B ∧ Wd B H8 b (c + 288) ∧ B x = some (.ins (He.ga K "Ratio") dx (wholeF 2)) := ⟨_, Evl.Ex.new (W7.free n_x), W7.made n_x n_dx keep hx, upd_same⟩
  refine ⟨(by show 0 ≤ sizeLine; decide), fun l2 n_l2 => ?_⟩
  obtain ⟨B5, e5, W9, h_l2⟩ := W8.new' (o2 := .lst []) n_l2
  refine fun d2 n_d2 => ?_
  obtain ⟨B6, e6, W10, h_d2⟩ := W9.new' (o2 := .dK []) n_d2
  refine ⟨(by show 2 ≤ sizeLine; decide), fun l3 n_l3 => ?_⟩
  obtain ⟨B7, e7, W11, h_l3⟩ := W10.new' (o2 := .lst [.str "h", .str "p"]) n_l3
  refine ⟨(by show 11 ≤ sizeLine; decide), fun m2 n_m2 => ?_⟩
  obtain ⟨B8, e8, W12, h_m2⟩ := W11.new' (o2 := .lst [.non, .bl true, .int 0, .int 7, .ref l1, .ref t1, .ref d1, .ref x, .ref l2, .ref d2, .ref l3]) n_m2
  have key : AtA (He.ga K "Ratio") B8 [.non, .bl true, .int 0, .int 7, .ref l1, .ref t1, .ref d1, .ref x, .ref l2, .ref d2, .ref l3] [.non, .bl true, .int 0, .int 7, .lst [.str "hp"], .tup [.str "hp"], .dic [("hp", .int 1)], .rat 2, .lst [], .dic [], .lst [.str "h", .str "p"]] :=
    .cons .non (.cons (.bl _) (.cons (.int _) (.cons (.int _)
    (.cons (.lst (e8 _ _ (e7 _ _ (e6 _ _ (e5 _ _ (e4 _ _ (e3 _ _ (e2 _ _ h_l1))))))) (.cons (.str _ (by decide)) .nil))
    (.cons (.tup (.inl (e8 _ _ (e7 _ _ (e6 _ _ (e5 _ _ (e4 _ _ (e3 _ _ h_t1))))))) (.cons (.str _ (by decide)) .nil))
    (.cons (.dic (e8 _ _ (e7 _ _ (e6 _ _ (e5 _ _ (e4 _ _ h_d1))))) (.cons (by decide) (.int 1) .nil))
    (.cons (.rat (e8 _ _ (e7 _ _ (e6 _ _ (e5 _ _ h_x)))))
    (.cons (.lst (e8 _ _ (e7 _ _ (e6 _ _ h_l2))) .nil)
    (.cons (.dic (e8 _ _ (e7 _ _ h_d2)) .nil)
    (.cons (.lst (e8 _ _ h_l3) (.cons (.str _ (by decide)) (.cons (.str _ (by decide)) .nil))) .nil))))))))))
  have bad : ∀ d ∈ ([.non, .bl true, .int 0, .int 7, .lst [.str "hp"], .tup [.str "hp"], .dic [("hp", .int 1)], .rat 2, .lst [], .dic [], .lst [.str "h", .str "p"]] : List Th), wordB d = false := by
    intro d hd
    simp only [List.mem_cons, List.not_mem_nil, or_false] at hd
    rcases hd with rfl | rfl | rfl | rfl | rfl | rfl | rfl | rfl | rfl | rfl | rfl <;> rfl
  generalize hds : ([.non, .bl true, .int 0, .int 7, .lst [.str "hp"], .tup [.str "hp"], .dic [("hp", .int 1)], .rat 2, .lst [], .dic [], .lst [.str "h", .str "p"]] : List Th) = ds at key bad
  refine ⟨m2, rfl, ⟨_, SqL.of upd_same⟩, fun D hD => ?_⟩
  have bD := W12.free hD
  have nD := W12.ne hD
  refine lc_it (walk_list (xs := [.non, .bl true, .int 0, .int 7, .ref l1, .ref t1, .ref d1, .ref x, .ref l2, .ref d2, .ref l3])) (fun i H' => Wd B8 H' b (c + 288) ∧ H' D = some (.lst [])) ⟨W12.skip hD, upd_same⟩ (fun i H' _ p => SqL.of (p.1.ex _ _ h_m2)) ?_ ?_
  · rintro i y H5 H5' hi ⟨W13, hD5⟩ ⟨rfl, hy⟩
    obtain ⟨d, hd, ay⟩ := key.get hy
    refine ⟨rfl, ?_⟩
    refine ⟨_, rfl, y, d, rfl, ay.up W13.ex, fun H6 g6 => ⟨_, _, rfl, rfl, _, rfl, ?_⟩⟩
    rw [bad d (List.mem_of_getElem? hd)]
    exact iteFo rfl ⟨W13.grow g6, g6 _ _ hD5⟩
  rintro H5 ⟨W13, hD5⟩
  refine ⟨(by show 0 ≤ sizeLine; decide), fun m3 n_m3 => ?_⟩
  have gm := Evl.Ex.new (o := .lst []) n_m3
  refine ⟨D, m3, [], rfl, rfl, SqL.of (gm _ _ hD5), SqL.of upd_same, ?_⟩
  exact hQ _ (((W13.grow gm).less (e1.trans (e2.trans (e3.trans (e4.trans (e5.trans (e6.trans (e7.trans e8)))))))).mono (by omega))

end
end K05
set_option Elab.async false
set_option linter.all false
set_option maxRecDepth 100000
set_option maxHeartbeats 1000000
/-! HxU: plain things as data for == -/
namespace L2
open PySem PySem.Spec PyProof.Rows
mutual
def Th.toP : Th → PyData
  | .bl b => .bool b
  | .int i => .int i
  | .str x => .str x
  | .lst l => .list (toPA l)
  | .tup l => .tuple (toPA l)
  | _ => .none
def toPA : List Th → List PyData
  | [] => []
  | d :: l => d.toP :: toPA l
end
mutual
/-- no ratios, no dicts -/
def Th.pl : Th → Bool
  | .lst l => plA l
  | .tup l => plA l
  | .rat _ => false
  | .dic _ => false
  | _ => true
def plA : List Th → Bool
  | [] => true
  | d :: l => d.pl && plA l
end
mutual
theorem At.dp {R : Addr} {K : PySem.W.Frag} {H : Hp} : ∀ (d : Th) (v : V), d.pl = true → At R H v d → Dp K H v d.toP
  | .non, _, _, h => by cases h; exact .non
  | .bl b, _, _, h => by cases h; exact .bl b
  | .int i, _, _, h => by cases h; exact .int i
  | .str x, _, _, h => by cases h; exact .str x
  | .rat i, _, p, _ => nomatch p
  | .dic i, _, p, _ => nomatch p
  | .lst ds, _, p, h => by
    cases h with
    | lst h h2 => exact .lst (SqL.of h) (AtA.dp ds _ p h2)
  | .tup ds, _, p, h => by
    cases h with
    | tup h h2 => exact .tup (.inl h) (AtA.dp ds _ p h2)
theorem AtA.dp {R : Addr} {K : PySem.W.Frag} {H : Hp} : ∀ (ds : List Th) (vs : List V), plA ds = true → AtA R H vs ds → DpAll K H vs (toPA ds)
  | [], _, _, h => by cases h; exact .nil
  | d :: ds, _, p, h => by
    have p : (d.pl && plA ds) = true := p
    rw [Bool.and_eq_true] at p
    cases h with
    | cons h1 h2 => exact .cons (At.dp d _ p.1 h1) (AtA.dp ds _ p.2 h2)
end
theorem AtA.rev {R : Addr} {H : Hp} : ∀ {vs : List V} {ds : List Th}, AtA R H vs ds → AtA R H vs.reverse ds.reverse
  | _, _, .nil => .nil
  | _, _, .cons h t => by
    rw [List.reverse_cons, List.reverse_cons]
    exact (AtA.rev t).app (.cons h .nil)
end L2
set_option Elab.async false
set_option linter.all false
set_option maxRecDepth 100000
set_option maxHeartbeats 400000
namespace K05
open PySem PySem.Spec PyProof.Rows L2 C8
theorem depA_rev {n : Nat} : ∀ {l : List Th}, depA l ≤ n → depA l.reverse ≤ n
  | [], h => h
  | d :: l, h => by
    rw [List.reverse_cons]
    simp only [depA] at h
    exact depA_app (depA_rev (by omega)) (by simp only [depA]; omega)
/-- a list or a frozen tuple of things -/
def Seq2 (K : PySem.W.Frag) (B : Hp) (v : V) (d : Th) : Prop := ∃ q xs ds, v = .ref q ∧ AtA (He.ga K "Ratio") B xs ds ∧ depA ds + ds.length ≤ 17 ∧ ((d = .lst ds ∧ B q = some (.lst xs)) ∨ (d = .tup ds ∧ ∃ o : Obj, o.dict = none ∧ B q = some (.frz o (.tup xs))))
theorem Seq2.at {K : PySem.W.Frag} {B : Hp} {v : V} {d : Th} (h : Seq2 K B v d) : AtK5 K B v d ∧ FrzT B v d ∧ dep d ≤ 18 := by
  obtain ⟨q, xs, ds, rfl, h1, h2, ⟨rfl, h3⟩ | ⟨rfl, o, h3, h4⟩⟩ := h
  · exact ⟨.lst h3 h1, trivial, by simp only [dep]; omega⟩
  · exact ⟨.tup (.inr ⟨_, h4⟩) h1, ⟨q, o, xs, rfl, h4, h3⟩, by simp only [dep]; omega⟩
theorem namesB_ok {d : Th} {ns : NS} (h : d = .lst (ns.map nsTh) ∨ d = .tup (ns.map nsTh)) (hok : NsOk ns) : namesB d = true := by
  have key : namesL (ns.map nsTh) = true := by
    have hl := hok.len
    unfold namesL nsB
    rw [map_un, decide_eq_true (by rw [List.length_map]; exact hl.1), decide_eq_true (by rw [List.length_map]; exact hl.2), decide_eq_true hok.nd, decide_eq_true (menu_facts _ hok.sz).2.1]
    have h : (ns.map nsTh).all pairB = true := by
      rw [List.all_eq_true]
      intro d hd
      obtain ⟨n, hn, rfl⟩ := List.mem_map.mp hd
      have sz := hok.size hn
      have wd := hok.wd _ (List.mem_map_of_mem hn)
      show (wordS n.1 && (decide (2 ≤ (n.2 : Int)) && decide ((n.2 : Int) ≤ 6))) = true
      rw [decide_eq_true (by omega), decide_eq_true (by omega)]
      unfold wordS
      rw [decide_eq_true wd.lo, decide_eq_true wd.hi, wd.bar]
      have lw : lowB n.1 = true := by
        unfold lowB
        rw [List.all_eq_true]
        intro c hc
        have := wd.low c hc
        rw [decide_eq_true_eq, alpha_list]
        exact List.mem_map.mpr ⟨c - 97, List.mem_range.mpr (by omega), by omega⟩
      rw [lw]
      rfl
    rw [h]
    rfl
  rcases h with rfl | rfl <;> exact key
theorem not_33 (z : Str) : namesB (.lst [.tup [.str z, .int 3], .tup [.str "zzx", .int 3]]) = false := by
  cases h : namesB (.lst [.tup [.str z, .int 3], .tup [.str "zzx", .int 3]]) with
  | false => rfl
  | true =>
    obtain ⟨ns, e, hok⟩ := namesL_ok h
    have e2 : ([(z, 3), (Str.ofString "zzx", 3)] : NS) = ns := by
      have := congrArg (List.map unTh) e
      rw [map_un] at this
      exact this
    have := (menu_facts _ hok.sz).2.1
    rw [← e2] at this
    exact absurd this (show ¬ (3 * (3 * 1) ≤ 8) by decide)
theorem eq3 : PyData.eqv (Th.lst [.str "told", .tup [.tup [.str "b", .int 2], .tup [.str "c", .int 2], .tup [.str "d", .int 2]]]).toP (Th.lst [.str "told", .tup [.tup [.str "b", .int 2], .tup [.str "c", .int 2], .tup [.str "d", .int 2]]]).toP = true := by decide +kernel
theorem FrzT.up {H H' : Hp} {v : V} {d : Th} (h : FrzT H v d) (e : Ex H H') : FrzT H' v d := by
  cases d with
  | tup l =>
    obtain ⟨a, o, xs, h1, h2, h3⟩ := h
    exact ⟨a, o, xs, h1, e _ _ h2, h3⟩
  | _ => trivial
section
variable {P : Program} {w : World} {K : PySem.W.Frag} {mg : Str → Option Value} {base : Heap}
abbrev N_l_names_right : List Str := ["box", "names", "turn", "way", "thing", "due", "handed", "told", "odd", "four"]
theorem sc_l_names_right : FnScope N_l_names_right ["box", "names"] (defScope (top 46)) := ⟨rfl, rfl, rfl, by decide +kernel, rfl, by decide +kernel, by decide +kernel⟩
/-- spaces of names, good and spoiled -/
def spNamesR : Sp := fun vs H Q _ => ∃ (Hb : Hp) (b : Addr) (c : Nat) (l : Addr) (ns : NS), vs = [.ref b, .ref l] ∧ Wd Hb H b c ∧ c ≤ 200000 ∧ NamesAt Hb l ns ∧ NsOk ns ∧ ∀ H', Wd Hb H' b (c + 900) → Q (.bl true) H'
theorem ok_l_names_right (T : Txt K mg) (C_l_take : Cal P w K mg base 1 "_law_take" spTake []) (C_l_spoiled : Cal P w K mg base 5 "_law_spoiled" (spSpoiled K) []) (C_l_are_names : Cal P w K mg base 4 "_law_are_names" (spNames K) []) (C_l_copy : Cal P w K mg base 41 "_law_copy" (spCopy K 40) []) (C_l_met : Cal P w K mg base 8 "_law_met" (spMet K) []) (C_l_same : Cal P w K mg base 44 "_law_same" (spSame K 40) []) (C_l_odd : Cal P w K mg base 4 "_law_odd" (spOddT K) []) : Cal P w K mg base 45 "_law_names_right" (spNamesR) [] := by
  obtain ⟨fd, F⟩ := T.d__law_names_right
  refine ⟨_, fd, ["box", "names"], [], ?_, T.g__law_names_right, F.kp, F.bindsN fun _ _ _ _ _ _ us hl => match us, hl with | [_, _], _ => rfl, .nil⟩
  refine F.ok sc_l_names_right (fun vs H Q E h => by obtain ⟨_, _, _, _, _, rfl, _⟩ := h; rfl) (fun cdv A outer s H vs Q E hr h => ?_)
  have hu := hu_of hr
  refine ⟨_, PSs.nox (pss_cut (ps_for PassesOwn.never rfl (pi_range1 (by rfl) T.f_range (pa_cons pe_int pa_nil)) (pg_name (i := 2) sc_l_names_right.nd rfl (Or.inl rfl)) (pss_cons (ps_set (i := 3) sc_l_names_right.nd rfl (Or.inl rfl) (pe_c C_l_take hr (by omega) rfl (pa_cons (pv 0) (pa_cons pe_int pa_nil))))
      (pss_cut (ps_set (i := 4) sc_l_names_right.nd rfl (Or.inl rfl) (pe_ifExp (pt_cmpR op_lt (pv 3) pe_int (nomark _)) (pe_revL (pv 1)) (pe_c C_l_spoiled hr (by omega) rfl (pa_cons (pv 0) (pa_cons (pv 1) pa_nil)))))
      (pss_cut (ps_if (pt_cmpR op_eq (pv 3) pe_int (nomark _)) (pss_one (ps_set (i := 4) sc_l_names_right.nd rfl (Or.inl rfl) (pe_op op_cat (pv 4) (pe_lst (pa_cons (pe_tup (pa_cons pe_str (pa_cons pe_int pa_nil))) pa_nil))))) pss_nil)
      (pss_cut (ps_if (pt_cmpR op_eq (pe_c C_l_take hr (by omega) rfl (pa_cons (pv 0) (pa_cons pe_int pa_nil))) pe_int (nomark _)) (pss_one (ps_set (i := 4) sc_l_names_right.nd rfl (Or.inl rfl) (pe_callTy call_tupF (by rfl) T.f_tuple (by decide +kernel) (pa_cons (pv 4) pa_nil)))) pss_nil)
      (pss_cons (ps_par (i := 5) (j := 6) (by rfl) sc_l_names_right.nd rfl rfl (by decide) rfl rfl (pa_cons (pe_ifExp (pt_val (pe_c C_l_are_names hr (by omega) rfl (pa_cons (pv 4) pa_nil))) (pe_lst (pa_cons pe_str (pa_cons (pe_callTy call_tupF (by rfl) T.f_tuple (by decide +kernel) (pa_cons (pv 4) pa_nil)) pa_nil))) (pe_lst (pa_cons pe_str (pa_cons (pv 4) pa_nil)))) (pa_cons (pe_c C_l_copy hr (by omega) rfl (pa_cons (pv 4) pa_nil)) pa_nil)) (by rfl))
      (pss_cons (ps_set (i := 7) sc_l_names_right.nd rfl (Or.inl rfl) (pe_c C_l_met hr (by omega) rfl (pa_cons (pe_lst (pa_cons pe_str (pa_cons (pv 6) pa_nil))) pa_nil)))
      (pss_cons (ps_if (pt_not (pt_val (pe_c C_l_same hr (by omega) rfl (pa_cons (pv 7) (pa_cons (pv 5) pa_nil))))) (pss_one (ps_ret pe_bl)) pss_nil)
      (pss_one (ps_if (PW.pt (pw_and (pt_cmpR op_eq (pe_ix ix_list (pv 5) pe_int (fun _ _ => rfl)) pe_str (nomark _)) (pw_and1 (pt_val (pe_callB call_isi (by rfl) T.f_isinstance (by decide +kernel) (pa_cons (pv 6) (pa_cons (pe_bltn (v := .ty "list") (u := .type "list") (by rfl) T.f_list (by decide +kernel) rfl) pa_nil))))))) (pss_cons (ps_expr (pe_bm PySem.F.plainAttrs_list PySem.F.slot_list_append PySem.F.type_list_append mt_append (pv 6) (pa_cons pe_str pa_nil)))
      (pss_one (ps_if (pt_not (pt_val (pe_c C_l_same hr (by omega) rfl (pa_cons (pe_ix ix_list (pv 7) pe_int (fun _ _ => rfl)) (pa_cons (pv 6) pa_nil))))) (pss_one (ps_ret pe_bl)) pss_nil))) pss_nil))))))))))
      (pss_cut (ps_for PassesOwn.never rfl (pi_list (pe_lst (pa_cons (pe_c C_l_odd hr (by omega) rfl (pa_cons (pv 0) pa_nil)) (pa_cons (pe_lst pa_nil) (pa_cons (pe_tup pa_nil) (pa_cons pe_dnewK (pa_cons pe_non (pa_cons pe_int (pa_cons pe_str (pa_cons (pe_tup (pa_cons pe_str (pa_cons pe_int pa_nil))) (pa_cons (pe_disp (pps_cons pe_str pe_int pps_nil) rfl rfl (by simp) (by decide)) (pa_cons (pe_op op_rep (pe_lst (pa_cons (pe_tup (pa_cons pe_str (pa_cons pe_int pa_nil))) pa_nil)) pe_int) (pa_cons (pe_lst (pa_cons (pe_tup (pa_cons pe_str (pa_cons pe_int pa_nil))) (pa_cons (pe_tup (pa_cons pe_str (pa_cons pe_int pa_nil))) (pa_cons (pe_tup (pa_cons pe_str (pa_cons pe_int pa_nil))) pa_nil)))) (pa_cons (pe_op op_rep (pe_lst (pa_cons (pe_tup (pa_cons pe_str (pa_cons pe_int pa_nil))) pa_nil)) pe_int) pa_nil)))))))))))))) (pg_name (i := 8) sc_l_names_right.nd rfl (Or.inl rfl)) (pss_one (ps_if (pt_not (pt_val (pe_c C_l_same hr (by omega) rfl (pa_cons (pe_c C_l_met hr (by omega) rfl (pa_cons (pe_lst (pa_cons pe_str (pa_cons (pe_c C_l_copy hr (by omega) rfl (pa_cons (pv 8) pa_nil)) pa_nil))) pa_nil)) (pa_cons (pe_lst (pa_cons pe_str (pa_cons (pv 8) pa_nil))) pa_nil))))) (pss_one (ps_ret pe_bl)) pss_nil)))
      (pss_cut (ps_for PassesOwn.never rfl (pi_list (pe_lst (pa_cons (pe_lst (pa_cons (pe_tup (pa_cons pe_str (pa_cons pe_int pa_nil))) (pa_cons (pe_tup (pa_cons pe_str (pa_cons pe_int pa_nil))) pa_nil))) (pa_cons (pe_lst (pa_cons (pe_tup (pa_cons pe_str (pa_cons pe_int pa_nil))) (pa_cons (pe_tup (pa_cons pe_str (pa_cons pe_int pa_nil))) pa_nil))) (pa_cons (pe_tup (pa_cons (pe_tup (pa_cons pe_str (pa_cons pe_int pa_nil))) (pa_cons (pe_tup (pa_cons pe_str (pa_cons pe_int pa_nil))) pa_nil))) (pa_cons (pe_lst (pa_cons (pe_tup (pa_cons (pe_ix ix_tup (pe_ix ix_list (pv 1) pe_int (fun _ _ => rfl)) pe_int (fun _ _ => rfl)) (pa_cons pe_int pa_nil))) (pa_cons (pe_tup (pa_cons pe_str (pa_cons pe_int pa_nil))) pa_nil))) pa_nil)))))) (pg_name (i := 8) sc_l_names_right.nd rfl (Or.inl rfl)) (pss_one (ps_if (pt_not (pt_val (pe_c C_l_same hr (by omega) rfl (pa_cons (pe_c C_l_met hr (by omega) rfl (pa_cons (pe_lst (pa_cons pe_str (pa_cons (pe_c C_l_copy hr (by omega) rfl (pa_cons (pv 8) pa_nil)) pa_nil))) pa_nil)) (pa_cons (pe_lst (pa_cons pe_str (pa_cons (pv 8) pa_nil))) pa_nil))))) (pss_one (ps_ret pe_bl)) pss_nil)))
      (pss_cons (ps_set (i := 9) sc_l_names_right.nd rfl (Or.inl rfl) (pe_lst (pa_cons (pe_tup (pa_cons pe_str (pa_cons pe_int pa_nil))) (pa_cons (pe_tup (pa_cons pe_str (pa_cons pe_int pa_nil))) (pa_cons (pe_tup (pa_cons pe_str (pa_cons pe_int pa_nil))) (pa_cons (pe_tup (pa_cons pe_str (pa_cons pe_int pa_nil))) pa_nil))))))
      (pss_one (ps_ret (pe_and (pe_cmpR (op_eqD hr.units) (pe_c C_l_met hr (by omega) rfl (pa_cons (pe_lst (pa_cons pe_str (pa_cons (pv 9) pa_nil))) pa_nil)) (pe_lst (pa_cons pe_str (pa_cons (pv 9) pa_nil))) (nomark _)) (pe_one (pe_cmpR (op_eqD hr.units) (pe_c C_l_met hr (by omega) rfl (pa_cons (pe_lst (pa_cons pe_str (pa_cons (pe_slice sl_list (pv 9) (po_some pe_int) po_none) pa_nil))) pa_nil)) (pe_lst (pa_cons pe_str (pa_cons (pe_callTy call_tupF (by rfl) T.f_tuple (by decide +kernel) (pa_cons (pe_slice sl_list (pv 9) (po_some pe_int) po_none) pa_nil)) pa_nil))) (nomark _)))))))))), ?_⟩
  obtain ⟨Hb, b, c, l, ns, rfl, W, hc, ⟨ps, hl, hT⟩, hok, hQ⟩ := h
  have hlen := hT.length
  have hn1 := hok.len
  have lim : 1000 < sizeLine := by decide
  refine ⟨fun σ H' => Wd Hb H' b (c + 800) ∧ ∃ x2 x3 x4 x5 x6 x7 x8 x9, σ = [some (.ref b), some (.ref l), x2, x3, x4, x5, x6, x7, x8, x9], ?_, ?_⟩
  · refine ⟨16, rfl, by decide, by decide, for_range (n := 16) (fun i σ H' => Wd Hb H' b (c + 50 * i) ∧ ∃ x2 x3 x4 x5 x6 x7 x8 x9, σ = [some (.ref b), some (.ref l), x2, x3, x4, x5, x6, x7, x8, x9]) ⟨W, _, _, _, _, _, _, _, _, rfl⟩ ?_ (fun σ H' p => p)⟩
    rintro i σ H1 hi ⟨W1, x2, x3, x4, x5, x6, x7, x8, x9, rfl⟩
    refine ⟨_, rfl, Hb, b, _, 6, rfl, W1, by omega, by decide, by decide, fun way H2 w0 w1 W2 => ?_⟩
    refine ⟨fun σ H' => ∃ B q xs ds, Ex Hb B ∧ Wd B H' b (c + 50 * i + 42) ∧ B q = some (.lst xs) ∧ AtA (He.ga K "Ratio") B xs ds ∧ ds.length ≤ 5 ∧ depA ds ≤ 10 ∧ ∃ x2 x5 x6 x7 x8 x9, σ = [some (.ref b), some (.ref l), x2, some (.int way), some (.ref q), x5, x6, x7, x8, x9], ?_, ?_⟩
    · refine ⟨_, rfl, _, _, rfl, rfl, _, rfl, ?_⟩
      by_cases c2 : way < 2
      · refine iteTo (decide_eq_true c2) ?_
        refine ⟨_, rfl, l, _, rfl, SqL.of (W2.ex _ _ hl), fun q n_q => ?_⟩
        obtain ⟨B, e1, W3, h_q⟩ := W2.new' (o2 := .lst (ps.map V.ref).reverse) n_q
        have NN : AtA (He.ga K "Ratio") B (ps.map V.ref) (ns.map nsTh) := names_at (fun n hn => Nat.le_trans (hok.wd _ (List.mem_map_of_mem hn)).hi (by omega)) (hT.up e1)
        have dN := dep_ns ns
        exact ⟨B, q, _, _, e1, W3.mono (by omega), h_q, NN.rev, by rw [List.length_reverse, List.length_map]; omega, depA_rev (by omega), _, _, _, _, _, _, rfl⟩
      · refine iteFo (decide_eq_false c2) ?_
        refine ⟨_, rfl, _, rfl, Hb, b, _, l, ns, rfl, W2, by omega, ⟨ps, hl, hT⟩, hok, fun B q xs ds H3 e1 W3 h_q hA l5 dd => ?_⟩
        exact ⟨B, q, xs, ds, e1, W3.mono (by omega), h_q, hA, l5, dd, _, _, _, _, _, _, rfl⟩
    clear W1 W2
    rintro σ H3 ⟨B, q, xs, ds, e1, W3, h_q, hA, l5, dd, x2, x5, x6, x7, x8, x9, rfl⟩
    refine ⟨fun σ H' => ∃ B q xs ds, Ex Hb B ∧ Wd B H' b (c + 50 * i + 42) ∧ B q = some (.lst xs) ∧ AtA (He.ga K "Ratio") B xs ds ∧ ds.length ≤ 6 ∧ depA ds ≤ 10 ∧ ∃ x2 x5 x6 x7 x8 x9, σ = [some (.ref b), some (.ref l), x2, some (.int way), some (.ref q), x5, x6, x7, x8, x9], ?_, ?_⟩
    · refine ⟨_, rfl, rfl, _, rfl, ?_⟩
      by_cases c5 : way = 5
      · refine iteTo (decide_eq_true (by rw [c5])) ?_
        refine ⟨_, rfl, (by show 2 ≤ sizeLine; decide), fun t n_t => ?_⟩
        obtain ⟨B1, e_t, W4, h_t⟩ := W3.new' (o2 := .tup [.str "zzx", .int 2]) n_t
        refine ⟨(by show 1 ≤ sizeLine; decide), fun q1 n_q1 => ?_⟩
        obtain ⟨B2, e_q1, W5, h_q1⟩ := W4.new' (o2 := .lst [.ref t]) n_q1
        have la := hA.len
        refine ⟨q, q1, _, _, rfl, rfl, W5.ex _ _ (e_q1 _ _ (e_t _ _ h_q)), W5.ex _ _ h_q1, by show xs.length + 1 ≤ sizeLine; omega, fun q2 n_q2 => ?_⟩
        obtain ⟨B3, e_q2, W6, h_q2⟩ := W5.new' (o2 := .lst (xs ++ [.ref t])) n_q2
        have e3 := e_t.trans (e_q1.trans e_q2)
        exact ⟨B3, q2, _, _, e1.trans e3, W6, h_q2, (hA.up e3).app (.cons (.tup (.inl (e_q2 _ _ (e_q1 _ _ h_t))) (.cons (.str "zzx" (by decide)) (.cons (.int 2) .nil))) .nil), by rw [List.length_append]; show _ + 1 ≤ 6; omega, depA_app dd (by simp [depA, dep]), _, _, _, _, _, _, rfl⟩
      · exact iteFo (decide_eq_false fun z => c5 (V.int.inj z)) ⟨B, q, xs, ds, e1, W3, h_q, hA, by omega, dd, _, _, _, _, _, _, rfl⟩
    clear W3 e1 h_q hA l5 dd B q xs ds
    rintro σ H3 ⟨B, q, xs, ds, e1, W3, h_q, hA, l6, dd, x2, x5, x6, x7, x8, x9, rfl⟩
    refine ⟨fun σ H' => ∃ B v d, Ex Hb B ∧ Wd B H' b (c + 50 * i + 43) ∧ Seq2 K B v d ∧ ∃ x2 x5 x6 x7 x8 x9, σ = [some (.ref b), some (.ref l), x2, some (.int way), some v, x5, x6, x7, x8, x9], ?_, ?_⟩
    · refine ⟨_, rfl, B, b, _, 4, rfl, W3, by omega, by decide, by decide, fun r H4 r0 r1 W4 => ⟨rfl, _, rfl, ?_⟩⟩
      by_cases c0 : r = 0
      · refine iteTo (decide_eq_true (by rw [c0])) ?_
        refine ⟨_, rfl, q, xs, rfl, .inl ⟨SqL.of (W4.ex _ _ h_q), fun t o n_t ho => ?_⟩⟩
        obtain ⟨B1, e_t, W5, h_t⟩ := W4.new' (o2 := .frz o (.tup xs)) n_t
        exact ⟨B1, .ref t, .tup ds, e1.trans e_t, W5, ⟨t, xs, ds, rfl, hA.up e_t, by omega, .inr ⟨rfl, o, ho, h_t⟩⟩, _, _, _, _, _, _, rfl⟩
      · exact iteFo (decide_eq_false fun z => c0 (V.int.inj z)) ⟨B, .ref q, .lst ds, e1, W4, ⟨q, xs, ds, rfl, hA, by omega, .inl ⟨rfl, h_q⟩⟩, _, _, _, _, _, _, rfl⟩
    clear W3 e1 h_q hA l6 dd B q xs ds
    rintro σ H3 ⟨B, v, d, e1, W3, hS, x2, x5, x6, x7, x8, x9, rfl⟩
    obtain ⟨hd, hF, hdep⟩ := hS.at
    refine ⟨_, rfl, v, d, rfl, hd.up W3.ex, fun H4 g4 => ⟨_, rfl, ?_⟩⟩
    have W4 := W3.grow g4
    have fz : ∀ v' Hx, (d.kd ≠ .lst → v' = v) → Ex B Hx → FrzT Hx v' d := fun v' Hx h e => by
      cases d with
      | tup l => rw [h (by simp [Th.kd])]; exact hF.up e
      | _ => trivial
    cases hnb : namesB d with
    | true =>
      refine iteTo rfl ?_
      obtain ⟨q, xs, ds, rfl, hA, hl9, hcase⟩ := id hS
      rcases hcase with ⟨rfl, hq⟩ | ⟨rfl, o, ho, hq⟩
      · refine ⟨_, rfl, q, xs, rfl, .inl ⟨SqL.of (W4.ex _ _ hq), fun t o n_t ho => ?_⟩⟩
        obtain ⟨B1, e_t, W5, h_t⟩ := W4.new' (o2 := .frz o (.tup xs)) n_t
        have aT : AtK5 K B1 (.ref t) (.tup ds) := .tup (.inr ⟨_, h_t⟩) (hA.up e_t)
        refine ⟨(by show 2 ≤ sizeLine; decide), fun m n_m => ?_⟩
        obtain ⟨B2, e_m, W6, h_m⟩ := W5.new' (o2 := .lst [.str "told", .ref t]) n_m
        have eB : Ex B B2 := e_t.trans e_m
        refine ⟨_, rfl, B2, _, _, rfl, W6.ex, hd.up eB, by omega, by decide, fun Hb' v' H7 kn av' hsame hnew => ?_⟩
        refine ⟨_, _, rfl, ?_⟩
        refine ⟨_, rfl, (by show 2 ≤ sizeLine; decide), fun l6 n_l6 => ?_⟩
        have g8 := Evl.Ex.new (o := .lst [.str "space", v']) n_l6
        refine ⟨l6, rfl, .inl ⟨v', _, upd_same, (av'.up kn.bh).up g8, fun _ => fz _ _ hsame (eB.trans (kn.kb.trans (kn.bh.trans g8))), fun ns3 hd3 hok3 m2 H9 u e9 h_m2 au => ?_, fun z => absurd (hnb.symm.trans z) (by decide)⟩⟩
        have hds : ds = ns3.map nsTh := by rcases hd3 with z | z <;> cases z <;> rfl
        have e69 : Ex B2 H9 := kn.kb.trans (kn.bh.trans (g8.trans e9))
        rw [← hds] at au
        have dd : dep (.lst [.str "told", .tup ds]) < 40 := by simp only [dep, depA, List.length_cons, List.length_nil]; omega
        refine ⟨_, rfl, _, rfl, .ref m2, .ref m, .lst [.str "told", .tup ds], rfl, .lst h_m2 (.cons (.str _ (by decide)) (.cons au .nil)), .lst (e69 _ _ h_m) (.cons (.str _ (by decide)) (.cons (aT.up (e_m.trans e69)) .nil)), dd, by decide, fun H10 g10 => ⟨_, rfl, iteFo rfl ?_⟩⟩
        refine ⟨_, rfl, m, _, 0, .str "told", rfl, rfl, SqL.of (g10 _ _ (e69 _ _ h_m)), rfl, rfl, _, rfl, iteFo (nestr (by decide)) ?_⟩
        exact ⟨((W6.grow (kn.hh.trans (g8.trans (e9.trans g10)))).less (e1.trans eB)).mono (by omega), _, _, _, _, _, _, _, _, rfl⟩
      · refine ⟨_, rfl, q, xs, rfl, .inr ⟨.inl (.inr ⟨_, W4.ex _ _ hq⟩), ?_⟩⟩
        obtain ⟨B1, e_t, W5⟩ : ∃ B1, Ex B B1 ∧ Wd B1 H4 b (c + 50 * i + 43) := ⟨B, Evl.Ex.refl _, W4⟩
        have aT : AtK5 K B1 (.ref q) (.tup ds) := hd.up e_t
        refine ⟨(by show 2 ≤ sizeLine; decide), fun m n_m => ?_⟩
        obtain ⟨B2, e_m, W6, h_m⟩ := W5.new' (o2 := .lst [.str "told", .ref q]) n_m
        have eB : Ex B B2 := e_t.trans e_m
        refine ⟨_, rfl, B2, _, _, rfl, W6.ex, hd.up eB, by omega, by decide, fun Hb' v' H7 kn av' hsame hnew => ?_⟩
        refine ⟨_, _, rfl, ?_⟩
        refine ⟨_, rfl, (by show 2 ≤ sizeLine; decide), fun l6 n_l6 => ?_⟩
        have g8 := Evl.Ex.new (o := .lst [.str "space", v']) n_l6
        refine ⟨l6, rfl, .inl ⟨v', _, upd_same, (av'.up kn.bh).up g8, fun _ => fz _ _ hsame (eB.trans (kn.kb.trans (kn.bh.trans g8))), fun ns3 hd3 hok3 m2 H9 u e9 h_m2 au => ?_, fun z => absurd (hnb.symm.trans z) (by decide)⟩⟩
        have hds : ds = ns3.map nsTh := by rcases hd3 with z | z <;> cases z <;> rfl
        have e69 : Ex B2 H9 := kn.kb.trans (kn.bh.trans (g8.trans e9))
        rw [← hds] at au
        have dd : dep (.lst [.str "told", .tup ds]) < 40 := by simp only [dep, depA, List.length_cons, List.length_nil]; omega
        refine ⟨_, rfl, _, rfl, .ref m2, .ref m, .lst [.str "told", .tup ds], rfl, .lst h_m2 (.cons (.str _ (by decide)) (.cons au .nil)), .lst (e69 _ _ h_m) (.cons (.str _ (by decide)) (.cons (aT.up (e_m.trans e69)) .nil)), dd, by decide, fun H10 g10 => ⟨_, rfl, iteFo rfl ?_⟩⟩
        refine ⟨_, rfl, m, _, 0, .str "told", rfl, rfl, SqL.of (g10 _ _ (e69 _ _ h_m)), rfl, rfl, _, rfl, iteFo (nestr (by decide)) ?_⟩
        exact ⟨((W6.grow (kn.hh.trans (g8.trans (e9.trans g10)))).less (e1.trans eB)).mono (by omega), _, _, _, _, _, _, _, _, rfl⟩
    | false =>
      refine iteFo rfl ?_
      refine ⟨_, rfl, (by show 2 ≤ sizeLine; decide), fun m n_m => ?_⟩
      obtain ⟨B2, eB, W6, h_m⟩ := W4.new' (o2 := .lst [.str "names", v]) n_m
      refine ⟨_, rfl, B2, v, d, rfl, W6.ex, hd.up eB, by omega, by decide, fun Hb' v' H7 kn av' hsame hnew => ?_⟩
      refine ⟨_, _, rfl, ?_⟩
      refine ⟨_, rfl, (by show 2 ≤ sizeLine; decide), fun l6 n_l6 => ?_⟩
      have g8 := Evl.Ex.new (o := .lst [.str "space", v']) n_l6
      refine ⟨l6, rfl, .inl ⟨v', d, upd_same, (av'.up kn.bh).up g8, fun z => absurd (hnb.symm.trans z) (by decide), fun ns3 hd3 hok3 => absurd (hnb.symm.trans (namesB_ok hd3 hok3)) (by decide), fun _ m2 H9 e9 h_m2 => ?_⟩⟩
      have e69 : Ex B2 H9 := kn.kb.trans (kn.bh.trans (g8.trans e9))
      have dd : dep (.lst [.str "names", d]) < 40 := by simp only [dep, depA, List.length_cons, List.length_nil]; omega
      have a9 := (av'.up kn.bh).up (g8.trans e9)
      refine ⟨_, rfl, _, rfl, .ref m2, .ref m, .lst [.str "names", d], rfl, .lst h_m2 (.cons (.str _ (by decide)) (.cons a9 .nil)), .lst (e69 _ _ h_m) (.cons (.str _ (by decide)) (.cons (hd.up (eB.trans e69)) .nil)), dd, by decide, fun H10 g10 => ⟨_, rfl, iteFo rfl ?_⟩⟩
      have a10 := a9.up g10
      have W10 := (W6.grow (kn.hh.trans (g8.trans (e9.trans g10)))).less (e1.trans eB)
      refine ⟨_, rfl, m, _, 0, .str "names", rfl, rfl, SqL.of (g10 _ _ (e69 _ _ h_m)), rfl, rfl, _, rfl, iteTo (decide_eq_true rfl) ?_⟩
      refine ⟨_, rfl, _, _, _, _, _, rfl, .ty _, At.tyx T.rc a10, Kd.kit T.rc _ (by decide), _, rfl, ?_⟩
      obtain ⟨q, xs, ds, rfl, hA, hl9, hcase⟩ := id hS
      rcases hcase with ⟨rfl, hq⟩ | ⟨rfl, o, ho, hq⟩
      · refine iteTo rfl ?_
        obtain ⟨a, q1, n_a⟩ := hnew rfl
        obtain ⟨a2, ys, q2, h_a, hys⟩ := at_lst a10
        rw [q1] at q2
        cases q2
        subst q1
        have bl := hys.len
        have m2a : m2 ≠ a := fun z => by
          subst z
          rw [g10 _ _ h_m2] at h_a
          cases h_a
          cases hys with
          | cons y1 y2 =>
            cases y2 with
            | cons y2 y3 =>
              have z := At.det _ _ _ a10 y2
              have z2 := congrArg szT z
              simp only [szT, szA] at z2
              omega
        refine ⟨_, rfl, .inl ⟨rfl, _, SqL.of h_a⟩, a, ys, _, rfl, rfl, h_a, by omega, ?_⟩
        have aG : AtK5 K (upd H10 a (.lst (ys ++ [.str "grown"]))) (.ref a) (.lst (ds ++ [.str "grown"])) := .lst upd_same ((AtA.off h_a hys _ _ (Nat.le_refl _) hys).app (.cons (.str _ (by decide)) .nil))
        have dG : dep (.lst (ds ++ [.str "grown"])) < 40 := by
          have := depA_app (l := ds) (m := [.str "grown"]) (n := 17) (by omega) (by simp [depA, dep])
          simp only [dep, List.length_append, List.length_cons, List.length_nil]
          omega
        refine ⟨_, rfl, m2, _, 1, .ref a, rfl, rfl, SqL.of (by rw [upd_ne m2a]; exact g10 _ _ h_m2), rfl, _, rfl, .ref a, .ref a, _, rfl, aG, aG, dG, by decide, fun H12 g12 => ⟨_, rfl, iteFo rfl ?_⟩⟩
        have nb : a ≠ b := W6.ne n_a
        have fb : Hb a = none := (W6.less (e1.trans eB)).free n_a
        exact ⟨((W10.chg fb nb).grow g12).mono (by omega), _, _, _, _, _, _, _, _, rfl⟩
      · exact iteFo rfl ⟨W10.mono (by omega), _, _, _, _, _, _, _, _, rfl⟩
  rintro σ H1 ⟨W1, x2, x3, x4, x5, x6, x7, x8, x9, rfl⟩
  refine ⟨fun σ H' => Wd Hb H' b (c + 810) ∧ ∃ x2 x3 x4 x5 x6 x7 x8 x9, σ = [some (.ref b), some (.ref l), x2, x3, x4, x5, x6, x7, x8, x9], ?_, ?_⟩
  · refine ⟨_, rfl, Hb, b, _, rfl, W1, by omega, fun B0 v0 d0 H2 e0 W2 a0 dd0 nb0 dc0 => ?_⟩
    refine ⟨(by show 0 ≤ sizeLine; decide), fun l1 n_l1 => ?_⟩
    obtain ⟨Bol1, e_l1, Wol1, h_l1⟩ := W2.new' (o2 := .lst []) n_l1
    refine ⟨(by show 0 ≤ sizeLine; decide), fun t1 n_t1 => ?_⟩
    obtain ⟨Bot1, e_t1, Wot1, h_t1⟩ := Wol1.new' (o2 := .tup []) n_t1
    refine fun d1 n_d1 => ?_
    obtain ⟨Bod1, e_d1, Wod1, h_d1⟩ := Wot1.new' (o2 := .dK []) n_d1
    refine ⟨(by show 2 ≤ sizeLine; decide), fun t2 n_t2 => ?_⟩
    obtain ⟨Bot2, e_t2, Wot2, h_t2⟩ := Wod1.new' (o2 := .tup [.str "hp", .int 2]) n_t2
    refine fun d2 n_d2 => ⟨upd_same, [(.inr "hp", .int 2)], rfl, by decide, ?_⟩
    rw [upd_twice]
    obtain ⟨Bod2, e_d2, Wod2, h_d2⟩ := Wot2.new' (o2 := .dK (mergeK [] [(.inr "hp", .int 2)])) n_d2
    refine ⟨(by show 2 ≤ sizeLine; decide), fun t3 n_t3 => ?_⟩
    obtain ⟨Bot3, e_t3, Wot3, h_t3⟩ := Wod2.new' (o2 := .tup [.str "hp", .int 2]) n_t3
    refine ⟨(by show 1 ≤ sizeLine; decide), fun l2 n_l2 => ?_⟩
    obtain ⟨Bol2, e_l2, Wol2, h_l2⟩ := Wot3.new' (o2 := .lst [.ref t3]) n_l2
    refine ⟨l2, 2, _, rfl, rfl, Wol2.ex _ _ h_l2, by decide, by decide, (by show 2 ≤ sizeLine; decide), fun l3 n_l3 => ?_⟩
    obtain ⟨Bol3, e_l3, Wol3, h_l3⟩ := Wol2.new' (o2 := .lst (List.replicate (2 : Int).toNat [.ref t3]).flatten) n_l3
    refine ⟨(by show 2 ≤ sizeLine; decide), fun t4 n_t4 => ?_⟩
    obtain ⟨Bot4, e_t4, Wot4, h_t4⟩ := Wol3.new' (o2 := .tup [.str "a", .int 2]) n_t4
    refine ⟨(by show 2 ≤ sizeLine; decide), fun t5 n_t5 => ?_⟩
    obtain ⟨Bot5, e_t5, Wot5, h_t5⟩ := Wot4.new' (o2 := .tup [.str "b", .int 2]) n_t5
    refine ⟨(by show 2 ≤ sizeLine; decide), fun t6 n_t6 => ?_⟩
    obtain ⟨Bot6, e_t6, Wot6, h_t6⟩ := Wot5.new' (o2 := .tup [.str "c", .int 3]) n_t6
    refine ⟨(by show 3 ≤ sizeLine; decide), fun l4 n_l4 => ?_⟩
    obtain ⟨Bol4, e_l4, Wol4, h_l4⟩ := Wot6.new' (o2 := .lst [.ref t4, .ref t5, .ref t6]) n_l4
    refine ⟨(by show 2 ≤ sizeLine; decide), fun t7 n_t7 => ?_⟩
    obtain ⟨Bot7, e_t7, Wot7, h_t7⟩ := Wol4.new' (o2 := .tup [.str "a", .int 3]) n_t7
    refine ⟨(by show 1 ≤ sizeLine; decide), fun l5 n_l5 => ?_⟩
    obtain ⟨Bol5, e_l5, Wol5, h_l5⟩ := Wot7.new' (o2 := .lst [.ref t7]) n_l5
    refine ⟨l5, 3, _, rfl, rfl, Wol5.ex _ _ h_l5, by decide, by decide, (by show 3 ≤ sizeLine; decide), fun l6 n_l6 => ?_⟩
    obtain ⟨Bol6, e_l6, Wol6, h_l6⟩ := Wol5.new' (o2 := .lst (List.replicate (3 : Int).toNat [.ref t7]).flatten) n_l6
    refine ⟨(by show 12 ≤ sizeLine; decide), fun mo n_mo => ?_⟩
    obtain ⟨Bomo, e_mo, Womo, h_mo⟩ := Wol6.new' (o2 := .lst [v0, .ref l1, .ref t1, .ref d1, .non, .int 2, .str "hp", .ref t2, .ref d2, .ref l3, .ref l4, .ref l6]) n_mo
    have key : AtA (He.ga K "Ratio") Bomo [v0, .ref l1, .ref t1, .ref d1, .non, .int 2, .str "hp", .ref t2, .ref d2, .ref l3, .ref l4, .ref l6] [d0, .lst [], .tup [], .dic [], .non, .int 2, .str "hp", .tup [.str "hp", .int 2], .dic [("hp", .int 2)], .lst [.tup [.str "hp", .int 2], .tup [.str "hp", .int 2]], .lst [.tup [.str "a", .int 2], .tup [.str "b", .int 2], .tup [.str "c", .int 3]], .lst [.tup [.str "a", .int 3], .tup [.str "a", .int 3], .tup [.str "a", .int 3]]] := (.cons (a0.up (Evl.Ex.trans e_l1 (Evl.Ex.trans e_t1 (Evl.Ex.trans e_d1 (Evl.Ex.trans e_t2 (Evl.Ex.trans e_d2 (Evl.Ex.trans e_t3 (Evl.Ex.trans e_l2 (Evl.Ex.trans e_l3 (Evl.Ex.trans e_t4 (Evl.Ex.trans e_t5 (Evl.Ex.trans e_t6 (Evl.Ex.trans e_l4 (Evl.Ex.trans e_t7 (Evl.Ex.trans e_l5 (Evl.Ex.trans e_l6 e_mo)))))))))))))))) (.cons (.lst (e_mo _ _ (e_l6 _ _ (e_l5 _ _ (e_t7 _ _ (e_l4 _ _ (e_t6 _ _ (e_t5 _ _ (e_t4 _ _ (e_l3 _ _ (e_l2 _ _ (e_t3 _ _ (e_d2 _ _ (e_t2 _ _ (e_d1 _ _ (e_t1 _ _ h_l1))))))))))))))) .nil) (.cons (.tup (.inl (e_mo _ _ (e_l6 _ _ (e_l5 _ _ (e_t7 _ _ (e_l4 _ _ (e_t6 _ _ (e_t5 _ _ (e_t4 _ _ (e_l3 _ _ (e_l2 _ _ (e_t3 _ _ (e_d2 _ _ (e_t2 _ _ (e_d1 _ _ h_t1))))))))))))))) .nil) (.cons (.dic (e_mo _ _ (e_l6 _ _ (e_l5 _ _ (e_t7 _ _ (e_l4 _ _ (e_t6 _ _ (e_t5 _ _ (e_t4 _ _ (e_l3 _ _ (e_l2 _ _ (e_t3 _ _ (e_d2 _ _ (e_t2 _ _ h_d1))))))))))))) .nil) (.cons .non (.cons (.int _) (.cons (.str _ (by decide)) (.cons (.tup (.inl (e_mo _ _ (e_l6 _ _ (e_l5 _ _ (e_t7 _ _ (e_l4 _ _ (e_t6 _ _ (e_t5 _ _ (e_t4 _ _ (e_l3 _ _ (e_l2 _ _ (e_t3 _ _ (e_d2 _ _ h_t2))))))))))))) (.cons (.str _ (by decide)) (.cons (.int _) .nil))) (.cons (.dic (e_mo _ _ (e_l6 _ _ (e_l5 _ _ (e_t7 _ _ (e_l4 _ _ (e_t6 _ _ (e_t5 _ _ (e_t4 _ _ (e_l3 _ _ (e_l2 _ _ (e_t3 _ _ h_d2))))))))))) (.cons (by decide) (.int 2) .nil)) (.cons (.lst (xs := [.ref t3, .ref t3]) (e_mo _ _ (e_l6 _ _ (e_l5 _ _ (e_t7 _ _ (e_l4 _ _ (e_t6 _ _ (e_t5 _ _ (e_t4 _ _ h_l3)))))))) (.cons (.tup (.inl (e_mo _ _ (e_l6 _ _ (e_l5 _ _ (e_t7 _ _ (e_l4 _ _ (e_t6 _ _ (e_t5 _ _ (e_t4 _ _ (e_l3 _ _ (e_l2 _ _ h_t3))))))))))) (.cons (.str _ (by decide)) (.cons (.int _) .nil))) (.cons (.tup (.inl (e_mo _ _ (e_l6 _ _ (e_l5 _ _ (e_t7 _ _ (e_l4 _ _ (e_t6 _ _ (e_t5 _ _ (e_t4 _ _ (e_l3 _ _ (e_l2 _ _ h_t3))))))))))) (.cons (.str _ (by decide)) (.cons (.int _) .nil))) .nil))) (.cons (.lst (e_mo _ _ (e_l6 _ _ (e_l5 _ _ (e_t7 _ _ h_l4)))) (.cons (.tup (.inl (e_mo _ _ (e_l6 _ _ (e_l5 _ _ (e_t7 _ _ (e_l4 _ _ (e_t6 _ _ (e_t5 _ _ h_t4)))))))) (.cons (.str _ (by decide)) (.cons (.int _) .nil))) (.cons (.tup (.inl (e_mo _ _ (e_l6 _ _ (e_l5 _ _ (e_t7 _ _ (e_l4 _ _ (e_t6 _ _ h_t5))))))) (.cons (.str _ (by decide)) (.cons (.int _) .nil))) (.cons (.tup (.inl (e_mo _ _ (e_l6 _ _ (e_l5 _ _ (e_t7 _ _ (e_l4 _ _ h_t6)))))) (.cons (.str _ (by decide)) (.cons (.int _) .nil))) .nil)))) (.cons (.lst (xs := [.ref t7, .ref t7, .ref t7]) (e_mo _ _ h_l6) (.cons (.tup (.inl (e_mo _ _ (e_l6 _ _ (e_l5 _ _ h_t7)))) (.cons (.str _ (by decide)) (.cons (.int _) .nil))) (.cons (.tup (.inl (e_mo _ _ (e_l6 _ _ (e_l5 _ _ h_t7)))) (.cons (.str _ (by decide)) (.cons (.int _) .nil))) (.cons (.tup (.inl (e_mo _ _ (e_l6 _ _ (e_l5 _ _ h_t7)))) (.cons (.str _ (by decide)) (.cons (.int _) .nil))) .nil)))) .nil))))))))))))
    have bad : ∀ d ∈ ([d0, .lst [], .tup [], .dic [], .non, .int 2, .str "hp", .tup [.str "hp", .int 2], .dic [("hp", .int 2)], .lst [.tup [.str "hp", .int 2], .tup [.str "hp", .int 2]], .lst [.tup [.str "a", .int 2], .tup [.str "b", .int 2], .tup [.str "c", .int 3]], .lst [.tup [.str "a", .int 3], .tup [.str "a", .int 3], .tup [.str "a", .int 3]]] : List Th), namesB d = false ∧ dep d ≤ 20 := by
      intro d hd
      simp only [List.mem_cons, List.not_mem_nil, or_false] at hd
      rcases hd with rfl | rfl | rfl | rfl | rfl | rfl | rfl | rfl | rfl | rfl | rfl | rfl
      · exact ⟨nb0, by omega⟩
      · exact ⟨by decide +kernel, by decide⟩
      · exact ⟨by decide +kernel, by decide⟩
      · exact ⟨by decide +kernel, by decide⟩
      · exact ⟨by decide +kernel, by decide⟩
      · exact ⟨by decide +kernel, by decide⟩
      · exact ⟨by decide +kernel, by decide⟩
      · exact ⟨by decide +kernel, by decide⟩
      · exact ⟨by decide +kernel, by decide⟩
      · exact ⟨by decide +kernel, by decide⟩
      · exact ⟨by decide +kernel, by decide⟩
      · exact ⟨by decide +kernel, by decide⟩
    generalize ([d0, .lst [], .tup [], .dic [], .non, .int 2, .str "hp", .tup [.str "hp", .int 2], .dic [("hp", .int 2)], .lst [.tup [.str "hp", .int 2], .tup [.str "hp", .int 2]], .lst [.tup [.str "a", .int 2], .tup [.str "b", .int 2], .tup [.str "c", .int 3]], .lst [.tup [.str "a", .int 3], .tup [.str "a", .int 3], .tup [.str "a", .int 3]]] : List Th) = dds at key bad
    refine ⟨mo, rfl, ⟨_, SqL.of upd_same⟩, ?_⟩
    refine for_it (walk_list (xs := [v0, .ref l1, .ref t1, .ref d1, .non, .int 2, .str "hp", .ref t2, .ref d2, .ref l3, .ref l4, .ref l6])) (fun i σ H' => Wd Bomo H' b (c + 800 + 1) ∧ ∃ x2 x3 x4 x5 x6 x7 x8 x9, σ = [some (.ref b), some (.ref l), x2, x3, x4, x5, x6, x7, x8, x9]) ⟨Womo, _, _, _, _, _, _, _, _, rfl⟩ (fun i σ H' _ p => SqL.of (p.1.ex _ _ h_mo)) ?_ ?_
    · rintro i y σ H5 H5' hi ⟨W5, x2, x3, x4, x5, x6, x7, x8, x9, rfl⟩ ⟨rfl, hy⟩
      obtain ⟨d, hd, ay⟩ := key.get hy
      obtain ⟨hnb, hdep⟩ := bad d (List.mem_of_getElem? hd)
      refine ⟨_, rfl, Bomo, y, d, rfl, W5.ex, ay, by omega, by decide, fun Hb' v' H7 kn av' hsame hnew => ?_⟩
      refine ⟨(by show 2 ≤ sizeLine; decide), fun l6 n_l6 => ?_⟩
      have g8 := Evl.Ex.new (o := .lst [.str "space", v']) n_l6
      refine ⟨l6, rfl, .inl ⟨v', d, upd_same, (av'.up kn.bh).up g8, fun z => absurd (hnb.symm.trans z) (by decide), fun ns3 hd3 hok3 => absurd (hnb.symm.trans (namesB_ok hd3 hok3)) (by decide), fun _ m2 H9 e9 h_m2 => ?_⟩⟩
      refine ⟨_, rfl, (by show 2 ≤ sizeLine; decide), fun mm n_mm => ?_⟩
      have g10 := Evl.Ex.new (o := .lst [.str "names", y]) n_mm
      have e79 := g8.trans (e9.trans g10)
      have dd : dep (.lst [.str "names", d]) < 40 := by simp only [dep, depA, List.length_cons, List.length_nil]; omega
      refine ⟨.ref m2, .ref mm, .lst [.str "names", d], rfl, .lst (g10 _ _ h_m2) (.cons (.str _ (by decide)) (.cons (av'.up (kn.bh.trans e79)) .nil)), .lst upd_same (.cons (.str _ (by decide)) (.cons (ay.up (kn.kb.trans (kn.bh.trans e79))) .nil)), dd, by decide, fun H10 g11 => ⟨_, rfl, iteFo rfl ?_⟩⟩
      exact ⟨W5.grow (kn.hh.trans (e79.trans g11)), _, _, _, _, _, _, _, _, rfl⟩
    rintro σ H6 ⟨W6, x2, x3, x4, x5, x6, x7, x8, x9, rfl⟩
    exact ⟨(W6.less (e0.trans (Evl.Ex.trans e_l1 (Evl.Ex.trans e_t1 (Evl.Ex.trans e_d1 (Evl.Ex.trans e_t2 (Evl.Ex.trans e_d2 (Evl.Ex.trans e_t3 (Evl.Ex.trans e_l2 (Evl.Ex.trans e_l3 (Evl.Ex.trans e_t4 (Evl.Ex.trans e_t5 (Evl.Ex.trans e_t6 (Evl.Ex.trans e_l4 (Evl.Ex.trans e_t7 (Evl.Ex.trans e_l5 (Evl.Ex.trans e_l6 e_mo))))))))))))))))).mono (by omega), _, _, _, _, _, _, _, _, rfl⟩
  clear W1
  rintro σ H1 ⟨W1, x2, x3, x4, x5, x6, x7, x8, x9, rfl⟩
  refine ⟨fun σ H' => Wd Hb H' b (c + 810) ∧ ∃ x2 x3 x4 x5 x6 x7 x8 x9, σ = [some (.ref b), some (.ref l), x2, x3, x4, x5, x6, x7, x8, x9], ?_, ?_⟩
  · obtain ⟨p0, hp0⟩ : ∃ p, ps[0]? = some p := ⟨_, List.getElem?_eq_getElem (by omega)⟩
    obtain ⟨n0, hn0, hpn0⟩ := hT.get hp0
    have w0 : (n0.1).length ≤ 1000 := Nat.le_trans (hok.wd _ (List.mem_map_of_mem (List.mem_of_getElem? hn0))).hi (by omega)
    refine ⟨(by show 2 ≤ sizeLine; decide), fun t1 n_t1 => ?_⟩
    obtain ⟨Bot1, e_t1, Wot1, h_t1⟩ := W1.new' (o2 := .tup [.str "ax", .int 3]) n_t1
    refine ⟨(by show 2 ≤ sizeLine; decide), fun t2 n_t2 => ?_⟩
    obtain ⟨Bot2, e_t2, Wot2, h_t2⟩ := Wot1.new' (o2 := .tup [.str "bx", .int 3]) n_t2
    refine ⟨(by show 2 ≤ sizeLine; decide), fun l1 n_l1 => ?_⟩
    obtain ⟨Bol1, e_l1, Wol1, h_l1⟩ := Wot2.new' (o2 := .lst [.ref t1, .ref t2]) n_l1
    refine ⟨(by show 2 ≤ sizeLine; decide), fun t3 n_t3 => ?_⟩
    obtain ⟨Bot3, e_t3, Wot3, h_t3⟩ := Wol1.new' (o2 := .tup [.str "b", .int 5]) n_t3
    refine ⟨(by show 2 ≤ sizeLine; decide), fun t4 n_t4 => ?_⟩
    obtain ⟨Bot4, e_t4, Wot4, h_t4⟩ := Wot3.new' (o2 := .tup [.str "a", .int 2]) n_t4
    refine ⟨(by show 2 ≤ sizeLine; decide), fun l2 n_l2 => ?_⟩
    obtain ⟨Bol2, e_l2, Wol2, h_l2⟩ := Wot4.new' (o2 := .lst [.ref t3, .ref t4]) n_l2
    refine ⟨(by show 2 ≤ sizeLine; decide), fun t5 n_t5 => ?_⟩
    obtain ⟨Bot5, e_t5, Wot5, h_t5⟩ := Wol2.new' (o2 := .tup [.str "a", .int 2]) n_t5
    refine ⟨(by show 2 ≤ sizeLine; decide), fun t6 n_t6 => ?_⟩
    obtain ⟨Bot6, e_t6, Wot6, h_t6⟩ := Wot5.new' (o2 := .tup [.str "b", .int 5]) n_t6
    refine ⟨(by show 2 ≤ sizeLine; decide), fun tt n_tt => ?_⟩
    obtain ⟨Bott, e_tt, Wott, h_tt⟩ := Wot6.new' (o2 := .tup [.ref t5, .ref t6]) n_tt
    refine ⟨_, rfl, l, _, 0, .ref p0, rfl, rfl, SqL.of (Wott.ex _ _ ((Evl.Ex.trans e_t1 (Evl.Ex.trans e_t2 (Evl.Ex.trans e_l1 (Evl.Ex.trans e_t3 (Evl.Ex.trans e_t4 (Evl.Ex.trans e_l2 (Evl.Ex.trans e_t5 (Evl.Ex.trans e_t6 e_tt)))))))) _ _ hl)), (atI_nat (j := 0) (by rw [List.getElem?_map, hp0]; rfl)), p0, _, 0, _, rfl, rfl, .inl (hpn0.mono (((Evl.Ex.trans e_t1 (Evl.Ex.trans e_t2 (Evl.Ex.trans e_l1 (Evl.Ex.trans e_t3 (Evl.Ex.trans e_t4 (Evl.Ex.trans e_l2 (Evl.Ex.trans e_t5 (Evl.Ex.trans e_t6 e_tt))))))))).trans Wott.ex)), rfl, (by show 2 ≤ sizeLine; decide), fun t7 n_t7 => ?_⟩
    obtain ⟨Bot7, e_t7, Wot7, h_t7⟩ := Wott.new' (o2 := .tup [.str n0.1, .int 3]) n_t7
    refine ⟨(by show 2 ≤ sizeLine; decide), fun t8 n_t8 => ?_⟩
    obtain ⟨Bot8, e_t8, Wot8, h_t8⟩ := Wot7.new' (o2 := .tup [.str "zzx", .int 3]) n_t8
    refine ⟨(by show 2 ≤ sizeLine; decide), fun l4 n_l4 => ?_⟩
    obtain ⟨Bol4, e_l4, Wol4, h_l4⟩ := Wot8.new' (o2 := .lst [.ref t7, .ref t8]) n_l4
    refine ⟨(by show 4 ≤ sizeLine; decide), fun mo n_mo => ?_⟩
    obtain ⟨Bomo, e_mo, Womo, h_mo⟩ := Wol4.new' (o2 := .lst [.ref l1, .ref l2, .ref tt, .ref l4]) n_mo
    have key : AtA (He.ga K "Ratio") Bomo [.ref l1, .ref l2, .ref tt, .ref l4] [.lst [.tup [.str "ax", .int 3], .tup [.str "bx", .int 3]], .lst [.tup [.str "b", .int 5], .tup [.str "a", .int 2]], .tup [.tup [.str "a", .int 2], .tup [.str "b", .int 5]], .lst [.tup [.str n0.1, .int 3], .tup [.str "zzx", .int 3]]] := (.cons (.lst (e_mo _ _ (e_l4 _ _ (e_t8 _ _ (e_t7 _ _ (e_tt _ _ (e_t6 _ _ (e_t5 _ _ (e_l2 _ _ (e_t4 _ _ (e_t3 _ _ h_l1)))))))))) (.cons (.tup (.inl (e_mo _ _ (e_l4 _ _ (e_t8 _ _ (e_t7 _ _ (e_tt _ _ (e_t6 _ _ (e_t5 _ _ (e_l2 _ _ (e_t4 _ _ (e_t3 _ _ (e_l1 _ _ (e_t2 _ _ h_t1))))))))))))) (.cons (.str _ (by decide)) (.cons (.int _) .nil))) (.cons (.tup (.inl (e_mo _ _ (e_l4 _ _ (e_t8 _ _ (e_t7 _ _ (e_tt _ _ (e_t6 _ _ (e_t5 _ _ (e_l2 _ _ (e_t4 _ _ (e_t3 _ _ (e_l1 _ _ h_t2)))))))))))) (.cons (.str _ (by decide)) (.cons (.int _) .nil))) .nil))) (.cons (.lst (e_mo _ _ (e_l4 _ _ (e_t8 _ _ (e_t7 _ _ (e_tt _ _ (e_t6 _ _ (e_t5 _ _ h_l2))))))) (.cons (.tup (.inl (e_mo _ _ (e_l4 _ _ (e_t8 _ _ (e_t7 _ _ (e_tt _ _ (e_t6 _ _ (e_t5 _ _ (e_l2 _ _ (e_t4 _ _ h_t3)))))))))) (.cons (.str _ (by decide)) (.cons (.int _) .nil))) (.cons (.tup (.inl (e_mo _ _ (e_l4 _ _ (e_t8 _ _ (e_t7 _ _ (e_tt _ _ (e_t6 _ _ (e_t5 _ _ (e_l2 _ _ h_t4))))))))) (.cons (.str _ (by decide)) (.cons (.int _) .nil))) .nil))) (.cons (.tup (.inl (e_mo _ _ (e_l4 _ _ (e_t8 _ _ (e_t7 _ _ h_tt))))) (.cons (.tup (.inl (e_mo _ _ (e_l4 _ _ (e_t8 _ _ (e_t7 _ _ (e_tt _ _ (e_t6 _ _ h_t5))))))) (.cons (.str _ (by decide)) (.cons (.int _) .nil))) (.cons (.tup (.inl (e_mo _ _ (e_l4 _ _ (e_t8 _ _ (e_t7 _ _ (e_tt _ _ h_t6)))))) (.cons (.str _ (by decide)) (.cons (.int _) .nil))) .nil))) (.cons (.lst (e_mo _ _ h_l4) (.cons (.tup (.inl (e_mo _ _ (e_l4 _ _ (e_t8 _ _ h_t7)))) (.cons (.str _ w0) (.cons (.int _) .nil))) (.cons (.tup (.inl (e_mo _ _ (e_l4 _ _ h_t8))) (.cons (.str _ (by decide)) (.cons (.int _) .nil))) .nil))) .nil))))
    have bad : ∀ d ∈ ([.lst [.tup [.str "ax", .int 3], .tup [.str "bx", .int 3]], .lst [.tup [.str "b", .int 5], .tup [.str "a", .int 2]], .tup [.tup [.str "a", .int 2], .tup [.str "b", .int 5]], .lst [.tup [.str n0.1, .int 3], .tup [.str "zzx", .int 3]]] : List Th), namesB d = false ∧ dep d ≤ 20 := by
      intro d hd
      simp only [List.mem_cons, List.not_mem_nil, or_false] at hd
      rcases hd with rfl | rfl | rfl | rfl
      · exact ⟨by decide +kernel, by decide⟩
      · exact ⟨by decide +kernel, by decide⟩
      · exact ⟨by decide +kernel, by decide⟩
      · exact ⟨not_33 _, by simp [dep, depA]⟩
    generalize ([.lst [.tup [.str "ax", .int 3], .tup [.str "bx", .int 3]], .lst [.tup [.str "b", .int 5], .tup [.str "a", .int 2]], .tup [.tup [.str "a", .int 2], .tup [.str "b", .int 5]], .lst [.tup [.str n0.1, .int 3], .tup [.str "zzx", .int 3]]] : List Th) = dds at key bad
    refine ⟨mo, rfl, ⟨_, SqL.of upd_same⟩, ?_⟩
    refine for_it (walk_list (xs := [.ref l1, .ref l2, .ref tt, .ref l4])) (fun i σ H' => Wd Bomo H' b (c + 810) ∧ ∃ x2 x3 x4 x5 x6 x7 x8 x9, σ = [some (.ref b), some (.ref l), x2, x3, x4, x5, x6, x7, x8, x9]) ⟨Womo, _, _, _, _, _, _, _, _, rfl⟩ (fun i σ H' _ p => SqL.of (p.1.ex _ _ h_mo)) ?_ ?_
    · rintro i y σ H5 H5' hi ⟨W5, x2, x3, x4, x5, x6, x7, x8, x9, rfl⟩ ⟨rfl, hy⟩
      obtain ⟨d, hd, ay⟩ := key.get hy
      obtain ⟨hnb, hdep⟩ := bad d (List.mem_of_getElem? hd)
      refine ⟨_, rfl, Bomo, y, d, rfl, W5.ex, ay, by omega, by decide, fun Hb' v' H7 kn av' hsame hnew => ?_⟩
      refine ⟨(by show 2 ≤ sizeLine; decide), fun l6 n_l6 => ?_⟩
      have g8 := Evl.Ex.new (o := .lst [.str "space", v']) n_l6
      refine ⟨l6, rfl, .inl ⟨v', d, upd_same, (av'.up kn.bh).up g8, fun z => absurd (hnb.symm.trans z) (by decide), fun ns3 hd3 hok3 => absurd (hnb.symm.trans (namesB_ok hd3 hok3)) (by decide), fun _ m2 H9 e9 h_m2 => ?_⟩⟩
      refine ⟨_, rfl, (by show 2 ≤ sizeLine; decide), fun mm n_mm => ?_⟩
      have g10 := Evl.Ex.new (o := .lst [.str "names", y]) n_mm
      have e79 := g8.trans (e9.trans g10)
      have dd : dep (.lst [.str "names", d]) < 40 := by simp only [dep, depA, List.length_cons, List.length_nil]; omega
      refine ⟨.ref m2, .ref mm, .lst [.str "names", d], rfl, .lst (g10 _ _ h_m2) (.cons (.str _ (by decide)) (.cons (av'.up (kn.bh.trans e79)) .nil)), .lst upd_same (.cons (.str _ (by decide)) (.cons (ay.up (kn.kb.trans (kn.bh.trans e79))) .nil)), dd, by decide, fun H10 g11 => ⟨_, rfl, iteFo rfl ?_⟩⟩
      exact ⟨W5.grow (kn.hh.trans (e79.trans g11)), _, _, _, _, _, _, _, _, rfl⟩
    rintro σ H6 ⟨W6, x2, x3, x4, x5, x6, x7, x8, x9, rfl⟩
    exact ⟨(W6.less (Evl.Ex.trans e_t1 (Evl.Ex.trans e_t2 (Evl.Ex.trans e_l1 (Evl.Ex.trans e_t3 (Evl.Ex.trans e_t4 (Evl.Ex.trans e_l2 (Evl.Ex.trans e_t5 (Evl.Ex.trans e_t6 (Evl.Ex.trans e_tt (Evl.Ex.trans e_t7 (Evl.Ex.trans e_t8 (Evl.Ex.trans e_l4 e_mo))))))))))))), _, _, _, _, _, _, _, _, rfl⟩
  clear W1
  rintro σ H1 ⟨W1, x2, x3, x4, x5, x6, x7, x8, x9, rfl⟩
  refine ⟨(by show 2 ≤ sizeLine; decide), fun t0 n_t0 => ?_⟩
  obtain ⟨Bot0, e_t0, Wot0, h_t0⟩ := W1.new' (o2 := .tup [.str "a", .int 2]) n_t0
  refine ⟨(by show 2 ≤ sizeLine; decide), fun t1 n_t1 => ?_⟩
  obtain ⟨Bot1, e_t1, Wot1, h_t1⟩ := Wot0.new' (o2 := .tup [.str "b", .int 2]) n_t1
  refine ⟨(by show 2 ≤ sizeLine; decide), fun t2 n_t2 => ?_⟩
  obtain ⟨Bot2, e_t2, Wot2, h_t2⟩ := Wot1.new' (o2 := .tup [.str "c", .int 2]) n_t2
  refine ⟨(by show 2 ≤ sizeLine; decide), fun t3 n_t3 => ?_⟩
  obtain ⟨Bot3, e_t3, Wot3, h_t3⟩ := Wot2.new' (o2 := .tup [.str "d", .int 2]) n_t3
  refine ⟨(by show 4 ≤ sizeLine; decide), fun f4 n_f4 => ?_⟩
  obtain ⟨Bof4, e_f4, Wof4, h_f4⟩ := Wot3.new' (o2 := .lst [.ref t0, .ref t1, .ref t2, .ref t3]) n_f4
  have a4 : AtA (He.ga K "Ratio") Bof4 [.ref t0, .ref t1, .ref t2, .ref t3] [.tup [.str "a", .int 2], .tup [.str "b", .int 2], .tup [.str "c", .int 2], .tup [.str "d", .int 2]] := (.cons (.tup (.inl (e_f4 _ _ (e_t3 _ _ (e_t2 _ _ (e_t1 _ _ h_t0))))) (.cons (.str _ (by decide)) (.cons (.int _) .nil))) (.cons (.tup (.inl (e_f4 _ _ (e_t3 _ _ (e_t2 _ _ h_t1)))) (.cons (.str _ (by decide)) (.cons (.int _) .nil))) (.cons (.tup (.inl (e_f4 _ _ (e_t3 _ _ h_t2))) (.cons (.str _ (by decide)) (.cons (.int _) .nil))) (.cons (.tup (.inl (e_f4 _ _ h_t3)) (.cons (.str _ (by decide)) (.cons (.int _) .nil))) .nil))))
  have af4 : AtK5 K Bof4 (.ref f4) (.lst [.tup [.str "a", .int 2], .tup [.str "b", .int 2], .tup [.str "c", .int 2], .tup [.str "d", .int 2]]) := .lst h_f4 a4
  have nb4 : namesB (.lst [.tup [.str "a", .int 2], .tup [.str "b", .int 2], .tup [.str "c", .int 2], .tup [.str "d", .int 2]]) = false := by decide +kernel
  refine ⟨_, rfl, (by show 2 ≤ sizeLine; decide), fun l6 n_l6 => ?_⟩
  have W2 := Wof4.skip (o := .lst [.str "space", .ref f4]) n_l6
  refine ⟨l6, rfl, .inl ⟨.ref f4, _, upd_same, af4.up W2.ex, fun z => absurd (nb4.symm.trans z) (by decide), fun ns3 hd3 hok3 => absurd (nb4.symm.trans (namesB_ok hd3 hok3)) (by decide), fun _ m2 H3 e3 h_m2 => ?_⟩⟩
  have W3 := W2.grow e3
  refine ⟨_, rfl, (by show 2 ≤ sizeLine; decide), fun m3 n_m3 => ?_⟩
  have W4 := W3.skip (o := .lst [.str "names", .ref f4]) n_m3
  have D1 : AtK5 K (upd H3 m3 (.lst [.str "names", .ref f4])) (.ref m2) (.lst [.str "names", .lst [.tup [.str "a", .int 2], .tup [.str "b", .int 2], .tup [.str "c", .int 2], .tup [.str "d", .int 2]]]) := .lst ((Evl.Ex.new n_m3) _ _ h_m2) (.cons (.str _ (by decide)) (.cons (af4.up W4.ex) .nil))
  have D2 : AtK5 K (upd H3 m3 (.lst [.str "names", .ref f4])) (.ref m3) (.lst [.str "names", .lst [.tup [.str "a", .int 2], .tup [.str "b", .int 2], .tup [.str "c", .int 2], .tup [.str "d", .int 2]]]) := .lst upd_same (.cons (.str _ (by decide)) (.cons (af4.up W4.ex) .nil))
  refine ⟨_, _, At.dp _ _ (by decide +kernel) D1, At.dp _ _ (by decide +kernel) D2, by decide +kernel, by decide +kernel, _, rfl, iteTo (by decide +kernel) ?_⟩
  -- three of them
  refine ⟨_, rfl, (1 : Int), rfl, f4, _, rfl, SqL.of (W4.ex _ _ h_f4), fun q3 n_q3 => ?_⟩
  obtain ⟨B5, e5, W5, h_q3⟩ := W4.new' (o2 := .lst [.ref t1, .ref t2, .ref t3]) n_q3
  have a3 : AtK5 K B5 (.ref q3) (.lst [.tup [.str "b", .int 2], .tup [.str "c", .int 2], .tup [.str "d", .int 2]]) := by
    cases a4 with
    | cons _ a3 => exact .lst h_q3 (a3.up e5)
  have hok3 : NsOk [(Str.ofString "b", 2), (Str.ofString "c", 2), (Str.ofString "d", 2)] := by
    obtain ⟨ns3, e, hok⟩ := namesL_ok (l := [.tup [.str "b", .int 2], .tup [.str "c", .int 2], .tup [.str "d", .int 2]]) (by decide +kernel)
    have e2 : ([(Str.ofString "b", 2), (Str.ofString "c", 2), (Str.ofString "d", 2)] : NS) = ns3 := by
      have := congrArg (List.map unTh) e
      rw [map_un] at this
      exact this
    rw [e2]
    exact hok
  refine ⟨(by show 2 ≤ sizeLine; decide), fun l7 n_l7 => ?_⟩
  have W6 := W5.skip (o := .lst [.str "space", .ref q3]) n_l7
  refine ⟨l7, rfl, .inl ⟨.ref q3, _, upd_same, a3.up W6.ex, fun _ => trivial, fun ns3 hd3 _ m4 H7 u e7 h_m4 au => ?_, fun z => absurd ((namesB_ok (.inl rfl) hok3).symm.trans z) (by decide)⟩⟩
  have hd3 : ns3.map nsTh = [.tup [.str "b", .int 2], .tup [.str "c", .int 2], .tup [.str "d", .int 2]] := by
    rcases hd3 with z | z
    · exact (Th.lst.inj z).symm
    · cases z
  rw [hd3] at au
  have W7 := W6.grow e7
  refine ⟨_, rfl, (1 : Int), rfl, f4, _, rfl, SqL.of (W7.ex _ _ (e5 _ _ h_f4)), fun q8 n_q8 => ?_⟩
  obtain ⟨B8, e8, W8, h_q8⟩ := W7.new' (o2 := .lst [.ref t1, .ref t2, .ref t3]) n_q8
  have a8 : AtA (He.ga K "Ratio") B8 [.ref t1, .ref t2, .ref t3] [.tup [.str "b", .int 2], .tup [.str "c", .int 2], .tup [.str "d", .int 2]] := by
    cases a4 with
    | cons _ a3 => exact a3.up (e5.trans e8)
  refine ⟨q8, _, rfl, .inl ⟨SqL.of (W8.ex _ _ h_q8), fun t9 o9 n_t9 ho9 => ?_⟩⟩
  obtain ⟨B9, e9, W9, h_t9⟩ := W8.new' (o2 := .frz o9 (.tup [.ref t1, .ref t2, .ref t3])) n_t9
  refine ⟨(by show 2 ≤ sizeLine; decide), fun m10 n_m10 => ?_⟩
  have W10 := W9.skip (o := .lst [.str "told", .ref t9]) n_m10
  have g10 : Ex H7 (upd (upd (upd H7 q8 (.lst [.ref t1, .ref t2, .ref t3])) t9 (.frz o9 (.tup [.ref t1, .ref t2, .ref t3]))) m10 (.lst [.str "told", .ref t9])) := (Evl.Ex.new n_q8).trans ((Evl.Ex.new n_t9).trans (Evl.Ex.new n_m10))
  have D3 : AtK5 K _ (.ref m4) (.lst [.str "told", .tup [.tup [.str "b", .int 2], .tup [.str "c", .int 2], .tup [.str "d", .int 2]]]) := .lst (g10 _ _ h_m4) (.cons (.str _ (by decide)) (.cons (au.up g10) .nil))
  have D4 : AtK5 K _ (.ref m10) (.lst [.str "told", .tup [.tup [.str "b", .int 2], .tup [.str "c", .int 2], .tup [.str "d", .int 2]]]) := .lst (upd_same (H := upd (upd H7 q8 (.lst [.ref t1, .ref t2, .ref t3])) t9 (.frz o9 (.tup [.ref t1, .ref t2, .ref t3])))) (.cons (.str _ (by decide)) (.cons (.tup (.inr ⟨_, W10.ex _ _ h_t9⟩) (a8.up (e9.trans W10.ex))) .nil))
  refine ⟨_, _, At.dp _ _ (by decide +kernel) D3, At.dp _ _ (by decide +kernel) D4, by decide +kernel, by decide +kernel, ?_⟩
  rw [eq3]
  exact hQ _ (((W10.less (e5.trans (e8.trans e9))).less (Evl.Ex.trans e_t0 (Evl.Ex.trans e_t1 (Evl.Ex.trans e_t2 (Evl.Ex.trans e_t3 e_f4))))).mono (by omega))

end
end K05
namespace K05
open PySem PySem.Spec PyProof.Rows L2 C8
/-- one of three, by the kind -/
def pick {α : Type} (a b c : α) (k : Str) : α := if k = "store" then a else if k = "name" then b else c
theorem pick_s {α : Type} (a b c : α) : pick a b c "store" = a := if_pos rfl
theorem pick_n {α : Type} (a b c : α) : pick a b c "name" = b := by unfold pick; rw [if_neg (by decide +kernel), if_pos rfl]
theorem pick_v {α : Type} (a b c : α) : pick a b c "values" = c := by unfold pick; rw [if_neg (by decide +kernel), if_neg (by decide +kernel)]
abbrev K3 (k : Str) : Prop := k = "name" ∨ k = "store" ∨ k = "values"
theorem val3 (a b c : V) {k : Str} (h : K3 k) : valV (mergeK [] [((.inr "store" : Key), a), (.inr "name", b), (.inr "values", c)]) (.inr k) = some (pick a b c k) := by
  rcases h with rfl | rfl | rfl
  · rw [pick_n]; rfl
  · rw [pick_s]; rfl
  · rw [pick_v]; rfl
theorem _root_.L2.At.pick3 {R : Addr} {H : Hp} {a b c : V} {d e f : Th} (h1 : At R H a d) (h2 : At R H b e) (h3 : At R H c f) {k : Str} (h : K3 k) : At R H (pick a b c k) (pick d e f k) := by
  rcases h with rfl | rfl | rfl
  · rw [pick_n, pick_n]; exact h2
  · rw [pick_s, pick_s]; exact h1
  · rw [pick_v, pick_v]; exact h3
theorem dep_pick {n : Nat} {d e f : Th} (h1 : dep d ≤ n) (h2 : dep e ≤ n) (h3 : dep f ≤ n) (k : Str) : dep (pick d e f k) ≤ n := by
  unfold pick
  split
  · exact h1
  · split
    · exact h2
    · exact h3
def oddP (ns : NS) (d e f : Th) (k : Str) : Bool := oddB ns k (pick d e f k)
theorem oddP_s (ns : NS) (d e f : Th) : oddP ns d e f "store" = !storeB ns d := by unfold oddP oddB; rw [pick_s, if_neg (by decide +kernel), if_pos rfl]
theorem oddP_n (ns : NS) (d e f : Th) : oddP ns d e f "name" = !inB (wds ns) e := by unfold oddP oddB; rw [pick_n, if_pos rfl]
theorem oddP_v (ns : NS) (d e f : Th) : oddP ns d e f "values" = !wholeB f := by unfold oddP oddB; rw [pick_v, if_neg (by decide +kernel), if_neg (by decide +kernel)]
theorem Wd.kn {Hb H Hb' H' : Hp} {b : Addr} {c : Nat} (W : Wd Hb H b c) (k : Kn Hb H Hb' H') : Wd Hb' H' b c := by
  obtain ⟨e, n, g, f, s, q, h1, h2, h3, h4, h5, h6⟩ := W
  exact ⟨k.bh, k.nw b (by rw [h1]; intro z; cases z) n, g, f, s, q, k.hh _ _ h1, h2, h3, h4, h5, h6⟩
def sub0 (a : Addr) (v : V) : V := if v = .non then .ref a else v
theorem range_map {f : V → V} (l : List V) : (List.range l.length).map (fun i => f (l.getD i .non)) = l.map f := by
  apply List.ext_getElem?
  intro i
  rw [List.getElem?_map, List.getElem?_map]
  by_cases h : i < l.length
  · rw [List.getElem?_range h, List.getElem?_eq_getElem h]
    show some (f (l.getD i .non)) = some (f l[i])
    rw [List.getD_eq_getElem?_getD, List.getElem?_eq_getElem h]
    rfl
  · rw [List.getElem?_eq_none (by simpa using h), List.getElem?_eq_none (by simpa using h)]
    rfl
def gs28 : List (List Th) := [[.int 1, .str "a"], [.lst [.int 2], .int 3]]
theorem plain28 : ∀ ds ∈ gs28, ∀ k ∈ (["store", "name", "values"] : List Str), dep (.lst ds) ≤ 10 ∧ ds.length ≤ 5 ∧ (Th.lst [.str k, .lst (ds ++ [.int 5])]).pl = true ∧ SeqAt.shaped (Th.lst [.str k, .lst (ds ++ [.int 5])]).toP = true ∧ PyData.eqv (Th.lst [.str k, .lst (ds ++ [.int 5])]).toP (Th.lst [.str k, .lst (ds ++ [.int 5])]).toP = true := by decide +kernel
theorem not_self {R : Addr} {H : Hp} {a : Addr} {s : V} {ds : List Th} (h : At R H (.ref a) (.lst ds)) (h2 : H a = some (.lst [s, .ref a])) : False := by
  obtain ⟨a2, ys, q, h_a, hys⟩ := at_lst h
  cases q
  rw [h2] at h_a
  cases h_a
  cases hys with
  | cons y1 y2 =>
    cases y2 with
    | cons y2 y3 =>
      have z := congrArg szT (At.det _ _ _ h y2)
      simp only [szT, szA] at z
      omega
theorem filter_snoc {α : Type} {l : List α} {p : α → Bool} {i : Nat} {a : α} (h : l[i]? = some a) : (l.take (i + 1)).filter p = (l.take i).filter p ++ (if p a = true then [a] else []) := by
  rw [List.take_succ, h, List.filter_append]
  congr 1
  cases q : p a <;> simp [List.filter_cons, q]
section
variable {P : Program} {w : World} {K : PySem.W.Frag} {mg : Str → Option Value} {base : Heap}
abbrev N_l_methods_right : List Str := ["box", "space", "names", "many", "turn", "store", "name", "value", "way", "kinds", "given", "wrong", "told", "word", "wide", "asks", "grown", "ask", "kind", "thing", "part"]
theorem sc_l_methods_right : FnScope N_l_methods_right ["box", "space", "names", "many"] (defScope (top 49)) := ⟨rfl, rfl, rfl, by decide +kernel, rfl, by decide +kernel, by decide +kernel⟩
/-- the methods of a space, asked with good and bad arguments -/
def spMethodsR (K : PySem.W.Frag) : Sp := fun vs H Q _ => ∃ (Hb : Hp) (b : Addr) (c : Nat) (x l : Addr) (ns : NS), vs = [.ref b, .ref x, .ref l, .int ((prodN (szs ns) : Nat) : Int)] ∧ Wd Hb H b c ∧ c ≤ 200000 ∧ SpaceAt K Hb x ns ∧ NamesAt Hb l ns ∧ NsOk ns ∧ ∀ H', Wd Hb H' b (c + 200) → Q (.bl true) H'
theorem ok_l_methods_right (T : Txt K mg) (C_l_drawn : Cal P w K mg base 5 "_law_drawn" (spDrawn K) []) (C_l_is_odd : Cal P w K mg base 1 "_law_is_odd" (spOdd K) []) (C_l_copy : Cal P w K mg base 41 "_law_copy" (spCopy K 40) []) (C_l_met : Cal P w K mg base 8 "_law_met" (spMet K) []) (C_l_same : Cal P w K mg base 44 "_law_same" (spSame K 40) []) : Cal P w K mg base 46 "_law_methods_right" (spMethodsR K) [] := by
  obtain ⟨fd, F⟩ := T.d__law_methods_right
  refine ⟨_, fd, ["box", "space", "names", "many"], [], ?_, T.g__law_methods_right, F.kp, F.bindsN fun _ _ _ _ _ _ us hl => match us, hl with | [_, _, _, _], _ => rfl, .nil⟩
  refine F.ok sc_l_methods_right (fun vs H Q E h => by obtain ⟨_, _, _, _, _, _, rfl, _⟩ := h; rfl) (fun cdv A outer s H vs Q E hr h => ?_)
  have hu := hu_of hr
  refine ⟨_, PSs.nox (pss_cut (ps_for PassesOwn.never rfl (pi_range1 (by rfl) T.f_range (pa_cons pe_int pa_nil)) (pg_name (i := 4) sc_l_methods_right.nd rfl (Or.inl rfl)) (pss_cons (ps_par (i := 5) (j := 6) (by rfl) sc_l_methods_right.nd rfl rfl (by decide) rfl rfl (pa_cons (pe_c C_l_drawn hr (by omega) rfl (pa_cons (pv 0) (pa_cons pe_str (pa_cons (pv 2) (pa_cons (pv 3) pa_nil))))) (pa_cons (pe_c C_l_drawn hr (by omega) rfl (pa_cons (pv 0) (pa_cons pe_str (pa_cons (pv 2) (pa_cons (pv 3) pa_nil))))) pa_nil)) (by rfl))
      (pss_cons (ps_set (i := 7) sc_l_methods_right.nd rfl (Or.inl rfl) (pe_c C_l_drawn hr (by omega) rfl (pa_cons (pv 0) (pa_cons pe_str (pa_cons (pv 2) (pa_cons (pv 3) pa_nil))))))
      (pss_one (ps_for PassesOwn.never rfl (pi_list (pe_lst (pa_cons (pe_tup (pa_cons pe_str (pa_cons (pe_lst (pa_cons pe_str pa_nil)) pa_nil))) (pa_cons (pe_tup (pa_cons pe_str (pa_cons (pe_lst (pa_cons pe_str pa_nil)) pa_nil))) (pa_cons (pe_tup (pa_cons pe_str (pa_cons (pe_lst (pa_cons pe_str (pa_cons pe_str pa_nil))) pa_nil))) (pa_cons (pe_tup (pa_cons pe_str (pa_cons (pe_lst (pa_cons pe_str (pa_cons pe_str (pa_cons pe_str pa_nil)))) pa_nil))) pa_nil)))))) (pg_tup (by rfl) (pgs_cons (pg_name (i := 8) sc_l_methods_right.nd rfl (Or.inl rfl)) (pgs_cons (pg_name (i := 9) sc_l_methods_right.nd rfl (Or.inl rfl)) pgs_nil))) (pss_cons (ps_set (i := 10) sc_l_methods_right.nd rfl (Or.inr rfl) (pe_disp (pps_cons pe_str (pv 5) (pps_cons pe_str (pv 6) (pps_cons pe_str (pv 7) pps_nil))) rfl rfl (by simp) (by decide)))
      (pss_cons (ps_setLc (i := 11) (own := [("kind", 18)]) rfl sc_l_methods_right.nd rfl rfl (sw_true rfl rfl rfl (by decide +kernel)) (pi_list (pv 9)) (blkOk_by (own := [("kind", 18)]) (N := N_l_methods_right) (sc := defScope (top 49)) (by decide +kernel)) (fun _ _ _ _ _ => (pg_name (i := 18) sc_l_methods_right.nd rfl (Or.inl rfl))) (fun _ _ _ _ _ => (pts_one (pt_val (pe_c C_l_is_odd hr (by omega) rfl (pa_cons (pv 18) (pa_cons (pe_dget hu (pv 10) (pv 18) (fun _ _ => rfl)) (pa_cons (pv 2) (pa_cons (pv 3) pa_nil)))))))) (fun _ _ _ _ _ => (pv 18)))
      (pss_cut (ps_set (i := 12) sc_l_methods_right.nd rfl (Or.inl rfl) (pe_c C_l_met hr (by omega) rfl (pa_cons (pe_op op_cat (pe_lst (pa_cons (pv 8) (pa_cons (pv 1) pa_nil))) (pe_lc (own := [("kind", 18)]) rfl sc_l_methods_right.nd (pi_list (pv 9)) (blkOk_by (own := [("kind", 18)]) (N := N_l_methods_right) (sc := defScope (top 49)) (by decide +kernel)) (fun _ _ _ _ _ => (pg_name (i := 18) sc_l_methods_right.nd rfl (Or.inl rfl))) (fun _ _ _ _ _ => pts_nil) (fun _ _ _ _ _ => (pe_c C_l_copy hr (by omega) rfl (pa_cons (pe_dget hu (pv 10) (pv 18) (fun _ _ => rfl)) pa_nil))))) pa_nil)))
      (pss_cons (ps_if (PW.pt (pw_and (pt_cmpR (op_eqNil rfl hr.units) (pv 11) (pe_lst pa_nil) (nomark _)) (pw_and1 (pt_cmpR op_ne (pe_ix ix_list (pv 12) pe_int (fun _ _ => rfl)) pe_str (nomark _))))) (pss_one (ps_ret pe_bl)) pss_nil)
      (pss_one (ps_if (PW.pt (pw_and (pt_cmpR (op_neNil rfl hr.units) (pv 11) (pe_lst pa_nil) (nomark _)) (pw_and1 (pt_not (pt_val (pe_c C_l_same hr (by omega) rfl (pa_cons (pv 12) (pa_cons (pe_lst (pa_cons (pe_ix ix_list (pv 11) pe_int (fun _ _ => rfl)) (pa_cons (pe_dget hu (pv 10) (pe_ix ix_list (pv 11) pe_int (fun _ _ => rfl)) (fun _ _ => rfl)) pa_nil))) pa_nil)))))))) (pss_one (ps_ret pe_bl)) pss_nil)))))))))))
      (pss_cons (ps_par (i := 13) (j := 14) (by rfl) sc_l_methods_right.nd rfl rfl (by decide) rfl rfl (pa_cons (pe_ix ix_tup (pe_ix ix_list (pv 2) pe_int (fun _ _ => rfl)) pe_int (fun _ _ => rfl)) (pa_cons (pe_lst (pa_cons (pe_lst (pa_cons pe_str (pa_cons (pv 1) (pa_cons pe_non pa_nil)))) (pa_cons (pe_lst (pa_cons pe_str (pa_cons (pv 1) (pa_cons pe_non pa_nil)))) (pa_cons (pe_lst (pa_cons pe_str (pa_cons (pv 1) (pa_cons pe_non pa_nil)))) pa_nil)))) pa_nil)) (by rfl))
      (pss_cons (ps_set (i := 15) sc_l_methods_right.nd rfl (Or.inl rfl) (pe_op op_cat (pv 14) (pe_lst (pa_cons (pe_lst (pa_cons pe_str (pa_cons (pv 1) (pa_cons pe_non (pa_cons (pv 13) pa_nil))))) (pa_cons (pe_lst (pa_cons pe_str (pa_cons (pv 1) (pa_cons pe_int (pa_cons pe_non pa_nil))))) (pa_cons (pe_lst (pa_cons pe_str (pa_cons (pv 1) (pa_cons pe_non (pa_cons (pv 13) (pa_cons pe_int pa_nil)))))) pa_nil))))))
      (pss_cons (ps_set (i := 15) sc_l_methods_right.nd rfl (Or.inl rfl) (pe_op op_cat (pv 15) (pe_lst (pa_cons (pe_lst (pa_cons pe_str (pa_cons (pv 1) (pa_cons pe_int (pa_cons pe_non (pa_cons pe_int pa_nil)))))) (pa_cons (pe_lst (pa_cons pe_str (pa_cons (pv 1) (pa_cons pe_int (pa_cons (pv 13) (pa_cons pe_non pa_nil)))))) pa_nil)))))
      (pss_cut (ps_for PassesOwn.never rfl (pi_list (pe_lst (pa_cons (pe_lst (pa_cons pe_int (pa_cons pe_str pa_nil))) (pa_cons (pe_lst (pa_cons (pe_lst (pa_cons pe_int pa_nil)) (pa_cons pe_int pa_nil))) pa_nil)))) (pg_name (i := 16) sc_l_methods_right.nd rfl (Or.inl rfl)) (pss_one (ps_for PassesOwn.never rfl (pi_zip (by rfl) T.f_zip (pa_cons (pv 15) (pa_cons (pe_lst (pa_cons pe_str (pa_cons pe_str (pa_cons pe_str (pa_cons pe_str (pa_cons pe_str (pa_cons pe_str (pa_cons pe_str (pa_cons pe_str pa_nil))))))))) pa_nil))) (pg_tup (by rfl) (pgs_cons (pg_name (i := 17) sc_l_methods_right.nd rfl (Or.inl rfl)) (pgs_cons (pg_name (i := 18) sc_l_methods_right.nd rfl (Or.inl rfl)) pgs_nil))) (pss_cons (ps_set (i := 19) sc_l_methods_right.nd rfl (Or.inr rfl) (pe_c C_l_copy hr (by omega) rfl (pa_cons (pv 16) pa_nil)))
      (pss_cut (ps_set (i := 12) sc_l_methods_right.nd rfl (Or.inl rfl) (pe_c C_l_met hr (by omega) rfl (pa_cons (pe_lc (own := [("part", 20)]) rfl sc_l_methods_right.nd (pi_list (pv 17)) (blkOk_by (own := [("part", 20)]) (N := N_l_methods_right) (sc := defScope (top 49)) (by decide +kernel)) (fun _ _ _ _ _ => (pg_name (i := 20) sc_l_methods_right.nd rfl (Or.inl rfl))) (fun _ _ _ _ _ => pts_nil) (fun _ _ _ _ _ => (pe_ifExp (pt_cmpR op_isN (pv 20) pe_non (nomark _)) (pv 19) (pv 20)))) pa_nil)))
      (pss_cons (ps_expr (pe_bm PySem.F.plainAttrs_list PySem.F.slot_list_append PySem.F.type_list_append mt_append (pv 19) (pa_cons pe_int pa_nil)))
      (pss_one (ps_if (pt_cmpR (op_neD hr.units) (pv 12) (pe_lst (pa_cons (pv 18) (pa_cons (pe_op op_cat (pv 16) (pe_lst (pa_cons pe_int pa_nil))) pa_nil))) (nomark _)) (pss_one (ps_ret pe_bl)) pss_nil))))))))
      (pss_one (ps_ret pe_bl))))))), ?_⟩
  obtain ⟨Hb, b, c, x, l, ns, rfl, W, hc, hS, hN, hok, hQ⟩ := h
  have lim : 1000 < sizeLine := by decide
  have hn1 := hok.len
  refine ⟨fun σ H' => Wd Hb H' b (c + 150) ∧ ∃ y4 y5 y6 y7 y8 y9 y10 y11 y12 y13 y14 y15 y16 y17 y18 y19 y20, σ = [some (.ref b), some (.ref x), some (.ref l), some (.int ((prodN (szs ns) : Nat) : Int)), y4, y5, y6, y7, y8, y9, y10, y11, y12, y13, y14, y15, y16, y17, y18, y19, y20], ?_, ?_⟩
  · refine ⟨12, rfl, by decide, by decide, for_range (n := 12) (fun i σ H' => Wd Hb H' b (c + 12 * i) ∧ ∃ y4 y5 y6 y7 y8 y9 y10 y11 y12 y13 y14 y15 y16 y17 y18 y19 y20, σ = [some (.ref b), some (.ref x), some (.ref l), some (.int ((prodN (szs ns) : Nat) : Int)), y4, y5, y6, y7, y8, y9, y10, y11, y12, y13, y14, y15, y16, y17, y18, y19, y20]) ⟨W, _, _, _, _, _, _, _, _, _, _, _, _, _, _, _, _, _, rfl⟩ ?_ (fun σ H' p => by obtain ⟨p, q⟩ := p; exact ⟨p.mono (by omega), q⟩)⟩
    rintro i σ H1 hi ⟨W1, y4, y5, y6, y7, y8, y9, y10, y11, y12, y13, y14, y15, y16, y17, y18, y19, y20, rfl⟩
    refine ⟨_, rfl, _, rfl, _, rfl, Hb, b, _, "store", l, ns, rfl, .inr (.inl rfl), W1, by omega, hN, hok, fun B1 vs0 ds H2 e1 W2 as0 ks0 => ?_⟩
    refine ⟨_, rfl, _, rfl, _, rfl, B1, b, _, "name", l, ns, rfl, .inl rfl, W2, by omega, hN.up e1, hok, fun B2 vn dn H3 e2 W3 an0 kn0 => ?_⟩
    refine ⟨_, _, rfl, ?_⟩
    refine ⟨_, rfl, _, rfl, _, rfl, B2, b, _, "values", l, ns, rfl, .inr (.inr rfl), W3, by omega, hN.up (e1.trans e2), hok, fun B3 vv dv H4 e3 W4 av0 kv0 => ?_⟩
    have as1 := as0.up (e2.trans e3)
    have an1 := an0.up e3
    have eB := e1.trans (e2.trans e3)
    refine ⟨(by show 1 ≤ sizeLine; decide), fun k0 n_k0 => ?_⟩
    obtain ⟨Bok0, e_k0, Wok0, h_k0⟩ := W4.new' (o2 := .lst [.str "store"]) n_k0
    refine ⟨(by show 2 ≤ sizeLine; decide), fun t0 n_t0 => ?_⟩
    obtain ⟨Bot0, e_t0, Wot0, h_t0⟩ := Wok0.new' (o2 := .tup [.str "values_of", .ref k0]) n_t0
    refine ⟨(by show 1 ≤ sizeLine; decide), fun k1 n_k1 => ?_⟩
    obtain ⟨Bok1, e_k1, Wok1, h_k1⟩ := Wot0.new' (o2 := .lst [.str "name"]) n_k1
    refine ⟨(by show 2 ≤ sizeLine; decide), fun t1 n_t1 => ?_⟩
    obtain ⟨Bot1, e_t1, Wot1, h_t1⟩ := Wok1.new' (o2 := .tup [.str "size_of", .ref k1]) n_t1
    refine ⟨(by show 2 ≤ sizeLine; decide), fun k2 n_k2 => ?_⟩
    obtain ⟨Bok2, e_k2, Wok2, h_k2⟩ := Wot1.new' (o2 := .lst [.str "store", .str "name"]) n_k2
    refine ⟨(by show 2 ≤ sizeLine; decide), fun t2 n_t2 => ?_⟩
    obtain ⟨Bot2, e_t2, Wot2, h_t2⟩ := Wok2.new' (o2 := .tup [.str "value_of", .ref k2]) n_t2
    refine ⟨(by show 3 ≤ sizeLine; decide), fun k3 n_k3 => ?_⟩
    obtain ⟨Bok3, e_k3, Wok3, h_k3⟩ := Wot2.new' (o2 := .lst [.str "store", .str "name", .str "values"]) n_k3
    refine ⟨(by show 2 ≤ sizeLine; decide), fun t3 n_t3 => ?_⟩
    obtain ⟨Bot3, e_t3, Wot3, h_t3⟩ := Wok3.new' (o2 := .tup [.str "with_value", .ref k3]) n_t3
    refine ⟨(by show 4 ≤ sizeLine; decide), fun mm n_mm => ?_⟩
    obtain ⟨Bomm, e_mm, Womm, h_mm⟩ := Wot3.new' (o2 := .lst [.ref t0, .ref t1, .ref t2, .ref t3]) n_mm
    have key : ∀ y, y ∈ ([.ref t0, .ref t1, .ref t2, .ref t3] : List V) → ∃ (t k : Addr) (wy : Str) (ks : List Str), y = .ref t ∧ Bomm t = some (.tup [.str wy, .ref k]) ∧ Bomm k = some (.lst (ks.map V.str)) ∧ ((wy = "values_of" ∧ ks = (["store"] : List Str)) ∨ (wy = "size_of" ∧ ks = (["name"] : List Str)) ∨ (wy = "value_of" ∧ ks = (["store", "name"] : List Str)) ∨ (wy = "with_value" ∧ ks = (["store", "name", "values"] : List Str))) := by
      intro y hy
      simp only [List.mem_cons, List.not_mem_nil, or_false] at hy
      rcases hy with rfl | rfl | rfl | rfl
      · exact ⟨t0, k0, "values_of", (["store"] : List Str), rfl, (e_mm _ _ (e_t3 _ _ (e_k3 _ _ (e_t2 _ _ (e_k2 _ _ (e_t1 _ _ (e_k1 _ _ h_t0))))))), (e_mm _ _ (e_t3 _ _ (e_k3 _ _ (e_t2 _ _ (e_k2 _ _ (e_t1 _ _ (e_k1 _ _ (e_t0 _ _ h_k0)))))))), .inl ⟨rfl, rfl⟩⟩
      · exact ⟨t1, k1, "size_of", (["name"] : List Str), rfl, (e_mm _ _ (e_t3 _ _ (e_k3 _ _ (e_t2 _ _ (e_k2 _ _ h_t1))))), (e_mm _ _ (e_t3 _ _ (e_k3 _ _ (e_t2 _ _ (e_k2 _ _ (e_t1 _ _ h_k1)))))), .inr (.inl ⟨rfl, rfl⟩)⟩
      · exact ⟨t2, k2, "value_of", (["store", "name"] : List Str), rfl, (e_mm _ _ (e_t3 _ _ (e_k3 _ _ h_t2))), (e_mm _ _ (e_t3 _ _ (e_k3 _ _ (e_t2 _ _ h_k2)))), .inr (.inr (.inl ⟨rfl, rfl⟩))⟩
      · exact ⟨t3, k3, "with_value", (["store", "name", "values"] : List Str), rfl, (e_mm _ _ h_t3), (e_mm _ _ (e_t3 _ _ h_k3)), .inr (.inr (.inr ⟨rfl, rfl⟩))⟩
    have eB5 : Ex B3 Bomm := (Evl.Ex.trans e_k0 (Evl.Ex.trans e_t0 (Evl.Ex.trans e_k1 (Evl.Ex.trans e_t1 (Evl.Ex.trans e_k2 (Evl.Ex.trans e_t2 (Evl.Ex.trans e_k3 (Evl.Ex.trans e_t3 e_mm))))))))
    have as2 := as1.up eB5
    have an2 := an1.up eB5
    have av2 := av0.up eB5
    have eB6 := eB.trans eB5
    have W5 := Womm
    have hmm := h_mm
    generalize Bomm = B at W5 key as2 an2 av2 eB6 hmm
    refine ⟨mm, rfl, ⟨_, SqL.of (W5.ex _ _ hmm)⟩, ?_⟩
    refine for_it (walk_list (xs := [.ref t0, .ref t1, .ref t2, .ref t3])) (fun j σ H' => Wd B H' b (c + 12 * (i + 1)) ∧ ∃ y4 y8 y9 y10 y11 y12 y13 y14 y15 y16 y17 y18 y19 y20, σ = [some (.ref b), some (.ref x), some (.ref l), some (.int ((prodN (szs ns) : Nat) : Int)), y4, some vs0, some vn, some vv, y8, y9, y10, y11, y12, y13, y14, y15, y16, y17, y18, y19, y20]) ⟨W5.mono (by omega), _, _, _, _, _, _, _, _, _, _, _, _, _, _, rfl⟩ (fun j σ H' _ p => SqL.of (p.1.ex _ _ hmm)) ?_ (fun σ H' p => by obtain ⟨p, y4, y8, y9, y10, y11, y12, y13, y14, y15, y16, y17, y18, y19, y20, rfl⟩ := p; exact ⟨p.less eB6, _, _, _, _, _, _, _, _, _, _, _, _, _, _, _, _, _, rfl⟩)
    rintro j y σ H6 H6' hj ⟨W6, y4, y8, y9, y10, y11, y12, y13, y14, y15, y16, y17, y18, y19, y20, rfl⟩ ⟨rfl, hy⟩
    obtain ⟨tp, kp, wy, ks, rfl, htp, hkp, hway⟩ := key y (List.mem_of_getElem? hy)
    refine ⟨tp, _, rfl, .inl (.inl (W6.ex _ _ htp)), rfl, _, _, rfl, _, _, rfl, rfl, ?_⟩
    have k3 : ∀ k ∈ ks, K3 k := by
      intro k hk
      rcases hway with ⟨_, rfl⟩ | ⟨_, rfl⟩ | ⟨_, rfl⟩ | ⟨_, rfl⟩ <;> simp at hk <;> (first | (subst hk; simp [K3]) | (rcases hk with rfl | rfl | rfl <;> simp [K3]) | (rcases hk with rfl | rfl <;> simp [K3]))
    have kl : ks.length ≤ 3 := by rcases hway with ⟨_, rfl⟩ | ⟨_, rfl⟩ | ⟨_, rfl⟩ | ⟨_, rfl⟩ <;> decide
    refine fun g n_g => ⟨_, rfl, _, rfl, _, rfl, upd_same, [(.inr "store", vs0), (.inr "name", vn), (.inr "values", vv)], rfl, (by show 3 ≤ 15; decide), ?_⟩
    rw [upd_twice]
    obtain ⟨Bg, e_g, W7, h_g⟩ := W6.new' (o2 := .dK (mergeK [] [(.inr "store", vs0), (.inr "name", vn), (.inr "values", vv)])) n_g
    have as3 := as2.up e_g
    have an3 := an2.up e_g
    have av3 := av2.up e_g
    -- what is wrong
    refine ⟨_, rfl, kp, rfl, ⟨_, SqL.of (W7.ex _ _ (e_g _ _ hkp))⟩, fun D hD => ?_⟩
    have nD := W7.ne hD
    have bD := W7.free hD
    refine lc_it (walk_list (xs := ks.map V.str)) (fun j2 H' => Wd Bg H' b (c + 12 * (i + 1)) ∧ H' D = some (.lst (((ks.take j2).filter (oddP ns ds dn dv)).map V.str))) ⟨W7.skip hD, upd_same⟩ (fun j2 H' _ p => SqL.of (p.1.ex _ _ (e_g _ _ hkp))) ?_ ?_
    · rintro j2 y2 H8 H8' hj2 ⟨W8, hD8⟩ ⟨rfl, hy2⟩
      rw [List.getElem?_map] at hy2
      obtain ⟨k, hk, rfl⟩ := Option.map_eq_some_iff.mp hy2
      have kk := k3 k (List.mem_of_getElem? hk)
      refine ⟨rfl, ?_⟩
      refine ⟨_, rfl, _, rfl, _, rfl, g, pick vs0 vn vv k, rfl, .inl ⟨_, .inr k, .inl (W8.ex _ _ h_g), rfl, (val3 _ _ _ kk).symm⟩, _, rfl, _, rfl, ?_⟩
      refine ⟨k, _, pick ds dn dv k, l, ns, rfl, kk, (as3.pick3 an3 av3 kk).up W8.ex, hN.up (eB6.trans (e_g.trans W8.ex)), hok, fun H9 e9 => ⟨_, rfl, ?_⟩⟩
      rw [filter_snoc hk]
      have fl : ((ks.take j2).filter (oddP ns ds dn dv)).length ≤ 3 := Nat.le_trans (List.length_filter_le ..) (Nat.le_trans (List.length_take_le' ..) kl)
      cases hp : oddP ns ds dn dv k with
      | true =>
        refine iteTo hp ?_
        refine ⟨_, rfl, _, e9 _ _ hD8, by rw [List.length_map]; omega, (W8.grow e9).chg bD nD, ?_⟩
        rw [upd_same, if_pos rfl, List.map_append]
        rfl
      | false =>
        refine iteFo hp ⟨W8.grow e9, ?_⟩
        rw [if_neg Bool.false_ne_true, List.append_nil]
        exact e9 _ _ hD8
    rintro H8 ⟨W8, hD8⟩
    rw [List.take_of_length_le (by rw [List.length_map]; exact Nat.le_refl _)] at hD8
    obtain ⟨BD, e_D, W9, h_D⟩ : ∃ B, Ex Bg B ∧ Wd B H8 b (c + 12 * (i + 1)) ∧ B D = some (.lst ((ks.filter (oddP ns ds dn dv)).map V.str)) := ⟨_, Evl.Ex.new bD, W8.know hD8 nD, upd_same⟩
    clear W8 hD8
    refine ⟨fun σ H' => Wd BD H' b (c + 12 * (i + 1)) ∧ ∃ m, ((ks.filter (oddP ns ds dn dv) = [] ∧ ∃ u, H' m = some (.lst [.str "told", u])) ∨ ∃ k rest v', ks.filter (oddP ns ds dn dv) = k :: rest ∧ K3 k ∧ H' m = some (.lst [.str k, v']) ∧ AtK5 K H' v' (pick ds dn dv k)) ∧ ∃ y4 y13 y14 y15 y16 y17 y18 y19 y20, σ = [some (.ref b), some (.ref x), some (.ref l), some (.int ((prodN (szs ns) : Nat) : Int)), y4, some vs0, some vn, some vv, some (.str wy), some (.ref kp), some (.ref g), some (.ref D), some (.ref m), y13, y14, y15, y16, y17, y18, y19, y20], ?_, ?_⟩
    · refine ⟨_, rfl, _, rfl, (by show 2 ≤ sizeLine; decide), fun q1 n_q1 => ?_⟩
      obtain ⟨Bq, e_q1, W10, h_q1⟩ := W9.new' (o2 := .lst [.str wy, .ref x]) n_q1
      have e_Q := e_D.trans e_q1
      refine ⟨_, rfl, kp, rfl, ⟨_, SqL.of (W10.ex _ _ (e_Q _ _ (e_g _ _ hkp)))⟩, fun E hE => ?_⟩
      have nE := W10.ne hE
      have bE := W10.free hE
      refine lc_it (walk_list (xs := ks.map V.str)) (fun j2 H' => ∃ Hb2 ys, Ex Bq Hb2 ∧ Wd Hb2 H' b (c + 12 * (i + 1)) ∧ Hb2 E = none ∧ H' E = some (.lst ys) ∧ AtA (He.ga K "Ratio") Hb2 ys ((ks.take j2).map (pick ds dn dv)) ∧ ys.length = j2) ⟨Bq, [], Evl.Ex.refl _, W10.skip hE, bE, upd_same, .nil, rfl⟩ (fun j2 H' _ ⟨Hb2, _, k1, k2, _⟩ => SqL.of (k2.ex _ _ (k1 _ _ (e_Q _ _ (e_g _ _ hkp))))) ?_ ?_
      · rintro j2 y2 H11 H11' hj2 ⟨Hb2, ys, k1, k2, k4, k5, k6, rfl⟩ ⟨rfl, hy2⟩
        rw [List.getElem?_map] at hy2
        obtain ⟨k, hk, rfl⟩ := Option.map_eq_some_iff.mp hy2
        have kk := k3 k (List.mem_of_getElem? hk)
        refine ⟨rfl, ?_⟩
        have hdp : dep (pick ds dn dv k) ≤ 10 := dep_pick ks0 kn0 kv0 k
        refine ⟨_, rfl, _, rfl, g, pick vs0 vn vv k, rfl, .inl ⟨_, .inr k, .inl (k2.ex _ _ (k1 _ _ (e_Q _ _ h_g))), rfl, (val3 _ _ _ kk).symm⟩, ?_⟩
        refine ⟨Hb2, _, pick ds dn dv k, rfl, k2.ex, (as3.pick3 an3 av3 kk).up (e_Q.trans k1), by omega, by decide, fun Hb3 v3 H12 kn hv3 _ _ => ?_⟩
        have n3 : Hb3 E = none := kn.nw E (by rw [k5]; intro z; cases z) k4
        rw [List.length_map] at hj2
        refine ⟨ys, kn.hh _ _ k5, by omega, Hb3, ys ++ [v3], k1.trans kn.kb, (k2.kn kn).chg n3 nE, n3, upd_same, ?_, by simp⟩
        rw [List.take_succ, hk, List.map_append]
        exact (k6.up kn.kb).app (.cons hv3 .nil)
      rintro H11 ⟨Hb2, ys, k1, W11, k4, hE11, hys, hyl⟩
      rw [List.take_of_length_le (by rw [List.length_map]; exact Nat.le_refl _)] at hys
      rw [List.length_map] at hyl
      refine ⟨q1, E, _, _, rfl, rfl, W11.ex _ _ (k1 _ _ h_q1), hE11, by show 2 + ys.length ≤ sizeLine; omega, fun q2 n_q2 => ?_⟩
      have W12 := W11.skip (o := .lst ([.str wy, .ref x] ++ ys)) n_q2
      refine ⟨q2, rfl, .inr ⟨x, ns, hS.mono (eB6.trans (e_g.trans (e_Q.trans (k1.trans W12.ex)))), hok, ?_⟩⟩
      have fin : ∀ H', Ex (upd H11 q2 (.lst ([.str wy, .ref x] ++ ys))) H' → Wd BD H' b (c + 12 * (i + 1)) := fun H' e => (W12.grow e).less (e_q1.trans k1)
      have oS := oddP_s ns ds dn dv
      have oN := oddP_n ns ds dn dv
      have oV := oddP_v ns ds dn dv
      rcases hway with ⟨rfl, rfl⟩ | ⟨rfl, rfl⟩ | ⟨rfl, rfl⟩ | ⟨rfl, rfl⟩
      ·
        obtain ⟨u0, rfl, a0⟩ : ∃ u0, ys = [u0] ∧ AtK5 K Hb2 u0 ds := by
          simp only [List.map_cons, List.map_nil, pick_s, pick_n, pick_v] at hys
          cases hys with
          | cons a0 hys =>
            cases hys
            exact ⟨_, rfl, a0⟩
        exact .inl ⟨u0, ds, upd_same, a0.up W12.ex, fun h1 m H' u e hm _ => ⟨fin H' e, m, .inl ⟨((List.filter_cons_of_neg (by rw [oS, h1]; decide)).trans List.filter_nil), u, hm⟩, _, _, _, _, _, _, _, _, _, rfl⟩, fun h1 m H' e hm => ⟨fin H' e, m, .inr ⟨"store", _, u0, (List.filter_cons_of_pos (by rw [oS, h1]; rfl)), by simp [K3], hm, by rw [pick_s]; exact (a0.up W12.ex).up e⟩, _, _, _, _, _, _, _, _, _, rfl⟩⟩
      ·
        obtain ⟨u0, rfl, a0⟩ : ∃ u0, ys = [u0] ∧ AtK5 K Hb2 u0 dn := by
          simp only [List.map_cons, List.map_nil, pick_s, pick_n, pick_v] at hys
          cases hys with
          | cons a0 hys =>
            cases hys
            exact ⟨_, rfl, a0⟩
        exact .inr (.inr (.inl ⟨u0, dn, upd_same, a0.up W12.ex, fun h1 m H' u e hm _ => ⟨fin H' e, m, .inl ⟨((List.filter_cons_of_neg (by rw [oN, h1]; decide)).trans List.filter_nil), u, hm⟩, _, _, _, _, _, _, _, _, _, rfl⟩, fun h1 m H' e hm => ⟨fin H' e, m, .inr ⟨"name", _, u0, (List.filter_cons_of_pos (by rw [oN, h1]; rfl)), by simp [K3], hm, by rw [pick_n]; exact (a0.up W12.ex).up e⟩, _, _, _, _, _, _, _, _, _, rfl⟩⟩))
      ·
        obtain ⟨u0, u1, rfl, a0, a1⟩ : ∃ u0 u1, ys = [u0, u1] ∧ AtK5 K Hb2 u0 ds ∧ AtK5 K Hb2 u1 dn := by
          simp only [List.map_cons, List.map_nil, pick_s, pick_n, pick_v] at hys
          cases hys with
          | cons a0 hys =>
            cases hys with
            | cons a1 hys =>
              cases hys
              exact ⟨_, _, rfl, a0, a1⟩
        exact .inr (.inr (.inr (.inl ⟨u0, u1, ds, dn, upd_same, a0.up W12.ex, a1.up W12.ex, fun h1 h2 m H' u e hm _ => ⟨fin H' e, m, .inl ⟨((List.filter_cons_of_neg (by rw [oS, h1]; decide)).trans ((List.filter_cons_of_neg (by rw [oN, h2]; decide)).trans List.filter_nil)), u, hm⟩, _, _, _, _, _, _, _, _, _, rfl⟩, fun h1 m H' e hm => ⟨fin H' e, m, .inr ⟨"store", _, u0, (List.filter_cons_of_pos (by rw [oS, h1]; rfl)), by simp [K3], hm, by rw [pick_s]; exact (a0.up W12.ex).up e⟩, _, _, _, _, _, _, _, _, _, rfl⟩, fun h1 h2 m H' e hm => ⟨fin H' e, m, .inr ⟨"name", _, u1, ((List.filter_cons_of_neg (by rw [oS, h1]; decide)).trans (List.filter_cons_of_pos (by rw [oN, h2]; rfl))), by simp [K3], hm, by rw [pick_n]; exact (a1.up W12.ex).up e⟩, _, _, _, _, _, _, _, _, _, rfl⟩⟩)))
      ·
        obtain ⟨u0, u1, u2, rfl, a0, a1, a2⟩ : ∃ u0 u1 u2, ys = [u0, u1, u2] ∧ AtK5 K Hb2 u0 ds ∧ AtK5 K Hb2 u1 dn ∧ AtK5 K Hb2 u2 dv := by
          simp only [List.map_cons, List.map_nil, pick_s, pick_n, pick_v] at hys
          cases hys with
          | cons a0 hys =>
            cases hys with
            | cons a1 hys =>
              cases hys with
              | cons a2 hys =>
                cases hys
                exact ⟨_, _, _, rfl, a0, a1, a2⟩
        exact .inr (.inr (.inr (.inr ⟨u0, u1, u2, ds, dn, dv, upd_same, a0.up W12.ex, a1.up W12.ex, a2.up W12.ex, fun h1 h2 h3 m H' u e hm _ => ⟨fin H' e, m, .inl ⟨((List.filter_cons_of_neg (by rw [oS, h1]; decide)).trans ((List.filter_cons_of_neg (by rw [oN, h2]; decide)).trans ((List.filter_cons_of_neg (by rw [oV, h3]; decide)).trans List.filter_nil))), u, hm⟩, _, _, _, _, _, _, _, _, _, rfl⟩, fun h1 m H' e hm => ⟨fin H' e, m, .inr ⟨"store", _, u0, (List.filter_cons_of_pos (by rw [oS, h1]; rfl)), by simp [K3], hm, by rw [pick_s]; exact (a0.up W12.ex).up e⟩, _, _, _, _, _, _, _, _, _, rfl⟩, fun h1 h2 m H' e hm => ⟨fin H' e, m, .inr ⟨"name", _, u1, ((List.filter_cons_of_neg (by rw [oS, h1]; decide)).trans (List.filter_cons_of_pos (by rw [oN, h2]; rfl))), by simp [K3], hm, by rw [pick_n]; exact (a1.up W12.ex).up e⟩, _, _, _, _, _, _, _, _, _, rfl⟩, fun h1 h2 h3 m H' e hm => ⟨fin H' e, m, .inr ⟨"values", _, u2, ((List.filter_cons_of_neg (by rw [oS, h1]; decide)).trans ((List.filter_cons_of_neg (by rw [oN, h2]; decide)).trans (List.filter_cons_of_pos (by rw [oV, h3]; rfl)))), by simp [K3], hm, by rw [pick_v]; exact (a2.up W12.ex).up e⟩, _, _, _, _, _, _, _, _, _, rfl⟩⟩)))
    rintro σ H13 ⟨W13, m, hcase, y4, y13, y14, y15, y16, y17, y18, y19, y20, rfl⟩
    refine ⟨_, rfl, (by show 0 ≤ sizeLine; decide), fun m0 n_m0 => ?_⟩
    have W14 := W13.skip (o := .lst []) n_m0
    have g14 := Evl.Ex.new (o := .lst []) n_m0
    refine ⟨D, m0, _, rfl, rfl, SqL.of (W14.ex _ _ h_D), SqL.of upd_same, _, rfl, ?_⟩
    rcases hcase with ⟨hf, u, hm⟩ | ⟨k, rest, v', hf, kk, hm, av'⟩
    · rw [hf] at h_D ⊢
      refine iteTo rfl ?_
      refine ⟨_, rfl, m, _, 0, .str "told", rfl, rfl, SqL.of (g14 _ _ hm), rfl, rfl, _, rfl, iteFo (by simp) ?_⟩
      refine ⟨_, rfl, (by show 0 ≤ sizeLine; decide), fun m5 n_m5 => ?_⟩
      have W15 := W14.skip (o := .lst []) n_m5
      refine ⟨D, m5, _, rfl, rfl, SqL.of (W15.ex _ _ h_D), SqL.of upd_same, _, rfl, iteFo rfl ?_⟩
      exact ⟨(W15).less (e_g.trans e_D), _, _, _, _, _, _, _, _, _, _, _, _, _, _, rfl⟩
    · rw [hf] at h_D ⊢
      refine iteFo rfl ?_
      refine ⟨_, rfl, (by show 0 ≤ sizeLine; decide), fun m5 n_m5 => ?_⟩
      have W15 := W14.skip (o := .lst []) n_m5
      have g15 := g14.trans (Evl.Ex.new (o := .lst []) n_m5)
      refine ⟨D, m5, _, rfl, rfl, SqL.of (W15.ex _ _ h_D), SqL.of upd_same, _, rfl, iteTo rfl ?_⟩
      refine ⟨_, rfl, _, rfl, D, _, 0, .str k, rfl, rfl, SqL.of (W15.ex _ _ h_D), atI_nat (j := 0) rfl, ?_⟩
      refine ⟨_, rfl, _, rfl, D, _, 0, .str k, rfl, rfl, SqL.of (W15.ex _ _ h_D), atI_nat (j := 0) rfl, g, pick vs0 vn vv k, rfl, .inl ⟨_, .inr k, .inl (W15.ex _ _ (e_D _ _ h_g)), rfl, (val3 _ _ _ kk).symm⟩, ?_⟩
      refine ⟨(by show 2 ≤ sizeLine; decide), fun m6 n_m6 => ?_⟩
      have W16 := W15.skip (o := .lst [.str k, pick vs0 vn vv k]) n_m6
      have g16 := g15.trans (Evl.Ex.new (o := .lst [.str k, pick vs0 vn vv k]) n_m6)
      have hdp : dep (pick ds dn dv k) ≤ 10 := dep_pick ks0 kn0 kv0 k
      have kl3 : k.length ≤ 1000 := by rcases kk with rfl | rfl | rfl <;> decide
      refine ⟨.ref m, .ref m6, .lst [.str k, pick ds dn dv k], rfl, .lst (g16 _ _ hm) (.cons (.str _ kl3) (.cons (av'.up g16) .nil)), .lst upd_same (.cons (.str _ kl3) (.cons ((as3.pick3 an3 av3 kk).up (e_D.trans W16.ex)) .nil)), by simp only [dep, depA, List.length_cons, List.length_nil]; omega, by decide, fun H17 g17 => ⟨_, rfl, iteFo rfl ?_⟩⟩
      exact ⟨(W16.grow g17).less (e_g.trans e_D), _, _, _, _, _, _, _, _, _, _, _, _, _, _, rfl⟩
  clear W
  rintro σ H1 ⟨W1, y4, y5, y6, y7, y8, y9, y10, y11, y12, y13, y14, y15, y16, y17, y18, y19, y20, rfl⟩
  obtain ⟨ps, hl, hT⟩ := id hN
  have hlen := hT.length
  obtain ⟨p0, hp0⟩ : ∃ p, ps[0]? = some p := ⟨_, List.getElem?_eq_getElem (by omega)⟩
  obtain ⟨n0, hn0, hpn0⟩ := hT.get hp0
  have w0 : (n0.1).length ≤ 1000 := Nat.le_trans (hok.wd _ (List.mem_map_of_mem (List.mem_of_getElem? hn0))).hi (by omega)
  have in0 : inB (wds ns) (.str n0.1) = true := by
    show (wds ns).contains n0.1 = true
    simpa using mem_wds hn0
  have st0 : storeB ns (.int 0) = true := by
    have := (menu_facts _ hok.sz).2.2.1
    show (decide ((0 : Int) ≤ 0) && decide ((0 : Int) ≤ ((prodN (szs ns) : Nat) : Int) - 1)) = true
    rw [decide_eq_true (by omega), decide_eq_true (by omega)]
    rfl
  refine ⟨_, rfl, l, _, 0, .ref p0, rfl, rfl, SqL.of (W1.ex _ _ hl), (atI_nat (j := 0) (by rw [List.getElem?_map, hp0]; rfl)), p0, _, 0, _, rfl, rfl, .inl (hpn0.mono W1.ex), rfl, _, rfl, (by show 3 ≤ sizeLine; decide), fun a1 n_a1 => ?_⟩
  obtain ⟨Boa1, e_a1, Woa1, h_a1⟩ := W1.new' (o2 := .lst [.str "values_of", .ref x, .non]) n_a1
  refine ⟨_, rfl, (by show 3 ≤ sizeLine; decide), fun a2 n_a2 => ?_⟩
  obtain ⟨Boa2, e_a2, Woa2, h_a2⟩ := Woa1.new' (o2 := .lst [.str "size_of", .ref x, .non]) n_a2
  refine ⟨_, rfl, (by show 3 ≤ sizeLine; decide), fun a3 n_a3 => ?_⟩
  obtain ⟨Boa3, e_a3, Woa3, h_a3⟩ := Woa2.new' (o2 := .lst [.str "store_of", .ref x, .non]) n_a3
  refine ⟨(by show 3 ≤ sizeLine; decide), fun w3 n_w3 => ?_⟩
  obtain ⟨Bow3, e_w3, Wow3, h_w3⟩ := Woa3.new' (o2 := .lst [.ref a1, .ref a2, .ref a3]) n_w3
  refine ⟨_, _, rfl, _, rfl, _, rfl, _, rfl, (by show 4 ≤ sizeLine; decide), fun a4 n_a4 => ?_⟩
  obtain ⟨Boa4, e_a4, Woa4, h_a4⟩ := Wow3.new' (o2 := .lst [.str "value_of", .ref x, .non, .str n0.1]) n_a4
  refine ⟨_, rfl, (by show 4 ≤ sizeLine; decide), fun a5 n_a5 => ?_⟩
  obtain ⟨Boa5, e_a5, Woa5, h_a5⟩ := Woa4.new' (o2 := .lst [.str "value_of", .ref x, .int 0, .non]) n_a5
  refine ⟨_, rfl, _, rfl, (by show 5 ≤ sizeLine; decide), fun a6 n_a6 => ?_⟩
  obtain ⟨Boa6, e_a6, Woa6, h_a6⟩ := Woa5.new' (o2 := .lst [.str "with_value", .ref x, .non, .str n0.1, .int 0]) n_a6
  refine ⟨(by show 3 ≤ sizeLine; decide), fun q1 n_q1 => ?_⟩
  obtain ⟨Boq1, e_q1, Woq1, h_q1⟩ := Woa6.new' (o2 := .lst [.ref a4, .ref a5, .ref a6]) n_q1
  refine ⟨w3, q1, _, _, rfl, rfl, Woq1.ex _ _ (e_q1 _ _ (e_a6 _ _ (e_a5 _ _ (e_a4 _ _ h_w3)))), Woq1.ex _ _ (h_q1), (by show 6 ≤ sizeLine; decide), fun q2 n_q2 => ?_⟩
  obtain ⟨Boq2, e_q2, Woq2, h_q2⟩ := Woq1.new' (o2 := .lst ([.ref a1, .ref a2, .ref a3] ++ [.ref a4, .ref a5, .ref a6])) n_q2
  refine ⟨_, rfl, _, rfl, (by show 5 ≤ sizeLine; decide), fun a7 n_a7 => ?_⟩
  obtain ⟨Boa7, e_a7, Woa7, h_a7⟩ := Woq2.new' (o2 := .lst [.str "with_value", .ref x, .int 0, .non, .int 0]) n_a7
  refine ⟨_, rfl, _, rfl, (by show 5 ≤ sizeLine; decide), fun a8 n_a8 => ?_⟩
  obtain ⟨Boa8, e_a8, Woa8, h_a8⟩ := Woa7.new' (o2 := .lst [.str "with_value", .ref x, .int 0, .str n0.1, .non]) n_a8
  refine ⟨(by show 2 ≤ sizeLine; decide), fun q3 n_q3 => ?_⟩
  obtain ⟨Boq3, e_q3, Woq3, h_q3⟩ := Woa8.new' (o2 := .lst [.ref a7, .ref a8]) n_q3
  refine ⟨q2, q3, _, _, rfl, rfl, Woq3.ex _ _ (e_q3 _ _ (e_a8 _ _ (e_a7 _ _ h_q2))), Woq3.ex _ _ (h_q3), (by show 8 ≤ sizeLine; decide), fun q4 n_q4 => ?_⟩
  obtain ⟨Boq4, e_q4, Woq4, h_q4⟩ := Woq3.new' (o2 := .lst ([.ref a1, .ref a2, .ref a3] ++ [.ref a4, .ref a5, .ref a6] ++ [.ref a7, .ref a8])) n_q4
  refine ⟨fun σ H' => Wd Hb H' b (c + 200) ∧ ∃ y4 y5 y6 y7 y8 y9 y10 y11 y12 y13 y14 y15 y16 y17 y18 y19 y20, σ = [some (.ref b), some (.ref x), some (.ref l), some (.int ((prodN (szs ns) : Nat) : Int)), y4, y5, y6, y7, y8, y9, y10, y11, y12, y13, y14, y15, y16, y17, y18, y19, y20], ?_, fun σ H' p => hQ _ p.1⟩
  refine ⟨(by show 2 ≤ sizeLine; decide), fun g1 n_g1 => ?_⟩
  obtain ⟨Bog1, e_g1, Wog1, h_g1⟩ := Woq4.new' (o2 := .lst [.int 1, .str "a"]) n_g1
  refine ⟨(by show 1 ≤ sizeLine; decide), fun g0 n_g0 => ?_⟩
  obtain ⟨Bog0, e_g0, Wog0, h_g0⟩ := Wog1.new' (o2 := .lst [.int 2]) n_g0
  refine ⟨(by show 2 ≤ sizeLine; decide), fun g2 n_g2 => ?_⟩
  obtain ⟨Bog2, e_g2, Wog2, h_g2⟩ := Wog0.new' (o2 := .lst [.ref g0, .int 3]) n_g2
  refine ⟨(by show 2 ≤ sizeLine; decide), fun gg n_gg => ?_⟩
  obtain ⟨Bogg, e_gg, Wogg, h_gg⟩ := Wog2.new' (o2 := .lst [.ref g1, .ref g2]) n_gg
  have keyG : ∀ y, y ∈ ([.ref g1, .ref g2] : List V) → ∃ gr xsg dsg, y = .ref gr ∧ dsg ∈ gs28 ∧ Bogg gr = some (.lst xsg) ∧ AtA (He.ga K "Ratio") Bogg xsg dsg := by
    intro y hy
    simp only [List.mem_cons, List.not_mem_nil, or_false] at hy
    rcases hy with rfl | rfl
    · exact ⟨g1, _, [.int 1, .str "a"], rfl, by simp [gs28], (e_gg _ _ (e_g2 _ _ (e_g0 _ _ h_g1))), .cons (.int 1) (.cons (.str _ (by decide)) .nil)⟩
    · exact ⟨g2, _, [.lst [.int 2], .int 3], rfl, by simp [gs28], (e_gg _ _ h_g2), .cons (.lst (e_gg _ _ (e_g2 _ _ h_g0)) (.cons (.int 2) .nil)) (.cons (.int 3) .nil)⟩
  have keyA : ∀ (j : Nat) (y : V), ([.ref a1, .ref a2, .ref a3] ++ [.ref a4, .ref a5, .ref a6] ++ [.ref a7, .ref a8] : List V)[j]? = some y → ∃ (k : Str) (a : Addr) (its : List V), ([.str "store", .str "name", .str "values", .str "store", .str "name", .str "store", .str "name", .str "values"] : List V)[j]? = some (.str k) ∧ y = .ref a ∧ Bogg a = some (.lst its) ∧ its.length ≤ 5 ∧ k ∈ (["store", "name", "values"] : List Str) ∧ ((k = "store" ∧ its = [.str "values_of", .ref x, .non]) ∨ (k = "name" ∧ its = [.str "size_of", .ref x, .non]) ∨ (k = "values" ∧ its = [.str "store_of", .ref x, .non]) ∨ (k = "store" ∧ its = [.str "value_of", .ref x, .non, .str n0.1]) ∨ (k = "name" ∧ its = [.str "value_of", .ref x, .int 0, .non]) ∨ (k = "store" ∧ its = [.str "with_value", .ref x, .non, .str n0.1, .int 0]) ∨ (k = "name" ∧ its = [.str "with_value", .ref x, .int 0, .non, .int 0]) ∨ (k = "values" ∧ its = [.str "with_value", .ref x, .int 0, .str n0.1, .non])) := by
    intro j y hy
    match j, hy with
    | 0, hy => cases hy; exact ⟨"store", a1, _, rfl, rfl, (e_gg _ _ (e_g2 _ _ (e_g0 _ _ (e_g1 _ _ (e_q4 _ _ (e_q3 _ _ (e_a8 _ _ (e_a7 _ _ (e_q2 _ _ (e_q1 _ _ (e_a6 _ _ (e_a5 _ _ (e_a4 _ _ (e_w3 _ _ (e_a3 _ _ (e_a2 _ _ h_a1)))))))))))))))), by simp, by simp, .inl ⟨rfl, rfl⟩⟩
    | 1, hy => cases hy; exact ⟨"name", a2, _, rfl, rfl, (e_gg _ _ (e_g2 _ _ (e_g0 _ _ (e_g1 _ _ (e_q4 _ _ (e_q3 _ _ (e_a8 _ _ (e_a7 _ _ (e_q2 _ _ (e_q1 _ _ (e_a6 _ _ (e_a5 _ _ (e_a4 _ _ (e_w3 _ _ (e_a3 _ _ h_a2))))))))))))))), by simp, by simp, .inr (.inl ⟨rfl, rfl⟩)⟩
    | 2, hy => cases hy; exact ⟨"values", a3, _, rfl, rfl, (e_gg _ _ (e_g2 _ _ (e_g0 _ _ (e_g1 _ _ (e_q4 _ _ (e_q3 _ _ (e_a8 _ _ (e_a7 _ _ (e_q2 _ _ (e_q1 _ _ (e_a6 _ _ (e_a5 _ _ (e_a4 _ _ (e_w3 _ _ h_a3)))))))))))))), by simp, by simp, .inr (.inr (.inl ⟨rfl, rfl⟩))⟩
    | 3, hy => cases hy; exact ⟨"store", a4, _, rfl, rfl, (e_gg _ _ (e_g2 _ _ (e_g0 _ _ (e_g1 _ _ (e_q4 _ _ (e_q3 _ _ (e_a8 _ _ (e_a7 _ _ (e_q2 _ _ (e_q1 _ _ (e_a6 _ _ (e_a5 _ _ h_a4)))))))))))), by simp, by simp, .inr (.inr (.inr (.inl ⟨rfl, rfl⟩)))⟩
    | 4, hy => cases hy; exact ⟨"name", a5, _, rfl, rfl, (e_gg _ _ (e_g2 _ _ (e_g0 _ _ (e_g1 _ _ (e_q4 _ _ (e_q3 _ _ (e_a8 _ _ (e_a7 _ _ (e_q2 _ _ (e_q1 _ _ (e_a6 _ _ h_a5))))))))))), by simp, by simp, .inr (.inr (.inr (.inr (.inl ⟨rfl, rfl⟩))))⟩
    | 5, hy => cases hy; exact ⟨"store", a6, _, rfl, rfl, (e_gg _ _ (e_g2 _ _ (e_g0 _ _ (e_g1 _ _ (e_q4 _ _ (e_q3 _ _ (e_a8 _ _ (e_a7 _ _ (e_q2 _ _ (e_q1 _ _ h_a6)))))))))), by simp, by simp, .inr (.inr (.inr (.inr (.inr (.inl ⟨rfl, rfl⟩)))))⟩
    | 6, hy => cases hy; exact ⟨"name", a7, _, rfl, rfl, (e_gg _ _ (e_g2 _ _ (e_g0 _ _ (e_g1 _ _ (e_q4 _ _ (e_q3 _ _ (e_a8 _ _ h_a7))))))), by simp, by simp, .inr (.inr (.inr (.inr (.inr (.inr (.inl ⟨rfl, rfl⟩))))))⟩
    | 7, hy => cases hy; exact ⟨"values", a8, _, rfl, rfl, (e_gg _ _ (e_g2 _ _ (e_g0 _ _ (e_g1 _ _ (e_q4 _ _ (e_q3 _ _ h_a8)))))), by simp, by simp, .inr (.inr (.inr (.inr (.inr (.inr (.inr (⟨rfl, rfl⟩)))))))⟩
    | j + 8, hy => exact absurd hy (by simp)
  have h_as : Bogg q4 = some (.lst ([.ref a1, .ref a2, .ref a3] ++ [.ref a4, .ref a5, .ref a6] ++ [.ref a7, .ref a8])) := (e_gg _ _ (e_g2 _ _ (e_g0 _ _ (e_g1 _ _ h_q4))))
  have hSB := hS.mono (Evl.Ex.trans e_a1 (Evl.Ex.trans e_a2 (Evl.Ex.trans e_a3 (Evl.Ex.trans e_w3 (Evl.Ex.trans e_a4 (Evl.Ex.trans e_a5 (Evl.Ex.trans e_a6 (Evl.Ex.trans e_q1 (Evl.Ex.trans e_q2 (Evl.Ex.trans e_a7 (Evl.Ex.trans e_a8 (Evl.Ex.trans e_q3 (Evl.Ex.trans e_q4 (Evl.Ex.trans e_g1 (Evl.Ex.trans e_g0 (Evl.Ex.trans e_g2 e_gg))))))))))))))))
  have eHB : Ex Hb Bogg := (Evl.Ex.trans e_a1 (Evl.Ex.trans e_a2 (Evl.Ex.trans e_a3 (Evl.Ex.trans e_w3 (Evl.Ex.trans e_a4 (Evl.Ex.trans e_a5 (Evl.Ex.trans e_a6 (Evl.Ex.trans e_q1 (Evl.Ex.trans e_q2 (Evl.Ex.trans e_a7 (Evl.Ex.trans e_a8 (Evl.Ex.trans e_q3 (Evl.Ex.trans e_q4 (Evl.Ex.trans e_g1 (Evl.Ex.trans e_g0 (Evl.Ex.trans e_g2 e_gg))))))))))))))))
  have W9 := Wogg
  have hgg := h_gg
  generalize Bogg = B at W9 keyG keyA h_as hSB eHB hgg
  refine ⟨gg, rfl, ⟨_, SqL.of (W9.ex _ _ hgg)⟩, ?_⟩
  refine for_it (walk_list (xs := [.ref g1, .ref g2])) (fun i σ H' => Wd B H' b (c + 150) ∧ ∃ y4 y5 y6 y7 y8 y9 y10 y11 y12 y16 y17 y18 y19 y20, σ = [some (.ref b), some (.ref x), some (.ref l), some (.int ((prodN (szs ns) : Nat) : Int)), y4, y5, y6, y7, y8, y9, y10, y11, y12, some (.str n0.1), some (.ref w3), some (.ref q4), y16, y17, y18, y19, y20]) ⟨W9, _, _, _, _, _, _, _, _, _, _, _, _, _, _, rfl⟩ (fun i σ H' _ p => SqL.of (p.1.ex _ _ hgg)) ?_ (fun σ H' p => by obtain ⟨p, y4, y5, y6, y7, y8, y9, y10, y11, y12, y16, y17, y18, y19, y20, rfl⟩ := p; exact ⟨(p.less eHB).mono (by omega), _, _, _, _, _, _, _, _, _, _, _, _, _, _, _, _, _, rfl⟩)
  rintro i y σ H2 H2' hi ⟨W2, y4, y5, y6, y7, y8, y9, y10, y11, y12, y16, y17, y18, y19, y20, rfl⟩ ⟨rfl, hy⟩
  obtain ⟨gr, xsg, dsg, rfl, hgs, h_gr, hAg⟩ := keyG y (List.mem_of_getElem? hy)
  refine ⟨_, rfl, (by show 8 ≤ sizeLine; decide), fun kz n_kz => ?_⟩
  obtain ⟨B2, e_kz, W3, h_kz⟩ := W2.new' (o2 := .lst [.str "store", .str "name", .str "values", .str "store", .str "name", .str "store", .str "name", .str "values"]) n_kz
  refine ⟨q4, kz, _, _, rfl, SqL.of (W3.ex _ _ (e_kz _ _ h_as)), SqL.of (W3.ex _ _ h_kz), ?_⟩
  refine for_it (walk_zip (n := 8) rfl) (fun j σ H' => Wd B2 H' b (c + 150) ∧ ∃ y4 y5 y6 y7 y8 y9 y10 y11 y12 y17 y18 y19 y20, σ = [some (.ref b), some (.ref x), some (.ref l), some (.int ((prodN (szs ns) : Nat) : Int)), y4, y5, y6, y7, y8, y9, y10, y11, y12, some (.str n0.1), some (.ref w3), some (.ref q4), some (.ref gr), y17, y18, y19, y20]) ⟨W3, _, _, _, _, _, _, _, _, _, _, _, _, _, rfl⟩ (fun j σ H' _ p => ⟨SqL.of (p.1.ex _ _ (e_kz _ _ h_as)), SqL.of (p.1.ex _ _ h_kz)⟩) ?_ (fun σ H' p => by obtain ⟨p, y4, y5, y6, y7, y8, y9, y10, y11, y12, y17, y18, y19, y20, rfl⟩ := p; exact ⟨p.less e_kz, _, _, _, _, _, _, _, _, _, _, _, _, _, _, rfl⟩)
  rintro j y σ H4 H4' hj ⟨W4, y4, y5, y6, y7, y8, y9, y10, y11, y12, y17, y18, y19, y20, rfl⟩ ⟨T1, x0, z0, rfl, nT, rfl, hx0, hz0⟩
  obtain ⟨k, ak, its, hk, rfl, h_ak, itl, kmem, hcase⟩ := keyA j x0 hx0
  have hz1 := hk.symm.trans hz0
  cases hz1
  have W5 := W4.skip (o := .tup [.ref ak, .str k]) nT
  refine ⟨T1, [.ref ak, .str k], rfl, SqT.of upd_same, rfl, _, _, rfl, _, _, rfl, rfl, ?_⟩
  obtain ⟨dp10, dl5, hpl, hsh, heq⟩ := plain28 dsg hgs k kmem
  have hAg2 : AtK5 K B2 (.ref gr) (.lst dsg) := .lst (e_kz _ _ h_gr) (hAg.up e_kz)
  refine ⟨_, rfl, B2, .ref gr, .lst dsg, rfl, W5.ex, hAg2, by omega, by decide, fun Hb' v' H7 kn av' _ hnew => ?_⟩
  obtain ⟨a, rfl, n_a⟩ := hnew rfl
  have W7 := W5.grow kn.hh
  refine ⟨fun σ H' => Ex H7 H' ∧ ∃ m, H' m = some (.lst [.str k, .ref a]) ∧ ∃ y4 y5 y6 y7 y8 y9 y10 y11 y20, σ = [some (.ref b), some (.ref x), some (.ref l), some (.int ((prodN (szs ns) : Nat) : Int)), y4, y5, y6, y7, y8, y9, y10, y11, some (.ref m), some (.str n0.1), some (.ref w3), some (.ref q4), some (.ref gr), some (.ref ak), some (.str k), some (.ref a), y20], ?_, ?_⟩
  · refine ⟨_, rfl, ak, rfl, ⟨_, SqL.of (W7.ex _ _ (e_kz _ _ h_ak))⟩, fun D hD => ?_⟩
    refine lc_fn (walk_list (xs := its)) (fun i => sub0 a (its.getD i .non)) (by omega) hD (fun H' e => SqL.of ((W7.grow e).ex _ _ (e_kz _ _ h_ak))) ?_ ?_
    · rintro i3 y H1' H1'' Z B' hi3 e hl3 ⟨rfl, hy⟩ hZ
      refine ⟨rfl, ?_⟩
      have hyd : its.getD i3 .non = y := by rw [List.getD_eq_getElem?_getD, hy]; rfl
      rw [hyd] at hZ
      unfold sub0 at hZ
      refine ⟨_, rfl, rfl, _, rfl, ?_⟩
      by_cases cn : y = .non
      · rw [if_pos cn] at hZ
        exact iteTo (decide_eq_true cn) ⟨_, rfl, hZ _ (Evl.Ex.refl _)⟩
      · rw [if_neg cn] at hZ
        exact iteFo (decide_eq_false cn) ⟨_, rfl, hZ _ (Evl.Ex.refl _)⟩
    intro H8 e8 hD8
    rw [range_map] at hD8
    have W8 := W7.grow e8
    have aA : AtK5 K H8 (.ref a) (.lst dsg) := av'.up (kn.bh.trans e8)
    have aS := hSB.mono (e_kz.trans W8.ex)
    have aW : AtK5 K H8 (.str n0.1) (.str n0.1) := .str _ w0
    have a0 : AtK5 K H8 (.int 0) (.int 0) := .int 0
    refine ⟨D, rfl, .inr ⟨x, ns, aS, hok, ?_⟩⟩
    rcases hcase with ⟨rfl, rfl⟩ | ⟨rfl, rfl⟩ | ⟨rfl, rfl⟩ | ⟨rfl, rfl⟩ | ⟨rfl, rfl⟩ | ⟨rfl, rfl⟩ | ⟨rfl, rfl⟩ | ⟨rfl, rfl⟩
    · exact .inl ⟨.ref a, .lst dsg, hD8, aA, fun h => Bool.noConfusion h, fun _ m H' e hm => ⟨e8.trans e, m, hm, _, _, _, _, _, _, _, _, _, rfl⟩⟩
    · exact .inr (.inr (.inl ⟨.ref a, .lst dsg, hD8, aA, fun h => Bool.noConfusion h, fun _ m H' e hm => ⟨e8.trans e, m, hm, _, _, _, _, _, _, _, _, _, rfl⟩⟩))
    · exact .inr (.inl ⟨.ref a, hD8, .inl ⟨.lst dsg, aA, (fun z => by cases z), fun m H' e hm => ⟨e8.trans e, m, hm, _, _, _, _, _, _, _, _, _, rfl⟩⟩⟩)
    · exact .inr (.inr (.inr (.inl ⟨.ref a, .str n0.1, .lst dsg, .str n0.1, hD8, aA, aW, fun h => Bool.noConfusion h, fun _ m H' e hm => ⟨e8.trans e, m, hm, _, _, _, _, _, _, _, _, _, rfl⟩, fun h => Bool.noConfusion h⟩)))
    · exact .inr (.inr (.inr (.inl ⟨.int 0, .ref a, .int 0, .lst dsg, hD8, a0, aA, fun _ h => Bool.noConfusion h, fun h => absurd (st0.symm.trans h) (by decide), fun _ _ m H' e hm => ⟨e8.trans e, m, hm, _, _, _, _, _, _, _, _, _, rfl⟩⟩)))
    · exact .inr (.inr (.inr (.inr ⟨.ref a, .str n0.1, .int 0, .lst dsg, .str n0.1, .int 0, hD8, aA, aW, a0, fun h => Bool.noConfusion h, fun _ m H' e hm => ⟨e8.trans e, m, hm, _, _, _, _, _, _, _, _, _, rfl⟩, fun h => Bool.noConfusion h, fun h => Bool.noConfusion h⟩)))
    · exact .inr (.inr (.inr (.inr ⟨.int 0, .ref a, .int 0, .int 0, .lst dsg, .int 0, hD8, a0, aA, a0, fun _ h => Bool.noConfusion h, fun h => absurd (st0.symm.trans h) (by decide), fun _ _ m H' e hm => ⟨e8.trans e, m, hm, _, _, _, _, _, _, _, _, _, rfl⟩, fun _ h => Bool.noConfusion h⟩)))
    · exact .inr (.inr (.inr (.inr ⟨.int 0, .str n0.1, .ref a, .int 0, .str n0.1, .lst dsg, hD8, a0, aW, aA, fun _ _ h => Bool.noConfusion h, fun h => absurd (st0.symm.trans h) (by decide), fun _ h => absurd (in0.symm.trans h) (by decide), fun _ _ _ m H' e hm => ⟨e8.trans e, m, hm, _, _, _, _, _, _, _, _, _, rfl⟩⟩)))
  rintro σ H9 ⟨e9, m, hm, y4, y5, y6, y7, y8, y9, y10, y11, y20, rfl⟩
  have aA := av'.up (kn.bh.trans e9)
  have W9 := W7.grow e9
  obtain ⟨a2, ys, q2, h_a, hys⟩ := at_lst aA
  cases q2
  have bl := hys.len
  have ma : m ≠ a := fun z => by rw [z] at hm; exact not_self aA hm
  have nb : a ≠ b := W5.ne n_a
  have fb : B2 a = none := W5.free n_a
  refine ⟨_, rfl, .inl ⟨rfl, _, SqL.of h_a⟩, a, ys, _, rfl, rfl, h_a, by omega, ?_⟩
  have W10 := W9.chg (o := .lst (ys ++ [.int 5])) fb nb
  have aG : AtK5 K (upd H9 a (.lst (ys ++ [.int 5]))) (.ref a) (.lst (dsg ++ [.int 5])) := .lst upd_same ((AtA.off h_a hys _ _ (Nat.le_refl _) hys).app (.cons (.int 5) .nil))
  have hm1 : (upd H9 a (.lst (ys ++ [.int 5]))) m = some (.lst [.str k, .ref a]) := by rw [upd_ne ma]; exact hm
  have lx := hAg.len
  have kl3 : k.length ≤ 1000 := by
    simp only [List.mem_cons, List.not_mem_nil, or_false] at kmem
    rcases kmem with rfl | rfl | rfl <;> decide
  refine ⟨_, rfl, _, rfl, _, rfl, (by show 1 ≤ sizeLine; decide), fun l5 n_l5 => ?_⟩
  have W11 := W10.skip (o := .lst [.int 5]) n_l5
  refine ⟨gr, l5, _, _, rfl, rfl, W11.ex _ _ (e_kz _ _ h_gr), upd_same, by show xsg.length + 1 ≤ sizeLine; omega, fun l6 n_l6 => ?_⟩
  have W12 := W11.skip (o := .lst (xsg ++ [.int 5])) n_l6
  refine ⟨(by show 2 ≤ sizeLine; decide), fun l7 n_l7 => ?_⟩
  have W13 := W12.skip (o := .lst [.str k, .ref l6]) n_l7
  have g13 := (Evl.Ex.new (o := .lst [.int 5]) n_l5).trans ((Evl.Ex.new (o := .lst (xsg ++ [.int 5])) n_l6).trans (Evl.Ex.new (o := .lst [.str k, .ref l6]) n_l7))
  have D1 : AtK5 K _ (.ref m) (.lst [.str k, .lst (dsg ++ [.int 5])]) := .lst (g13 _ _ hm1) (.cons (.str _ kl3) (.cons (aG.up g13) .nil))
  have D2 : AtK5 K _ (.ref l7) (.lst [.str k, .lst (dsg ++ [.int 5])]) := .lst (upd_same (H := upd (upd (upd H9 a (.lst (ys ++ [.int 5]))) l5 (.lst [.int 5])) l6 (.lst (xsg ++ [.int 5])))) (.cons (.str _ kl3) (.cons (.lst ((Evl.Ex.new n_l7) _ _ upd_same) ((hAg.up (e_kz.trans W13.ex)).app (.cons (.int 5) .nil))) .nil))
  refine ⟨_, _, At.dp _ _ hpl D1, At.dp _ _ hpl D2, hsh, hsh, _, rfl, iteFo (by rw [heq]; rfl) ?_⟩
  exact ⟨W13, _, _, _, _, _, _, _, _, _, _, _, _, _, rfl⟩

end
end K05
set_option Elab.async false
set_option linter.all false
set_option maxRecDepth 100000
set_option maxHeartbeats 1000000
/-! HxL: a dict against itself -/
namespace L2
open PySem PySem.Spec PyProof.Rows
theorem hits_self {κ : Type} [DecidableEq κ] {A : Around} {s : Shared} {va : List (κ × Value)} (nd : (va.map (·.1)).Nodup) : PySem.W.KeqHits A s va va true := by
  have g : ∀ r : List (κ × Value), (∀ p ∈ r, p ∈ va) → PySem.W.KeqHits A s va r true := by
    intro r
    induction r with
    | nil => exact fun _ => .nil
    | cons p r ih =>
      intro h
      obtain ⟨k, v⟩ := p
      have q := ih fun p hp => h p (List.mem_cons_of_mem _ hp)
      show PySem.W.KeqHits A s va ((k, v) :: r) (true && true)
      exact .hit (PySem.valueAt_of_mem nd (h _ List.mem_cons_self)) (SeqAt.EqAt.same _) q
  exact g va fun _ h => h
theorem kv_keys {κ : Type} : ∀ {ks : List (κ × V)} {va : List (κ × Value)}, KV ks va → va.map (·.1) = ks.map (·.1)
  | _, _, .nil => rfl
  | _, _, .cons h t => by
    rw [List.map_cons, List.map_cons, kv_keys t, h.1]
def rNeI : R2 := fun x y H Q => ∃ a ks, x = .ref a ∧ y = .ref a ∧ H a = some (.dK ks) ∧ (ks.map (·.1)).Nodup ∧ Q (.bl false) H
theorem op_neDictI {X : Cx} (hu : X.A.units < cLine) : OpR X (compareOp .NotEq) rNeI := by
  intro pins s σ H x y v u Q I rx ry h
  obtain ⟨a, ks, rfl, rfl, ea, nd, q⟩ := h
  obtain rfl : v = Value.ref a := rx
  obtain rfl : u = Value.ref a := ry
  obtain ⟨_, ya, va, ra, da⟩ := (show ObjOk X.prog X.w H s.heap a (.dK ks) from I.hok a _ ea)
  exact PySem.W.keq_ne (knd := mixKind X.prog X.w) (r := true) ya ya da da hu (fun _ => hits_self (by rw [kv_keys ra]; exact nd)) (fin_bl I q (by simp))
end L2
set_option Elab.async false
set_option linter.all false
set_option maxRecDepth 100000
set_option maxHeartbeats 400000
namespace K05
open PySem PySem.Spec PyProof.Rows L2 C8
/-- a dict of texts with things -/
def Dk (R : Addr) (B : Hp) (kvs : List (Key × V)) : Prop := (∀ p ∈ kvs, (∃ z : Str, p.1 = .inr z ∧ z.length ≤ 1000) ∧ ∃ t, At R B p.2 t ∧ dep t ≤ 5) ∧ (kvs.map (·.1)).Nodup ∧ kvs.length ≤ 10
theorem mem_put {kvs : List (Key × V)} {k : Key} {v : V} {p : Key × V} (h : p ∈ putK kvs k v) : p ∈ kvs ∨ p = (k, v) := by
  unfold putK at h
  split at h
  · obtain ⟨q, hq, e⟩ := List.mem_map.mp h
    by_cases c : q.1 = k
    · rw [if_pos c] at e
      exact .inr (by rw [← e, c])
    · rw [if_neg c] at e
      exact .inl (by rw [← e]; exact hq)
  · rcases List.mem_append.mp h with h | h
    · exact .inl h
    · exact .inr (by simpa using h)
theorem keys_put {kvs : List (Key × V)} {k : Key} {v : V} (h : (kvs.map (·.1)).Nodup) : ((putK kvs k v).map (·.1)).Nodup := by
  cases q : valV kvs k with
  | none =>
    rw [putK_new v q, List.map_append]
    rw [List.nodup_append]
    refine ⟨h, by simp, fun a ha b hb => ?_⟩
    have e : b = k := by simpa using hb
    rw [e]
    intro z
    rw [z] at ha
    obtain ⟨p, hp, e2⟩ := List.mem_map.mp ha
    unfold valV at q
    have := List.find?_eq_none.mp (Option.map_eq_none_iff.mp q) p hp
    exact this (decide_eq_true e2)
  | some y =>
    have ha : (kvs.any fun kv => decide (kv.1 = k)) = true := by rw [valV_any, q]; rfl
    unfold putK
    rw [if_pos ha, List.map_map]
    have e : ((fun x : Key × V => x.1) ∘ fun kv : Key × V => if kv.1 = k then (kv.1, v) else kv) = fun x : Key × V => x.1 := by
      funext kv
      show (if kv.1 = k then (kv.1, v) else kv).1 = kv.1
      split <;> rfl
    rw [e]
    exact h
theorem put_few {kvs : List (Key × V)} {k : Key} {v : V} : (putK kvs k v).length ≤ kvs.length + 1 := by
  unfold putK
  split
  · rw [List.length_map]; omega
  · rw [List.length_append]; exact Nat.le_refl _
theorem Dk.put {R : Addr} {B : Hp} {kvs : List (Key × V)} (h : Dk R B kvs) {z : Str} {v : V} {t : Th} (hz : z.length ≤ 1000) (hv : At R B v t) (dt : dep t ≤ 5) (hl : kvs.length ≤ 9) : Dk R B (putK kvs (.inr z) v) := by
  refine ⟨fun p hp => ?_, keys_put h.2.1, Nat.le_trans put_few (by omega)⟩
  rcases mem_put hp with hp | rfl
  · exact h.1 p hp
  · exact ⟨⟨z, rfl, hz⟩, t, hv, dt⟩
theorem Dk.drop {R : Addr} {B : Hp} {kvs : List (Key × V)} (h : Dk R B kvs) (k : Key) : Dk R B (dropK kvs k) := by
  have sub : (dropK kvs k).Sublist kvs := List.filter_sublist
  exact ⟨fun p hp => h.1 p (sub.subset hp), h.2.1.sublist (sub.map _), Nat.le_trans sub.length_le h.2.2⟩
theorem Dk.up {R : Addr} {B B' : Hp} {kvs : List (Key × V)} (h : Dk R B kvs) (e : Ex B B') : Dk R B' kvs :=
  ⟨fun p hp => ⟨(h.1 p hp).1, (h.1 p hp).2.imp fun _ q => ⟨q.1.up e, q.2⟩⟩, h.2⟩
theorem Dk.dic {R : Addr} {B : Hp} : ∀ {kvs : List (Key × V)}, Dk R B kvs → ∃ ds, AtK R B kvs ds ∧ depK ds ≤ 5 ∧ ds.length = kvs.length
  | [], _ => ⟨[], .nil, by simp [depK], rfl⟩
  | (k, v) :: r, h => by
    obtain ⟨⟨z, e, hz⟩, t, ht, dt⟩ := h.1 (k, v) List.mem_cons_self
    obtain ⟨ds, h1, h2, h3⟩ := Dk.dic (kvs := r) ⟨fun p hp => h.1 p (List.mem_cons_of_mem _ hp), (List.nodup_cons.mp h.2.1).2, by have := h.2.2; simp only [List.length_cons] at this; omega⟩
    have e : k = .inr z := e
    subst e
    exact ⟨(z, t) :: ds, .cons hz ht h1, by simp only [depK]; omega, by simp [h3]⟩
theorem valV_mem {kvs : List (Key × V)} {k : Key} {v : V} (h : valV kvs k = some v) : ∃ p ∈ kvs, p.2 = v := by
  unfold valV at h
  obtain ⟨p, hp, e⟩ := Option.map_eq_some_iff.mp h
  exact ⟨p, List.mem_of_find?_eq_some hp, e⟩
theorem Dk.val {R : Addr} {B : Hp} {kvs : List (Key × V)} (h : Dk R B kvs) : ∀ z u, valV kvs (.inr z) = some u → ∃ t, At R B u t := by
  intro z u q
  obtain ⟨p, hp, e⟩ := valV_mem q
  obtain ⟨_, t, ht, _⟩ := h.1 p hp
  exact ⟨t, by rw [← e]; exact ht⟩
theorem Wf.chg {Hb H : Hp} {b f : Addr} {c : Nat} {o o2 : HO} (W : Wf Hb H b c f o) : Wf Hb (upd H f o2) b c f o2 := ⟨W.w.chg W.bf W.nf, upd_same, W.bf, W.nf⟩
theorem Wf.mono {Hb H : Hp} {b f : Addr} {c d : Nat} {o : HO} (W : Wf Hb H b c f o) (h : c ≤ d) : Wf Hb H b d f o := ⟨W.w.mono h, W.hf, W.bf, W.nf⟩
theorem Wf.grow {Hb H H' : Hp} {b f : Addr} {c : Nat} {o : HO} (W : Wf Hb H b c f o) (e : Ex H H') : Wf Hb H' b c f o := ⟨W.w.grow e, e _ _ W.hf, W.bf, W.nf⟩
theorem AtK.mem {R : Addr} {H : Hp} : ∀ {kvs : List (Key × V)} {ds : List (Str × Th)}, AtK R H kvs ds → ∀ p ∈ kvs, ∃ t, At R H p.2 t
  | _, _, .nil, p, h => by cases h
  | _, _, .cons _ h1 h2, p, h => by
    rcases List.mem_cons.mp h with rfl | h
    · exact ⟨_, h1⟩
    · exact AtK.mem h2 p h
/-- dicts that are no values -/
theorem badV {R : Addr} {H : Hp} {ns : NS} (hok : NsOk ns) (hw2 : ∀ n, ns[0]? = some n → 2 ≤ n.1.length) {kvs : List (Key × V)} {l : List (Str × Th)} (h : AtK R H kvs l) (hl : l = [] ∨ l = aZero) : valsB ns kvs = false := by
  have hn := hok.len
  rcases hl with rfl | rfl
  · cases h
    unfold valsB
    rw [decide_eq_false (fun z => by have z : 0 = ns.length := z; omega)]
    rfl
  · cases h with
    | cons _ h1 h2 =>
      cases h2
      cases h1
      unfold valsB
      by_cases c : ns.length = 1
      · obtain ⟨n, hn0⟩ : ∃ n, ns[0]? = some n := ⟨_, List.getElem?_eq_getElem (by omega)⟩
        have w2 := hw2 n hn0
        have vb : valB [((.inr ("a" : Str) : Key), V.int 0)] n = false := by
          unfold valB
          rw [valV_neg (p := ((.inr ("a" : Str) : Key), V.int 0)) (r := []) (fun z => by
            have z : ("a" : Str) = n.1 := Sum.inr.inj z
            rw [← z] at w2
            exact absurd w2 (by decide +kernel))]
          rfl
        rw [Bool.and_eq_false_iff]
        right
        rw [List.all_eq_false]
        exact ⟨n, List.mem_of_getElem? hn0, by rw [vb]; decide⟩
      · rw [decide_eq_false (fun z => c (by have z : 1 = ns.length := z; omega))]
        rfl
theorem store_odd {K : PySem.W.Frag} {ns : NS} {H : Hp} {v : V} {d : Th} {Q : VK} (hv : AtK5 K H v d) (hok : NsOk ns) (hw2 : ∀ n, ns[0]? = some n → 2 ≤ n.1.length) (hl : ∀ l, d = .dic l → l = [] ∨ l = aZero) (e : Err Q H "values" v) :
    (∃ d', AtK5 K H v d' ∧ d'.kd ≠ .dic ∧ Err Q H "values" v) ∨ ∃ (a : Addr) (kvs : List (Key × V)), v = .ref a ∧ H a = some (.dK kvs) ∧ (∀ z u, valV kvs (.inr z) = some u → ∃ t, AtK5 K H u t) ∧ (valsB ns kvs = true → Tld Q H fun _ _ => True) ∧ (valsB ns kvs = false → Err Q H "values" v) := by
  cases d with
  | dic l =>
    obtain ⟨a, kvs, rfl, ha, hk⟩ := at_dic hv
    have bad := badV hok hw2 hk (hl l rfl)
    refine .inr ⟨a, kvs, rfl, ha, fun z u q => ?_, fun z => absurd (bad.symm.trans z) (by decide), fun _ => e⟩
    obtain ⟨p, hp, rfl⟩ := valV_mem q
    exact AtK.mem hk p hp
  | _ => exact .inl ⟨_, hv, (fun z => by cases z), e⟩
theorem at_gp {R : Addr} {H : Hp} {v : V} {z : Str} {i : Int} (h : At R H v (.tup [.str z, .int i])) : ∃ p, v = .ref p ∧ Rd H p (.tup [.str z, .int i]) := by
  cases h with
  | tup h1 h2 =>
    cases h2 with
    | cons a h2 =>
      cases h2 with
      | cons b h2 =>
        cases h2
        cases a
        cases b
        exact ⟨_, rfl, h1⟩
theorem at_ints {R : Addr} {H : Hp} (f : Nat → Int) : ∀ l : List Nat, AtA R H (l.map fun i => V.int (f i)) (l.map fun i => Th.int (f i))
  | [] => .nil
  | a :: l => .cons (.int _) (at_ints f l)
theorem dep_ints (f : Nat → Int) : ∀ l : List Nat, depA (l.map fun i => Th.int (f i)) = 0
  | [] => rfl
  | a :: l => by
    have e : depA ((a :: l).map fun i => Th.int (f i)) = max 0 (depA (l.map fun i => Th.int (f i))) := rfl
    rw [e, dep_ints f l]
    rfl
/-- names with values -/
abbrev GS := List (Str × Int)
def gkvs (gs : GS) : List (Key × V) := gs.map fun g => (.inr g.1, .int g.2)
def gth (gs : GS) : List Th := gs.map fun g => .tup [.str g.1, .int g.2]
structure GOk (ns : NS) (gs : GS) : Prop where
  ln : gs.length = ns.length
  kv : ∀ (j : Nat) g n, gs[j]? = some g → ns[j]? = some n → g.1 = n.1 ∧ 0 ≤ g.2 ∧ g.2 < (n.2 : Int)
theorem GOk.keys {ns : NS} {gs : GS} (h : GOk ns gs) : (gkvs gs).map (·.1) = (wds ns).map Sum.inr := by
  unfold gkvs wds
  rw [List.map_map, List.map_map]
  apply List.ext_getElem?
  intro i
  rw [List.getElem?_map, List.getElem?_map]
  by_cases hi : i < gs.length
  · obtain ⟨g, hg⟩ : ∃ g, gs[i]? = some g := ⟨_, List.getElem?_eq_getElem hi⟩
    obtain ⟨n, hn⟩ : ∃ n, ns[i]? = some n := ⟨_, List.getElem?_eq_getElem (by rw [← h.ln]; exact hi)⟩
    rw [hg, hn]
    show some (Sum.inr g.1) = some (Sum.inr n.1)
    rw [(h.kv i g n hg hn).1]
  · rw [List.getElem?_eq_none (by omega), List.getElem?_eq_none (by have := h.ln; omega)]
    rfl
theorem GOk.nd {ns : NS} {gs : GS} (h : GOk ns gs) (hok : NsOk ns) : ((gkvs gs).map (·.1)).Nodup := by rw [h.keys]; exact key_nodup hok.nd
/-- a dict of good values, in any order -/
theorem vals_good {ns : NS} {kvs : List (Key × V)} (nd : (kvs.map (·.1)).Nodup) (hl : kvs.length = ns.length) (h : ∀ n ∈ ns, ∃ i : Int, ((.inr n.1 : Key), V.int i) ∈ kvs ∧ 0 ≤ i ∧ i < (n.2 : Int)) : valsB ns kvs = true := by
  unfold valsB
  rw [decide_eq_true hl, Bool.true_and, List.all_eq_true]
  intro n hn
  obtain ⟨i, hi, i0, i1⟩ := h n hn
  obtain ⟨j, hj⟩ := List.getElem?_of_mem hi
  unfold valB
  rw [valV_at nd hj]
  show (decide (0 ≤ i) && decide (i ≤ (n.2 : Int) - 1)) = true
  rw [decide_eq_true i0, decide_eq_true (by omega)]
  rfl
theorem GOk.mem {ns : NS} {gs : GS} (h : GOk ns gs) : ∀ n ∈ ns, ∃ i : Int, ((.inr n.1 : Key), V.int i) ∈ gkvs gs ∧ 0 ≤ i ∧ i < (n.2 : Int) := by
  intro n hn
  obtain ⟨j, hj⟩ := List.getElem?_of_mem hn
  obtain ⟨g, hg⟩ : ∃ g, gs[j]? = some g := ⟨_, List.getElem?_eq_getElem (by rw [h.ln]; exact (List.getElem?_eq_some_iff.mp hj).1)⟩
  obtain ⟨e, g0, g1⟩ := h.kv j g n hg hj
  exact ⟨g.2, by rw [← e]; exact List.mem_map.mpr ⟨g, List.mem_of_getElem? hg, rfl⟩, g0, g1⟩
theorem GOk.rev {ns : NS} {gs : GS} (h : GOk ns gs) (hok : NsOk ns) : valsB ns (gkvs gs).reverse = true :=
  vals_good (by rw [List.map_reverse]; exact (List.reverse_perm _).nodup_iff.mpr (h.nd hok)) (by rw [List.length_reverse]; show (gs.map _).length = _; rw [List.length_map, h.ln]) (fun n hn => by
    obtain ⟨i, hi, q⟩ := h.mem n hn
    exact ⟨i, List.mem_reverse.mpr hi, q⟩)
/-- their pairs stand at ts -/
def Gd (B : Hp) (ts : List Addr) (gs : GS) : Prop := Paired (fun t (g : Str × Int) => B t = some (.tup [.str g.1, .int g.2])) ts gs
theorem Gd.up {B B' : Hp} (e : Ex B B') : ∀ {ts : List Addr} {gs : GS}, Gd B ts gs → Gd B' ts gs
  | _, _, .nil => .nil
  | _, _, .cons h t => .cons (e _ _ h) (Gd.up e t)
theorem Gd.snoc {B : Hp} {t : Addr} {g : Str × Int} (h : B t = some (.tup [.str g.1, .int g.2])) : ∀ {ts : List Addr} {gs : GS}, Gd B ts gs → Gd B (ts ++ [t]) (gs ++ [g])
  | _, _, .nil => .cons h .nil
  | _, _, .cons a t => .cons a (Gd.snoc h t)
theorem Gd.len {B : Hp} : ∀ {ts : List Addr} {gs : GS}, Gd B ts gs → ts.length = gs.length
  | _, _, .nil => rfl
  | _, _, .cons _ t => congrArg (· + 1) (Gd.len t)
theorem Gd.rev {B : Hp} : ∀ {ts : List Addr} {gs : GS}, Gd B ts gs → Gd B ts.reverse gs.reverse
  | _, _, .nil => .nil
  | _, _, .cons a t => by
    rw [List.reverse_cons, List.reverse_cons]
    exact Gd.snoc a (Gd.rev t)
theorem Gd.at {R : Addr} {B : Hp} : ∀ {ts : List Addr} {gs : GS}, (∀ g ∈ gs, g.1.length ≤ 1000) → Gd B ts gs → AtA R B (ts.map V.ref) (gth gs)
  | _, _, _, .nil => .nil
  | _, _, hw, .cons a t => .cons (.tup (.inl a) (.cons (.str _ (hw _ (List.mem_cons_self ..))) (.cons (.int _) .nil))) (Gd.at (fun g hg => hw g (List.mem_cons_of_mem _ hg)) t)
theorem Gd.kvs {K : PySem.W.Frag} {B : Hp} : ∀ {ts : List Addr} {gs : GS}, Gd B ts gs → Paired (fun p kv => SqT K B p [kV kv.1, kv.2]) ts (gkvs gs)
  | _, _, .nil => .nil
  | _, _, .cons a t => .cons (.inl (.inl a)) (Gd.kvs t)
theorem dep_gth : ∀ gs : GS, depA (gth gs) ≤ 3
  | [] => by simp [gth, depA]
  | g :: l => by
    have := dep_gth l
    have e : depA (gth (g :: l)) = max (dep (.tup [.str g.1, .int g.2])) (depA (gth l)) := rfl
    have e2 : dep (.tup [.str g.1, .int g.2]) = 3 := rfl
    omega
theorem Gd.dk {R : Addr} {B : Hp} {ns : NS} {gs : GS} (h : GOk ns gs) (hok : NsOk ns) : Dk R B (gkvs gs) := by
  refine ⟨fun p hp => ?_, h.nd hok, ?_⟩
  · obtain ⟨g, hg, rfl⟩ := List.mem_map.mp hp
    obtain ⟨j, hj⟩ := List.getElem?_of_mem hg
    obtain ⟨n, hn⟩ : ∃ n, ns[j]? = some n := ⟨_, List.getElem?_eq_getElem (by rw [← h.ln]; exact (List.getElem?_eq_some_iff.mp hj).1)⟩
    have e := (h.kv j g n hj hn).1
    refine ⟨⟨g.1, rfl, ?_⟩, .int g.2, .int _, by simp [dep]⟩
    rw [e]
    exact Nat.le_trans (hok.wd _ (List.mem_map_of_mem (List.mem_of_getElem? hn))).hi (by omega)
  · show (gs.map _).length ≤ 10
    have := hok.len
    rw [List.length_map, h.ln]
    omega
section
variable {P : Program} {w : World} {K : PySem.W.Frag} {mg : Str → Option Value} {base : Heap}
abbrev N_l_values_right : List Str := ["box", "space", "names", "turn", "good", "at", "way", "word", "size", "odd", "kept", "told", "name", "value"]
theorem sc_l_values_right : FnScope N_l_values_right ["box", "space", "names"] (defScope (top 50)) := ⟨rfl, rfl, rfl, by decide +kernel, rfl, by decide +kernel, by decide +kernel⟩
/-- store_of, asked with good and bad dicts -/
def spValuesR (K : PySem.W.Frag) : Sp := fun vs H Q _ => ∃ (Hb : Hp) (b : Addr) (c : Nat) (x l : Addr) (ns : NS), vs = [.ref b, .ref x, .ref l] ∧ Wd Hb H b c ∧ c ≤ 200000 ∧ SpaceAt K Hb x ns ∧ NamesAt Hb l ns ∧ NsOk ns ∧ (∀ n, ns[0]? = some n → 2 ≤ n.1.length) ∧ ∀ H', Wd Hb H' b (c + 200) → Q (.bl true) H'
theorem ok_l_values_right (T : Txt K mg) (C_l_take : Cal P w K mg base 1 "_law_take" spTake []) (C_l_odd : Cal P w K mg base 4 "_law_odd" (spOddT K) []) (C_l_are_values : Cal P w K mg base 1 "_law_are_values" (spAreVals K) []) (C_l_copy : Cal P w K mg base 41 "_law_copy" (spCopy K 40) []) (C_l_met : Cal P w K mg base 8 "_law_met" (spMet K) []) (C_l_same : Cal P w K mg base 44 "_law_same" (spSame K 40) []) (M_Ratio : Mak P w K mg base 2 "Ratio" (He.ga K "Ratio") (spRat K) [.int 1]) : Cal P w K mg base 46 "_law_values_right" (spValuesR K) [] := by
  obtain ⟨fd, F⟩ := T.d__law_values_right
  refine ⟨_, fd, ["box", "space", "names"], [], ?_, T.g__law_values_right, F.kp, F.bindsN fun _ _ _ _ _ _ us hl => match us, hl with | [_, _, _], _ => rfl, .nil⟩
  refine F.ok sc_l_values_right (fun vs H Q E h => by obtain ⟨_, _, _, _, _, _, rfl, _⟩ := h; rfl) (fun cdv A outer s H vs Q E hr h => ?_)
  have hu := hu_of hr
  refine ⟨_, PSs.nox (pss_cut (ps_for PassesOwn.never rfl (pi_range1 (by rfl) T.f_range (pa_cons pe_int pa_nil)) (pg_name (i := 3) sc_l_values_right.nd rfl (Or.inl rfl)) (pss_cons (ps_setLc (i := 4) (own := [("name", 12), ("size", 8)]) rfl sc_l_values_right.nd rfl rfl (sw_true rfl rfl rfl (by decide +kernel)) (pi_list (pv 2)) (blkOk_by (own := [("name", 12), ("size", 8)]) (N := N_l_values_right) (sc := defScope (top 50)) (by decide +kernel)) (fun _ _ _ _ _ => (pgT (K := K) (n := 2) rfl (by rfl) (pgs_cons (pg_name (i := 12) sc_l_values_right.nd rfl (Or.inl rfl)) (pgs_cons (pg_name (i := 8) sc_l_values_right.nd rfl (Or.inl rfl)) pgs_nil)))) (fun _ _ _ _ _ => pts_nil) (fun _ _ _ _ _ => (pe_tup (pa_cons (pv 12) (pa_cons (pe_c C_l_take hr (by omega) rfl (pa_cons (pv 0) (pa_cons (pv 8) pa_nil))) pa_nil)))))
      (pss_cons (ps_par (i := 5) (j := 6) (by rfl) sc_l_values_right.nd rfl rfl (by decide) rfl rfl (pa_cons (pe_c C_l_take hr (by omega) rfl (pa_cons (pv 0) (pa_cons (pe_callB call_len_seq (by rfl) T.f_len (by decide +kernel) (pa_cons (pv 2) pa_nil)) pa_nil))) (pa_cons (pe_c C_l_take hr (by omega) rfl (pa_cons (pv 0) (pa_cons pe_int pa_nil))) pa_nil)) (by rfl))
      (pss_cons (ps_asg (pe_ix ix_list (pv 2) (pv 5) (fun _ _ => rfl)) (pg_tup (by rfl) (pgs_cons (pg_name (i := 7) sc_l_values_right.nd rfl (Or.inl rfl)) (pgs_cons (pg_name (i := 8) sc_l_values_right.nd rfl (Or.inl rfl)) pgs_nil))))
      (pss_cons (ps_set (i := 9) sc_l_values_right.nd rfl (Or.inl rfl) (pe_callTy (call_dictP rfl) (by rfl) T.f_dict (by decide +kernel) (pa_cons (pv 4) pa_nil)))
      (pss_cut (ps_if (pt_cmpR op_lt (pv 6) pe_int (nomark _)) (pss_one (ps_dput hu (pv 9) (pv 7) (pe_ix ix_list (pe_lst (pa_cons (pv 8) (pa_cons (pe_un un_neg pe_int) (pa_cons (pe_ix ix_list (pe_lst (pa_cons pe_non (pa_cons pe_bl (pa_cons pe_str (pa_cons (pe_lst (pa_cons pe_int pa_nil)) (pa_cons (pe_tup (pa_cons pe_int pa_nil)) (pa_cons (pe_mk M_Ratio hr (by omega) rfl (pa_cons pe_int pa_nil)) pa_nil))))))) (pe_c C_l_take hr (by omega) rfl (pa_cons (pv 0) (pa_cons pe_int pa_nil))) (fun _ _ => rfl)) (pa_cons (pe_op op_pow pe_int pe_int) (pa_cons pe_bl (pa_cons (pe_op op_sub pe_int (pv 8)) pa_nil))))))) (pv 6) (fun _ _ => rfl)) rfl)) (pss_one (ps_if (pt_cmpR op_eq (pv 6) pe_int (nomark _)) (pss_one (ps_expr (pe_dpop1 (pv 9) (pv 7) ⟨rfl, rfl, rfl, rfl⟩))) (pss_one (ps_dput hu (pv 9) (pe_ix ix_list (pe_lst (pa_cons (pe_op op_add_str (pv 7) pe_str) (pa_cons pe_str (pa_cons pe_str (pa_cons (pe_upper (pv 7)) (pa_cons (pe_op op_add_str (pe_slice sl_str (pv 7) po_none (po_some (pe_un un_neg pe_int))) pe_str) pa_nil)))))) (pe_c C_l_take hr (by omega) rfl (pa_cons (pv 0) (pa_cons pe_int pa_nil))) (fun _ _ => rfl)) pe_int rfl)))))
      (pss_cons (ps_set (i := 10) sc_l_values_right.nd rfl (Or.inl rfl) (pe_callTy call_dictD (by rfl) T.f_dict (by decide +kernel) (pa_cons (pv 9) pa_nil)))
      (pss_cut (ps_set (i := 11) sc_l_values_right.nd rfl (Or.inl rfl) (pe_c C_l_met hr (by omega) rfl (pa_cons (pe_lst (pa_cons pe_str (pa_cons (pv 1) (pa_cons (pv 9) pa_nil)))) pa_nil)))
      (pss_cut (ps_if (pt_val (pe_c C_l_are_values hr (by omega) rfl (pa_cons (pv 10) (pa_cons (pv 2) pa_nil)))) (pss_one (ps_if (pt_cmpR op_ne (pe_ix ix_list (pv 11) pe_int (fun _ _ => rfl)) pe_str (nomark _)) (pss_one (ps_ret pe_bl)) pss_nil)) (pss_one (ps_if (pt_not (pt_val (pe_c C_l_same hr (by omega) rfl (pa_cons (pv 11) (pa_cons (pe_lst (pa_cons pe_str (pa_cons (pv 10) pa_nil))) pa_nil))))) (pss_one (ps_ret pe_bl)) (pss_cons (ps_dput hu (pv 9) pe_str (pv 3) rfl)
      (pss_one (ps_if (pt_cmpR (op_neDictI (Nat.lt_trans (Nat.lt_succ_self _) hu)) (pe_ix ix_list (pv 11) pe_int (fun _ _ => rfl)) (pv 9) (nomark _)) (pss_one (ps_ret pe_bl)) pss_nil))))))
      (pss_one (ps_if (pt_cmpR op_ne (pe_ix ix_list (pe_c C_l_met hr (by omega) rfl (pa_cons (pe_lst (pa_cons pe_str (pa_cons (pv 1) (pa_cons (pe_callTy (call_dictP rfl) (by rfl) T.f_dict (by decide +kernel) (pa_cons (pe_revL (pv 4)) pa_nil)) pa_nil)))) pa_nil)) pe_int (fun _ _ => rfl)) pe_str (nomark _)) (pss_one (ps_ret pe_bl)) pss_nil)))))))))))
      (pss_cut (ps_for PassesOwn.never rfl (pi_list (pe_lst (pa_cons (pe_c C_l_odd hr (by omega) rfl (pa_cons (pv 0) pa_nil)) (pa_cons (pv 4) (pa_cons (pe_callTy call_tupF (by rfl) T.f_tuple (by decide +kernel) (pa_cons (pv 4) pa_nil)) (pa_cons (pe_lc (own := [("name", 12), ("value", 13)]) rfl sc_l_values_right.nd (pi_list (pv 4)) (blkOk_by (own := [("name", 12), ("value", 13)]) (N := N_l_values_right) (sc := defScope (top 50)) (by decide +kernel)) (fun _ _ _ _ _ => (pgT (K := K) (n := 2) rfl (by rfl) (pgs_cons (pg_name (i := 12) sc_l_values_right.nd rfl (Or.inl rfl)) (pgs_cons (pg_name (i := 13) sc_l_values_right.nd rfl (Or.inl rfl)) pgs_nil)))) (fun _ _ _ _ _ => pts_nil) (fun _ _ _ _ _ => (pv 13))) (pa_cons pe_dnewK (pa_cons pe_non (pa_cons pe_int (pa_cons pe_str (pa_cons (pe_lst (pa_cons (pv 4) pa_nil)) pa_nil))))))))))) (pg_name (i := 9) sc_l_values_right.nd rfl (Or.inl rfl)) (pss_one (ps_if (pt_not (pt_val (pe_c C_l_same hr (by omega) rfl (pa_cons (pe_c C_l_met hr (by omega) rfl (pa_cons (pe_lst (pa_cons pe_str (pa_cons (pv 1) (pa_cons (pe_c C_l_copy hr (by omega) rfl (pa_cons (pv 9) pa_nil)) pa_nil)))) pa_nil)) (pa_cons (pe_lst (pa_cons pe_str (pa_cons (pv 9) pa_nil))) pa_nil))))) (pss_one (ps_ret pe_bl)) pss_nil)))
      (pss_one (ps_ret pe_bl)))), ?_⟩
  obtain ⟨Hb, b, c, x, l, ns, rfl, W, hc, hS, ⟨ps, hl, hT⟩, hok, hw2, hQ⟩ := h
  have lim : 1000 < sizeLine := by decide
  have hn1 := hok.len
  have hlen := hT.length
  refine ⟨fun σ H' => Wd Hb H' b (c + 150) ∧ (∃ B g gs, Ex Hb B ∧ Wd B H' b (c + 150) ∧ AtK5 K B (.ref g) (.lst (gth gs)) ∧ GOk ns gs ∧ (∃ y3 y5 y6 y7 y8 y9 y10 y11 y12 y13, σ = [some (.ref b), some (.ref x), some (.ref l), y3, some (.ref g), y5, y6, y7, y8, y9, y10, y11, y12, y13])), ?_, ?_⟩
  · refine ⟨8, rfl, by decide, by decide, for_range (n := 8) (fun i σ H' => Wd Hb H' b (c + 16 * i) ∧ (0 < i → ∃ B g gs, Ex Hb B ∧ Wd B H' b (c + 16 * i) ∧ AtK5 K B (.ref g) (.lst (gth gs)) ∧ GOk ns gs ∧ (∃ y3 y5 y6 y7 y8 y9 y10 y11 y12 y13, σ = [some (.ref b), some (.ref x), some (.ref l), y3, some (.ref g), y5, y6, y7, y8, y9, y10, y11, y12, y13])) ∧ ∃ y3 y4 y5 y6 y7 y8 y9 y10 y11 y12 y13, σ = [some (.ref b), some (.ref x), some (.ref l), y3, y4, y5, y6, y7, y8, y9, y10, y11, y12, y13]) ⟨W, (fun z => absurd z (by decide)), _, _, _, _, _, _, _, _, _, _, _, rfl⟩ ?_ (fun σ H' p => by obtain ⟨p, q, _⟩ := p; obtain ⟨B, g, gs, q1, q2, q3, q4, q5⟩ := q (by decide); exact ⟨p.mono (by omega), B, g, gs, q1, q2.mono (by omega), q3, q4, q5⟩)⟩
    rintro i σ H1 hi ⟨W1, _, y3, y4, y5, y6, y7, y8, y9, y10, y11, y12, y13, rfl⟩
    refine ⟨_, rfl, l, rfl, ⟨_, SqL.of (W1.ex _ _ hl)⟩, fun D hD => ?_⟩
    have nD := W1.ne hD
    refine lc_it (walk_list (xs := ps.map V.ref)) (fun j H' => ∃ B2 ts gs, Ex Hb B2 ∧ Wd B2 H' b (c + 16 * i + j) ∧ B2 D = none ∧ H' D = some (.lst (ts.map V.ref)) ∧ Gd B2 ts gs ∧ gs.length = j ∧ (∀ (j' : Nat) g n, gs[j']? = some g → ns[j']? = some n → g.1 = n.1 ∧ 0 ≤ g.2 ∧ g.2 < (n.2 : Int)))
      ⟨Hb, [], [], Evl.Ex.refl _, W1.skip hD, W1.free hD, upd_same, .nil, rfl, fun j' g n h => by simp at h⟩ (fun j H' _ ⟨B2, ts, gs, k1, k2, _⟩ => SqL.of (k2.ex _ _ (k1 _ _ hl))) ?_ ?_
    · rintro j y H2 H2' hj ⟨B2, ts, gs, k1, W2, k3, k4, k5, rfl, k6⟩ ⟨rfl, hy⟩
      obtain ⟨p, rfl, hp2⟩ := refs_get hy
      obtain ⟨n, hn, hpn⟩ := hT.get hp2
      have hsz := hok.size (List.mem_of_getElem? hn)
      rw [List.length_map] at hj
      refine ⟨p, nV n, rfl, .inl (hpn.mono (k1.trans W2.ex)), rfl, _, _, rfl, _, _, rfl, rfl, ?_⟩
      refine ⟨rfl, ?_⟩
      refine ⟨_, rfl, _, rfl, _, rfl, _, b, _, _, rfl, W2.know k4 nD, by omega, by omega, by omega, fun r H3 r0 r1 W3 => ?_⟩
      have hD3 : H3 D = some (.lst (ts.map V.ref)) := W3.ex D _ upd_same
      have W3 := W3.less (Evl.Ex.new k3)
      refine ⟨(by show 2 ≤ sizeLine; decide), fun t n_t => ?_⟩
      have Dt : D ≠ t := fun z => by rw [z, n_t] at hD3; cases hD3
      have bt := W3.free n_t
      have W4 := W3.new (o := .tup [.str n.1, .int r]) n_t
      have hD4 : (upd H3 t (.tup [.str n.1, .int r])) D = some (.lst (ts.map V.ref)) := by rw [upd_ne Dt]; exact hD3
      have k3' : (upd B2 t (.tup [.str n.1, .int r])) D = none := by rw [upd_ne Dt]; exact k3
      have lt := k5.len
      refine ⟨_, hD4, by rw [List.length_map]; omega, _, ts ++ [t], gs ++ [(n.1, r)], k1.trans (Evl.Ex.new bt), (W4.chg k3' nD).mono (by omega), k3', by rw [upd_same, List.map_append]; rfl, Gd.snoc (g := (n.1, r)) upd_same (k5.up (Evl.Ex.new bt)), by simp, ?_⟩
      intro j' g m hg hm
      by_cases cj : j' < gs.length
      · rw [List.getElem?_append_left cj] at hg
        exact k6 j' g m hg hm
      · have ej : j' = gs.length := by
          have := (List.getElem?_eq_some_iff.mp hg).1
          rw [List.length_append] at this
          have : j' < gs.length + 1 := this
          omega
        subst ej
        rw [List.getElem?_append_right (Nat.le_refl _), Nat.sub_self] at hg
        cases hg
        rw [hn] at hm
        cases hm
        exact ⟨rfl, r0, r1⟩
    rintro H2 ⟨B2, ts, gs, k1, W2, k3, k4, k5, k6, k7⟩
    rw [List.length_map] at k6 W2
    have ok : GOk ns gs := ⟨by omega, k7⟩
    obtain ⟨B3, e3, W3, h_D⟩ : ∃ B, Ex B2 B ∧ Wd B H2 b (c + 16 * i + 3) ∧ B D = some (.lst (ts.map V.ref)) := ⟨_, Evl.Ex.new k3, (W2.know k4 nD).mono (by omega), upd_same⟩
    have G3 := k5.up e3
    have E3 := k1.trans e3
    have ww : ∀ g ∈ gs, g.1.length ≤ 1000 := fun g hg => by
      obtain ⟨j', hj'⟩ := List.getElem?_of_mem hg
      obtain ⟨n, hn⟩ : ∃ n, ns[j']? = some n := ⟨_, List.getElem?_eq_getElem (by have := (List.getElem?_eq_some_iff.mp hj').1; omega)⟩
      rw [(k7 j' g n hj' hn).1]
      exact Nat.le_trans (hok.wd _ (List.mem_map_of_mem (List.mem_of_getElem? hn))).hi (by omega)
    have aG : AtK5 K B3 (.ref D) (.lst (gth gs)) := .lst h_D (Gd.at ww G3)
    clear W2 k4 k3 k1 k5 e3
    refine ⟨_, rfl, _, rfl, l, _, rfl, .inl (SqL.of (W3.ex _ _ (E3 _ _ hl))), B3, b, _, _, rfl, W3, by omega, by rw [List.length_map]; omega, by rw [List.length_map]; omega, fun at1 H4 a0 a1 W4 => ?_⟩
    obtain ⟨a, rfl⟩ : ∃ a : Nat, at1 = (a : Int) := ⟨at1.toNat, by omega⟩
    rw [List.length_map] at a1
    refine ⟨_, rfl, B3, b, _, 9, rfl, W4, by omega, by decide, by decide, fun way1 H5 w0 w1 W5 => ?_⟩
    obtain ⟨way, rfl⟩ : ∃ a : Nat, way1 = (a : Int) := ⟨way1.toNat, by omega⟩
    obtain ⟨p, hp⟩ : ∃ p, ps[a]? = some p := ⟨_, List.getElem?_eq_getElem (by omega)⟩
    obtain ⟨n, hn, hpn⟩ := hT.get hp
    have hnm := List.mem_of_getElem? hn
    have hsz := hok.size hnm
    have hwd := hok.wd _ (List.mem_map_of_mem hnm)
    have h8 : (n.1).length ≤ 8 := hwd.hi
    refine ⟨_, _, rfl, _, rfl, _, rfl, l, _, (a : Int), .ref p, rfl, rfl, SqL.of (W5.ex _ _ (E3 _ _ hl)), atI_nat (by rw [List.getElem?_map, hp]; rfl), ?_⟩
    refine ⟨p, nV n, rfl, .inl (hpn.mono (E3.trans W5.ex)), rfl, _, _, rfl, _, _, rfl, rfl, ?_⟩
    refine ⟨_, rfl, D, ts, gkvs gs, rfl, SqL.of (W5.ex _ _ h_D), (G3.up W5.ex).kvs, fun o n_o => ?_⟩
    rw [merge_self (ok.nd hok)]
    have F6 := Wf.start (o := .dK (gkvs gs)) W5 n_o
    have dk0 : Dk (He.ga K "Ratio") B3 (gkvs gs) := Gd.dk (B := B3) ok hok
    have gl : (gkvs gs).length ≤ 3 := by show (gs.map _).length ≤ 3; rw [List.length_map]; have := ok.ln; omega
    refine ⟨fun σ H' => ∃ B kvs, Ex B3 B ∧ Wf B H' b (c + 16 * i + 6) o (.dK kvs) ∧ Dk (He.ga K "Ratio") B kvs ∧ kvs.length ≤ 4 ∧ ∃ y10 y11 y12 y13, σ = [some (.ref b), some (.ref x), some (.ref l), some (.int (0 + (i : Int))), some (.ref D), some (.int (a : Int)), some (.int (way : Int)), some (.str n.1), some (.int (n.2 : Int)), some (.ref o), y10, y11, y12, y13], ?_, ?_⟩
    · refine ⟨_, rfl, _, _, rfl, rfl, _, rfl, ?_⟩
      by_cases c6 : way < 6
      · refine iteTo (decide_eq_true (by omega)) ?_
        refine ⟨_, rfl, _, rfl, (by show 1 ≤ sizeLine; decide), fun l1 n_l1 => ?_⟩
        obtain ⟨Bol1, e_l1, Wol1, h_l1⟩ := F6.new' (o2 := .lst [.int 0]) n_l1
        refine ⟨(by show 1 ≤ sizeLine; decide), fun t1 n_t1 => ?_⟩
        obtain ⟨Bot1, e_t1, Wot1, h_t1⟩ := Wol1.new' (o2 := .tup [.int 0]) n_t1
        refine fun xr dx n_x n_dx dne => ⟨xr, dx, 0, rfl, upd_same, ⟨by decide, by decide⟩, fun H8 keep hx => ⟨rfl, ?_⟩⟩
        obtain ⟨Bx, e_x, Fx, h_x⟩ : ∃ B, Ex Bot1 B ∧ Wf B H8 b (c + 16 * i + 3 + 1 + 1) o (.dK (gkvs gs)) ∧ B xr = some (.ins (He.ga K "Ratio") dx (wholeF 0)) := ⟨_, Evl.Ex.new (Wot1.free n_x), Wot1.made n_x n_dx keep hx, upd_same⟩
        refine ⟨(by show 6 ≤ sizeLine; decide), fun q1 n_q1 => ?_⟩
        obtain ⟨Boq1, e_q1, Woq1, h_q1⟩ := Fx.new' (o2 := .lst [.non, .bl true, .str "0", .ref l1, .ref t1, .ref xr]) n_q1
        refine ⟨_, rfl, _, b, _, 6, rfl, Woq1.up, by omega, by decide, by decide, fun r H9 r0 r1 W9 => ?_⟩
        have F9 := Woq1.of W9
        obtain ⟨k, rfl⟩ : ∃ k : Nat, r = (k : Int) := ⟨r.toNat, by omega⟩
        obtain ⟨v, d, hv, hd, dd⟩ : ∃ v d, ([.non, .bl true, .str "0", .ref l1, .ref t1, .ref xr] : List V)[k]? = some v ∧ AtK5 K Boq1 v d ∧ dep d ≤ 5 := by
          match k, (show k < 6 by omega) with
          | 0, _ => exact ⟨_, _, rfl, .non, by simp [dep]⟩
          | 1, _ => exact ⟨_, _, rfl, .bl _, by simp [dep]⟩
          | 2, _ => exact ⟨_, _, rfl, .str _ (by decide), by simp [dep]⟩
          | 3, _ => exact ⟨_, .lst [.int 0], rfl, .lst (e_q1 _ _ (e_x _ _ (e_t1 _ _ h_l1))) (.cons (.int _) .nil), by decide⟩
          | 4, _ => exact ⟨_, .tup [.int 0], rfl, .tup (.inl (e_q1 _ _ (e_x _ _ h_t1))) (.cons (.int _) .nil), by decide⟩
          | 5, _ => exact ⟨_, .rat 0, rfl, .rat (e_q1 _ _ h_x), by simp [dep]⟩
        refine ⟨q1, _, _, v, rfl, rfl, SqL.of (F9.w.ex _ _ h_q1), atI_nat hv, ?_⟩
        refine ⟨_, _, rfl, rfl, ⟨by decide, by decide, by decide⟩, _, rfl, _, _, rfl, rfl, (by show 6 ≤ sizeLine; decide), fun q2 n_q2 => ?_⟩
        obtain ⟨Boq2, e_q2, Woq2, h_q2⟩ := F9.new' (o2 := .lst [.int (n.2 : Int), .int (-1), v, .int (10 ^ 20), .bl false, .int (0 - (n.2 : Int))]) n_q2
        have eQ := e_l1.trans (e_t1.trans (e_x.trans (e_q1.trans e_q2)))
        obtain ⟨v2, d2, hv2, hd2, dd2⟩ : ∃ v2 d2, ([.int (n.2 : Int), .int (-1), v, .int (10 ^ 20), .bl false, .int (0 - (n.2 : Int))] : List V)[way]? = some v2 ∧ AtK5 K Boq2 v2 d2 ∧ dep d2 ≤ 5 := by
          match way, c6 with
          | 0, _ => exact ⟨_, _, rfl, .int _, by simp [dep]⟩
          | 1, _ => exact ⟨_, _, rfl, .int _, by simp [dep]⟩
          | 2, _ => exact ⟨_, _, rfl, hd.up e_q2, dd⟩
          | 3, _ => exact ⟨_, _, rfl, .int _, by simp [dep]⟩
          | 4, _ => exact ⟨_, _, rfl, .bl _, by simp [dep]⟩
          | 5, _ => exact ⟨_, _, rfl, .int _, by simp [dep]⟩
        refine ⟨_, rfl, q2, _, _, v2, rfl, rfl, SqL.of (Woq2.w.ex _ _ h_q2), atI_nat hv2, ?_⟩
        refine ⟨_, rfl, _, rfl, o, _, rfl, DPut.k (k := .inr n.1) Woq2.hf (by omega), ?_⟩
        exact ⟨Boq2, _, eQ, (Woq2.chg).mono (by omega), (dk0.up eQ).put (by omega) hd2 dd2 (by omega), Nat.le_trans put_few (by omega), _, _, _, _, rfl⟩
      refine iteFo (decide_eq_false (by omega)) ?_
      refine ⟨_, rfl, rfl, _, rfl, ?_⟩
      by_cases e6 : way = 6
      · refine iteTo (decide_eq_true (by rw [e6]; rfl)) ?_
        obtain ⟨i1, hi1, _, _⟩ := ok.mem n hnm
        obtain ⟨j1, hj1⟩ := List.getElem?_of_mem hi1
        refine ⟨_, rfl, o, rfl, .inl ⟨_, .inl F6.hf⟩, _, rfl, _, .inr n.1, _, F6.hf, rfl, valV_at (ok.nd hok) hj1, ?_⟩
        exact ⟨B3, _, Evl.Ex.refl _, (F6.chg).mono (by omega), dk0.drop _, Nat.le_trans (List.length_filter_le ..) (by omega), _, _, _, _, rfl⟩
      refine iteFo (decide_eq_false fun z => e6 (by have := V.int.inj z; omega)) ?_
      have l1 := cutS_length n.1 none (some (-1))
      have l3 : (Txt.upper n.1).length ≤ 24 := Nat.le_trans (PyProof.Rows.len_upper n.1) (by show 3 * (n.1).length ≤ 24; omega)
      refine ⟨_, rfl, _, rfl, _, _, rfl, rfl, Nat.le_trans (show (n.1).length + 1 ≤ 9 by omega) (by decide), ?_⟩
      refine ⟨_, rfl, ⟨_, rfl⟩, _, rfl, rfl, Nat.le_trans h8 (by decide), ?_⟩
      refine ⟨_, rfl, _, rfl, _, rfl, n.1, rfl, Nat.le_trans (show (n.1).length ≤ 9 by omega) (by decide), _, _, rfl, rfl, Nat.le_trans (show (cutS n.1 none (some (-1))).length + 1 ≤ 9 by omega) (by decide), ?_⟩
      refine ⟨(by show 5 ≤ sizeLine; decide), fun q3 n_q3 => ?_⟩
      obtain ⟨Boq3, e_q3, Woq3, h_q3⟩ := F6.new' (o2 := .lst [.str (n.1 ++ Str.ofString "b"), .str "", .str "odd", .str (Txt.upper n.1), .str (cutS n.1 none (some (-1)) ++ Str.ofString "y")]) n_q3
      refine ⟨_, rfl, _, b, _, 5, rfl, Woq3.up, by omega, by decide, by decide, fun r H9 r0 r1 W9 => ?_⟩
      have F9 := Woq3.of W9
      obtain ⟨k, rfl⟩ : ∃ k : Nat, r = (k : Int) := ⟨r.toNat, by omega⟩
      obtain ⟨z, hz, zl⟩ : ∃ z : Str, ([.str (n.1 ++ Str.ofString "b"), .str "", .str "odd", .str (Txt.upper n.1), .str (cutS n.1 none (some (-1)) ++ Str.ofString "y")] : List V)[k]? = some (.str z) ∧ z.length ≤ 1000 := by
        match k, (show k < 5 by omega) with
        | 0, _ => exact ⟨_, rfl, by rw [Str.length_append]; show (n.1).length + 1 ≤ 1000; omega⟩
        | 1, _ => exact ⟨_, rfl, by decide⟩
        | 2, _ => exact ⟨_, rfl, by decide⟩
        | 3, _ => exact ⟨_, rfl, by omega⟩
        | 4, _ => exact ⟨_, rfl, by rw [Str.length_append]; show (cutS n.1 none (some (-1))).length + 1 ≤ 1000; omega⟩
      refine ⟨q3, _, _, .str z, rfl, rfl, SqL.of (F9.w.ex _ _ h_q3), atI_nat hz, ?_⟩
      refine ⟨o, _, rfl, DPut.k (k := .inr z) F9.hf (by omega), ?_⟩
      exact ⟨Boq3, _, e_q3, (F9.chg).mono (by omega), (dk0.up e_q3).put zl (.int 0) (by simp [dep]) (by omega), Nat.le_trans put_few (by omega), _, _, _, _, rfl⟩
    clear F6 dk0
    rintro σ H9 ⟨B, kvs, eB, F9, dk, kl4, y10, y11, y12, y13, rfl⟩
    refine ⟨_, rfl, o, kvs, rfl, .inl F9.hf, fun kp n_kp => ?_⟩
    obtain ⟨Bk, e_kp, F10, h_kp⟩ := F9.new' (o2 := .dK kvs) n_kp
    have dk1 := dk.up e_kp
    have EB := E3.trans (eB.trans e_kp)
    refine ⟨fun σ H' => Wf Bk H' b (c + 16 * i + 6) o (.dK kvs) ∧ ∃ m, ((valsB ns kvs = true ∧ ∃ u, H' m = some (.lst [.str "told", u])) ∨ (valsB ns kvs = false ∧ H' m = some (.lst [.str "values", .ref o]))) ∧ ∃ y12 y13, σ = [some (.ref b), some (.ref x), some (.ref l), some (.int (0 + (i : Int))), some (.ref D), some (.int (a : Int)), some (.int (way : Int)), some (.str n.1), some (.int (n.2 : Int)), some (.ref o), some (.ref kp), some (.ref m), y12, y13], ?_, ?_⟩
    · refine ⟨_, rfl, _, rfl, (by show 3 ≤ sizeLine; decide), fun q5 n_q5 => ?_⟩
      have g11 := Evl.Ex.new (o := .lst [.str "store_of", .ref x, .ref o]) n_q5
      have F11 := F10.grow g11
      refine ⟨q5, rfl, .inr ⟨x, ns, hS.mono (EB.trans F11.w.ex), hok, .inr (.inl ⟨.ref o, upd_same, .inr ⟨o, kvs, rfl, F11.hf, fun z u q => ((dk1.up F11.w.ex).val z u q), fun hv m H' u e hm _ => ?_, fun hv m H' e hm => ?_⟩⟩)⟩⟩
      · exact ⟨F11.grow e, m, .inl ⟨hv, u, hm⟩, _, _, rfl⟩
      · exact ⟨F11.grow e, m, .inr ⟨hv, hm⟩, _, _, rfl⟩
    rintro σ H12 ⟨F12, m, hcase, y12, y13, rfl⟩
    refine ⟨fun σ H' => Wd Bk H' b (c + 16 * i + 6) ∧ ∃ y12 y13, σ = [some (.ref b), some (.ref x), some (.ref l), some (.int (0 + (i : Int))), some (.ref D), some (.int (a : Int)), some (.int (way : Int)), some (.str n.1), some (.int (n.2 : Int)), some (.ref o), some (.ref kp), some (.ref m), y12, y13], ?_, ?_⟩
    · refine ⟨_, rfl, _, rfl, kp, l, kvs, ns, rfl, F12.w.ex _ _ h_kp, (dk1.up F12.w.ex).val, ⟨ps, F12.w.ex _ _ (EB _ _ hl), hT.up (EB.trans F12.w.ex)⟩, hok, _, rfl, ?_⟩
      rcases hcase with ⟨hv, u, hm⟩ | ⟨hv, hm⟩
      · rw [hv]
        refine iteTo rfl ⟨_, rfl, m, _, 0, .str "told", rfl, rfl, SqL.of hm, rfl, rfl, _, rfl, iteFo (by simp) ?_⟩
        exact ⟨F12.w, _, _, rfl⟩
      · rw [hv]
        obtain ⟨ds, hds, dd5, dl⟩ := (dk1.up F12.w.ex).dic
        refine iteFo rfl ⟨_, rfl, _, rfl, (by show 2 ≤ sizeLine; decide), fun m5 n_m5 => ?_⟩
        have g13 := Evl.Ex.new (o := .lst [.str "values", .ref kp]) n_m5
        have F13 := F12.grow g13
        have dd : dep (.lst [.str "values", .dic ds]) < 40 := by simp only [dep, depA, List.length_cons, List.length_nil]; omega
        refine ⟨.ref m, .ref m5, .lst [.str "values", .dic ds], rfl, .lst (g13 _ _ hm) (.cons (.str _ (by decide)) (.cons (.dic F13.hf (hds.up g13)) .nil)), .lst upd_same (.cons (.str _ (by decide)) (.cons (.dic (F13.w.ex _ _ h_kp) (hds.up g13)) .nil)), dd, by decide, fun H14 g14 => ⟨_, rfl, iteFo rfl ?_⟩⟩
        have F14 := F13.grow g14
        have hm14 := g14 _ _ (g13 _ _ hm)
        have mo : m ≠ o := fun z => by rw [z, F14.hf] at hm14; cases hm14
        refine ⟨_, rfl, _, rfl, o, _, rfl, DPut.k (k := .inr "grown") F14.hf (by omega), ?_⟩
        refine ⟨_, rfl, m, _, 1, .ref o, rfl, rfl, SqL.of (by rw [upd_ne mo]; exact hm14), rfl, _, rfl, o, _, rfl, rfl, upd_same, keys_put dk.2.1, _, rfl, iteFo rfl ?_⟩
        exact ⟨F14.w.chg F14.bf F14.nf, _, _, rfl⟩
    clear F12 hcase F10 F9
    rintro σ H15 ⟨W15, y12, y13, rfl⟩
    have eD := eB.trans e_kp
    refine ⟨_, rfl, _, rfl, D, _, rfl, SqL.of (W15.ex _ _ (eD _ _ h_D)), fun rv n_rv => ?_⟩
    obtain ⟨Br, e_rv, W16, h_rv⟩ := W15.new' (o2 := .lst (ts.map V.ref).reverse) n_rv
    have h_rv2 : Br rv = some (.lst (ts.reverse.map V.ref)) := by rw [List.map_reverse]; exact h_rv
    have Gr := (G3.up (eD.trans (e_rv.trans W16.ex))).rev
    have ek : gkvs gs.reverse = (gkvs gs).reverse := List.map_reverse
    have ndr : ((gkvs gs.reverse).map (·.1)).Nodup := by rw [ek, List.map_reverse]; exact (List.reverse_perm _).nodup_iff.mpr (ok.nd hok)
    refine ⟨rv, ts.reverse, gkvs gs.reverse, rfl, SqL.of (W16.ex _ _ h_rv2), Gr.kvs, fun o2 n_o2 => ?_⟩
    rw [merge_self ndr]
    have W17 := W16.skip (o := .dK (gkvs gs.reverse)) n_o2
    refine ⟨(by show 3 ≤ sizeLine; decide), fun q6 n_q6 => ?_⟩
    have g18 := Evl.Ex.new (o := .lst [.str "store_of", .ref x, .ref o2]) n_q6
    have W18 := W17.grow g18
    have vg : valsB ns (gkvs gs.reverse) = true := by rw [ek]; exact ok.rev hok
    refine ⟨q6, rfl, .inr ⟨x, ns, hS.mono (EB.trans (e_rv.trans W18.ex)), hok, .inr (.inl ⟨.ref o2, upd_same, .inr ⟨o2, gkvs gs.reverse, rfl, g18 _ _ upd_same, fun z u q => ?_, fun _ m6 H19 u e19 hm6 _ => ?_, fun hv => absurd (vg.symm.trans hv) (by decide)⟩⟩)⟩⟩
    · obtain ⟨p9, hp9, e9⟩ := valV_mem q
      obtain ⟨g9, _, rfl⟩ := List.mem_map.mp hp9
      exact ⟨.int g9.2, by rw [← e9]; exact .int _⟩
    refine ⟨m6, _, 0, .str "told", rfl, rfl, SqL.of hm6, rfl, rfl, _, rfl, iteFo (by simp) ?_⟩
    have W19 := W18.grow e19
    exact ⟨(W19.less (EB.trans e_rv)).mono (by omega), fun _ => ⟨Br, D, gs, EB.trans e_rv, W19.mono (by omega), aG.up (eD.trans e_rv), ok, _, _, _, _, _, _, _, _, _, _, rfl⟩, _, _, _, _, _, _, _, _, _, _, _, rfl⟩
  clear W
  rintro σ H1 ⟨W1, B, g, gs, eB, W2, aG, ok, y3, y5, y6, y7, y8, y9, y10, y11, y12, y13, rfl⟩
  obtain ⟨g', xs, q', h_g, hxs⟩ := at_lst aG
  cases q'
  have lx := hxs.len
  have lg : (gth gs).length = ns.length := by show (gs.map _).length = _; rw [List.length_map, ok.ln]
  have dg := dep_gth gs
  refine ⟨fun σ H' => Wd Hb H' b (c + 200) ∧ ∃ y3 y4 y5 y6 y7 y8 y9 y10 y11 y12 y13, σ = [some (.ref b), some (.ref x), some (.ref l), y3, y4, y5, y6, y7, y8, y9, y10, y11, y12, y13], ?_, fun σ H' p => hQ _ p.1⟩
  refine ⟨_, rfl, B, b, _, rfl, W2, by omega, fun B0 v0 d0 H2 e0 W3 a0 dd0 nb0 dc0 => ?_⟩
  refine ⟨_, rfl, _, rfl, g, xs, rfl, .inl ⟨SqL.of (W3.ex _ _ (e0 _ _ h_g)), fun tt ot n_tt hot => ?_⟩⟩
  obtain ⟨B1, e1, W4, h_tt⟩ := W3.new' (o2 := .frz ot (.tup xs)) n_tt
  refine ⟨_, rfl, g, rfl, ⟨_, SqL.of (W4.ex _ _ (e1 _ _ (e0 _ _ h_g)))⟩, fun D2 hD2 => ?_⟩
  refine lc_fn (walk_list (xs := xs)) (fun i => V.int ((gs.getD i (alpha, 0)).2)) (by omega) hD2 (fun H' e => SqL.of ((W4.grow e).ex _ _ (e1 _ _ (e0 _ _ h_g)))) ?_ ?_
  · rintro i y H1' H1'' Z B' hi e hl3 ⟨rfl, hy⟩ hZ
    obtain ⟨d, hd, ay⟩ := hxs.get hy
    have hd : (gs.map fun g : Str × Int => Th.tup [.str g.1, .int g.2])[i]? = some d := hd
    rw [List.getElem?_map] at hd
    obtain ⟨gg, hgg, rfl⟩ := Option.map_eq_some_iff.mp hd
    obtain ⟨p, rfl, hp⟩ := at_gp ay
    refine ⟨p, [.str gg.1, .int gg.2], rfl, .inl (hp.mono (e0.trans (e1.trans (W4.grow e).ex))), rfl, _, _, rfl, _, _, rfl, rfl, ?_⟩
    refine ⟨rfl, ?_⟩
    rw [List.getD_eq_getElem?_getD, hgg] at hZ
    exact ⟨_, rfl, hZ _ (Evl.Ex.refl _)⟩
  intro H5 e5 hD5
  have nD2 := W4.ne hD2
  have W5 := W4.grow e5
  have bD2 : B1 D2 = none := W4.free hD2
  obtain ⟨B2, e2, W6, h_D2⟩ : ∃ B, Ex B1 B ∧ Wd B H5 b (c + 150 + 1) ∧ B D2 = some (.lst ((List.range xs.length).map fun i => V.int ((gs.getD i (alpha, 0)).2))) := ⟨_, Evl.Ex.new bD2, W5.know hD5 nD2, upd_same⟩
  refine fun d1 n_d1 => ?_
  obtain ⟨Bod1, e_d1, Wod1, h_d1⟩ := W6.new' (o2 := .dK []) n_d1
  refine ⟨_, rfl, (by show 1 ≤ sizeLine; decide), fun l9 n_l9 => ?_⟩
  obtain ⟨Bol9, e_l9, Wol9, h_l9⟩ := Wod1.new' (o2 := .lst [.ref g]) n_l9
  refine ⟨(by show 9 ≤ sizeLine; decide), fun mo n_mo => ?_⟩
  obtain ⟨Bomo, e_mo, Womo, h_mo⟩ := Wol9.new' (o2 := .lst [v0, .ref g, .ref tt, .ref D2, .ref d1, .non, .int 0, .str "", .ref l9]) n_mo
  have eT := e2.trans (Evl.Ex.trans e_d1 (Evl.Ex.trans e_l9 e_mo))
  have aG2 := aG.up (e0.trans (e1.trans eT))
  have key : AtA (He.ga K "Ratio") Bomo [v0, .ref g, .ref tt, .ref D2, .ref d1, .non, .int 0, .str "", .ref l9] [d0, .lst (gth gs), .tup (gth gs), .lst ((List.range xs.length).map fun i => Th.int ((gs.getD i (alpha, 0)).2)), .dic [], .non, .int 0, .str "", .lst [.lst (gth gs)]] := (.cons (a0.up (e1.trans eT)) (.cons aG2 (.cons (.tup (.inr ⟨_, eT _ _ h_tt⟩) (hxs.up (e0.trans (e1.trans eT)))) (.cons (.lst ((Evl.Ex.trans e_d1 (Evl.Ex.trans e_l9 e_mo)) _ _ h_D2) (at_ints _ _)) (.cons (.dic (e_mo _ _ (e_l9 _ _ h_d1)) .nil) (.cons .non (.cons (.int _) (.cons (.str _ (by decide)) (.cons (.lst (e_mo _ _ h_l9) (.cons aG2 .nil)) .nil)))))))))
  have bad : ∀ d ∈ ([d0, .lst (gth gs), .tup (gth gs), .lst ((List.range xs.length).map fun i => Th.int ((gs.getD i (alpha, 0)).2)), .dic [], .non, .int 0, .str "", .lst [.lst (gth gs)]] : List Th), (∀ l, d = .dic l → l = [] ∨ l = aZero) ∧ dep d ≤ 20 := by
    have di := dep_ints (fun i => (gs.getD i (alpha, 0)).2) (List.range xs.length)
    intro d hd
    simp only [List.mem_cons, List.not_mem_nil, or_false] at hd
    rcases hd with rfl | rfl | rfl | rfl | rfl | rfl | rfl | rfl | rfl
    · exact ⟨dc0, by omega⟩
    · exact ⟨fun l e => (nomatch e), by simp only [dep]; omega⟩
    · exact ⟨fun l e => (nomatch e), by simp only [dep]; omega⟩
    · exact ⟨fun l e => (nomatch e), by simp only [dep, di, List.length_map, List.length_range]; omega⟩
    · exact ⟨fun l e => .inl (Th.dic.inj e).symm, by decide⟩
    · exact ⟨fun l e => (nomatch e), by decide⟩
    · exact ⟨fun l e => (nomatch e), by decide⟩
    · exact ⟨fun l e => (nomatch e), by decide⟩
    · exact ⟨fun l e => (nomatch e), by simp only [dep, depA, List.length_cons, List.length_nil]; omega⟩
  generalize ([d0, .lst (gth gs), .tup (gth gs), .lst ((List.range xs.length).map fun i => Th.int ((gs.getD i (alpha, 0)).2)), .dic [], .non, .int 0, .str "", .lst [.lst (gth gs)]] : List Th) = dds at key bad
  have eHB := eB.trans (e0.trans (e1.trans eT))
  have hSB := hS.mono eHB
  refine ⟨mo, rfl, ⟨_, SqL.of upd_same⟩, ?_⟩
  refine for_it (walk_list (xs := [v0, .ref g, .ref tt, .ref D2, .ref d1, .non, .int 0, .str "", .ref l9])) (fun i σ H' => Wd Bomo H' b (c + 150 + 1) ∧ ∃ y3 y4 y5 y6 y7 y8 y9 y10 y11 y12 y13, σ = [some (.ref b), some (.ref x), some (.ref l), y3, y4, y5, y6, y7, y8, y9, y10, y11, y12, y13]) ⟨Womo, _, _, _, _, _, _, _, _, _, _, _, rfl⟩ (fun i σ H' _ p => SqL.of (p.1.ex _ _ h_mo)) ?_ (fun σ H' p => by obtain ⟨p, y3, y4, y5, y6, y7, y8, y9, y10, y11, y12, y13, rfl⟩ := p; exact ⟨(p.less eHB).mono (by omega), _, _, _, _, _, _, _, _, _, _, _, rfl⟩)
  rintro i y σ H6 H6' hi ⟨W7, y3, y4, y5, y6, y7, y8, y9, y10, y11, y12, y13, rfl⟩ ⟨rfl, hy⟩
  obtain ⟨d, hd, ay⟩ := key.get hy
  obtain ⟨hdc, hdep⟩ := bad d (List.mem_of_getElem? hd)
  refine ⟨_, rfl, _, rfl, Bomo, y, d, rfl, W7.ex, ay, by omega, by decide, fun Hb' v' H7 kn av' hsame hnew => ?_⟩
  refine ⟨(by show 3 ≤ sizeLine; decide), fun l6 n_l6 => ?_⟩
  have g8 := Evl.Ex.new (o := .lst [.str "store_of", .ref x, v']) n_l6
  have W8 := (W7.grow kn.hh).grow g8
  have a8 := (av'.up kn.bh).up g8
  refine ⟨l6, rfl, .inr ⟨x, ns, hSB.mono W8.ex, hok, .inr (.inl ⟨v', upd_same, store_odd a8 hok hw2 hdc fun m2 H9 e9 h_m2 => ?_⟩)⟩⟩
  refine ⟨_, rfl, (by show 2 ≤ sizeLine; decide), fun mm n_mm => ?_⟩
  have g10 := Evl.Ex.new (o := .lst [.str "values", y]) n_mm
  have W10 := (W8.grow e9).grow g10
  have dd : dep (.lst [.str "values", d]) < 40 := by simp only [dep, depA, List.length_cons, List.length_nil]; omega
  refine ⟨.ref m2, .ref mm, .lst [.str "values", d], rfl, .lst (g10 _ _ h_m2) (.cons (.str _ (by decide)) (.cons (a8.up (e9.trans g10)) .nil)), .lst upd_same (.cons (.str _ (by decide)) (.cons (ay.up W10.ex) .nil)), dd, by decide, fun H10 g11 => ⟨_, rfl, iteFo rfl ?_⟩⟩
  exact ⟨W10.grow g11, _, _, _, _, _, _, _, _, _, _, _, rfl⟩

end
end K05
namespace K05
open PySem PySem.Spec PyProof.Rows L2 C8
theorem ns_lay : ∀ {ns : NS}, (∀ n ∈ ns, WordOk n.1) → PyData.canLayAll0 (toPA (ns.map nsTh)) = true ∧ PyData.depthAll (toPA (ns.map nsTh)) ≤ 1
  | [], _ => ⟨rfl, by simp [toPA, PyData.depthAll]⟩
  | n :: l, h => by
    obtain ⟨h1, h2⟩ := ns_lay (ns := l) fun m hm => h m (List.mem_cons_of_mem _ hm)
    have hn := h n List.mem_cons_self
    have e : toPA ((n :: l).map nsTh) = .tuple [.str n.1, .int (n.2 : Int)] :: toPA (l.map nsTh) := rfl
    rw [e]
    constructor
    · simp only [PyData.canLayAll0, PyData.canLay0, h1, Bool.and_true]
      simp only [PyData.strOk, Bool.and_true]
      rw [Array.all_eq_true]
      intro i hi
      have := hn.low (n.1).cps[i] (by rw [← Array.getElem_toList hi]; exact List.getElem_mem _)
      exact decide_eq_true (by omega)
    · simp only [PyData.depthAll, PyData.depth]
      omega
theorem ns_pl : ∀ ns : NS, plA (ns.map nsTh) = true
  | [] => rfl
  | n :: l => by
    have e : plA ((n :: l).map nsTh) = ((nsTh n).pl && plA (l.map nsTh)) := rfl
    rw [e, ns_pl l]
    rfl
theorem ns_shape {ns : NS} (h : ∀ n ∈ ns, WordOk n.1) : SeqAt.shaped (Th.tup (ns.map nsTh)).toP = true ∧ PyData.eqv (Th.tup (ns.map nsTh)).toP (Th.tup (ns.map nsTh)).toP = true := by
  obtain ⟨h1, h2⟩ := ns_lay h
  have e : (Th.tup (ns.map nsTh)).toP = .tuple (toPA (ns.map nsTh)) := rfl
  rw [e]
  have c : (PyData.tuple (toPA (ns.map nsTh))).canLay0 = true := by simp only [PyData.canLay0, h1]
  refine ⟨?_, SeqAt.eqv_refl _ c⟩
  unfold SeqAt.shaped
  rw [c, decide_eq_true (by simp only [PyData.depth]; omega)]
  rfl
theorem ints_shape (l : List Nat) : SeqAt.shaped (.list (l.map fun k : Nat => PyData.int (k : Int))) = true ∧ PyData.eqv (.list (l.map fun k : Nat => PyData.int (k : Int))) (.list (l.map fun k : Nat => PyData.int (k : Int))) = true := by
  have key : ∀ l : List Nat, PyData.canLayAll0 (l.map fun k : Nat => PyData.int (k : Int)) = true ∧ PyData.depthAll (l.map fun k : Nat => PyData.int (k : Int)) = 0 := by
    intro l
    induction l with
    | nil => exact ⟨rfl, by simp [PyData.depthAll]⟩
    | cons a l ih =>
      rw [List.map_cons]
      constructor
      · simp only [PyData.canLayAll0, PyData.canLay0, ih.1, Bool.and_true]
      · simp only [PyData.depthAll, PyData.depth, ih.2]
        rfl
  obtain ⟨h1, h2⟩ := key l
  have c : (PyData.list (l.map fun k : Nat => PyData.int (k : Int))).canLay0 = true := by simp only [PyData.canLay0, h1]
  refine ⟨?_, SeqAt.eqv_refl _ c⟩
  unfold SeqAt.shaped
  rw [c, decide_eq_true (by simp only [PyData.depth]; omega)]
  rfl
theorem dp_ints9 {K : PySem.W.Frag} {H : Hp} : ∀ l : List Nat, DpAll K H (rV l) (l.map fun k : Nat => PyData.int (k : Int))
  | [] => .nil
  | a :: l => .cons (.int _) (dp_ints9 l)
section
variable {P : Program} {w : World} {K : PySem.W.Frag} {mg : Str → Option Value} {base : Heap}
abbrev N_l_right : List Str := ["box", "names", "space", "many", "name", "size", "turn"]
theorem sc_l_right : FnScope N_l_right ["box"] (defScope (top 51)) := ⟨rfl, rfl, rfl, by decide +kernel, rfl, by decide +kernel, by decide +kernel⟩
/-- one box -/
def spRight : Sp := fun vs H Q _ => ∃ (Hb : Hp) (b : Addr), vs = [.ref b] ∧ Wd Hb H b 0 ∧ ∀ H', Ex Hb H' → Q (.bl true) H'
theorem ok_l_right (T : Txt K mg) (C_l_names : Cal P w K mg base 3 "_law_names" (spNamesL) []) (M_Space : MakE P w K mg base 5 "Space" (He.ga K "Space") (spSpace K)) (M_stores : Met P w K mg base 1 (He.ga K "Space") "stores" (spStores K) []) (C_l_words_right : Cal P w K mg base 5 "_law_words_right" (spWordsR) []) (C_l_names_right : Cal P w K mg base 45 "_law_names_right" (spNamesR) []) (C_l_methods_right : Cal P w K mg base 46 "_law_methods_right" (spMethodsR K) []) (C_l_values_right : Cal P w K mg base 46 "_law_values_right" (spValuesR K) []) : Cal P w K mg base 47 "_law_right" (spRight) [] := by
  obtain ⟨fd, F⟩ := T.d__law_right
  refine ⟨_, fd, ["box"], [], ?_, T.g__law_right, F.kp, F.bindsN fun _ _ _ _ _ _ us hl => match us, hl with | [_], _ => rfl, .nil⟩
  refine F.ok sc_l_right (fun vs H Q E h => by obtain ⟨_, _, rfl, _⟩ := h; rfl) (fun cdv A outer s H vs Q E hr h => ?_)
  have hu := hu_of hr
  refine ⟨_, PSs.nox (pss_cons (ps_set (i := 1) sc_l_right.nd rfl (Or.inl rfl) (pe_c C_l_names hr (by omega) rfl (pa_cons (pv 0) pa_nil)))
      (pss_cons (ps_par (i := 2) (j := 3) (by rfl) sc_l_right.nd rfl rfl (by decide) rfl rfl (pa_cons (pe_mkE (x := "Space") M_Space hr (by omega) (fun σ => L2N.passAt (takesN takesF) σ) rfl (pa_cons (pe_callTy call_list_of (by rfl) T.f_list (by decide +kernel) (pa_cons (pv 1) pa_nil)) pa_nil)) (pa_cons pe_int pa_nil)) (by rfl))
      (pss_cut (ps_for PassesOwn.never rfl (pi_list (pv 1)) (pg_tup (by rfl) (pgs_cons (pg_name (i := 4) sc_l_right.nd rfl (Or.inl rfl)) (pgs_cons (pg_name (i := 5) sc_l_right.nd rfl (Or.inl rfl)) pgs_nil))) (pss_one (ps_set (i := 3) sc_l_right.nd rfl (Or.inl rfl) (pe_op op_mul (pv 3) (pv 5)))))
      (pss_cut (ps_if (PW.pt (pw_or (pt_not (pt_val (pe_c C_l_words_right hr (by omega) rfl (pa_cons (pv 0) pa_nil)))) (pw_or1 (pt_not (pt_val (pe_c C_l_names_right hr (by omega) rfl (pa_cons (pv 0) (pa_cons (pv 1) pa_nil)))))))) (pss_one (ps_ret pe_bl)) pss_nil)
      (pss_cut (ps_for PassesOwn.never rfl (pi_range1 (by rfl) T.f_range (pa_cons pe_int pa_nil)) (pg_name (i := 6) sc_l_right.nd rfl (Or.inl rfl)) (pss_one (ps_if (PW.pt (pw_or (pt_not (pt_val (pe_c C_l_methods_right hr (by omega) rfl (pa_cons (pv 0) (pa_cons (pv 2) (pa_cons (pv 1) (pa_cons (pv 3) pa_nil))))))) (pw_or1 (pt_not (pt_val (pe_c C_l_values_right hr (by omega) rfl (pa_cons (pv 0) (pa_cons (pv 2) (pa_cons (pv 1) pa_nil))))))))) (pss_one (ps_ret pe_bl)) pss_nil)))
      (pss_one (ps_ret (pe_and (pe_cmpR (op_eqD hr.units) (pe_fld (pv 2) rfl) (pe_callTy call_tupF (by rfl) T.f_tuple (by decide +kernel) (pa_cons (pv 1) pa_nil)) (nomark _)) (pe_and (pe_cmpR (op_eqD hr.units) (pe_mt0 M_stores hr (by omega) (pv 2)) (pe_listRg rfl (by rfl) T.f_list (prg_1 (by rfl) T.f_range (pv 3))) (nomark _)) (pe_one (pe_cmpR op_eq (pe_fld (pv 2) rfl) (pv 3) (nomark _)))))))))))), ?_⟩
  obtain ⟨Hb, b, rfl, W, hQ⟩ := h
  have lim : 1000 < sizeLine := by decide
  refine ⟨_, rfl, Hb, b, 0, rfl, W, by omega, fun B l ns H1 eB W1 hN hok _ hw2 => ?_⟩
  obtain ⟨ps, hl, hT⟩ := id hN
  have hlen := hT.length
  have hn1 := hok.len
  refine ⟨_, rfl, l, _, rfl, .inl (SqL.of (W1.ex _ _ hl)), fun l2 n_l2 => ?_⟩
  obtain ⟨B2, e2, W2, h_l2⟩ := W1.new' (o2 := .lst (ps.map V.ref)) n_l2
  have aN : AtK5 K B2 (.ref l2) (.lst (ns.map nsTh)) := .lst h_l2 (names_at (fun n hn => Nat.le_trans (hok.wd _ (List.mem_map_of_mem hn)).hi (by omega)) (hT.up e2))
  refine fun x dx n_x n_dx dne => ⟨x, dx, .ref l2, .lst (ns.map nsTh), rfl, upd_same, aN.up ?_, fun _ => trivial, fun ns2 hd2 hok2 H2 keep sat => ⟨rfl, ?_⟩, fun hnb => absurd ((namesB_ok (.inl rfl) hok).symm.trans hnb) (by decide)⟩
  · intro q o h
    have h := W2.ex q o h
    rw [upd_ne (ne_of_none h n_x), upd_ne (ne_of_none h n_dx)]
    exact h
  have en : ns2 = ns := by
    have h : ns.map nsTh = ns2.map nsTh := by rcases hd2 with z | z
                                              · exact Th.lst.inj z
                                              · cases z
    have := congrArg (List.map unTh) h
    rw [map_un, map_un] at this
    exact this.symm
  subst en
  obtain ⟨dx2, t, o, ps2, hx, ht, ho, hT2⟩ := id sat
  have W3 := (W2.made n_x n_dx keep hx).off
  have bx := W3.box
  have nb : ∀ (p : Addr) (oo : HO), H2 p = some oo → (∀ q, oo ≠ .lst q) → p ≠ b := fun p oo h g z => by
    obtain ⟨_, _, _, _, h1, _⟩ := bx
    rw [z, h1] at h
    exact g _ (Option.some.inj h).symm
  have eO : Ex B (off H2 b) := (e2.trans (Evl.Ex.new (W2.free n_x))).trans (W2.made n_x n_dx keep hx).exOff
  have hS : SpaceAt K (off H2 b) x ns2 := by
    refine ⟨dx2, t, o, ps2, off_at hx (nb _ _ hx fun q z => by cases z), off_at ht (nb _ _ ht fun q z => by cases z), ho, ?_⟩
    have key : ∀ {ps : List Addr} {ns : NS}, Prs H2 ps ns → Prs (off H2 b) ps ns := by
      intro ps ns h
      induction h with
      | nil => exact .nil
      | cons h t ih =>
        refine .cons ?_ ih
        rcases h with h | ⟨u, h⟩
        · exact .inl (off_at h (nb _ _ h fun q z => by cases z))
        · exact .inr ⟨u, off_at h (nb _ _ h fun q z => by cases z)⟩
    exact key hT2
  have hN3 := hN.up eO
  have eHb : Ex Hb (off H2 b) := eB.trans eO
  clear W2 W1 keep sat hx ht hT2 n_x n_dx aN h_l2
  generalize off H2 b = Bo at W3 eO hS hN3 eHb
  refine ⟨_, _, rfl, ?_⟩
  have W3 := W3.mono (show 0 + 9 ≤ 9 by omega)
  obtain ⟨ps3, hl3, hT3⟩ := id hN3
  have hlen3 := hT3.length
  have lsz : (szs ns2).length = ns2.length := by simp [szs]
  have m8 := (menu_facts _ hok.sz).2.1
  refine ⟨fun σ H' => Wd Bo H' b 9 ∧ ∃ y4 y5 y6, σ = [some (.ref b), some (.ref l), some (.ref x), some (.int ((prodN (szs ns2) : Nat) : Int)), y4, y5, y6], ?_, ?_⟩
  · refine ⟨_, rfl, l, rfl, ⟨_, SqL.of (W3.ex _ _ hl3)⟩, ?_⟩
    refine for_it (walk_list (xs := ps3.map V.ref)) (fun i σ H' => H' = H2 ∧ ∃ y4 y5 y6, σ = [some (.ref b), some (.ref l), some (.ref x), some (.int ((prodN ((szs ns2).take i) : Nat) : Int)), y4, y5, y6]) ⟨rfl, _, _, _, rfl⟩ (fun i σ H' _ p => by rw [p.1]; exact SqL.of (W3.ex _ _ hl3)) ?_ ?_
    · rintro i y σ H4 H4' hi ⟨rfl, y4, y5, y6, rfl⟩ ⟨rfl, hy⟩
      obtain ⟨p, rfl, hp2⟩ := refs_get hy
      obtain ⟨n, hn, hpn⟩ := hT3.get hp2
      have hsz := hok.size (List.mem_of_getElem? hn)
      have f1 := prod_few _ hok.sz i
      refine ⟨p, nV n, rfl, .inl (hpn.mono W3.ex), rfl, _, _, rfl, _, _, rfl, rfl, ?_⟩
      refine ⟨_, rfl, _, rfl, _, _, rfl, rfl, .inl ⟨by omega, by omega⟩, rfl, some (.str n.1), some (.int (n.2 : Int)), y6, ?_⟩
      rw [prodN_take _ _ _ (sz_at hn), Int.natCast_mul]
      rfl
    · rintro σ H4 ⟨rfl, y4, y5, y6, rfl⟩
      rw [List.take_of_length_le (by rw [List.length_map, lsz]; omega)]
      exact ⟨W3, _, _, _, rfl⟩
  clear W3
  rintro σ H4 ⟨W4, y4, y5, y6, rfl⟩
  refine ⟨fun σ H' => Wd Bo H' b 2000 ∧ ∃ y4 y5 y6, σ = [some (.ref b), some (.ref l), some (.ref x), some (.int ((prodN (szs ns2) : Nat) : Int)), y4, y5, y6], ?_, ?_⟩
  · refine ⟨_, rfl, Bo, b, _, rfl, W4, by omega, fun H5 W5 => ⟨_, rfl, iteFo rfl ?_⟩⟩
    refine ⟨_, rfl, _, rfl, Bo, b, _, l, ns2, rfl, W5, by omega, hN3, hok, fun H6 W6 => ⟨_, rfl, iteFo rfl ?_⟩⟩
    exact ⟨W6.mono (by omega), _, _, _, rfl⟩
  clear W4
  rintro σ H4 ⟨W4, y4, y5, y6, rfl⟩
  refine ⟨fun σ H' => Wd Bo H' b 4000 ∧ ∃ y4 y5 y6, σ = [some (.ref b), some (.ref l), some (.ref x), some (.int ((prodN (szs ns2) : Nat) : Int)), y4, y5, y6], ?_, ?_⟩
  · refine ⟨2, rfl, by decide, by decide, for_range (n := 2) (fun i σ H' => Wd Bo H' b (2000 + 400 * i) ∧ ∃ y4 y5 y6, σ = [some (.ref b), some (.ref l), some (.ref x), some (.int ((prodN (szs ns2) : Nat) : Int)), y4, y5, y6]) ⟨W4, _, _, _, rfl⟩ ?_ (fun σ H' p => ⟨p.1.mono (by omega), p.2⟩)⟩
    rintro i σ H5 hi ⟨W5, y4, y5, y6, rfl⟩
    refine ⟨_, rfl, _, rfl, _, rfl, _, rfl, Bo, b, _, x, l, ns2, rfl, W5, by omega, hS, hN3, hok, fun H6 W6 => ⟨_, rfl, iteFo rfl ?_⟩⟩
    refine ⟨_, rfl, _, rfl, _, rfl, Bo, b, _, x, l, ns2, rfl, W6, by omega, hS, hN3, hok, hw2, fun H7 W7 => ⟨_, rfl, iteFo rfl ?_⟩⟩
    exact ⟨W7.mono (by omega), _, _, _, rfl⟩
  clear W4
  rintro σ H4 ⟨W4, y4, y5, y6, rfl⟩
  have ww : ∀ n ∈ ns2, WordOk n.1 := fun n hn => hok.wd _ (List.mem_map_of_mem hn)
  have w1 : ∀ n ∈ ns2, n.1.length ≤ 1000 := fun n hn => Nat.le_trans (ww n hn).hi (by omega)
  obtain ⟨sh, eqv⟩ := ns_shape ww
  obtain ⟨dx3, t3, o3, ps4, hx3, ht3, ho3, hT4⟩ := id hS
  refine ⟨_, rfl, x, _, dx3, _, .ref t3, rfl, W4.ex _ _ hx3, T.cl_Space, T.n_names, rfl, ?_⟩
  refine ⟨_, rfl, l, _, rfl, .inl ⟨SqL.of (W4.ex _ _ hl3), fun t5 o5 n_t5 ho5 => ?_⟩⟩
  obtain ⟨B5, e5, W5, h_t5⟩ := W4.new' (o2 := .frz o5 (.tup (ps3.map V.ref))) n_t5
  have D1 : AtK5 K B5 (.ref t3) (.tup (ns2.map nsTh)) := .tup (.inr ⟨_, e5 _ _ ht3⟩) (names_at w1 (hT4.up e5))
  have D2 : AtK5 K B5 (.ref t5) (.tup (ns2.map nsTh)) := .tup (.inr ⟨_, h_t5⟩) (names_at w1 (hT3.up e5))
  refine ⟨_, _, At.dp (.tup (ns2.map nsTh)) _ (ns_pl ns2) (D1.up W5.ex), At.dp (.tup (ns2.map nsTh)) _ (ns_pl ns2) (D2.up W5.ex), sh, sh, _, rfl, iteTo eqv ?_⟩
  refine ⟨_, rfl, x, dx3, _, rfl, W5.ex _ _ (e5 _ _ hx3), rfl, x, ns2, rfl, (hS.mono e5).mono W5.ex, hok, fun q H6 n_q e6 hq => ?_⟩
  have W6 := W5.grow e6
  have m2 := (menu_facts _ hok.sz).2.2.1
  refine ⟨_, rfl, _, rfl, RgOk.of_le (by omega) (by omega) (by omega) (by omega), fun p hp => ?_⟩
  have W7 := W6.skip (o := .lst (rV (List.range (prodN (szs ns2))))) hp
  rw [rg_list]
  obtain ⟨sh2, eq2⟩ := ints_shape (List.range (prodN (szs ns2)))
  refine ⟨_, _, .lst (SqL.of ((Evl.Ex.new hp) _ _ hq)) (dp_ints9 _), .lst (SqL.of upd_same) (dp_ints9 _), sh2, sh2, _, rfl, iteTo eq2 ?_⟩
  refine ⟨_, rfl, x, _, dx3, _, _, rfl, W7.ex _ _ (e5 _ _ hx3), T.cl_Space, T.n_never, rfl, _, rfl, rfl, ?_⟩
  rw [decide_eq_true rfl]
  exact hQ _ (eHb.trans (e5.trans W7.ex))

end
end K05
namespace K05
open PySem PySem.Spec PyProof.Rows L2 C8
section
variable {P : Program} {w : World} {K : PySem.W.Frag} {mg : Str → Option Value} {base : Heap}
abbrev N_law : List Str := ["script", "k"]
theorem sc_law : FnScope N_law ["script"] (defScope (top 52)) := ⟨rfl, rfl, rfl, by decide +kernel, rfl, by decide +kernel, by decide +kernel⟩
def spLaw (K : PySem.W.Frag) : Sp := fun vs H Q _ => ∃ (l : Addr) (ns : List Int), vs = [.ref l] ∧ SqL K H l (ns.map V.int) ∧ ns.length ≤ 63 ∧ ∀ H', Q (.bl true) H'
theorem fn_law (T : Txt K mg) (C_l_cell : Cal P w K mg base 1 "_law_cell" (spCell K) []) (C_l_box : Cal P w K mg base 1 "_law_box" spBox []) (C_l_right : Cal P w K mg base 47 "_law_right" spRight []) {fd : FuncData} (F : FunD K "law" "law" (defArgs (top 52)) (defBody (top 52)) (defScope (top 52)) [] [] (He.ga K "law") fd) : FnG P w K mg base C8.CX0 48 (He.ga K "law") fd ["script"] (spLaw K) := by
  refine F.okG sc_law (fun vs H Q E h => by obtain ⟨_, _, rfl, _⟩ := h; rfl) (fun cdv A outer s H vs Q E hG hr h => ?_)
  have hu := hu_of hr
  refine ⟨_, PSs.nox (pss_cons (ps_for PassesOwn.never rfl (pi_range1 (by rfl) T.f_range (pa_cons (pe_callB (call_max2 rfl) (by rfl) T.f_max (by decide +kernel) (pa_cons pe_int (pa_cons (pe_callB (call_min2 rfl) (by rfl) T.f_min (by decide +kernel) (pa_cons pe_int (pa_cons (pe_callB call_len_seq (by rfl) T.f_len (by decide +kernel) (pa_cons (pv 0) pa_nil)) pa_nil))) pa_nil))) pa_nil)) (pg_name (i := 1) sc_law.nd rfl (Or.inl rfl)) (pss_one (ps_if (pt_not (pt_val (pe_c C_l_right hr (by omega) rfl (pa_cons (pe_c C_l_box hr (by omega) rfl (pa_cons (pe_c C_l_cell hr (by omega) rfl (pa_cons (pv 0) (pa_cons (pv 1) pa_nil))) pa_nil)) pa_nil)))) (pss_one (ps_ret pe_bl)) pss_nil)))
      (pss_one (ps_ret pe_bl))), ?_⟩
  obtain ⟨l, ns, rfl, hS, hl, hQ⟩ := h
  refine ⟨_, rfl, l, ns.map V.int, rfl, .inl hS, 3, _, rfl, 2, _, rfl, _, rfl, ?_, ?_, ?_⟩
  · split <;> omega
  · split <;> split <;> omega
  refine for_it (walk_range (lo := 0) (n := _)) (fun i σ H' => Ex H H' ∧ ∃ x1, σ = [some (.ref l), x1]) ⟨Evl.Ex.refl _, none, rfl⟩ (fun _ _ _ _ _ => trivial) ?_ ?_
  · rintro i y σ H1' H1 hi ⟨e1, x1, rfl⟩ ⟨rfl, rfl⟩
    have hi4 : i < 10 := by
      refine Nat.lt_of_lt_of_le hi ?_
      split <;> split <;> omega
    refine ⟨_, rfl, _, rfl, l, ns, i, (by show [V.ref l, V.int (0 + (i : Int))] = _; rw [Int.zero_add]), Evl.ex_l e1 hS, hl, hi4, fun H2 e2 v => ?_⟩
    refine ⟨v, rfl, fun b H3 b0 e3 bx => ?_⟩
    refine ⟨H2, b, rfl, ⟨e3, b0, bx⟩, fun H4 e4 => ?_⟩
    refine ⟨true, rfl, iteFo rfl ?_⟩
    exact ⟨e1.trans (e2.trans e4), _, rfl⟩
  · rintro σ H1 ⟨e1, x1, rfl⟩
    exact hQ _
end
theorem law_ok {P : Program} {w : World} {K : PySem.W.Frag} {mg : Str → Option Value} {base : Heap} (T : Txt K mg) {fd : FuncData} (F : FunD K "law" "law" (defArgs (top 52)) (defBody (top 52)) (defScope (top 52)) [] [] (He.ga K "law") fd) : FnG P w K mg base C8.CX0 48 (He.ga K "law") fd ["script"] (spLaw K) := by
  have X_ok_is_whole : Cal P w K mg base 1 "is_whole" (spWhole K) [] := ok_is_whole (P := P) (w := w) (base := base) T 
  have X_ok_is_whole_from : Cal P w K mg base 2 "is_whole_from" (spFrom K) [] := ok_is_whole_from (P := P) (w := w) (base := base) T X_ok_is_whole
  have X_ok_is_word : Cal P w K mg base 1 "is_word" (spWord K) [] := ok_is_word (P := P) (w := w) (base := base) T 
  have X_okK_is_word : CalK P w K mg base 1 "is_word" ["value"] [0] (spWord K) := okK_is_word (P := P) (w := w) (base := base) T 
  have X_ok_is_sized_name : Cal P w K mg base 3 "is_sized_name" (spSized K) [] := ok_is_sized_name (P := P) (w := w) (base := base) T X_ok_is_word X_ok_is_whole_from
  have X_ok_stores_of_sizes : Cal P w K mg base 1 "stores_of_sizes" (spSizes K) [] := ok_stores_of_sizes (P := P) (w := w) (base := base) T 
  have X_ok_are_space_names : Cal P w K mg base 4 "are_space_names" (spNames K) [] := ok_are_space_names (P := P) (w := w) (base := base) T X_ok_is_sized_name X_ok_stores_of_sizes
  have X_ok_Ratio_init : Mak P w K mg base 2 "Ratio" (He.ga K "Ratio") (spRat K) [.int 1] := ok_Ratio_init (P := P) (w := w) (base := base) T X_ok_is_whole
  have X_ok_Ratio_eq : Spc P w K mg base 2 (He.ga K "Ratio") "__eq__" (spRatEq K) := ok_Ratio_eq (P := P) (w := w) (base := base) T X_ok_is_whole
  have X_ok_Space_contains : Spc P w K mg base 4 (He.ga K "Space") "__contains__" (spContains K) := ok_Space_contains (P := P) (w := w) (base := base) T X_ok_Ratio_eq
  have X_ok_Space_check_store : MetE P w K mg base 3 (He.ga K "Space") "check_store" (spChkStore K) := ok_Space_check_store (P := P) (w := w) (base := base) T X_ok_is_whole_from
  have X_ok_Space_check_name : MetE P w K mg base 5 (He.ga K "Space") "check_name" (spChkName K) := ok_Space_check_name (P := P) (w := w) (base := base) T X_ok_Space_contains
  have X_ok_Space_init : MakE P w K mg base 5 "Space" (He.ga K "Space") (spSpace K) := ok_Space_init (P := P) (w := w) (base := base) T X_ok_are_space_names X_ok_stores_of_sizes
  have X_ok_Space_values_of : MetE P w K mg base 4 (He.ga K "Space") "values_of" (spValuesOf K) := ok_Space_values_of (P := P) (w := w) (base := base) T X_ok_Space_check_store
  have X_ok_Space_store_of : MetE P w K mg base 3 (He.ga K "Space") "store_of" (spStoreOf K) := ok_Space_store_of (P := P) (w := w) (base := base) T X_ok_is_whole_from
  have X_ok_Space_size_of : MetE P w K mg base 6 (He.ga K "Space") "size_of" (spSizeOf K) := ok_Space_size_of (P := P) (w := w) (base := base) T X_ok_Space_check_name
  have X_ok_Space_value_of : MetE P w K mg base 6 (He.ga K "Space") "value_of" (spValueOf K) := ok_Space_value_of (P := P) (w := w) (base := base) T X_ok_Space_check_name X_ok_Space_values_of
  have X_ok_Space_with_value : MetE P w K mg base 7 (He.ga K "Space") "with_value" (spWithValue K) := ok_Space_with_value (P := P) (w := w) (base := base) T X_ok_Space_check_name X_ok_Space_values_of X_ok_Space_size_of X_ok_Space_store_of X_ok_is_whole
  have X_ok_l_cell : Cal P w K mg base 1 "_law_cell" (spCell K) [] := ok_l_cell (P := P) (w := w) (base := base) T 
  have X_ok_l_box : Cal P w K mg base 1 "_law_box" (spBox) [] := ok_l_box (P := P) (w := w) (base := base) T 
  have X_ok_l_take : Cal P w K mg base 1 "_law_take" (spTake) [] := ok_l_take (P := P) (w := w) (base := base) T 
  have X_ok_l_barred : Cal P w K mg base 1 "_law_barred" (spBarred) [] := ok_l_barred (P := P) (w := w) (base := base) T 
  have X_ok_Space_stores : Met P w K mg base 1 (He.ga K "Space") "stores" (spStores K) [] := ok_Space_stores (P := P) (w := w) (base := base) T 
  have X_ok_l_is_word : Cal P w K mg base 2 "_law_is_word" (spWord K) [] := ok_l_is_word (P := P) (w := w) (base := base) T X_ok_l_barred
  have X_ok_l_is_pair : Cal P w K mg base 3 "_law_is_pair" (spSized K) [] := ok_l_is_pair (P := P) (w := w) (base := base) T X_ok_l_is_word
  have X_ok_l_are_names : Cal P w K mg base 4 "_law_are_names" (spNames K) [] := ok_l_are_names (P := P) (w := w) (base := base) T X_ok_l_is_pair
  have X_ok_l_same : Cal P w K mg base 44 "_law_same" (spSame K 40) [] := ok_l_same (P := P) (w := w) (base := base) T X_ok_Ratio_eq 40
  have X_ok_l_copy : Cal P w K mg base 41 "_law_copy" (spCopy K 40) [] := ok_l_copy (P := P) (w := w) (base := base) T  40
  have X_ok_l_met : Cal P w K mg base 8 "_law_met" (spMet K) [] := ok_l_met (P := P) (w := w) (base := base) T X_ok_Space_init X_ok_Space_values_of X_ok_Space_store_of X_ok_Space_size_of X_ok_Space_value_of X_ok_Space_with_value
  have X_ok_l_is_odd : Cal P w K mg base 1 "_law_is_odd" (spOdd K) [] := ok_l_is_odd (P := P) (w := w) (base := base) T 
  have X_ok_l_are_values : Cal P w K mg base 1 "_law_are_values" (spAreVals K) [] := ok_l_are_values (P := P) (w := w) (base := base) T 
  have X_ok_l_word : Cal P w K mg base 2 "_law_word" (spWordL) [] := ok_l_word (P := P) (w := w) (base := base) T X_ok_l_take X_ok_l_barred
  have X_ok_l_names : Cal P w K mg base 3 "_law_names" (spNamesL) [] := ok_l_names (P := P) (w := w) (base := base) T X_ok_l_take X_ok_l_barred X_ok_l_word
  have X_ok_l_odd : Cal P w K mg base 4 "_law_odd" (spOddT K) [] := ok_l_odd (P := P) (w := w) (base := base) T X_ok_l_take X_ok_Ratio_init
  have X_ok_l_string : Cal P w K mg base 2 "_law_string" (spStringL) [] := ok_l_string (P := P) (w := w) (base := base) T X_ok_l_take X_ok_l_barred
  have X_ok_l_spoiled : Cal P w K mg base 5 "_law_spoiled" (spSpoiled K) [] := ok_l_spoiled (P := P) (w := w) (base := base) T X_ok_l_take X_ok_l_string X_ok_l_word X_ok_Ratio_init
  have X_ok_l_drawn : Cal P w K mg base 5 "_law_drawn" (spDrawn K) [] := ok_l_drawn (P := P) (w := w) (base := base) T X_ok_l_take X_ok_l_odd
  have X_ok_l_words_right : Cal P w K mg base 5 "_law_words_right" (spWordsR) [] := ok_l_words_right (P := P) (w := w) (base := base) T X_ok_is_word X_okK_is_word X_ok_l_is_word X_ok_l_string X_ok_l_barred X_ok_Ratio_init
  have X_ok_l_names_right : Cal P w K mg base 45 "_law_names_right" (spNamesR) [] := ok_l_names_right (P := P) (w := w) (base := base) T X_ok_l_take X_ok_l_spoiled X_ok_l_are_names X_ok_l_copy X_ok_l_met X_ok_l_same X_ok_l_odd
  have X_ok_l_methods_right : Cal P w K mg base 46 "_law_methods_right" (spMethodsR K) [] := ok_l_methods_right (P := P) (w := w) (base := base) T X_ok_l_drawn X_ok_l_is_odd X_ok_l_copy X_ok_l_met X_ok_l_same
  have X_ok_l_values_right : Cal P w K mg base 46 "_law_values_right" (spValuesR K) [] := ok_l_values_right (P := P) (w := w) (base := base) T X_ok_l_take X_ok_l_odd X_ok_l_are_values X_ok_l_copy X_ok_l_met X_ok_l_same X_ok_Ratio_init
  have X_ok_l_right : Cal P w K mg base 47 "_law_right" (spRight) [] := ok_l_right (P := P) (w := w) (base := base) T X_ok_l_names X_ok_Space_init X_ok_Space_stores X_ok_l_words_right X_ok_l_names_right X_ok_l_methods_right X_ok_l_values_right
  exact fn_law T X_ok_l_cell X_ok_l_box X_ok_l_right F
end K05
namespace K05
open PySem PySem.Spec PyProof.Rows L2
theorem txt_of {w : World} {K : PySem.W.Frag} {h : Heap} {mg : Str → Option Value} (X : K.In h) (G : h.Ns mainGlobals mg) (c : He.SaysX fa fn [] [] exB w h K) : Txt K mg := {
  f_isinstance := He.free_ok X G (c.t.d.fact 0 (f := .free "isinstance") rfl),
  f_int := He.free_ok X G (c.t.d.fact 1 (f := .free "int") rfl),
  f_bool := He.free_ok X G (c.t.d.fact 2 (f := .free "bool") rfl),
  f_len := He.free_ok X G (c.t.d.fact 3 (f := .free "len") rfl),
  f_str := He.free_ok X G (c.t.d.fact 4 (f := .free "str") rfl),
  f_all := He.free_ok X G (c.t.d.fact 5 (f := .free "all") rfl),
  f_list := He.free_ok X G (c.t.d.fact 6 (f := .free "list") rfl),
  f_tuple := He.free_ok X G (c.t.d.fact 7 (f := .free "tuple") rfl),
  f_dict := He.free_ok X G (c.t.d.fact 8 (f := .free "dict") rfl),
  f_range := He.free_ok X G (c.t.d.fact 9 (f := .free "range") rfl),
  f_abs := He.free_ok X G (c.t.d.fact 10 (f := .free "abs") rfl),
  f_sum := He.free_ok X G (c.t.d.fact 11 (f := .free "sum") rfl),
  f_min := He.free_ok X G (c.t.d.fact 12 (f := .free "min") rfl),
  f_max := He.free_ok X G (c.t.d.fact 13 (f := .free "max") rfl),
  f_repr := He.free_ok X G (c.t.d.fact 14 (f := .free "repr") rfl),
  f_set := He.free_ok X G (c.t.d.fact 15 (f := .free "set") rfl),
  f_zip := He.free_ok X G (c.t.d.fact 16 (f := .free "zip") rfl),
  c_LONGEST_WORD := (let ⟨t, h⟩ := He.int_ok X G (c.t.d.fact 17 (f := .int "LONGEST_WORD" 8) rfl); ⟨_, h, t, rfl⟩),
  c_MOST_NAMES := (let ⟨t, h⟩ := He.int_ok X G (c.t.d.fact 18 (f := .int "MOST_NAMES" 3) rfl); ⟨_, h, t, rfl⟩),
  c_LEAST_SIZE := (let ⟨t, h⟩ := He.int_ok X G (c.t.d.fact 19 (f := .int "LEAST_SIZE" 2) rfl); ⟨_, h, t, rfl⟩),
  c_GREATEST_SIZE := (let ⟨t, h⟩ := He.int_ok X G (c.t.d.fact 20 (f := .int "GREATEST_SIZE" 6) rfl); ⟨_, h, t, rfl⟩),
  c_MOST_STORES := (let ⟨t, h⟩ := He.int_ok X G (c.t.d.fact 21 (f := .int "MOST_STORES" 8) rfl); ⟨_, h, t, rfl⟩),
  c_LETTERS := (let ⟨t, h⟩ := He.str_ok X G (c.t.d.fact 22 (f := .str "LETTERS" "abcdefghijklmnopqrstuvwxyz") rfl); ⟨_, h, t, rfl⟩),
  c_LANGUAGE_WORDS := ⟨_, He.glo_ok X G (c.t.d.fact 23 (f := .glo "LANGUAGE_WORDS") rfl), rfl⟩,
  c_Space := ⟨_, He.glo_ok X G (c.t.d.fact 24 (f := .glo "Space") rfl), rfl⟩,
  c_Ratio := ⟨_, He.glo_ok X G (c.t.d.fact 25 (f := .glo "Ratio") rfl), rfl⟩,
  c_PatchError := ⟨_, He.glo_ok X G (c.t.d.fact 26 (f := .glo "PatchError") rfl), rfl⟩,
  c_InvalidNumber := ⟨_, He.glo_ok X G (c.t.d.fact 27 (f := .glo "InvalidNumber") rfl), rfl⟩,
  c_InvalidNames := ⟨_, He.glo_ok X G (c.t.d.fact 28 (f := .glo "InvalidNames") rfl), rfl⟩,
  c_InvalidStore := ⟨_, He.glo_ok X G (c.t.d.fact 29 (f := .glo "InvalidStore") rfl), rfl⟩,
  c_InvalidValues := ⟨_, He.glo_ok X G (c.t.d.fact 30 (f := .glo "InvalidValues") rfl), rfl⟩,
  c_InvalidName := ⟨_, He.glo_ok X G (c.t.d.fact 31 (f := .glo "InvalidName") rfl), rfl⟩,
  c_ByZero := ⟨_, He.glo_ok X G (c.t.d.fact 32 (f := .glo "ByZero") rfl), rfl⟩,
  t_LW := fun H => He.tupB_ok (exs_ c.more 0 rfl) H,
  d_is_whole := c.t.d.def_ 0 (d := dG 11 "is_whole") rfl,
  g_is_whole := He.glo_ok X G (c.t.d.fact 33 (f := .glo "is_whole") rfl),
  d_is_whole_from := c.t.d.def_ 1 (d := dG 12 "is_whole_from") rfl,
  g_is_whole_from := He.glo_ok X G (c.t.d.fact 34 (f := .glo "is_whole_from") rfl),
  d_is_word := c.t.d.def_ 2 (d := dG 21 "is_word") rfl,
  g_is_word := He.glo_ok X G (c.t.d.fact 35 (f := .glo "is_word") rfl),
  d_is_sized_name := c.t.d.def_ 3 (d := dG 22 "is_sized_name") rfl,
  g_is_sized_name := He.glo_ok X G (c.t.d.fact 36 (f := .glo "is_sized_name") rfl),
  d_stores_of_sizes := c.t.d.def_ 4 (d := dG 23 "stores_of_sizes") rfl,
  g_stores_of_sizes := He.glo_ok X G (c.t.d.fact 37 (f := .glo "stores_of_sizes") rfl),
  d_are_space_names := c.t.d.def_ 5 (d := dG 24 "are_space_names") rfl,
  g_are_space_names := He.glo_ok X G (c.t.d.fact 38 (f := .glo "are_space_names") rfl),
  d__law_cell := c.t.d.def_ 6 (d := dG 29 "_law_cell") rfl,
  g__law_cell := He.glo_ok X G (c.t.d.fact 39 (f := .glo "_law_cell") rfl),
  d__law_box := c.t.d.def_ 7 (d := dG 30 "_law_box") rfl,
  g__law_box := He.glo_ok X G (c.t.d.fact 40 (f := .glo "_law_box") rfl),
  d__law_take := c.t.d.def_ 8 (d := dG 31 "_law_take") rfl,
  g__law_take := He.glo_ok X G (c.t.d.fact 41 (f := .glo "_law_take") rfl),
  d__law_barred := c.t.d.def_ 9 (d := dG 32 "_law_barred") rfl,
  g__law_barred := He.glo_ok X G (c.t.d.fact 42 (f := .glo "_law_barred") rfl),
  d__law_is_word := c.t.d.def_ 10 (d := dG 33 "_law_is_word") rfl,
  g__law_is_word := He.glo_ok X G (c.t.d.fact 43 (f := .glo "_law_is_word") rfl),
  d__law_is_pair := c.t.d.def_ 11 (d := dG 34 "_law_is_pair") rfl,
  g__law_is_pair := He.glo_ok X G (c.t.d.fact 44 (f := .glo "_law_is_pair") rfl),
  d__law_are_names := c.t.d.def_ 12 (d := dG 35 "_law_are_names") rfl,
  g__law_are_names := He.glo_ok X G (c.t.d.fact 45 (f := .glo "_law_are_names") rfl),
  d__law_string := c.t.d.def_ 13 (d := dG 36 "_law_string") rfl,
  g__law_string := He.glo_ok X G (c.t.d.fact 46 (f := .glo "_law_string") rfl),
  d__law_word := c.t.d.def_ 14 (d := dG 37 "_law_word") rfl,
  g__law_word := He.glo_ok X G (c.t.d.fact 47 (f := .glo "_law_word") rfl),
  d__law_names := c.t.d.def_ 15 (d := dG 38 "_law_names") rfl,
  g__law_names := He.glo_ok X G (c.t.d.fact 48 (f := .glo "_law_names") rfl),
  d__law_odd := c.t.d.def_ 16 (d := dG 39 "_law_odd") rfl,
  g__law_odd := He.glo_ok X G (c.t.d.fact 49 (f := .glo "_law_odd") rfl),
  d__law_spoiled := c.t.d.def_ 17 (d := dG 40 "_law_spoiled") rfl,
  g__law_spoiled := He.glo_ok X G (c.t.d.fact 50 (f := .glo "_law_spoiled") rfl),
  d__law_are_values := c.t.d.def_ 18 (d := dG 41 "_law_are_values") rfl,
  g__law_are_values := He.glo_ok X G (c.t.d.fact 51 (f := .glo "_law_are_values") rfl),
  d__law_same := c.t.d.def_ 19 (d := dG 42 "_law_same") rfl,
  g__law_same := He.glo_ok X G (c.t.d.fact 52 (f := .glo "_law_same") rfl),
  d__law_copy := c.t.d.def_ 20 (d := dG 43 "_law_copy") rfl,
  g__law_copy := He.glo_ok X G (c.t.d.fact 53 (f := .glo "_law_copy") rfl),
  d__law_met := c.t.d.def_ 21 (d := dG 44 "_law_met") rfl,
  g__law_met := He.glo_ok X G (c.t.d.fact 54 (f := .glo "_law_met") rfl),
  d__law_words_right := c.t.d.def_ 22 (d := dG 45 "_law_words_right") rfl,
  g__law_words_right := He.glo_ok X G (c.t.d.fact 55 (f := .glo "_law_words_right") rfl),
  d__law_names_right := c.t.d.def_ 23 (d := dG 46 "_law_names_right") rfl,
  g__law_names_right := He.glo_ok X G (c.t.d.fact 56 (f := .glo "_law_names_right") rfl),
  d__law_is_odd := c.t.d.def_ 24 (d := dG 47 "_law_is_odd") rfl,
  g__law_is_odd := He.glo_ok X G (c.t.d.fact 57 (f := .glo "_law_is_odd") rfl),
  d__law_drawn := c.t.d.def_ 25 (d := dG 48 "_law_drawn") rfl,
  g__law_drawn := He.glo_ok X G (c.t.d.fact 58 (f := .glo "_law_drawn") rfl),
  d__law_methods_right := c.t.d.def_ 26 (d := dG 49 "_law_methods_right") rfl,
  g__law_methods_right := He.glo_ok X G (c.t.d.fact 59 (f := .glo "_law_methods_right") rfl),
  d__law_values_right := c.t.d.def_ 27 (d := dG 50 "_law_values_right") rfl,
  g__law_values_right := He.glo_ok X G (c.t.d.fact 60 (f := .glo "_law_values_right") rfl),
  d__law_right := c.t.d.def_ 28 (d := dG 51 "_law_right") rfl,
  g__law_right := He.glo_ok X G (c.t.d.fact 61 (f := .glo "_law_right") rfl),
  d_Space_init := c.t.d.def_ 29 (d := dM 25 0 "Space" "__init__" "Space.__init__") rfl,
  d_Space_contains := c.t.d.def_ 30 (d := dM 25 2 "Space" "__contains__" "Space.__contains__") rfl,
  d_Space_stores := c.t.d.def_ 31 (d := dM 25 4 "Space" "stores" "Space.stores") rfl,
  d_Space_values_of := c.t.d.def_ 32 (d := dM 25 5 "Space" "values_of" "Space.values_of") rfl,
  d_Space_store_of := c.t.d.def_ 33 (d := dM 25 6 "Space" "store_of" "Space.store_of") rfl,
  d_Space_size_of := c.t.d.def_ 34 (d := dM 25 7 "Space" "size_of" "Space.size_of") rfl,
  d_Space_value_of := c.t.d.def_ 35 (d := dM 25 8 "Space" "value_of" "Space.value_of") rfl,
  d_Space_with_value := c.t.d.def_ 36 (d := dM 25 9 "Space" "with_value" "Space.with_value") rfl,
  d_Space_check_store := c.t.d.def_ 37 (d := dM 25 10 "Space" "check_store" "Space.check_store") rfl,
  d_Space_check_name := c.t.d.def_ 38 (d := dM 25 11 "Space" "check_name" "Space.check_name") rfl,
  s_Space_contains := He.eqO_ok (exs_ c.more 1 rfl),
  sf_Space_contains := (exs_ c.more 2 rfl),
  m_Space_stores := He.meth_ok (c.t.d.fact 62 (f := .meth "Space" "stores") rfl),
  m_Space_values_of := He.meth_ok (c.t.d.fact 63 (f := .meth "Space" "values_of") rfl),
  m_Space_store_of := He.meth_ok (c.t.d.fact 64 (f := .meth "Space" "store_of") rfl),
  m_Space_size_of := He.meth_ok (c.t.d.fact 65 (f := .meth "Space" "size_of") rfl),
  m_Space_value_of := He.meth_ok (c.t.d.fact 66 (f := .meth "Space" "value_of") rfl),
  m_Space_with_value := He.meth_ok (c.t.d.fact 67 (f := .meth "Space" "with_value") rfl),
  m_Space_check_store := He.meth_ok (c.t.d.fact 68 (f := .meth "Space" "check_store") rfl),
  m_Space_check_name := He.meth_ok (c.t.d.fact 69 (f := .meth "Space" "check_name") rfl),
  cl_Space := He.cls_ok (c.t.d.fact 70 (f := .cls "Space") rfl),
  mk_Space := He.mkr_ok (c.t.d.fact 71 (f := .mkr "Space") rfl),
  g_Space := He.glo_ok X G (c.t.d.fact 24 (f := .glo "Space") rfl),
  n_names := He.noat_ok (c.t.d.fact 72 (f := .noat "Space" "names") rfl),
  n_never := He.noat_ok (c.t.d.fact 73 (f := .noat "Space" "never") rfl),
  ac_Space := He.eqO_ok (exs_ c.more 3 rfl),
  ob_Space := of_decide_eq_true (exs_ c.more 4 rfl),
  kc_Space := (exs_ c.more 5 rfl),
  ks_Space := of_decide_eq_true (exs_ c.more 6 rfl),
  nf_Space := (exs_ c.more 7 rfl),
  d_Ratio_init := c.t.d.def_ 39 (d := ⟨("Ratio", some "__init__"), "__init__", "Ratio.__init__", defArgs (inClass (top 27) 0), defBody (inClass (top 27) 0), defScope (inClass (top 27) 0), [.int 1], []⟩) rfl,
  d_Ratio_eq := c.t.d.def_ 40 (d := dM 27 8 "Ratio" "__eq__" "Ratio.__eq__") rfl,
  s_Ratio_eq := He.eqO_ok (exs_ c.more 8 rfl),
  sf_Ratio_eq := (exs_ c.more 9 rfl),
  cl_Ratio := He.cls_ok (c.t.d.fact 74 (f := .cls "Ratio") rfl),
  mk_Ratio := He.mkr_ok (c.t.d.fact 75 (f := .mkr "Ratio") rfl),
  g_Ratio := He.glo_ok X G (c.t.d.fact 25 (f := .glo "Ratio") rfl),
  n_top := He.noat_ok (c.t.d.fact 76 (f := .noat "Ratio" "top") rfl),
  n_bottom := He.noat_ok (c.t.d.fact 77 (f := .noat "Ratio" "bottom") rfl),
  ac_Ratio := He.eqO_ok (exs_ c.more 10 rfl),
  ob_Ratio := of_decide_eq_true (exs_ c.more 11 rfl),
  kc_Ratio := (exs_ c.more 12 rfl),
  ks_Ratio := of_decide_eq_true (exs_ c.more 13 rfl),
  nf_Ratio := (exs_ c.more 14 rfl),
  b_gcd := PySem.W.mg_of X G (He.eqO_ok (exs_ c.more 15 rfl)),
  cg := of_decide_eq_true (exs_ c.more 16 rfl),
  ct := of_decide_eq_true (exs_ c.more 17 rfl),
  pe_cl := (exs_ c.more 18 rfl),
  pe_ty := of_decide_eq_true (exs_ c.more 19 rfl),
  pe_su := of_decide_eq_true (exs_ c.more 20 rfl),
  pe_hd := (exs_ c.more 21 rfl),
  nd := of_decide_eq_true (exs_ c.more 22 rfl),
  kt_Ratio := fun n hn => of_decide_eq_true (List.all_eq_true.mp (exs_ c.more 23 rfl) n hn),
  kr_Ratio := of_decide_eq_true (exs_ c.more 24 rfl),
  su_Ratio := of_decide_eq_true (exs_ c.more 25 rfl),
  ex := List.all_eq_true.mp (exs_ c.more 26 rfl),
  d_InvalidNumber_init := c.t.d.def_ 41 (d := dM 4 0 "InvalidNumber" "__init__" "InvalidNumber.__init__") rfl,
  g_InvalidNumber := He.glo_ok X G (c.t.d.fact 27 (f := .glo "InvalidNumber") rfl),
  d_InvalidNames_init := c.t.d.def_ 42 (d := dM 5 0 "InvalidNames" "__init__" "InvalidNames.__init__") rfl,
  g_InvalidNames := He.glo_ok X G (c.t.d.fact 28 (f := .glo "InvalidNames") rfl),
  d_InvalidStore_init := c.t.d.def_ 43 (d := dM 6 0 "InvalidStore" "__init__" "InvalidStore.__init__") rfl,
  g_InvalidStore := He.glo_ok X G (c.t.d.fact 29 (f := .glo "InvalidStore") rfl),
  d_InvalidValues_init := c.t.d.def_ 44 (d := dM 7 0 "InvalidValues" "__init__" "InvalidValues.__init__") rfl,
  g_InvalidValues := He.glo_ok X G (c.t.d.fact 30 (f := .glo "InvalidValues") rfl),
  d_InvalidName_init := c.t.d.def_ 45 (d := dM 8 0 "InvalidName" "__init__" "InvalidName.__init__") rfl,
  g_InvalidName := He.glo_ok X G (c.t.d.fact 31 (f := .glo "InvalidName") rfl),
  d_ByZero_init := c.t.d.def_ 46 (d := dM 9 0 "ByZero" "__init__" "ByZero.__init__") rfl,
  g_ByZero := He.glo_ok X G (c.t.d.fact 32 (f := .glo "ByZero") rfl),
  g_PatchError := He.glo_ok X G (c.t.d.fact 26 (f := .glo "PatchError") rfl) }
theorem law_d {w : World} {K : PySem.W.Frag} {h : Heap} (c : He.SaysX fa fn [] [] exB w h K) : ∃ fd, FunD K "law" "law" (defArgs (top 52)) (defBody (top 52)) (defScope (top 52)) [] [] (He.ga K "law") fd := c.t.d.def_ 47 (d := dG 52 "law") rfl
theorem law_g {w : World} {K : PySem.W.Frag} {h : Heap} {mg : Str → Option Value} (X : K.In h) (G : h.Ns mainGlobals mg) (c : He.SaysX fa fn [] [] exB w h K) : mg "law" = some (.ref (He.ga K "law")) := He.glo_ok X G (c.t.d.fact 78 (f := .glo "law") rfl)
end K05
set_option Elab.async false
set_option linter.all false
set_option maxRecDepth 100000
set_option maxHeartbeats 0
open L2

open PySem PySem.W PySem.Calls PyProof.Rows
theorem PySem.Challenge.cw_fairpatch_k05_refused_spaces_and_stores_holds : PySem.Challenge.rw_fairpatch_k05_refused_spaces_and_stores.Holds := by
  w_on; o_law
  refine HandSHeadRun.head_imp (r := OpenLaw.row PySem.Challenge.rw_fairpatch_k05_refused_spaces_and_stores) (q := view (OpenLaw.row PySem.Challenge.rw_fairpatch_k05_refused_spaces_and_stores).prog [0, 52]) (H := K05.hk) (ob := K05.ob) (M := 16000) (loose := K05.names) (d := HandSHeadRun.topDef (OpenLaw.row PySem.Challenge.rw_fairpatch_k05_refused_spaces_and_stores).prog 52) (kwd := []) K05.ob_eq
    K05.run (by kernel_rfl) (by kernel_rfl) (by kernel_rfl) (by rfl) (by first | assumption | decide +kernel) (by decide +kernel) ⟨rfl, rfl, rfl, rfl, rfl, by decide +kernel⟩ ?hw ?hc
  case hw => w_witness2
  case hc =>
    refine L2.walk_ofG (l := PySem.Challenge.rw_fairpatch_k05_refused_spaces_and_stores) (n := 63) (k := 48) (x := "script") rfl (by decide) (by kernel_rfl) ⟨rfl, by decide, by decide⟩ ?F
    intro w mg fa h Y G hmg0
    obtain ⟨K, KX, c⟩ := Y
    have hmg : mg ("law" : PySem.Str) = some (.ref fa) := by
      have e : (HandSHeadRun.topDef (OpenLaw.row PySem.Challenge.rw_fairpatch_k05_refused_spaces_and_stores).prog 52).name = ("law" : PySem.Str) := by kernel_rfl
      rw [← e]
      exact hmg0
    have T := K05.txt_of KX G c
    obtain ⟨fd, F⟩ := K05.law_d c
    have e := hmg.symm.trans (K05.law_g KX G c)
    cases e
    have b := FunD.bindsA (ps := ["script"]) F fun _ _ _ _ _ _ us hl => match us, hl with | [_], _ => rfl
    exact ⟨K, fd, K05.spLaw K, KX, fun s v => b s [v] rfl, fun H a ns hl _ hS => ⟨a, ns, rfl, hS, hl, fun _ => rfl⟩, fun base _ _ => K05.law_ok T F⟩

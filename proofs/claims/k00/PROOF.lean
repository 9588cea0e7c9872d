import PyProof.Rows.All
import Wide.All
import OpenK.AllK
import Wide.FinOn
import KE.KStateDown
import PyProof.InstEq
import PyProof.InstNe
import PyProof.Rows.NestShow
import HandS.ForMost
import HandS.Defaults
import HandS.Exc
import HandS.IsInst
import HandS.OwnEq
import HandS.Codes
import HandS.Wide
import HandS.Evl
import HandS.Iter
import KE.KDictZip
import KE.KTurns
import HandS.Dict
import HandS.Strs
import KE.KDictPairs
import HandS.Sort
import PyProof.FactsAll.range_2
import HandS.MakeKwOnly
import HandS.Ends
import HandS.HeadEnd
import HandS.Style
import HandS.TupAny
import HandS.Star
import KE.KEqNest
import KE.GoesEnum
import KE.GoesMore
import PyProof.SliceList
import KE.KExcIs
import KE.KTryMore
import HandS.Base
import HandS.Call
import HandS.List
import HandS.ExcIs
import HandS.ExcField
import HandS.ExcInit
import HandS.ExcCtx
import HandS.ExcValue
import HandS.HotCalls
import HandS.HeadHook1
import HandS.Conv
import HandS.ListItems
import HandS.Deep
import HandS.Replace
import HandS.HeadHook2
import HandS.HeadHook4
import HandS.WordsExc
import HandS.Head0
import HandS.Head1
import HandS.Head2
import HandS.Head3
import HandS.HeadHook3
import HandS.ExcValueHot
import HandS.Comp
import HandS.TryMany
import HandS.SuiteRaise
import HandS.Walk
import PyProof.StrLawsRepr
import HandS.Gcd
import HandS.DictSub
import PySem.Challenge.RW_fairpatch_k00_errors
set_option Elab.async false
set_option linter.all false
set_option maxRecDepth 100000
set_option maxHeartbeats 4000000
/-! Further rules: defs that are run where nothing is being shown (repr), methods called with keywords, own len, in, ==, !=. -/
namespace L2
open PySem PySem.Spec PyProof.Rows

/-! ### defs called where nothing is being shown -/
structure FnG (P : Program) (w : World) (K : PySem.W.Frag) (mg : Str → Option Value) (base : Heap) (CX : CXT) (k : Nat) (f : Addr) (fd : FuncData) (ps : List Str) (sp : Sp) : Prop where
  len : ∀ vs H Q E, sp vs H Q E → vs.length = ps.length
  run : ∀ (A : Around) (outer : List Env) (s : Shared) (H : Hp) (args : Args) (us : List Value) (vs : List V) (Q : VK) (E : XK), A.guards = some [] → Room k A → Env0 P w K mg base A outer s H → BindsTo s fd args (ps.zip us) → Vals vs us → sp vs H Q E →
    codeAny (model P w) A (.call (.ref f) args) (CR CX outer P w H s Q E) s
theorem FnOk.g {P : Program} {w : World} {K : PySem.W.Frag} {mg : Str → Option Value} {base : Heap} {CX : CXT} {k : Nat} {f : Addr} {fd : FuncData} {ps : List Str} {sp : Sp} (F : FnOk P w K mg base CX k f fd ps sp) : FnG P w K mg base CX k f fd ps sp :=
  ⟨F.len, fun A outer s H args us vs Q E _ hr => F.run A outer s H args us vs Q E hr⟩
theorem fn_ofG {CX : CXT} {P : Program} {w : World} {K : PySem.W.Frag} {mg : Str → Option Value} {base : Heap} {k : Nat} {f : Addr} {name qual : Str} {params : Arguments} {body : List Stmt} {scope : Scope} {dV kV doc pm cdv ct oc : Value} {an od : Option Addr}
    {osl : Array (Option Value)} {N ps : List Str} {sp : Sp} (lk : K.lookup f = some ⟨oc, od, .func (PySem.W.fnOf name qual params body scope dV kV doc pm an cdv ct), osl⟩) (hcd : PySem.W.codeIn K cdv qual = true) (S : FnScope N ps scope)
    (len : ∀ vs H Q E, sp vs H Q E → vs.length = ps.length)
    (hbody : ∀ (A : Around) (outer : List Env) (s : Shared) (H : Hp) (vs : List V) (Q : VK) (E : XK), (A.deeper (envOfC qual scope s.heap.objs.size f cdv)).guards = some [] → Room k (A.deeper (envOfC qual scope s.heap.objs.size f cdv)) → sp vs H Q E →
      ∃ t, PSs (cxOf CX P w K mg base N qual scope f cdv A outer s H E) body t ∧ t { nx := fun _ H' => Q .non H', rt := Q } (start N vs) H) :
    FnG P w K mg base CX (k + 1) f (PySem.W.fnOf name qual params body scope dV kV doc pm an cdv ct) ps sp := by
  refine ⟨len, fun A outer s H args us vs Q E hG hr e0 hb r hsp => ?_⟩
  have hl := len _ _ _ _ hsp
  have KX : K.In s.heap := e0.mod.kin.keeps fun b o e => (e0.bs b o e).1
  have lim : s.heap.NoLimit := e0.mod.nolimit.keeps fun b o e => (e0.bs b o e).1
  have hkind : ∀ y ∈ ps.zip us, scope.names.lookup y.1 = some .local ∨ (scope.names.lookup y.1 = some .cell ∧ ((cellsFrom (s.heap.objs.size + 1) scope.names []).lookup y.1).isSome = true) := fun ⟨n, v⟩ hy => by
    rcases S.par n (List.of_mem_zip hy).1 with q | q
    · exact .inl q
    · exact .inr ⟨q, PySem.W.cellsFrom_some _ _ _ (.inl q)⟩
  refine codeAny_call_function hr.depth (KX _ _ lk) rfl S.co S.gen rfl (PySem.W.codeRec_of KX hcd) (hb _ _ _ _ ?_)
  refine wpAny_newFunctionEnv_cells S.kind hkind fun env he s1 x => ?_
  subst he
  refine ⟨lim.keeps x.toInCall.keep, codeAny_func ?_⟩
  obtain ⟨t, ht, hq⟩ := hbody A outer s H vs Q E hG (hr.deeper _) hsp
  have I : Inv (cxOf CX P w K mg base N qual scope f cdv A outer s H E) [] (start N vs) H s1 := inv_start S hr.hd e0 hl r x
  refine wpAny_mono (ht.run [] s1 (start N vs) H _ I hq) (fun fl s' hs => ?_) fun e s' hs => hs
  have fin : ∀ {σ' : St} {H' : Hp} {v : V} {u : Value}, Inv (cxOf CX P w K mg base N qual scope f cdv A outer s H E) [] σ' H' s' → RelV v u → Q v H' → CE outer P w H s Q u s' :=
    fun {σ' H' v u} J rv q => ⟨v, H', J.os, J.bare, J.base, J.hok, rv, q⟩
  cases fl with
  | ret u =>
    obtain ⟨v, σ', H', J, rv, q⟩ := hs
    exact fin J rv q
  | next =>
    obtain ⟨σ', H', J, q⟩ := hs
    exact fin (v := V.non) (u := Value.none) J rfl q
  | brk =>
    obtain ⟨_, _, _, q⟩ := hs
    exact False.elim q
  | cont =>
    obtain ⟨_, _, _, q⟩ := hs
    exact False.elim q
theorem FunD.okG {CX : CXT} {P : Program} {w : World} {K : PySem.W.Frag} {mg : Str → Option Value} {base : Heap} {x qual : Str} {params : Arguments} {body : List Stmt} {scope : Scope} {dvs : List V} {kws : List (Str × V)} {f : Addr} {fd : FuncData} {N ps : List Str} {k : Nat} {sp : Sp}
    (F : FunD K x qual params body scope dvs kws f fd) (S : FnScope N ps scope) (len : ∀ vs H Q E, sp vs H Q E → vs.length = ps.length)
    (hbody : ∀ (cdv : Value) (A : Around) (outer : List Env) (s : Shared) (H : Hp) (vs : List V) (Q : VK) (E : XK), (A.deeper (envOfC qual scope s.heap.objs.size f cdv)).guards = some [] → Room k (A.deeper (envOfC qual scope s.heap.objs.size f cdv)) → sp vs H Q E →
      ∃ t, PSs (cxOf CX P w K mg base N qual scope f cdv A outer s H E) body t ∧ t { nx := fun _ H' => Q .non H', rt := Q } (start N vs) H) : FnG P w K mg base CX (k + 1) f fd ps sp := by
  obtain ⟨oc, od, dV, kV, doc, pm, an, cdv, ct, osl, rfl, lk, hcd, _, _⟩ := F.ex
  exact fn_ofG lk hcd S len fun A outer s H vs Q E hG hr hsp => hbody cdv A outer s H vs Q E hG hr hsp

/-- a def of the module, called where nothing is being shown -/
structure CalG (P : Program) (w : World) (K : PySem.W.Frag) (mg : Str → Option Value) (base : Heap) (k : Nat) (x : Str) (sp : Sp) : Prop where
  ex : ∃ (f : Addr) (fd : FuncData) (ps : List Str), FnG P w K mg base CX0 k f fd ps sp ∧ mg x = some (.ref f) ∧ PySem.W.keepIn K (.ref f) = true ∧ Binds K fd ps []
section
variable {X : Cx} {CX : CXT} {k j : Nat} {f C : Addr} {fd : FuncData} {ps ks : List Str} {sp : Sp} {ds : List Value} {dvs : List V} {E : XK} {x m : Str} {p pos apos : Pos} {e o : Expr} {es : List Expr} {kws : List Keyword} {ta : TE} {t tk : TA} {g : List Value → List Value → List Value} {gV : List V → List V → List V}
theorem pe_cG (c : CalG X.prog X.w X.K X.mg X.base k x sp) (hG : X.A.guards = some []) (hr : Room j X.A) (hk : k ≤ j) (hg : Gl X x) (ha : PA X (e :: es) t)
    (hdb : (x == ("__debug__" : Str)) = false := by decide) (he : starEach (e :: es) X.env = (false, eval e X.env) :: starEach es X.env := by rfl) (hpl : (backTo pos (starEach es X.env)).any (·.1) = false := by rfl) :
    PE X (.Call (.Name x p) (e :: es) [] pos) (tCall sp [] E0 t) := by
  obtain ⟨f, fd, ps, F, hm, kp, hb⟩ := c.ex
  refine ⟨fun pins s σ H Q I h => ?_⟩
  refine wpAny_Call_Name_kw (ld_glob I hg hm ?_ hdb)
  refine PySem.W.callWith_K (h₀ := X.base) I.ok.mod.kin kp (thn (ha.run pos pins s σ H _ I h) fun us s1 ⟨vs, H1, I1, r, q⟩ => ⟨I1.kIn, ?_⟩) he hpl
  have r2 : Vals (vs ++ []) (us ++ []) := r.append .nil
  have hl : (us ++ []).length = ps.length := by rw [← r2.length]; exact F.len _ _ _ _ q
  refine wpAny_call (codeAny_mono (F.run X.A X.stack s1 H1 ⟨us, []⟩ (us ++ []) (vs ++ []) Q E0 hG (hr.mono hk) I1.env0 (hb s1 us I1.kIn hl) r2 q) fun r s' hq => ?_)
  cases r with
  | error e => exact False.elim hq
  | ok fl =>
    cases fl with
    | ret u => exact I1.after hq
    | next => exact False.elim hq
    | brk => exact False.elim hq
    | cont => exact False.elim hq

/-! ### a method called with keywords -/
def tMethK (C : Addr) (m : Str) (n nk : Nat) (sp : Sp) (gV : List V → List V → List V) (E : XK) (ta : TE) (t tk : TA) : TE := fun σ H Q => ta σ H fun x H1 => ∃ a dx fs, x = .ref a ∧ H1 a = some (.ins C dx fs) ∧ fs.lookup m = none ∧
  t σ H1 fun vs H2 => tk σ H2 fun zs H3 => vs.length = n ∧ zs.length = nk ∧ sp (gV (x :: vs) zs) H3 Q E
theorem run_fnKn {pins : List (Addr × Obj)} {σ : St} {H : Hp} {s : Shared} {Q : VK} {us ws : List Value} {vs zs : List V} {n : Nat} (F : FnOk X.prog X.w X.K X.mg X.base CX k f fd ps sp) (hr : Room k X.A) (hb : KBn X.K fd ps n ks g gV) (hx : Passes CX X E)
    (I : Inv X pins σ H s) (r : Vals vs us) (rz : Vals zs ws) (l1 : vs.length = n) (l2 : zs.length = ks.length) (h : sp (gV vs zs) H Q E) : wpAny (model X.prog X.w) X.A (call (.ref f) us (ks.zip ws)) (EP X pins σ Q) X.xe s := by
  have r2 := hb.rel r rz
  refine wpAny_call (codeAny_mono (F.run X.A X.stack s H ⟨us, ks.zip ws⟩ (g us ws) (gV vs zs) Q E hr I.env0 (hb.to s us ws I.kIn (r.length.symm.trans l1) (rz.length.symm.trans l2)) r2 h) fun r s' hq => ?_)
  cases r with
  | error e => exact hx pins σ H s e s' I hq
  | ok fl =>
    cases fl with
    | ret u => exact I.after hq
    | next => exact False.elim hq
    | brk => exact False.elim hq
    | cont => exact False.elim hq
theorem pe_methK0 {pl : Sem Bool} (he : PE X o ta) (c : Cls X.K C) (hm : Meth X.K C m f) (F : FnOk X.prog X.w X.K X.mg X.base CX k f fd ps sp) (hr : Room k X.A) (hb : KBn X.K fd ps 1 ks g gV) (hx : Passes CX X E) (hkw : PK X kws tk)
    (hall : (backToKw pos (keywordEach kws X.env)).all (·.1.isSome) = true := by rfl) (hks : (backToKw pos (keywordEach kws X.env)).filterMap (·.1) = ks := by rfl)
    (hpl : ((backTo pos (starEach [] X.env)).any (·.1) || (backToKw pos (keywordEach kws X.env)).any (·.1.isNone)) = false := by rfl)
    (ht : eval (.Call (.Attribute o m apos) [] kws pos) X.env = (do
      let ov ← eval o X.env
      standAt apos.atName
      let (f, first) ← holding [ov] (getMethod ov m pl)
      callWith pos f first (backTo pos (starEach [] X.env)) (backToKw pos (keywordEach kws X.env))) := by rfl) :
    PE X (.Call (.Attribute o m apos) [] kws pos) (tMethK C m 0 ks.length sp gV E ta tNil tk) := by
  refine ⟨fun pins s σ H Q I h => ?_⟩
  refine PySem.W.methodCall_KW (pl := pl) (thn (he.run pins s σ H _ I h) fun u s1 ⟨x, H1, I1, rx, a, dx, fs, ex, ea, l, q⟩ => ?_) ht
  subst ex
  obtain rfl : u = Value.ref a := rx
  refine getmeth_ok I1 ea c hm l ?_
  refine PySem.W.callWith_KW0 (first := [.ref a]) I1.kIn hm.kp hall ?_ hpl
  refine thn (hkw.run pos pins s1 σ H1 _ I1 q) fun ws s2 ⟨zs, H2, I2, rz, l1, l2, q2⟩ => ⟨I2.kIn, ?_⟩
  rw [hks]
  exact run_fnKn (us := [.ref a]) (vs := [.ref a]) F hr hb hx I2 (.cons rfl .nil) rz rfl l2 q2
end

/-! ### repr of data -/
structure rRepr (K : PySem.W.Frag) (xs : List V) (H : Hp) (Q : VK) : Prop where
  ex : ∃ v d, xs = [v] ∧ Dp K H v d ∧ d.showable = true ∧ d.hasDict = false ∧ d.depth ≤ 60 ∧ d.shown.length ≤ sizeLine ∧ Q (.str d.shown) H
theorem call_repr {X : Cx} (hG : X.A.guards = some []) (hu : X.A.units + 64 < cLine) : CallR X (.builtin "repr") (rRepr X.K) := by
  intro pins s σ H xs us Q I r h
  obtain ⟨v, d, rfl, hd, hs, hnd, hdep, hz, q⟩ := h.ex
  obtain ⟨u, rfl, ru⟩ := vals1 r
  obtain ⟨as, rd⟩ := Dp.reads I d v u hd ru
  cases rd with
  | none => exact PySem.P.repr_of_none ⟨.str _, H, I.tok _, ⟨_, rfl⟩, q⟩
  | bool b => exact PySem.P.repr_of_bool ⟨.str _, H, I.tok _, ⟨_, rfl⟩, q⟩
  | int i t =>
    have hs' : decide (i.natAbs.log2 < 1920) = true := by simpa [PyData.showable] using hs
    exact PySem.P.repr_of_int (of_decide_eq_true hs') ⟨.str _, H, I.tok _, ⟨_, rfl⟩, q⟩
  | str x t => exact PySem.P.repr_of_str ⟨.str _, H, I.tok _, ⟨_, rfl⟩, q⟩ hz
  | list h1 h2 h3 h4 =>
    exact repr_of_reads' (.list h1 h2 h3 h4) hs (PyData.noDict_hsm hnd) hG (by omega) (fun _ _ e => e) (fun h' u tk hk => ⟨.str _, H, I.kept (t' := tk) hk, ⟨_, rfl⟩, q⟩) hz
  | tuple h1 h2 h3 h4 =>
    exact repr_of_reads' (.tuple h1 h2 h3 h4) hs (PyData.noDict_hsm hnd) hG (by omega) (fun _ _ e => e) (fun h' u tk hk => ⟨.str _, H, I.kept (t' := tk) hk, ⟨_, rfl⟩, q⟩) hz
  | dict h1 h2 h3 h4 h5 => cases hd

/-! ### own len, in, ==, != -/
/-- a special method of the class at C -/
structure Spc (P : Program) (w : World) (K : PySem.W.Frag) (mg : Str → Option Value) (base : Heap) (k : Nat) (C : Addr) (m : Str) (sp : Sp) : Prop where
  ex : ∃ (f : Addr) (fd : FuncData) (ps : List Str), PySem.W.findIn K (.ref C) m = some (some (.ref f)) ∧ PySem.W.isFn K (.ref f) = true ∧ FnOk P w K mg base CX0 k f fd ps sp ∧ Binds K fd ps []
section
variable {X : Cx} {k j : Nat} {C : Addr} {sp : Sp}
def rOwnLen (C : Addr) (sp : Sp) : List V → Hp → VK → Prop := fun xs H Q => ∃ a dx fs, xs = [.ref a] ∧ H a = some (.ins C dx fs) ∧ sp [.ref a] H (fun v H' => ∃ n : Int, v = .int n ∧ 0 ≤ n ∧ n < 2 ^ 63 ∧ Q (.int n) H') E0
theorem Inv.in1 {X : Cx} {pins : List (Addr × Obj)} {σ : St} {H : Hp} {s : Shared} (I : Inv X pins σ H s) : Env0 X.prog X.w X.K X.mg X.base X.A.in1 X.stack s H :=
  ⟨I.env0.frames, I.env0.mod, I.env0.bs, I.env0.bsz, I.env0.funs, I.env0.frf, I.env0.hok, I.env0.bare⟩
theorem call_ownLen (c : Spc X.prog X.w X.K X.mg X.base k C "__len__" sp) (hr : Room j X.A) (hk : k + 1 ≤ j) : CallR X (.builtin "len") (rOwnLen C sp) := by
  intro pins s σ H xs us Q I r h
  obtain ⟨a, dx, fs, rfl, ha, q⟩ := h
  obtain ⟨f, fd, ps, hs, hf, F, hb⟩ := c.ex
  obtain ⟨u, rfl, ru⟩ := vals1 r
  obtain rfl : u = Value.ref a := ru
  obtain ⟨mA, J, _⟩ := ins_get I.hok ha
  obtain ⟨od, J, _⟩ := J.look
  obtain ⟨m, hF⟩ := I.fr
  refine PySem.W.len_K hF I.ok.mod.kin J hs hf ?_
  have hl := F.len _ _ _ _ q
  have r2 : Vals [V.ref a] [Value.ref a] := .cons rfl .nil
  refine wpAny_call (codeAny_mono (F.run X.A.in1 X.stack s H ⟨[.ref a], []⟩ [.ref a] [.ref a] _ E0 ((hr.mono hk).in1) I.in1 (by
    have := hb s [.ref a] I.kIn (by simpa using hl)
    simpa using this) r2 q) fun r s' hq => ?_)
  cases r with
  | error e => exact False.elim hq
  | ok fl =>
    cases fl with
    | ret w =>
      obtain ⟨z, H', I', rz, n, ez, h0, h1, q'⟩ := I.after hq
      subst ez
      obtain ⟨t, rfl⟩ := rz
      exact ⟨⟨h0, h1⟩, .int n, H', I'.tok _, ⟨_, rfl⟩, q'⟩
    | next => exact False.elim hq
    | brk => exact False.elim hq
    | cont => exact False.elim hq
/-- run a special method of two arguments that answers True or False -/
theorem run_spc2 {m : Str} {pins : List (Addr × Obj)} {σ : St} {H : Hp} {s : Shared} {a : Addr} {y : V} {u : Value} {Q : Bool → Hp → Prop} {f : Addr} {fd : FuncData} {ps : List Str} {A : Around} (hA : A.frames = X.A.frames) (hr : Room k A)
    (F : FnOk X.prog X.w X.K X.mg X.base CX0 k f fd ps sp) (hb : Binds X.K fd ps []) (I : Inv X pins σ H s) (ry : RelV y u) (q : sp [.ref a, y] H (fun v H' => ∃ b, v = .bl b ∧ Q b H') E0) :
    wpAny (model X.prog X.w) A (call (.ref f) [.ref a, u]) (fun w' s' => ∃ b H', w' = .bool b ∧ Inv X pins σ H' s' ∧ Q b H') X.xe s := by
  have hl := F.len _ _ _ _ q
  have e0 : Env0 X.prog X.w X.K X.mg X.base A X.stack s H := by
    have e := I.env0
    exact ⟨by rw [hA]; exact e.frames, e.mod, e.bs, e.bsz, e.funs, e.frf, e.hok, e.bare⟩
  refine wpAny_call (codeAny_mono (F.run A X.stack s H ⟨[.ref a, u], []⟩ [.ref a, u] [.ref a, y] _ E0 hr e0 (by
    have := hb s [.ref a, u] I.kIn (by simpa using hl)
    simpa using this) (.cons rfl (.cons ry .nil)) q) fun r s' hq => ?_)
  cases r with
  | error e => exact False.elim hq
  | ok fl =>
    cases fl with
    | ret w =>
      obtain ⟨z, H', I', rz, b, ez, q'⟩ := I.after hq
      subst ez
      cases rz
      exact ⟨b, H', rfl, I', q'⟩
    | next => exact False.elim hq
    | brk => exact False.elim hq
    | cont => exact False.elim hq
def rOwnIn (C : Addr) (sp : Sp) (neg : Bool) : R2 := fun x y H Q => ∃ a dx fs, y = .ref a ∧ H a = some (.ins C dx fs) ∧ sp [.ref a, x] H (fun v H' => ∃ b, v = .bl b ∧ Q (.bl (b != neg)) H') E0
theorem op_ownIn (c : Spc X.prog X.w X.K X.mg X.base k C "__contains__" sp) (hr : Room j X.A) (hk : k ≤ j) : OpR X (compareOp .In) (rOwnIn C sp false) := by
  intro pins s σ H x y v u Q I rx ry h
  obtain ⟨a, dx, fs, rfl, ha, q⟩ := h
  obtain ⟨f, fd, ps, hs, hf, F, hb⟩ := c.ex
  obtain rfl : u = Value.ref a := ry
  obtain ⟨mA, J, _⟩ := ins_get I.hok ha
  obtain ⟨od, J, _⟩ := J.look
  obtain ⟨m, hF⟩ := I.fr
  refine PySem.W.in_K hF I.ok.mod.kin J hs hf (wpAny_mono (run_spc2 (m := "__contains__") rfl (hr.mono hk) F hb I rx q) (fun r s' hq => ?_) fun _ _ e => e)
  obtain ⟨b, H', rfl, I', q'⟩ := hq
  refine wpAny_truthy_bool ⟨.bl _, H', I', rfl, ?_⟩
  simpa using q'
theorem op_ownNotIn (c : Spc X.prog X.w X.K X.mg X.base k C "__contains__" sp) (hr : Room j X.A) (hk : k ≤ j) : OpR X (compareOp .NotIn) (rOwnIn C sp true) := by
  intro pins s σ H x y v u Q I rx ry h
  obtain ⟨a, dx, fs, rfl, ha, q⟩ := h
  obtain ⟨f, fd, ps, hs, hf, F, hb⟩ := c.ex
  obtain rfl : u = Value.ref a := ry
  obtain ⟨mA, J, _⟩ := ins_get I.hok ha
  obtain ⟨od, J, _⟩ := J.look
  obtain ⟨m, hF⟩ := I.fr
  refine PySem.W.notIn_K hF I.ok.mod.kin J hs hf (wpAny_mono (run_spc2 (m := "__contains__") rfl (hr.mono hk) F hb I rx q) (fun r s' hq => ?_) fun _ _ e => e)
  obtain ⟨b, H', rfl, I', q'⟩ := hq
  refine wpAny_truthy_bool ⟨.bl _, H', I', rfl, ?_⟩
  simpa using q'
/-- x == y, x an instance of the class at C with an own __eq__, y anything whose class is not below C -/
def rOwnEq (K : PySem.W.Frag) (C : Addr) (sp : Sp) : R2 := fun x y H Q => ∃ a dx fs t, x = .ref a ∧ H a = some (.ins C dx fs) ∧ TyX K H y t ∧ PySem.W.notFirst K C t = true ∧ sp [.ref a, y] H (fun v H' => ∃ b, v = .bl b ∧ Q (.bl b) H') E0
theorem op_ownEq (c : Spc X.prog X.w X.K X.mg X.base k C "__eq__" sp) (hr : Room j X.A) (hk : k ≤ j) : OpR X (compareOp .Eq) (rOwnEq X.K C sp) := by
  intro pins s σ H x y v u Q I rx ry h
  obtain ⟨a, dx, fs, t, rfl, ha, ht, hn, q⟩ := h
  obtain ⟨f, fd, ps, hs, hf, F, hb⟩ := c.ex
  obtain rfl : v = Value.ref a := rx
  obtain ⟨mA, J, _⟩ := ins_get I.hok ha
  obtain ⟨od, J, _⟩ := J.look
  obtain ⟨m, hF⟩ := I.fr
  obtain ⟨P, Z, p, hx⟩ := kit_of I ry ht
  show wpAny (model X.prog X.w) X.A (richCompare .Eq (.ref a) u) (EP X pins σ Q) X.xe s
  refine PySem.W.cmp_K (op := .Eq) (tb := t) (by have := hr.un; omega) hF I.ok.mod.kin J (Z.ty _ _ I.kIn p) hn hs hf (wpAny_mono (run_spc2 (m := "__eq__") rfl (hr.mono hk) F hb I ry q) (fun r s' hq => ?_) fun _ _ e => e)
  obtain ⟨b, H', rfl, I', q'⟩ := hq
  exact ⟨.bl b, H', I', rfl, q'⟩
end
end L2
namespace PySem.W
open PySem PySem.Spec PySem.Calls PyProof.Rows
section
variable {prog : Program} {w : World} {A A₀ : Around} {E : Value → Shared → Prop} {s : Shared} {K : Frag} {x C L f : Addr} {h₀ : Heap} {m : Str → Option Value} {ox : Obj} {od : Option Obj} {name : Str} {b tb : Value}
theorem ifBound_ne {M : Model} {args : List Value} {Q : Option Value → Shared → Prop} (X : K.In s.heap) (I : InstAt s.heap x ox C od) (hs : findIn K (.ref C) "__ne__" = some (some (.builtin "object.__ne__")))
    (h : wpAny M A (call (.builtin "object.__ne__") (.ref x :: args)) (fun v => Q (some v)) E s) : wpAny M A (callSpecialIfBound? (.ref x) "__ne__" args) Q E s := by
  simp only [callSpecialIfBound?, bindSpecialIfBound?]
  refine wpAny_holding (wpAny_bind (wpAny_bind (wpAny_bind (I.type.here ((looks_findIn X hs).here ?_)))))
  simp only [PySem.F.cmp_object.ne.bind]
  refine wpAny_bind (wpAny_askSetting (wpAny_ite ?_))
  have fin : wpAny M A (call (.builtin "object.__ne__") ([.ref x] ++ args) >>= fun v => pure (some v)) Q E s := wpAny_bind (wpAny_mono h (fun v s' h' => wpAny_pure h') fun _ _ h' => h')
  split
  · exact wpAny_bind (wpAny_pure (wpAny_pure fin))
  · exact wpAny_tryCatch (wpAny_bind (wpAny_pure (wpAny_pure fin)))
theorem ne_K {Q : Value → Shared → Prop} (hu : A.units + 1 < cLine) (F : Fr h₀ L s.heap m) (X₀ : K.In h₀) (I : InstAt s.heap x ox C od) (hb : Looks (model prog w) s.heap (typeOf b) tb) (hn : notFirst K C tb = true)
    (hne : findIn K (.ref C) "__ne__" = some (some (.builtin "object.__ne__"))) (hob : mroIn K C (.type "object") = some true) (hs : findIn K (.ref C) "__eq__" = some (some (.ref f))) (hf : isFn K (.ref f) = true)
    (h : wpAny (model prog w) A.in1 (call (.ref f) [.ref x, b]) (fun v s' => ∃ r, v = .bool r ∧ Q (.bool (!r)) s') E s) : wpAny (model prog w) A (richCompare .NotEq (.ref x) b) Q E s := by
  have X := X₀.keeps F.keep
  have sub : Looks (model prog w) s.heap (isInstance (.ref x) (.type "object")) true := I.type.andThen (looks_mroIn X hob)
  have one : wpAny (model prog w) A (tryCompare (.ref x) "__ne__" b) (fun r s' => ∃ v, r = some v ∧ Q v s') E s := by
    unfold tryCompare
    refine wpAny_bind (ifBound_ne X I hne (wpAny_call (codeAny_call_builtin PySem.F.cmp_object.ne.plain PySem.F.cmpEntry_ne ?_)))
    refine @W.check_slot (model prog w) _ _ s "object.__ne__" "object" "__ne__" (.ref x) [b] [] _ PySem.F.cmpKind_ne PySem.F.cmpSplit_ne sub (PySem.F.cmpArgs_ne (.ref x) b) ?_
    unfold Builtin.«object.__ne__»
    refine wpAny_bind (wpAny_of_eq (a := ((Value.ref x : Value), [b])) (by first | rfl | (simp only [slotArgs]; rfl)) ?_)
    refine wpAny_bind (wpAny_cRoomFor hu ?_)
    refine wpAny_bind (ifBound_K (name := "__eq__") X I hs hf (wpAny_mono h (fun v s' hv => ?_) fun _ _ e => e))
    obtain ⟨r, rfl, hq⟩ := hv
    refine wpAny_bind (wpAny_truthy_bool ?_)
    first
      | exact wpAny_pure ⟨_, rfl, hq⟩
      | exact wpAny_pure (wpAny_pure ⟨_, rfl, hq⟩)
      | exact wpAny_pure (wpAny_bind (wpAny_pure (wpAny_pure ⟨_, rfl, hq⟩)))
  unfold richCompare
  simp only [oneThing_ref]
  refine wpAny_holding (wpAny_bind (wpAny_cRoomFor (by omega) ?_))
  refine wpAny_bind (I.type.here (wpAny_bind (hb.here ?_)))
  split
  · rename_i q
    have e : subIn K tb (.ref C) = some false := by
      rcases Bool.or_eq_true_iff.mp hn with e | e
      · rw [beq_iff_eq.mp e] at q; simp at q
      · exact beq_iff_eq.mp e
    refine wpAny_bind ((looks_subIn X e).here ?_)
    simp only [Bool.false_eq_true, if_false]
    refine wpAny_bind (wpAny_mono one (fun r s' z => ?_) fun _ _ e => e)
    obtain ⟨v, rfl, hq⟩ := z
    exact wpAny_pure hq
  · refine wpAny_bind (wpAny_pure ?_)
    simp only [Bool.false_eq_true, if_false]
    refine wpAny_bind (wpAny_mono one (fun r s' z => ?_) fun _ _ e => e)
    obtain ⟨v, rfl, hq⟩ := z
    exact wpAny_pure hq
end
end PySem.W
namespace L2
open PySem PySem.Spec PyProof.Rows
section
variable {X : Cx} {k j : Nat} {C : Addr} {sp : Sp}
def rOwnNe (K : PySem.W.Frag) (C : Addr) (sp : Sp) : R2 := fun x y H Q => ∃ a dx fs t, x = .ref a ∧ H a = some (.ins C dx fs) ∧ TyX K H y t ∧ PySem.W.notFirst K C t = true ∧ sp [.ref a, y] H (fun v H' => ∃ b, v = .bl b ∧ Q (.bl (!b)) H') E0
theorem op_ownNe (c : Spc X.prog X.w X.K X.mg X.base k C "__eq__" sp) (hne : PySem.W.findIn X.K (.ref C) "__ne__" = some (some (.builtin "object.__ne__"))) (hob : PySem.W.mroIn X.K C (.type "object") = some true)
    (hr : Room j X.A) (hk : k + 1 ≤ j) : OpR X (compareOp .NotEq) (rOwnNe X.K C sp) := by
  intro pins s σ H x y v u Q I rx ry h
  obtain ⟨a, dx, fs, t, rfl, ha, ht, hn, q⟩ := h
  obtain ⟨f, fd, ps, hs, hf, F, hb⟩ := c.ex
  obtain rfl : v = Value.ref a := rx
  obtain ⟨mA, J, _⟩ := ins_get I.hok ha
  obtain ⟨od, J, _⟩ := J.look
  obtain ⟨m, hF⟩ := I.fr
  obtain ⟨P, Z, p, hx⟩ := kit_of I ry ht
  show wpAny (model X.prog X.w) X.A (richCompare .NotEq (.ref a) u) (EP X pins σ Q) X.xe s
  refine PySem.W.ne_K (tb := t) (by have := hr.un; omega) hF I.ok.mod.kin J (Z.ty _ _ I.kIn p) hn hne hob hs hf (wpAny_mono (run_spc2 (m := "__eq__") rfl ((hr.mono hk).in1) F hb I ry q) (fun r s' hq => ?_) fun _ _ e => e)
  obtain ⟨b, H', rfl, I', q'⟩ := hq
  exact ⟨b, rfl, .bl (!b), H', I', rfl, q'⟩
end
end L2
set_option Elab.async false
set_option linter.all false
set_option maxRecDepth 100000
set_option maxHeartbeats 8000000
/-! list(zip(xs, ys)) of two lists -/
namespace L2
open PySem PySem.Spec PyProof.Rows
theorem zz_len : typeLookup (.type "zip") "__len__" = pure none := am_miss_of_fast (by decide +kernel)
theorem zz_hint0 : typeLookup (.type "zip") "__length_hint__" = pure none := am_miss_of_fast (by decide +kernel)
/-- the zip as it stands before turn i -/
def ZSt (z TI TO i1 i2 a b : Addr) (i : Nat) (h : Heap) : Prop :=
  (IsZip h z TI TO .none ∨ ∃ T f oT, IsZipHeld h z TI TO T f ∧ h.get? T = some oT ∧ T ≠ z ∧ T ≠ TI ∧ T ≠ TO ∧ T ≠ i1 ∧ T ≠ i2) ∧ (∃ x y, IsPair h TO x y) ∧ IsPair h TI (.ref i1) (.ref i2) ∧ h.IsListIter i1 a i ∧ h.IsListIter i2 b i
abbrev zch (z TI TO i1 i2 : Addr) : List Addr := [z, TI, TO, i1, i2]
section
variable {X : Cx} {pins : List (Addr × Obj)} {σ : St} {A1 : Around} {z TI TO i1 i2 a b q : Addr} {xs ys : List V}
theorem zz_hint {M : PySem.Model} {A : Around} {E : Value → Shared → Prop} {Q : Bool → Shared → Prop} {s : Shared} (hT : s.TypeIs (.ref z) "zip") (h : Q true s) : wpAny M A (Builtin.List.listLengthHint (.ref z)) Q E s := by
  have f1 := zz_len
  have f2 := zz_hint0
  unfold Builtin.List.listLengthHint
  refine wpAny_bind (wpAny_bind (wpAny_typeOf hT ?_))
  rw [f1]
  refine wpAny_pure ?_
  refine PySem.W.KFB.if_not rfl ?_
  refine PySem.W.KFB.if_not rfl ?_
  refine wpAny_bind (wpAny_bind (wpAny_typeOf hT ?_))
  rw [f2]
  exact wpAny_pure (wpAny_pure h)
theorem ZSt.lt {i : Nat} {h : Heap} (st : ZSt z TI TO i1 i2 a b i h) : ∀ c ∈ zch z TI TO i1 i2, c < h.objs.size := by
  obtain ⟨hs, ⟨x, y, hTO⟩, hTI, ⟨_, h1, _⟩, ⟨_, h2, _⟩⟩ := st
  intro c hc
  have e' : c = z ∨ c = TI ∨ c = TO ∨ c = i1 ∨ c = i2 := by simpa using hc
  rcases e' with q | q | q | q | q
  · rw [q]
    rcases hs with e | ⟨_, _, _, e, _⟩
    · exact Heap.lt_size e
    · exact Heap.lt_size e
  · rw [q]; exact Heap.lt_size hTI
  · rw [q]; exact Heap.lt_size hTO
  · rw [q]; exact Heap.lt_size h1
  · rw [q]; exact Heap.lt_size h2
theorem ZSt.keep {i : Nat} {h h' : Heap} (st : ZSt z TI TO i1 i2 a b i h) (hT : ∀ T f oT, IsZipHeld h z TI TO T f → h.get? T = some oT → ∃ oT', h'.get? T = some oT') (k : ∀ c ∈ zch z TI TO i1 i2, ∀ o, h.get? c = some o → h'.get? c = some o) : ZSt z TI TO i1 i2 a b i h' := by
  obtain ⟨hs, ⟨x, y, hTO⟩, hTI, h1, h2⟩ := st
  refine ⟨?_, ⟨x, y, k TO (by simp) _ hTO⟩, k TI (by simp) _ hTI, h1.at fun o q => k i1 (by simp) o q, h2.at fun o q => k i2 (by simp) o q⟩
  rcases hs with e | ⟨T, f, oT, e, g, n⟩
  · exact .inl (k z (by simp) _ e)
  · obtain ⟨o', g'⟩ := hT T f oT e g
    exact .inr ⟨T, f, o', k z (by simp) _ e, g', n⟩
theorem ZSt.ty {i : Nat} {s : Shared} (st : ZSt z TI TO i1 i2 a b i s.heap) : s.TypeIs (.ref z) "zip" := by
  obtain ⟨e | ⟨_, _, _, e, _⟩, _⟩ := st
  · exact ⟨_, e, rfl⟩
  · exact ⟨_, e, rfl⟩
theorem zz_iter {P : Program} {w : World} {A : Around} {E : Value → Shared → Prop} {Q : Value → Shared → Prop} {s : Shared} (hT : s.TypeIs (.ref z) "zip") (h : Q (.ref z) s) : wpAny (model P w) A (pyIter (.ref z)) Q E s := by
  refine wpAny_pyIter_slot hT F.slot_zip_iter (wpAny_call_entry F.slot_zip_iter hT F.entry_zip_iter ?_ (F.args_zip_iter_1 _))
  exact wpAny_pure ⟨_, rfl, "zip", _, hT, F.slot_zip_next.lookup, h⟩
/-- one turn -/
theorem zz_next {i : Nat} {H : Hp} {s : Shared} {x y : V} {Q : Option Value → Shared → Prop} (D : ZipApart z TI TO i1 i2 a b) (I : Inv X pins σ H s) (hf : ∀ c ∈ zch z TI TO i1 i2, FpOk X pins H c) (st : ZSt z TI TO i1 i2 a b i s.heap)
    (ha : SqL X.K H a xs) (hb : SqL X.K H b ys) (hx : xs[i]? = some x) (hy : ys[i]? = some y)
    (hQ : ∀ (h' : Heap) (T : Addr), H T = none → Inv X pins σ (upd H T (.tup [x, y])) { s with heap := h' } → ZSt z TI TO i1 i2 a b (i + 1) h' → (∀ c ∈ zch z TI TO i1 i2, c ≠ T) → Q (some (.ref T)) { s with heap := h' }) :
    wpAny (model X.prog X.w) A1 (pyNext (.ref z)) Q X.xe s := by
  have off : ∀ c ∈ zch z TI TO i1 i2, c ≠ s.heap.objs.size := fun c hc => Nat.ne_of_lt (st.lt c hc)
  obtain ⟨hs, ⟨x0, y0, hTO⟩, hTI, h1, h2⟩ := st
  obtain ⟨its, rv, p, _⟩ := I.list ha
  obtain ⟨its2, rv2, p2, _⟩ := I.list hb
  obtain ⟨u, hu, ru⟩ := rv.get hx
  obtain ⟨u2, hu2, ru2⟩ := rv2.get hy
  have oz := (off z (by simp)).symm
  have oTI := (off TI (by simp)).symm
  have oTO := (off TO (by simp)).symm
  have o1 := (off i1 (by simp)).symm
  have o2 := (off i2 (by simp)).symm
  have fin : ∀ h' : Heap, (∃ f, IsZipHeld h' z TI TO s.heap.objs.size f) ∨ (∃ T f oT, IsZipHeld h' z TI TO T f ∧ h'.get? T = some oT ∧ T ≠ z ∧ T ≠ TI ∧ T ≠ TO ∧ T ≠ i1 ∧ T ≠ i2) → (∃ x y, IsPair h' TO x y) → h'.IsListIter i1 a (i + 1) → h'.IsListIter i2 b (i + 1) → IsPair h' s.heap.objs.size u u2 →
      (∀ c o, c ∉ zch z TI TO i1 i2 → s.heap.get? c = some o → h'.get? c = some o) → IsPair h' TI (.ref i1) (.ref i2) → Q (some (.ref s.heap.objs.size)) { s with heap := h' } := by
    intro h' g0 gTO g1 g2 gT gk gTI
    have new : ObjOk X.prog X.w (upd H s.heap.objs.size (.tup [x, y])) h' s.heap.objs.size (.tup [x, y]) :=
      ⟨by show 2 ≤ sizeLine; decide, [u, u2], .cons ru (.cons ru2 .nil), ⟨_, gT, rfl, _, rfl⟩⟩
    have I1 : Inv X pins σ (upd H s.heap.objs.size (.tup [x, y])) { s with heap := h' } :=
      I.turnedNew (t' := s.toks) (ch := zch z TI TO i1 i2) (fun c o hc => gk c o hc) hf (Nat.le_refl _) new
    refine hQ h' _ (I.hok.fresh (Nat.le_refl _)) I1 ⟨?_, gTO, gTI, g1, g2⟩ off
    rcases g0 with ⟨f, e⟩ | e
    · exact .inr ⟨_, f, _, e, gT, oz, oTI, oTO, o1, o2⟩
    · exact .inr e
  rcases hs with e | ⟨T, f, oT, e, gT, n1, n2, n3, n4, n5⟩
  · refine wpAny_pyNext_zip_item D e hTI hTO h1 h2 p.isList p2.isList (x := u) (y := u2) (by simpa using hu) (by simpa using hu2) fun h' z' TO' h1' h2' hT hsz hk => ?_
    refine fin h' (.inl ⟨false, z'⟩) ⟨_, _, TO'⟩ h1' h2' hT (fun c o hc q => ?_) (hk _ _ D.TIz D.TITO D.TIi1 D.TIi2 hTI)
    exact hk c o (fun q' => hc (by simp [q'])) (fun q' => hc (by simp [q'])) (fun q' => hc (by simp [q'])) (fun q' => hc (by simp [q'])) q
  · refine wpAny_pyNext_zip_item_held D e gT hTI h1 h2 p.isList p2.isList (x := u) (y := u2) (by simpa using hu) (by simpa using hu2) fun h' z' h1' h2' hT hsz hk => ?_
    refine fin h' (.inr ⟨T, true, oT, z', hk T oT n1 n4 n5 gT, n1, n2, n3, n4, n5⟩) ⟨_, _, hk _ _ D.TOz D.TOi1 D.TOi2 hTO⟩ h1' h2' hT (fun c o hc q => ?_) (hk _ _ D.TIz D.TIi1 D.TIi2 hTI)
    exact hk c o (fun q' => hc (by simp [q'])) (fun q' => hc (by simp [q'])) (fun q' => hc (by simp [q'])) q
theorem zz_done {i : Nat} {H : Hp} {s : Shared} {Q : Option Value → Shared → Prop} (hh : A1.handled = none) (D : ZipApart z TI TO i1 i2 a b) (I : Inv X pins σ H s) (hf : ∀ c ∈ zch z TI TO i1 i2, FpOk X pins H c) (st : ZSt z TI TO i1 i2 a b i s.heap)
    (ha : SqL X.K H a xs) (hb : SqL X.K H b ys) (hend : xs.length ≤ i ∨ ys.length ≤ i) (hQ : ∀ h', Inv X pins σ H { s with heap := h' } → Q none { s with heap := h' }) :
    wpAny (model X.prog X.w) A1 (pyNext (.ref z)) Q X.xe s := by
  obtain ⟨hs, ⟨x0, y0, hTO⟩, hTI, h1, h2⟩ := st
  obtain ⟨its, rv, p, _⟩ := I.list ha
  obtain ⟨its2, rv2, p2, _⟩ := I.list hb
  have l1 := rv.length
  have l2 := rv2.length
  have he : its.toArray[i]? = none ∨ its2.toArray[i]? = none := by
    rcases hend with q | q
    · exact .inl (by simp; omega)
    · exact .inr (by simp; omega)
  rcases hs with e | ⟨T, f, oT, e, gT, n1, n2, n3, n4, n5⟩
  · exact wpAny_pyNext_zip_end hh D e hTI hTO h1 h2 p.isList p2.isList he fun h' hk => hQ h' (I.turnedL (t' := s.toks) (ch := zch z TI TO i1 i2) (fun c o hc q =>
      hk c o (fun q' => hc (by simp [q'])) (fun q' => hc (by simp [q'])) (fun q' => hc (by simp [q'])) (fun q' => hc (by simp [q'])) q) hf)
  · exact wpAny_pyNext_zip_end_held hh D e gT hTI h1 h2 p.isList p2.isList he fun h' hk => hQ h' (I.turnedL (t' := s.toks) (ch := zch z TI TO i1 i2) (fun c o hc q =>
      hk c o (fun q' => hc (by simp [q'])) (fun q' => hc (by simp [q'])) (fun q' => hc (by simp [q'])) q) hf)

/-- what stands behind i turns: the list at q holds the new pairs -/
structure ZGot (K : PySem.W.Frag) (H0 : Hp) (q : Addr) (xs ys : List V) (i : Nat) (Ts : List Addr) (H : Hp) : Prop where
  ex : Evl.Ex H0 H
  at_ : H q = some (.lst (Ts.map V.ref))
  len : Ts.length = i
  tup : ∀ (j : Nat) (T : Addr), Ts[j]? = some T → ∃ x y, xs[j]? = some x ∧ ys[j]? = some y ∧ H T = some (.tup [x, y])
  new : ∀ T ∈ Ts, H0 T = none ∧ T ≠ q
  nd : Ts.Nodup
theorem zz_loop {H0 : Hp} {Rs : Result → Shared → Prop} (hh : A1.handled = none) (D : ZipApart z TI TO i1 i2 a b) (ha : SqL X.K H0 a xs) (hb : SqL X.K H0 b ys) (h0 : H0 q = none)
    (hdone : ∀ Ts H s, Inv X pins σ H s → ZGot X.K H0 q xs ys (min xs.length ys.length) Ts H → Rs (.ok (.ret .none)) s) (herr : ∀ e s, X.xe e s → Rs (.error e) s) :
    ∀ (k i : Nat) (Ts : List Addr) (H : Hp) (s : Shared), min xs.length ys.length - i = k → i ≤ min xs.length ys.length → Inv X pins σ H s → (∀ c ∈ zch z TI TO i1 i2, FpOk X pins H c) → ZSt z TI TO i1 i2 a b i s.heap → ZGot X.K H0 q xs ys i Ts H →
      codeAny (model X.prog X.w) A1 (.builtin "list.extend.loop" ⟨[.ref q, .ref z, .none], []⟩) Rs s := by
  intro k
  induction k with
  | zero =>
    intro i Ts H s hk hi I hf st G
    have e : i = min xs.length ys.length := by omega
    refine codeAny_builtin PySem.F.entry_extend_loop ?_
    rw [Around.under_plainId PySem.F.plain_extend_loop _]
    show wpAny _ A1.in1 (pyNext (.ref z) >>= _) _ _ s
    refine wpAny_bind (wpAny_mono (zz_done (A1 := A1.in1) hh D I hf st (Evl.ex_l G.ex ha) (Evl.ex_l G.ex hb) (by omega) (Q := fun r s' => r = none ∧ Inv X pins σ H s') fun h' I' => ⟨rfl, I'⟩) (fun r s' hr => ?_) fun e s' he => herr e s' he)
    obtain ⟨er, I'⟩ := hr
    subst er
    rw [e] at G
    exact wpAny_pure (hdone Ts H s' I' G)
  | succ k ih =>
    intro i Ts H s hk hi I hf st G
    have hix : i < xs.length := by omega
    have hiy : i < ys.length := by omega
    have hx := List.getElem?_eq_getElem hix
    have hy := List.getElem?_eq_getElem hiy
    refine codeAny_builtin PySem.F.entry_extend_loop ?_
    rw [Around.under_plainId PySem.F.plain_extend_loop _]
    show wpAny _ A1.in1 (pyNext (.ref z) >>= _) _ _ s
    refine wpAny_bind (wpAny_mono (zz_next (A1 := A1.in1) D I hf st (Evl.ex_l G.ex ha) (Evl.ex_l G.ex hb) hx hy (Q := fun r s' => ∃ T, r = some (.ref T) ∧ H T = none ∧ Inv X pins σ (upd H T (.tup [xs[i], ys[i]])) s' ∧ ZSt z TI TO i1 i2 a b (i + 1) s'.heap ∧ (∀ c ∈ zch z TI TO i1 i2, c ≠ T)) fun h' T g1 g2 g3 g4 => ⟨T, rfl, g1, g2, g3, g4⟩) (fun r s' hr => ?_) fun e s' he => herr e s' he)
    obtain ⟨T, er, g1, I', st', g4⟩ := hr
    subst er
    show wpAny _ A1.in1 (updateSeq q (·.push (.ref T)) >>= _) _ _ _
    have nqT : q ≠ T := ne_of_none G.at_ g1
    have hq : upd H T (.tup [xs[i], ys[i]]) q = some (.lst (Ts.map V.ref)) := by rw [upd_ne nqT]; exact G.at_
    obtain ⟨zz, its, k0, r2, hl, e⟩ := I'.lstM hq
    have hlen : Ts.length < sizeLine := by
      obtain ⟨_, _, _, hxz⟩ := I.list (Evl.ex_l G.ex ha)
      have := G.len
      omega
    have hl2 : its.length < sizeLine := by rw [← hl, List.length_map]; exact hlen
    refine wpAny_bind (wpAny_updateSeq e rfl (wpAny_pure ⟨plainId_quiet PySem.F.plain_extend_loop _, ?_⟩) (by rw [List.size_toArray]; omega) (by show (its.toArray.push _).size ≤ sizeLine + 1; rw [Array.size_push, List.size_toArray]; omega))
    have J := I'.lset (f := fun v => v.push (.ref T)) (its' := its ++ [.ref T]) (ys := (Ts ++ [T]).map V.ref) (t' := s'.toks) hq e (by simp) (by rw [List.map_append]; exact r2.append (.cons rfl .nil)) (by rw [List.length_map, List.length_append, List.length_singleton]; omega)
    have b0 : H0 T = none := by
      cases w : H0 T with
      | none => rfl
      | some o => rw [G.ex T o w] at g1; cases g1
    refine ih (i + 1) (Ts ++ [T]) _ _ (by omega) (by omega) J (fun c hc => ?_) ?_ ⟨?_, upd_same, by rw [List.length_append, G.len]; rfl, fun j T' hj => ?_, fun T' hT' => ?_, ?_⟩
    · obtain ⟨f1, f2⟩ := hf c hc
      have n1 : c ≠ q := fun w => by rw [w, G.at_] at f1; cases f1
      refine ⟨?_, f2⟩
      rw [upd_ne n1, upd_ne (g4 c hc)]
      exact f1
    · have nq : ∀ c ∈ zch z TI TO i1 i2, c ≠ q := fun c hc w => by
        have f1 := (hf c hc).1
        rw [w, G.at_] at f1; cases f1
      refine st'.keep (fun T1 f1 oT1 w1 w2 => ?_) fun c hc o w => (Heap.get?_update_other s'.heap _ (Ne.symm (nq c hc))).trans w
      by_cases c : T1 = q
      · rw [c]
        exact ⟨_, Heap.get?_update_self _ e rfl⟩
      · exact ⟨_, (Heap.get?_update_other s'.heap _ (Ne.symm c)).trans w2⟩
    · intro c o w
      have n1 : c ≠ q := fun w' => by rw [w', h0] at w; cases w
      have n2 : c ≠ T := fun w' => by rw [w', b0] at w; cases w
      rw [upd_ne n1, upd_ne n2]
      exact G.ex c o w
    · by_cases hjl : j < Ts.length
      · rw [List.getElem?_append_left hjl] at hj
        obtain ⟨x, y, w1, w2, w3⟩ := G.tup j T' hj
        have n1 : T' ≠ q := (G.new T' (List.mem_of_getElem? hj)).2
        exact ⟨x, y, w1, w2, by rw [upd_ne n1, upd_ne (ne_of_none w3 g1)]; exact w3⟩
      · rw [List.getElem?_append_right (by omega)] at hj
        have ej : j = Ts.length := by
          rcases Nat.lt_or_ge (j - Ts.length) 1 with w | w
          · omega
          · rw [List.getElem?_eq_none (by simpa using w)] at hj; cases hj
        subst ej
        rw [Nat.sub_self] at hj
        have : T = T' := by simpa using hj
        subst this
        rw [G.len]
        exact ⟨_, _, hx, hy, by rw [upd_ne nqT.symm, upd_same]⟩
    · rcases List.mem_append.mp hT' with w | w
      · exact G.new T' w
      · have : T' = T := by simpa using w
        subst this
        exact ⟨b0, nqT.symm⟩
    · rw [List.nodup_append]
      refine ⟨G.nd, by simp, fun w hw w' hw' => ?_⟩
      have : w' = T := by simpa using hw'
      subst this
      intro ew
      subst ew
      obtain ⟨j, hj⟩ := List.mem_iff_getElem?.mp hw
      obtain ⟨x, y, _, _, w3⟩ := G.tup j _ hj
      rw [g1] at w3; cases w3

def rListZip (K : PySem.W.Frag) : List V → Hp → VK → Prop := fun vs H Q => ∃ (a b : Addr) (xs ys : List V), vs = [.ref a, .ref b] ∧ SqL K H a xs ∧ SqL K H b ys ∧
  ∀ q Ts H', H q = none → ZGot K H q xs ys (min xs.length ys.length) Ts H' → Q (.ref q) H'
def tListZip (K : PySem.W.Frag) (ta : TA) : TE := fun σ H Q => ta σ H fun vs H1 => rListZip K vs H1 Q
end
section
variable {X : Cx} {e e2 : Expr} {ta : TA} {p p2 zpos pos : Pos}
theorem zz_list {pins : List (Addr × Obj)} {σ : St} {H : Hp} {s : Shared} {z TI TO i1 i2 a b : Addr} {xs ys : List V} {Q : VK} (hc : X.calm = true) (D : ZipApart z TI TO i1 i2 a b) (I : Inv X pins σ H s) (st : ZSt z TI TO i1 i2 a b 0 s.heap) (hf : ∀ c ∈ zch z TI TO i1 i2, FpOk X pins H c)
    (ha : SqL X.K H a xs) (hb : SqL X.K H b ys) (hQ : ∀ q Ts H', H q = none → ZGot X.K H q xs ys (min xs.length ys.length) Ts H' → Q (.ref q) H') :
    wpAny (model X.prog X.w) X.A (call (.type "list") [.ref z]) (EP X pins σ Q) X.xe s := by
  have hh : X.A.handled = none := I.ok.hd hc
  refine callType_codes (Q₁ := fun obj s₁ => obj = .ref s.heap.objs.size ∧ s₁ = { s with heap := s.heap.push { cls := .type "list", data := .seq #[] } }) PySem.F.called_list (PySem.F.typeCall_list_1 _) PySem.F.entry_list_init
    (code_list_new _ ⟨rfl, rfl⟩) fun obj s₁ h₁ => ?_
  obtain ⟨rfl, rfl⟩ := h₁
  have hS : (s.heap.push { cls := .type "list", data := .seq #[] }).get? s.heap.objs.size = some { cls := .type "list", data := .seq #[] } := Heap.get?_push_size _ rfl
  refine ⟨⟨_, hS, rfl⟩, PySem.F.args_list_init_2 _ _, ?_⟩
  have fr : H s.heap.objs.size = none := I.hok.fresh (Nat.le_refl _)
  have lt := st.lt
  have I1 : Inv X pins σ (upd H s.heap.objs.size (.lst [])) { s with heap := s.heap.push { cls := .type "list", data := .seq #[] } } := I.lnew (its := []) (t' := s.toks) .nil (Nat.zero_le _)
  have st1 : ZSt z TI TO i1 i2 a b 0 (s.heap.push { cls := .type "list", data := .seq #[] }) := st.keep (fun T f oT _ w => ⟨_, Heap.get?_push_of_some _ w⟩) fun c _ o w => Heap.get?_push_of_some _ w
  have hf1 : ∀ c ∈ zch z TI TO i1 i2, FpOk X pins (upd H s.heap.objs.size (.lst [])) c := fun c hc' => ⟨by rw [upd_ne (Nat.ne_of_lt (lt c hc'))]; exact (hf c hc').1, (hf c hc').2⟩
  have nqz : s.heap.objs.size ≠ z := Nat.ne_of_gt (lt z (by simp))
  obtain ⟨q, hq⟩ : ∃ q, s.heap.objs.size = q := ⟨_, rfl⟩
  obtain ⟨s1, hs1⟩ : ∃ s1, ({ s with heap := s.heap.push { cls := .type "list", data := .seq #[] } } : Shared) = s1 := ⟨_, rfl⟩
  have eh : s.heap.push { cls := .type "list", data := .seq #[] } = s1.heap := by rw [← hs1]
  rw [hs1] at I1 ⊢
  rw [eh] at hS st1
  rw [hq] at I1 hS fr hf1 nqz ⊢
  clear hs1 eh hq st hf lt I
  show wpAny _ _ (do let old ← Builtin.List.listItems (.ref q); Builtin.List.listUpdate (.ref q) (fun _ => #[]); letGo old.toList.reverse; Builtin.List.listExtendWith (.ref q) (.ref z) .none) _ _ _
  have put0 : ∀ (st2 : Heap), ZSt z TI TO i1 i2 a b 0 st2 → ∀ (f : Array Value → Array Value) (o : Obj), st2.get? q = some o → o.isFreed = false → (∀ o', (Obj.mapSeq f o').isFreed = o'.isFreed) → ZSt z TI TO i1 i2 a b 0 (st2.update q (Obj.mapSeq f)) := by
    intro st2 g f o ho hfr hmf
    have nq : ∀ c ∈ zch z TI TO i1 i2, c ≠ q := fun c hc' w => by
      have f1 := (hf1 c hc').1
      rw [w, upd_same] at f1; cases f1
    refine g.keep (fun T1 f1 oT1 w1 w2 => ?_) fun c hc' o w => (Heap.get?_update_other st2 _ (Ne.symm (nq c hc'))).trans w
    by_cases c : T1 = q
    · rw [c]
      exact ⟨_, Heap.get?_update_self _ ho (by rw [hmf]; exact hfr)⟩
    · exact ⟨_, (Heap.get?_update_other st2 _ (Ne.symm c)).trans w2⟩
  refine wpAny_bind ?_
  unfold Builtin.List.listItems
  refine wpAny_bind (wpAny_seqItems hS rfl (wpAny_pure ?_))
  show wpAny _ _ (updateSeq q (fun _ => #[]) >>= fun _ => letGo (#[] : Array Value).toList.reverse >>= fun _ => Builtin.List.listExtendWith (.ref q) (.ref z) .none) _ _ _
  refine wpAny_bind (wpAny_updateSeq hS rfl ?_)
  have I2 := I1.lset (f := fun _ => #[]) (its := []) (its' := []) (ys := []) (t' := s1.toks) upd_same hS rfl .nil (Nat.zero_le _)
  rw [upd_upd] at I2
  have st2 := put0 _ st1 (fun _ => #[]) _ hS rfl (fun o' => by cases o' with | mk c d dt sl => cases dt <;> rfl)
  refine wpAny_bind (wpAny_letGo ?_)
  clear I1 hS st1
  obtain ⟨s2, hs2⟩ : ∃ s2, ({ s1 with heap := s1.heap.update q (Obj.mapSeq fun _ => #[]) } : Shared) = s2 := ⟨_, rfl⟩
  have eh : s1.heap.update q (Obj.mapSeq fun _ => #[]) = s2.heap := by rw [← hs2]
  rw [eh] at st2
  have I3 : Inv X pins σ (upd H q (.lst [])) s2 := by rw [← hs2]; exact I2
  show wpAny _ _ _ _ _ ({ s1 with heap := s1.heap.update q (Obj.mapSeq fun _ => #[]) } : Shared)
  rw [hs2]
  clear I2 eh hs2
  have hT := st2.ty
  unfold Builtin.List.listExtendWith
  refine wpAny_bind (wpAny_typeOf hT ?_)
  have h1 : Builtin.List.listSameRef (.ref q) (.ref z) = false := by simp [Builtin.List.listSameRef, nqz]
  have h2 : (Value.type "zip" == Value.type "list") = false := by decide
  have h3 : (Value.type "zip" == Value.type "tuple") = false := by decide
  simp only [h1, h2, h3, Bool.or_false, Bool.false_eq_true, if_false]
  refine wpAny_bind (zz_iter hT ?_)
  refine wpAny_bind (wpAny_holding (zz_hint hT ?_))
  have key : ∀ s3, Inv X pins σ (upd H q (.lst [])) s3 → ZSt z TI TO i1 i2 a b 0 s3.heap → codeAny (model X.prog X.w) X.A.in1 (.builtin "list.extend.loop" ⟨[.ref q, .ref z, .none], []⟩) (wants (fun r s₂ => r = .none ∧ EP X pins σ Q (.ref q) s₂) X.xe) s3 := by
    intro s3 J g
    refine zz_loop (A1 := X.A.in1) (H0 := H) (Rs := wants (fun r s₂ => r = .none ∧ EP X pins σ Q (.ref q) s₂) X.xe) hh D ha hb fr (fun Ts H' s' I' G => ⟨rfl, .ref q, H', I', rfl, hQ q Ts H' fr G⟩) (fun e s' he => he) _ 0 [] _ s3 rfl (Nat.zero_le _) J hf1 g ⟨Evl.Ex.new fr, upd_same, rfl, fun j T hj => by simp at hj, fun T hT => by simp at hT, List.nodup_nil⟩
  refine wpAny_ite_split (fun _ => ?_) (fun _ => wpAny_pure ⟨plainId_quiet PySem.F.plain_extend_loop _, key s2 I3 st2⟩)
  refine wpAny_bind (wpAny_rule ?_)
  refine wpAny_bind ?_
  show wpAny _ _ (updateSeq q (·.push .none) >>= fun _ => updateSeq q (·.pop)) _ _ _
  obtain ⟨_, its0, k0, r0, _, e0⟩ := I3.lstM upd_same
  cases r0
  refine wpAny_bind (wpAny_updateSeq e0 rfl ?_)
  have J2 := I3.lset (f := fun v => v.push Value.none) (its' := [Value.none]) (ys := [.non]) (t' := s2.toks) upd_same e0 (by simp) (.cons rfl .nil) (by rw [List.length_singleton, sizeLine_eq]; decide)
  have g2 := put0 _ st2 (fun v => v.push Value.none) _ e0 rfl (fun o' => by cases o' with | mk c d dt sl => cases dt <;> rfl)
  obtain ⟨_, its4, k4, r4, _, e4⟩ := J2.lstM upd_same
  obtain ⟨u4, rfl, ru4⟩ := r4.one
  refine wpAny_updateSeq e4 rfl ?_ (by show 1 ≤ sizeLine; rw [sizeLine_eq]; decide) (by show 0 ≤ sizeLine + 1; exact Nat.zero_le _)
  refine wpAny_pure ⟨plainId_quiet PySem.F.plain_extend_loop _, key _ ?_ (put0 _ g2 (fun v => v.pop) _ e4 rfl (fun o' => by cases o' with | mk c d dt sl => cases dt <;> rfl))⟩
  have J3 := J2.lset (f := fun v => v.pop) (its := [u4]) (its' := []) (ys := []) (t' := s2.toks) upd_same e4 (by rfl) .nil (Nat.zero_le _)
  rw [upd_upd, upd_upd] at J3
  exact J3

theorem pe_listZip (hc : X.calm = true) (ha : PA X [e, e2] ta) (hg : Gl X "list") (hm : X.mg "list" = none) (hg2 : Gl X "zip") (hm2 : X.mg "zip" = none) (hv : bootBuiltins "list" = some (.type "list") := by rfl)
    (hs : starEach [.Call (.Name "zip" p2) [e, e2] [] zpos] X.env = (false, eval (.Call (.Name "zip" p2) [e, e2] [] zpos) X.env) :: starEach [] X.env := by rfl)
    (hs2 : starEach [e, e2] X.env = (false, eval e X.env) :: starEach [e2] X.env := by rfl) (hpl2 : (backTo zpos (starEach [e2] X.env)).any (·.1) = false := by rfl) :
    PE X (.Call (.Name "list" p) [.Call (.Name "zip" p2) [e, e2] [] zpos] [] pos) (tListZip X.K ta) := by
  refine ⟨fun pins s σ H Q I hq => ?_⟩
  refine wpAny_Call_Name_kw (ld_blt I hg hm hv ?_)
  refine PyProof.Rows.callWith_type1 ?_ hs rfl
  rw [hs]
  show wpAny _ _ (spliced ((false, eval (.Call (.Name "zip" p2) [e, e2] [] zpos) X.env) :: backTo pos (starEach [] X.env))) _ _ s
  refine Calls.spliced_cons ?_
  refine Call_ (ld_blt I hg2 hm2 PyProof.Rows.boot_zip (PyProof.Rows.callWith_type1 (thn (ha.run zpos pins s σ H _ I hq) fun us s1 ⟨vs, H1, I1, r1, q1⟩ => ?_) hs2 hpl2))
  obtain ⟨a, b, xs, ys, ev, hqx, hqy, hQ⟩ := q1
  subst ev
  obtain ⟨u1, u2, eu, ru1, ru2⟩ := vals2 r1
  subst eu
  cases ru1
  cases ru2
  obtain ⟨its, rv, p1, _⟩ := I1.list hqx
  obtain ⟨its2, rv2, p3, _⟩ := I1.list hqy
  have la : a < s1.heap.objs.size := p1.lt
  have lb : b < s1.heap.objs.size := p3.lt
  refine call_zip_2 p1.isList p3.isList fun h' hz hTI hTO h1 h2 hsz hk => ?_
  have D := PySem.W.ktu_apart s1.heap.objs.size a b la lb
  have I2 : Inv X pins σ H1 { s1 with heap := h' } := I1.kept (t' := s1.toks) hk
  have hf : ∀ c ∈ zch (s1.heap.objs.size + 4) (s1.heap.objs.size + 2) (s1.heap.objs.size + 3) s1.heap.objs.size (s1.heap.objs.size + 1), FpOk X pins H1 c := by
    intro c hcm
    have e' : c = s1.heap.objs.size + 4 ∨ c = s1.heap.objs.size + 2 ∨ c = s1.heap.objs.size + 3 ∨ c = s1.heap.objs.size ∨ c = s1.heap.objs.size + 1 := by simpa using hcm
    have hle : s1.heap.objs.size ≤ c := by
      rcases e' with w | w | w | w | w
      · rw [w]; exact Nat.le_add_right _ _
      · rw [w]; exact Nat.le_add_right _ _
      · rw [w]; exact Nat.le_add_right _ _
      · rw [w]; exact Nat.le_refl _
      · rw [w]; exact Nat.le_add_right _ _
    exact I1.fpOk hle (I1.hok.fresh hle)
  have st : ZSt (s1.heap.objs.size + 4) (s1.heap.objs.size + 2) (s1.heap.objs.size + 3) s1.heap.objs.size (s1.heap.objs.size + 1) a b 0 h' := ⟨.inl hz, ⟨_, _, hTO⟩, hTI, h1, h2⟩
  generalize s1.heap.objs.size + 4 = z at *
  generalize s1.heap.objs.size + 2 = TI at *
  generalize s1.heap.objs.size + 3 = TO at *
  generalize s1.heap.objs.size + 1 = i2 at *
  generalize s1.heap.objs.size = i1 at *
  clear hz hTI hTO h1 h2 hk hsz
  refine Calls.spliced_nil ?_
  exact zz_list hc D I2 st hf hqx hqy hQ
end
end L2
/-! tuple(xs) whose object is known; dict(t) of such a tuple of pairs; len(set(texts)) of different texts -/
namespace L2
open PySem PySem.Spec PyProof.Rows
section
variable {X : Cx}
def rTupF (K : PySem.W.Frag) : List V → Hp → VK → Prop := fun xs H Q => ∃ p ys, xs = [.ref p] ∧ ((SqL K H p ys ∧ ∀ l o, H l = none → o.dict = none → Q (.ref l) (upd H l (.frz o (.tup ys)))) ∨ (SqT K H p ys ∧ Q (.ref p) H))
theorem call_tupF : CallR X (.type "tuple") (rTupF X.K) := by
  intro pins s σ H xs us Q I r h
  obtain ⟨p, ys, rfl, h⟩ := h
  obtain ⟨u, rfl, rx⟩ := vals1 r
  cases rx
  rcases h with ⟨hq, q⟩ | ⟨hq, q⟩
  · obtain ⟨its, r', pl, hz⟩ := I.list hq
    have hlen := r'.length
    refine call_tuple_list pl.isList (fun h' kp => ?_) (by simp only [List.size_toArray] <;> omega)
    have I1 : Inv X pins σ H { s with heap := h' } := I.kept (t' := s.toks) kp
    have nw : (h'.push { cls := .type "tuple", data := .seq its.toArray }).get? h'.objs.size = some { cls := .type "tuple", data := .seq its.toArray } := Heap.get?_push_size _ rfl
    have I2 : Inv X pins σ (upd H h'.objs.size (.frz { cls := .type "tuple", data := .seq its.toArray } (.tup ys))) { s with heap := h'.push { cls := .type "tuple", data := .seq its.toArray } } :=
      I1.laid (t' := s.toks) (fun b o e => Heap.get?_push_of_some _ e) (Nat.le_refl _) (show ObjOk X.prog X.w _ _ _ (.frz _ (.tup ys)) from ⟨nw, hz, its, r', ⟨_, nw, rfl, _, rfl⟩⟩)
    exact ⟨.ref h'.objs.size, _, I2, rfl, q _ _ (I1.hok.fresh (Nat.le_refl _)) rfl⟩
  · obtain ⟨its, r', pl, hz⟩ := I.tuple hq
    exact call_tuple_same pl ⟨.ref p, H, I, rfl, q⟩
def rDictF (K : PySem.W.Frag) : List V → Hp → VK → Prop := fun xs H Q => ∃ (a : Addr) (o : Obj) (ps : List Addr) (kvs : List (Key × V)), xs = [.ref a] ∧ H a = some (.frz o (.tup (ps.map V.ref))) ∧ o.dict = none ∧ Paired (fun p kv => SqT K H p [kV kv.1, kv.2]) ps kvs ∧
    ∀ p, H p = none → Q (.ref p) (upd H p (.dK (mergeK [] kvs)))
theorem call_dictF (hcalm : X.calm = true) : CallR X (.type "dict") (rDictF X.K) := by
  intro pins s σ H xs us Q I r h
  obtain ⟨a, o, ps, kvs, rfl, hq, hd, hp, q⟩ := h
  obtain ⟨u, rfl, rx⟩ := vals1 r
  cases rx
  obtain ⟨its, rv, pl, hz⟩ := I.tuple (Or.inl (Or.inr ⟨o, hq⟩) : SqT X.K H a (ps.map V.ref))
  have ei := refs_at rv
  subst ei
  rw [List.length_map] at hz
  obtain ⟨prs, rel, hl, hpr⟩ := pairs_of I hp
  have ho : s.heap.get? a = some o := (I.hok a _ hq).1
  obtain ⟨o', ho', hc, n, hdat⟩ := pl
  rw [ho] at ho'
  cases ho'
  -- the pairs as they stand in the heap
  obtain ⟨key, hkey⟩ : ∃ key : Nat → Value, ∀ (j : Nat) (q : Key × Value), prs[j]? = some q → ∃ b, ps[j]? = some b ∧ IsTup s.heap b #[key j, q.2] ∧ keyIs q.1 (key j) = true := by
    have ch : ∀ j : Nat, ∃ u : Value, ∀ q : Key × Value, prs[j]? = some q → ∃ b, ps[j]? = some b ∧ IsTup s.heap b #[u, q.2] ∧ keyIs q.1 u = true := by
      intro j
      cases e : prs[j]? with
      | none => exact ⟨.none, fun q w => nomatch w⟩
      | some q0 =>
        obtain ⟨b, u, e1, e2, e3⟩ := hpr j q0 e
        exact ⟨u, fun q w => by cases w; exact ⟨b, e1, e2, e3⟩⟩
    exact ⟨fun j => (ch j).choose, fun j => (ch j).choose_spec⟩
  let pl : List (Value × Value) := (List.range prs.length).map fun j => (key j, (prs.getD j (.inl 0, .none)).2)
  have hlen : pl.length = prs.length := by simp [pl]
  have plat : ∀ j k v, pl[j]? = some (k, v) → ∃ q, prs[j]? = some q ∧ k = key j ∧ v = q.2 := by
    intro j k v e
    have hj : j < prs.length := by
      rw [← hlen]; exact (List.getElem?_eq_some_iff.mp e).1
    have e2 : pl[j]? = some (key j, (prs.getD j (.inl 0, .none)).2) := by simp [pl, hj]
    rw [e2] at e
    cases e
    exact ⟨prs[j], List.getElem?_eq_getElem hj, rfl, by rw [List.getD_eq_getElem?_getD, List.getElem?_eq_getElem hj]; rfl⟩
  refine PySem.call_dict_pairs (knd := mixKind X.prog X.w) (kvs := prs) (PairArg.tuple a (ps.map Value.ref).toArray (fun j => ps.getD j 0) pl) (I.ok.hd hcalm) ⟨⟨o, n, ho, hc, hd, hdat⟩, by simp [hlen, hl], fun j k v e => ?_⟩ ⟨hlen.symm, fun i k v e => ?_⟩ (by rw [hlen, hl]; exact hz) fun h' tk hd' k => ?_
  · obtain ⟨q', e1, e2, e3⟩ := plat j k v e
    obtain ⟨b, f1, f2, f3⟩ := hkey j q' e1
    subst e2 e3
    have eb : ps.getD j 0 = b := by rw [List.getD_eq_getElem?_getD, f1]; rfl
    refine ⟨by simp [eb, f1], .inl ?_⟩
    show s.heap.IsTuple (ps.getD j 0) _
    rw [eb]
    exact f2
  · obtain ⟨q', e1, e2, e3⟩ := plat i k v e
    obtain ⟨b, f1, f2, f3⟩ := hkey i q' e1
    subst e2 e3
    exact ⟨q'.1, e1, f3⟩
  · have hm : (s.heap.objs.size == sysModules) = false := beq_eq_false_iff_ne.mpr (Nat.ne_of_gt I.big)
    have hlen2 : (mergeK [] kvs).length ≤ sizeLine := by
      refine Nat.le_trans (length_mergeK kvs []) ?_
      rw [List.length_nil, Nat.zero_add, rel.length, hl]
      exact hz
    exact ⟨.ref s.heap.objs.size, upd H s.heap.objs.size (.dK (mergeK [] kvs)), I.laid (t' := tk) (fun b o e => k b o (by simp) e) (Nat.le_refl _) (show ObjOk X.prog X.w _ _ _ (.dK (mergeK [] kvs)) from ⟨hlen2, hm, merged [] prs, KV.merge rel .nil, hd'⟩), rfl, q _ (I.hok.fresh (Nat.le_refl _))⟩
end
end L2
namespace SZ
open PySem PySem.Spec PyProof.Rows
section
variable {prog : Program} {w : World} {A : Around} {R : Result → Shared → Prop} {I : Addr} {fp wr : List Addr} {G : Array GenState → Array GenState → Prop} {n : Nat} {P : Nat → Value → Prop} {St : Nat → Shared → Prop}
/-- the walk that fills a set with different texts -/
theorem walk_set (W : WalksS prog w A.in1 I fp wr G n P St) (S : Addr) (hSf : S ∉ fp) (xs : List Str) (hsz : xs.length = n) (nd : xs.Nodup) (hn1 : n < 30)
    (hval : ∀ i v, P i v → ∃ t, v = .str (xs.getD i Str.empty) t) :
    ∀ (k i : Nat) (s : Shared), n - i = k → i ≤ n → St i s →
      s.heap.SetOf (PySem.strKind prog w) S (fun k' => (xs.take i).any (· == k')) i →
      (∀ s', Moved (S :: wr) G s s' → s'.heap.SetOf (PySem.strKind prog w) S (fun k' => (xs.take n).any (· == k')) n → R (.ok (.ret .none)) s') →
      codeAny (model prog w) A (.builtin "set.update.loop" ⟨[.ref S, .ref I], []⟩) R s := by
  have offS : S ∉ wr := fun h => hSf (W.sub _ h)
  have more : ∀ b ∈ wr, b ∈ S :: wr := fun b hb => List.mem_cons_of_mem _ hb
  intro k
  induction k with
  | zero =>
    intro i s hk hi hst hS hR
    have e : i = n := by omega
    subst e
    refine codeAny_builtin PyProof.Rows.F.entry_set_update_loop ?_
    rw [Around.under_plainId PyProof.Rows.F.plain_set_update_loop _]
    show wpAny _ A.in1 (pyNext (.ref I) >>= _) _ _ s
    refine wpAny_bind (W.done s _ _ hst fun s' hm => ?_)
    refine wpAny_pure (hR s' (hm.mono more) ?_)
    obtain ⟨o, es, ep, t, ho, rest⟩ := hS
    exact ⟨o, es, ep, t, hm.heap S _ offS ho, rest⟩
  | succ k ih =>
    intro i s hk hi hst hS hR
    have hlt : i < n := by omega
    have hx : xs[i]? = some xs[i] := List.getElem?_eq_getElem (by omega)
    have hxi : xs.getD i Str.empty = xs[i] := by rw [List.getD_eq_getElem?_getD, hx]; rfl
    refine codeAny_builtin PyProof.Rows.F.entry_set_update_loop ?_
    rw [Around.under_plainId PyProof.Rows.F.plain_set_update_loop _]
    show wpAny _ A.in1 (pyNext (.ref I) >>= _) _ _ s
    refine wpAny_bind (W.item i s _ _ hlt hst fun v s' hP hst' hm => ?_)
    obtain ⟨t, rfl⟩ := hval i v hP
    rw [hxi]
    have hS' : s'.heap.SetOf (PySem.strKind prog w) S (fun k' => (xs.take i).any (· == k')) i := by
      obtain ⟨o, es, ep, tb, ho, rest⟩ := hS
      exact ⟨o, es, ep, tb, hm.heap S _ offS ho, rest⟩
    show wpAny _ A.in1 (holding [Value.str xs[i] t] (setAdd S (.str xs[i] t)) >>= _) _ _ s'
    refine wpAny_bind (wpAny_holding ?_)
    unfold setAdd
    refine wpAny_holding ?_
    refine wpAny_bind ((PySem.strKind prog w).pyHash (k := xs[i]) (strKind_is _ _ _ _) ?_)
    refine wpAny_setAddHashed_of (knd := PySem.strKind prog w) (s := { s' with toks := s'.toks + 1 }) (strKind_is _ _ _ _) rfl hS' (by unfold scanBound; omega) fun h' hsb hS2 => ?_
    have fresh : (xs.take i).any (· == xs[i]) = false := by
      rw [List.any_eq_false]
      intro y hy e
      have e2 : y = xs[i] := beq_iff_eq.mp e
      obtain ⟨j, hj, e3⟩ := List.getElem_of_mem hy
      have hji : j < i := by rw [List.length_take] at hj; omega
      rw [List.getElem_take] at e3
      exact List.pairwise_iff_getElem.mp nd j i (by omega) (by omega) hji (e3.trans e2)
    have hSi : h'.SetOf (PySem.strKind prog w) S (fun k' => (xs.take (i + 1)).any (· == k')) (i + 1) := by
      refine SetOf_congr hS2 (fun k' => ?_) (by rw [fresh]; rfl)
      rw [List.take_succ, hx, List.any_append]
      have e1 : (some xs[i]).toList.any (· == k') = decide (k' = xs[i]) := by
        show ((xs[i] == k') || false) = _
        rw [Bool.or_false]
        by_cases e : k' = xs[i]
        · rw [e]; simp
        · rw [decide_eq_false e]
          exact beq_eq_false_iff_ne.mpr (Ne.symm e)
      rw [e1]
    refine wpAny_pure ⟨plainId_quiet PyProof.Rows.F.plain_set_update_loop _, ih (i + 1) _ (by omega) hlt (W.frame _ s' _ _ hst' (Nat.le_succ _) fun b hb o e => ?_) hSi fun s'' hm'' hS'' => ?_⟩
    · rw [hsb.2 b (fun h : b = S => hSf (by rw [← h]; exact hb))]; exact e
    · refine hR s'' (Moved.trans W.gtrans ((hm.mono more).then_heap (Nat.le_succ _) fun b o hb e => ?_) hm'') hS''
      rw [hsb.2 b (fun h : b = S => hb (by rw [h]; exact List.mem_cons_self))]; exact e
end
section
variable {prog : Program} {w : World} {A : Around} {E : Value → Shared → Prop} {s : Shared}
theorem set_of_strs {l : Addr} {items : Array Value} {xs : List Str} {Q : Value → Shared → Prop}
    (hh : A.handled = none) (hl : s.heap.IsList l items) (hi : PyProof.Rows.StrsAre items.toList xs) (nd : xs.Nodup) (hn1 : xs.length < 30)
    (h : ∀ (h' : Heap) (tk : Nat), h'.SetOf (PySem.strKind prog w) s.heap.objs.size (fun k' => (xs.take items.size).any (· == k')) items.size →
      (∀ b o, b < s.heap.objs.size → s.heap.get? b = some o → h'.get? b = some o) → Q (.ref s.heap.objs.size) { s with heap := h', toks := tk }) :
    wpAny (model prog w) A (call (.type "set") [.ref l]) Q E s := by
  obtain ⟨c, tl, hmro⟩ := PySem.F.called_set.mro
  have hmade := PySem.F.called_set.made
  have hsub := PySem.F.called_set.sub
  refine wpAny_call (codeAny_of_tree ?_)
  show wpAny _ _ (callAny (.type "set") _) _ _ _
  refine wpAny_pure ⟨Code.quiet_builtin _ (by decide +kernel), codeAny_builtin PySem.F.entry_type_call ?_⟩
  rw [Around.under_plain (weight_type_call_type "set" [.ref l] []) rfl]
  have h1 := PySem.F.called_set.notType
  have h2 := PySem.F.called_set.canCreate
  have hct := PySem.F.typeCall_set_1 (.ref l)
  repeat (any_goals (first | assumption | wp_step))
  refine codeAny_mono (code_set_new_1 (.ref l) (E := E) (Q₁ := fun obj s₁ => ∃ led : Bool, obj = .ref s.heap.objs.size ∧ s₁ = { s with heap := s.heap.push { cls := .type "set", dict := none, data := .set #[] 0 (.fresh 0 0 led) } }) fun led => ⟨led, rfl, rfl⟩) fun r s₁ hr => ?_
  cases r with
  | error e => exact hr
  | ok fl =>
    cases fl with
    | ret obj =>
      obtain ⟨led, rfl, rfl⟩ := hr
      have hS : (s.heap.push { cls := .type "set", dict := none, data := .set #[] 0 (.fresh 0 0 led) }).get? s.heap.objs.size = some { cls := .type "set", dict := none, data := .set #[] 0 (.fresh 0 0 led) } := Heap.get?_push_size _ rfl
      have hT : Shared.TypeIs { s with heap := s.heap.push { cls := .type "set", dict := none, data := .set #[] 0 (.fresh 0 0 led) } } (.ref s.heap.objs.size) "set" := ⟨_, hS, rfl⟩
      have hli := PySem.F.called_set.init.lookup
      have hbi := PySem.F.called_set.init.bind (.ref s.heap.objs.size)
      repeat (any_goals (first | assumption | wp_step))
      refine codeAny_mono (codeAny_call_builtin (R := wants (fun r s₂ => r = .none ∧ ∃ h' tk, s₂ = { s with heap := h', toks := tk } ∧
          h'.SetOf (PySem.strKind prog w) s.heap.objs.size (fun k' => (xs.take items.size).any (· == k')) items.size ∧
          (∀ b o, b < s.heap.objs.size → s.heap.get? b = some o → h'.get? b = some o)) E) PySem.F.called_set.init.plain PySem.F.entry_set_init (check_set_init_1 hT ?_)) fun r₂ s₂ hr₂ => ?_
      · obtain ⟨ol, hol, hcl, nl, hdl⟩ := hl
        obtain ⟨ocls, odict, odata, oslots⟩ := ol
        simp only at hcl hdl
        subst hcl; subst hdl
        have hol' : (s.heap.push { cls := .type "set", dict := none, data := .set #[] 0 (.fresh 0 0 led) }).get? l = some { cls := .type "list", dict := odict, data := .seq items nl, slots := oslots } := Heap.get?_push_of_some _ hol
        have hsls := PySem.F.sub_list_set
        have hslf := PySem.F.sub_list_frozenset
        have hne : (Value.type "list" == Value.type "dict") = false := by decide
        have hl1 : (s.heap.push { cls := .type "set", dict := none, data := .set #[] 0 (.fresh 0 0 led) }).IsList l items := ⟨_, hol', rfl, nl, rfl⟩
        unfold Builtin.«set.__init__» noKeywords Builtin.Frozenset.updateFrom
        generalize hPI : pyIter = PI
        wp_walk
        subst hPI
        refine wpAny_pyIter_list hl1 ?_
        refine wpAny_bind (wpAny_runValue ?_)
        have hlS : l < s.heap.objs.size := Heap.lt_size hol
        have hh3 : A.in1.in1.in1.handled = none := by simp [hh]
        have hneI : l ≠ (s.heap.push { cls := .type "set", dict := none, data := .set #[] 0 (.fresh 0 0 led) }).objs.size := by
          rw [Heap.size_push]; exact Nat.ne_of_lt (Nat.lt_succ_of_lt hlS)
        have hSf : s.heap.objs.size ∉ [(s.heap.push { cls := .type "set", dict := none, data := .set #[] 0 (.fresh 0 0 led) }).objs.size, l] := by
          rw [Heap.size_push]; simp only [List.mem_cons, List.mem_singleton, List.not_mem_nil, or_false, not_or]
          exact ⟨Nat.ne_of_lt (Nat.lt_succ_self _), Nat.ne_of_gt hlS⟩
        have hsz : xs.length = items.size := by rw [← StrsAre.len_eq hi, Array.length_toList]
        have hval : ∀ (i : Nat) (v : Value), items[i]? = some v → ∃ t, v = .str (xs.getD i Str.empty) t := fun i v hv => SS.strs_at hi i v (by rw [Array.getElem?_toList]; exact hv)
        refine walk_set ((Walks.list hh3 _ l hneI items).toS) s.heap.objs.size hSf xs hsz nd (by rw [← hsz]; exact hn1) hval (items.size - 0) 0 _ (by omega) (Nat.zero_le _)
          ⟨⟨_, Heap.get?_push_size _ rfl, rfl, rfl⟩, (hl1.push _)⟩ ?hS0 ?hR
        case hS0 =>
          have hget : ((s.heap.push { cls := .type "set", dict := none, data := .set #[] 0 (.fresh 0 0 led) }).push { cls := .type "list_iterator", data := .fields #[.ref l, .int 0 0] }).get? s.heap.objs.size
              = some { cls := .type "set", dict := none, data := .set #[] 0 (.fresh 0 0 led) } := Heap.get?_push_of_some _ hS
          exact PyProof.Rows.SetOf_congr ((PyProof.Rows.setObjOf_fresh (knd := PySem.strKind prog w) led).setOf hget (by unfold scanBound; omega)) (fun _ => rfl) rfl
        case hR =>
          intro s' hm hS'
          obtain ⟨h', g', d', tk', os'⟩ := s'
          have eg : g' = s.gens := hm.gens
          have ed : d' = s.drawn := hm.drawn
          have eo : os' = s.os := hm.os
          subst eg; subst ed; subst eo
          show wpAny _ _ _ _ _ _
          refine wpAny_pure ?_
          show wpAny _ _ (ret Value.none) _ _ _
          refine wpAny_pure ⟨rfl, h', tk', rfl, hS', fun b o hb e => ?_⟩
          have hb1 : b ≠ s.heap.objs.size := Nat.ne_of_lt hb
          have hb2 : b ≠ (s.heap.push { cls := .type "set", dict := none, data := .set #[] 0 (.fresh 0 0 led) }).objs.size := by
            rw [Heap.size_push]; exact Nat.ne_of_lt (Nat.lt_succ_of_lt hb)
          exact hm.heap b o (by simp only [List.mem_cons, List.mem_singleton, List.not_mem_nil, or_false, not_or]; exact ⟨hb1, hb2⟩) (Heap.get?_push_of_some _ (Heap.get?_push_of_some _ e))
      · cases r₂ with
        | error e => exact hr₂
        | ok fl₂ =>
          cases fl₂ with
          | ret r =>
            obtain ⟨rfl, h', tk, rfl, hS', hk'⟩ := hr₂
            repeat (any_goals (first | assumption | wp_step))
            exact h _ _ hS' hk'
          | _ => exact hr₂.elim
    | _ => exact hr.elim
end
end SZ
namespace L2
open PySem PySem.Spec PyProof.Rows
section
variable {X : Cx}
/-- len(set(xs)) of a list of different texts -/
def tLenSetS (K : PySem.W.Frag) (ta : TE) : TE := fun σ H Q => ta σ H fun x H1 => ∃ (l : Addr) (xs : List Str), x = .ref l ∧ SqL K H1 l (xs.map V.str) ∧ xs.length < 30 ∧ xs.Nodup ∧ Q (.int xs.length) H1
theorem pe_lenSetS {a : Expr} {ta : TE} {p p2 q pos : Pos} (hc : X.calm = true) (hg : Gl X "len") (hm : X.mg "len" = none) (hg2 : Gl X "set") (hm2 : X.mg "set" = none) (ha : PE X a ta)
    (na : starEach [a] X.env = (false, eval a X.env) :: starEach [] X.env := by rfl) : PE X (.Call (.Name "len" p) [.Call (.Name "set" p2) [a] [] q] [] pos) (tLenSetS X.K ta) := by
  refine ⟨fun pins s σ H Q I h => ?_⟩
  refine Call_ (ld_blt I hg hm boot_len ?_)
  refine PyProof.Rows.callWith_builtin1 (PyProof.Rows.args_cons ?_ rfl) rfl rfl
  refine Call_ (ld_blt I hg2 hm2 boot_set ?_)
  refine PyProof.Rows.callWith_type1 (PyProof.Rows.args_cons (thn (ha.run pins s σ H _ I h) fun v s1 ⟨x, H1, I1, r1, q1⟩ => PyProof.Rows.args_nil ?_) na) na rfl
  obtain ⟨l, xs, rfl, hq, h1, nd, q1⟩ := q1
  cases r1
  obtain ⟨its, r, pl, hz⟩ := I1.list hq
  refine SZ.set_of_strs (I1.ok.hd hc) pl.isList (by simpa using strsAre_of r) nd h1 fun h' tk hS hk => ?_
  refine PyProof.Rows.args_nil ?_
  have hl : its.toArray.size = xs.length := by rw [List.size_toArray, ← r.length, List.length_map]
  rw [hl] at hS
  obtain ⟨o, es, ep, t, ho, hex, hd, _, _, _, hf, hn⟩ := hS
  have I2 : Inv X pins σ H1 { s1 with heap := h', toks := tk } := I1.kept fun b o e => hk b o (Heap.lt_size e) e
  exact call_len_set ho hex hd hf (by rw [hn] <;> omega) ⟨.int xs.length, H1, I2.tok _, ⟨_, by rw [hn]⟩, q1⟩
end
end L2
/-! len(range(n)) -/
namespace L2
open PySem PySem.Spec PyProof.Rows
theorem q_rlen (r : Addr) (b : Int) (t u v : Tok) (hb : 0 ≤ b) (hb2 : b < 2 ^ 63) :
    Meets (Builtin.«range.__len__» ⟨[.ref r], []⟩) (fun _ R s => s.heap.get? r = some { cls := .type "range", dict := none, data := .fields #[.int 0 t, .int b u, .int 1 v], slots := #[] } ∧ R (.ok (.ret (.int b s.toks))) { s with toks := s.toks + 1 }) :=
  .of_wp fun prog w A R s h => by
    obtain ⟨hp, g, d, tk, os⟩ := s
    obtain ⟨hl, h⟩ := h
    wp_walk
    have e : Builtin.Range.rangeSize 0 b 1 = b := by
      unfold Builtin.Range.rangeSize
      rw [if_pos (by decide)]
      by_cases hz : (0 : Int) < b
      · rw [if_pos hz, Int.ediv_one]; omega
      · rw [if_neg hz]; omega
    rw [e, if_neg (by omega)]
    show wpAny _ _ (retInt b) _ _ _
    unfold retInt
    exact wpAny_bind (wpAny_mkInt (wpAny_pure ⟨_, rfl, h⟩))
theorem len_rng {P : Program} {w : World} {A : Around} {E : Value → Shared → Prop} {s : Shared} {r : Addr} {b : Int} {t u v : Tok} {Q : Value → Shared → Prop} (hb : 0 ≤ b) (hb2 : b < 2 ^ 63)
    (hr : s.heap.get? r = some { cls := .type "range", dict := none, data := .fields #[.int 0 t, .int b u, .int 1 v], slots := #[] }) (h : Q (.int b (s.toks + 1)) { s with toks := s.toks + 1 + 1 }) :
    wpAny (model P w) A (call (.builtin "len") [.ref r]) Q E s := by
  refine Calls.call_function_entry kind_len plain_len entry_len (args_len1 _) ?_
  have hT : s.TypeIs (.ref r) "range" := ⟨_, hr, rfl⟩
  unfold Builtin.«len»
  refine wpAny_bind (m := oneArg "len" _) (wpAny_pure ?_)
  refine wpAny_bind (m := callSpecial? (.ref r) (Str.ofString "__len__")) (wpAny_callSpecial?_slot (name := Str.ofString "__len__") hT F.slot_range_len
    (call_meets F.slot_range_len hT F.entry_range_len (F.args_range_len_1 _) (q_rlen r b t u v hb hb2) ⟨hr, ?_⟩))
  show wpAny _ _ _ _ _ { s with toks := s.toks + 1 }
  refine wpAny_bind (wpAny_holding (wpAny_pure ?_))
  refine wpAny_bind (wpAny_letGo ?_)
  show wpAny _ _ (if b < 0 then _ else _) _ _ _
  rw [if_neg (by omega)]
  show wpAny _ _ (if b ≥ 2 ^ 63 then _ else _) _ _ _
  rw [if_neg (by omega)]
  exact wpAny_bind (wpAny_mkInt (wpAny_pure ⟨_, rfl, h⟩))
section
variable {X : Cx}
/-- range(n) as a value -/
theorem cr_range1 : CallR X (.type "range") (fun vs H Q => ∃ j, vs = [V.int j] ∧ ∀ p, H p = none → Q (.ref p) (upd H p (.rng 0 j))) := by
  intro pins s σ H vs us Q I r h
  obtain ⟨j, rfl, q⟩ := h
  obtain ⟨u1, rfl, ri⟩ := vals1 r
  obtain ⟨t, rfl⟩ := ri
  refine call_range_1 ⟨.ref s.heap.objs.size, upd H s.heap.objs.size (.rng 0 j), I.laid (t' := s.toks + 1 + 1) (fun b o e => Heap.get?_push_of_some _ e) (Nat.le_refl _) ?_, rfl, q _ (I.hok.fresh (Nat.le_refl _))⟩
  exact ⟨_, _, _, Heap.get?_push_size _ rfl⟩
/-- len of a range from 0 -/
theorem call_lenRng : CallR X (.builtin "len") (fun vs H Q => ∃ a j, vs = [V.ref a] ∧ H a = some (.rng 0 j) ∧ 0 ≤ j ∧ j < 2 ^ 63 ∧ Q (.int j) H) := by
  intro pins s σ H vs us Q I r h
  obtain ⟨a, j, rfl, ha, h0, h1, q⟩ := h
  obtain ⟨u1, rfl, ri⟩ := vals1 r
  cases ri
  obtain ⟨t1, t2, t3, ho⟩ := I.hok a _ ha
  exact len_rng h0 h1 ho ⟨.int j, H, I.tok _, ⟨_, rfl⟩, q⟩
end
end L2
/-! methods and classes called with keywords only -/
namespace L2
open PySem PySem.Spec PyProof.Rows C8
/-- the keywords' values in the parameters' order, behind the first ones -/
def gP {α : Type} (perm : List Nat) (us ws : List α) : List α := us ++ perm.flatMap fun i => (ws.drop i).take 1
theorem vals_take : ∀ {vs : List V} {us : List Value}, Vals vs us → ∀ n, Vals (vs.take n) (us.take n)
  | _, _, .nil, n => by simp; exact .nil
  | _, _, .cons r t, 0 => .nil
  | _, _, .cons r t, n + 1 => .cons r (vals_take t n)
theorem gP_rel (perm : List Nat) {vs zs : List V} {us ws : List Value} (r : Vals vs us) (q : Vals zs ws) : Vals (gP perm vs zs) (gP perm us ws) := by
  unfold gP
  refine r.append ?_
  induction perm with
  | nil => exact .nil
  | cons i p ih =>
    simp only [List.flatMap_cons]
    exact (vals_take (q.drop i) 1).append ih
section
variable {K : PySem.W.Frag} {x qual : Str} {params : Arguments} {body : List Stmt} {scope : Scope} {kws : List (Str × V)} {f : Addr} {fd : FuncData} {ps : List Str}
theorem FunD.kbindsP (F : FunD K x qual params body scope [] kws f fd) (n : Nat) (ks : List Str) (perm : List Nat)
    (h : ∀ (kV doc pm : Value) (an : Option Addr) (cdv ct : Value) (us ws : List Value), us.length = n → ws.length = ks.length → bindArgs (PySem.W.fnOf x qual params body scope .none kV doc pm an cdv ct) ⟨us, ks.zip ws⟩ = pure (ps.zip (gP perm us ws))) :
    KBn K fd ps n ks (gP perm) (gP perm) := by
  obtain ⟨oc, od, dV, kV, doc, pm, an, cdv, ct, osl, rfl, lk, hcd, hD, hK⟩ := F.ex
  rcases hD with ⟨_, rfl⟩ | ⟨e, _⟩
  · exact ⟨fun s us ws _ h1 h2 => .of_eq (h kV doc pm an cdv ct us ws h1 h2), fun r q => gP_rel perm r q⟩
  · exact absurd rfl e
end
structure MetK (P : Program) (w : World) (K : PySem.W.Frag) (mg : Str → Option Value) (base : Heap) (k : Nat) (C : Addr) (m : Str) (ks : List Str) (perm : List Nat) (sp : Sp) : Prop where
  ex : ∃ (f : Addr) (fd : FuncData) (ps : List Str), Cls K C ∧ Meth K C m f ∧ FnOk P w K mg base CX0 k f fd ps sp ∧ KBn K fd ps 1 ks (gP perm) (gP perm)
structure MakK (P : Program) (w : World) (K : PySem.W.Frag) (mg : Str → Option Value) (base : Heap) (k : Nat) (x : Str) (C : Addr) (ks : List Str) (perm : List Nat) (sp : Sp) : Prop where
  ex : ∃ (f : Addr) (fd : FuncData) (ps : List Str), Mk K C f ∧ FnOk P w K mg base CX0 k f fd ps sp ∧ mg x = some (.ref C) ∧ KBn K fd ps 1 ks (gP perm) (gP perm)
section
variable {X : Cx} {k j : Nat} {C : Addr} {x m : Str} {sp : Sp} {p pos apos : Pos} {o : Expr} {ks : List Str} {perm : List Nat} {kws : List Keyword} {ta : TE} {tk : TA}
theorem pe_mtK {pl : Sem Bool} (c : MetK X.prog X.w X.K X.mg X.base k C m ks perm sp) (hr : Room j X.A) (hk : k ≤ j) (he : PE X o ta) (hkw : PK X kws tk)
    (hall : (backToKw pos (keywordEach kws X.env)).all (·.1.isSome) = true := by rfl) (hks : (backToKw pos (keywordEach kws X.env)).filterMap (·.1) = ks := by rfl)
    (hpl : ((backTo pos (starEach [] X.env)).any (·.1) || (backToKw pos (keywordEach kws X.env)).any (·.1.isNone)) = false := by rfl)
    (ht : eval (.Call (.Attribute o m apos) [] kws pos) X.env = (do
      let ov ← eval o X.env
      standAt apos.atName
      let (f, first) ← holding [ov] (getMethod ov m pl)
      callWith pos f first (backTo pos (starEach [] X.env)) (backToKw pos (keywordEach kws X.env))) := by rfl) :
    PE X (.Call (.Attribute o m apos) [] kws pos) (tMethK C m 0 ks.length sp (gP perm) E0 ta tNil tk) := by
  obtain ⟨f, fd, ps, hc, hm, F, b⟩ := c.ex
  exact pe_methK0 (pl := pl) he hc hm F (hr.mono hk) b pass0 hkw hall hks hpl ht
theorem pe_mkK (c : MakK X.prog X.w X.K X.mg X.base k x C ks perm sp) (hr : Room j X.A) (hk : k + 1 ≤ j) (hg : Gl X x) (hkw : PK X kws tk)
    (hall : (backToKw pos (keywordEach kws X.env)).all (·.1.isSome) = true := by rfl) (hks : (backToKw pos (keywordEach kws X.env)).filterMap (·.1) = ks := by rfl) (hdb : (x == ("__debug__" : Str)) = false := by decide)
    (hpl : ((backTo pos (starEach [] X.env)).any (·.1) || (backToKw pos (keywordEach kws X.env)).any (·.1.isNone)) = false := by rfl) :
    PE X (.Call (.Name x p) [] kws pos) (tMakeK C 0 ks.length sp (gP perm) E0 tNil tk) := by
  obtain ⟨f, fd, ps, M, F, hm, b⟩ := c.ex
  exact pe_makeK0 M F (hr.mono hk) hg hm b pass0 hkw hall hks hdb hpl
end
end L2
/-! a law whose def is known only where nothing is being shown -/
namespace L2
open PySem PySem.Spec PyProof.Rows
section
variable {P : Program} {w : World} {K : PySem.W.Frag} {mg mb : Str → Option Value} {k : Nat} {fa a : Addr} {fd : FuncData} {x : Str} {sp : Sp} {s1 : Shared} {vs : List Value} {ns : List Int}
/-- the script's object -/
abbrev scriptO (vs : List Value) : Obj := { cls := .type "list", data := .seq vs.toArray }
/-- the script alone is told, unless it stands in the written part -/
def scriptH (K : PySem.W.Frag) (a : Addr) (vs : List Value) (ns : List Int) : Hp := fun q => if q = a ∧ K.lookup a = none then some (.frz (scriptO vs) (.lst (ns.map V.int))) else none
theorem scriptH_cases (q : Addr) : (scriptH K a vs ns q = none) ∨ (q = a ∧ K.lookup a = none ∧ scriptH K a vs ns q = some (.frz (scriptO vs) (.lst (ns.map V.int)))) := by
  unfold scriptH
  by_cases c : q = a ∧ K.lookup a = none
  · exact Or.inr ⟨c.1, c.2, if_pos c⟩
  · exact Or.inl (if_neg c)
theorem scriptH_only : Only (scriptH K a vs ns) := fun q => by
  rcases scriptH_cases (K := K) (a := a) (vs := vs) (ns := ns) q with h | ⟨_, _, h⟩
  · exact Or.inl h
  · exact Or.inr ⟨_, _, h⟩
theorem scriptH_seq (KX : K.In s1.heap) (ea : s1.heap.get? a = some (scriptO vs)) (ii : IntsAre vs ns) (hl : ns.length ≤ sizeLine) : SqL K (scriptH K a vs ns) a (ns.map V.int) := by
  have lv := ii.length
  cases q : K.lookup a with
  | none => exact Or.inl (Or.inr ⟨scriptO vs, by unfold scriptH; exact if_pos ⟨rfl, q⟩⟩)
  | some o =>
    obtain rfl : scriptO vs = o := Option.some.inj (ea.symm.trans (KX a o q))
    refine Or.inr ⟨_, vs.toArray, _, q, rfl, rfl, rfl, ?_, ?_⟩
    · rw [List.size_toArray, lv]; exact hl
    · simpa using vals_ints ii
theorem scriptH_ok (ea : s1.heap.get? a = some (scriptO vs)) (ii : IntsAre vs ns) (hl : ns.length ≤ sizeLine) : HOk P w (scriptH K a vs ns) s1.heap := fun q u hu => by
  rcases scriptH_cases (K := K) (a := a) (vs := vs) (ns := ns) q with h | ⟨e, _, h⟩
  · rw [h] at hu; cases hu
  · rw [h] at hu
    cases hu
    subst e
    exact ⟨ea, (by rw [List.length_map]; exact hl), vs, _, vals_ints ii, ea⟩
/-- the call of the law -/
theorem law_callG (KX : K.In s1.heap) (gl : s1.heap.Ns mainGlobals mg) (bl : s1.heap.Ns builtinsNs mb) (bb : ∀ y : Str, y ≠ "__name__" → mb y = bootBuiltins y) (nl : s1.heap.NoLimit) (gn : s1.gens = #[])
    (ea : s1.heap.get? a = some (scriptO vs)) (ii : IntsAre vs ns) (hl : ns.length ≤ sizeLine) (room : Room k callerA)
    (F : ∀ base : Heap, K.In base → base.Ns mainGlobals mg → FnG P w K mg base CX0 k fa fd [x] sp) (bd : ∀ (s : Shared) (u : Value), BindsTo s fd ⟨[u], []⟩ [(x, u)])
    (hsp : ∀ H : Hp, Only H → SqL K H a (ns.map V.int) → sp [.ref a] H (fun v _ => v = .bl true) fun _ _ _ => False) :
    codeAny (model P w) callerA (.call (.ref fa) ⟨[.ref a], []⟩) (fun r s2 => r = .ok (.ret (.bool true)) ∧ OldK s1.heap s2.heap ∧ s2.os = s1.os ∧ AllBare s2.gens) s1 := by
  obtain ⟨Hs, hHs⟩ : ∃ Hs, Hs = scriptH K a vs ns := ⟨_, rfl⟩
  have cs : ∀ q, Hs q = none ∨ (q = a ∧ K.lookup a = none ∧ Hs q = some (.frz (scriptO vs) (.lst (ns.map V.int)))) := by rw [hHs]; exact scriptH_cases
  have ok : HOk P w Hs s1.heap := by rw [hHs]; exact scriptH_ok ea ii hl
  -- objects that are no script's stand below it
  have under : ∀ {q : Addr} {o : Obj}, s1.heap.get? q = some o → o ≠ scriptO vs ∨ (K.lookup q).isSome = true → (hidT s1.heap Hs).get? q = some o := fun {q o} e n => hidT_get e (by
    rcases cs q with h | ⟨z, hn, _⟩
    · exact h
    · subst z
      rcases n with n | n
      · rw [ea] at e; exact absurd (Option.some.inj e).symm n
      · rw [hn] at n; cases n)
  have nsp : ∀ {q : Addr} {m : Str → Option Value}, s1.heap.Ns q m → (hidT s1.heap Hs).Ns q m := fun {q m} ⟨o, es, ep, e, d, r⟩ => ⟨o, es, ep, under e (Or.inl fun z => by rw [z] at d; cases d), d, r⟩
  have kin : K.In (hidT s1.heap Hs) := fun q o e => under (KX q o e) (Or.inr (by rw [e]; rfl))
  have md : Mod K mg (hidT s1.heap Hs) := ⟨kin, nsp gl, ⟨mb, nsp bl, bb⟩, by obtain ⟨mc, g1, g2⟩ := nl; exact ⟨mc, nsp g1, g2⟩⟩
  have en : Env0 P w K mg (hidT s1.heap Hs) callerA [] s1 Hs :=
    { frames := rfl, mod := md, bs := fun q o e => of_hidT e, bsz := Nat.le_of_eq (hidT_size _ _), funs := trivial, frf := (fun q hq => by cases hq), hok := ok, bare := .of_eq gn }
  have go := (F _ kin (nsp gl)).run callerA [] s1 Hs ⟨[.ref a], []⟩ [.ref a] [.ref a] _ _ rfl room en (bd s1 (.ref a)) (.cons rfl .nil) (hsp Hs (by rw [hHs]; exact scriptH_only) (by rw [hHs]; exact scriptH_seq KX ea ii hl))
  refine codeAny_mono go fun r s2 h => ?_
  match r, h with
  | .error e, h => exact False.elim h
  | .ok .next, h => exact False.elim h
  | .ok .brk, h => exact False.elim h
  | .ok .cont, h => exact False.elim h
  | .ok (.ret u), ⟨v, H2, os, bare, un, ok2, rv, hv⟩ =>
    have hv : v = .bl true := hv
    subst hv
    obtain rfl : u = Value.bool true := rv
    refine ⟨rfl, OldK.of_keep fun q o e => ?_, os, bare⟩
    rcases cs q with h | ⟨z, hn, h⟩
    · exact un.keep q o e h (fun z => by cases z) (by simp)
    · obtain ⟨g1, _⟩ := ok2 q _ (un.frzs q _ _ h)
      subst z
      rw [ea] at e
      cases e
      exact g1
end
/-- a law's end over a head by facts -/
theorem walk_ofG {l : PySem.W.OpenLaw} {n k : Nat} {q : Program} {loose : List Str} {XP : (Str → Option Value) → Heap → Prop} {YP : World → Heap → Prop} {d : DefRec} {x : Str}
    (hm : l.most = some n) (hz : n ≤ sizeLine) (hd : d.params.defaults = []) (room : Room k callerA)
    (F : ∀ (w : World) (mg : Str → Option Value) (fa : Addr) (h : Heap), YP w h → h.Ns mainGlobals mg → mg d.name = some (.ref fa) →
      ∃ (K : PySem.W.Frag) (fd : FuncData) (sp : Sp), K.In h ∧ (∀ (s : Shared) (u : Value), BindsTo s fd ⟨[u], []⟩ [(x, u)]) ∧
        (∀ (H : Hp) (a : Addr) (ns : List Int), ns.length ≤ n → Only H → SqL K H a (ns.map V.int) → sp [.ref a] H (fun v _ => v = .bl true) fun _ _ _ => False) ∧
        ∀ base : Heap, K.In base → base.Ns mainGlobals mg → FnG l.prog w K mg base CX0 k fa fd [x] sp) :
    PySem.W.WalkO q loose XP YP l.row.toRowW d [] (fun f vs => PySem.call f vs) := by
  refine Att.attach_call hm hd fun w s0 s1 mg mb fa o pm cd doc a vs ns G Y _ _ _ hmg ea ii hlen gn => ?_
  obtain ⟨K, fd, sp, KX, hb, hsp, hF⟩ := F w mg fa _ Y G.T.g hmg
  exact law_callG KX G.T.g G.T.b G.T.builtins G.T.nolimit gn ea ii (Nat.le_trans hlen hz) room hF hb fun H hO hS => hsp H a ns hlen hO hS
end L2
/-! tuples whose objects are known: displays, sums, reversed ones; enumerate over a tuple; lists against the empty list -/
namespace L2
open PySem PySem.Spec PyProof.Rows
theorem meets_enumerate_newB1 {v : Value} {o : Obj} {H : Heap → Prop} (B : PySem.Begins v o H) :
    Meets (Builtin.«enumerate.__new__» ⟨[.type "enumerate", v], []⟩) (fun _ R s => H s.heap ∧
      R (.ok (.ret (.ref (s.heap.push o).objs.size))) { s with heap := (s.heap.push o).push { cls := .type "enumerate", data := .fields #[.none, .bool false, .ref s.heap.objs.size, rawInt 0, .none, .none] } }) :=
  .of_wp fun prog w A R s h => by
    obtain ⟨hp, g, d, tk, os⟩ := s; obtain ⟨h1, h⟩ := h
    have hsub := sub_enumerate
    have q1 : ∀ {A' : Around} {E : Value → Shared → Prop} {Q : Value → Shared → Prop}, Q (.ref hp.objs.size) ⟨hp.push o, g, d, tk, os⟩ → wpAny (model prog w) A' (pyIter v) Q E ⟨hp, g, d, tk, os⟩ :=
      fun q => B.iter prog w _ _ ⟨hp, g, d, tk, os⟩ _ h1 q
    wp_walk using q1
    refine wpAny_stack_any fun st => wpAny_pure ?_
    split
    · rename_i c _ _ _ _ _
      cases (c == Value.type "enumerate")
      · wp_walk using q1
        exact ⟨_, rfl, h⟩
      · wp_walk using q1
        exact ⟨_, rfl, h⟩
    · wp_walk using q1
      exact ⟨_, rfl, h⟩
section
variable {prog : Program} {w : World} {A : Around} {E : Value → Shared → Prop} {s : Shared}
theorem enum_begins1 {v : Value} {o : Obj} {H : Heap → Prop} {Q : Value → Shared → Prop} (B : PySem.Begins v o H) (h1 : H s.heap)
    (h : ∀ h', IsEnum h' (s.heap.objs.size + 1) s.heap.objs.size 0 .none → h'.get? s.heap.objs.size = some o → h'.objs.size = s.heap.objs.size + 2 →
      (∀ b o, s.heap.get? b = some o → h'.get? b = some o) → Q (.ref (s.heap.objs.size + 1)) { s with heap := h' }) :
    wpAny (model prog w) A (call (.type "enumerate") [v]) Q E s := by
  refine callType_new F.called_enumerate (by decide) (F.typeCall_enumerate_1 _) (F.newCall_enumerate_1 _) (fun obj => F.args_object_init_2 obj _) F.entry_enumerate_new
    (meets_enumerate_newB1 B) ⟨h1, ?_⟩
  have hz : (s.heap.push o).objs.size = s.heap.objs.size + 1 := Heap.size_push ..
  show _ ∧ _
  rw [hz]
  have he : IsEnum ((s.heap.push o).push { cls := .type "enumerate", data := .fields #[.none, .bool false, .ref s.heap.objs.size, rawInt 0, .none, .none] }) (s.heap.objs.size + 1) s.heap.objs.size 0 .none := by
    have := Heap.get?_push_size (s.heap.push o) (o := { cls := .type "enumerate", data := .fields #[.none, .bool false, .ref s.heap.objs.size, rawInt 0, .none, .none] }) rfl
    rw [hz] at this; exact this
  refine ⟨⟨_, he, rfl⟩, h _ he (Heap.get?_push_of_some _ (Heap.get?_push_size _ B.free)) (by rw [Heap.size_push, hz]) fun b o x => Heap.get?_push_of_some _ (Heap.get?_push_of_some _ x)⟩
theorem places_rev (n : Nat) : Builtin.Slice.slicePlaces ((n : Int) - 1) (-1) (-1) = n := by
  unfold Builtin.Slice.slicePlaces
  rw [if_neg (by omega)]
  by_cases h : (n : Int) - 1 > -1
  · rw [if_pos h]
    have e : -(-1 : Int) = 1 := by omega
    rw [e, Int.ediv_one]
    omega
  · rw [if_neg h]
    omega
theorem pick_rev (xs : List Value) : ((List.range xs.length).filterMap fun (k : Nat) => xs.toArray[(((xs.length : Int) - 1) + (k : Int) * (-1)).toNat]?) = xs.reverse := by
  have e : ∀ k ∈ List.range xs.length, xs.toArray[(((xs.length : Int) - 1) + (k : Int) * (-1)).toNat]? = some (xs.reverse.getD k .none) := by
    intro k hk
    have hk : k < xs.length := List.mem_range.mp hk
    have e1 : (((xs.length : Int) - 1) + (k : Int) * (-1)).toNat = xs.length - 1 - k := by omega
    rw [e1, List.getElem?_toArray, List.getD_eq_getElem?_getD, List.getElem?_reverse hk, List.getElem?_eq_getElem (by omega)]
    rfl
  have e2 : (List.range xs.length).filterMap (fun (k : Nat) => xs.toArray[(((xs.length : Int) - 1) + (k : Int) * (-1)).toNat]?) = (List.range xs.length).filterMap (fun k => some (xs.reverse.getD k .none)) :=
    (by
      have : ∀ (l : List Nat), (∀ k ∈ l, xs.toArray[(((xs.length : Int) - 1) + (k : Int) * (-1)).toNat]? = some (xs.reverse.getD k .none)) → l.filterMap (fun (k : Nat) => xs.toArray[(((xs.length : Int) - 1) + (k : Int) * (-1)).toNat]?) = l.filterMap (fun k => some (xs.reverse.getD k .none)) := by
        intro l
        induction l with
        | nil => intro _; rfl
        | cons a l ih =>
          intro h
          rw [List.filterMap_cons, List.filterMap_cons, h a (List.mem_cons_self ..), ih fun k hk => h k (List.mem_cons_of_mem _ hk)]
      exact this _ e)
  rw [e2]
  have e3 : (List.range xs.length).filterMap (fun k => some (xs.reverse.getD k .none)) = (List.range xs.length).map (fun k => xs.reverse.getD k .none) := by
    rw [← List.filterMap_eq_map]; rfl
  rw [e3]
  refine List.ext_getElem? fun i => ?_
  by_cases hi : i < xs.length
  · rw [List.getElem?_map, List.getElem?_range hi, List.getElem?_eq_getElem (by simpa using hi)]
    simp [List.getD_eq_getElem?_getD, hi]
  · rw [List.getElem?_eq_none (by simp; omega), List.getElem?_eq_none (by simp; omega)]
/-- t[::-1] -/
theorem getItem_tuple_rev {t sl : Addr} {its : List Value} {vs : Value} {Q : Value → Shared → Prop} (ht : IsTup s.heap t its.toArray) (hs : s.heap.IsSliceOf sl .none .none vs)
    (ps : IsPart vs (some (-1))) (h : Q (.ref s.heap.objs.size) { s with heap := s.heap.push { cls := .type "tuple", data := .seq its.reverse.toArray } })
    (hsz : its.length ≤ sizeLine) : wpAny (model prog w) A (getItem (.ref t) (.ref sl)) Q E s := by
  obtain ⟨os, hos, hcs, hds⟩ := id hs
  have hTs : s.TypeIs (.ref sl) "slice" := ⟨os, hos, hcs⟩
  have htake : sizeOk (.seq its.reverse.toArray) := by
    show its.reverse.toArray.size ≤ sizeLine
    rw [List.size_toArray, List.length_reverse]
    exact hsz
  unfold getItem
  try with_reducible refine wpAny_holding ?_
  first | refine wpAny_bind (wpAny_pure ?_) | skip
  refine wpAny_bind (wpAny_sequenceKey ht.typeIs (by decide) ?_)
  refine wpAny_bind (wpAny_callSpecial?_slot (name := Str.ofString "__getitem__") ht.typeIs PyProof.Rows.slot_tuple_getitem
    (wpAny_call_entry PyProof.Rows.slot_tuple_getitem ht.typeIs entry_tuple_getitem ?_ (args_tuple_getitem _ _)))
  show wpAny _ _ (Builtin.Tuple.tupleItemsOf (.ref t) >>= _) _ _ s
  refine wpAny_bind (tupleItemsOf_ ht ?_)
  refine wpAny_bind (wpAny_typeOf hTs ?_)
  rw [if_pos (by decide)]
  have sa : ∀ {QQ : Int × Int × Nat → Shared → Prop} {EE : Value → Shared → Prop} {AA : Around}, QQ (((its.length : Int) - 1), -1, its.length) s →
      wpAny (model prog w) AA (Builtin.Slice.sliceApplied (.ref sl) (pure (its.toArray.size : Int))) QQ EE s := by
    intro QQ EE AA hq
    unfold Builtin.Slice.sliceApplied Builtin.Slice.sliceFields
    refine wpAny_bind (wpAny_bind (wpAny_field hos hds (x := .none) rfl (wpAny_bind (wpAny_field hos hds (x := .none) rfl (wpAny_bind (wpAny_field hos hds (x := vs) rfl (wpAny_pure ?_)))))))
    refine wpAny_bind (HT.slicePart_ ps ?_)
    show wpAny _ _ (if ((-1 : Int) == 0) = true then _ else _) _ _ s
    rw [if_neg (by decide)]
    refine wpAny_bind (HT.slicePart_ .none (wpAny_bind (HT.slicePart_ .none (wpAny_bind (wpAny_pure ?_)))))
    show wpAny _ _ (pure (((its.toArray.size : Int) - 1), (-1 : Int), Builtin.Slice.slicePlaces ((its.toArray.size : Int) - 1) (-1) (-1))) _ _ s
    rw [places_rev]
    rw [List.size_toArray]
    exact wpAny_pure hq
  refine wpAny_bind (sa ?_)
  show wpAny _ _ (if (((its.length : Int) - 1) == 0 && (-1 : Int) == 1 && its.length == its.toArray.size) = true then _ else _) _ _ s
  rw [if_neg (by simp), pick_rev]
  first
    | exact wpAny_bind (m := Builtin.Tuple.tupleExact _) (wpAny_newObj_type (wpAny_pure ⟨_, rfl, wpAny_pure h⟩) htake)
    | exact wpAny_bind (m := Builtin.Tuple.tupleExact _) (wpAny_newObj_type (wpAny_bind (wpAny_pure (wpAny_pure ⟨_, rfl, wpAny_pure h⟩))) htake)
    | exact wpAny_bind (wpAny_bind (m := Builtin.Tuple.tupleExact _) (wpAny_newObj_type (wpAny_pure (wpAny_pure ⟨_, rfl, wpAny_pure h⟩)) htake))
    | exact wpAny_bind (wpAny_bind (m := Builtin.Tuple.tupleExact _) (wpAny_newObj_type (wpAny_pure ⟨_, rfl, wpAny_pure h⟩) htake))
end
/-! ### enumerate over a tuple -/
/-- the tuple at a, its items with their places in new pairs -/
def IteT (K : PySem.W.Frag) (a : Addr) : It :=
  ⟨fun i H => ∃ (xs : List V) (x : V), SqT K H a xs ∧ xs[i]? = some x, fun i H v H' => ∃ T x, v = .ref T ∧ H T = none ∧ H' = upd H T (.tup [.int (i : Nat), x]) ∧ ∀ xs, SqT K H a xs → xs[i]? = some x, fun i H => ∃ xs : List V, SqT K H a xs ∧ xs.length ≤ i⟩
theorem turn_enumT {P : Program} {w : World} {K : PySem.W.Frag} {elts : List Expr} {kk : Nat} {tpos : Pos} (a e it : Addr) (hai : a ≠ it) (hea : e ≠ a) :
    Turn P w K (.Tuple elts kk tpos) (IteT K a) [e, it] e (fun i h => (∃ old, IsEnum h e it ((i : Nat) : Int) old) ∧ h.IsTupleIter it a i ∧ e ≠ it) where
  mem := by simp
  obj := fun i h st b hb => by
    obtain ⟨⟨old, he⟩, ⟨o, ho, hc, hd⟩, _⟩ := st
    have e' : b = e ∨ b = it := by simpa using hb
    rcases e' with z | z
    · rw [z]; exact ⟨_, he, fun v q => nomatch q⟩
    · rw [z]; exact ⟨o, ho, fun v q => by rw [hd] at q; cases q⟩
  keep := fun i h h' st k => let ⟨⟨old, he⟩, hi, hne⟩ := st; ⟨⟨old, k e (by simp) _ he⟩, hi.at fun o q => k it (by simp) o q, hne⟩
  item := by
    intro X hP hw hK hc i pins s σ H E I hf st hg
    subst hP hw hK
    obtain ⟨⟨old, he⟩, hit, hne⟩ := st
    obtain ⟨xs, x, hq, hx⟩ := hg
    obtain ⟨its, rv, p, hz⟩ := I.tuple hq
    obtain ⟨u, hu, ru⟩ := rv.get hx
    have hel : e < s.heap.objs.size := Heap.lt_size he
    have hil : it < s.heap.objs.size := by obtain ⟨_, q, _⟩ := hit; exact Heap.lt_size q
    have hlen : i < its.toArray.size := by
      have := (List.getElem?_eq_some_iff.mp hu).1
      simpa using this
    refine PySem.wpAny_pyNext_enum_itemD (PySem.Draws.tuple (A := X.A.in1) (I.ok.hd hc) it a hai its.toArray) he ⟨hit, p⟩ hlen hne (by simp [hne, hea]) fun y h' tk hy ho hit' hT hsz hk => ?_
    have ey : y = u := by
      have hy' : its.toArray[i]? = some y := hy
      rw [List.getElem?_toArray, hu] at hy'
      exact (Option.some.inj hy').symm
    subst ey
    refine ⟨_, rfl, wpAny_letOwnedTupleGo_enum (s := { s with heap := h', toks := tk + 1 }) ho fun h'' he' sb => ?_⟩
    have hT2 : h''.get? s.heap.objs.size = some { cls := .type "tuple", data := .seq #[.int i tk, y] } := (sb.2 _ (Nat.ne_of_gt hel)).trans hT
    have new : ObjOk X.prog X.w (upd H s.heap.objs.size (.tup [.int (i : Nat), x])) h'' s.heap.objs.size (.tup [.int (i : Nat), x]) :=
      ⟨by show 2 ≤ sizeLine; decide, [.int i tk, y], .cons ⟨_, rfl⟩ (.cons ru .nil), ⟨_, hT2, rfl, _, rfl⟩⟩
    have I1 : Inv X pins σ (upd H s.heap.objs.size (.tup [.int (i : Nat), x])) { s with heap := h'', toks := tk + 1 } :=
      I.turnedNew (ch := [e, it]) (fun b ob hb q => (sb.2 b (fun z => hb (by simp [z]))).trans (hk b ob (fun z => hb (by simp [z])) (fun z => hb (by simp [z])) q)) hf (Nat.le_refl _) new
    refine ⟨.ref s.heap.objs.size, _, I1, rfl, ⟨_, x, rfl, I.hok.fresh (Nat.le_refl _), rfl, fun ys hy => by rw [I.tuple_inj hy hq]; exact hx⟩, ⟨⟨y, ?_⟩, hit'.1.at fun o q => (sb.2 it (Ne.symm hne)).trans q, hne⟩, fun b hb => ?_⟩
    · have e1 : ((i + 1 : Nat) : Int) = (i : Int) + 1 := by omega
      rw [e1]; exact he'
    · have hb' : b < s.heap.objs.size := by
        have e' : b = e ∨ b = it := by simpa using hb
        rcases e' with z | z
        · rw [z]; exact hel
        · rw [z]; exact hil
      rw [upd_ne (Nat.ne_of_lt hb')]
      exact (hf b hb).1
  done := by
    intro X hP hw hK hc i pins s σ H E I hf st hg
    subst hP hw hK
    obtain ⟨⟨old, he⟩, hit, hne⟩ := st
    obtain ⟨xs, hq, hx⟩ := hg
    obtain ⟨its, rv, p, hz⟩ := I.tuple hq
    obtain ⟨f0, f1, f2, f3, f4, f5⟩ := hf it (by simp)
    have hl := rv.length
    have D : PySem.Draws X.prog X.w X.A.in1 it [it, a] 0 (fun _ _ => False) (fun j h => j = 0 ∧ h.IsTupleIter it a i ∧ h.IsTuple a its.toArray) :=
      { live := fun _ _ st => let ⟨o, ho, _⟩ := st.2.1; ⟨o, ho⟩
        frame := fun _ _ _ st hk => ⟨st.1, st.2.1.at fun o e => hk it (by simp) o e, st.2.2.at fun o e => hk a (by simp) o e⟩
        item := fun j s Q E hj => absurd hj (Nat.not_lt_zero _)
        done := fun s Q E st hE => wpAny_nextOf_tuple_end (I.ok.hd hc) st.2.1 st.2.2 (by simp; omega) hE }
    exact PySem.wpAny_pyNext_enum_endD D he ⟨rfl, hit, p⟩ fun h' eb => ⟨rfl, I.turned (t' := s.toks) (fun b o hb q => eb b o hb q) f0 f1 f3 f4 f5⟩
  self := fun A i s Q E st h => let ⟨⟨_, he⟩, _⟩ := st; wpAny_pyIter_enum he h

def iEnumT (K : PySem.W.Frag) (ta : TA) : TI := fun σ H R => ta σ H fun vs H1 => ∃ a xs, vs = [.ref a] ∧ SqT K H1 a xs ∧ R (IteT K a) H1
theorem pi_enumT {X : Cx} {e : Expr} {ta : TA} {p pos tpos : Pos} {elts : List Expr} {kk : Nat} (hg : Gl X "enumerate") (hm : X.mg "enumerate" = none) (ha : PA X [e] ta) (hs : starEach [e] X.env = [(false, eval e X.env)] := by rfl) :
    PI X (.Tuple elts kk tpos) (.Call (.Name "enumerate" p) [e] [] pos) (iEnumT X.K ta) := by
  refine ⟨fun pins s σ H R I h => ?_⟩
  refine Call_ (ld_blt I hg hm boot_enumerate (PyProof.Rows.callWith_type1 (thn (ha.run pos pins s σ H _ I h) fun us s1 ⟨vs, H1, I1, r1, q1⟩ => ?_) hs rfl))
  obtain ⟨a, xs, ex, hq, q⟩ := q1
  subst ex
  cases r1 with
  | cons r rr =>
    cases rr
    cases r
    obtain ⟨its, rv, p', hz⟩ := I1.tuple hq
    have hal : a < s1.heap.objs.size := by obtain ⟨o, ho, _⟩ := id p'; exact Heap.lt_size ho
    refine enum_begins1 (PySem.begins_tuple a its.toArray) p' fun h' he hit hsz hk => wpAny_pyIter_enum he ?_
    have I2 : Inv X pins σ H1 { s1 with heap := h' } := I1.kept (t' := s1.toks) hk
    refine ⟨s1.heap.objs.size + 1, [s1.heap.objs.size + 1, s1.heap.objs.size], _, _, H1, rfl, I2, turn_enumT a (s1.heap.objs.size + 1) s1.heap.objs.size (Nat.ne_of_lt hal) (Nat.ne_of_gt (Nat.lt_succ_of_lt hal)), ⟨⟨.none, he⟩, ⟨_, hit, rfl, rfl⟩, Nat.succ_ne_self _⟩, fun b hb => ?_, q⟩
    have e' : b = s1.heap.objs.size + 1 ∨ b = s1.heap.objs.size := by simpa using hb
    have hle : s1.heap.objs.size ≤ b := by
      rcases e' with z | z
      · rw [z]; exact Nat.le_add_right _ _
      · rw [z]; exact Nat.le_refl _
    exact I1.fpOk hle (I1.hok.fresh hle)
section
variable {X : Cx} {es : List Expr} {t : TA} {pos : Pos}
/-! ### displays, sums, reversed tuples, their objects known -/
def tTupF (t : TA) : TE := fun σ H Q => t σ H fun xs H1 => xs.length ≤ sizeLine ∧ ∀ p o, H1 p = none → o.dict = none → Q (.ref p) (upd H1 p (.frz o (.tup xs)))
theorem pe_tupF {x1} (h : PA X es t) : PE X (.Tuple es x1 pos) (tTupF t) := by
  refine ⟨fun pins s σ H Q I hq => ?_⟩
  refine wpAny_Tuple_spliced (thn (h.run pos pins s σ H _ I hq) fun us s1 ⟨xs, H1, I1, r, z, q⟩ => ⟨by rw [← r.length]; exact z, ?_⟩)
  have hf : H1 s1.heap.objs.size = none := I1.hok.fresh (Nat.le_refl _)
  refine ⟨.ref s1.heap.objs.size, upd H1 s1.heap.objs.size (.frz { cls := .type "tuple", data := .seq us.toArray } (.tup xs)), I1.laid (t' := s1.toks) (fun b u e => Heap.get?_push_of_some _ e) (Nat.le_refl _) ?_, rfl, q _ _ hf rfl⟩
  exact ⟨Heap.get?_push_size _ rfl, z, us, r, ⟨_, Heap.get?_push_size _ rfl, rfl, _, rfl⟩⟩
/-- t + u: t itself where u is empty, u itself where t is empty -/
def rCatF (K : PySem.W.Frag) : R2 := fun x y H Q => ∃ a b xs ys, x = .ref a ∧ y = .ref b ∧ SqT K H a xs ∧ SqT K H b ys ∧ xs.length + ys.length ≤ sizeLine ∧
  (xs = [] → Q (.ref b) H) ∧ (xs ≠ [] → ys = [] → Q (.ref a) H) ∧ (xs ≠ [] → ys ≠ [] → ∀ p o, H p = none → o.dict = none → Q (.ref p) (upd H p (.frz o (.tup (xs ++ ys)))))
theorem op_catF : OpR X (binaryOp .Add) (rCatF X.K) := by
  intro pins s σ H x y v u Q I rx ry h
  obtain ⟨a, b, xs, ys, rfl, rfl, ha, hb, hz, q0, q1, q2⟩ := h
  cases rx
  cases ry
  obtain ⟨its, r1, p1, _⟩ := I.tuple ha
  obtain ⟨its2, r2, p2, _⟩ := I.tuple hb
  by_cases hx : xs = []
  · subst hx
    cases r1
    exact cat_tup0 p1 p2 ⟨.ref b, H, I, rfl, q0 rfl⟩
  · refine HT.cat_tup p1 p2 (fun z => hx (r1.nil_iff.mp z)) (fun z => ⟨.ref a, H, I, rfl, q1 hx (r2.nil_iff.mp z)⟩) (fun z => ?_) (by rw [← r1.length, ← r2.length]; exact hz)
    refine ⟨.ref s.heap.objs.size, _, I.laid (t' := s.toks) (o := .frz { cls := .type "tuple", data := .seq (its ++ its2).toArray } (.tup (xs ++ ys))) (fun b ob q => Heap.get?_push_of_some _ q) (Nat.le_refl _) ?_, rfl, q2 hx (fun w => z (r2.nil_iff.mpr w)) _ _ (I.hok.fresh (Nat.le_refl _)) rfl⟩
    exact ⟨Heap.get?_push_size _ rfl, by rw [List.length_append]; exact hz, _, r1.append r2, IsTup.new _ _⟩
def tRevT (K : PySem.W.Frag) (te : TE) : TE := fun σ H Q => te σ H fun x H1 => ∃ a xs, x = .ref a ∧ SqT K H1 a xs ∧ ∀ p o, H1 p = none → o.dict = none → Q (.ref p) (upd H1 p (.frz o (.tup xs.reverse)))
theorem pe_revT {e : Expr} {te : TE} {k : Nat} {p1 p2 p3 pos : Pos} (he : PE X e te) : PE X (.Subscript e (.Slice none none (some (.UnaryOp .USub (.Constant (.int 1) k p1) p2)) p3) pos) (tRevT X.K te) := by
  refine ⟨fun pins s σ H Q I h => ?_⟩
  refine Subscript_ (thn (he.run pins s σ H _ I h) fun v s1 ⟨x, H1, I1, r1, q1⟩ => ?_)
  obtain ⟨a, xs, ex, hx, q⟩ := q1
  subst ex
  cases r1
  have hst : PO X (some (.UnaryOp .USub (.Constant (.int 1) k p1) p2)) (tPart (tUn (rU fun i => .int (-i)) (tC (.int 1)))) := po_some (pe_un un_neg pe_int)
  refine wpAny_Slice (thn (po_none.run pins s1 σ H1 (fun o H2 => o = none ∧ H2 = H1) I1 ⟨rfl, rfl⟩) fun vl s2 ⟨l, H2, I2, pl, el, e2⟩ => ?_)
  subst el e2
  refine thn (po_none.run pins s2 σ H2 (fun o H3 => o = none ∧ H3 = H2) I2 ⟨rfl, rfl⟩) fun vu s3 ⟨u, H3, I3, pu, eu, e3⟩ => ?_
  subst eu e3
  refine thn (hst.run pins s3 σ H3 (fun o H4 => o = some (-1) ∧ H4 = H3) I3 ⟨1, rfl, -1, rfl, rfl, rfl⟩) fun vs s4 ⟨o, H4, I4, ps, eo, e4⟩ => ?_
  subst eo e4
  cases pl
  cases pu
  have I5 : Inv X pins σ H4 { s4 with heap := s4.heap.push { cls := .type "slice", data := .fields #[.none, .none, vs] } } := I4.kept (t' := s4.toks) fun b ob q => Heap.get?_push_of_some _ q
  obtain ⟨its, r, ht, hz⟩ := I5.tuple hx
  have hlen := r.length
  show wpAny (model X.prog X.w) X.A (subscriptTail e (.Slice none none (some (.UnaryOp .USub (.Constant (.int 1) k p1) p2)) p3) (.ref a) (.ref s4.heap.objs.size)) (EP X pins σ Q) X.xe { s4 with heap := s4.heap.push { cls := .type "slice", data := .fields #[.none, .none, vs] } }
  refine tail_any (ops := [.ref a, .ref s4.heap.objs.size]) ht.typeIs (PyProof.Rows.slot_tuple_getitem.lookup) ?_ (by with_unfolding_all rfl)
  refine getItem_tuple_rev ht (Heap.IsSliceOf.new _ .none .none vs) ps ?_ (by omega)
  refine ⟨.ref _, _, I5.laid (t' := s4.toks) (o := .frz { cls := .type "tuple", data := .seq its.reverse.toArray } (.tup xs.reverse)) (fun b ob q => Heap.get?_push_of_some _ q) (Nat.le_refl _) ?_, rfl, q _ _ (I5.hok.fresh (Nat.le_refl _)) rfl⟩
  exact ⟨Heap.get?_push_size _ rfl, by rw [List.length_reverse]; exact hz, _, r.reverse, ⟨_, Heap.get?_push_size _ rfl, rfl, _, rfl⟩⟩
/-! ### xs == [], xs != [] -/
def rEq0 (K : PySem.W.Frag) : R2 := fun x y H Q => ∃ a b xs, x = .ref a ∧ y = .ref b ∧ SqL K H a xs ∧ SqL K H b [] ∧ Q (.bl xs.isEmpty) H
theorem op_eq0 (hu : X.A.units + 64 < cLine) : OpR X (compareOp .Eq) (rEq0 X.K) := by
  intro pins s σ H x y v u Q I rx ry h
  obtain ⟨a, b, xs, rfl, rfl, ha, hb, q⟩ := h
  cases rx
  cases ry
  obtain ⟨its, r1, p1, _⟩ := I.list ha
  obtain ⟨its2, r2, p2, _⟩ := I.list hb
  cases r2
  cases xs with
  | nil =>
    cases r1
    exact PySem.W.eq_listsT (n := 0) (e := fun _ => true) p1.isList p2.isList rfl (fun j h1 h2 => absurd h1 (by simp)) (by omega) ⟨.bl true, H, I, rfl, q⟩
  | cons x xs =>
    cases r1 with
    | cons rx rs =>
    refine SeqAt.RcAt.lists_lengths p1.isList p2.isList (by simp) (by omega) X.prog X.w _ _ ⟨.bl false, H, I, rfl, q⟩
end
end L2
/-! HxX: classes of exceptions over one own class over ValueError, each with an own __init__ that stores its fields -/
namespace L2
open PySem PySem.Spec PyProof.Rows

/-- the class at C stands right below the one at PE, which is right below ValueError; its __init__ at fI, its fields fl -/
structure ExT (K : PySem.W.Frag) (PE C fI : Addr) (fl : List Str) : Prop where
  lk : ∃ nm q N bs sn sub ab col dd k0 k1 k2 k3 k5, K.lookup C = some (excClassObj nm q C N bs (.ref PE :: PySem.HandSPX.veTail) true sn sub ab col dd k0 k1 k2 k3 k5 "ValueError.__new__")
  kC : PySem.W.keepIn K (.ref C) = true
  sa : PySem.W.findIn K (.ref C) "__setattr__" = some (some (.builtin "object.__setattr__"))
  ga : PySem.W.findIn K (.ref C) "__getattribute__" = some (some (.builtin "BaseException.__getattribute__"))
  gg : PySem.W.findIn K (.ref C) "__getattr__" = some none
  ac : PySem.W.findIn K (.ref C) "__class__" = some (some (.builtin "object.__class__"))
  iC : PySem.W.findIn K (.ref C) "__init__" = some (some (.ref fI))
  tI : PySem.W.typeIn K (.ref fI) = some (.type "function")
  no : ∀ f ∈ fl, PySem.W.findIn K (.ref C) f = some none
  cg : PySem.W.specialIn K (.builtin "object.__class__") "__get__" = some (some (.builtin "getset_descriptor.__get__"))
  ct : PySem.W.takesIn K (.builtin "object.__class__") = some true
def exLkB (K : PySem.W.Frag) (PE C : Addr) : Bool := match K.lookup C with
  | some ⟨.type t, _, .cls cd, sl⟩ => (match sl.toList with
    | [_, _, _, _, some (.builtin n), _] => decide (t = "type") && (decide (cd.mro = .ref C :: .ref PE :: PySem.HandSPX.veTail) && (decide (n = "ValueError.__new__") && (!cd.hasDel && cd.hasDict)))
    | _ => false)
  | _ => false
def exTB (K : PySem.W.Frag) (PE C fI : Addr) (fl : List Str) : Bool :=
  exLkB K PE C && (PySem.W.keepIn K (.ref C) && (He.eqO (PySem.W.findIn K (.ref C) "__setattr__") (some (some (.builtin "object.__setattr__"))) &&
    (He.eqO (PySem.W.findIn K (.ref C) "__getattribute__") (some (some (.builtin "BaseException.__getattribute__"))) && (He.eqO (PySem.W.findIn K (.ref C) "__getattr__") (some none) &&
    (He.eqO (PySem.W.findIn K (.ref C) "__class__") (some (some (.builtin "object.__class__"))) && (He.eqO (PySem.W.findIn K (.ref C) "__init__") (some (some (.ref fI))) &&
    (decide (PySem.W.typeIn K (.ref fI) = some (.type "function")) && fl.all fun f => He.eqO (PySem.W.findIn K (.ref C) f) (some none))))))))
theorem exLkB_ok {K : PySem.W.Frag} {PE C : Addr} (h : exLkB K PE C = true) : ∃ nm q N bs sn sub ab col dd k0 k1 k2 k3 k5, K.lookup C = some (excClassObj nm q C N bs (.ref PE :: PySem.HandSPX.veTail) true sn sub ab col dd k0 k1 k2 k3 k5 "ValueError.__new__") := by
  unfold exLkB at h
  split at h
  · rename_i t dd cd sl ho
    split at h
    · rename_i k0 k1 k2 k3 n k5 hs
      simp only [Bool.and_eq_true, decide_eq_true_eq, Bool.not_eq_true'] at h
      obtain ⟨rfl, hm, rfl, hdel, hdc⟩ := h
      obtain ⟨nm, bs, mro, ns, qn, hd, sn, sub, ab, col, del⟩ := cd
      dsimp only at hm hdel hdc
      subst hm hdel hdc
      have hsl : sl = #[k0, k1, k2, k3, some (.builtin "ValueError.__new__"), k5] := by
        obtain ⟨l⟩ := sl
        simp only at hs
        rw [hs]
      subst hsl
      exact ⟨nm, qn, ns, bs, sn, sub, ab, col, dd, k0, k1, k2, k3, k5, ho⟩
    · cases h
  · cases h
theorem exTB_ok {K : PySem.W.Frag} {PE C fI : Addr} {fl : List Str} (cg : PySem.W.specialIn K (.builtin "object.__class__") "__get__" = some (some (.builtin "getset_descriptor.__get__"))) (ct : PySem.W.takesIn K (.builtin "object.__class__") = some true)
    (h : exTB K PE C fI fl = true) : ExT K PE C fI fl := by
  obtain ⟨h1, h⟩ := He.ba h
  obtain ⟨h2, h⟩ := He.ba h
  obtain ⟨h3, h⟩ := He.ba h
  obtain ⟨h4, h⟩ := He.ba h
  obtain ⟨h5, h⟩ := He.ba h
  obtain ⟨h6, h⟩ := He.ba h
  obtain ⟨h7, h⟩ := He.ba h
  obtain ⟨h8, h9⟩ := He.ba h
  exact ⟨exLkB_ok h1, h2, He.eqO_ok h3, He.eqO_ok h4, He.eqO_ok h5, He.eqO_ok h6, He.eqO_ok h7, of_decide_eq_true h8, fun f hf => He.eqO_ok (List.all_eq_true.mp h9 f hf), cg, ct⟩
section
variable {K : PySem.W.Frag} {PE C D fI fJ : Addr} {fl gl : List Str}
theorem ExT.mroI (T : ExT K PE C fI fl) (b : Value) : PySem.W.mroIn K C b = some ((Value.ref C :: .ref PE :: PySem.HandSPX.veTail).contains b) := by
  obtain ⟨nm, q, N, bs, sn, sub, ab, col, dd, k0, k1, k2, k3, k5, e⟩ := T.lk
  unfold PySem.W.mroIn PySem.W.clsIn
  rw [e]
  rfl
theorem ExT.tyC (T : ExT K PE C fI fl) : PySem.W.typeIn K (.ref C) = some (.type "type") := by
  obtain ⟨nm, q, N, bs, sn, sub, ab, col, dd, k0, k1, k2, k3, k5, e⟩ := T.lk
  show (K.lookup C).map (·.cls) = _
  rw [e]
  rfl
theorem ExT.clI (T : ExT K PE C fI fl) : (PySem.W.clsIn K C).isSome = true := by
  obtain ⟨nm, q, N, bs, sn, sub, ab, col, dd, k0, k1, k2, k3, k5, e⟩ := T.lk
  unfold PySem.W.clsIn
  rw [e]
  rfl
theorem ExT.hdI (T : ExT K PE C fI fl) : PySem.W.hasDictIn K C = true := by
  obtain ⟨nm, q, N, bs, sn, sub, ab, col, dd, k0, k1, k2, k3, k5, e⟩ := T.lk
  unfold PySem.W.hasDictIn PySem.W.clsIn
  rw [e]
  rfl
theorem ExT.exC (T : ExT K PE C fI fl) : PySem.W.subIn K (.ref C) (.type "BaseException") = some true := by
  show PySem.W.mroIn K C _ = _
  rw [T.mroI, List.contains_cons, List.contains_cons]
  rw [show PySem.HandSPX.veTail.contains (Value.type "BaseException") = true by decide +kernel, Bool.or_true, Bool.or_true]
theorem ExT.obC (T : ExT K PE C fI fl) : PySem.W.mroIn K C (.type "object") = some true := by
  rw [T.mroI, List.contains_cons, List.contains_cons]
  rw [show PySem.HandSPX.veTail.contains (Value.type "object") = true by decide +kernel, Bool.or_true, Bool.or_true]
theorem ExT.oex (T : ExT K PE C fI fl) : OexC K C := by
  obtain ⟨nm, q, N, bs, sn, sub, ab, col, dd, k0, k1, k2, k3, k5, e⟩ := T.lk
  exact ⟨⟨nm, q, N, bs, _, sn, sub, ab, col, dd, k0, k1, k2, k3, k5, e, rfl⟩, T.sa, T.exC, T.tyC, T.kC⟩
/-- isinstance of an own class -/
theorem ExT.kit (T : ExT K PE C fI fl) (S : ExT K PE D fJ gl) (hD : D ≠ PE) : PySem.W.kitOne K (.ref C) (.ref D) = some (decide (C = D)) := by
  unfold PySem.W.kitOne
  by_cases e : C = D
  · subst e
    rw [if_pos (beq_self_eq_true _), decide_eq_true rfl]
  · have ne : (Value.ref C == Value.ref D) = false := beq_eq_false_iff_ne.mpr fun z => e (Value.ref.inj z)
    rw [if_neg (by rw [ne]; exact Bool.false_ne_true), decide_eq_false e]
    show (if ((PySem.W.clsIn K D).isSome && PySem.W.typeIn K (.ref D) == some (.type "type")) = true then PySem.W.subIn K (.ref C) (.ref D) else none) = _
    rw [S.clI, S.tyC, if_pos (by rfl)]
    show PySem.W.mroIn K C _ = _
    have n1 : (Value.ref D == Value.ref C) = false := beq_eq_false_iff_ne.mpr fun z => e (Value.ref.inj z).symm
    have n2 : (Value.ref D == Value.ref PE) = false := beq_eq_false_iff_ne.mpr fun z => hD (Value.ref.inj z)
    rw [T.mroI, List.contains_cons, List.contains_cons, n1, n2]
    rfl
theorem ExT.kitP (T : ExT K PE C fI fl) (c1 : (PySem.W.clsIn K PE).isSome = true) (t1 : PySem.W.typeIn K (.ref PE) = some (.type "type")) : PySem.W.kitOne K (.ref C) (.ref PE) = some true := by
  unfold PySem.W.kitOne
  by_cases e : C = PE
  · subst e
    rw [if_pos (beq_self_eq_true _)]
  · have ne : (Value.ref C == Value.ref PE) = false := beq_eq_false_iff_ne.mpr fun z => e (Value.ref.inj z)
    rw [if_neg (by rw [ne]; exact Bool.false_ne_true)]
    show (if ((PySem.W.clsIn K PE).isSome && PySem.W.typeIn K (.ref PE) == some (.type "type")) = true then PySem.W.subIn K (.ref C) (.ref PE) else none) = _
    rw [c1, t1, if_pos (by rfl)]
    show PySem.W.mroIn K C _ = _
    rw [T.mroI, List.contains_cons, List.contains_cons, beq_self_eq_true, Bool.true_or, Bool.or_true]
theorem ExT.kitV (T : ExT K PE C fI fl) : PySem.W.kitOne K (.ref C) (.type "ValueError") = some true := by
  unfold PySem.W.kitOne
  rw [if_neg (by intro z; cases z)]
  show (if PySem.W.kitMeta "ValueError" = true then PySem.W.subIn K (.ref C) (.type "ValueError") else none) = _
  rw [if_pos (by decide +kernel)]
  show PySem.W.mroIn K C _ = _
  rw [T.mroI, List.contains_cons, List.contains_cons]
  rw [show PySem.HandSPX.veTail.contains (Value.type "ValueError") = true by decide +kernel, Bool.or_true, Bool.or_true]
/-- an except clause that names an own class -/
theorem ExT.exm (T : ExT K PE C fI fl) (S : ExT K PE D fJ gl) (hD : D ≠ PE) : PySem.W.exmOne K (.ref C) (.ref D) = some (decide (C = D)) := by
  refine PySem.W.exm_ref S.exC S.hdI S.tyC ?_
  show PySem.W.mroIn K C _ = _
  have n2 : (Value.ref D == Value.ref PE) = false := beq_eq_false_iff_ne.mpr fun z => hD (Value.ref.inj z)
  rw [T.mroI, List.contains_cons, List.contains_cons, n2]
  by_cases e : C = D
  · subst e
    rw [beq_self_eq_true, decide_eq_true rfl, Bool.true_or]
  · have n1 : (Value.ref D == Value.ref C) = false := beq_eq_false_iff_ne.mpr fun z => e (Value.ref.inj z).symm
    rw [n1, decide_eq_false e]
    rfl
theorem ExT.exmP (T : ExT K PE C fI fl) (h1 : PySem.W.subIn K (.ref PE) (.type "BaseException") = some true) (h2 : PySem.W.hasDictIn K PE = true) (h3 : PySem.W.typeIn K (.ref PE) = some (.type "type")) : PySem.W.exmOne K (.ref C) (.ref PE) = some true := by
  refine PySem.W.exm_ref h1 h2 h3 ?_
  show PySem.W.mroIn K C _ = _
  rw [T.mroI, List.contains_cons, List.contains_cons, beq_self_eq_true, Bool.true_or, Bool.or_true]
end
end L2

namespace K00
open PySem PySem.Spec PyProof.Rows L2 C8
def top (i : Nat) : Stmt := PySem.Challenge.pw_fairpatch_k00_errors.main.body.getD i (.Pass ⟨0, 0, 0, 0⟩)
abbrev dG (i : Nat) (x : Str) : He.DefD := ⟨(x, none), x, x, defArgs (top i), defBody (top i), defScope (top i), [], []⟩
abbrev dM (i j : Nat) (C x q : Str) : He.DefD := ⟨(C, some x), x, q, defArgs (inClass (top i) j), defBody (inClass (top i) j), defScope (inClass (top i) j), [], []⟩
def barred : List Str := ["and", "by", "call", "choose", "draw", "else", "if", "name", "not", "or", "set", "unit", "while", "yes"]
abbrev e1 (x : Str) (l : List Str) : Str × List Str := (x, l)
/-- the classes of errors in the order in which the law asks for them, each with its fields -/
def exs : List (Str × List Str) := [e1 "InvalidNumber" ["given"], e1 "InvalidLots" ["given"], e1 "InvalidLot" ["given"], e1 "InvalidPayoff" ["given"], e1 "InvalidNames" ["given"], e1 "InvalidStore" ["given"], e1 "InvalidValues" ["given"], e1 "InvalidText" ["given"], e1 "InvalidSystem" ["given"], e1 "InvalidUnit" ["given"], e1 "InvalidBody" ["given"], e1 "InvalidSteps" ["given"], e1 "InvalidSummaries" ["given"], e1 "InvalidRow" ["given"], e1 "InvalidPick" ["given"], e1 "InvalidBlend" ["given"], e1 "InvalidCode" ["given"], e1 "InvalidLines" ["given"], e1 "InvalidAnswer" ["given"], e1 "InvalidPart" ["given"], e1 "InvalidEdition" ["given"], e1 "InvalidGame" ["given"], e1 "InvalidPlan" ["given"], e1 "InvalidRecord" ["given"], e1 "InvalidName" ["given"], e1 "Outside" ["payoff"], e1 "TooMany" ["count"], e1 "NoThing" ["name"], e1 "NoSystem" ["line", "column"], e1 "NotBrought" ["payoff", "table"], e1 "TooGreat" ["unit", "store"], e1 "NotFair" ["reason", "unit", "word"], e1 "TooRich" ["unit", "store", "count"], e1 "NotLet" ["store", "pick", "payoff", "table"], e1 "ByZero" [], e1 "NotAsked" [], e1 "NothingToUndo" []]
structure Txt (K : PySem.W.Frag) (mg : Str → Option Value) : Prop where
  f_isinstance : mg "isinstance" = none
  f_int : mg "int" = none
  f_bool : mg "bool" = none
  f_len : mg "len" = none
  f_str : mg "str" = none
  f_all : mg "all" = none
  f_list : mg "list" = none
  f_tuple : mg "tuple" = none
  f_dict : mg "dict" = none
  f_range : mg "range" = none
  f_abs : mg "abs" = none
  f_sum : mg "sum" = none
  f_min : mg "min" = none
  f_max : mg "max" = none
  f_repr : mg "repr" = none
  f_set : mg "set" = none
  f_ValueError : mg "ValueError" = none
  c_LONGEST_WORD : ∃ u, mg "LONGEST_WORD" = some u ∧ RelV (.int 8) u
  c_MOST_NAMES : ∃ u, mg "MOST_NAMES" = some u ∧ RelV (.int 3) u
  c_LEAST_SIZE : ∃ u, mg "LEAST_SIZE" = some u ∧ RelV (.int 2) u
  c_GREATEST_SIZE : ∃ u, mg "GREATEST_SIZE" = some u ∧ RelV (.int 6) u
  c_MOST_STORES : ∃ u, mg "MOST_STORES" = some u ∧ RelV (.int 8) u
  c_LETTERS : ∃ u, mg "LETTERS" = some u ∧ RelV (.str "abcdefghijklmnopqrstuvwxyz") u
  c_LANGUAGE_WORDS : ∃ u, mg "LANGUAGE_WORDS" = some u ∧ RelV (.ref (He.ga K "LANGUAGE_WORDS")) u
  c_Space : ∃ u, mg "Space" = some u ∧ RelV (.ref (He.ga K "Space")) u
  c_Ratio : ∃ u, mg "Ratio" = some u ∧ RelV (.ref (He.ga K "Ratio")) u
  c_PatchError : ∃ u, mg "PatchError" = some u ∧ RelV (.ref (He.ga K "PatchError")) u
  c_InvalidNumber : ∃ u, mg "InvalidNumber" = some u ∧ RelV (.ref (He.ga K "InvalidNumber")) u
  c_InvalidLots : ∃ u, mg "InvalidLots" = some u ∧ RelV (.ref (He.ga K "InvalidLots")) u
  c_InvalidLot : ∃ u, mg "InvalidLot" = some u ∧ RelV (.ref (He.ga K "InvalidLot")) u
  c_InvalidPayoff : ∃ u, mg "InvalidPayoff" = some u ∧ RelV (.ref (He.ga K "InvalidPayoff")) u
  c_InvalidNames : ∃ u, mg "InvalidNames" = some u ∧ RelV (.ref (He.ga K "InvalidNames")) u
  c_InvalidStore : ∃ u, mg "InvalidStore" = some u ∧ RelV (.ref (He.ga K "InvalidStore")) u
  c_InvalidValues : ∃ u, mg "InvalidValues" = some u ∧ RelV (.ref (He.ga K "InvalidValues")) u
  c_InvalidText : ∃ u, mg "InvalidText" = some u ∧ RelV (.ref (He.ga K "InvalidText")) u
  c_InvalidSystem : ∃ u, mg "InvalidSystem" = some u ∧ RelV (.ref (He.ga K "InvalidSystem")) u
  c_InvalidUnit : ∃ u, mg "InvalidUnit" = some u ∧ RelV (.ref (He.ga K "InvalidUnit")) u
  c_InvalidBody : ∃ u, mg "InvalidBody" = some u ∧ RelV (.ref (He.ga K "InvalidBody")) u
  c_InvalidSteps : ∃ u, mg "InvalidSteps" = some u ∧ RelV (.ref (He.ga K "InvalidSteps")) u
  c_InvalidSummaries : ∃ u, mg "InvalidSummaries" = some u ∧ RelV (.ref (He.ga K "InvalidSummaries")) u
  c_InvalidRow : ∃ u, mg "InvalidRow" = some u ∧ RelV (.ref (He.ga K "InvalidRow")) u
  c_InvalidPick : ∃ u, mg "InvalidPick" = some u ∧ RelV (.ref (He.ga K "InvalidPick")) u
  c_InvalidBlend : ∃ u, mg "InvalidBlend" = some u ∧ RelV (.ref (He.ga K "InvalidBlend")) u
  c_InvalidCode : ∃ u, mg "InvalidCode" = some u ∧ RelV (.ref (He.ga K "InvalidCode")) u
  c_InvalidLines : ∃ u, mg "InvalidLines" = some u ∧ RelV (.ref (He.ga K "InvalidLines")) u
  c_InvalidAnswer : ∃ u, mg "InvalidAnswer" = some u ∧ RelV (.ref (He.ga K "InvalidAnswer")) u
  c_InvalidPart : ∃ u, mg "InvalidPart" = some u ∧ RelV (.ref (He.ga K "InvalidPart")) u
  c_InvalidEdition : ∃ u, mg "InvalidEdition" = some u ∧ RelV (.ref (He.ga K "InvalidEdition")) u
  c_InvalidGame : ∃ u, mg "InvalidGame" = some u ∧ RelV (.ref (He.ga K "InvalidGame")) u
  c_InvalidPlan : ∃ u, mg "InvalidPlan" = some u ∧ RelV (.ref (He.ga K "InvalidPlan")) u
  c_InvalidRecord : ∃ u, mg "InvalidRecord" = some u ∧ RelV (.ref (He.ga K "InvalidRecord")) u
  c_InvalidName : ∃ u, mg "InvalidName" = some u ∧ RelV (.ref (He.ga K "InvalidName")) u
  c_ByZero : ∃ u, mg "ByZero" = some u ∧ RelV (.ref (He.ga K "ByZero")) u
  c_NoSystem : ∃ u, mg "NoSystem" = some u ∧ RelV (.ref (He.ga K "NoSystem")) u
  c_NotFair : ∃ u, mg "NotFair" = some u ∧ RelV (.ref (He.ga K "NotFair")) u
  c_Outside : ∃ u, mg "Outside" = some u ∧ RelV (.ref (He.ga K "Outside")) u
  c_NotBrought : ∃ u, mg "NotBrought" = some u ∧ RelV (.ref (He.ga K "NotBrought")) u
  c_TooMany : ∃ u, mg "TooMany" = some u ∧ RelV (.ref (He.ga K "TooMany")) u
  c_TooRich : ∃ u, mg "TooRich" = some u ∧ RelV (.ref (He.ga K "TooRich")) u
  c_TooGreat : ∃ u, mg "TooGreat" = some u ∧ RelV (.ref (He.ga K "TooGreat")) u
  c_NotLet : ∃ u, mg "NotLet" = some u ∧ RelV (.ref (He.ga K "NotLet")) u
  c_NotAsked : ∃ u, mg "NotAsked" = some u ∧ RelV (.ref (He.ga K "NotAsked")) u
  c_NoThing : ∃ u, mg "NoThing" = some u ∧ RelV (.ref (He.ga K "NoThing")) u
  c_NothingToUndo : ∃ u, mg "NothingToUndo" = some u ∧ RelV (.ref (He.ga K "NothingToUndo")) u
  t_LW : ∀ H, SqT K H (He.ga K "LANGUAGE_WORDS") (barred.map V.str)
  d_is_whole : ∃ fd, FunD K "is_whole" "is_whole" (defArgs (top 42)) (defBody (top 42)) (defScope (top 42)) [] [] (He.ga K "is_whole") fd
  g_is_whole : mg "is_whole" = some (.ref (He.ga K "is_whole"))
  d_is_whole_from : ∃ fd, FunD K "is_whole_from" "is_whole_from" (defArgs (top 43)) (defBody (top 43)) (defScope (top 43)) [] [] (He.ga K "is_whole_from") fd
  g_is_whole_from : mg "is_whole_from" = some (.ref (He.ga K "is_whole_from"))
  d_is_word : ∃ fd, FunD K "is_word" "is_word" (defArgs (top 54)) (defBody (top 54)) (defScope (top 54)) [] [] (He.ga K "is_word") fd
  g_is_word : mg "is_word" = some (.ref (He.ga K "is_word"))
  d_is_sized_name : ∃ fd, FunD K "is_sized_name" "is_sized_name" (defArgs (top 55)) (defBody (top 55)) (defScope (top 55)) [] [] (He.ga K "is_sized_name") fd
  g_is_sized_name : mg "is_sized_name" = some (.ref (He.ga K "is_sized_name"))
  d_stores_of_sizes : ∃ fd, FunD K "stores_of_sizes" "stores_of_sizes" (defArgs (top 56)) (defBody (top 56)) (defScope (top 56)) [] [] (He.ga K "stores_of_sizes") fd
  g_stores_of_sizes : mg "stores_of_sizes" = some (.ref (He.ga K "stores_of_sizes"))
  d_are_space_names : ∃ fd, FunD K "are_space_names" "are_space_names" (defArgs (top 57)) (defBody (top 57)) (defScope (top 57)) [] [] (He.ga K "are_space_names") fd
  g_are_space_names : mg "are_space_names" = some (.ref (He.ga K "are_space_names"))
  d__law_cell : ∃ fd, FunD K "_law_cell" "_law_cell" (defArgs (top 60)) (defBody (top 60)) (defScope (top 60)) [] [] (He.ga K "_law_cell") fd
  g__law_cell : mg "_law_cell" = some (.ref (He.ga K "_law_cell"))
  d__law_box : ∃ fd, FunD K "_law_box" "_law_box" (defArgs (top 61)) (defBody (top 61)) (defScope (top 61)) [] [] (He.ga K "_law_box") fd
  g__law_box : mg "_law_box" = some (.ref (He.ga K "_law_box"))
  d__law_take : ∃ fd, FunD K "_law_take" "_law_take" (defArgs (top 62)) (defBody (top 62)) (defScope (top 62)) [] [] (He.ga K "_law_take") fd
  g__law_take : mg "_law_take" = some (.ref (He.ga K "_law_take"))
  d__law_by_place : ∃ fd, FunD K "_law_by_place" "_law_by_place" (defArgs (top 63)) (defBody (top 63)) (defScope (top 63)) [] [] (He.ga K "_law_by_place") fd
  g__law_by_place : mg "_law_by_place" = some (.ref (He.ga K "_law_by_place"))
  d__law_by_name : ∃ fd, FunD K "_law_by_name" "_law_by_name" (defArgs (top 64)) (defBody (top 64)) (defScope (top 64)) [] [] (He.ga K "_law_by_name") fd
  g__law_by_name : mg "_law_by_name" = some (.ref (He.ga K "_law_by_name"))
  d__law_several : ∃ fd, FunD K "_law_several" "_law_several" (defArgs (top 65)) (defBody (top 65)) (defScope (top 65)) [] [] (He.ga K "_law_several") fd
  g__law_several : mg "_law_several" = some (.ref (He.ga K "_law_several"))
  d__law_sorts : ∃ fd, FunD K "_law_sorts" "_law_sorts" (defArgs (top 66)) (defBody (top 66)) (defScope (top 66)) [] [] (He.ga K "_law_sorts") fd
  g__law_sorts : mg "_law_sorts" = some (.ref (He.ga K "_law_sorts"))
  d__law_kept : ∃ fd, FunD K "_law_kept" "_law_kept" (defArgs (top 67)) (defBody (top 67)) (defScope (top 67)) [] [] (He.ga K "_law_kept") fd
  g__law_kept : mg "_law_kept" = some (.ref (He.ga K "_law_kept"))
  d__law_is : ∃ fd, FunD K "_law_is" "_law_is" (defArgs (top 68)) (defBody (top 68)) (defScope (top 68)) [] [] (He.ga K "_law_is") fd
  g__law_is : mg "_law_is" = some (.ref (He.ga K "_law_is"))
  d__law_thing : ∃ fd, FunD K "_law_thing" "_law_thing" (defArgs (top 69)) (defBody (top 69)) (defScope (top 69)) [] [] (He.ga K "_law_thing") fd
  g__law_thing : mg "_law_thing" = some (.ref (He.ga K "_law_thing"))
  d__law_all_right : ∃ fd, FunD K "_law_all_right" "_law_all_right" (defArgs (top 70)) (defBody (top 70)) (defScope (top 70)) [] [] (He.ga K "_law_all_right") fd
  g__law_all_right : mg "_law_all_right" = some (.ref (He.ga K "_law_all_right"))
  d__law_raised : ∃ fd, FunD K "_law_raised" "_law_raised" (defArgs (top 71)) (defBody (top 71)) (defScope (top 71)) [] [] (He.ga K "_law_raised") fd
  g__law_raised : mg "_law_raised" = some (.ref (He.ga K "_law_raised"))
  d__law_caught : ∃ fd, FunD K "_law_caught" "_law_caught" (defArgs (top 72)) (defBody (top 72)) (defScope (top 72)) [] [] (He.ga K "_law_caught") fd
  g__law_caught : mg "_law_caught" = some (.ref (He.ga K "_law_caught"))
  d_Space_init : ∃ fd, FunD K "__init__" "Space.__init__" (defArgs (inClass (top 58) 0)) (defBody (inClass (top 58) 0)) (defScope (inClass (top 58) 0)) [] [] (He.ma K (He.ga K "Space") "__init__") fd
  d_Space_eq : ∃ fd, FunD K "__eq__" "Space.__eq__" (defArgs (inClass (top 58) 3)) (defBody (inClass (top 58) 3)) (defScope (inClass (top 58) 3)) [] [] (He.ma K (He.ga K "Space") "__eq__") fd
  s_Space_eq : PySem.W.findIn K (.ref (He.ga K "Space")) "__eq__" = some (some (.ref (He.ma K (He.ga K "Space") "__eq__")))
  sf_Space_eq : PySem.W.isFn K (.ref (He.ma K (He.ga K "Space") "__eq__")) = true
  cl_Space : Cls K (He.ga K "Space")
  mk_Space : Mk K (He.ga K "Space") (He.ma K (He.ga K "Space") "__init__")
  g_Space : mg "Space" = some (.ref (He.ga K "Space"))
  n_names : NoAttr K (He.ga K "Space") "names"
  n_never : NoAttr K (He.ga K "Space") "never"
  ac_Space : PySem.W.findIn K (.ref (He.ga K "Space")) "__class__" = some (some (.builtin "object.__class__"))
  ob_Space : PySem.W.mroIn K (He.ga K "Space") (.type "object") = some true
  kc_Space : PySem.W.keepIn K (.ref (He.ga K "Space")) = true
  ks_Space : PySem.W.kitOne K (.ref (He.ga K "Space")) (.ref (He.ga K "Space")) = some true
  nf_Space : PySem.W.notFirst K (He.ga K "Space") (.ref (He.ga K "Space")) = true
  d_Ratio_init : ∃ fd, FunD K "__init__" "Ratio.__init__" (defArgs (inClass (top 45) 0)) (defBody (inClass (top 45) 0)) (defScope (inClass (top 45) 0)) [.int 1] [] (He.ma K (He.ga K "Ratio") "__init__") fd
  d_Ratio_eq : ∃ fd, FunD K "__eq__" "Ratio.__eq__" (defArgs (inClass (top 45) 8)) (defBody (inClass (top 45) 8)) (defScope (inClass (top 45) 8)) [] [] (He.ma K (He.ga K "Ratio") "__eq__") fd
  s_Ratio_eq : PySem.W.findIn K (.ref (He.ga K "Ratio")) "__eq__" = some (some (.ref (He.ma K (He.ga K "Ratio") "__eq__")))
  sf_Ratio_eq : PySem.W.isFn K (.ref (He.ma K (He.ga K "Ratio") "__eq__")) = true
  cl_Ratio : Cls K (He.ga K "Ratio")
  mk_Ratio : Mk K (He.ga K "Ratio") (He.ma K (He.ga K "Ratio") "__init__")
  g_Ratio : mg "Ratio" = some (.ref (He.ga K "Ratio"))
  n_top : NoAttr K (He.ga K "Ratio") "top"
  n_bottom : NoAttr K (He.ga K "Ratio") "bottom"
  ac_Ratio : PySem.W.findIn K (.ref (He.ga K "Ratio")) "__class__" = some (some (.builtin "object.__class__"))
  ob_Ratio : PySem.W.mroIn K (He.ga K "Ratio") (.type "object") = some true
  kc_Ratio : PySem.W.keepIn K (.ref (He.ga K "Ratio")) = true
  ks_Ratio : PySem.W.kitOne K (.ref (He.ga K "Ratio")) (.ref (He.ga K "Ratio")) = some true
  nf_Ratio : PySem.W.notFirst K (He.ga K "Ratio") (.ref (He.ga K "Ratio")) = true
  b_gcd : mg "gcd" = some (.builtin "math.gcd")
  cg : PySem.W.specialIn K (.builtin "object.__class__") "__get__" = some (some (.builtin "getset_descriptor.__get__"))
  ct : PySem.W.takesIn K (.builtin "object.__class__") = some true
  pe_cl : (PySem.W.clsIn K (He.ga K "PatchError")).isSome = true
  pe_ty : PySem.W.typeIn K (.ref (He.ga K "PatchError")) = some (.type "type")
  pe_su : PySem.W.subIn K (.ref (He.ga K "PatchError")) (.type "BaseException") = some true
  pe_hd : PySem.W.hasDictIn K (He.ga K "PatchError") = true
  nd : ((("PatchError" : Str) :: exs.map fun e => e.1).map (He.ga K)).Nodup
  sysm : (K.lookup sysModules).isSome = true
  ex : ∀ e ∈ exs, exTB K (He.ga K "PatchError") (He.ga K e.1) (He.ma K (He.ga K e.1) "__init__") e.2 = true
  d_InvalidNumber_init : ∃ fd, FunD K "__init__" "InvalidNumber.__init__" (defArgs (inClass (top 4) 0)) (defBody (inClass (top 4) 0)) (defScope (inClass (top 4) 0)) [] [] (He.ma K (He.ga K "InvalidNumber") "__init__") fd
  g_InvalidNumber : mg "InvalidNumber" = some (.ref (He.ga K "InvalidNumber"))
  d_InvalidLots_init : ∃ fd, FunD K "__init__" "InvalidLots.__init__" (defArgs (inClass (top 5) 0)) (defBody (inClass (top 5) 0)) (defScope (inClass (top 5) 0)) [] [] (He.ma K (He.ga K "InvalidLots") "__init__") fd
  g_InvalidLots : mg "InvalidLots" = some (.ref (He.ga K "InvalidLots"))
  d_InvalidLot_init : ∃ fd, FunD K "__init__" "InvalidLot.__init__" (defArgs (inClass (top 6) 0)) (defBody (inClass (top 6) 0)) (defScope (inClass (top 6) 0)) [] [] (He.ma K (He.ga K "InvalidLot") "__init__") fd
  g_InvalidLot : mg "InvalidLot" = some (.ref (He.ga K "InvalidLot"))
  d_InvalidPayoff_init : ∃ fd, FunD K "__init__" "InvalidPayoff.__init__" (defArgs (inClass (top 7) 0)) (defBody (inClass (top 7) 0)) (defScope (inClass (top 7) 0)) [] [] (He.ma K (He.ga K "InvalidPayoff") "__init__") fd
  g_InvalidPayoff : mg "InvalidPayoff" = some (.ref (He.ga K "InvalidPayoff"))
  d_InvalidNames_init : ∃ fd, FunD K "__init__" "InvalidNames.__init__" (defArgs (inClass (top 8) 0)) (defBody (inClass (top 8) 0)) (defScope (inClass (top 8) 0)) [] [] (He.ma K (He.ga K "InvalidNames") "__init__") fd
  g_InvalidNames : mg "InvalidNames" = some (.ref (He.ga K "InvalidNames"))
  d_InvalidStore_init : ∃ fd, FunD K "__init__" "InvalidStore.__init__" (defArgs (inClass (top 9) 0)) (defBody (inClass (top 9) 0)) (defScope (inClass (top 9) 0)) [] [] (He.ma K (He.ga K "InvalidStore") "__init__") fd
  g_InvalidStore : mg "InvalidStore" = some (.ref (He.ga K "InvalidStore"))
  d_InvalidValues_init : ∃ fd, FunD K "__init__" "InvalidValues.__init__" (defArgs (inClass (top 10) 0)) (defBody (inClass (top 10) 0)) (defScope (inClass (top 10) 0)) [] [] (He.ma K (He.ga K "InvalidValues") "__init__") fd
  g_InvalidValues : mg "InvalidValues" = some (.ref (He.ga K "InvalidValues"))
  d_InvalidText_init : ∃ fd, FunD K "__init__" "InvalidText.__init__" (defArgs (inClass (top 11) 0)) (defBody (inClass (top 11) 0)) (defScope (inClass (top 11) 0)) [] [] (He.ma K (He.ga K "InvalidText") "__init__") fd
  g_InvalidText : mg "InvalidText" = some (.ref (He.ga K "InvalidText"))
  d_InvalidSystem_init : ∃ fd, FunD K "__init__" "InvalidSystem.__init__" (defArgs (inClass (top 12) 0)) (defBody (inClass (top 12) 0)) (defScope (inClass (top 12) 0)) [] [] (He.ma K (He.ga K "InvalidSystem") "__init__") fd
  g_InvalidSystem : mg "InvalidSystem" = some (.ref (He.ga K "InvalidSystem"))
  d_InvalidUnit_init : ∃ fd, FunD K "__init__" "InvalidUnit.__init__" (defArgs (inClass (top 13) 0)) (defBody (inClass (top 13) 0)) (defScope (inClass (top 13) 0)) [] [] (He.ma K (He.ga K "InvalidUnit") "__init__") fd
  g_InvalidUnit : mg "InvalidUnit" = some (.ref (He.ga K "InvalidUnit"))
  d_InvalidBody_init : ∃ fd, FunD K "__init__" "InvalidBody.__init__" (defArgs (inClass (top 14) 0)) (defBody (inClass (top 14) 0)) (defScope (inClass (top 14) 0)) [] [] (He.ma K (He.ga K "InvalidBody") "__init__") fd
  g_InvalidBody : mg "InvalidBody" = some (.ref (He.ga K "InvalidBody"))
  d_InvalidSteps_init : ∃ fd, FunD K "__init__" "InvalidSteps.__init__" (defArgs (inClass (top 15) 0)) (defBody (inClass (top 15) 0)) (defScope (inClass (top 15) 0)) [] [] (He.ma K (He.ga K "InvalidSteps") "__init__") fd
  g_InvalidSteps : mg "InvalidSteps" = some (.ref (He.ga K "InvalidSteps"))
  d_InvalidSummaries_init : ∃ fd, FunD K "__init__" "InvalidSummaries.__init__" (defArgs (inClass (top 16) 0)) (defBody (inClass (top 16) 0)) (defScope (inClass (top 16) 0)) [] [] (He.ma K (He.ga K "InvalidSummaries") "__init__") fd
  g_InvalidSummaries : mg "InvalidSummaries" = some (.ref (He.ga K "InvalidSummaries"))
  d_InvalidRow_init : ∃ fd, FunD K "__init__" "InvalidRow.__init__" (defArgs (inClass (top 17) 0)) (defBody (inClass (top 17) 0)) (defScope (inClass (top 17) 0)) [] [] (He.ma K (He.ga K "InvalidRow") "__init__") fd
  g_InvalidRow : mg "InvalidRow" = some (.ref (He.ga K "InvalidRow"))
  d_InvalidPick_init : ∃ fd, FunD K "__init__" "InvalidPick.__init__" (defArgs (inClass (top 18) 0)) (defBody (inClass (top 18) 0)) (defScope (inClass (top 18) 0)) [] [] (He.ma K (He.ga K "InvalidPick") "__init__") fd
  g_InvalidPick : mg "InvalidPick" = some (.ref (He.ga K "InvalidPick"))
  d_InvalidBlend_init : ∃ fd, FunD K "__init__" "InvalidBlend.__init__" (defArgs (inClass (top 19) 0)) (defBody (inClass (top 19) 0)) (defScope (inClass (top 19) 0)) [] [] (He.ma K (He.ga K "InvalidBlend") "__init__") fd
  g_InvalidBlend : mg "InvalidBlend" = some (.ref (He.ga K "InvalidBlend"))
  d_InvalidCode_init : ∃ fd, FunD K "__init__" "InvalidCode.__init__" (defArgs (inClass (top 20) 0)) (defBody (inClass (top 20) 0)) (defScope (inClass (top 20) 0)) [] [] (He.ma K (He.ga K "InvalidCode") "__init__") fd
  g_InvalidCode : mg "InvalidCode" = some (.ref (He.ga K "InvalidCode"))
  d_InvalidLines_init : ∃ fd, FunD K "__init__" "InvalidLines.__init__" (defArgs (inClass (top 21) 0)) (defBody (inClass (top 21) 0)) (defScope (inClass (top 21) 0)) [] [] (He.ma K (He.ga K "InvalidLines") "__init__") fd
  g_InvalidLines : mg "InvalidLines" = some (.ref (He.ga K "InvalidLines"))
  d_InvalidAnswer_init : ∃ fd, FunD K "__init__" "InvalidAnswer.__init__" (defArgs (inClass (top 22) 0)) (defBody (inClass (top 22) 0)) (defScope (inClass (top 22) 0)) [] [] (He.ma K (He.ga K "InvalidAnswer") "__init__") fd
  g_InvalidAnswer : mg "InvalidAnswer" = some (.ref (He.ga K "InvalidAnswer"))
  d_InvalidPart_init : ∃ fd, FunD K "__init__" "InvalidPart.__init__" (defArgs (inClass (top 23) 0)) (defBody (inClass (top 23) 0)) (defScope (inClass (top 23) 0)) [] [] (He.ma K (He.ga K "InvalidPart") "__init__") fd
  g_InvalidPart : mg "InvalidPart" = some (.ref (He.ga K "InvalidPart"))
  d_InvalidEdition_init : ∃ fd, FunD K "__init__" "InvalidEdition.__init__" (defArgs (inClass (top 24) 0)) (defBody (inClass (top 24) 0)) (defScope (inClass (top 24) 0)) [] [] (He.ma K (He.ga K "InvalidEdition") "__init__") fd
  g_InvalidEdition : mg "InvalidEdition" = some (.ref (He.ga K "InvalidEdition"))
  d_InvalidGame_init : ∃ fd, FunD K "__init__" "InvalidGame.__init__" (defArgs (inClass (top 25) 0)) (defBody (inClass (top 25) 0)) (defScope (inClass (top 25) 0)) [] [] (He.ma K (He.ga K "InvalidGame") "__init__") fd
  g_InvalidGame : mg "InvalidGame" = some (.ref (He.ga K "InvalidGame"))
  d_InvalidPlan_init : ∃ fd, FunD K "__init__" "InvalidPlan.__init__" (defArgs (inClass (top 26) 0)) (defBody (inClass (top 26) 0)) (defScope (inClass (top 26) 0)) [] [] (He.ma K (He.ga K "InvalidPlan") "__init__") fd
  g_InvalidPlan : mg "InvalidPlan" = some (.ref (He.ga K "InvalidPlan"))
  d_InvalidRecord_init : ∃ fd, FunD K "__init__" "InvalidRecord.__init__" (defArgs (inClass (top 27) 0)) (defBody (inClass (top 27) 0)) (defScope (inClass (top 27) 0)) [] [] (He.ma K (He.ga K "InvalidRecord") "__init__") fd
  g_InvalidRecord : mg "InvalidRecord" = some (.ref (He.ga K "InvalidRecord"))
  d_InvalidName_init : ∃ fd, FunD K "__init__" "InvalidName.__init__" (defArgs (inClass (top 28) 0)) (defBody (inClass (top 28) 0)) (defScope (inClass (top 28) 0)) [] [] (He.ma K (He.ga K "InvalidName") "__init__") fd
  g_InvalidName : mg "InvalidName" = some (.ref (He.ga K "InvalidName"))
  d_ByZero_init : ∃ fd, FunD K "__init__" "ByZero.__init__" (defArgs (inClass (top 29) 0)) (defBody (inClass (top 29) 0)) (defScope (inClass (top 29) 0)) [] [] (He.ma K (He.ga K "ByZero") "__init__") fd
  g_ByZero : mg "ByZero" = some (.ref (He.ga K "ByZero"))
  d_NoSystem_init : ∃ fd, FunD K "__init__" "NoSystem.__init__" (defArgs (inClass (top 30) 0)) (defBody (inClass (top 30) 0)) (defScope (inClass (top 30) 0)) [] [] (He.ma K (He.ga K "NoSystem") "__init__") fd
  g_NoSystem : mg "NoSystem" = some (.ref (He.ga K "NoSystem"))
  d_NotFair_init : ∃ fd, FunD K "__init__" "NotFair.__init__" (defArgs (inClass (top 31) 0)) (defBody (inClass (top 31) 0)) (defScope (inClass (top 31) 0)) [] [] (He.ma K (He.ga K "NotFair") "__init__") fd
  g_NotFair : mg "NotFair" = some (.ref (He.ga K "NotFair"))
  d_Outside_init : ∃ fd, FunD K "__init__" "Outside.__init__" (defArgs (inClass (top 32) 0)) (defBody (inClass (top 32) 0)) (defScope (inClass (top 32) 0)) [] [] (He.ma K (He.ga K "Outside") "__init__") fd
  g_Outside : mg "Outside" = some (.ref (He.ga K "Outside"))
  d_NotBrought_init : ∃ fd, FunD K "__init__" "NotBrought.__init__" (defArgs (inClass (top 33) 0)) (defBody (inClass (top 33) 0)) (defScope (inClass (top 33) 0)) [] [] (He.ma K (He.ga K "NotBrought") "__init__") fd
  g_NotBrought : mg "NotBrought" = some (.ref (He.ga K "NotBrought"))
  d_TooMany_init : ∃ fd, FunD K "__init__" "TooMany.__init__" (defArgs (inClass (top 34) 0)) (defBody (inClass (top 34) 0)) (defScope (inClass (top 34) 0)) [] [] (He.ma K (He.ga K "TooMany") "__init__") fd
  g_TooMany : mg "TooMany" = some (.ref (He.ga K "TooMany"))
  d_TooRich_init : ∃ fd, FunD K "__init__" "TooRich.__init__" (defArgs (inClass (top 35) 0)) (defBody (inClass (top 35) 0)) (defScope (inClass (top 35) 0)) [] [] (He.ma K (He.ga K "TooRich") "__init__") fd
  g_TooRich : mg "TooRich" = some (.ref (He.ga K "TooRich"))
  d_TooGreat_init : ∃ fd, FunD K "__init__" "TooGreat.__init__" (defArgs (inClass (top 36) 0)) (defBody (inClass (top 36) 0)) (defScope (inClass (top 36) 0)) [] [] (He.ma K (He.ga K "TooGreat") "__init__") fd
  g_TooGreat : mg "TooGreat" = some (.ref (He.ga K "TooGreat"))
  d_NotLet_init : ∃ fd, FunD K "__init__" "NotLet.__init__" (defArgs (inClass (top 37) 0)) (defBody (inClass (top 37) 0)) (defScope (inClass (top 37) 0)) [] [] (He.ma K (He.ga K "NotLet") "__init__") fd
  g_NotLet : mg "NotLet" = some (.ref (He.ga K "NotLet"))
  d_NotAsked_init : ∃ fd, FunD K "__init__" "NotAsked.__init__" (defArgs (inClass (top 38) 0)) (defBody (inClass (top 38) 0)) (defScope (inClass (top 38) 0)) [] [] (He.ma K (He.ga K "NotAsked") "__init__") fd
  g_NotAsked : mg "NotAsked" = some (.ref (He.ga K "NotAsked"))
  d_NoThing_init : ∃ fd, FunD K "__init__" "NoThing.__init__" (defArgs (inClass (top 39) 0)) (defBody (inClass (top 39) 0)) (defScope (inClass (top 39) 0)) [] [] (He.ma K (He.ga K "NoThing") "__init__") fd
  g_NoThing : mg "NoThing" = some (.ref (He.ga K "NoThing"))
  d_NothingToUndo_init : ∃ fd, FunD K "__init__" "NothingToUndo.__init__" (defArgs (inClass (top 40) 0)) (defBody (inClass (top 40) 0)) (defScope (inClass (top 40) 0)) [] [] (He.ma K (He.ga K "NothingToUndo") "__init__") fd
  g_NothingToUndo : mg "NothingToUndo" = some (.ref (He.ga K "NothingToUndo"))
  g_PatchError : mg "PatchError" = some (.ref (He.ga K "PatchError"))
/-! ### the heap -/
abbrev Ex := Evl.Ex
/-- the box at b: four items; at most c draws so far -/
def Box (H : Hp) (b : Addr) (c : Nat) : Prop := ∃ (g : Int) (f : Bool) (s k : Int), H b = some (.lst [.int g, .bl f, .int s, .int k]) ∧ 0 ≤ g ∧ 0 ≤ s ∧ s < 2147483648 ∧ 0 ≤ k ∧ k ≤ (c : Int)
/-- all that Hb knows stands; the box at b besides -/
structure Wd (Hb H : Hp) (b : Addr) (c : Nat) : Prop where
  ex : Ex Hb H
  nb : Hb b = none
  box : Box H b c
theorem Wd.mono {Hb H : Hp} {b : Addr} {c d : Nat} (W : Wd Hb H b c) (h : c ≤ d) : Wd Hb H b d := by
  obtain ⟨e, n, g, f, s, k, h1, h2, h3, h4, h5, h6⟩ := W
  exact ⟨e, n, g, f, s, k, h1, h2, h3, h4, h5, by omega⟩
theorem Wd.ne {Hb H : Hp} {b p : Addr} {c : Nat} (W : Wd Hb H b c) (h : H p = none) : p ≠ b := by
  obtain ⟨e, n, g, f, s, k, h1, _⟩ := W
  intro z
  rw [z, h1] at h
  cases h
theorem Wd.free {Hb H : Hp} {b p : Addr} {c : Nat} (W : Wd Hb H b c) (h : H p = none) : Hb p = none := by
  cases q : Hb p with
  | none => rfl
  | some o =>
    rw [W.ex p o q] at h
    cases h
/-- a new object, from now on known -/
theorem Wd.new {Hb H : Hp} {b p : Addr} {c : Nat} {o : HO} (W : Wd Hb H b c) (h : H p = none) : Wd (upd Hb p o) (upd H p o) b c := by
  have nb := W.ne h
  obtain ⟨e, n, g, f, s, k, h1, h2, h3, h4, h5, h6⟩ := id W
  refine ⟨fun a u q => ?_, ?_, g, f, s, k, ?_, h2, h3, h4, h5, h6⟩
  · by_cases z : a = p
    · rw [z, upd_same] at q ⊢
      exact q
    · rw [upd_ne z] at q ⊢
      exact e a u q
  · rw [upd_ne nb.symm]; exact n
  · rw [upd_ne nb.symm]; exact h1
/-- a new object, not known -/
theorem Wd.skip {Hb H : Hp} {b p : Addr} {c : Nat} {o : HO} (W : Wd Hb H b c) (h : H p = none) : Wd Hb (upd H p o) b c := by
  have nb := W.ne h
  obtain ⟨e, n, g, f, s, k, h1, h2, h3, h4, h5, h6⟩ := id W
  exact ⟨e.trans (Evl.Ex.new h), n, g, f, s, k, by rw [upd_ne nb.symm]; exact h1, h2, h3, h4, h5, h6⟩
/-- an object that Hb does not know, and that is not the box, changes -/
theorem Wd.chg {Hb H : Hp} {b p : Addr} {c : Nat} {o : HO} (W : Wd Hb H b c) (h : Hb p = none) (nb : p ≠ b) : Wd Hb (upd H p o) b c := by
  obtain ⟨e, n, g, f, s, k, h1, h2, h3, h4, h5, h6⟩ := id W
  exact ⟨Evl.Ex.mut e h, n, g, f, s, k, by rw [upd_ne nb.symm]; exact h1, h2, h3, h4, h5, h6⟩
/-- one more object of H is known -/
theorem Wd.know {Hb H : Hp} {b p : Addr} {c : Nat} {o : HO} (W : Wd Hb H b c) (h : H p = some o) (nb : p ≠ b) : Wd (upd Hb p o) H b c := by
  obtain ⟨e, n, g, f, s, k, h1, h2, h3, h4, h5, h6⟩ := id W
  refine ⟨fun a u q => ?_, by rw [upd_ne nb.symm]; exact n, g, f, s, k, h1, h2, h3, h4, h5, h6⟩
  by_cases z : a = p
  · rw [z, upd_same] at q
    rw [z, h]; exact q
  · rw [upd_ne z] at q
    exact e a u q
theorem Wd.grow {Hb H H' : Hp} {b : Addr} {c : Nat} (W : Wd Hb H b c) (e : Ex H H') : Wd Hb H' b c := by
  obtain ⟨e0, n, g, f, s, k, h1, h2, h3, h4, h5, h6⟩ := id W
  exact ⟨e0.trans e, n, g, f, s, k, e _ _ h1, h2, h3, h4, h5, h6⟩
theorem Wd.less {Hb Hb' H : Hp} {b : Addr} {c : Nat} (W : Wd Hb H b c) (e : Ex Hb' Hb) : Wd Hb' H b c := by
  refine ⟨e.trans W.ex, ?_, W.box⟩
  cases q : Hb' b with
  | none => rfl
  | some o =>
    have z := e b o q
    rw [W.nb] at z
    cases z
section
variable {P : Program} {w : World} {K : PySem.W.Frag} {mg : Str → Option Value} {base : Heap}

theorem cut1 (ns : List Int) : cutV (ns.map V.int) none (some 1) = (ns.take 1).map V.int := by
  cases ns with
  | nil => rfl
  | cons a l =>
    first
      | rfl
      | simp [cutV]
abbrev N_is_whole : List Str := ["value"]
theorem sc_is_whole : FnScope N_is_whole ["value"] (defScope (top 42)) := ⟨rfl, rfl, rfl, by decide +kernel, rfl, by decide +kernel, by decide +kernel⟩
def spWhole : Sp := fun vs H Q _ => ∃ i : Int, vs = [.int i] ∧ Q (.bl true) H
theorem ok_is_whole (T : Txt K mg)  : Cal P w K mg base 1 "is_whole" (spWhole) [] := by
  obtain ⟨fd, F⟩ := T.d_is_whole
  refine ⟨_, fd, ["value"], [], ?_, T.g_is_whole, F.kp, F.bindsN fun _ _ _ _ _ _ us hl => match us, hl with | [_], _ => rfl, .nil⟩
  refine F.ok sc_is_whole (fun vs H Q E h => by obtain ⟨_, rfl, _⟩ := h; rfl) (fun cdv A outer s H vs Q E hr h => ?_)
  have hu := hu_of hr
  refine ⟨_, PSs.nox (pss_one (ps_ret (pe_and (pe_callB call_isi (by rfl) T.f_isinstance (by decide +kernel) (pa_cons (pv 0) (pa_cons (pe_bltn (v := .ty "int") (u := .type "int") (by rfl) T.f_int (by decide +kernel) rfl) pa_nil))) (pe_one (pe_not (pe_callB call_isi (by rfl) T.f_isinstance (by decide +kernel) (pa_cons (pv 0) (pa_cons (pe_bltn (v := .ty "bool") (u := .type "bool") (by rfl) T.f_bool (by decide +kernel) rfl) pa_nil)))))))), ?_⟩
  obtain ⟨i, rfl, hQ⟩ := h
  refine ⟨_, rfl, _, _, _, _, _, rfl, ClsV.ty _, TyX.base (TyOf.int _), kit_ty (r := true) (by decide +kernel), _, rfl, ?_⟩
  exact ⟨_, rfl, _, _, _, _, _, rfl, ClsV.ty _, TyX.base (TyOf.int _), kit_ty (r := false) (by decide +kernel), _, rfl, hQ⟩

abbrev N_is_whole_from : List Str := ["value", "low", "high"]
theorem sc_is_whole_from : FnScope N_is_whole_from ["value", "low", "high"] (defScope (top 43)) := ⟨rfl, rfl, rfl, by decide +kernel, rfl, by decide +kernel, by decide +kernel⟩
def spWholeFrom : Sp := fun vs H Q _ => ∃ i lo hi : Int, vs = [.int i, .int lo, .int hi] ∧ Q (.bl (decide (lo ≤ i) && decide (i ≤ hi))) H
theorem ok_is_whole_from (T : Txt K mg) (C_is_whole : Cal P w K mg base 1 "is_whole" spWhole []) : Cal P w K mg base 2 "is_whole_from" (spWholeFrom) [] := by
  obtain ⟨fd, F⟩ := T.d_is_whole_from
  refine ⟨_, fd, ["value", "low", "high"], [], ?_, T.g_is_whole_from, F.kp, F.bindsN fun _ _ _ _ _ _ us hl => match us, hl with | [_, _, _], _ => rfl, .nil⟩
  refine F.ok sc_is_whole_from (fun vs H Q E h => by obtain ⟨_, _, _, rfl, _⟩ := h; rfl) (fun cdv A outer s H vs Q E hr h => ?_)
  have hu := hu_of hr
  refine ⟨_, PSs.nox (pss_one (ps_ret (pe_and (pe_c C_is_whole hr (by omega) rfl (pa_cons (pv 0) pa_nil)) (pe_one (pe_chain op_le op_le (pv 1) (pv 0) (pv 2)))))), ?_⟩
  obtain ⟨i, lo, hi, rfl, hQ⟩ := h
  refine ⟨_, rfl, i, rfl, _, rfl, ?_⟩
  refine ⟨_, rfl, _, rfl, _, _, rfl, rfl, _, rfl, ?_⟩
  by_cases c : lo ≤ i
  · rw [if_pos (decide_eq_true c)]
    refine ⟨_, rfl, _, _, rfl, rfl, ?_⟩
    rw [decide_eq_true c, Bool.true_and] at hQ
    exact hQ
  · rw [if_neg (by simpa using c)]
    rw [decide_eq_false c, Bool.false_and] at hQ
    exact hQ

abbrev N_l_cell : List Str := ["_law_script", "_law_k"]
theorem sc_l_cell : FnScope N_l_cell ["_law_script", "_law_k"] (defScope (top 60)) := ⟨rfl, rfl, rfl, by decide +kernel, rfl, by decide +kernel, by decide +kernel⟩
def spCell (K : PySem.W.Frag) : Sp := fun vs H Q _ => ∃ (l : Addr) (ns : List Int) (k : Nat), vs = [.ref l, .int (k : Int)] ∧ SqL K H l (ns.map V.int) ∧ ns.length ≤ 63 ∧ k < 10 ∧ ∀ H', Ex H H' → ∀ i, Q (.int i) H'
theorem ok_l_cell (T : Txt K mg)  : Cal P w K mg base 1 "_law_cell" (spCell K) [] := by
  obtain ⟨fd, F⟩ := T.d__law_cell
  refine ⟨_, fd, ["_law_script", "_law_k"], [], ?_, T.g__law_cell, F.kp, F.bindsN fun _ _ _ _ _ _ us hl => match us, hl with | [_, _], _ => rfl, .nil⟩
  refine F.ok sc_l_cell (fun vs H Q E h => by obtain ⟨_, _, _, rfl, _⟩ := h; rfl) (fun cdv A outer s H vs Q E hr h => ?_)
  have hu := hu_of hr
  refine ⟨_, PSs.nox (pss_one (ps_ret (pe_ifExp (pt_cmpR op_lt (pv 1) (pe_callB call_len (by rfl) T.f_len (by decide +kernel) (pa_cons (pv 0) pa_nil)) (nomark _)) (pe_ix ix_list (pv 0) (pv 1) (fun _ _ => rfl)) (pe_op op_add (pe_op op_mul pe_int (pv 1)) (pe_op op_mod (pe_callTy call_int1 (by rfl) T.f_int (by decide +kernel) (pa_cons (pe_callB (cr_sum rfl) (by rfl) T.f_sum (by decide +kernel) (pa_cons (pe_slice sl_list (pv 0) po_none (po_some pe_int)) pa_nil)) pa_nil)) pe_int))))), ?_⟩
  obtain ⟨l, ns, k, rfl, hS, hl, hk, hQ⟩ := h
  refine ⟨_, rfl, _, rfl, _, _, rfl, .inl ⟨_, hS, rfl⟩, _, _, rfl, rfl, _, rfl, ?_⟩
  refine ite2 (fun c => ?_) (fun c => ?_)
  · have c1 : k < ns.length := by
      have := of_decide_eq_true c
      rw [List.length_map] at this
      omega
    refine ⟨_, rfl, _, rfl, l, _, _, .int (ns.getD k 0), rfl, rfl, hS, ?_, hQ H (Evl.Ex.refl H) _⟩
    have e1 : (ns.map V.int)[k]? = some (.int (ns.getD k 0)) := by
      rw [List.getElem?_map, List.getElem?_eq_getElem c1, List.getD_eq_getElem?_getD, List.getElem?_eq_getElem c1]; rfl
    exact atI_nat e1
  · refine ⟨_, rfl, _, _, rfl, rfl, .inl ⟨by decide, by decide⟩, ?_⟩
    refine ⟨_, rfl, _, rfl, l, _, rfl, hS, fun p hp => ?_⟩
    refine ⟨p, ns.take 1, rfl, SqL.of (by rw [upd_same, cut1]), .inl ⟨_, rfl, _, _, rfl, rfl, (by show (0 : Int) < 1000003; decide), _, _, rfl, rfl, hQ _ (Evl.Ex.new hp) _⟩⟩

abbrev N_l_box : List Str := ["_law_great"]
theorem sc_l_box : FnScope N_l_box ["_law_great"] (defScope (top 61)) := ⟨rfl, rfl, rfl, by decide +kernel, rfl, by decide +kernel, by decide +kernel⟩
def spBox : Sp := fun vs H Q _ => ∃ (i : Int), vs = [.int i] ∧ ∀ b H', H b = none → Ex H H' → Box H' b 0 → Q (.ref b) H'
theorem ok_l_box (T : Txt K mg)  : Cal P w K mg base 1 "_law_box" (spBox) [] := by
  obtain ⟨fd, F⟩ := T.d__law_box
  refine ⟨_, fd, ["_law_great"], [], ?_, T.g__law_box, F.kp, F.bindsN fun _ _ _ _ _ _ us hl => match us, hl with | [_], _ => rfl, .nil⟩
  refine F.ok sc_l_box (fun vs H Q E h => by obtain ⟨_, rfl, _⟩ := h; rfl) (fun cdv A outer s H vs Q E hr h => ?_)
  have hu := hu_of hr
  refine ⟨_, PSs.nox (pss_one (ps_ret (pe_lst (pa_cons (pe_callB call_abs (by rfl) T.f_abs (by decide +kernel) (pa_cons (pv 0) pa_nil)) (pa_cons (pe_cmpR op_ge (pe_callB call_abs (by rfl) T.f_abs (by decide +kernel) (pa_cons (pv 0) pa_nil)) (pe_op op_pow pe_int pe_int) (nomark _)) (pa_cons (pe_op op_mod (pe_callTy call_int1 (by rfl) T.f_int (by decide +kernel) (pa_cons (pe_callB call_abs (by rfl) T.f_abs (by decide +kernel) (pa_cons (pv 0) pa_nil)) pa_nil)) pe_int) (pa_cons pe_int pa_nil))))))), ?_⟩
  obtain ⟨i, rfl, hQ⟩ := h
  refine ⟨_, rfl, _, rfl, ?_⟩
  refine ⟨_, rfl, _, rfl, _, _, rfl, rfl, ⟨by decide, by decide, by decide⟩, _, _, rfl, rfl, ?_⟩
  refine ⟨_, rfl, _, rfl, .inl ⟨_, rfl, _, _, rfl, rfl, (by show (0 : Int) < 2147483629; decide), ?_⟩⟩
  refine ⟨(by show 4 ≤ sizeLine; decide), fun p hp => ?_⟩
  refine hQ p _ hp (Evl.Ex.new hp) ⟨_, _, _, _, upd_same, ?_, ?_, ?_, by decide, by decide⟩
  · split <;> omega
  · exact Int.emod_nonneg _ (by decide)
  · exact Int.lt_trans (Int.emod_lt_of_pos _ (by decide)) (by decide)

abbrev N_l_take : List Str := ["_law_box_here", "_law_many", "_law_digit", "_law_mixed"]
theorem sc_l_take : FnScope N_l_take ["_law_box_here", "_law_many"] (defScope (top 62)) := ⟨rfl, rfl, rfl, by decide +kernel, rfl, by decide +kernel, by decide +kernel⟩
/-- a draw -/
def spTake : Sp := fun vs H Q _ => ∃ (Hb : Hp) (b : Addr) (c : Nat) (n : Int), vs = [.ref b, .int n] ∧ Wd Hb H b c ∧ c ≤ 1000000 ∧ 0 < n ∧ n ≤ 1000 ∧ ∀ r H', 0 ≤ r → r < n → Wd Hb H' b (c + 1) → Q (.int r) H'
theorem ok_l_take (T : Txt K mg)  : Cal P w K mg base 1 "_law_take" (spTake) [] := by
  obtain ⟨fd, F⟩ := T.d__law_take
  refine ⟨_, fd, ["_law_box_here", "_law_many"], [], ?_, T.g__law_take, F.kp, F.bindsN fun _ _ _ _ _ _ us hl => match us, hl with | [_, _], _ => rfl, .nil⟩
  refine F.ok sc_l_take (fun vs H Q E h => by obtain ⟨_, _, _, _, rfl, _⟩ := h; rfl) (fun cdv A outer s H vs Q E hr h => ?_)
  have hu := hu_of hr
  refine ⟨_, PSs.nox (pss_cut (ps_if (PW.pt (pw_and (pt_val (pe_ix ix_list (pv 0) pe_int (fun _ _ => rfl))) (pw_and1 (pt_cmpR op_gt (pe_ix ix_list (pv 0) pe_int (fun _ _ => rfl)) pe_int (nomark _))))) (pss_cons (ps_set (i := 2) sc_l_take.nd rfl (Or.inl rfl) (pe_op op_mod (pe_callTy call_int1 (by rfl) T.f_int (by decide +kernel) (pa_cons (pe_ix ix_list (pv 0) pe_int (fun _ _ => rfl)) pa_nil)) (pv 1)))
      (pss_cons (ps_asg (pe_op op_fdiv (pe_ix ix_list (pv 0) pe_int (fun _ _ => rfl)) (pv 1)) (pg_sub (pv 0) pe_int set_list))
      (pss_one (ps_ret (pv 2))))) pss_nil)
      (pss_cons (ps_asg (pe_op op_add (pe_ix ix_list (pv 0) pe_int (fun _ _ => rfl)) pe_int) (pg_sub (pv 0) pe_int set_list))
      (pss_cons (ps_set (i := 3) sc_l_take.nd rfl (Or.inl rfl) (pe_op op_mod (pe_callTy call_int1 (by rfl) T.f_int (by decide +kernel) (pa_cons (pe_op op_pow (pe_op op_add (pe_op op_add (pe_ix ix_list (pv 0) pe_int (fun _ _ => rfl)) (pe_op op_mul pe_int (pe_ix ix_list (pv 0) pe_int (fun _ _ => rfl)))) pe_int) pe_int) pa_nil)) pe_int))
      (pss_one (ps_ret (pe_op op_mod (pe_op op_fdiv (pe_op op_mod (pe_callTy call_int1 (by rfl) T.f_int (by decide +kernel) (pa_cons (pe_op op_pow (pe_op op_add (pe_op op_mul (pv 3) pe_int) (pe_op op_mul pe_int (pe_ix ix_list (pv 0) pe_int (fun _ _ => rfl)))) pe_int) pa_nil)) pe_int) pe_int) (pv 1))))))), ?_⟩
  obtain ⟨Hb, b, c, n, rfl, W, hc, hn, hn2, hQ⟩ := h
  obtain ⟨We, Wn, g, f, s0, k, hb, hg, hs, hs2, hk, hk2⟩ := id W
  have put : ∀ (i : Nat) (v : V) (xs : List V), (∃ (g : Int) (f : Bool) (s k : Int), xs.set i v = [.int g, .bl f, .int s, .int k] ∧ 0 ≤ g ∧ 0 ≤ s ∧ s < 2147483648 ∧ 0 ≤ k ∧ k ≤ ((c + 1 : Nat) : Int)) → Wd Hb (upd H b (.lst (xs.set i v))) b (c + 1) := by
    rintro i v xs ⟨g, f, s, k, e, h1, h2, h3, h4, h5⟩
    exact ⟨Evl.Ex.mut We Wn, Wn, g, f, s, k, by rw [e]; exact upd_same, h1, h2, h3, h4, h5⟩
  refine ⟨fun σ H' => σ = [some (.ref b), some (.int n), none, none] ∧ H' = H, ?_, ?_⟩
  · refine ⟨_, rfl, b, _, _, _, rfl, rfl, SqL.of hb, rfl, f, rfl, ?_⟩
    refine ite2 (fun cf => ?_) (fun cf => ?_)
    · refine ⟨_, rfl, b, _, _, _, rfl, rfl, SqL.of hb, rfl, _, _, rfl, rfl, _, rfl, ?_⟩
      refine ite2 (fun cg => ?_) (fun cg => ?_)
      · refine ⟨_, rfl, b, _, _, _, rfl, rfl, SqL.of hb, rfl, .inl ⟨_, rfl, _, rfl, _, _, rfl, rfl, (by show (0 : Int) < n; exact hn), ?_⟩⟩
        refine ⟨_, rfl, b, _, _, _, rfl, rfl, SqL.of hb, rfl, _, rfl, _, _, rfl, rfl, ⟨hn, by omega⟩, ?_⟩
        refine ⟨_, rfl, b, _, _, _, rfl, rfl, hb, rfl, ?_⟩
        refine ⟨_, rfl, ?_⟩
        refine hQ _ _ (Int.emod_nonneg _ (by omega)) (Int.emod_lt_of_pos _ hn) (put 0 _ _ ⟨_, _, _, _, rfl, ?_, hs, hs2, hk, by omega⟩)
        exact Int.ediv_nonneg hg (by omega)
      · exact ⟨rfl, rfl⟩
    · exact ⟨rfl, rfl⟩
  · rintro σ H' ⟨rfl, rfl⟩
    refine ⟨_, rfl, b, _, _, _, rfl, rfl, SqL.of hb, rfl, _, _, rfl, rfl, ?_⟩
    refine ⟨_, rfl, b, _, _, _, rfl, rfl, hb, rfl, ?_⟩
    have hb2 : upd H' b (.lst ([V.int g, V.bl f, V.int s0, V.int k].set 3 (.int (k + 1)))) b = some (.lst [V.int g, V.bl f, V.int s0, V.int (k + 1)]) := upd_same
    refine ⟨_, rfl, b, _, _, _, rfl, rfl, SqL.of hb2, rfl, ?_⟩
    refine ⟨_, rfl, b, _, _, _, rfl, rfl, SqL.of hb2, rfl, _, _, rfl, rfl, .inl ⟨by decide, by decide⟩, _, _, rfl, rfl, _, _, rfl, rfl, ?_⟩
    refine ⟨_, _, rfl, rfl, ⟨by decide, by decide, ?_⟩, .inl ⟨_, rfl, _, _, rfl, rfl, (by show (0 : Int) < 2147483647; decide), ?_⟩⟩
    · omega
    generalize hm : (s0 + 15485867 * (k + 1) + 179425033) ^ Int.toNat 5 % 2147483647 = mx
    have m0 : 0 ≤ mx := by rw [← hm]; exact Int.emod_nonneg _ (by decide)
    have m1 : mx < 2147483647 := by rw [← hm]; exact Int.emod_lt_of_pos _ (by decide)
    refine ⟨_, rfl, _, _, rfl, rfl, .inl ⟨by omega, by omega⟩, ?_⟩
    refine ⟨_, rfl, b, _, _, _, rfl, rfl, SqL.of hb2, rfl, _, _, rfl, rfl, .inl ⟨by decide, by decide⟩, _, _, rfl, rfl, ?_⟩
    refine ⟨_, _, rfl, rfl, ⟨by decide, by decide, ?_⟩, .inl ⟨_, rfl, _, _, rfl, rfl, (by show (0 : Int) < 2147483587; decide), _, _, rfl, rfl, ⟨by decide, by decide⟩, ?_⟩⟩
    · omega
    refine ⟨_, rfl, _, _, rfl, rfl, (by show (0 : Int) < n; exact hn), ?_⟩
    exact hQ _ _ (Int.emod_nonneg _ (by omega)) (Int.emod_lt_of_pos _ hn) (put 3 _ _ ⟨_, _, _, _, rfl, hg, hs, hs2, by omega, by omega⟩)

end
end K00
set_option Elab.async false
set_option linter.all false
set_option maxRecDepth 100000
set_option maxHeartbeats 0
namespace K00
open PySem PySem.Spec PyProof.Rows L2
/-! ### the head -/
def fa0 : List He.Fa := [.free "isinstance", .free "int", .free "bool", .free "len", .free "str", .free "all", .free "list", .free "tuple", .free "dict", .free "range", .free "abs", .free "sum", .free "min", .free "max", .free "repr", .free "set", .free "ValueError", .int "LONGEST_WORD" 8, .int "MOST_NAMES" 3, .int "LEAST_SIZE" 2, .int "GREATEST_SIZE" 6, .int "MOST_STORES" 8, .str "LETTERS" "abcdefghijklmnopqrstuvwxyz", .glo "LANGUAGE_WORDS", .glo "Space", .glo "Ratio", .glo "PatchError", .glo "InvalidNumber", .glo "InvalidLots", .glo "InvalidLot", .glo "InvalidPayoff", .glo "InvalidNames", .glo "InvalidStore", .glo "InvalidValues", .glo "InvalidText", .glo "InvalidSystem", .glo "InvalidUnit", .glo "InvalidBody", .glo "InvalidSteps", .glo "InvalidSummaries", .glo "InvalidRow", .glo "InvalidPick", .glo "InvalidBlend", .glo "InvalidCode", .glo "InvalidLines", .glo "InvalidAnswer", .glo "InvalidPart", .glo "InvalidEdition", .glo "InvalidGame", .glo "InvalidPlan", .glo "InvalidRecord", .glo "InvalidName", .glo "ByZero", .glo "NoSystem", .glo "NotFair", .glo "Outside", .glo "NotBrought", .glo "TooMany", .glo "TooRich", .glo "TooGreat", .glo "NotLet", .glo "NotAsked", .glo "NoThing", .glo "NothingToUndo", .glo "is_whole", .glo "is_whole_from", .glo "is_word", .glo "is_sized_name", .glo "stores_of_sizes", .glo "are_space_names", .glo "_law_cell", .glo "_law_box", .glo "_law_take", .glo "_law_by_place", .glo "_law_by_name", .glo "_law_several", .glo "_law_sorts", .glo "_law_kept", .glo "_law_is", .glo "_law_thing", .glo "_law_all_right", .glo "_law_raised", .glo "_law_caught", .cls "Space", .mkr "Space", .noat "Space" "names", .noat "Space" "never", .cls "Ratio", .mkr "Ratio", .noat "Ratio" "top", .noat "Ratio" "bottom", .glo "law"]
def fn0 : List He.DefD := [dG 42 "is_whole", dG 43 "is_whole_from", dG 54 "is_word", dG 55 "is_sized_name", dG 56 "stores_of_sizes", dG 57 "are_space_names", dG 60 "_law_cell", dG 61 "_law_box", dG 62 "_law_take", dG 63 "_law_by_place", dG 64 "_law_by_name", dG 65 "_law_several", dG 66 "_law_sorts", dG 67 "_law_kept", dG 68 "_law_is", dG 69 "_law_thing", dG 70 "_law_all_right", dG 71 "_law_raised", dG 72 "_law_caught", dM 58 0 "Space" "__init__" "Space.__init__", dM 58 3 "Space" "__eq__" "Space.__eq__", ⟨("Ratio", some "__init__"), "__init__", "Ratio.__init__", defArgs (inClass (top 45) 0), defBody (inClass (top 45) 0), defScope (inClass (top 45) 0), [.int 1], []⟩, dM 45 8 "Ratio" "__eq__" "Ratio.__eq__", dM 4 0 "InvalidNumber" "__init__" "InvalidNumber.__init__", dM 5 0 "InvalidLots" "__init__" "InvalidLots.__init__", dM 6 0 "InvalidLot" "__init__" "InvalidLot.__init__", dM 7 0 "InvalidPayoff" "__init__" "InvalidPayoff.__init__", dM 8 0 "InvalidNames" "__init__" "InvalidNames.__init__", dM 9 0 "InvalidStore" "__init__" "InvalidStore.__init__", dM 10 0 "InvalidValues" "__init__" "InvalidValues.__init__", dM 11 0 "InvalidText" "__init__" "InvalidText.__init__"]
def fn1 : List He.DefD := [dM 12 0 "InvalidSystem" "__init__" "InvalidSystem.__init__", dM 13 0 "InvalidUnit" "__init__" "InvalidUnit.__init__", dM 14 0 "InvalidBody" "__init__" "InvalidBody.__init__", dM 15 0 "InvalidSteps" "__init__" "InvalidSteps.__init__", dM 16 0 "InvalidSummaries" "__init__" "InvalidSummaries.__init__", dM 17 0 "InvalidRow" "__init__" "InvalidRow.__init__", dM 18 0 "InvalidPick" "__init__" "InvalidPick.__init__", dM 19 0 "InvalidBlend" "__init__" "InvalidBlend.__init__", dM 20 0 "InvalidCode" "__init__" "InvalidCode.__init__", dM 21 0 "InvalidLines" "__init__" "InvalidLines.__init__", dM 22 0 "InvalidAnswer" "__init__" "InvalidAnswer.__init__", dM 23 0 "InvalidPart" "__init__" "InvalidPart.__init__", dM 24 0 "InvalidEdition" "__init__" "InvalidEdition.__init__", dM 25 0 "InvalidGame" "__init__" "InvalidGame.__init__", dM 26 0 "InvalidPlan" "__init__" "InvalidPlan.__init__", dM 27 0 "InvalidRecord" "__init__" "InvalidRecord.__init__", dM 28 0 "InvalidName" "__init__" "InvalidName.__init__", dM 29 0 "ByZero" "__init__" "ByZero.__init__", dM 30 0 "NoSystem" "__init__" "NoSystem.__init__", dM 31 0 "NotFair" "__init__" "NotFair.__init__", dM 32 0 "Outside" "__init__" "Outside.__init__", dM 33 0 "NotBrought" "__init__" "NotBrought.__init__", dM 34 0 "TooMany" "__init__" "TooMany.__init__", dM 35 0 "TooRich" "__init__" "TooRich.__init__", dM 36 0 "TooGreat" "__init__" "TooGreat.__init__", dM 37 0 "NotLet" "__init__" "NotLet.__init__", dM 38 0 "NotAsked" "__init__" "NotAsked.__init__", dM 39 0 "NoThing" "__init__" "NoThing.__init__", dM 40 0 "NothingToUndo" "__init__" "NothingToUndo.__init__", dG 73 "law"]
def fa : List He.Fa := fa0
def fn : List He.DefD := fn0 ++ (fn1)
def exA (K : PySem.W.Frag) : List Bool := [He.tupB K "LANGUAGE_WORDS" (barred.map He.Dv.str),
  He.eqO (PySem.W.findIn K (.ref (He.ga K "Space")) "__eq__") (some (some (.ref (He.ma K (He.ga K "Space") "__eq__")))),
  PySem.W.isFn K (.ref (He.ma K (He.ga K "Space") "__eq__")),
  He.eqO (PySem.W.findIn K (.ref (He.ga K "Space")) "__class__") (some (some (.builtin "object.__class__"))),
  decide (PySem.W.mroIn K (He.ga K "Space") (.type "object") = some true),
  PySem.W.keepIn K (.ref (He.ga K "Space")),
  decide (PySem.W.kitOne K (.ref (He.ga K "Space")) (.ref (He.ga K "Space")) = some true),
  PySem.W.notFirst K (He.ga K "Space") (.ref (He.ga K "Space")),
  He.eqO (PySem.W.findIn K (.ref (He.ga K "Ratio")) "__eq__") (some (some (.ref (He.ma K (He.ga K "Ratio") "__eq__")))),
  PySem.W.isFn K (.ref (He.ma K (He.ga K "Ratio") "__eq__")),
  He.eqO (PySem.W.findIn K (.ref (He.ga K "Ratio")) "__class__") (some (some (.builtin "object.__class__"))),
  decide (PySem.W.mroIn K (He.ga K "Ratio") (.type "object") = some true),
  PySem.W.keepIn K (.ref (He.ga K "Ratio")),
  decide (PySem.W.kitOne K (.ref (He.ga K "Ratio")) (.ref (He.ga K "Ratio")) = some true),
  PySem.W.notFirst K (He.ga K "Ratio") (.ref (He.ga K "Ratio")),
  He.eqO (PySem.W.nsIn K mainGlobals "gcd") (some (some (.builtin "math.gcd"))),
  decide (PySem.W.specialIn K (.builtin "object.__class__") "__get__" = some (some (.builtin "getset_descriptor.__get__"))),
  decide (PySem.W.takesIn K (.builtin "object.__class__") = some true),
  (PySem.W.clsIn K (He.ga K "PatchError")).isSome,
  decide (PySem.W.typeIn K (.ref (He.ga K "PatchError")) = some (.type "type")),
  decide (PySem.W.subIn K (.ref (He.ga K "PatchError")) (.type "BaseException") = some true),
  PySem.W.hasDictIn K (He.ga K "PatchError"),
  decide (((("PatchError" : Str) :: exs.map fun e => e.1).map (He.ga K)).Nodup),
  (K.lookup sysModules).isSome]
def exK (K : PySem.W.Frag) : Bool := exs.all fun e => exTB K (He.ga K "PatchError") (He.ga K e.1) (He.ma K (He.ga K e.1) "__init__") e.2
def exL (K : PySem.W.Frag) : List Bool := exA K ++ [exK K]
def exB (K : PySem.W.Frag) : Bool := (exL K).all id
theorem exs_ {K : PySem.W.Frag} (h : exB K = true) (i : Nat) {b : Bool} (e : (exL K)[i]? = some b) : b = true := by
  have := List.all_eq_true.mp h b (List.mem_of_getElem? e)
  exact this
abbrev R : PySem.W.OpenRow := PySem.W.OpenLaw.row PySem.Challenge.rw_fairpatch_k00_errors
def names : List Str := (["_wall", "__name__", "PatchError", "InvalidNumber", "InvalidLots", "InvalidLot", "InvalidPayoff", "InvalidNames", "InvalidStore", "InvalidValues", "InvalidText", "InvalidSystem", "InvalidUnit", "InvalidBody", "InvalidSteps", "InvalidSummaries", "InvalidRow", "InvalidPick", "InvalidBlend", "InvalidCode"] : List Str) ++ (["InvalidLines", "InvalidAnswer", "InvalidPart", "InvalidEdition", "InvalidGame", "InvalidPlan", "InvalidRecord", "InvalidName", "ByZero", "NoSystem", "NotFair", "Outside", "NotBrought", "TooMany", "TooRich", "TooGreat", "NotLet", "NotAsked", "NoThing", "NothingToUndo"] : List Str) ++ (["is_whole", "is_whole_from", "Ratio", "LETTERS", "LONGEST_WORD", "LANGUAGE_WORDS", "MOST_NAMES", "LEAST_SIZE", "GREATEST_SIZE", "MOST_STORES", "is_word", "is_sized_name", "stores_of_sizes", "are_space_names", "Space", "_law_cell", "_law_box", "_law_take", "_law_by_place", "_law_by_name"] : List Str) ++ (["_law_several", "_law_sorts", "_law_kept", "_law_is", "_law_thing", "_law_all_right", "_law_raised", "_law_caught"] : List Str)
/-- what an object leads to: of a class its names only -/
def rf (o : Obj) : List Addr := match o.data with
  | .seq its _ => its.toList.flatMap He.refV
  | .dict es _ => es.toList.flatMap fun e => He.refV e.val
  | .func fd => He.refV fd.code ++ (He.refV fd.defaults ++ He.refV fd.kwdefaults)
  | .cls cd => [cd.ns]
  | _ => []
/-- what the globals reach in n steps, step by step; nothing is struck out -/
def ft (g : Addr → Option Obj) : Nat → List Addr → List Addr
  | 0, as => as
  | n + 1, as => as ++ ft g n (as.flatMap fun a => match g a with
    | some o => rf o
    | none => [])
def obK (g : Addr → Option Obj) : He.AlX := (He.obsT fa fn [] (He.frT g (ft g 5 [mainGlobals, sysModules])), exB (He.frT g (ft g 5 [mainGlobals, sysModules])))
def hk : PySem.W.Hook where
  α := He.AlX
  obs := fun s => obK s.heap.get?
  val := fun w => (He.valT fn [] w, true)
  says := fun w h => ∃ K : PySem.W.Frag, K.In h ∧ He.SaysX fa fn [] [] exB w h K
  of := fun _ _ e => ⟨_, He.frT_in, ⟨congrArg (fun z : He.AlX => z.1) e, congrArg (fun z : He.AlX => z.2) e, (fun p hp => by cases hp), (fun p hp => by cases hp), (fun p hp => by cases hp)⟩⟩
  keeps := fun _ _ _ ⟨K, hK, c⟩ k => ⟨K, PySem.W.Frag.In.keeps hK k, ⟨c.t, c.more, c.hd, c.out, fun p hp => k _ _ (c.empty p hp)⟩⟩
def ob (s : PySem.W.SharedT) : He.AlX := obK (HandSHeadRun.getT s)
theorem ob_eq (s : PySem.W.SharedT) : ob s = hk.obs s.abs := by
  have e : HandSHeadRun.getT s = s.abs.heap.get? := funext (HandSHeadRun.getT_eq s)
  show obK (HandSHeadRun.getT s) = obK s.abs.heap.get?
  rw [e]
abbrev Kx (x : PySem.Shared × PySem.W.SharedT) : PySem.W.Frag := He.frT (HandSHeadRun.getT x.2) (ft (HandSHeadRun.getT x.2) 5 [mainGlobals, sysModules])
noncomputable abbrev An (w : World) : Option (PySem.Shared × PySem.W.SharedT) := HandSHeadRun.wholeF (fun p => HandSHeadRun.stepQ (HandSHeadRun.denQ HandSHeadRun.tabQ) p w) HandSHeadRun.fenceQ 16000 R.prog
/-- the run ends in one state, that keeps P -/
def Ev {α : Type} (a : Option α) (P : α → Prop) : Prop := ∃ x, a = some x ∧ P x
theorem Ev.of {α β : Type} {a : Option α} {f : α → β} {v : β} (h : a.map f = some v) : Ev a fun x => f x = v := by
  obtain ⟨x, e, q⟩ := Option.map_eq_some_iff.mp h
  exact ⟨x, e, q⟩
theorem Ev.and {α : Type} {a : Option α} {P Q : α → Prop} (h : Ev a P) (h2 : Ev a Q) : Ev a fun x => P x ∧ Q x := by
  obtain ⟨x, e, p⟩ := h
  obtain ⟨y, e2, q⟩ := h2
  rw [e] at e2
  cases e2
  exact ⟨x, e, p, q⟩
theorem Ev.to {α β : Type} {a : Option α} {f : α → β} {v : β} (h : Ev a fun x => f x = v) : a.map f = some v := by
  obtain ⟨x, e, q⟩ := h
  rw [e]
  exact congrArg some q
theorem run0 (w : World) : (An w).map (fun x => (HandSHeadRun.looksF R.prog x.1.heap x.2.abs, HandSHeadRun.seenQ (PySem.W.view R.prog [0, 73]) names (importedModules R.prog.main.body) (fun s => PySem.W.xlAt (PySem.W.view R.prog [0, 73]) [] s && PySem.W.recOk R.toRowW.records s) x.2.abs)) = some (true, PySem.W.openGood (PySem.W.view R.prog [0, 73]) names) := by
  kernel_rfl
theorem runA0 (w : World) : (An w).map (fun x => fa0.all fun f => f.ok (Kx x)) = some true := by
  kernel_rfl
theorem runF0 (w : World) : (An w).map (fun x => (fn0.all fun d => d.ok (Kx x), fn0.map fun d => He.fnW (Kx x) d.at_)) = some (true, fn0.map He.DefD.val) := by
  kernel_rfl
theorem runF1 (w : World) : (An w).map (fun x => (fn1.all fun d => d.ok (Kx x), fn1.map fun d => He.fnW (Kx x) d.at_)) = some (true, fn1.map He.DefD.val) := by
  kernel_rfl
theorem runE (w : World) : (An w).map (fun x => (exA (Kx x)).all id) = some true := by
  kernel_rfl
theorem runK (w : World) : (An w).map (fun x => exK (Kx x)) = some true := by
  kernel_rfl
theorem fa_all {K : PySem.W.Frag} (h0 : (fa0.all fun f => f.ok K) = true) : (fa.all fun f => f.ok K) = true := by
  unfold fa
  exact h0
theorem fn_all_ {K : PySem.W.Frag} (h0 : (fn0.all fun f => f.ok K) = true) (h1 : (fn1.all fun f => f.ok K) = true) : (fn.all fun f => f.ok K) = true := by
  unfold fn
  simp only [List.all_append, h0, h1, Bool.and_self]
theorem fn_map_ {K : PySem.W.Frag} (h0 : (fn0.map fun d => He.fnW K d.at_) = fn0.map He.DefD.val) (h1 : (fn1.map fun d => He.fnW K d.at_) = fn1.map He.DefD.val) : (fn.map fun d => He.fnW K d.at_) = fn.map He.DefD.val := by
  unfold fn
  simp only [List.map_append, h0, h1]
theorem exB_of {K : PySem.W.Frag} (h1 : (exA K).all id = true) (h2 : exK K = true) : exB K = true := by
  unfold exB exL
  rw [List.all_append, h1, List.all_cons, List.all_nil]
  show (true && (exK K && true)) = true
  rw [h2]
  rfl
theorem ob_of {x : PySem.Shared × PySem.W.SharedT} {w : World} (h1 : (fa.all fun f => f.ok (Kx x)) = true) (h2 : (fn.all fun f => f.ok (Kx x)) = true) (h3 : (fn.map fun d => He.fnW (Kx x) d.at_) = fn.map He.DefD.val) (h4 : exB (Kx x) = true) : ob x.2 = hk.val w := by
  show ((((fa.all fun f => f.ok (Kx x)) && fn.all fun d => d.ok (Kx x), fn.map fun d => He.fnW (Kx x) d.at_), ([] : List (Option (List (Option (Str × Int)))))), exB (Kx x)) = (((true, fn.map He.DefD.val), []), true)
  rw [h1, h2, h3, h4]
  rfl
theorem run (w : World) : HandSHeadRun.RunEqI R (PySem.W.view R.prog [0, 73]) hk ob 16000 names w := by
  unfold HandSHeadRun.RunEqI
  have e := (((((Ev.of (run0 w)).and (Ev.of (runA0 w))).and (Ev.of (runF0 w))).and (Ev.of (runF1 w))).and (Ev.of (runE w))).and (Ev.of (runK w))
  refine Ev.to (a := An w) ?_
  obtain ⟨x, ex, ⟨⟨⟨⟨⟨h0, hA0⟩, hF0⟩, hF1⟩, hE⟩, hK⟩⟩ := e
  refine ⟨x, ex, ?_⟩
  have c0 := Prod.mk.inj h0
  have cF0 := Prod.mk.inj hF0
  have cF1 := Prod.mk.inj hF1
  exact Prod.ext c0.1 (Prod.ext c0.2 (ob_of (fa_all hA0) (fn_all_ cF0.1 cF1.1) (fn_map_ cF0.2 cF1.2) (exB_of hE hK)))
end K00
set_option Elab.async false
set_option linter.all false
set_option maxRecDepth 100000
set_option maxHeartbeats 8000000
/-! HxY: such a class called, with keywords too -/
namespace PySem
namespace HxY
open PySem.W PySem.Calls PyProof.Rows PySem.HandSPX
section
variable {prog : Program} {w : World} {M : Model} {A : Around} {E : Value → Shared → Prop} {R : Result → Shared → Prop} {hp : Heap} {gs : Array GenState} {dr : Drawn} {tk : Nat} {os : OsState} {K : Frag} {PE C fI : Addr} {fl : List Str} {us : List Value} {ks : List (Str × Value)}
theorem veq (T : String) : (Value.ref PE :: veTail).contains (.type T) = veTail.contains (.type T) := by rw [List.contains_cons]; rfl
theorem new_fits {Q : Unit → Shared → Prop} (T : L2.ExT K PE C fI fl) (X : K.In hp) (q : Q () ⟨hp, gs, dr, tk, os⟩) : wpAny M A (checkBuiltinCall "ValueError.__new__" ⟨.ref C :: us, ks⟩) Q E ⟨hp, gs, dr, tk, os⟩ := by
  obtain ⟨nm, q0, N, bs, sn, sub, ab, col, dd, k0, k1, k2, k3, k5, hC0⟩ := T.lk
  have hC := X _ _ hC0
  have F := F.excBase_ValueError
  have h1 : (Value.ref C :: (Value.ref PE :: veTail)).contains (.type "ValueError") = true := by rw [List.contains_cons, veq, show veTail.contains (Value.type "ValueError") = true by decide +kernel, Bool.or_true]
  have h2 := F.noStar
  simp only [checkBuiltinCall, F.newKind, F.newSplit, F.newRow]
  repeat (first
    | refine wpAny_loadPart_at hC ?_
    | (refine wpAny_isSubtype_exc hC ?_
       rw [h1])
    | refine wpAny_staticBase_exc hC ?_
    | refine wpAny_madeBy_exc hC ?_
    | simp only [bne_self_eq_false, Bool.false_eq_true, if_false]
    | wp_step)
  exact q
theorem new_made (T : L2.ExT K PE C fI fl) (X : K.In hp) (hl : us.length ≤ sizeLine)
    (q : R (.ok (.ret (.ref (hp.objs.size + 1)))) ⟨(hp.push (kdv_tup us)).push (excO C hp.objs.size), gs, dr, tk, os⟩) : codeAny (model prog w) A (.builtin "ValueError.__new__" ⟨.ref C :: us, ks⟩) R ⟨hp, gs, dr, tk, os⟩ := by
  obtain ⟨nm, q0, N, bs, sn, sub, ab, col, dd, k0, k1, k2, k3, k5, hC0⟩ := T.lk
  have hC := X _ _ hC0
  have F := F.excBase_ValueError
  have hends := F.ends
  have hcB : (Value.ref C :: (Value.ref PE :: veTail)).contains (.type "ValueError") = true := by rw [List.contains_cons, veq, show veTail.contains (Value.type "ValueError") = true by decide +kernel, Bool.or_true]
  have hcA : (Value.ref C :: (Value.ref PE :: veTail)).contains (.type "AttributeError") = false := by rw [List.contains_cons, veq, show veTail.contains (Value.type "AttributeError") = false by decide +kernel]; rfl
  have hcN : (Value.ref C :: (Value.ref PE :: veTail)).contains (.type "NameError") = false := by rw [List.contains_cons, veq, show veTail.contains (Value.type "NameError") = false by decide +kernel]; rfl
  refine codeAny_builtinAt F.entry ?_
  unfold Builtin.«BaseException.__new__»
  refine wpAt_bind ?_
  show wpAt _ _ _ (stack >>= _) _ _ _
  refine wpAt_bind (wpAt_stack fun p below => wpAt_of_wpAny ?_)
  wp_walk
  refine wpAt_of_wpAny ?_
  rw [F.owner]
  repeat (first
    | with_reducible refine wpAny_madeHere_exc F.canon hC ?_
    | with_reducible refine wpAny_loadPart_at hC ?_
    | (with_reducible refine wpAny_isSubtype_exc hC ?_
       first
         | rw [hcB]
         | rw [hcA]
         | rw [hcN])
    | wp_step)
  show R _ _
  rw [Heap.size_push]
  exact q
theorem tcall {Q : Fin → Shared → Prop} (T : L2.ExT K PE C fI fl) (X : K.In hp) (hl : us.length ≤ sizeLine)
    (hq : codeAny (model prog w) A (.call (.ref fI) ⟨.ref (hp.objs.size + 1) :: us, ks⟩)
      (fun r s' => match r with
        | .ok (.ret v) => v = .none ∧ Q (.done (.ret (.ref (hp.objs.size + 1)))) s'
        | .ok _ => False
        | .error e => E e s') ⟨(hp.push (kdv_tup us)).push (excO C hp.objs.size), gs, dr, tk, os⟩) :
    wpAny (model prog w) A (Builtin.«type.__call__» ⟨.ref C :: us, ks⟩) Q E ⟨hp, gs, dr, tk, os⟩ := by
  obtain ⟨nm, q0, N, bs, sn, sub, ab, col, dd, k0, k1, k2, k3, k5, hC0⟩ := id T.lk
  have hC := X _ _ hC0
  have FV := F.excBase_ValueError
  repeat (first
    | with_reducible refine wpAny_loadPart_at hC ?_
    | with_reducible refine wpAny_madeBy_exc hC ?_
    | wp_step)
  refine codeAny_call_builtin_code (Code.quiet_builtin _ FV.quiet) (new_fits T X ?_)
  refine new_made T X hl ?_
  show wpAny _ _ _ _ _ _
  have k : ∀ b o, hp.get? b = some o → ((hp.push (kdv_tup us)).push (excO C hp.objs.size)).get? b = some o := fun b o e => Heap.get?_push_of_some _ (Heap.get?_push_of_some _ e)
  have hC2 := k _ _ hC
  have X2 : K.In ((hp.push (kdv_tup us)).push (excO C hp.objs.size)) := X.keeps k
  have hnew : ((hp.push (kdv_tup us)).push (excO C hp.objs.size)).get? (hp.objs.size + 1) = some (excO C hp.objs.size) := by heap_get
  have hself : (Value.ref C :: (Value.ref PE :: veTail)).contains (.ref C) = true := by simp
  have i1 := looks_findIn (M := model prog w) X2 T.iC
  have b1 := bind_fn (M := model prog w) X2 (.ref (hp.objs.size + 1)) T.tI
  unfold isInstance
  repeat (first
    | with_reducible refine wpAny_loadPart_at hnew ?_
    | (with_reducible refine wpAny_isSubtype_exc hC2 ?_
       rw [hself])
    | wp_step)
  show wpAny _ _ (typeLookup (.ref C) _) _ _ _
  refine i1.at ?_
  refine wpAny_holding (wpAny_bind (b1.at ?_))
  refine wpAny_bind (wpAny_call (codeAny_mono hq fun r s' z => ?_))
  rcases r with e | (v | _ | _ | _) <;> first | exact z | exact z.elim | skip
  obtain ⟨rfl, z⟩ := z
  first
    | exact wpAny_pure (wpAny_pure z)
    | (wp_walk; exact z)
theorem tc_fits {Q : Unit → Shared → Prop} (T : L2.ExT K PE C fI fl) (X : K.In hp) (q : Q () ⟨hp, gs, dr, tk, os⟩) : wpAny M A (checkBuiltinCall "type.__call__" ⟨.ref C :: us, ks⟩) Q E ⟨hp, gs, dr, tk, os⟩ := by
  obtain ⟨nm, q0, N, bs, sn, sub, ab, col, dd, k0, k1, k2, k3, k5, hC0⟩ := id T.lk
  have hC := X _ _ hC0
  have f3 := tc_sub
  have hTy : (⟨hp, gs, dr, tk, os⟩ : Shared).TypeIs (.ref C) "type" := ⟨_, hC, rfl⟩
  simp only [checkBuiltinCall, tc_kind, tc_split]
  repeat (any_goals (first
    | assumption
    | with_reducible refine wpAny_loadPart_at hC ?_
    | with_reducible refine wpAny_onRaise ?_
    | with_reducible refine wpAny_map ?_
    | wp_step))
theorem call_ex (T : L2.ExT K PE C fI fl) (X : K.In hp) (hl : us.length ≤ sizeLine)
    (hq : codeAny (model prog w) (A.under (.builtin "type.__call__" ⟨.ref C :: us, ks⟩)) (.call (.ref fI) ⟨.ref (hp.objs.size + 1) :: us, ks⟩) (InitBack (hp.objs.size + 1) R) ⟨(hp.push (kdv_tup us)).push (excO C hp.objs.size), gs, dr, tk, os⟩) :
    codeAny (model prog w) A (.call (.ref C) ⟨us, ks⟩) R ⟨hp, gs, dr, tk, os⟩ := by
  obtain ⟨nm, q0, N, bs, sn, sub, ab, col, dd, k0, k1, k2, k3, k5, hC0⟩ := id T.lk
  have hC := X _ _ hC0
  have f1 := tc_lookup
  have f2 := tc_bind (.ref C)
  have f3 := tc_sub
  have hTy : (⟨hp, gs, dr, tk, os⟩ : Shared).TypeIs (.ref C) "type" := ⟨_, hC, rfl⟩
  refine codeAny_of_tree ?_
  show wpAny _ _ (callAny (.ref C) _) _ _ _
  repeat (any_goals (first
    | assumption
    | with_reducible refine wpAny_loadPart_at hC ?_
    | wp_step))
  refine ⟨rfl, ?_⟩
  refine codeAny_call_builtin_at (Code.quiet_builtin _ (by decide +kernel)) entry_typeCall (tc_fits T X (tcall T X hl ?_))
  refine codeAny_mono hq fun r s' z => ?_
  rcases r with e | (v | _ | _ | _) <;> exact z
end
end HxY
end PySem
/-! HxZ: exceptions of such classes as values: made, their fields read, isinstance, raised -/
namespace L2
open PySem PySem.Spec PyProof.Rows C8
/-- what __init__ does: each field is stored -/
def spXI (C : Addr) (fl : List Str) : Sp := fun vs H Q _ => ∃ (a : Addr) (us : List V), vs = .ref a :: us ∧ us.length = fl.length ∧ H a = some (exo a C none) ∧ (fl = [] → Q .non H) ∧
  (fl ≠ [] → ∀ d H', H d = none → d ≠ a → H' a = some (exo a C (some d)) → H' d = some (exd d (fl.zip us).reverse) → (∀ b, b ≠ a → b ≠ d → H' b = H b) → Q .non H')
/-- at a, tracked or held by a pin of pn: an exception of the class at C, its dict at d -/
def XObj (pn : List (Addr × Obj)) (H : Hp) (a C : Addr) (d : Option Addr) : Prop := H a = some (exo a C d) ∨ ∃ oe, (a, oe) ∈ pn ∧ Zc (.ref C) d oe ∧ ∃ vs, oe.data = .fields vs
/-- .. with the fields fs -/
def XV (pn : List (Addr × Obj)) (H : Hp) (a C : Addr) (fs : List (Str × V)) : Prop := ∃ d, XObj pn H a C d ∧ ((d = none ∧ fs = []) ∨ ∃ dx, d = some dx ∧ H dx = some (.xd fs))
theorem XObj.mono {pn : List (Addr × Obj)} {H H' : Hp} {a C : Addr} {d : Option Addr} (x : XObj pn H a C d) (e : Evl.Ex H H') : XObj pn H' a C d := by
  rcases x with x | x
  · exact .inl (e _ _ x)
  · exact .inr x
theorem XV.mono {pn : List (Addr × Obj)} {H H' : Hp} {a C : Addr} {fs : List (Str × V)} (x : XV pn H a C fs) (e : Evl.Ex H H') : XV pn H' a C fs := by
  obtain ⟨d, x, q⟩ := x
  refine ⟨d, x.mono e, ?_⟩
  rcases q with q | ⟨dx, q1, q2⟩
  · exact .inl q
  · exact .inr ⟨dx, q1, e _ _ q2⟩
/-- C(..), called with n values and keywords ks, that fill the parameters in the order perm -/
structure MakX (P : Program) (w : World) (K : PySem.W.Frag) (mg : Str → Option Value) (base : Heap) (k : Nat) (x : Str) (Pe C : Addr) (fl : List Str) (n : Nat) (ks : List Str) (perm : List Nat) : Prop where
  ex : ∃ fI fd, ExT K Pe C fI fl ∧ mg x = some (.ref C) ∧ FnOk P w K mg base CX0 k fI fd ("self" :: fl) (spXI C fl) ∧ KBn K fd ("self" :: fl) (n + 1) ks (gP perm) (gP perm)
  small : fl.length ≤ 100
/-- the reading: the values in the order of the fields -/
def rMkX (C : Addr) (fl : List Str) (ws : List V) : Hp → VK → Prop := fun H Q => ws.length = fl.length ∧ ∀ a H', H a = none → Evl.Ex H H' → (∀ pn, XV pn H' a C (fl.zip ws).reverse) → (∃ d, H' a = some (exo a C d)) → Q (.ref a) H'
section
variable {X : Cx} {k j n : Nat} {x : Str} {Pe C fI : Addr} {fl ks : List Str} {perm : List Nat} {fd : FuncData}
theorem lenV {vs : List V} {us : List Value} (r : Vals vs us) : vs.length = us.length := Paired.length r
theorem run_mkX {pins : List (Addr × Obj)} {σ : St} {H : Hp} {s : Shared} {Q : VK} {us ws : List Value} {vs zs : List V} (T : ExT X.K Pe C fI fl) (F1 : FnOk X.prog X.w X.K X.mg X.base CX0 k fI fd ("self" :: fl) (spXI C fl)) (hr : Room (k + 1) X.A) (hb : KBn X.K fd ("self" :: fl) (n + 1) ks (gP perm) (gP perm)) (hs : fl.length ≤ 100)
    (I : Inv X pins σ H s) (r : Vals vs us) (rz : Vals zs ws) (l1 : vs.length = n) (l2 : zs.length = ks.length) (hn : n ≤ 100) (h : rMkX C fl (gP perm vs zs) H Q) : wpAny (model X.prog X.w) X.A (call (.ref C) us (ks.zip ws)) (EP X pins σ Q) X.xe s := by
  obtain ⟨hl, h⟩ := h
  obtain ⟨hp, g, dr, tk, os⟩ := s
  have hsz : hp.objs.size ≤ hp.objs.size + 1 := Nat.le_succ _
  have hnone : H (hp.objs.size + 1) = none := I.hok.fresh hsz
  have kk : ∀ b o, hp.get? b = some o → ((hp.push (PySem.W.kdv_tup us)).push (PySem.HandSPX.excO C hp.objs.size)).get? b = some o := fun b o e => Heap.get?_push_of_some _ (Heap.get?_push_of_some _ e)
  have hget : ((hp.push (PySem.W.kdv_tup us)).push (PySem.HandSPX.excO C hp.objs.size)).get? (hp.objs.size + 1) = some (PySem.HandSPX.excO C hp.objs.size) := by heap_get
  have I2 : Inv X pins σ (upd H (hp.objs.size + 1) (exo (hp.objs.size + 1) C none)) ⟨(hp.push (PySem.W.kdv_tup us)).push (PySem.HandSPX.excO C hp.objs.size), g, dr, tk, os⟩ :=
    I.laid (t' := tk) (a := hp.objs.size + 1) (o := exo (hp.objs.size + 1) C none) kk hsz (exo_ok hget)
  have r2 : Vals (gP perm (V.ref (hp.objs.size + 1) :: vs) zs) (gP perm (Value.ref (hp.objs.size + 1) :: us) ws) := hb.rel (.cons rfl r) rz
  have hus : us.length ≤ sizeLine := by
    rw [← lenV r, sizeLine_eq]
    omega
  have hq : spXI C fl (gP perm (V.ref (hp.objs.size + 1) :: vs) zs) (upd H (hp.objs.size + 1) (exo (hp.objs.size + 1) C none)) (fun v H2 => v = .non ∧ ∃ H3, Q (.ref (hp.objs.size + 1)) H3 ∧ ((fl = [] ∧ H3 = H2) ∨ ∃ d, H2 d = some (exd d (fl.zip (gP perm vs zs)).reverse) ∧ H3 = upd H2 d (.xd (fl.zip (gP perm vs zs)).reverse))) (fun _ _ _ => False) := by
    refine ⟨hp.objs.size + 1, gP perm vs zs, rfl, hl, upd_same, fun e => ⟨rfl, _, h _ _ hnone (Evl.Ex.new hnone) (fun pn => ⟨none, .inl upd_same, .inl ⟨rfl, ?_⟩⟩) ⟨_, upd_same⟩, .inl ⟨e, rfl⟩⟩, fun ne d H' hd dne ha hdd ho => ⟨rfl, upd H' d (.xd (fl.zip (gP perm vs zs)).reverse), h _ _ hnone ?_ (fun pn => ⟨some d, .inl ?_, .inr ⟨d, rfl, upd_same⟩⟩) ⟨some d, ?_⟩, .inr ⟨d, hdd, rfl⟩⟩⟩
    · rw [e]; rfl
    · intro b o hb0
      have nb : b ≠ hp.objs.size + 1 := fun z => by rw [z, hnone] at hb0; cases hb0
      have nd : b ≠ d := fun z => by
        rw [upd_ne dne] at hd
        rw [z, hd] at hb0
        cases hb0
      rw [upd_ne nd, ho b nb nd, upd_ne nb]
      exact hb0
    · rw [upd_ne (Ne.symm dne)]; exact ha
    · exact (upd_ne (Ne.symm dne)).trans ha
  refine wpAny_call (PySem.HxY.call_ex T I.kIn hus (codeAny_mono (F1.run _ X.stack _ _ ⟨Value.ref (hp.objs.size + 1) :: us, ks.zip ws⟩ (gP perm (Value.ref (hp.objs.size + 1) :: us) ws) _ _ (fun _ _ _ => False) (hr.make C us (ks.zip ws))
    (I2.env0.make C us (ks.zip ws)) (hb.to _ (Value.ref (hp.objs.size + 1) :: us) ws I2.kIn (by rw [List.length_cons, ← lenV r, l1]) (by rw [← lenV rz, l2])) r2 hq) fun r s' hq' => ?_))
  cases r with
  | error er => exact absurd hq' (fun z => by exact id z)
  | ok fl' =>
    cases fl' with
    | ret u =>
      obtain ⟨v, H2, I3, rv, ev, H3, q, q3⟩ := I2.after hq'
      subst ev
      refine ⟨rv, .ref (hp.objs.size + 1), H3, ?_, rfl, q⟩
      rcases q3 with ⟨_, rfl⟩ | ⟨d, hd, rfl⟩
      · exact I3
      · obtain ⟨mA, hns, rel⟩ := exd_at I3.hok hd
        have he : ∃ o, s'.heap.get? d = some o := by
          obtain ⟨o, _, _, e', _⟩ := hns
          exact ⟨o, e'⟩
        obtain ⟨h2, g2, d2, t2, os'⟩ := s'
        exact I3.write (t' := t2) (x := d) (e := d) (o := .xd _) (by rw [hd]; exact True.intro) (.inl rfl) (fun b u _ z => z) he ⟨mA, hns, rel⟩
    | next => exact False.elim hq'
    | brk => exact False.elim hq'
    | cont => exact False.elim hq'
variable {e : Expr} {es : List Expr} {kws : List Keyword} {t tk : TA} {te : TE} {p pos apos : Pos} {f : Str}
/-- C(e, ..) -/
theorem pe_mkX (c : MakX X.prog X.w X.K X.mg X.base k x Pe C fl n [] []) (hr : Room j X.A) (hk : k + 1 ≤ j) (hg : Gl X x) (hn : n ≤ 100) (ha : PA X (e :: es) t) (hdb : (x == ("__debug__" : Str)) = false := by decide)
    (he : starEach (e :: es) X.env = (false, eval e X.env) :: starEach es X.env := by rfl) (hpl : (backTo pos (starEach es X.env)).any (·.1) = false := by rfl) :
    PE X (.Call (.Name x p) (e :: es) [] pos) (fun σ H Q => t σ H fun vs H1 => vs.length = n ∧ rMkX C fl vs H1 Q) := by
  obtain ⟨fI, fd, T, hm, F, b⟩ := c.ex
  refine ⟨fun pins s σ H Q I h => ?_⟩
  refine wpAny_Call_Name_kw (ld_glob I hg hm ?_ hdb)
  refine PySem.W.callWith_K (h₀ := X.base) I.ok.mod.kin T.kC (thn (ha.run pos pins s σ H _ I h) fun us s1 ⟨vs, H1, I1, r, l1, q⟩ => ⟨I1.kIn, ?_⟩) he hpl
  have q2 : rMkX C fl (gP [] vs []) H1 Q := by
    unfold gP
    rw [List.flatMap_nil, List.append_nil]
    exact q
  exact run_mkX (ks := []) (ws := []) (zs := []) T F (hr.mono hk) b c.small I1 r .nil l1 rfl hn q2
/-- C() -/
theorem pe_mkX0 (c : MakX X.prog X.w X.K X.mg X.base k x Pe C fl 0 [] []) (hr : Room j X.A) (hk : k + 1 ≤ j) (hg : Gl X x) (hdb : (x == ("__debug__" : Str)) = false := by decide) :
    PE X (.Call (.Name x p) [] [] pos) (fun σ H Q => rMkX C fl [] H Q) := by
  obtain ⟨fI, fd, T, hm, F, b⟩ := c.ex
  refine ⟨fun pins s σ H Q I h => ?_⟩
  refine wpAny_Call_Name_kw (ld_glob I hg hm ?_ hdb)
  exact PySem.W.callWith_K0 I.kIn T.kC (run_mkX (us := []) (vs := []) (ks := []) (ws := []) (zs := []) T F (hr.mono hk) b c.small I .nil .nil rfl rfl (Nat.zero_le _) h)
/-- C(e, .., k = v, ..) -/
theorem pe_mkXK (c : MakX X.prog X.w X.K X.mg X.base k x Pe C fl n ks perm) (hr : Room j X.A) (hk : k + 1 ≤ j) (hg : Gl X x) (hn : n ≤ 100) (ha : PA X (e :: es) t) (hkw : PK X kws tk)
    (hall : (backToKw pos (keywordEach kws X.env)).all (·.1.isSome) = true := by rfl) (hks : (backToKw pos (keywordEach kws X.env)).filterMap (·.1) = ks := by rfl) (hdb : (x == ("__debug__" : Str)) = false := by decide)
    (he : starEach (e :: es) X.env = (false, eval e X.env) :: starEach es X.env := by rfl) (hpl : ((backTo pos (starEach (e :: es) X.env)).any (·.1) || (backToKw pos (keywordEach kws X.env)).any (·.1.isNone)) = false := by rfl) :
    PE X (.Call (.Name x p) (e :: es) kws pos) (fun σ H Q => t σ H fun vs H1 => tk σ H1 fun zs H2 => vs.length = n ∧ zs.length = ks.length ∧ rMkX C fl (gP perm vs zs) H2 Q) := by
  obtain ⟨fI, fd, T, hm, F, b⟩ := c.ex
  refine ⟨fun pins s σ H Q I h => ?_⟩
  refine wpAny_Call_Name_kw (ld_glob I hg hm ?_ hdb)
  refine PySem.W.callWith_KW (h₀ := X.base) I.ok.mod.kin T.kC hall (thn (ha.run pos pins s σ H _ I h) fun us s1 ⟨vs, H1, I1, r, q⟩ => ?_) hpl he
  refine thn (hkw.run pos pins s1 σ H1 _ I1 q) fun ws s2 ⟨zs, H2, I2, rz, l1, l2, q2⟩ => ⟨I2.kIn, ?_⟩
  rw [hks]
  exact run_mkX T F (hr.mono hk) b c.small I2 r rz l1 l2 hn q2
/-- C(k = v, ..) -/
theorem pe_mkXK0 (c : MakX X.prog X.w X.K X.mg X.base k x Pe C fl 0 ks perm) (hr : Room j X.A) (hk : k + 1 ≤ j) (hg : Gl X x) (hkw : PK X kws tk)
    (hall : (backToKw pos (keywordEach kws X.env)).all (·.1.isSome) = true := by rfl) (hks : (backToKw pos (keywordEach kws X.env)).filterMap (·.1) = ks := by rfl) (hdb : (x == ("__debug__" : Str)) = false := by decide)
    (hpl : ((backTo pos (starEach [] X.env)).any (·.1) || (backToKw pos (keywordEach kws X.env)).any (·.1.isNone)) = false := by rfl) :
    PE X (.Call (.Name x p) [] kws pos) (fun σ H Q => tk σ H fun zs H2 => zs.length = ks.length ∧ rMkX C fl (gP perm [] zs) H2 Q) := by
  obtain ⟨fI, fd, T, hm, F, b⟩ := c.ex
  refine ⟨fun pins s σ H Q I h => ?_⟩
  refine wpAny_Call_Name_kw (ld_glob I hg hm ?_ hdb)
  refine PySem.W.callWith_KW0 (h₀ := X.base) I.ok.mod.kin T.kC hall ?_ hpl
  refine thn (hkw.run pos pins s σ H _ I h) fun ws s2 ⟨zs, H2, I2, rz, l2, q2⟩ => ⟨I2.kIn, ?_⟩
  rw [hks]
  exact run_mkX (us := []) (vs := []) T F (hr.mono hk) b c.small I2 .nil rz rfl l2 (Nat.zero_le _) q2
/-- what stands at such an exception's address -/
theorem XObj.at_ {pins : List (Addr × Obj)} {σ : St} {H : Hp} {s : Shared} {a : Addr} {d : Option Addr} (I : Inv X pins σ H s) (x : XObj X.pn H a C d) : ∃ ox, s.heap.get? a = some ox ∧ ox.cls = .ref C ∧ ox.dict = d ∧ PySem.W.notCls ox = true := by
  rcases x with x | ⟨oe, hp, z, vs, hv⟩
  · obtain ⟨t1, h⟩ := exo_at I.hok x
    exact ⟨_, h, rfl, rfl, rfl⟩
  · exact ⟨oe, (I.pin (a, oe) (List.mem_append_left _ hp)).1, z.1, z.2, by unfold PySem.W.notCls; rw [hv] <;> rfl⟩
theorem xd_at {H : Hp} {P : Program} {w : World} {h : Heap} {d : Addr} {fs : List (Str × V)} (hok : HOk P w H h) (e : H d = some (.xd fs)) : ∃ mA, h.Ns1 d mA ∧ ∀ g, RelO (fs.lookup g) (mA g) := by
  have x : ObjOk P w H h d (.xd fs) := hok d _ e
  exact x
/-- e.f -/
theorem pe_xv (he : PE X e te) (hb : attributeBase e f X.env (eval e X.env) = eval e X.env := by rfl) :
    PE X (.Attribute e f pos) (fun σ H Q => te σ H fun y H1 => ∃ (a C Pe fI : Addr) (fl : List Str) (fs : List (Str × V)) (v : V), y = .ref a ∧ ExT X.K Pe C fI fl ∧ f ∈ fl ∧ XV X.pn H1 a C fs ∧ fs.lookup f = some v ∧ Q v H1) := by
  refine ⟨fun pins s σ H Q I h => ?_⟩
  refine attr_of hb (thn (he.run pins s σ H _ I h) fun u s1 hh => ?_)
  obtain ⟨y, H1, I1, ry, a, C, PE, fI, fl, fs, v, rfl, T, hf, ⟨d, hx, hd⟩, l, q⟩ := hh
  obtain rfl : u = Value.ref a := ry
  obtain ⟨ox, h1, h2, h3, h4⟩ := hx.at_ I1
  rcases hd with ⟨_, rfl⟩ | ⟨dx, rfl, hdx⟩
  · cases l
  · obtain ⟨mA, hns, hr⟩ := xd_at I1.hok hdx
    obtain ⟨od, ho, hl⟩ := lookIn_ns hns
    obtain ⟨u, hu, ru⟩ := RelO.some_of (v := v) (o := mA f) (by rw [← l]; exact hr f)
    have J : PySem.W.InstAt s1.heap a ox C (some od) := ⟨h1, h2, h4, by rw [h3]; exact ho⟩
    exact HandSPX.exc_get I1.kIn J T.ga T.gg T.exC (PySem.W.findObj_own T.hdI (T.no f hf) rfl (by rw [hl, hu])) (handed_of ru) ⟨v, H1, I1.tok _, ru, q⟩
/-- isinstance(e, c) -/
def rIsX (K : PySem.W.Frag) (pn : List (Addr × Obj)) : List V → Hp → VK → Prop := fun xs H Q => ∃ (a C Pe fI : Addr) (fl : List Str) (fs : List (Str × V)) (c : V) (cv : Value) (b : Bool), xs = [.ref a, c] ∧ ExT K Pe C fI fl ∧ XV pn H a C fs ∧ ClsV c cv ∧ PySem.W.kitOne K (.ref C) cv = some b ∧ Q (.bl b) H
theorem call_isX : CallR X (.builtin "isinstance") (rIsX X.K X.pn) := by
  intro pins s σ H xs us Q I r h
  obtain ⟨a, C, PE, fI, fl, fs, c, cv, b, rfl, T, ⟨d, hx, hd⟩, hc, hb, q⟩ := h
  obtain ⟨u1, u2, rfl, r1, r2⟩ := vals2 r
  obtain rfl : u1 = Value.ref a := r1
  have e2 := hc.eq r2
  subst e2
  obtain ⟨ox, h1, h2, h3, h4⟩ := hx.at_ I
  have fin : ∀ {od : Option Obj}, PySem.W.InstAt s.heap a ox C od → wpAny (model X.prog X.w) X.A (call (.builtin "isinstance") [.ref a, u2]) (EP X pins σ Q) X.xe s := fun {od} J =>
    PySem.W.kia_one (PySem.W.kitx_exc (od := od) (ox := ox) T.clI T.ga T.gg T.exC T.ac T.cg T.ct T.obC) I.kIn J hb (fun z => nomatch z) fun tk => ⟨.bl b, H, I.kept (t' := tk) fun _ _ z => z, rfl, q⟩
  rcases hd with ⟨rfl, _⟩ | ⟨dx, rfl, hdx⟩
  · exact fin (od := none) ⟨h1, h2, h4, by rw [h3]; exact True.intro⟩
  · obtain ⟨mA, hns, hr⟩ := xd_at I.hok hdx
    obtain ⟨od, ho, hl⟩ := lookIn_ns hns
    exact fin (od := some od) ⟨h1, h2, h4, by rw [h3]; exact ho⟩
/-- what gives such an exception back, new since the def was entered, may be raised -/
theorem pmk_x (hx : X.ex = []) (he : PE X e te) : L2N.PMk X e (fun σ H Q => te σ H fun y H1 => ∃ (a C : Addr) (d : Option Addr), y = .ref a ∧ H1 a = some (exo a C d) ∧ X.H_0 a = none ∧ Raises X (.ref C) ∧ Q (.ref C) d (delH H1 a)) := by
  intro pins s σ H Q I h
  refine wpAny_mono (he.run pins s σ H _ I h) (fun u s1 hu => ?_) fun _ _ z => z
  obtain ⟨v, H1, I1, r1, a, C, d, rfl, ha, h0, hr, q⟩ := hu
  obtain rfl : u = Value.ref a := r1
  obtain ⟨t1, ho⟩ := exo_at I1.hok ha
  obtain ⟨G, gs, ga, J⟩ := I1.untrack (φ := _) ha (fr0_none h0) hx
  refine ⟨a, _, _, { s1 with heap := G }, delH H1 a, .ref C, d, rfl, J, gs, ga, ho, ⟨rfl, rfl, fun vs e => ?_⟩, rfl, rfl, delH_same, rfl, I1.bare, hr, q⟩
  cases e
  rfl
end
end L2
/-! HxW: what runs while the exception p is handled: defs whose promises speak of p, and a list comprehension -/
namespace L2
open PySem PySem.Spec PyProof.Rows C8 HotX
open L2H (RoomH Hot1 PinOk HotC cxH inv_startH PIH PIEH TurnH)

/-- a def called while p is handled; its promise may speak of p -/
structure FnP (p : Addr × Obj) (P : Program) (w : World) (K : PySem.W.Frag) (mg : Str → Option Value) (base : Heap) (k : Nat) (f : Addr) (fd : FuncData) (ps : List Str) (sp : Sp) : Prop where
  len : ∀ vs H Q E, sp vs H Q E → vs.length = ps.length
  run : ∀ (A : Around) (outer : List Env) (s : Shared) (H : Hp) (args : Args) (us : List Value) (vs : List V) (Q : VK), RoomH k A → Hot1 A p → PinOk outer H s p → Env0 P w K mg base A outer s H →
    BindsTo s fd args (ps.zip us) → Vals vs us → sp vs H Q E0 → codeAny (model P w) A (.call (.ref f) args) (CR CX0 outer P w H s Q E0) s
theorem fnP_of {p : Addr × Obj} {P : Program} {w : World} {K : PySem.W.Frag} {mg : Str → Option Value} {base : Heap} {x qual : Str} {params : Arguments} {body : List Stmt} {scope : Scope} {dvs : List V} {kws : List (Str × V)} {f : Addr} {fd : FuncData} {N ps : List Str} {k : Nat} {sp : Sp}
    (F : FunD K x qual params body scope dvs kws f fd) (S : FnScope N ps scope) (len : ∀ vs H Q E, sp vs H Q E → vs.length = ps.length)
    (go : ∀ (cdv : Value) (A : Around) (outer : List Env) (s : Shared) (H : Hp) (vs : List V) (Q : VK), Hot1 A p → RoomH k (A.deeper (envOfC qual scope s.heap.objs.size f cdv)) → sp vs H Q E0 →
      ∃ t, PSs (cxH CX0 P w K mg base N qual scope f cdv A outer s H E0 p) body t ∧ t { nx := fun _ H' => Q .non H', rt := Q } (start N vs) H) : FnP p P w K mg base (k + 1) f fd ps sp := by
  obtain ⟨oc, od, dV, kV, doc, pm, an, cdv, ct, osl, rfl, lk, hcd, _, _⟩ := F.ex
  refine ⟨len, fun A outer s H args us vs Q room hot pin e0 hb r want => ?_⟩
  have count := len _ _ _ _ want
  have kin : K.In s.heap := e0.mod.kin.keeps fun b o e => (e0.bs b o e).1
  have open_ : s.heap.NoLimit := e0.mod.nolimit.keeps fun b o e => (e0.bs b o e).1
  have kinds : ∀ y ∈ ps.zip us, scope.names.lookup y.1 = some .local ∨ (scope.names.lookup y.1 = some .cell ∧ ((cellsFrom (s.heap.objs.size + 1) scope.names []).lookup y.1).isSome = true) := by
    rintro ⟨n, v⟩ hy
    rcases S.par n (List.of_mem_zip hy).1 with q | q
    · exact .inl q
    · exact .inr ⟨q, PySem.W.cellsFrom_some _ _ _ (.inl q)⟩
  refine codeAny_call_function room.depth (kin _ _ lk) rfl S.co S.gen rfl (PySem.W.codeRec_of kin hcd) (hb _ _ _ _ (wpAny_newFunctionEnv_cells S.kind kinds fun env he s1 new => ?_))
  subst he
  refine ⟨open_.keeps new.toInCall.keep, codeAny_func ?_⟩
  obtain ⟨t, ht, hq⟩ := go cdv A outer s H vs Q hot (room.deeper _) want
  have I := inv_startH (CX := CX0) (P := P) (w := w) (E := E0) S pin e0 count r new
  refine wpAny_mono (ht.run [] s1 _ H _ I hq) (fun fl s' done => ?_) fun e s' bad => bad
  cases fl with
  | ret u =>
    obtain ⟨v, σ', H', J, rv, q⟩ := done
    exact ⟨v, H', J.os, J.bare, J.base, J.hok, rv, q⟩
  | next =>
    obtain ⟨σ', H', J, q⟩ := done
    exact ⟨.non, H', J.os, J.bare, J.base, J.hok, rfl, q⟩
  | brk => exact False.elim done.choose_spec.choose_spec.2
  | cont => exact False.elim done.choose_spec.choose_spec.2
/-- .. under its name -/
structure CalP (p : Addr × Obj) (P : Program) (w : World) (K : PySem.W.Frag) (mg : Str → Option Value) (base : Heap) (k : Nat) (x : Str) (sp : Sp) : Prop where
  ex : ∃ f fd ps, FnP p P w K mg base k f fd ps sp ∧ mg x = some (.ref f) ∧ PySem.W.keepIn K (.ref f) = true ∧ Binds K fd ps []
section
variable {X : Cx} {p : Addr × Obj} {j k : Nat} {x : Str} {sp : Sp} {e : Expr} {es : List Expr} {t : TA} {q pos : Pos}
theorem pe_cP (c : CalP p X.prog X.w X.K X.mg X.base k x sp) (hr : RoomH j X.A) (hk : k ≤ j) (hot : Hot1 X.A p) (hp : p ∈ X.pn) (hg : Gl X x) (ha : PA X (e :: es) t) (hdb : (x == ("__debug__" : Str)) = false := by decide)
    (he : starEach (e :: es) X.env = (false, eval e X.env) :: starEach es X.env := by rfl) (hpl : (backTo pos (starEach es X.env)).any (·.1) = false := by rfl) :
    PE X (.Call (.Name x q) (e :: es) [] pos) (fun σ H Q => t σ H fun vs H1 => sp vs H1 Q E0) := by
  obtain ⟨f, fd, ps, F, hm, kp, hb⟩ := c.ex
  refine ⟨fun pins s σ H Q I h => wpAny_Call_Name_kw (ld_glob I hg hm ?_ hdb)⟩
  refine PySem.W.callWith_K (h₀ := X.base) I.ok.mod.kin kp (thn (ha.run pos pins s σ H _ I h) fun us s1 ⟨vs, H1, I1, r, want⟩ => ⟨I1.kIn, ?_⟩) he hpl
  have many : us.length = ps.length := r.length.symm.trans (F.len _ _ _ _ want)
  have b := hb s1 us I1.kIn (by rw [List.append_nil]; exact many)
  rw [List.append_nil] at b
  obtain ⟨z1, z2, z3, z4, z5⟩ := I1.pin p (List.mem_append_left _ hp)
  have pin : PinOk X.stack H1 s1 p := ⟨z1, z2, fun hm => (List.mem_cons.mp (I1.stkSub p.1 hm)).elim z3 z4, z5⟩
  refine wpAny_call (codeAny_mono (F.run X.A X.stack s1 H1 ⟨us, []⟩ us vs Q (hr.mono hk) hot pin I1.env0 b r want) fun r s' done => ?_)
  cases r with
  | error e => exact False.elim done
  | ok fl =>
    cases fl with
    | ret u => exact I1.after done
    | next => exact False.elim done
    | brk => exact False.elim done
    | cont => exact False.elim done
end
/-! ### a list comprehension while an exception is handled -/
abbrev Cx.blkH (X : Cx) (s : Shared) (H : Hp) (scope : Scope) (cenv : Env) (fp : List Addr) : Cx := (X.blk s H scope cenv fp).tr X.pn (fun _ _ => False)
section
variable {X : Cx}
theorem pe_lcH {elt tg iter : Expr} {ifs : List Expr} {scope : Scope} {own : List (Str × Nat)} {pos : Pos} {wi : TI} {g : TG} {tt : TT} {te : TE} (hot : HotC X) (hN : X.N.Nodup) (hi : PIH X tg iter wi) (ok : BlkOk X.N X.env.scope scope own)
    (hg : ∀ (s : Shared) (H : Hp) (C : Addr) (cl : List (Str × Addr)) (fp : List Addr), PG (X.blkH s H scope (compEnvC scope cl C X.env) fp) tg g)
    (ht : ∀ (s : Shared) (H : Hp) (C : Addr) (cl : List (Str × Addr)) (fp : List Addr), PTs (X.blkH s H scope (compEnvC scope cl C X.env) fp) ifs tt)
    (he : ∀ (s : Shared) (H : Hp) (C : Addr) (cl : List (Str × Addr)) (fp : List Addr), PE (X.blkH s H scope (compEnvC scope cl C X.env) fp) elt te)
    (hs : ∀ x, foldedSetIterable iter X.env x = pure x := by intro _; rfl) : PE X (.ListComp elt [⟨tg, iter, ifs, 0⟩] scope pos) (tLc wi g tt te (own.map (·.2))) := by
  refine ⟨fun pins s σ H Q I h => ?_⟩
  rw [eval_ListComp]
  have free_ : ∀ y ∈ scope.names, y.2 = .free → ∃ c, X.env.cells.lookup y.1 = some c := by
    intro y hy e
    rcases ok.free y hy e with k | k
    · exact I.ok.has _ (.inl k)
    · exact I.ok.has _ (.inr k)
  refine wpAny_comprehension_free (use := none) rfl hs (closure_ok free_) ok.kind (fun y hy e => by rw [ok.uniq y hy, e]) (thn (hi.run pins s σ H _ I h) fun xv s1 hx => thn hx fun itv s2 h2 => ?_)
  obtain ⟨it, fp, tn, J, H2, rfl, I2, T, t2, f2, more⟩ := h2
  refine wpAny_newObj_type (newEnv_comp ?_) (by show 0 ≤ sizeLine; decide)
  generalize hD : s2.heap.objs.size = D
  have noD : H2 D = none := I2.hok.fresh (Nat.le_of_eq hD)
  obtain ⟨W, ⟨m0, w0⟩, turn⟩ := more D noD
  generalize hs3 : ({ s2 with heap := s2.heap.push { cls := .type "list", data := .seq ([] : List Value).toArray } } : Shared) = s3
  have e3 : s3.heap = s2.heap.push { cls := .type "list", data := .seq ([] : List Value).toArray } := by rw [← hs3]
  have I3 : Inv X pins σ (upd H2 D (.lst [])) s3 := by
    rw [← hs3]
    refine I2.laid (t' := s2.toks) (fun b o e => Heap.get?_push_of_some _ e) (Nat.le_of_eq hD) ⟨Nat.zero_le _, [], 0, .nil, ?_⟩
    rw [← hD]
    exact Heap.get?_push_size _ rfl
  have old : ∀ b ∈ fp, b < s2.heap.objs.size := fun b hb => Heap.lt_size (T.obj _ _ t2 b hb).choose_spec.1
  have f3 : ∀ b ∈ fp, FpOk X pins (upd H2 D (.lst [])) b ∧ b < s3.heap.objs.size := by
    intro b hb
    refine ⟨⟨?_, (f2 b hb).2⟩, by rw [e3, Heap.size_push]; exact Nat.lt_succ_of_lt (old b hb)⟩
    rw [upd_ne (by rw [← hD]; exact Nat.ne_of_lt (old b hb))]
    exact (f2 b hb).1
  have t3 : tn 0 s3.heap := T.keep _ _ _ t2 fun b _ o e => by rw [e3]; exact Heap.get?_push_of_some _ e
  have I4 := block_start I3 ok hN f3
  generalize hcl : cellsFrom (s3.heap.objs.size + 1) scope.names (cloFrom X.env.cells scope.names []) = cl at I4
  have pg := hg s3 (upd H2 D (.lst [])) s3.heap.objs.size cl fp
  have pt := ht s3 (upd H2 D (.lst [])) s3.heap.objs.size cl fp
  have pe := he s3 (upd H2 D (.lst [])) s3.heap.objs.size cl fp
  subst hcl
  show codeAny _ _ (.compStart (.ListComp elt [⟨tg, iter, ifs, 0⟩] scope pos) 0 (.ref it) (.ref D) (compEnvC scope (cellsFrom (s3.heap.objs.size + 1) scope.names (cloFrom X.env.cells scope.names [])) s3.heap.objs.size X.env)) (compPost (model X.prog X.w) X.A X.xe none _ (.ref D) s3.heap.objs.size) { s3 with heap := pushCells (s3.heap.push { cls := .type "dict", data := .dict #[] }) scope.names }
  have clear : ∀ b ∈ fp, (upd H2 D (.lst [])) b = none := fun b hb => (f3 b hb).1.1
  generalize hce : compEnvC scope (cellsFrom (s3.heap.objs.size + 1) scope.names (cloFrom X.env.cells scope.names [])) s3.heap.objs.size X.env = ce at I4 pg pt pe ⊢
  have cL : ce.locals = s3.heap.objs.size := by
    subst hce
    rfl
  generalize hs4 : ({ s3 with heap := pushCells (s3.heap.push { cls := .type "dict", data := .dict #[] }) scope.names } : Shared) = s4 at I4 ⊢
  have k34 : ∀ b o, s3.heap.get? b = some o → s4.heap.get? b = some o := fun b o e => by
    rw [← hs4]
    exact pushCells_keeps _ _ _ _ (Heap.get?_push_of_some _ e)
  have t4 : tn 0 s4.heap := T.keep _ _ _ t3 fun b _ o e => k34 b o e
  generalize hH3 : upd H2 D (.lst []) = H3 at I3 I4 pg pt pe w0 clear f3
  -- the pins of the def stand in the block, too
  have pinB : ∀ q ∈ X.pn, s4.heap.get? q.1 = some q.2 ∧ H3 q.1 = none ∧ q.1 ≠ ce.locals ∧ q.1 ∉ frs X.stack ∧ ∀ v, q.2.data ≠ .cell v := by
    intro q hq
    obtain ⟨z1, z2, z3, z4, z5⟩ := I3.pin q (List.mem_append_left _ hq)
    exact ⟨k34 _ _ z1, z2, by rw [cL]; exact Nat.ne_of_lt (Heap.lt_size z1), fun hm => (List.mem_cons.mp (I3.stkSub q.1 hm)).elim z3 z4, z5⟩
  have I5 : Inv (X.blkH s3 H3 scope ce fp) [] (wipe σ (own.map (·.2))) H3 s4 := (I4.pins_of (pins' := X.pn) pinB).toTry _
  have hotB : HotC (X.blkH s3 H3 scope ce fp) := by
    obtain ⟨q, h1, h2⟩ := hot
    exact ⟨q, h1, h2⟩
  have fpB : ∀ {σ' : St} {H' : Hp} {s' : Shared}, Inv (X.blkH s3 H3 scope ce fp) [] σ' H' s' → (∀ b ∈ fp, H' b = none) → ∀ b ∈ fp, FpOk (X.blkH s3 H3 scope ce fp) [] H' b := by
    intro σ' H' s' I' hn b hb
    refine ⟨hn b hb, (I'.ok.exf b hb).1, I'.ok.exfs b hb, .inl hb, fun x c e => (I'.ok.exf b hb).2 x c e, fun q hq => ?_⟩
    rw [List.append_nil] at hq
    exact (f3 b hb).1.2.2.2.2.2 q (List.mem_append_left _ hq)
  have loop : codeAny (model X.prog X.w) X.A (.compLoop (.ListComp elt [⟨tg, iter, ifs, 0⟩] scope pos) 0 (.ref it) (.ref D) ce) (compPost (model X.prog X.w) X.A X.xe none (fun v s' => EP X pins σ Q v s') (.ref D) s3.heap.objs.size) s4 := by
    refine compLoop_any (fun n s' => ∃ i H', Inv (X.blkH s3 H3 scope ce fp) [] (wipe σ (own.map (·.2))) H' s' ∧ tn i s'.heap ∧ (∀ b ∈ fp, H' b = none) ∧ W i n H') ?_ m0 ⟨0, H3, I5, t4, clear, w0⟩
    rintro n s6 ⟨i, H6, I6, t6, n6, w6⟩
    rcases turn i n H6 w6 with ⟨stop, goal⟩ | ⟨go, Nx, hNx, step⟩
    · refine thnF (T.done (X.blkH s3 H3 scope ce fp) rfl rfl rfl hotB i [] s6 _ H6 (fun _ _ => False) I6 (fpB I6 n6) t6 stop) fun r s7 ⟨hr, I7⟩ => ?_
      subst hr
      have back : Inv X pins σ H6 s7 := I3.call' (ch := fp) I7.os I7.base I7.hok I7.bare fun b hb => ⟨(f3 b hb).1.2.2.2.1, (f3 b hb).1.2.1, (f3 b hb).1.2.2.2.2.1, (f3 b hb).1.2.2.2.2.2⟩
      have noC : H6 s3.heap.objs.size = none := by
        have z : H6 ce.locals = none := I7.free
        rwa [cL] at z
      obtain ⟨m, hn, _⟩ := I7.loc
      have hn : s7.heap.Ns ce.locals m := hn
      rw [cL] at hn
      obtain ⟨f0, f1, f2', f3', f4, f5⟩ := I3.fpOk (Nat.le_refl _) noC
      exact ⟨m, hn, fun h'' sb => ⟨.ref D, H6, back.turned (t' := s7.toks) (fun b o hb e => (sb.2 b hb).trans e) f0 f1 f3' f4 f5, rfl, goal⟩⟩
    · refine thnF (T.item (X.blkH s3 H3 scope ce fp) rfl rfl rfl hotB i [] s6 _ H6 (fun _ _ => False) I6 (fpB I6 n6) t6 go) fun r s7 ⟨u, hr, h7⟩ => ?_
      subst hr
      refine thnF h7 fun _ s8 ⟨x, H8, I8, r8, y8, t8, n8⟩ => ?_
      refine thnF (pg.run _ s8 _ H8 x u _ (I8.pinned (fpB I8 n8) (T.obj _ _ t8)) r8 (step x H8 y8)) fun _ s9 ⟨σ9, H9, I9, hw9, q9⟩ => ?_
      refine thnF (pt.run _ s9 σ9 H9 _ I9 q9) fun b s10 ⟨H10, I10, q10⟩ => ?_
      have fin : ∀ {s' : Shared} {H' : Hp}, Inv (X.blkH s3 H3 scope ce fp) ([] ++ pinsAt fp s8.heap) σ9 H' s' → Nx H' →
          ∃ m, m < n ∧ ∃ i H', Inv (X.blkH s3 H3 scope ce fp) [] (wipe σ (own.map (·.2))) H' s' ∧ tn i s'.heap ∧ (∀ b ∈ fp, H' b = none) ∧ W i m H' := by
        intro s' H' I' nx
        obtain ⟨m', hm, w'⟩ := hNx H' nx
        have held : ∀ b ∈ fp, ∀ o, s8.heap.get? b = some o → s'.heap.get? b = some o ∧ H' b = none := fun b hb o e =>
          ⟨(I'.pin (b, o) (List.mem_append_right _ (List.mem_append_right _ (mem_pinsAt hb e)))).1, (I'.pin (b, o) (List.mem_append_right _ (List.mem_append_right _ (mem_pinsAt hb e)))).2.1⟩
        have same : (wipe σ (own.map (·.2))).length = σ9.length := by rw [← hw9, wipe_length]
        refine ⟨m', hm, i + 1, H', (I'.unpinned (pins := [])).weak same (fun j v e => ?_), T.keep _ _ _ t8 fun b hb o e => (held b hb o e).1, fun b hb => ?_, w'⟩
        · rw [← hw9] at e
          exact (wipe_some e).1
        · obtain ⟨o, e, _⟩ := T.obj _ _ t8 b hb
          exact (held b hb o e).2
      cases b with
      | false =>
        simp only [Bool.false_eq_true, if_false] at q10 ⊢
        exact fin I10 q10
      | true =>
        simp only [if_true] at q10 ⊢
        refine thnF (pe.run _ s10 σ9 H10 _ I10 q10) fun z s11 ⟨yv, H11, I11, r11, acc, hD11, hz11, nx⟩ => ?_
        exact app_ok (X := X.blkH s3 H3 scope ce fp) I11 hD11 hz11 r11 fun s12 I12 => fin I12 nx
  exact codeAny_compStart_list loop (T.self X.A 0 _ _ _ t4 loop)
end
end L2
/-! HxV: except clauses that each name a tuple of four classes -/
namespace L2
open PySem PySem.Spec PyProof.Rows
/-- what takes an exception of which less is known takes one of which more is known -/
theorem takesN {X : Cx} {W : WX} (tk : Takes X W) : L2N.Takes X W := fun u s' ⟨a, B, sI, pins, σ, H, cls, d, e, I, nb, up, sky, na, os, ag, w⟩ => by
  refine tk u s' ⟨a, B, sI, pins, σ, H, cls, d, e, I, nb, up, ?_, na, os, ag, w⟩
  rcases sky with ⟨s1, s2, s3, oe, vs, s4, s5, s6, s7⟩ | s | ⟨s1, s2, s3, s4⟩
  · exact .inl ⟨s1, s2, s3, oe, vs, s4, L2N.Zn.zc s5, s6, s7⟩
  · exact .inr (.inl (L2H.flyingZ_imp (fun _ z => L2N.Zn.zc z) s))
  · exact .inr (.inr ⟨s1, s2, s3, L2H.tracedZ_imp (fun _ z => L2N.Zn.zc z) s4⟩)
theorem fly_keeps {B h h' : Heap} {l : List Env} {a : Addr} {Z : Obj → Prop} (x : HandSPX.FlyingZ B l a Z h) (k : ∀ b o, h.get? b = some o → h'.get? b = some o) : HandSPX.FlyingZ B l a Z h' := by
  obtain ⟨f1, f2, f3, oe, vs, T, oT, ts, he, hz, hd, h1, hn, hne, hT, hdT, h3⟩ := x
  exact ⟨fun b o q => k b o (f1 b o q), f2, f3.of_keeps fun b o q _ => ⟨o, k b o q, rfl⟩, oe, vs, T, oT, ts, k _ _ he, hz, hd, h1, hn, hne, k _ _ hT, hdT, h3⟩
/-- a clause: its four classes, its suite -/
abbrev Cla4 := List Value × (Addr → Value → Option Addr → TS)
def wRow4 (K : PySem.W.Frag) (Wo : WX) (D : Ends) : List Cla4 → WX
  | [] => Wo
  | z :: r => fun cls d σ H => ∃ b, PySem.W.exmAny K cls z.1 = some b ∧ (b = true → ∀ a, H a = none → z.2 a cls d D σ H) ∧ (b = false → wRow4 K Wo D r cls d σ H)
inductive Row4Ok (X : Cx) : List ExceptHandler → List Cla4 → Prop
  | nil : Row4Ok X [] []
  | cons {x1 x2 x3 x4 : Str} {c1 c2 c3 c4 : Value} {ts : Addr → Value → Option Addr → TS} {b₀ : Stmt} {more : List Stmt} {p1 p2 p3 p4 tp p : Pos} {kk : Nat} {hds : List ExceptHandler} {l : List Cla4}
      (n1 : Names X x1 c1) (n2 : Names X x2 c2) (n3 : Names X x3 c3) (n4 : Names X x4 c4)
      (su : ∀ (a : Addr) (oe : Obj) (cls : Value) (d : Option Addr) (pn : List (Addr × Obj)), Zc cls d oe → (∃ vs, oe.data = .fields vs) → PSs (X.suite a ((a, oe) :: pn)) (b₀ :: more) (ts a cls d)) (r : Row4Ok X hds l) :
      Row4Ok X (.ExceptHandler (some (.Tuple [.Name x1 p1, .Name x2 p2, .Name x3 p3, .Name x4 p4] kk tp)) none (b₀ :: more) p :: hds) (([c1, c2, c3, c4], ts) :: l)
section
variable {X : Cx} {body : List Stmt} {h1 : ExceptHandler} {hds : List ExceptHandler} {l : List Cla4} {pos : Pos} {tb : WX → TS} {Wo : WX}
theorem ps_try_row4 (st : X.stack = X.env :: X.outer) (fr : X.env.frame = some X.env.locals) (tk : Takes X Wo)
    (hb : ∀ (W : WX) (pn : List (Addr × Obj)) (xe : Value → Shared → Prop), Takes (X.tr pn xe) W → PassesOwn (model X.prog X.w) X.A X.env xe → PSs (X.tr pn xe) body (tb W))
    (ro : Row4Ok X (h1 :: hds) l) : PS X (.Try body (h1 :: hds) [] [] pos) (fun D σ H => tb (wRow4 X.K Wo D l) D σ H) := by
  constructor
  intro pins s σ H D I wish
  have k := I.ok
  have frames := (k.frames).trans (congrArg some st)
  have run := hb (wRow4 X.K Wo D l) (X.pn ++ pins) (fun e t1 => wpAny (model X.prog X.w) X.A (noteFrame e X.env) (fun _ t2 => wpAny (model X.prog X.w) X.A (setFlight e none) (fun _ t3 => wpAny (model X.prog X.w) X.A (handleBy e X.env (h1 :: hds)) (SP X pins D) X.xe t3) X.xe t2) X.xe t1)
  apply wpAny_Try_except
  refine wpAny_mono ((run (fun u t0 caught => ?_) PassesOwn.looking).run [] s σ H D (I.toTry _) wish) (fun f t0 good => ?_) (fun e t0 z => z)
  · obtain ⟨a, B, sI, pins', τ, G, cls, d, rfl, Jt, nb, up, sky, na, os, ag, w⟩ := caught
    have J := Jt.ofTry k
    rw [st] at sky
    show wpAny (model X.prog X.w) X.A (noteFrame (.ref a) X.env) _ _ _
    refine Sky.land Zc.steady frames fr sky fun q3 fl3 up3 => ?_
    suffices go : ∀ {cs : List ExceptHandler} {m : List Cla4}, Row4Ok X cs m → ∀ q3, HandSPX.FlyingZ B (X.env :: X.outer) a (Zc cls d) q3 → t0.heap.UpToSlots q3 → wRow4 X.K Wo D m cls d τ G → wpAny (model X.prog X.w) X.A (handleBy (.ref a) X.env cs) (SP X pins D) X.xe { t0 with heap := q3 } from go ro q3 fl3 up3 w
    intro cs m rk
    induction rk with
    | nil =>
      intro q3 fl3 up3 w
      have J3 : Inv X pins τ G { t0 with heap := q3 } := J.landed nb fl3.1 (up.trans up3) os ag
      apply wpAny_handleBy_nil
      obtain ⟨_, _, _, oe, vs, T, oT, ts', he, _, hd, hT, _⟩ := id fl3
      unfold PySem.passOn
      refine wpAny_bind (wpAny_field he hd hT ?_)
      rw [if_neg (by simp : ¬ ((Value.ref T == Value.none) = true))]
      have out : wpAny (model X.prog X.w) X.A (setFlight (.ref a) X.env.frame) (fun _ t4 => wpAny (model X.prog X.w) X.A (throw (.ref a) : Sem Flow) (SP X pins D) X.xe t4) X.xe { t0 with heap := q3 } := by
        rw [fr]
        exact HandSPX.setFlight_upZ fl3 fun q4 hq4 up4 => wpAny_throw (tk _ _ ⟨a, B, sI, pins, τ, G, cls, d, rfl, J, nb, (up.trans up3).trans up4, .inr (.inr (by rw [st]; exact hq4)), na, os, ag, w⟩)
      first
        | exact wpAny_bind (wpAny_pure (wpAny_bind out))
        | exact wpAny_bind out
    | @cons x1 x2 x3 x4 c1 c2 c3 c4 ts b₀ more p1 p2 p3 p4 tp p kk rest m2 n1 n2 n3 n4 su r ih =>
      rintro q3 fl3 up3 ⟨b, is, yes, no⟩
      have J3 : Inv X pins τ G { t0 with heap := q3 } := J.landed nb fl3.1 (up.trans up3) os ag
      obtain ⟨e3, v3, ge3, z3, dt3⟩ := fl3.there
      have away : a ∉ frs (X.env :: X.outer) := by
        intro hm
        obtain ⟨_, e', g', no⟩ := fl3.2.2.1.mem hm
        exact no _ ((Option.some.inj (ge3.symm.trans g')) ▸ dt3)
      have nL : a ≠ X.env.locals := by
        intro z
        exact away (List.mem_filterMap.mpr ⟨X.env, List.mem_cons_self, by rw [fr, z]⟩)
      have nF : a ∉ X.fs := by
        intro hm
        obtain ⟨e, he, q⟩ := List.mem_filterMap.mp hm
        exact away (List.mem_filterMap.mpr ⟨e, List.mem_cons_of_mem _ he, q⟩)
      have S3 := J3.suite ge3 dt3 na nL nF
      refine wpAny_handleBy_cons (codeAny_handlers_test ?_) (by intro q; cases q)
      have look : PySem.W.Looks (model X.prog X.w) q3 (typeOf (.ref a)) cls := fun _ _ _ _ kk q => wpAny_typeOf_ref (kk _ _ ge3) (z3.1 ▸ q)
      have load : ∀ {x : Str} {c : Value} {pp : Pos}, Names X x c → ∀ {Q E : Value → Shared → Prop}, Q c { t0 with heap := q3 } → wpAny (model X.prog X.w) (X.A.mark (some (.ref a))) (eval (.Name x pp) X.env) Q E { t0 with heap := q3 } := by
        intro x c pp nm Q E q
        rcases nm with ⟨g, dbg, own | ⟨own, boot, ne⟩⟩
        · exact ld_glob (X := X.suite a ((a, e3) :: (X.pn ++ pins))) S3 g own q dbg
        · exact ld_blt (X := X.suite a ((a, e3) :: (X.pn ++ pins))) S3 g own boot q ne dbg
      refine wpAny_Tuple ?_
      refine wpAny_items_cons (load n1 ?_)
      refine wpAny_items_cons (load n2 ?_)
      refine wpAny_items_cons (load n3 ?_)
      refine wpAny_items_cons (load n4 ?_)
      refine wpAny_items_nil ⟨by size_fits, ?_⟩
      have kp : ∀ q o, q3.get? q = some o → (q3.push { cls := .type "tuple", data := .seq [c1, c2, c3, c4].toArray }).get? q = some o := fun _ _ z => Heap.get?_push_of_some _ z
      have fits := PySem.W.exm_tup4 (M := model X.prog X.w) (J3.kIn.keeps kp) (look.keeps kp) (Heap.get?_push_size q3 rfl) is
      refine fits.here ?_
      have fl5 := fly_keeps fl3 kp
      have up5 : t0.heap.UpToSlots (q3.push { cls := .type "tuple", data := .seq [c1, c2, c3, c4].toArray }) := up3.trans (.of_keeps kp)
      cases b with
      | false =>
        show wpAny _ X.A (handleBy (.ref a) X.env rest) _ _ _
        exact ih _ fl5 up5 (no rfl)
      | true =>
        apply codeAny_handlers_suite
        refine HandSPX.lands_againZ fl5 fun q4 fl4 up4 => ?_
        have J4 : Inv X pins τ G { t0 with heap := q4 } := J.landed nb fl4.1 ((up.trans up5).trans up4) os ag
        obtain ⟨e4, v4, ge4, z4, dt4⟩ := fl4.there
        refine wpAny_mono ((su a e4 cls d (X.pn ++ pins) z4 ⟨_, dt4⟩).run [] _ _ G _ (J4.suite ge4 dt4 na nL nF) (yes rfl a na)) (fun f t6 done => ?_) (fun _ _ q => False.elim q)
        cases f with
        | ret u => rcases done with ⟨v6, τ6, G6, S6, r6, q6⟩; exact ⟨_, _, _, S6.unsuite k, r6, q6⟩
        | next => rcases done with ⟨τ6, G6, S6, q6⟩; exact ⟨_, _, S6.unsuite k, q6⟩
        | brk => rcases done with ⟨τ6, G6, S6, q6⟩; exact ⟨_, _, S6.unsuite k, q6⟩
        | cont => rcases done with ⟨τ6, G6, S6, q6⟩; exact ⟨_, _, S6.unsuite k, q6⟩
  · cases f with
    | ret u => rcases good with ⟨v, τ, G, J, r, q⟩; exact ⟨v, τ, G, J.ofTry k, r, q⟩
    | next => rcases good with ⟨τ, G, J, q⟩; exact wpAny_execs_nil ⟨τ, G, J.ofTry k, q⟩
    | brk => rcases good with ⟨τ, G, J, q⟩; exact ⟨τ, G, J.ofTry k, q⟩
    | cont => rcases good with ⟨τ, G, J, q⟩; exact ⟨τ, G, J.ofTry k, q⟩
end
end L2
/-! HxR: repr of data with dicts, all of it tracked -/
namespace L2
open PySem PySem.Spec PyProof.Rows
def keyD : Key → PyData
  | .inl i => .int i
  | .inr x => .str x
mutual
inductive DpX (H : Hp) : V → PyData → Prop
  | non : DpX H .non .none
  | bl (b : Bool) : DpX H (.bl b) (.bool b)
  | int (i : Int) : DpX H (.int i) (.int i)
  | str (x : Str) : DpX H (.str x) (.str x)
  | lst {a : Addr} {xs : List V} {ds : List PyData} : H a = some (.lst xs) → DpXA H xs ds → DpX H (.ref a) (.list ds)
  | tup {a : Addr} {xs : List V} {ds : List PyData} : H a = some (.tup xs) → DpXA H xs ds → DpX H (.ref a) (.tuple ds)
  | dic {a : Addr} {kvs : List (Key × V)} {ds : List (PyData × PyData)} : H a = some (.dK kvs) → DpXK H kvs ds → DpX H (.ref a) (.dict ds)
inductive DpXA (H : Hp) : List V → List PyData → Prop
  | nil : DpXA H [] []
  | cons {v : V} {vs : List V} {d : PyData} {ds : List PyData} : DpX H v d → DpXA H vs ds → DpXA H (v :: vs) (d :: ds)
inductive DpXK (H : Hp) : List (Key × V) → List (PyData × PyData) → Prop
  | nil : DpXK H [] []
  | cons {k : Key} {v : V} {kvs : List (Key × V)} {d : PyData} {ds : List (PyData × PyData)} : DpX H v d → DpXK H kvs ds → DpXK H ((k, v) :: kvs) ((keyD k, d) :: ds)
end
mutual
theorem DpX.mono {H H' : Hp} (e : Evl.Ex H H') : ∀ (d : PyData) (v : V), DpX H v d → DpX H' v d
  | .none, _, h => by cases h; exact .non
  | .bool b, _, h => by cases h; exact .bl b
  | .int i, _, h => by cases h; exact .int i
  | .str x, _, h => by cases h; exact .str x
  | .list ds, _, h => by
    cases h with
    | lst h1 h2 => exact .lst (e _ _ h1) (DpXA.mono e ds _ h2)
  | .tuple ds, _, h => by
    cases h with
    | tup h1 h2 => exact .tup (e _ _ h1) (DpXA.mono e ds _ h2)
  | .dict ds, _, h => by
    cases h with
    | dic h1 h2 => exact .dic (e _ _ h1) (DpXK.mono e ds _ h2)
theorem DpXA.mono {H H' : Hp} (e : Evl.Ex H H') : ∀ (ds : List PyData) (vs : List V), DpXA H vs ds → DpXA H' vs ds
  | [], _, h => by cases h; exact .nil
  | d :: ds, _, h => by
    cases h with
    | cons h1 h2 => exact .cons (DpX.mono e d _ h1) (DpXA.mono e ds _ h2)
theorem DpXK.mono {H H' : Hp} (e : Evl.Ex H H') : ∀ (ds : List (PyData × PyData)) (vs : List (Key × V)), DpXK H vs ds → DpXK H' vs ds
  | [], _, h => by cases h; exact .nil
  | (k, d) :: ds, _, h => by
    cases h with
    | cons h1 h2 => exact .cons (DpX.mono e d _ h1) (DpXK.mono e ds _ h2)
end
section
variable {X : Cx} {pins : List (Addr × Obj)} {σ : St} {H : Hp} {s : Shared}
theorem not_sysm (hS : (X.K.lookup sysModules).isSome = true) (I : Inv X pins σ H s) {a : Addr} {o : HO} (e : H a = some o) : a ≠ sysModules := fun z => by
  obtain ⟨u, hu⟩ := Option.isSome_iff_exists.mp hS
  have q := (I.bs sysModules u (I.ok.mod.kin _ _ hu)).2
  rw [z, q] at e
  cases e
theorem keyD_reads {h : Heap} {k : Key} {v : Value} (e : keyIs k v = true) : Reads h v (keyD k) [] := by
  rcases keyIs_shape e with ⟨i, t, rfl, rfl⟩ | ⟨x, t, rfl, rfl⟩
  · exact .int i t
  · exact .str x t
mutual
theorem DpX.reads (hS : (X.K.lookup sysModules).isSome = true) (I : Inv X pins σ H s) : ∀ (d : PyData) (v : V) (u : Value), DpX H v d → RelV v u → ∃ as, Reads s.heap u d as ∧ sysModules ∉ as
  | .none, _, _, h, r => by
    cases h
    cases r
    exact ⟨_, .none, by simp⟩
  | .bool b, _, _, h, r => by
    cases h
    cases r
    exact ⟨_, .bool b, by simp⟩
  | .int i, _, _, h, r => by
    cases h
    obtain ⟨t, rfl⟩ := r
    exact ⟨_, .int i t, by simp⟩
  | .str x, _, _, h, r => by
    cases h
    obtain ⟨t, rfl⟩ := r
    exact ⟨_, .str x t, by simp⟩
  | .list ds, _, u, h, r => by
    cases h with
    | @lst a xs _ h1 h2 =>
      obtain rfl : u = Value.ref a := r
      obtain ⟨_, its, n, rv, ho⟩ := (show ObjOk X.prog X.w H s.heap a (.lst xs) from I.hok a _ h1)
      obtain ⟨as, hr, hn⟩ := DpXA.reads hS I ds _ its h2 rv
      refine ⟨_, .list ho rfl rfl (by simpa using hr), ?_⟩
      rw [List.mem_cons]
      exact fun z => z.elim (fun z => not_sysm hS I h1 z.symm) hn
  | .tuple ds, _, u, h, r => by
    cases h with
    | @tup a xs _ h1 h2 =>
      obtain rfl : u = Value.ref a := r
      obtain ⟨_, its, rv, o, ho, hc, n, hd⟩ := (show ObjOk X.prog X.w H s.heap a (.tup xs) from I.hok a _ h1)
      obtain ⟨as, hr, hn⟩ := DpXA.reads hS I ds _ its h2 rv
      exact ⟨_, .tuple ho hc hd (by simpa using hr), hn⟩
  | .dict ds, _, u, h, r => by
    cases h with
    | @dic a kvs _ h1 h2 =>
      obtain rfl : u = Value.ref a := r
      obtain ⟨_, _, vs, rel, o, es, ep, ho, hx, hd, _, prs, _⟩ := (show ObjOk X.prog X.w H s.heap a (.dK kvs) from I.hok a _ h1)
      obtain ⟨bs, k1, k2, hn⟩ := DpXK.reads hS I ds kvs vs es.toList h2 rel prs
      refine ⟨_, .dict (as := []) ho hx.1 hd k1 k2, ?_⟩
      exact fun z => (List.mem_append.mp z).elim (fun z => not_sysm hS I h1 (List.mem_singleton.mp z).symm) hn
theorem DpXA.reads (hS : (X.K.lookup sysModules).isSome = true) (I : Inv X pins σ H s) : ∀ (ds : List PyData) (vs : List V) (us : List Value), DpXA H vs ds → Vals vs us → ∃ as, ReadsAll s.heap us ds as ∧ sysModules ∉ as
  | [], _, _, h, r => by
    cases h
    cases r
    exact ⟨_, .nil, by simp⟩
  | d :: ds, _, _, h, r => by
    cases h with
    | cons h1 h2 =>
      cases r with
      | cons r1 r2 =>
        obtain ⟨as, q1, n1⟩ := DpX.reads hS I d _ _ h1 r1
        obtain ⟨bs, q2, n2⟩ := DpXA.reads hS I ds _ _ h2 r2
        exact ⟨_, .cons q1 q2, fun z => (List.mem_append.mp z).elim n1 n2⟩
theorem DpXK.reads (hS : (X.K.lookup sysModules).isSome = true) (I : Inv X pins σ H s) : ∀ (ds : List (PyData × PyData)) (kvs : List (Key × V)) (vs : List (Key × Value)) (es : List DictEntry), DpXK H kvs ds → KV kvs vs → Pairs (mixKind X.prog X.w) es vs →
      ∃ bs, ReadsAll s.heap (es.map (·.key)) (ds.map (·.1)) [] ∧ ReadsAll s.heap (es.map (·.val)) (ds.map (·.2)) bs ∧ sysModules ∉ bs
  | [], _, _, _, h, r, p => by
    cases h
    cases r
    cases p
    exact ⟨[], .nil, .nil, by simp⟩
  | (kd, d) :: ds, _, _, _, h, r, p => by
    cases h with
    | cons h1 h2 =>
      cases r with
      | cons r1 r2 =>
        cases p with
        | cons p1 p2 p3 =>
          obtain ⟨as, q1, n1⟩ := DpX.reads hS I d _ _ h1 r1.2
          obtain ⟨bs, q2, q3, n2⟩ := DpXK.reads hS I ds _ _ _ h2 r2 p3
          refine ⟨as ++ bs, .cons (as := []) (bs := []) (keyD_reads ?_) q2, .cons ?_ q3, fun z => (List.mem_append.mp z).elim n1 n2⟩
          · have e1 := r1.1
            dsimp only at e1 ⊢
            rw [e1]
            exact p1
          · dsimp only
            rw [p2]
            exact q1
end
end
structure rReprX (xs : List V) (H : Hp) (Q : VK) : Prop where
  ex : ∃ v d, xs = [v] ∧ DpX H v d ∧ d.showable = true ∧ d.depth ≤ 60 ∧ d.shown.length ≤ sizeLine ∧ Q (.str d.shown) H
theorem call_reprX {X : Cx} (hS : (X.K.lookup sysModules).isSome = true) (hG : X.A.guards = some []) (hu : X.A.units + 64 < cLine) : CallR X (.builtin "repr") rReprX := by
  intro pins s σ H xs us Q I r h
  obtain ⟨v, d, rfl, hd, hs, hdep, hz, q⟩ := h.ex
  obtain ⟨u, rfl, ru⟩ := vals1 r
  obtain ⟨as, rd, nas⟩ := DpX.reads hS I d v u hd ru
  have big : ∀ {a : Addr}, u = .ref a → wpAny (model X.prog X.w) X.A (call (.builtin "repr") [u]) (EP X pins σ Q) X.xe s := fun {a} e => by
    subst e
    exact repr_of_reads' rd hs (fun _ => nas) hG (by omega) (fun _ _ e => e) (fun h' u tk hk => ⟨.str _, H, I.kept (t' := tk) hk, ⟨_, rfl⟩, q⟩) hz
  cases rd with
  | none => exact PySem.P.repr_of_none ⟨.str _, H, I.tok _, ⟨_, rfl⟩, q⟩
  | bool b => exact PySem.P.repr_of_bool ⟨.str _, H, I.tok _, ⟨_, rfl⟩, q⟩
  | int i t =>
    have hs' : decide (i.natAbs.log2 < 1920) = true := by simpa [PyData.showable] using hs
    exact PySem.P.repr_of_int (of_decide_eq_true hs') ⟨.str _, H, I.tok _, ⟨_, rfl⟩, q⟩
  | str x t => exact PySem.P.repr_of_str ⟨.str _, H, I.tok _, ⟨_, rfl⟩, q⟩ hz
  | list h1 h2 h3 h4 => exact big rfl
  | tuple h1 h2 h3 h4 => exact big rfl
  | dict h1 h2 h3 h4 h5 => exact big rfl
end L2
namespace K00
open PySem PySem.Spec PyProof.Rows L2 C8

/-! ### data -/
mutual
theorem Dp.mono {K : PySem.W.Frag} {H H' : Hp} (e : Evl.Ex H H') : ∀ (d : PyData) (v : V), Dp K H v d → Dp K H' v d
  | .none, _, h => by cases h; exact .non
  | .bool b, _, h => by cases h; exact .bl b
  | .int i, _, h => by cases h; exact .int i
  | .str x, _, h => by cases h; exact .str x
  | .list ds, _, h => by
    cases h with
    | lst h1 h2 => exact .lst (Evl.ex_l e h1) (DpAll.mono e ds _ h2)
  | .tuple ds, _, h => by
    cases h with
    | tup h1 h2 => exact .tup (Evl.ex_t e h1) (DpAll.mono e ds _ h2)
  | .dict kvs, _, h => by cases h
theorem DpAll.mono {K : PySem.W.Frag} {H H' : Hp} (e : Evl.Ex H H') : ∀ (ds : List PyData) (vs : List V), DpAll K H vs ds → DpAll K H' vs ds
  | [], _, h => by cases h; exact .nil
  | d :: ds, _, h => by
    cases h with
    | cons h1 h2 => exact .cons (Dp.mono e d _ h1) (DpAll.mono e ds _ h2)
end
def DV (K : PySem.W.Frag) (H : Hp) (v : V) : Prop := ∃ d, Dp K H v d ∧ d.canLay0 = true ∧ d.depth ≤ 10
theorem DV.mono {K : PySem.W.Frag} {H H' : Hp} {v : V} (e : Evl.Ex H H') (h : DV K H v) : DV K H' v := by
  obtain ⟨d, h1, h2, h3⟩ := h
  exact ⟨d, Dp.mono e d v h1, h2, h3⟩
theorem DV.int {K : PySem.W.Frag} {H : Hp} (i : Int) : DV K H (.int i) := ⟨.int i, .int i, by simp [PyData.canLay0], by simp [PyData.depth]⟩
theorem DV.all {K : PySem.W.Frag} {H : Hp} : ∀ {vs : List V}, (∀ v ∈ vs, DV K H v) → ∃ ds, DpAll K H vs ds ∧ PyData.canLayAll0 ds = true ∧ PyData.depthAll ds ≤ 10 ∧ ds.length = vs.length
  | [], _ => ⟨[], .nil, by simp [PyData.canLayAll0], by simp [PyData.depthAll], rfl⟩
  | v :: vs, h => by
    obtain ⟨d, h1, h2, h3⟩ := h v (List.mem_cons_self ..)
    obtain ⟨ds, g1, g2, g3, g4⟩ := DV.all (vs := vs) fun u hu => h u (List.mem_cons_of_mem _ hu)
    exact ⟨d :: ds, .cons h1 g1, by simp [PyData.canLayAll0, h2, g2], by simp only [PyData.depthAll]; omega, by simp [g4]⟩
theorem shaped_list {ds : List PyData} (h1 : PyData.canLayAll0 ds = true) (h2 : PyData.depthAll ds ≤ 60) : SeqAt.shaped (.list ds) = true := by
  simp only [SeqAt.shaped, PyData.canLay0, PyData.depth, h1, Bool.true_and]
  exact decide_eq_true (by omega)
theorem shaped_tuple {ds : List PyData} (h1 : PyData.canLayAll0 ds = true) (h2 : PyData.depthAll ds ≤ 60) : SeqAt.shaped (.tuple ds) = true := by
  simp only [SeqAt.shaped, PyData.canLay0, PyData.depth, h1, Bool.true_and]
  exact decide_eq_true (by omega)
theorem eqv_empty (ds : List PyData) : PyData.eqv (.list ds) (.list []) = ds.isEmpty := by
  cases ds <;> simp [PyData.eqv, PyData.eqvAll]
theorem seqIndex_nat {i n : Nat} (h : i < n) : seqIndex? (i : Int) n = some i := by
  unfold seqIndex?
  have h1 : ¬ ((i : Int) < 0) := by omega
  have h2 : (0 : Int) ≤ i := by omega
  have h3 : (i : Int) < n := by omega
  simp [h1, h2, h3, h]
theorem perm_erase {xs fs ls : List V} {k : Nat} {y : V} (h : (fs ++ ls).Perm xs) (hy : ls[k]? = some y) : ((fs ++ [y]) ++ ls.eraseIdx k).Perm xs := by
  refine List.Perm.trans ?_ h
  rw [List.append_assoc]
  refine List.Perm.append_left fs ?_
  have hk : k < ls.length := (List.getElem?_eq_some_iff.mp hy).1
  have e : ls[k] = y := (List.getElem?_eq_some_iff.mp hy).2
  rw [List.eraseIdx_eq_take_drop_succ]
  have p : ls = ls.take k ++ y :: ls.drop (k + 1) := by
    rw [← e, ← List.drop_eq_getElem_cons hk, List.take_append_drop]
  refine List.Perm.trans ?_ (List.Perm.of_eq p.symm)
  show (y :: (ls.take k ++ ls.drop (k + 1))).Perm _
  exact List.perm_middle.symm
section
variable {P : Program} {w : World} {K : PySem.W.Frag} {mg : Str → Option Value} {base : Heap}

end
end K00
namespace K00
open PySem PySem.Spec PyProof.Rows L2 C8

/-! ### texts of small letters -/
def S (l : List Nat) : Str := ⟨l.toArray⟩
theorem S_list (z : Str) : S z.cps.toList = z := by cases z; rfl
theorem S_inj {a b : List Nat} (h : S a = S b) : a = b := by
  have q := congrArg (fun z : Str => z.cps.toList) h
  simpa [S] using q
theorem S_toList (l : List Nat) : (S l).cps.toList = l := by simp [S]
theorem S_len (l : List Nat) : (S l).length = l.length := by simp [S, Str.length]
theorem S_app (a b : List Nat) : S a ++ S b = S (a ++ b) := by
  show Str.mk (a.toArray ++ b.toArray) = _
  simp [S]
theorem join_S : ∀ cs : List Nat, Txt.join (Str.ofString "") (cs.map fun c => (⟨#[c]⟩ : Str)) = S cs := by
  intro cs
  rw [show Txt.join (Str.ofString "") (cs.map fun c => (⟨#[c]⟩ : Str)) = Str.join (Str.ofString "") (cs.map fun c => (⟨#[c]⟩ : Str)) from StrLaws.glued_eq_join _ _]
  induction cs with
  | nil => rfl
  | cons c r ih =>
    cases r with
    | nil => rfl
    | cons d r =>
      have e : Str.join (Str.ofString "") (((c :: d :: r)).map fun c => (⟨#[c]⟩ : Str)) = (⟨#[c]⟩ : Str) ++ Str.ofString "" ++ Str.join (Str.ofString "") ((d :: r).map fun c => (⟨#[c]⟩ : Str)) := rfl
      rw [e, ih]
      have e2 : (⟨#[c]⟩ : Str) ++ Str.ofString "" = S [c] := by
        show Str.mk (#[c] ++ (Str.ofString "").cps) = _
        rfl
      rw [e2, S_app]
      rfl
def Low (l : List Nat) : Prop := ∀ c ∈ l, 97 ≤ c ∧ c < 123
abbrev alpha : Str := "abcdefghijklmnopqrstuvwxyz"
theorem alpha_list : alpha.cps.toList = (List.range 26).map (· + 97) := by decide +kernel
theorem alpha_at {r : Int} (h0 : 0 ≤ r) (h1 : r < 26) : atI alpha.cps.toList r = some (r.toNat + 97) := by
  obtain ⟨k, rfl⟩ : ∃ k : Nat, r = (k : Int) := ⟨r.toNat, by omega⟩
  refine atI_nat ?_
  rw [alpha_list, List.getElem?_map, List.getElem?_range (by omega)]
  rfl
theorem alpha_index {c : Nat} (h : 97 ≤ c ∧ c < 123) : ∃ rest, Builtin.Str.occurrences alpha ⟨#[c]⟩ 0 alpha.length 1 = (c - 97) :: rest := by
  have key : ∀ k, k < 26 → Builtin.Str.occurrences alpha ⟨#[k + 97]⟩ 0 alpha.length 1 = [k] := by decide +kernel
  have e := key (c - 97) (by omega)
  have ec : c - 97 + 97 = c := by omega
  rw [ec] at e
  exact ⟨[], e⟩
/-- the language's words -/
def isBar (z : Str) : Bool := barred.contains z
def freeL (l : List Nat) : List Nat := if isBar (S l) then l ++ [120] else l
theorem bar_facts {z : Str} (h : isBar z = true) : z.cps.toList.length ≤ 6 ∧ z.cps.toList.getLast? ≠ some 120 := by
  have key : ∀ b ∈ barred, b.cps.toList.length ≤ 6 ∧ b.cps.toList.getLast? ≠ some 120 := by decide +kernel
  exact key z (by simpa [isBar] using h)
theorem freeL_bar (l : List Nat) : isBar (S (freeL l)) = false := by
  unfold freeL
  cases e : isBar (S l) with
  | false => simp [e]
  | true =>
    rw [if_pos rfl]
    cases e2 : isBar (S (l ++ [120])) with
    | false => rfl
    | true =>
      have q := (bar_facts e2).2
      rw [S_toList] at q
      simp at q
theorem freeL_low {l : List Nat} (h : Low l) : Low (freeL l) := by
  unfold freeL
  split
  · intro c hc
    rcases List.mem_append.mp hc with hc | hc
    · exact h c hc
    · have : c = 120 := by simpa using hc
      omega
  · exact h
theorem freeL_len (l : List Nat) : l.length ≤ (freeL l).length ∧ ((freeL l).length ≤ l.length ∨ (freeL l).length ≤ 7) := by
  unfold freeL
  split
  · rename_i h
    have q := (bar_facts h).1
    rw [S_toList] at q
    rw [List.length_append]
    simp only [List.length_singleton]
    omega
  · omega
theorem freeL_get {l : List Nat} {i : Nat} (h : i < l.length) : (freeL l)[i]? = l[i]? := by
  unfold freeL
  split
  · rw [List.getElem?_append_left h]
  · rfl
structure WordOk (z : Str) : Prop where
  low : Low z.cps.toList
  lo : 1 ≤ z.length
  hi : z.length ≤ 8
  bar : isBar z = false
theorem wordOk_free {l : List Nat} (h : Low l) (h1 : 1 ≤ l.length) (h2 : l.length ≤ 8) : WordOk (S (freeL l)) := by
  have q := freeL_len l
  refine ⟨by rw [S_toList]; exact freeL_low h, ?_, ?_, freeL_bar l⟩
  · rw [S_len]; omega
  · rw [S_len]; omega
theorem low_ok {z : Str} (h : Low z.cps.toList) : PyData.strOk z = true := by
  unfold PyData.strOk
  rw [Array.all_eq_true']
  intro c hc
  have := h c (by simpa using hc)
  exact decide_eq_true (by omega)
theorem DV.word {K : PySem.W.Frag} {H : Hp} {z : Str} (h : WordOk z) : DV K H (.str z) := ⟨.str z, .str z, by simp [PyData.canLay0, low_ok h.low], by simp [PyData.depth]⟩
theorem cut_head (l : List Nat) (k : Nat) (h : k ≤ l.length) : cutS (S l) none (some (k : Int)) = S (l.take k) := by
  have e : HT.sIx (S l).length (S l).length (some (k : Int)) = k := by
    simp only [HT.sIx]
    rw [if_neg (by omega), S_len]
    omega
  unfold cutS
  rw [e, S_toList]
  simp [HT.sIx_none, S]
theorem cut_tail (l : List Nat) (k : Nat) (h : k ≤ l.length) : cutS (S l) (some (k : Int)) none = S (l.drop k) := by
  have e : HT.sIx (S l).length 0 (some (k : Int)) = k := by
    simp only [HT.sIx]
    rw [if_neg (by omega), S_len]
    omega
  unfold cutS
  rw [e, S_toList, HT.sIx_none, S_len, List.take_of_length_le (by rw [List.length_drop]; omega)]
  rfl
theorem set_other {l : List Nat} {k u : Nat} (h : k < l.length) : l.take k ++ ([u] ++ l.drop (k + 1)) = l.set k u := by
  rw [List.set_eq_take_append_cons_drop, if_pos h]
  rfl
theorem three_words {l : List Nat} {c k u : Nat} (hl : Low l) (h1 : 1 ≤ l.length) (h7 : l.length ≤ 7) (hc : 97 ≤ c ∧ c < 123) (hk : k < l.length) (hu : 97 ≤ u ∧ u < 123) (hne : l[k]? ≠ some u) (hb : freeL l = l) :
    (∀ z ∈ [S l, S (freeL (l ++ [c])), S (freeL (l.set k u))], WordOk z) ∧ [S l, S (freeL (l ++ [c])), S (freeL (l.set k u))].Nodup := by
  have w1 : WordOk (S l) := by
    have := wordOk_free hl h1 (by omega)
    rw [hb] at this
    exact this
  have w2 : WordOk (S (freeL (l ++ [c]))) := by
    refine wordOk_free (fun x hx => ?_) (by rw [List.length_append]; omega) (by rw [List.length_append]; simp; omega)
    rcases List.mem_append.mp hx with hx | hx
    · exact hl x hx
    · have : x = c := by simpa using hx
      omega
  have w3 : WordOk (S (freeL (l.set k u))) := by
    refine wordOk_free (fun x hx => ?_) (by rw [List.length_set]; omega) (by rw [List.length_set]; omega)
    rcases List.mem_or_eq_of_mem_set hx with hx | hx
    · exact hl x hx
    · omega
  have n12 : S l ≠ S (freeL (l ++ [c])) := fun e => by
    have q := congrArg List.length (S_inj e)
    have r := (freeL_len (l ++ [c])).1
    rw [List.length_append, List.length_singleton] at r
    omega
  have g3 : (freeL (l.set k u))[k]? = some u := by
    rw [freeL_get (by rw [List.length_set]; exact hk), List.getElem?_set_self hk]
  have n13 : S l ≠ S (freeL (l.set k u)) := fun e => by
    have q := congrArg (fun m : List Nat => m[k]?) (S_inj e)
    simp only [g3] at q
    exact hne q
  have n23 : S (freeL (l ++ [c])) ≠ S (freeL (l.set k u)) := fun e => by
    have q := congrArg (fun m : List Nat => m[k]?) (S_inj e)
    simp only [g3] at q
    rw [freeL_get (by rw [List.length_append]; omega), List.getElem?_append_left hk] at q
    exact hne q
  refine ⟨fun z hz => ?_, ?_⟩
  · rcases List.mem_cons.mp hz with rfl | hz
    · exact w1
    rcases List.mem_cons.mp hz with rfl | hz
    · exact w2
    · have : z = _ := List.mem_singleton.mp hz
      rw [this]; exact w3
  · simp [n12, n13, n23]
def unS : V → Str
  | .str z => z
  | _ => S []
theorem perm_strs {ys : List V} {xs : List Str} (h : ys.Perm (xs.map V.str)) : ∃ ws : List Str, ys = ws.map V.str ∧ ws.Perm xs := by
  refine ⟨ys.map unS, ?_, ?_⟩
  · rw [List.map_map]
    have e : ∀ y ∈ ys, (V.str ∘ unS) y = y := fun y hy => by
      obtain ⟨z, _, rfl⟩ := List.mem_map.mp (h.mem_iff.mp hy)
      rfl
    rw [List.map_congr_left e]
    simp
  · have q := h.map unS
    rw [List.map_map] at q
    have e : xs.map (unS ∘ V.str) = xs := by
      have e2 : (unS ∘ V.str) = id := rfl
      rw [e2, List.map_id]
    rw [e] at q
    exact q
section
variable {P : Program} {w : World} {K : PySem.W.Frag} {mg : Str → Option Value} {base : Heap}

end
end K00
namespace K00
open PySem PySem.Spec PyProof.Rows L2 C8

/-! ### names, sizes, rows -/
abbrev NS := List (Str × Nat)
def szs (ns : NS) : List Nat := ns.map Prod.snd
def wds (ns : NS) : List Str := ns.map Prod.fst
def menus : List (List Nat) := [[2], [3], [4], [5], [6], [2, 2], [2, 3], [2, 4], [3, 2], [4, 2], [2, 2, 2]]
def prodN : List Nat → Nat
  | [] => 1
  | s :: r => s * prodN r
def rowsStep (rs : List (List Nat)) (s : Nat) : List (List Nat) := rs.flatMap fun r => (List.range s).map fun v => r ++ [v]
def rowsOf (sz : List Nat) : List (List Nat) := sz.foldl rowsStep [[]]
/-- the i-th value of store k -/
def dig (sz : List Nat) (k i : Nat) : Nat := k / prodN (sz.drop (i + 1)) % sz.getD i 1
def row (sz : List Nat) (k : Nat) : List Nat := (List.range sz.length).map (dig sz k)
/-- the store of these values -/
def valN (sz vs : List Nat) : Nat := (sz.zip vs).foldl (fun a p => a * p.1 + p.2) 0
def givenN (sz : List Nat) (k i v : Nat) : Nat := valN sz ((row sz k).set i v)
theorem menu_facts : ∀ sz ∈ menus, (rowsOf sz).length = prodN sz ∧ prodN sz ≤ 8 ∧ 2 ≤ prodN sz ∧ sz.length ≤ 3 ∧ 1 ≤ sz.length ∧ (∀ s ∈ sz, 2 ≤ s ∧ s ≤ 6) := by decide +kernel
theorem menu_nodup : ∀ sz ∈ menus, (rowsOf sz).Nodup := by decide +kernel
theorem menu_rev : ∀ sz ∈ menus, sz.reverse ∈ menus := by decide +kernel
theorem menu_row : ∀ sz ∈ menus, ∀ k, k < prodN sz → (rowsOf sz)[k]? = some (row sz k) ∧ valN sz (row sz k) = k := by
  intro sz hs k hk
  have key : ∀ sz ∈ menus, ∀ k, k < 9 → k < prodN sz → (rowsOf sz)[k]? = some (row sz k) ∧ valN sz (row sz k) = k := by decide +kernel
  exact key sz hs k (by have := (menu_facts sz hs).2.1; omega) hk
theorem menu_all : (menus.all fun sz => (List.range (prodN sz)).all fun k => (List.range sz.length).all fun i => (List.range (sz.getD i 1)).all fun v => decide (givenN sz k i v < prodN sz) && decide (row sz (givenN sz k i v) = (row sz k).set i v)) = true := by decide +kernel
theorem menu_given {sz : List Nat} (hs : sz ∈ menus) {k i v : Nat} (hk : k < prodN sz) (hi : i < sz.length) (hv : v < sz.getD i 1) : givenN sz k i v < prodN sz ∧ row sz (givenN sz k i v) = (row sz k).set i v := by
  have a := List.all_eq_true.mp menu_all sz hs
  have b := List.all_eq_true.mp a k (List.mem_range.mpr hk)
  have c := List.all_eq_true.mp b i (List.mem_range.mpr hi)
  have d := List.all_eq_true.mp c v (List.mem_range.mpr hv)
  rw [Bool.and_eq_true] at d
  exact ⟨of_decide_eq_true d.1, of_decide_eq_true d.2⟩
theorem row_len (sz : List Nat) (k : Nat) : (row sz k).length = sz.length := by simp [row]
structure NsOk (ns : NS) : Prop where
  sz : szs ns ∈ menus
  wd : ∀ z ∈ wds ns, WordOk z
  nd : (wds ns).Nodup
theorem NsOk.len {ns : NS} (h : NsOk ns) : 1 ≤ ns.length ∧ ns.length ≤ 3 := by
  have f := menu_facts _ h.sz
  have e : (szs ns).length = ns.length := by simp [szs]
  omega
theorem NsOk.size {ns : NS} (h : NsOk ns) {n : Str × Nat} (hn : n ∈ ns) : 2 ≤ n.2 ∧ n.2 ≤ 6 := (menu_facts _ h.sz).2.2.2.2.2 n.2 (List.mem_map_of_mem hn)
abbrev nV (n : Str × Nat) : List V := [.str n.1, .int (n.2 : Int)]
/-- pairs (word, number) at ps -/
def Tups (H : Hp) (ps : List Addr) (ns : NS) : Prop := Paired (fun p n => H p = some (.tup (nV n))) ps ns
theorem Tups.mono {H H' : Hp} (e : Ex H H') : ∀ {ps : List Addr} {ns : NS}, Tups H ps ns → Tups H' ps ns
  | _, _, .nil => .nil
  | _, _, .cons h t => .cons (e _ _ h) (Tups.mono e t)
theorem Tups.length {H : Hp} : ∀ {ps : List Addr} {ns : NS}, Tups H ps ns → ps.length = ns.length
  | _, _, .nil => rfl
  | _, _, .cons _ t => congrArg (· + 1) (Tups.length t)
theorem Tups.get {H : Hp} : ∀ {ps : List Addr} {ns : NS}, Tups H ps ns → ∀ {i : Nat} {p : Addr}, ps[i]? = some p → ∃ n, ns[i]? = some n ∧ H p = some (.tup (nV n))
  | _, _, .nil, i, p, h => by simp at h
  | _, _, .cons a t, 0, p, h => by
    have : _ = p := Option.some.inj h
    subst this
    exact ⟨_, rfl, a⟩
  | _, _, .cons a t, i + 1, p, h => Tups.get t h
theorem Tups.at {H : Hp} : ∀ {ps : List Addr} {ns : NS}, Tups H ps ns → ∀ {i : Nat} {n : Str × Nat}, ns[i]? = some n → ∃ p, ps[i]? = some p ∧ H p = some (.tup (nV n))
  | _, _, .nil, i, p, h => by simp at h
  | _, _, .cons a t, 0, p, h => by
    have : _ = p := Option.some.inj h
    subst this
    exact ⟨_, rfl, a⟩
  | _, _, .cons a t, i + 1, p, h => Tups.at t h
theorem Tups.byIx {H : Hp} : ∀ {ps : List Addr} {ns : NS}, ps.length = ns.length → (∀ (i : Nat) p n, ps[i]? = some p → ns[i]? = some n → H p = some (.tup (nV n))) → Tups H ps ns
  | [], [], _, _ => .nil
  | [], _ :: _, h, _ => nomatch h
  | _ :: _, [], h, _ => nomatch h
  | p :: ps, n :: ns, h, g => .cons (g 0 p n rfl rfl) (Tups.byIx (Nat.succ.inj h) fun i p' n' a b => g (i + 1) p' n' a b)
abbrev rV (r : List Nat) : List V := r.map fun v : Nat => V.int (v : Int)
/-- lists of numbers at qs -/
def Rows (H : Hp) (qs : List Addr) (rs : List (List Nat)) : Prop := Paired (fun q r => H q = some (.lst (rV r))) qs rs
theorem Rows.mono {H H' : Hp} (e : Ex H H') : ∀ {qs : List Addr} {rs : List (List Nat)}, Rows H qs rs → Rows H' qs rs
  | _, _, .nil => .nil
  | _, _, .cons h t => .cons (e _ _ h) (Rows.mono e t)
theorem Rows.app {H : Hp} : ∀ {qs qs' : List Addr} {rs rs' : List (List Nat)}, Rows H qs rs → Rows H qs' rs' → Rows H (qs ++ qs') (rs ++ rs')
  | _, _, _, _, .nil, h => h
  | _, _, _, _, .cons h t, g => .cons h (Rows.app t g)
theorem Rows.length {H : Hp} : ∀ {qs : List Addr} {rs : List (List Nat)}, Rows H qs rs → qs.length = rs.length
  | _, _, .nil => rfl
  | _, _, .cons _ t => congrArg (· + 1) (Rows.length t)
theorem Rows.at {H : Hp} : ∀ {qs : List Addr} {rs : List (List Nat)}, Rows H qs rs → ∀ {i : Nat} {r : List Nat}, rs[i]? = some r → ∃ q, qs[i]? = some q ∧ H q = some (.lst (rV r))
  | _, _, .nil, i, p, h => by simp at h
  | _, _, .cons a t, 0, p, h => by
    have : _ = p := Option.some.inj h
    subst this
    exact ⟨_, rfl, a⟩
  | _, _, .cons a t, i + 1, p, h => Rows.at t h
theorem Rows.get {H : Hp} : ∀ {qs : List Addr} {rs : List (List Nat)}, Rows H qs rs → ∀ {i : Nat} {q : Addr}, qs[i]? = some q → ∃ r, rs[i]? = some r ∧ H q = some (.lst (rV r))
  | _, _, .nil, i, p, h => by simp at h
  | _, _, .cons a t, 0, p, h => by
    have : _ = p := Option.some.inj h
    subst this
    exact ⟨_, rfl, a⟩
  | _, _, .cons a t, i + 1, p, h => Rows.get t h
theorem refs_get {ps : List Addr} {i : Nat} {v : V} (h : (ps.map V.ref)[i]? = some v) : ∃ p, v = .ref p ∧ ps[i]? = some p := by
  rw [List.getElem?_map] at h
  cases e : ps[i]? with
  | none => rw [e] at h; cases h
  | some p =>
    rw [e] at h
    cases h
    exact ⟨p, rfl, rfl⟩
theorem refs_at2 {ps : List Addr} {i : Nat} {p : Addr} (h : ps[i]? = some p) : (ps.map V.ref)[i]? = some (.ref p) := by rw [List.getElem?_map, h]; rfl

/-! ### the box apart -/
def off (H : Hp) (b : Addr) : Hp := fun a => if a = b then none else H a
theorem off_at {H : Hp} {b a : Addr} {o : HO} (h : H a = some o) (n : a ≠ b) : off H b a = some o := by unfold off; rw [if_neg n]; exact h
theorem off_ex {H : Hp} {b : Addr} : Ex (off H b) H := fun a o h => by
  unfold off at h
  split at h
  · cases h
  · exact h
theorem off_none {H : Hp} {b p : Addr} (h : off H b p = none) (n : p ≠ b) : H p = none := by
  unfold off at h
  rw [if_neg n] at h
  exact h
theorem Wd.off {Hb H : Hp} {b : Addr} {c : Nat} (W : Wd Hb H b c) : Wd (off H b) H b c := ⟨off_ex, by simp [K00.off], W.box⟩
theorem Wd.exOff {Hb H : Hp} {b : Addr} {c : Nat} (W : Wd Hb H b c) : Ex Hb (K00.off H b) := fun a o h => off_at (W.ex a o h) (fun z => by rw [z, W.nb] at h; cases h)
theorem Wd.tup {Hb H : Hp} {b a : Addr} {c : Nat} {xs : List V} (W : Wd Hb H b c) (h : H a = some (.tup xs)) : K00.off H b a = some (.tup xs) := off_at h (fun z => by
  obtain ⟨g, f, s, k, h1, _⟩ := W.box
  rw [z, h1] at h; cases h)
theorem Wd.tups {Hb H : Hp} {b : Addr} {c : Nat} (W : Wd Hb H b c) : ∀ {ps : List Addr} {ns : NS}, Tups H ps ns → Tups (K00.off H b) ps ns
  | _, _, .nil => .nil
  | _, _, .cons h t => .cons (W.tup h) (W.tups t)

/-! ### comprehensions -/
theorem lc_rel {J : It} {n : Nat} {G : Hp → Prop} {Y : Nat → Hp → V → Hp → Prop} (w : L2.Walk J n G Y) {g : TG} {tt : TT} {te : TE} {vs : List Nat} {σ : L2.St} {H1 : Hp} {D : Addr} {Qd : Hp → Prop} (R : Nat → V → Hp → Prop) (hn : n ≤ 1000) (hD : H1 D = none)
    (hG : ∀ H, Ex H1 H → G H) (hm : ∀ j y H H', R j y H → Ex H H' → R j y H') (hu : ∀ j y H l l', R j y H → H D = some (.lst l) → R j y (upd H D (.lst l')))
    (hs : ∀ i x H H' (Z : VK) (B : Hp → Prop), i < n → Ex H1 H → (∃ l, H D = some (.lst l)) → Y i H x H' → (∀ y H4, Ex H H4 → R i y H4 → Z y H4) →
      g x (wipe σ vs) H' fun σ2 H2 => wipe σ2 vs = wipe σ vs ∧ tt σ2 H2 fun b H3 => if b = true then te σ2 H3 Z else B H3)
    (hd : ∀ H ys, Ex H1 H → H D = some (.lst ys) → ys.length = n → (∀ (j : Nat) y, ys[j]? = some y → R j y H) → Qd H) :
    ∃ W : Nat → Nat → Hp → Prop, (∃ m, W 0 m (upd H1 D (.lst []))) ∧ ∀ i m H, W i m H →
      (J.stop i H ∧ Qd H) ∨ (J.go i H ∧ ∃ Nx : Hp → Prop, (∀ H', Nx H' → ∃ m', m' < m ∧ W (i + 1) m' H') ∧ ∀ x H', J.yld i H x H' → g x (wipe σ vs) H' fun σ2 H2 => wipe σ2 vs = wipe σ vs ∧ tt σ2 H2 fun b H3 =>
        if b = true then te σ2 H3 fun y H4 => ∃ acc, H4 D = some (.lst acc) ∧ acc.length < sizeLine ∧ Nx (upd H4 D (.lst (acc ++ [y]))) else Nx H3) := by
  refine lc_it w (fun i H => Ex H1 H ∧ ∃ ys, H D = some (.lst ys) ∧ ys.length = i ∧ ∀ (j : Nat) y, ys[j]? = some y → R j y H) ⟨Evl.Ex.new hD, [], upd_same, rfl, fun j y h => by simp at h⟩ (fun i H _ p => hG H p.1) ?_ ?_
  · rintro i x H H' hi ⟨e, ys, h1, h2, h3⟩ y
    refine hs i x H H' _ _ hi e ⟨ys, h1⟩ y (fun z H4 e4 hz => ⟨ys, e4 D _ h1, Nat.lt_of_lt_of_le (show ys.length < 1001 by omega) (by decide), ?_, ys ++ [z], upd_same, by rw [List.length_append, h2]; rfl, fun j u hj => ?_⟩)
    · exact Evl.Ex.mut (e.trans e4) hD
    · by_cases hjl : j < ys.length
      · rw [List.getElem?_append_left hjl] at hj
        exact hu _ _ _ _ _ (hm _ _ _ _ (h3 j u hj) e4) (e4 D _ h1)
      · rw [List.getElem?_append_right (by omega)] at hj
        have ej : j = ys.length := by
          rcases Nat.lt_or_ge (j - ys.length) 1 with w | w
          · omega
          · rw [List.getElem?_eq_none (by simpa using w)] at hj; cases hj
        subst ej
        rw [Nat.sub_self] at hj
        have : z = u := by simpa using hj
        subst this
        rw [h2]
        exact hu _ _ _ _ _ hz (e4 D _ h1)
  · rintro H ⟨e, ys, h1, h2, h3⟩
    exact hd H ys e h1 h2 h3
/-- .. whose items are told by their place -/
theorem lc_fn {J : It} {n : Nat} {G : Hp → Prop} {Y : Nat → Hp → V → Hp → Prop} (w : L2.Walk J n G Y) {g : TG} {tt : TT} {te : TE} {vs : List Nat} {σ : L2.St} {H1 : Hp} {D : Addr} {Qd : Hp → Prop} (f : Nat → V) (hn : n ≤ 1000) (hD : H1 D = none)
    (hG : ∀ H, Ex H1 H → G H)
    (hs : ∀ i x H H' (Z : VK) (B : Hp → Prop), i < n → Ex H1 H → (∃ l, H D = some (.lst l)) → Y i H x H' → (∀ H4, Ex H H4 → Z (f i) H4) →
      g x (wipe σ vs) H' fun σ2 H2 => wipe σ2 vs = wipe σ vs ∧ tt σ2 H2 fun b H3 => if b = true then te σ2 H3 Z else B H3)
    (hd : ∀ H, Ex H1 H → H D = some (.lst ((List.range n).map f)) → Qd H) :
    ∃ W : Nat → Nat → Hp → Prop, (∃ m, W 0 m (upd H1 D (.lst []))) ∧ ∀ i m H, W i m H →
      (J.stop i H ∧ Qd H) ∨ (J.go i H ∧ ∃ Nx : Hp → Prop, (∀ H', Nx H' → ∃ m', m' < m ∧ W (i + 1) m' H') ∧ ∀ x H', J.yld i H x H' → g x (wipe σ vs) H' fun σ2 H2 => wipe σ2 vs = wipe σ vs ∧ tt σ2 H2 fun b H3 =>
        if b = true then te σ2 H3 fun y H4 => ∃ acc, H4 D = some (.lst acc) ∧ acc.length < sizeLine ∧ Nx (upd H4 D (.lst (acc ++ [y]))) else Nx H3) := by
  refine lc_rel w (fun i y _ => y = f i) hn hD hG (fun _ _ _ _ h _ => h) (fun _ _ _ _ _ h _ => h) (fun i x H H' Z B hi e hl y hz => hs i x H H' Z B hi e hl y fun H4 e4 => hz _ H4 e4 rfl) (fun H ys e h1 h2 h3 => hd H e ?_)
  have : ys = (List.range n).map f := by
    refine List.ext_getElem? fun j => ?_
    by_cases hj : j < n
    · have e1 : ys[j]? = some ys[j] := List.getElem?_eq_getElem (by omega)
      rw [e1, List.getElem?_map, List.getElem?_range hj, h3 j _ e1]
      rfl
    · rw [List.getElem?_eq_none (by omega), List.getElem?_eq_none (by simp; omega)]
  rw [← this]
  exact h1
section
variable {P : Program} {w : World} {K : PySem.W.Frag} {mg : Str → Option Value} {base : Heap}

end
end K00
namespace K00
open PySem PySem.Spec PyProof.Rows L2 C8

def menu13 : List (List Nat) := [[2], [3], [4], [5], [6], [2, 2], [2, 3], [2, 4], [3, 2], [4, 2], [2, 2, 2], [3, 2], [2, 3]]
theorem menu13_ok : ∀ r ∈ menu13, r ∈ menus := by decide +kernel
theorem map_fst_zip_take {α β : Type} : ∀ (l : List α) (m : List β), m.length ≤ l.length → (l.zip m).map Prod.fst = l.take m.length
  | _, [], _ => by simp
  | [], _ :: _, h => by simp at h
  | a :: l, b :: m, h => by
    rw [List.zip_cons_cons, List.map_cons, map_fst_zip_take l m (Nat.le_of_succ_le_succ h)]
    rfl
theorem zip_ns {ws : List Str} {sz : List Nat} (hw : ∀ z ∈ ws, WordOk z) (nd : ws.Nodup) (hs : sz ∈ menus) (hl : sz.length ≤ ws.length) : NsOk (ws.zip sz) := by
  have e1 : szs (ws.zip sz) = sz := by
    unfold szs
    rw [List.map_snd_zip hl]
  have sub : (wds (ws.zip sz)).Sublist ws := by
    unfold wds
    rw [map_fst_zip_take _ _ hl]
    exact List.take_sublist _ _
  exact ⟨by rw [e1]; exact hs, fun z hz => hw z (sub.subset hz), nd.sublist sub⟩
section
variable {P : Program} {w : World} {K : PySem.W.Frag} {mg : Str → Option Value} {base : Heap}

end
end K00
namespace K00
open PySem PySem.Spec PyProof.Rows L2 C8
/-! ### data: what repr and == say of it -/
theorem textFrom_le (m : Nat) : ∀ (ts : List Str) (k : Nat) (acc : Str), (∀ t ∈ ts, t.length ≤ m) → (textFrom k acc ts).length ≤ acc.length + ts.length * (m + 2)
  | [], k, acc, _ => by
    show acc.length ≤ _
    omega
  | t :: r, k, acc, h => by
    have ih := textFrom_le m r (k + 1) (acc ++ (if k > 0 then ", " else "" : String) ++ t) fun u hu => h u (List.mem_cons_of_mem _ hu)
    have e : (acc ++ (if k > 0 then ", " else "" : String) ++ t).length = acc.length + (if k > 0 then 2 else 0) + t.length := by
      rw [strLen_append, strLen_append]
      split <;> rfl
    rw [e] at ih
    have ht := h t (List.mem_cons_self ..)
    show (textFrom (k + 1) _ r).length ≤ _
    rw [List.length_cons, Nat.succ_mul]
    have : (if k > 0 then 2 else 0 : Nat) ≤ 2 := by split <;> omega
    omega
theorem piled_le (m : Nat) : ∀ ts : List Str, (∀ t ∈ ts, t.length ≤ m) → piled ts ≤ ts.length * (m + 2)
  | [], _ => by rw [piled_nil]; exact Nat.zero_le _
  | t :: r, h => by
    have ih := piled_le m r fun u hu => h u (List.mem_cons_of_mem _ hu)
    have ht := h t (List.mem_cons_self ..)
    rw [piled_cons, List.length_cons, Nat.succ_mul]
    omega
theorem tuple_le (m : Nat) (ts : List Str) (h : ∀ t ∈ ts, t.length ≤ m) : (tupleText ts).length ≤ 3 + ts.length * (m + 2) := by
  have e : (tupleText ts).length = 1 + (Str.join ", " ts).length + (if ts.length == 1 then 2 else 1) := by
    unfold tupleText
    rw [strLen_append, strLen_append]
    split <;> rfl
  have c : (if ts.length == 1 then 2 else 1 : Nat) ≤ 2 := by split <;> omega
  rw [e]
  cases ts with
  | nil => show 1 + 0 + 1 ≤ 3 + 0 * _; omega
  | cons t r =>
    have j := join_length_add (t :: r) (by simp)
    have p := piled_le m (t :: r) h
    omega
/-- data without bools and dicts, of this depth at most, whose text has at most m signs -/
structure Fine (d : PyData) (k m : Nat) : Prop where
  lay : d.canLay0 = true
  dep : d.depth ≤ k
  sh : d.showable = true
  nd : d.hasDict = false
  len : d.shown.length ≤ m
theorem Fine.mono {d : PyData} {k k' m m' : Nat} (h : Fine d k m) (h1 : k ≤ k') (h2 : m ≤ m') : Fine d k' m' := ⟨h.lay, Nat.le_trans h.dep h1, h.sh, h.nd, Nat.le_trans h.len h2⟩
abbrev iD (n : Nat) : PyData := .int (n : Int)
theorem Fine.int {n : Nat} (h : n < 10) : Fine (iD n) 0 1 := by
  have key : ∀ n : Nat, n < 10 → (PyData.int (n : Int)).canLay0 = true ∧ (PyData.int (n : Int)).depth ≤ 0 ∧ (PyData.int (n : Int)).showable = true ∧ (PyData.int (n : Int)).hasDict = false ∧ (PyData.int (n : Int)).shown.length ≤ 1 := by decide +kernel
  obtain ⟨a, b, c, d, e⟩ := key n h
  exact ⟨a, b, c, d, e⟩
theorem Fine.str {z : Str} (h : Low z.cps.toList) (hl : z.length ≤ 20) : Fine (.str z) 0 202 := by
  refine ⟨by simp [PyData.canLay0, low_ok h], by simp [PyData.depth], by simp [PyData.showable], by simp [PyData.hasDict], ?_⟩
  have := StrLaws.reprText_len z fun c hc => by have := h c hc; omega
  simp only [PyData.shown]
  omega
theorem fineAll {k m : Nat} : ∀ {ds : List PyData}, (∀ d ∈ ds, Fine d k m) → PyData.canLayAll0 ds = true ∧ PyData.depthAll ds ≤ k ∧ PyData.showableAll ds = true ∧ PyData.hasDictAll ds = false ∧ (PyData.shownAll ds).length = ds.length ∧ ∀ t ∈ PyData.shownAll ds, t.length ≤ m
  | [], _ => ⟨by simp [PyData.canLayAll0], by simp [PyData.depthAll], by simp [PyData.showableAll], by simp [PyData.hasDictAll], by simp [PyData.shownAll], by simp [PyData.shownAll]⟩
  | d :: ds, h => by
    have f := h d (List.mem_cons_self ..)
    obtain ⟨a, b, c, e, g, i⟩ := fineAll (ds := ds) fun x hx => h x (List.mem_cons_of_mem _ hx)
    refine ⟨by simp [PyData.canLayAll0, f.lay, a], by simp only [PyData.depthAll]; have := f.dep; omega, by simp [PyData.showableAll, f.sh, c], by simp [PyData.hasDictAll, f.nd, e], by simp [PyData.shownAll, g], fun t ht => ?_⟩
    simp only [PyData.shownAll, List.mem_cons] at ht
    rcases ht with rfl | ht
    · exact f.len
    · exact i t ht
theorem Fine.list {ds : List PyData} {k m n : Nat} (h : ∀ d ∈ ds, Fine d k m) (hn : ds.length ≤ n) : Fine (.list ds) (k + 1) (2 + n * (m + 2)) := by
  obtain ⟨a, b, c, e, g, i⟩ := fineAll h
  refine ⟨by simp [PyData.canLay0, a], by simp only [PyData.depth]; omega, by simp [PyData.showable, c], by simp [PyData.hasDict, e], ?_⟩
  simp only [PyData.shown]
  unfold listText
  have t := textFrom_le m (PyData.shownAll ds) 0 "[" i
  have e2 : (textFrom 0 "[" (PyData.shownAll ds) ++ ("]" : Str)).length = (textFrom 0 "[" (PyData.shownAll ds)).length + 1 := by rw [strLen_append]; rfl
  have e3 : (("[" : Str)).length = 1 := rfl
  rw [g] at t
  have := Nat.mul_le_mul_right (m + 2) hn
  show (textFrom 0 "[" (PyData.shownAll ds) ++ ("]" : Str)).length ≤ _
  rw [e2]
  omega
theorem Fine.tuple {ds : List PyData} {k m n : Nat} (h : ∀ d ∈ ds, Fine d k m) (hn : ds.length ≤ n) : Fine (.tuple ds) (k + 1) (3 + n * (m + 2)) := by
  obtain ⟨a, b, c, e, g, i⟩ := fineAll h
  refine ⟨by simp [PyData.canLay0, a], by simp only [PyData.depth]; omega, by simp [PyData.showable, c], by simp [PyData.hasDict, e], ?_⟩
  simp only [PyData.shown]
  have t := tuple_le m (PyData.shownAll ds) i
  rw [g] at t
  have := Nat.mul_le_mul_right (m + 2) hn
  omega
theorem Fine.shaped {d : PyData} {k m : Nat} (h : Fine d k m) (hk : k ≤ 60) : SeqAt.shaped d = true := by
  unfold SeqAt.shaped
  rw [h.lay, Bool.true_and]
  have := h.dep
  exact decide_eq_true (by omega)
/-- what repr asks -/
theorem repr_ask {K : PySem.W.Frag} {H : Hp} {v : V} {d : PyData} {k m : Nat} {Q : VK} (hd : Dp K H v d) (f : Fine d k m) (hk : k ≤ 60) (hm : m ≤ 1000000) (q : Q (.str d.shown) H) : rRepr K [v] H Q :=
  ⟨⟨v, d, rfl, hd, f.sh, f.nd, Nat.le_trans f.dep hk, Nat.le_trans f.len (Nat.le_trans hm (by decide)), q⟩⟩
mutual
/-- neither bools nor dicts -/
def plainD : PyData → Bool
  | .none | .int _ | .str _ => true
  | .list xs | .tuple xs => plainAll xs
  | .bool _ | .dict _ => false
def plainAll : List PyData → Bool
  | [] => true
  | x :: xs => plainD x && plainAll xs
end
mutual
theorem eqv_plain : ∀ (d e : PyData), plainD d = true → plainD e = true → (PyData.eqv d e = true ↔ d = e)
  | .none, e, _, he => by cases e <;> simp [plainD, PyData.eqv] at he ⊢
  | .int i, e, _, he => by cases e <;> simp [plainD, PyData.eqv] at he ⊢
  | .str x, e, _, he => by cases e <;> simp [plainD, PyData.eqv] at he ⊢
  | .list xs, e, hd, he => by
    cases e with
    | list ys =>
      have := eqvAll_plain xs ys (by simpa [plainD] using hd) (by simpa [plainD] using he)
      simp only [PyData.eqv, this, PyData.list.injEq]
    | _ => simp [plainD, PyData.eqv] at he ⊢
  | .tuple xs, e, hd, he => by
    cases e with
    | tuple ys =>
      have := eqvAll_plain xs ys (by simpa [plainD] using hd) (by simpa [plainD] using he)
      simp only [PyData.eqv, this, PyData.tuple.injEq]
    | _ => simp [plainD, PyData.eqv] at he ⊢
  | .bool _, _, hd, _ => by simp [plainD] at hd
  | .dict _, _, hd, _ => by simp [plainD] at hd
theorem eqvAll_plain : ∀ (xs ys : List PyData), plainAll xs = true → plainAll ys = true → (PyData.eqvAll xs ys = true ↔ xs = ys)
  | [], [], _, _ => by simp [PyData.eqvAll]
  | [], _ :: _, _, _ => by simp [PyData.eqvAll]
  | _ :: _, [], _, _ => by simp [PyData.eqvAll]
  | x :: xs, y :: ys, h1, h2 => by
    simp only [plainAll, Bool.and_eq_true] at h1 h2
    simp only [PyData.eqvAll, Bool.and_eq_true, eqv_plain x y h1.1 h2.1, eqvAll_plain xs ys h1.2 h2.2, List.cons.injEq]
end
theorem eqv_same {d : PyData} (hd : plainD d = true) : PyData.eqv d d = true := (eqv_plain d d hd hd).mpr rfl
theorem eqv_diff {d e : PyData} (hd : plainD d = true) (he : plainD e = true) (h : d ≠ e) : PyData.eqv d e = false := Bool.eq_false_iff.mpr fun z => h ((eqv_plain d e hd he).mp z)
/-! ### rows and names as data -/
def rD (r : List Nat) : PyData := .list (r.map iD)
def rsD (rs : List (List Nat)) : PyData := .list (rs.map rD)
def nD (n : Str × Nat) : PyData := .tuple [.str n.1, iD n.2]
theorem plain_ints (r : List Nat) : plainAll (r.map iD) = true := by
  induction r with
  | nil => simp [plainAll]
  | cons y r ih => simp [plainAll, plainD]; exact ih
theorem plain_rD (r : List Nat) : plainD (rD r) = true := by unfold rD; simp only [plainD]; exact plain_ints r
theorem plain_nDs (ns : NS) : plainAll (ns.map nD) = true := by
  induction ns with
  | nil => simp [plainAll]
  | cons y r ih => simp only [List.map_cons, plainAll, Bool.and_eq_true]; exact ⟨by simp [nD, plainD, plainAll], ih⟩
theorem rD_inj {r r' : List Nat} (h : rD r = rD r') : r = r' := by
  unfold rD at h
  have h2 := PyData.list.inj h
  refine List.map_inj_right (f := iD) (fun x y e => ?_) |>.mp h2
  have := PyData.int.inj e
  omega
theorem nD_inj {n n' : Str × Nat} (h : nD n = nD n') : n = n' := by
  unfold nD at h
  have h2 := PyData.tuple.inj h
  have h3 := (List.cons.inj h2).1
  have h4 := (List.cons.inj (List.cons.inj h2).2).1
  have a := PyData.str.inj h3
  have b := PyData.int.inj h4
  exact Prod.ext a (by omega)
theorem nDs_inj {ns ns' : NS} (h : ns.map nD = ns'.map nD) : ns = ns' := List.map_inj_right (f := nD) (fun _ _ e => nD_inj e) |>.mp h
theorem dp_ints {K : PySem.W.Frag} {H : Hp} : ∀ r : List Nat, DpAll K H (rV r) (r.map iD)
  | [] => .nil
  | y :: r => .cons (.int _) (dp_ints r)
theorem dp_row {K : PySem.W.Frag} {H : Hp} {l : Addr} {r : List Nat} (h : SqL K H l (rV r)) : Dp K H (.ref l) (rD r) := .lst h (dp_ints r)
theorem dp_rows {K : PySem.W.Frag} {H : Hp} : ∀ {qs : List Addr} {rs : List (List Nat)}, Rows H qs rs → DpAll K H (qs.map V.ref) (rs.map rD)
  | _, _, .nil => .nil
  | _, _, .cons h t => .cons (dp_row (SqL.of h)) (dp_rows t)
theorem dp_n {K : PySem.W.Frag} {H : Hp} {p : Addr} {n : Str × Nat} (h : H p = some (.tup (nV n))) : Dp K H (.ref p) (nD n) := .tup (SqT.of h) (.cons (.str _) (.cons (.int _) .nil))
theorem dp_ns {K : PySem.W.Frag} {H : Hp} : ∀ {ps : List Addr} {ns : NS}, Tups H ps ns → DpAll K H (ps.map V.ref) (ns.map nD)
  | _, _, .nil => .nil
  | _, _, .cons h t => .cons (dp_n h) (dp_ns t)
theorem fine_row {r : List Nat} (h : ∀ v ∈ r, v < 10) {n : Nat} (hl : r.length ≤ n) : Fine (rD r) 1 (2 + n * 3) :=
  (Fine.list (k := 0) (m := 1) (n := n) (fun d hd => by obtain ⟨v, hv, rfl⟩ := List.mem_map.mp hd; exact Fine.int (h v hv)) (by simpa using hl))
theorem fine_n {n : Str × Nat} (h : Low n.1.cps.toList) (hl : n.1.length ≤ 20) (hn : n.2 < 10) : Fine (nD n) 1 500 :=
  (Fine.tuple (k := 0) (m := 202) (n := 2) (fun d hd => by
    simp only [List.mem_cons, List.not_mem_nil, or_false] at hd
    rcases hd with rfl | rfl
    · exact Fine.str h hl
    · exact (Fine.int hn).mono (Nat.le_refl _) (by omega)) (by simp)).mono (Nat.le_refl _) (by omega)
theorem fine_ns {ns : NS} (h : ∀ n ∈ ns, Low n.1.cps.toList ∧ n.1.length ≤ 20 ∧ n.2 < 10) (hl : ns.length ≤ 10) : Fine (.list (ns.map nD)) 2 6000 :=
  (Fine.list (k := 1) (m := 500) (n := 10) (fun d hd => by
    obtain ⟨n, hn, rfl⟩ := List.mem_map.mp hd
    obtain ⟨a, b, c⟩ := h n hn
    exact fine_n a b c) (by simpa using hl)).mono (by omega) (by omega)
theorem fine_nst {ns : NS} (h : ∀ n ∈ ns, Low n.1.cps.toList ∧ n.1.length ≤ 20 ∧ n.2 < 10) (hl : ns.length ≤ 10) : Fine (.tuple (ns.map nD)) 2 6000 :=
  (Fine.tuple (k := 1) (m := 500) (n := 10) (fun d hd => by
    obtain ⟨n, hn, rfl⟩ := List.mem_map.mp hd
    obtain ⟨a, b, c⟩ := h n hn
    exact fine_n a b c) (by simpa using hl)).mono (by omega) (by omega)
theorem NsOk.fine {ns : NS} (h : NsOk ns) : ∀ n ∈ ns, Low n.1.cps.toList ∧ n.1.length ≤ 20 ∧ n.2 < 10 := fun n hn => by
  have w := h.wd n.1 (List.mem_map_of_mem hn)
  have s := h.size hn
  exact ⟨w.low, Nat.le_trans w.hi (by omega), by omega⟩
theorem fine_rows {rs : List (List Nat)} (h : ∀ r ∈ rs, (∀ v ∈ r, v < 10) ∧ r.length ≤ 3) (hl : rs.length ≤ 8) : Fine (rsD rs) 2 200 :=
  (Fine.list (k := 1) (m := 11) (n := 8) (fun d hd => by
    obtain ⟨r, hr, rfl⟩ := List.mem_map.mp hd
    exact fine_row (h r hr).1 (h r hr).2) (by simpa using hl)).mono (by omega) (by omega)
theorem menu_small : ∀ sz ∈ menus, ∀ r ∈ rowsOf sz, (∀ v ∈ r, v < 10) ∧ r.length = sz.length := by decide +kernel
end K00
namespace K00
open PySem PySem.Spec PyProof.Rows L2 C8

theorem ixT {X : Cx} {K : PySem.W.Frag} (h : X.K = K) : IxR X (rIxT K) := h ▸ ix_tup
theorem ixL {X : Cx} {K : PySem.W.Frag} (h : X.K = K) : IxR X (rIxL K) := h ▸ ix_list
theorem pgT {X : Cx} {K : PySem.W.Frag} {es : List Expr} {k : Nat} {pos : Pos} {t : TGs} {n : Nat} (h : X.K = K) (hc : X.calm = true) (g : PGs X es t) (hn : (assignEach es X.env).length = n := by rfl)
    (hst : (assignEach es X.env).findIdx? (·.1) = none := by rfl) : PG X (.Tuple es k pos) (gTup K n t) := h ▸ pg_tup hc g hn hst
theorem u65 {k : Nat} {A : Around} (r : Room k A) : A.units + 65 < cLine := by have := r.un; omega
theorem refs_of : ∀ {ys : List V} {F : Nat → Addr → Prop}, (∀ (j : Nat) y, ys[j]? = some y → ∃ t, y = .ref t ∧ F j t) → ∃ ts : List Addr, ys = ts.map V.ref ∧ ∀ (j : Nat) t, ts[j]? = some t → F j t
  | [], F, _ => ⟨[], rfl, fun j t h => by simp at h⟩
  | y :: ys, F, h => by
    obtain ⟨t, e, ft⟩ := h 0 y rfl
    obtain ⟨ts, e2, g⟩ := refs_of (ys := ys) (F := fun j => F (j + 1)) fun j z hj => h (j + 1) z hj
    subst e e2
    exact ⟨t :: ts, rfl, fun j u hj => by
      cases j with
      | zero => cases hj; exact ft
      | succ j => exact g j u hj⟩
theorem Rows.byIx {H : Hp} : ∀ {qs : List Addr} {rs : List (List Nat)}, qs.length = rs.length → (∀ (i : Nat) q r, qs[i]? = some q → rs[i]? = some r → H q = some (.lst (rV r))) → Rows H qs rs
  | [], [], _, _ => .nil
  | [], _ :: _, h, _ => nomatch h
  | _ :: _, [], h, _ => nomatch h
  | p :: ps, n :: ns, h, g => .cons (g 0 p n rfl rfl) (Rows.byIx (Nat.succ.inj h) fun i p' n' a b => g (i + 1) p' n' a b)
theorem rowsOf_succ (sz : List Nat) (i : Nat) (s : Nat) (h : sz[i]? = some s) : rowsOf (sz.take (i + 1)) = rowsStep (rowsOf (sz.take i)) s := by
  unfold rowsOf
  rw [List.take_succ, h, List.foldl_append]
  rfl
theorem rowsStep_succ (rs : List (List Nat)) (j : Nat) (s : Nat) (r : List Nat) (h : rs[j]? = some r) : rowsStep (rs.take (j + 1)) s = rowsStep (rs.take j) s ++ (List.range s).map fun v => r ++ [v] := by
  unfold rowsStep
  rw [List.take_succ, h, List.flatMap_append]
  simp
theorem rows_few : ∀ sz ∈ menus, ∀ i, (rowsOf (sz.take i)).length ≤ 8 := by
  intro sz hs i
  have key : ∀ sz ∈ menus, ∀ i, i < 4 → (rowsOf (sz.take i)).length ≤ 8 := by decide +kernel
  by_cases hi : i < 4
  · exact key sz hs i hi
  · have f := menu_facts sz hs
    rw [List.take_of_length_le (by omega)]
    omega
theorem rows_short : ∀ sz ∈ menus, ∀ i, ∀ r ∈ rowsOf (sz.take i), r.length ≤ 3 := by
  intro sz hs i
  have key : ∀ sz ∈ menus, ∀ i, i < 4 → ∀ r ∈ rowsOf (sz.take i), r.length ≤ 3 := by decide +kernel
  by_cases hi : i < 4
  · exact key sz hs i hi
  · have f := menu_facts sz hs
    rw [List.take_of_length_le (by omega)]
    have := key sz hs 3 (by omega)
    rw [List.take_of_length_le (by omega)] at this
    exact this
theorem rowsStep_few (rs : List (List Nat)) (j s : Nat) (h : rs.length ≤ 8) (hs : s ≤ 6) : (rowsStep (rs.take j) s).length ≤ 48 := by
  unfold rowsStep
  rw [List.length_flatMap]
  have : ((rs.take j).map fun r => ((List.range s).map fun v => r ++ [v]).length).sum ≤ (rs.take j).length * s := by
    generalize rs.take j = l
    induction l with
    | nil => simp
    | cons a l ih =>
      simp only [List.map_cons, List.sum_cons, List.length_map, List.length_range, List.length_cons] at ih ⊢
      rw [Nat.succ_mul]
      omega
  have h2 : (rs.take j).length ≤ 8 := Nat.le_trans (List.length_take_le' _ _) h
  have h3 : (rs.take j).length * s ≤ 8 * 6 := Nat.mul_le_mul h2 hs
  omega
theorem sz_at {ns : NS} {i : Nat} {n : Str × Nat} (h : ns[i]? = some n) : (szs ns)[i]? = some n.2 := by unfold szs; rw [List.getElem?_map, h]; rfl
section
variable {P : Program} {w : World} {K : PySem.W.Frag} {mg : Str → Option Value} {base : Heap}

end
end K00
namespace K00
open PySem PySem.Spec PyProof.Rows L2 C8

/-- a space of these names at x -/
def SpaceAt (K : PySem.W.Frag) (H : Hp) (x : Addr) (ns : NS) : Prop := ∃ (dx t : Addr) (o : Obj) (ps : List Addr), H x = some (.ins (He.ga K "Space") dx [("names", .ref t), ("never", .int ((prodN (szs ns) : Nat) : Int))]) ∧ H t = some (.frz o (.tup (ps.map V.ref))) ∧ o.dict = none ∧ Tups H ps ns
theorem SpaceAt.mono {K : PySem.W.Frag} {H H' : Hp} {x : Addr} {ns : NS} (e : Ex H H') (h : SpaceAt K H x ns) : SpaceAt K H' x ns := by
  obtain ⟨dx, t, o, ps, h1, h2, h3, h4⟩ := h
  exact ⟨dx, t, o, ps, e _ _ h1, e _ _ h2, h3, h4.mono e⟩
theorem word_letters {z : Str} (h : WordOk z) : ∀ (i c : Nat), z.cps[i]? = some c → c ∈ alpha.cps.toList := by
  intro i c hc
  have hm : c ∈ z.cps.toList := by
    rw [← Array.getElem?_toList] at hc
    exact List.mem_of_getElem? hc
  have := h.low c hm
  rw [alpha_list]
  exact List.mem_map.mpr ⟨c - 97, List.mem_range.mpr (by omega), by omega⟩
theorem range_all_true {n : Nat} {f : Nat → Bool} (h : ∀ i, i < n → f i = true) : ((List.range n).map f).all id = true := by
  rw [List.all_eq_true]
  intro b hb
  obtain ⟨i, hi, rfl⟩ := List.mem_map.mp hb
  exact h i (List.mem_range.mp hi)
theorem prodN_snoc : ∀ (l : List Nat) (s : Nat), prodN (l ++ [s]) = prodN l * s
  | [], s => by simp [prodN]
  | a :: l, s => by
    show a * prodN (l ++ [s]) = a * prodN l * s
    rw [prodN_snoc l s, Nat.mul_assoc]
theorem prodN_take (sz : List Nat) (i s : Nat) (h : sz[i]? = some s) : prodN (sz.take (i + 1)) = prodN (sz.take i) * s := by
  rw [List.take_succ, h]
  exact prodN_snoc _ s
theorem prod_few : ∀ sz ∈ menus, ∀ i, prodN (sz.take i) ≤ 8 := by
  intro sz hs i
  have key : ∀ sz ∈ menus, ∀ i, i < 4 → prodN (sz.take i) ≤ 8 := by decide +kernel
  by_cases hi : i < 4
  · exact key sz hs i hi
  · have f := menu_facts sz hs
    rw [List.take_of_length_le (by omega)]
    omega
theorem wds_at {ns : NS} {i : Nat} {n : Str × Nat} (h : ns[i]? = some n) : (wds ns)[i]? = some n.1 := by unfold wds; rw [List.getElem?_map, h]; rfl
section
variable {P : Program} {w : World} {K : PySem.W.Frag} {mg : Str → Option Value} {base : Heap}
abbrev N_is_word : List Str := ["value", "letter"]
theorem sc_is_word : FnScope N_is_word ["value"] (defScope (top 54)) := ⟨rfl, rfl, rfl, by decide +kernel, rfl, by decide +kernel, by decide +kernel⟩
def spWord : Sp := fun vs H Q _ => ∃ z : Str, vs = [.str z] ∧ WordOk z ∧ ∀ H', Ex H H' → Q (.bl true) H'
theorem ok_is_word (T : Txt K mg)  : Cal P w K mg base 1 "is_word" (spWord) [] := by
  obtain ⟨fd, F⟩ := T.d_is_word
  refine ⟨_, fd, ["value"], [], ?_, T.g_is_word, F.kp, F.bindsN fun _ _ _ _ _ _ us hl => match us, hl with | [_], _ => rfl, .nil⟩
  refine F.ok sc_is_word (fun vs H Q E h => by obtain ⟨_, rfl, _⟩ := h; rfl) (fun cdv A outer s H vs Q E hr h => ?_)
  have hu := hu_of hr
  refine ⟨_, PSs.nox (pss_cons (ps_if (PW.pt (pw_or (pt_not (pt_val (pe_callB call_isi (by rfl) T.f_isinstance (by decide +kernel) (pa_cons (pv 0) (pa_cons (pe_bltn (v := .ty "str") (u := .type "str") (by rfl) T.f_str (by decide +kernel) rfl) pa_nil))))) (pw_or1 (pt_not (pt_chain op_le op_le pe_int (pe_callB call_len_str (by rfl) T.f_len (by decide +kernel) (pa_cons (pv 0) pa_nil)) (pe_gc rfl T.c_LONGEST_WORD)))))) (pss_one (ps_ret pe_bl)) pss_nil)
      (pss_one (ps_ret (pe_and (pe_callB (cr_all rfl) (by rfl) T.f_all (by decide +kernel) (pa_cons (pe_lc (own := [("letter", 1)]) rfl sc_is_word.nd (pi_str (pv 0)) (blkOk_by (own := [("letter", 1)]) (N := N_is_word) (sc := defScope (top 54)) (by decide +kernel)) (fun _ _ _ _ _ => (pg_name (i := 1) sc_is_word.nd rfl (Or.inl rfl))) (fun _ _ _ _ _ => pts_nil) (fun _ _ _ _ _ => (pe_cmpR op_in_sign (pv 1) (pe_gc rfl T.c_LETTERS) rfl))) pa_nil)) (pe_one (pe_cmpR op_notIn_seq (pv 0) (pe_gc rfl T.c_LANGUAGE_WORDS) rfl)))))), ?_⟩
  obtain ⟨z, rfl, hw, hQ⟩ := h
  refine ⟨_, rfl, _, _, _, _, _, rfl, ClsV.ty _, TyX.base (TyOf.str _), kit_ty (r := true) (by decide +kernel), _, rfl, ?_⟩
  have lz := hw.lo
  have hz := hw.hi
  refine ⟨_, rfl, _, rfl, Nat.le_trans (show z.length ≤ 100 by omega) (by decide), _, _, rfl, rfl, _, rfl, ?_⟩
  rw [if_pos (decide_eq_true (by omega))]
  refine ⟨_, _, rfl, rfl, _, rfl, ?_⟩
  rw [decide_eq_true (by omega)]
  refine ⟨_, rfl, _, rfl, fun D hD => ?_⟩
  refine lc_fn walk_str (fun _ => .bl true) (by show z.length ≤ 1000; omega) hD (fun _ _ => trivial) ?_ ?_
  · rintro i x H1' H1 Z B hi e hl ⟨rfl, c, hc, rfl⟩ hZ
    refine ⟨rfl, ?_⟩
    refine ⟨_, rfl, c, alpha, rfl, rfl, ?_⟩
    rw [decide_eq_true (word_letters hw i c hc)]
    exact hZ _ (Evl.Ex.refl _)
  · intro H1 e hd
    refine ⟨D, (List.range z.cps.size).map fun _ => true, rfl, by rw [List.map_map]; exact SqL.of hd, _, rfl, ?_⟩
    rw [range_all_true fun _ _ => rfl]
    refine ⟨_, rfl, He.ga K "LANGUAGE_WORDS", barred.map V.str, rfl, .inr (T.t_LW _), rfl, by decide +kernel, ?_⟩
    have hb := hw.bar
    have e2 : inV (.str z) (barred.map V.str) = isBar z := by
      simp only [inV, isBar, barred, List.map_cons, List.map_nil, List.any_cons, List.any_nil, eqV, List.contains_cons, List.contains_nil]
      simp only [Bool.beq_comm]
    rw [e2, hb]
    exact hQ _ e

abbrev N_is_sized_name : List Str := ["value"]
theorem sc_is_sized_name : FnScope N_is_sized_name ["value"] (defScope (top 55)) := ⟨rfl, rfl, rfl, by decide +kernel, rfl, by decide +kernel, by decide +kernel⟩
def spSized : Sp := fun vs H Q _ => ∃ (p : Addr) (n : Str × Nat), vs = [.ref p] ∧ H p = some (.tup (nV n)) ∧ WordOk n.1 ∧ 2 ≤ n.2 ∧ n.2 ≤ 6 ∧ ∀ H', Ex H H' → Q (.bl true) H'
theorem ok_is_sized_name (T : Txt K mg) (C_is_word : Cal P w K mg base 1 "is_word" spWord []) (C_is_whole_from : Cal P w K mg base 2 "is_whole_from" spWholeFrom []) : Cal P w K mg base 3 "is_sized_name" (spSized) [] := by
  obtain ⟨fd, F⟩ := T.d_is_sized_name
  refine ⟨_, fd, ["value"], [], ?_, T.g_is_sized_name, F.kp, F.bindsN fun _ _ _ _ _ _ us hl => match us, hl with | [_], _ => rfl, .nil⟩
  refine F.ok sc_is_sized_name (fun vs H Q E h => by obtain ⟨_, _, rfl, _⟩ := h; rfl) (fun cdv A outer s H vs Q E hr h => ?_)
  have hu := hu_of hr
  refine ⟨_, PSs.nox (pss_cons (ps_if (PW.pt (pw_or (pt_not (pt_val (pe_callB call_isi (by rfl) T.f_isinstance (by decide +kernel) (pa_cons (pv 0) (pa_cons (pe_bltn (v := .ty "tuple") (u := .type "tuple") (by rfl) T.f_tuple (by decide +kernel) rfl) pa_nil))))) (pw_or1 (pt_cmpR op_ne (pe_callB call_len_seq (by rfl) T.f_len (by decide +kernel) (pa_cons (pv 0) pa_nil)) pe_int (nomark _))))) (pss_one (ps_ret pe_bl)) pss_nil)
      (pss_one (ps_ret (pe_and (pe_c C_is_word hr (by omega) rfl (pa_cons (pe_ix ix_tup (pv 0) pe_int (fun _ _ => rfl)) pa_nil)) (pe_one (pe_c C_is_whole_from hr (by omega) rfl (pa_cons (pe_ix ix_tup (pv 0) pe_int (fun _ _ => rfl)) (pa_cons (pe_gc rfl T.c_LEAST_SIZE) (pa_cons (pe_gc rfl T.c_GREATEST_SIZE) pa_nil))))))))), ?_⟩
  obtain ⟨p, n, rfl, hp, hw, h2, h6, hQ⟩ := h
  refine ⟨_, rfl, _, _, _, _, _, rfl, ClsV.ty _, TyX.base (TyOf.tup hp), kit_ty (r := true) (by decide +kernel), _, rfl, ?_⟩
  refine ⟨_, rfl, p, nV n, rfl, .inr (SqT.of hp), rfl, _, rfl, ?_⟩
  refine ⟨_, rfl, p, nV n, 0, .str n.1, rfl, rfl, SqT.of hp, rfl, n.1, rfl, hw, fun H1 e1 => ⟨_, rfl, ?_⟩⟩
  refine ⟨_, rfl, p, nV n, 1, .int (n.2 : Int), rfl, rfl, SqT.of (e1 p _ hp), rfl, (n.2 : Int), 2, 6, rfl, ?_⟩
  rw [decide_eq_true (by omega), decide_eq_true (by omega)]
  exact hQ _ e1

abbrev N_stores_of_sizes : List Str := ["sizes", "product", "size"]
theorem sc_stores_of_sizes : FnScope N_stores_of_sizes ["sizes"] (defScope (top 56)) := ⟨rfl, rfl, rfl, by decide +kernel, rfl, by decide +kernel, by decide +kernel⟩
def spSizes (K : PySem.W.Frag) : Sp := fun vs H Q _ => ∃ (a : Addr) (sz : List Nat), vs = [.ref a] ∧ SqL K H a (rV sz) ∧ sz ∈ menus ∧ Q (.int ((prodN sz : Nat) : Int)) H
theorem ok_stores_of_sizes (T : Txt K mg)  : Cal P w K mg base 1 "stores_of_sizes" (spSizes K) [] := by
  obtain ⟨fd, F⟩ := T.d_stores_of_sizes
  refine ⟨_, fd, ["sizes"], [], ?_, T.g_stores_of_sizes, F.kp, F.bindsN fun _ _ _ _ _ _ us hl => match us, hl with | [_], _ => rfl, .nil⟩
  refine F.ok sc_stores_of_sizes (fun vs H Q E h => by obtain ⟨_, _, rfl, _⟩ := h; rfl) (fun cdv A outer s H vs Q E hr h => ?_)
  have hu := hu_of hr
  refine ⟨_, PSs.nox (pss_cons (ps_set (i := 1) sc_stores_of_sizes.nd rfl (Or.inl rfl) pe_int)
      (pss_cons (ps_for PassesOwn.never rfl (pi_list (pv 0)) (pg_name (i := 2) sc_stores_of_sizes.nd rfl (Or.inl rfl)) (pss_one (ps_set (i := 1) sc_stores_of_sizes.nd rfl (Or.inl rfl) (pe_op op_mul (pv 1) (pv 2)))))
      (pss_one (ps_ret (pv 1))))), ?_⟩
  obtain ⟨a, sz, rfl, hS, hm, hQ⟩ := h
  refine ⟨_, rfl, a, rfl, ⟨_, hS⟩, ?_⟩
  refine for_it (walk_list (xs := rV sz)) (fun i σ H' => H' = H ∧ ∃ x, σ = [some (.ref a), some (.int ((prodN (sz.take i) : Nat) : Int)), x]) ⟨rfl, none, rfl⟩ (fun i σ H' _ p => by rw [p.1]; exact hS) ?_ ?_
  · rintro i x σ H1 H1' hi ⟨rfl, x2, rfl⟩ ⟨rfl, hx⟩
    rw [List.getElem?_map] at hx
    cases hs : sz[i]? with
    | none => rw [hs] at hx; cases hx
    | some s =>
      rw [hs] at hx
      cases hx
      have f1 := prod_few _ hm i
      have f2 := (menu_facts _ hm).2.2.2.2.2 s (List.mem_of_getElem? hs)
      refine ⟨_, rfl, _, rfl, _, _, rfl, rfl, .inl ⟨by omega, by omega⟩, rfl, some (.int (s : Int)), ?_⟩
      rw [prodN_take _ _ _ hs, Int.natCast_mul]
      rfl
  · rintro σ H1 ⟨rfl, x2, rfl⟩
    refine ⟨_, rfl, ?_⟩
    rw [List.take_of_length_le (by simp)]
    exact hQ

end
end K00
namespace K00
open PySem PySem.Spec PyProof.Rows L2 C8

/-- an argument that holds names: a list, or a tuple whose object is known -/
def NArg (H : Hp) (a : Addr) (ps : List Addr) : Prop := H a = some (.lst (ps.map V.ref)) ∨ ∃ o, H a = some (.frz o (.tup (ps.map V.ref))) ∧ o.dict = none
theorem words_list (ns : NS) : (List.range ns.length).map (fun i => V.str ((ns.getD i (alpha, 0)).1)) = (wds ns).map V.str := by
  refine List.ext_getElem? fun j => ?_
  by_cases hj : j < ns.length
  · rw [List.getElem?_map, List.getElem?_range hj, List.getElem?_map]
    unfold wds
    rw [List.getElem?_map, List.getElem?_eq_getElem hj]
    simp [List.getD_eq_getElem?_getD, hj]
  · rw [List.getElem?_eq_none (by simp; omega), List.getElem?_eq_none (by simp [wds]; omega)]
theorem sizes_list (ns : NS) : (List.range ns.length).map (fun i => V.int (((ns.getD i (alpha, 0)).2 : Nat) : Int)) = rV (szs ns) := by
  refine List.ext_getElem? fun j => ?_
  by_cases hj : j < ns.length
  · rw [List.getElem?_map, List.getElem?_range hj, List.getElem?_map]
    unfold szs
    rw [List.getElem?_map, List.getElem?_eq_getElem hj]
    simp [List.getD_eq_getElem?_getD, hj]
  · rw [List.getElem?_eq_none (by simp; omega), List.getElem?_eq_none (by simp [szs]; omega)]
theorem getD_of {ns : NS} {i : Nat} {n : Str × Nat} (h : ns[i]? = some n) : ns.getD i (alpha, 0) = n := by rw [List.getD_eq_getElem?_getD, h]; rfl
section
variable {P : Program} {w : World} {K : PySem.W.Frag} {mg : Str → Option Value} {base : Heap}
abbrev N_are_space_names : List Str := ["value", "words", "pair", "name", "_", "size"]
theorem sc_are_space_names : FnScope N_are_space_names ["value"] (defScope (top 57)) := ⟨rfl, rfl, rfl, by decide +kernel, rfl, by decide +kernel, by decide +kernel⟩
def spNamesOk : Sp := fun vs H Q _ => ∃ (a : Addr) (ps : List Addr) (ns : NS), vs = [.ref a] ∧ NArg H a ps ∧ Tups H ps ns ∧ NsOk ns ∧ ∀ H', Ex H H' → Q (.bl true) H'
theorem ok_are_space_names (T : Txt K mg) (C_is_sized_name : Cal P w K mg base 3 "is_sized_name" spSized []) (C_stores_of_sizes : Cal P w K mg base 1 "stores_of_sizes" (spSizes K) []) : Cal P w K mg base 4 "are_space_names" (spNamesOk) [] := by
  obtain ⟨fd, F⟩ := T.d_are_space_names
  refine ⟨_, fd, ["value"], [], ?_, T.g_are_space_names, F.kp, F.bindsN fun _ _ _ _ _ _ us hl => match us, hl with | [_], _ => rfl, .nil⟩
  refine F.ok sc_are_space_names (fun vs H Q E h => by obtain ⟨_, _, _, rfl, _⟩ := h; rfl) (fun cdv A outer s H vs Q E hr h => ?_)
  have hu := hu_of hr
  obtain ⟨a, ps, ns, rfl, hA, hT, hok, hQ⟩ := h
  have hl := hT.length
  have hn3 := hok.len
  rcases hA with hS | ⟨o, hS, ho⟩
  · have hSQ : SqL K H a (ps.map V.ref) := SqL.of hS
    refine ⟨_, PSs.nox (pss_cons (ps_if (PW.pt (pw_or (pt_not (pt_val (pe_callB call_isiT (by rfl) T.f_isinstance (by decide +kernel) (pa_cons (pv 0) (pa_cons (pe_tup (pa_cons (pe_bltn (v := .ty "list") (u := .type "list") (by rfl) T.f_list (by decide +kernel) rfl) (pa_cons (pe_bltn (v := .ty "tuple") (u := .type "tuple") (by rfl) T.f_tuple (by decide +kernel) rfl) pa_nil))) pa_nil))))) (pw_or1 (pt_not (pt_chain op_le op_le pe_int (pe_callB call_len_seq (by rfl) T.f_len (by decide +kernel) (pa_cons (pv 0) pa_nil)) (pe_gc rfl T.c_MOST_NAMES)))))) (pss_one (ps_ret pe_bl)) pss_nil)
      (pss_cons (ps_if (pt_not (pt_val (pe_callB (cr_all rfl) (by rfl) T.f_all (by decide +kernel) (pa_cons (pe_lc (own := [("pair", 2)]) rfl sc_are_space_names.nd (pi_list (pv 0)) (blkOk_by (own := [("pair", 2)]) (N := N_are_space_names) (sc := defScope (top 57)) (by decide +kernel)) (fun _ _ _ _ _ => (pg_name (i := 2) sc_are_space_names.nd rfl (Or.inl rfl))) (fun _ _ _ _ _ => pts_nil) (fun _ _ _ _ _ => (pe_c C_is_sized_name hr (by decide) rfl (pa_cons (pv 2) pa_nil)))) pa_nil)))) (pss_one (ps_ret pe_bl)) pss_nil)
      (pss_cons (ps_setLc (i := 1) (own := [("name", 3), ("_", 4)]) rfl sc_are_space_names.nd rfl rfl (sw_true rfl rfl rfl (by decide +kernel)) (pi_list (pv 0)) (blkOk_by (own := [("name", 3), ("_", 4)]) (N := N_are_space_names) (sc := defScope (top 57)) (by decide +kernel)) (fun _ _ _ _ _ => (pgT (K := K) (n := 2) rfl (by rfl) (pgs_cons (pg_name (i := 3) sc_are_space_names.nd rfl (Or.inl rfl)) (pgs_cons (pg_name (i := 4) sc_are_space_names.nd rfl (Or.inl rfl)) pgs_nil)))) (fun _ _ _ _ _ => pts_nil) (fun _ _ _ _ _ => (pv 3)))
      (pss_one (ps_ret (pe_and (pe_cmpR op_eq (pe_lenSetS rfl (by rfl) T.f_len (by rfl) T.f_set (pv 1)) (pe_callB call_len_seq (by rfl) T.f_len (by decide +kernel) (pa_cons (pv 1) pa_nil)) (nomark _)) (pe_one (pe_cmpR op_le (pe_c C_stores_of_sizes hr (by decide) rfl (pa_cons (pe_lc (own := [("_", 4), ("size", 5)]) rfl sc_are_space_names.nd (pi_list (pv 0)) (blkOk_by (own := [("_", 4), ("size", 5)]) (N := N_are_space_names) (sc := defScope (top 57)) (by decide +kernel)) (fun _ _ _ _ _ => (pgT (K := K) (n := 2) rfl (by rfl) (pgs_cons (pg_name (i := 4) sc_are_space_names.nd rfl (Or.inl rfl)) (pgs_cons (pg_name (i := 5) sc_are_space_names.nd rfl (Or.inl rfl)) pgs_nil)))) (fun _ _ _ _ _ => pts_nil) (fun _ _ _ _ _ => (pv 5))) pa_nil)) (pe_gc rfl T.c_MOST_STORES) (nomark _))))))))), ?_⟩
    refine ⟨_, rfl, (by show 2 ≤ sizeLine; decide), fun tp htp => ⟨.ref a, tp, [.ty "list", .ty "tuple"], .type "list", [.type "list", .type "tuple"], true, rfl, upd_same, .cons (ClsV.ty _) (.cons (ClsV.ty _) .nil), ?_, (kitAny_cons (kit_ty (r := true) (by decide +kernel)) (fun z => nomatch z) (fun _ => rfl)), _, rfl, ?_⟩⟩
    · have hS0 := hS
      have hS := (Evl.Ex.new (o := .tup [.ty "list", .ty "tuple"]) htp) a _ hS0
      exact (TyX.base (TyOf.lst hS))
    obtain ⟨H1, e1, hH1⟩ : ∃ H1, Ex H H1 ∧ H1 = upd H tp (.tup [.ty "list", .ty "tuple"]) := ⟨_, Evl.Ex.new htp, rfl⟩
    rw [← hH1]
    refine ⟨_, rfl, a, ps.map V.ref, rfl, (.inl (Evl.ex_l e1 hSQ)), _, _, rfl, rfl, _, rfl, ?_⟩
    rw [if_pos (decide_eq_true (by rw [List.length_map]; omega))]
    refine ⟨_, _, rfl, rfl, _, rfl, ?_⟩
    rw [decide_eq_true (by rw [List.length_map]; omega)]
    -- all
    refine ⟨_, rfl, a, rfl, ⟨_, Evl.ex_l e1 hSQ⟩, fun D hD => ?_⟩
    refine lc_fn (walk_list (xs := ps.map V.ref)) (fun _ => .bl true) (by rw [List.length_map]; omega) hD (fun H' e => Evl.ex_l (e1.trans e) hSQ) ?_ ?_
    · rintro i x H2' H2 Z B hi e hl ⟨rfl, hx⟩ hZ
      obtain ⟨p, rfl, hp2⟩ := refs_get hx
      obtain ⟨n, hn, hpn⟩ := hT.get hp2
      have hm := List.mem_of_getElem? hn
      refine ⟨rfl, ?_⟩
      refine ⟨_, rfl, p, n, rfl, (e1.trans e) p _ hpn, hok.wd _ (List.mem_map_of_mem hm), (hok.size hm).1, (hok.size hm).2, fun H3 e3 => hZ H3 e3⟩
    intro H2 e2 hd
    refine ⟨D, (List.range (ps.map V.ref).length).map fun _ => true, rfl, by rw [List.map_map]; exact SqL.of hd, _, rfl, ?_⟩
    rw [range_all_true fun _ _ => rfl]
    have e12 := e1.trans e2
    -- words
    refine ⟨_, rfl, a, rfl, ⟨_, Evl.ex_l e12 hSQ⟩, fun D2 hD2 => ?_⟩
    refine lc_fn (walk_list (xs := ps.map V.ref)) (fun i => V.str ((ns.getD i (alpha, 0)).1)) (by rw [List.length_map]; omega) hD2 (fun H' e => Evl.ex_l (e12.trans e) hSQ) ?_ ?_
    · rintro i x H3' H3 Z B hi e hl ⟨rfl, hx⟩ hZ
      obtain ⟨p, rfl, hp2⟩ := refs_get hx
      obtain ⟨n, hn, hpn⟩ := hT.get hp2
      refine ⟨p, nV n, rfl, SqT.of ((e12.trans e) p _ hpn), rfl, _, _, rfl, _, _, rfl, rfl, ?_⟩
      refine ⟨rfl, ?_⟩
      refine ⟨_, rfl, ?_⟩
      rw [getD_of hn] at hZ
      exact hZ _ (Evl.Ex.refl _)
    intro H3 e3 hd3
    rw [List.length_map, hl, words_list] at hd3
    have e13 := e12.trans e3
    have lw : (wds ns).length = ns.length := by simp [wds]
    refine ⟨_, rfl, D2, wds ns, rfl, SqL.of hd3, by omega, hok.nd, ?_⟩
    refine ⟨_, rfl, D2, (wds ns).map V.str, rfl, .inl (SqL.of hd3), rfl, _, rfl, ?_⟩
    rw [decide_eq_true (by rw [List.length_map])]
    -- sizes
    refine ⟨_, rfl, a, rfl, ⟨_, Evl.ex_l e13 hSQ⟩, fun D3 hD3 => ?_⟩
    refine lc_fn (walk_list (xs := ps.map V.ref)) (fun i => V.int (((ns.getD i (alpha, 0)).2 : Nat) : Int)) (by rw [List.length_map]; omega) hD3 (fun H' e => Evl.ex_l (e13.trans e) hSQ) ?_ ?_
    · rintro i x H4' H4 Z B hi e hl ⟨rfl, hx⟩ hZ
      obtain ⟨p, rfl, hp2⟩ := refs_get hx
      obtain ⟨n, hn, hpn⟩ := hT.get hp2
      refine ⟨p, nV n, rfl, SqT.of ((e13.trans e) p _ hpn), rfl, _, _, rfl, _, _, rfl, rfl, ?_⟩
      refine ⟨rfl, ?_⟩
      refine ⟨_, rfl, ?_⟩
      rw [getD_of hn] at hZ
      exact hZ _ (Evl.Ex.refl _)
    intro H4 e4 hd4
    rw [List.length_map, hl, sizes_list] at hd4
    refine ⟨D3, szs ns, rfl, SqL.of hd4, hok.sz, _, _, rfl, rfl, ?_⟩
    have f8 := (menu_facts _ hok.sz).2.1
    show Q (V.bl (decide (((prodN (szs ns) : Nat) : Int) ≤ 8))) H4
    rw [decide_eq_true (by omega)]
    exact hQ _ (e13.trans e4)
  · have hSQ : SqT K H a (ps.map V.ref) := Or.inl (Or.inr ⟨_, hS⟩)
    refine ⟨_, PSs.nox (pss_cons (ps_if (PW.pt (pw_or (pt_not (pt_val (pe_callB call_isiT (by rfl) T.f_isinstance (by decide +kernel) (pa_cons (pv 0) (pa_cons (pe_tup (pa_cons (pe_bltn (v := .ty "list") (u := .type "list") (by rfl) T.f_list (by decide +kernel) rfl) (pa_cons (pe_bltn (v := .ty "tuple") (u := .type "tuple") (by rfl) T.f_tuple (by decide +kernel) rfl) pa_nil))) pa_nil))))) (pw_or1 (pt_not (pt_chain op_le op_le pe_int (pe_callB call_len_seq (by rfl) T.f_len (by decide +kernel) (pa_cons (pv 0) pa_nil)) (pe_gc rfl T.c_MOST_NAMES)))))) (pss_one (ps_ret pe_bl)) pss_nil)
      (pss_cons (ps_if (pt_not (pt_val (pe_callB (cr_all rfl) (by rfl) T.f_all (by decide +kernel) (pa_cons (pe_lc (own := [("pair", 2)]) rfl sc_are_space_names.nd (pi_tup (pv 0)) (blkOk_by (own := [("pair", 2)]) (N := N_are_space_names) (sc := defScope (top 57)) (by decide +kernel)) (fun _ _ _ _ _ => (pg_name (i := 2) sc_are_space_names.nd rfl (Or.inl rfl))) (fun _ _ _ _ _ => pts_nil) (fun _ _ _ _ _ => (pe_c C_is_sized_name hr (by decide) rfl (pa_cons (pv 2) pa_nil)))) pa_nil)))) (pss_one (ps_ret pe_bl)) pss_nil)
      (pss_cons (ps_setLc (i := 1) (own := [("name", 3), ("_", 4)]) rfl sc_are_space_names.nd rfl rfl (sw_true rfl rfl rfl (by decide +kernel)) (pi_tup (pv 0)) (blkOk_by (own := [("name", 3), ("_", 4)]) (N := N_are_space_names) (sc := defScope (top 57)) (by decide +kernel)) (fun _ _ _ _ _ => (pgT (K := K) (n := 2) rfl (by rfl) (pgs_cons (pg_name (i := 3) sc_are_space_names.nd rfl (Or.inl rfl)) (pgs_cons (pg_name (i := 4) sc_are_space_names.nd rfl (Or.inl rfl)) pgs_nil)))) (fun _ _ _ _ _ => pts_nil) (fun _ _ _ _ _ => (pv 3)))
      (pss_one (ps_ret (pe_and (pe_cmpR op_eq (pe_lenSetS rfl (by rfl) T.f_len (by rfl) T.f_set (pv 1)) (pe_callB call_len_seq (by rfl) T.f_len (by decide +kernel) (pa_cons (pv 1) pa_nil)) (nomark _)) (pe_one (pe_cmpR op_le (pe_c C_stores_of_sizes hr (by decide) rfl (pa_cons (pe_lc (own := [("_", 4), ("size", 5)]) rfl sc_are_space_names.nd (pi_tup (pv 0)) (blkOk_by (own := [("_", 4), ("size", 5)]) (N := N_are_space_names) (sc := defScope (top 57)) (by decide +kernel)) (fun _ _ _ _ _ => (pgT (K := K) (n := 2) rfl (by rfl) (pgs_cons (pg_name (i := 4) sc_are_space_names.nd rfl (Or.inl rfl)) (pgs_cons (pg_name (i := 5) sc_are_space_names.nd rfl (Or.inl rfl)) pgs_nil)))) (fun _ _ _ _ _ => pts_nil) (fun _ _ _ _ _ => (pv 5))) pa_nil)) (pe_gc rfl T.c_MOST_STORES) (nomark _))))))))), ?_⟩
    refine ⟨_, rfl, (by show 2 ≤ sizeLine; decide), fun tp htp => ⟨.ref a, tp, [.ty "list", .ty "tuple"], .type "tuple", [.type "list", .type "tuple"], true, rfl, upd_same, .cons (ClsV.ty _) (.cons (ClsV.ty _) .nil), ?_, (kitAny_cons (kit_ty (r := false) (by decide +kernel)) (fun _ => kitAny_cons (kit_ty (r := true) (by decide +kernel)) (fun z => nomatch z) (fun _ => rfl)) (fun z => nomatch z)), _, rfl, ?_⟩⟩
    · have hS0 := hS
      have hS := (Evl.Ex.new (o := .tup [.ty "list", .ty "tuple"]) htp) a _ hS0
      exact (TyX.fTuple hS)
    obtain ⟨H1, e1, hH1⟩ : ∃ H1, Ex H H1 ∧ H1 = upd H tp (.tup [.ty "list", .ty "tuple"]) := ⟨_, Evl.Ex.new htp, rfl⟩
    rw [← hH1]
    refine ⟨_, rfl, a, ps.map V.ref, rfl, (.inr (Evl.ex_t e1 hSQ)), _, _, rfl, rfl, _, rfl, ?_⟩
    rw [if_pos (decide_eq_true (by rw [List.length_map]; omega))]
    refine ⟨_, _, rfl, rfl, _, rfl, ?_⟩
    rw [decide_eq_true (by rw [List.length_map]; omega)]
    -- all
    refine ⟨_, rfl, a, rfl, ⟨_, Evl.ex_t e1 hSQ⟩, fun D hD => ?_⟩
    refine lc_fn (walk_tup (xs := ps.map V.ref)) (fun _ => .bl true) (by rw [List.length_map]; omega) hD (fun H' e => Evl.ex_t (e1.trans e) hSQ) ?_ ?_
    · rintro i x H2' H2 Z B hi e hl ⟨rfl, hx⟩ hZ
      obtain ⟨p, rfl, hp2⟩ := refs_get hx
      obtain ⟨n, hn, hpn⟩ := hT.get hp2
      have hm := List.mem_of_getElem? hn
      refine ⟨rfl, ?_⟩
      refine ⟨_, rfl, p, n, rfl, (e1.trans e) p _ hpn, hok.wd _ (List.mem_map_of_mem hm), (hok.size hm).1, (hok.size hm).2, fun H3 e3 => hZ H3 e3⟩
    intro H2 e2 hd
    refine ⟨D, (List.range (ps.map V.ref).length).map fun _ => true, rfl, by rw [List.map_map]; exact SqL.of hd, _, rfl, ?_⟩
    rw [range_all_true fun _ _ => rfl]
    have e12 := e1.trans e2
    -- words
    refine ⟨_, rfl, a, rfl, ⟨_, Evl.ex_t e12 hSQ⟩, fun D2 hD2 => ?_⟩
    refine lc_fn (walk_tup (xs := ps.map V.ref)) (fun i => V.str ((ns.getD i (alpha, 0)).1)) (by rw [List.length_map]; omega) hD2 (fun H' e => Evl.ex_t (e12.trans e) hSQ) ?_ ?_
    · rintro i x H3' H3 Z B hi e hl ⟨rfl, hx⟩ hZ
      obtain ⟨p, rfl, hp2⟩ := refs_get hx
      obtain ⟨n, hn, hpn⟩ := hT.get hp2
      refine ⟨p, nV n, rfl, SqT.of ((e12.trans e) p _ hpn), rfl, _, _, rfl, _, _, rfl, rfl, ?_⟩
      refine ⟨rfl, ?_⟩
      refine ⟨_, rfl, ?_⟩
      rw [getD_of hn] at hZ
      exact hZ _ (Evl.Ex.refl _)
    intro H3 e3 hd3
    rw [List.length_map, hl, words_list] at hd3
    have e13 := e12.trans e3
    have lw : (wds ns).length = ns.length := by simp [wds]
    refine ⟨_, rfl, D2, wds ns, rfl, SqL.of hd3, by omega, hok.nd, ?_⟩
    refine ⟨_, rfl, D2, (wds ns).map V.str, rfl, .inl (SqL.of hd3), rfl, _, rfl, ?_⟩
    rw [decide_eq_true (by rw [List.length_map])]
    -- sizes
    refine ⟨_, rfl, a, rfl, ⟨_, Evl.ex_t e13 hSQ⟩, fun D3 hD3 => ?_⟩
    refine lc_fn (walk_tup (xs := ps.map V.ref)) (fun i => V.int (((ns.getD i (alpha, 0)).2 : Nat) : Int)) (by rw [List.length_map]; omega) hD3 (fun H' e => Evl.ex_t (e13.trans e) hSQ) ?_ ?_
    · rintro i x H4' H4 Z B hi e hl ⟨rfl, hx⟩ hZ
      obtain ⟨p, rfl, hp2⟩ := refs_get hx
      obtain ⟨n, hn, hpn⟩ := hT.get hp2
      refine ⟨p, nV n, rfl, SqT.of ((e13.trans e) p _ hpn), rfl, _, _, rfl, _, _, rfl, rfl, ?_⟩
      refine ⟨rfl, ?_⟩
      refine ⟨_, rfl, ?_⟩
      rw [getD_of hn] at hZ
      exact hZ _ (Evl.Ex.refl _)
    intro H4 e4 hd4
    rw [List.length_map, hl, sizes_list] at hd4
    refine ⟨D3, szs ns, rfl, SqL.of hd4, hok.sz, _, _, rfl, rfl, ?_⟩
    have f8 := (menu_facts _ hok.sz).2.1
    show Q (V.bl (decide (((prodN (szs ns) : Nat) : Int) ≤ 8))) H4
    rw [decide_eq_true (by omega)]
    exact hQ _ (e13.trans e4)
  -- 

end
end K00
namespace K00
open PySem PySem.Spec PyProof.Rows L2 C8

theorem putF_two (t n : V) : putF "never" n (putF "names" t []) = [(("names" : Str), t), (("never" : Str), n)] := by
  have h : ¬ (("names" : Str) = "never") := by decide
  show (if ("names" : Str) = "never" then _ else _) = _
  rw [if_neg h]
  rfl
section
variable {P : Program} {w : World} {K : PySem.W.Frag} {mg : Str → Option Value} {base : Heap}
abbrev N_Space_init : List Str := ["self", "names", "_", "size"]
theorem sc_Space_init : FnScope N_Space_init ["self", "names"] (defScope (inClass (top 58) 0)) := ⟨rfl, rfl, rfl, by decide +kernel, rfl, by decide +kernel, by decide +kernel⟩
def spSpace (K : PySem.W.Frag) : Sp := fun vs H Q _ => ∃ (x dx a : Addr) (ps : List Addr) (ns : NS), vs = [.ref x, .ref a] ∧ H x = some (.ins (He.ga K "Space") dx []) ∧ NArg H a ps ∧ Tups H ps ns ∧ NsOk ns ∧
  ∀ H', (∀ q o, q ≠ x → H q = some o → H' q = some o) → SpaceAt K H' x ns → Q .non H'
theorem fn_Space_init (T : Txt K mg) (C_are_space_names : Cal P w K mg base 4 "are_space_names" spNamesOk []) (C_stores_of_sizes : Cal P w K mg base 1 "stores_of_sizes" (spSizes K) []) {fd : FuncData} (F : FunD K "__init__" "Space.__init__" (defArgs (inClass (top 58) 0)) (defBody (inClass (top 58) 0)) (defScope (inClass (top 58) 0)) [] [] (He.ma K (He.ga K "Space") "__init__") fd) : FnOk P w K mg base C8.CX0 5 (He.ma K (He.ga K "Space") "__init__") fd ["self", "names"] (spSpace K) := by
  refine F.ok sc_Space_init (fun vs H Q E h => by obtain ⟨_, _, _, _, _, rfl, _⟩ := h; rfl) (fun cdv A outer s H vs Q E hr h => ?_)
  have hu := hu_of hr
  obtain ⟨x, dx, a, ps, ns, rfl, hx, hA, hT, hok, hQ⟩ := h
  have hl := hT.length
  have hn3 := hok.len
  rcases id hA with hS | ⟨o, hS, ho⟩
  · refine ⟨_, PSs.nox (pss_cons (ps_if (pt_not (pt_val (pe_c C_are_space_names hr (by decide) rfl (pa_cons (pv 1) pa_nil)))) (pss_one ps_never) pss_nil)
      (pss_cons (ps_fld (pv 0) (pe_callTy call_tupF (by rfl) T.f_tuple (by decide +kernel) (pa_cons (pv 1) pa_nil)) rfl)
      (pss_one (ps_fld (pv 0) (pe_c C_stores_of_sizes hr (by decide) rfl (pa_cons (pe_lc (own := [("_", 2), ("size", 3)]) rfl sc_Space_init.nd (pi_list (pv 1)) (blkOk_by (own := [("_", 2), ("size", 3)]) (N := N_Space_init) (sc := defScope (inClass (top 58) 0)) (by decide +kernel)) (fun _ _ _ _ _ => (pgT (K := K) (n := 2) rfl (by rfl) (pgs_cons (pg_name (i := 2) sc_Space_init.nd rfl (Or.inl rfl)) (pgs_cons (pg_name (i := 3) sc_Space_init.nd rfl (Or.inl rfl)) pgs_nil)))) (fun _ _ _ _ _ => pts_nil) (fun _ _ _ _ _ => (pv 3))) pa_nil)) rfl)))), ?_⟩
    have ha : a ≠ x := fun z => by rw [z, hx] at hS; cases hS
    refine ⟨_, rfl, a, ps, ns, rfl, hA, hT, hok, fun H1 e1 => ⟨_, rfl, ?_⟩⟩
    refine ⟨_, rfl, a, ps.map V.ref, rfl, .inl ⟨SqL.of (e1 a _ hS), fun t ot ht0 hot => ?_⟩⟩
    obtain ⟨H2, e2, ht, eH2⟩ : ∃ H2, Ex H1 H2 ∧ H2 t = some (.frz ot (.tup (ps.map V.ref))) ∧ H2 = upd H1 t (.frz ot (.tup (ps.map V.ref))) := ⟨_, Evl.Ex.new ht0, upd_same, rfl⟩
    rw [← eH2]
    have x2 := e2 x _ (e1 x _ hx)
    refine ⟨_, rfl, x, _, dx, _, rfl, x2, T.cl_Space, T.n_names, (by show 0 < 1000; decide), ?_⟩
    have e12 := e1.trans e2
    have up : ∀ q o, q ≠ x → H q = some o → upd H2 x (.ins (He.ga K "Space") dx (putF "names" (.ref t) [])) q = some o := fun q o hq h => by rw [upd_ne hq]; exact e12 q o h
    have upt : Tups (upd H2 x (.ins (He.ga K "Space") dx (putF "names" (.ref t) []))) ps ns := by
      refine Tups.byIx hl fun i p n h1 h2 => ?_
      obtain ⟨n', g1, g2⟩ := hT.get h1
      rw [h2] at g1
      cases g1
      exact up p _ (fun z => by rw [z, hx] at g2; cases g2) g2
    have upa := up a _ ha hS
    have tx : t ≠ x := fun z => by rw [z, x2] at ht; cases ht
    have upt2 : upd H2 x (.ins (He.ga K "Space") dx (putF "names" (.ref t) [])) t = some (.frz ot (.tup (ps.map V.ref))) := by rw [upd_ne tx]; exact ht
    have upx : upd H2 x (.ins (He.ga K "Space") dx (putF "names" (.ref t) [])) x = some (.ins (He.ga K "Space") dx (putF "names" (.ref t) [])) := upd_same
    generalize upd H2 x (.ins (He.ga K "Space") dx (putF "names" (.ref t) [])) = H3 at up upt upa upt2 upx ⊢
    refine ⟨_, rfl, a, rfl, ⟨_, (SqL.of upa : SqL K _ a (ps.map V.ref))⟩, fun D hD => ?_⟩
    refine lc_fn (walk_list (xs := ps.map V.ref)) (fun i => V.int (((ns.getD i (alpha, 0)).2 : Nat) : Int)) (by rw [List.length_map]; omega) hD (fun H' e => (SqL.of (e a _ upa) : SqL K _ a (ps.map V.ref))) ?_ ?_
    · rintro i y H4' H4 Z B hi e hl ⟨rfl, hy⟩ hZ
      obtain ⟨p, rfl, hp2⟩ := refs_get hy
      obtain ⟨n, hn, hpn⟩ := upt.get hp2
      refine ⟨p, nV n, rfl, SqT.of (e p _ hpn), rfl, _, _, rfl, _, _, rfl, rfl, ?_⟩
      refine ⟨rfl, ?_⟩
      refine ⟨_, rfl, ?_⟩
      rw [getD_of hn] at hZ
      exact hZ _ (Evl.Ex.refl _)
    intro H4 e4 hd4
    rw [List.length_map, hl, sizes_list] at hd4
    refine ⟨D, szs ns, rfl, SqL.of hd4, hok.sz, ?_⟩
    have x4 := e4 x _ upx
    refine ⟨_, rfl, x, _, dx, _, rfl, x4, T.cl_Space, T.n_never, (by show 1 < 1000; decide), ?_⟩
    refine hQ _ (fun q o hq h => by rw [upd_ne hq]; exact e4 q o (up q o hq h)) ⟨dx, t, ot, ps, by rw [upd_same, putF_two], by rw [upd_ne tx]; exact e4 t _ upt2, hot, ?_⟩
    refine Tups.byIx hl fun i p n h1 h2 => ?_
    obtain ⟨n', g1, g2⟩ := hT.get h1
    rw [h2] at g1
    cases g1
    have px : p ≠ x := fun z => by rw [z, hx] at g2; cases g2
    rw [upd_ne px]
    exact e4 p _ (up p _ px g2)
  · refine ⟨_, PSs.nox (pss_cons (ps_if (pt_not (pt_val (pe_c C_are_space_names hr (by decide) rfl (pa_cons (pv 1) pa_nil)))) (pss_one ps_never) pss_nil)
      (pss_cons (ps_fld (pv 0) (pe_callTy call_tupF (by rfl) T.f_tuple (by decide +kernel) (pa_cons (pv 1) pa_nil)) rfl)
      (pss_one (ps_fld (pv 0) (pe_c C_stores_of_sizes hr (by decide) rfl (pa_cons (pe_lc (own := [("_", 2), ("size", 3)]) rfl sc_Space_init.nd (pi_tup (pv 1)) (blkOk_by (own := [("_", 2), ("size", 3)]) (N := N_Space_init) (sc := defScope (inClass (top 58) 0)) (by decide +kernel)) (fun _ _ _ _ _ => (pgT (K := K) (n := 2) rfl (by rfl) (pgs_cons (pg_name (i := 2) sc_Space_init.nd rfl (Or.inl rfl)) (pgs_cons (pg_name (i := 3) sc_Space_init.nd rfl (Or.inl rfl)) pgs_nil)))) (fun _ _ _ _ _ => pts_nil) (fun _ _ _ _ _ => (pv 3))) pa_nil)) rfl)))), ?_⟩
    have ha : a ≠ x := fun z => by rw [z, hx] at hS; cases hS
    refine ⟨_, rfl, a, ps, ns, rfl, hA, hT, hok, fun H1 e1 => ⟨_, rfl, ?_⟩⟩
    refine ⟨_, rfl, a, ps.map V.ref, rfl, .inr ⟨Or.inl (Or.inr ⟨_, e1 a _ hS⟩), ?_⟩⟩
    have e2 := Evl.Ex.refl H1
    have ht := e1 a _ hS
    have hot := ho
    have x2 := e2 x _ (e1 x _ hx)
    refine ⟨_, rfl, x, _, dx, _, rfl, x2, T.cl_Space, T.n_names, (by show 0 < 1000; decide), ?_⟩
    have e12 := e1.trans e2
    have up : ∀ q o, q ≠ x → H q = some o → upd H1 x (.ins (He.ga K "Space") dx (putF "names" (.ref a) [])) q = some o := fun q o hq h => by rw [upd_ne hq]; exact e12 q o h
    have upt : Tups (upd H1 x (.ins (He.ga K "Space") dx (putF "names" (.ref a) []))) ps ns := by
      refine Tups.byIx hl fun i p n h1 h2 => ?_
      obtain ⟨n', g1, g2⟩ := hT.get h1
      rw [h2] at g1
      cases g1
      exact up p _ (fun z => by rw [z, hx] at g2; cases g2) g2
    have upa := up a _ ha hS
    have tx : a ≠ x := fun z => by rw [z, x2] at ht; cases ht
    have upt2 : upd H1 x (.ins (He.ga K "Space") dx (putF "names" (.ref a) [])) a = some (.frz o (.tup (ps.map V.ref))) := by rw [upd_ne tx]; exact ht
    have upx : upd H1 x (.ins (He.ga K "Space") dx (putF "names" (.ref a) [])) x = some (.ins (He.ga K "Space") dx (putF "names" (.ref a) [])) := upd_same
    generalize upd H1 x (.ins (He.ga K "Space") dx (putF "names" (.ref a) [])) = H3 at up upt upa upt2 upx ⊢
    refine ⟨_, rfl, a, rfl, ⟨_, (Or.inl (Or.inr ⟨_, upa⟩) : SqT K _ a (ps.map V.ref))⟩, fun D hD => ?_⟩
    refine lc_fn (walk_tup (xs := ps.map V.ref)) (fun i => V.int (((ns.getD i (alpha, 0)).2 : Nat) : Int)) (by rw [List.length_map]; omega) hD (fun H' e => (Or.inl (Or.inr ⟨_, (e a _ upa)⟩) : SqT K _ a (ps.map V.ref))) ?_ ?_
    · rintro i y H4' H4 Z B hi e hl ⟨rfl, hy⟩ hZ
      obtain ⟨p, rfl, hp2⟩ := refs_get hy
      obtain ⟨n, hn, hpn⟩ := upt.get hp2
      refine ⟨p, nV n, rfl, SqT.of (e p _ hpn), rfl, _, _, rfl, _, _, rfl, rfl, ?_⟩
      refine ⟨rfl, ?_⟩
      refine ⟨_, rfl, ?_⟩
      rw [getD_of hn] at hZ
      exact hZ _ (Evl.Ex.refl _)
    intro H4 e4 hd4
    rw [List.length_map, hl, sizes_list] at hd4
    refine ⟨D, szs ns, rfl, SqL.of hd4, hok.sz, ?_⟩
    have x4 := e4 x _ upx
    refine ⟨_, rfl, x, _, dx, _, rfl, x4, T.cl_Space, T.n_never, (by show 1 < 1000; decide), ?_⟩
    refine hQ _ (fun q o hq h => by rw [upd_ne hq]; exact e4 q o (up q o hq h)) ⟨dx, a, o, ps, by rw [upd_same, putF_two], by rw [upd_ne tx]; exact e4 a _ upt2, hot, ?_⟩
    refine Tups.byIx hl fun i p n h1 h2 => ?_
    obtain ⟨n', g1, g2⟩ := hT.get h1
    rw [h2] at g1
    cases g1
    have px : p ≠ x := fun z => by rw [z, hx] at g2; cases g2
    rw [upd_ne px]
    exact e4 p _ (up p _ px g2)
  -- 
theorem ok_Space_init (T : Txt K mg) (C_are_space_names : Cal P w K mg base 4 "are_space_names" spNamesOk []) (C_stores_of_sizes : Cal P w K mg base 1 "stores_of_sizes" (spSizes K) []) : Mak P w K mg base 5 "Space" (He.ga K "Space") (spSpace K) [] := by
  obtain ⟨fd, F⟩ := T.d_Space_init
  exact ⟨_, fd, ["self", "names"], [], T.mk_Space, fn_Space_init T C_are_space_names C_stores_of_sizes F, T.g_Space, F.bindsN fun _ _ _ _ _ _ us hl => match us, hl with | [_, _], _ => rfl, .nil⟩
theorem okK_Space_init (T : Txt K mg) (C_are_space_names : Cal P w K mg base 4 "are_space_names" spNamesOk []) (C_stores_of_sizes : Cal P w K mg base 1 "stores_of_sizes" (spSizes K) []) : MakK P w K mg base 5 "Space" (He.ga K "Space") ["names"] [0] (spSpace K) := by
  obtain ⟨fd, F⟩ := T.d_Space_init
  exact ⟨_, fd, ["self", "names"], T.mk_Space, fn_Space_init T C_are_space_names C_stores_of_sizes F, T.g_Space, F.kbindsP 1 ["names"] [0] (fun _ _ _ _ _ _ us ws h1 h2 => match us, ws, h1, h2 with | [_], [_], _, _ => rfl)⟩

end
end K00
namespace K00
open PySem PySem.Spec PyProof.Rows L2 C8

/-- the dict of a store's values -/
def kvsOf (ns : NS) (r : List Nat) : List (Key × V) := ((wds ns).zip r).map fun p => (.inr p.1, .int (p.2 : Int))
theorem kvs_len {ns : NS} {r : List Nat} (h : r.length = ns.length) : (kvsOf ns r).length = ns.length := by simp [kvsOf, wds, h]
theorem kvs_at {ns : NS} {r : List Nat} {i : Nat} {n : Str × Nat} {v : Nat} (h1 : ns[i]? = some n) (h2 : r[i]? = some v) : (kvsOf ns r)[i]? = some (.inr n.1, .int (v : Int)) := by
  unfold kvsOf
  rw [List.getElem?_map]
  have : ((wds ns).zip r)[i]? = some (n.1, v) := by rw [List.getElem?_zip_eq_some]; exact ⟨wds_at (n := n) h1, h2⟩
  rw [this]; rfl
theorem kvs_keys {ns : NS} {r : List Nat} (h : r.length = ns.length) : (kvsOf ns r).map (·.1) = (wds ns).map Sum.inr := by
  unfold kvsOf
  rw [List.map_map]
  have e : ((fun x : Key × V => x.1) ∘ fun p : Str × Nat => ((.inr p.1, .int (p.2 : Int)) : Key × V)) = (Sum.inr : Str → Key) ∘ Prod.fst := rfl
  rw [e, ← List.map_map, map_fst_zip_take _ _ (by simp [wds, h])]
  rw [List.take_of_length_le (by simp [wds, h])]
theorem key_nodup {ns : NS} (h : (wds ns).Nodup) : ((wds ns).map (Sum.inr : Str → Key)).Nodup := by
  refine List.Pairwise.map _ (fun a b hab e => hab (Sum.inr.inj e)) h
/-- a value by its place, the keys being different -/
theorem valV_at : ∀ {kvs : List (Key × V)}, (kvs.map (·.1)).Nodup → ∀ {i : Nat} {k : Key} {v : V}, kvs[i]? = some (k, v) → valV kvs k = some v
  | [], _, i, k, v, h => by simp at h
  | p :: r, nd, 0, k, v, h => by
    have e : p = (k, v) := Option.some.inj h
    subst e
    exact valV_pos rfl
  | p :: r, nd, i + 1, k, v, h => by
    have nd' := List.nodup_cons.mp nd
    have h' : r[i]? = some (k, v) := h
    have ne : ¬ p.1 = k := fun e => nd'.1 (by
      show p.1 ∈ _
      rw [e]
      exact List.mem_map.mpr ⟨(k, v), List.mem_of_getElem? h', rfl⟩)
    rw [valV_neg ne]
    exact valV_at nd'.2 h'
theorem valV_out {kvs : List (Key × V)} {k : Key} (h : k ∉ kvs.map (·.1)) : valV kvs k = none := by
  unfold valV
  rw [List.find?_eq_none.mpr fun p hp => ?_]
  · rfl
  · intro e
    exact h (List.mem_map.mpr ⟨p, hp, of_decide_eq_true e⟩)
theorem put_snoc {kvs : List (Key × V)} {k : Key} (v : V) (h : k ∉ kvs.map (·.1)) : putK kvs k v = kvs ++ [(k, v)] := putK_new v (valV_out h)
theorem take_snoc {α : Type} {l : List α} {i : Nat} {a : α} (h : l[i]? = some a) : l.take (i + 1) = l.take i ++ [a] := by rw [List.take_succ, h]; rfl
theorem notin_take {ks : List Key} (nd : ks.Nodup) {i : Nat} {k : Key} (h : ks[i]? = some k) : k ∉ ks.take i := by
  intro hm
  obtain ⟨j, hj, e⟩ := List.getElem_of_mem hm
  rw [List.length_take] at hj
  rw [List.getElem_take] at e
  obtain ⟨hi, e2⟩ := List.getElem?_eq_some_iff.mp h
  exact List.pairwise_iff_getElem.mp nd j i (by omega) hi (by omega) (e.trans e2.symm)
theorem put_take {kvs : List (Key × V)} (nd : (kvs.map (·.1)).Nodup) {i : Nat} {k : Key} {v : V} (h : kvs[i]? = some (k, v)) : putK (kvs.take i) k v = kvs.take (i + 1) := by
  rw [take_snoc h]
  refine put_snoc v ?_
  rw [List.map_take]
  exact notin_take nd (by rw [List.getElem?_map, h]; rfl)
theorem merge_self {kvs : List (Key × V)} (nd : (kvs.map (·.1)).Nodup) : mergeK [] kvs = kvs := by
  have key : ∀ i, i ≤ kvs.length → mergeK [] (kvs.take i) = kvs.take i := by
    intro i
    induction i with
    | zero => intro _; rfl
    | succ i ih =>
      intro hi
      have hx : kvs[i]? = some kvs[i] := List.getElem?_eq_getElem (by omega)
      have e1 : mergeK [] (kvs.take (i + 1)) = putK (mergeK [] (kvs.take i)) kvs[i].1 kvs[i].2 := by
        rw [take_snoc hx]
        unfold mergeK
        rw [List.foldl_append]
        rfl
      rw [e1, ih (by omega)]
      exact put_take nd hx
  have := key kvs.length (Nat.le_refl _)
  rwa [List.take_length] at this
theorem drop_one {sz : List Nat} {i s : Nat} (h : sz[i]? = some s) : sz.drop i = s :: sz.drop (i + 1) := by
  obtain ⟨hi, e⟩ := List.getElem?_eq_some_iff.mp h
  rw [List.drop_eq_getElem_cons hi, e]
theorem dig_at {sz : List Nat} {k i s : Nat} (h : sz[i]? = some s) : (row sz k)[i]? = some (k / prodN (sz.drop (i + 1)) % s) := by
  obtain ⟨hi, e⟩ := List.getElem?_eq_some_iff.mp h
  unfold row
  rw [List.getElem?_map, List.getElem?_range hi]
  show some (dig sz k i) = _
  unfold dig
  rw [List.getD_eq_getElem?_getD, h]
  rfl
theorem prod_pos {sz : List Nat} (h : ∀ s ∈ sz, 2 ≤ s ∧ s ≤ 6) : 0 < prodN sz := by
  induction sz with
  | nil => exact Nat.one_pos
  | cons s r ih => exact Nat.mul_pos (by have := h s (List.mem_cons_self ..); omega) (ih fun x hx => h x (List.mem_cons_of_mem _ hx))
/-- a name of these -/
def nameB (ns : NS) (d : PyData) : Bool := ((wds ns).map PyData.str).any fun z => PyData.eqv z d
theorem nameB_in {ns : NS} {z : Str} (h : z ∈ wds ns) : nameB ns (.str z) = true := by
  unfold nameB
  rw [List.any_eq_true]
  exact ⟨.str z, List.mem_map_of_mem h, by simp [PyData.eqv]⟩
theorem dp_words {K : PySem.W.Frag} {H : Hp} : ∀ ws : List Str, DpAll K H (ws.map V.str) (ws.map PyData.str)
  | [] => .nil
  | _ :: ws => .cons (.str _) (dp_words ws)
theorem fine_words {ws : List Str} (h : ∀ z ∈ ws, Low z.cps.toList ∧ z.length ≤ 20) {n : Nat} (hl : ws.length ≤ n) : Fine (.list (ws.map PyData.str)) 1 (2 + n * 204) :=
  Fine.list (k := 0) (m := 202) (n := n) (fun d hd => by
    obtain ⟨z, hz, rfl⟩ := List.mem_map.mp hd
    exact Fine.str (h z hz).1 (h z hz).2) (by simpa using hl)
theorem NsOk.words {ns : NS} (h : NsOk ns) : ∀ z ∈ wds ns, Low z.cps.toList ∧ z.length ≤ 20 := fun z hz => ⟨(h.wd z hz).low, Nat.le_trans (h.wd z hz).hi (by omega)⟩
theorem drop_few : ∀ sz ∈ menus, ∀ i, prodN (sz.drop i) ≤ 8 := by
  intro sz hs i
  have key : ∀ sz ∈ menus, ∀ i, i < 4 → prodN (sz.drop i) ≤ 8 := by decide +kernel
  by_cases hi : i < 4
  · exact key sz hs i hi
  · have f := menu_facts sz hs
    rw [List.drop_eq_nil_of_le (by omega)]
    show 1 ≤ 8
    omega
theorem rg_list (n : Nat) : rgV 0 (n : Int) = rV (List.range n) := by
  unfold rgV
  rw [show ((n : Int) - 0).toNat = n by omega]
  refine List.map_congr_left fun i _ => ?_
  rw [Int.zero_add]
/-- the store of the first i values -/
def foldN (sz vs : List Nat) (i : Nat) : Nat := ((sz.zip vs).take i).foldl (fun a p => a * p.1 + p.2) 0
theorem foldN_all {sz vs : List Nat} (h : vs.length = sz.length) : foldN sz vs sz.length = valN sz vs := by
  unfold foldN valN
  rw [List.take_of_length_le (by simp [h])]
theorem foldN_succ {sz vs : List Nat} {i s v : Nat} (h1 : sz[i]? = some s) (h2 : vs[i]? = some v) : foldN sz vs (i + 1) = foldN sz vs i * s + v := by
  unfold foldN
  have : (sz.zip vs)[i]? = some (s, v) := by rw [List.getElem?_zip_eq_some]; exact ⟨h1, h2⟩
  rw [take_snoc this, List.foldl_append]
  rfl
theorem foldN_lt {sz vs : List Nat} (hl : vs.length = sz.length) (hv : ∀ (i s v : Nat), sz[i]? = some s → vs[i]? = some v → v < s) : ∀ i, i ≤ sz.length → foldN sz vs i < prodN (sz.take i)
  | 0, _ => by simp [foldN, prodN]
  | i + 1, h => by
    have ih := foldN_lt hl hv i (by omega)
    have h1 : sz[i]? = some sz[i] := List.getElem?_eq_getElem (by omega)
    have h2 : vs[i]? = some vs[i] := List.getElem?_eq_getElem (by omega)
    rw [foldN_succ h1 h2, prodN_take _ _ _ h1]
    have := hv i _ _ h1 h2
    have a : (foldN sz vs i + 1) * sz[i] ≤ prodN (sz.take i) * sz[i] := Nat.mul_le_mul_right _ ih
    rw [Nat.succ_mul] at a
    omega
section
variable {P : Program} {w : World} {K : PySem.W.Frag} {mg : Str → Option Value} {base : Heap}

end
end K00
namespace K00
open PySem PySem.Spec PyProof.Rows L2 C8

def sizeKvs (ns : NS) : List (Key × V) := ns.map fun n => (.inr n.1, .int (n.2 : Int))
theorem sizeKvs_keys (ns : NS) : (sizeKvs ns).map (·.1) = (wds ns).map Sum.inr := by
  unfold sizeKvs wds
  rw [List.map_map, List.map_map]
  rfl
theorem tups_paired {K : PySem.W.Frag} {H : Hp} : ∀ {ps : List Addr} {ns : NS}, Tups H ps ns → Paired (fun p kv => SqT K H p [kV kv.1, kv.2]) ps (sizeKvs ns)
  | _, _, .nil => .nil
  | _, _, .cons h t => .cons (SqT.of h) (tups_paired t)
theorem put_len {kvs : List (Key × V)} {k : Key} {v y : V} (h : valV kvs k = some y) : (putK kvs k v).length = kvs.length := by
  unfold putK
  rw [if_pos (by rw [valV_any, h]; rfl), List.length_map]
theorem name_ne {ns : NS} (nd : (wds ns).Nodup) {i j : Nat} {n m : Str × Nat} (hi : ns[i]? = some n) (hj : ns[j]? = some m) (h : i ≠ j) : n.1 ≠ m.1 := by
  intro e
  have a := List.getElem?_eq_some_iff.mp (wds_at hi)
  have b := List.getElem?_eq_some_iff.mp (wds_at hj)
  obtain ⟨a1, a2⟩ := a
  obtain ⟨b1, b2⟩ := b
  have k := List.pairwise_iff_getElem.mp nd
  rcases Nat.lt_or_gt_of_ne h with z | z
  · exact k i j a1 b1 z (by rw [a2, b2]; exact e)
  · exact k j i b1 a1 z (by rw [a2, b2]; exact e.symm)
theorem mem_wds {ns : NS} {i : Nat} {n : Str × Nat} (h : ns[i]? = some n) : n.1 ∈ wds ns := List.mem_of_getElem? (wds_at h)
theorem row_val {ns : NS} (hok : NsOk ns) {k i : Nat} {n : Str × Nat} (h : ns[i]? = some n) : ∃ v, (row (szs ns) k)[i]? = some v ∧ v < n.2 := by
  have hs := sz_at h
  have h2 := hok.size (List.mem_of_getElem? h)
  exact ⟨_, dig_at hs, Nat.mod_lt _ (by omega)⟩
theorem sz_getD {ns : NS} {i : Nat} {n : Str × Nat} (h : ns[i]? = some n) : (szs ns).getD i 1 = n.2 := by rw [List.getD_eq_getElem?_getD, sz_at h]; rfl
section
variable {P : Program} {w : World} {K : PySem.W.Frag} {mg : Str → Option Value} {base : Heap}
abbrev N_Space_eq : List Str := ["self", "other"]
theorem sc_Space_eq : FnScope N_Space_eq ["self", "other"] (defScope (inClass (top 58) 3)) := ⟨rfl, rfl, rfl, by decide +kernel, rfl, by decide +kernel, by decide +kernel⟩
def spEq (K : PySem.W.Frag) : Sp := fun vs H Q _ => ∃ (x : Addr) (ns : NS) (v : V), vs = [.ref x, v] ∧ SpaceAt K H x ns ∧ NsOk ns ∧ ((∃ y ns', v = .ref y ∧ SpaceAt K H y ns' ∧ NsOk ns' ∧ Q (.bl (decide (ns = ns'))) H) ∨ (∃ t, TyX K H v t ∧ PySem.W.kitOne K t (.ref (He.ga K "Space")) = some false ∧ Q (.bl false) H))
theorem ok_Space_eq (T : Txt K mg)  : Spc P w K mg base 1 (He.ga K "Space") "__eq__" (spEq K) := by
  obtain ⟨fd, F⟩ := T.d_Space_eq
  refine ⟨_, fd, ["self", "other"], T.s_Space_eq, T.sf_Space_eq, ?_, F.bindsN fun _ _ _ _ _ _ us hl => match us, hl with | [_, _], _ => rfl⟩
  refine F.ok sc_Space_eq (fun vs H Q E h => by obtain ⟨_, _, _, rfl, _⟩ := h; rfl) (fun cdv A outer s H vs Q E hr h => ?_)
  have hu := hu_of hr
  refine ⟨_, PSs.nox (pss_one (ps_ret (pe_and (pe_callB call_isi (by rfl) T.f_isinstance (by decide +kernel) (pa_cons (pv 1) (pa_cons (pe_gc rfl T.c_Space) pa_nil))) (pe_one (pe_cmpR (op_eqD hr.units) (pe_fld (pv 0) rfl) (pe_fld (pv 1) rfl) (nomark _)))))), ?_⟩
  obtain ⟨x, ns, v, rfl, hS, hok, hcase⟩ := h
  obtain ⟨dx, t, o, ps, hx, ht, ho, hT⟩ := id hS
  rcases hcase with ⟨y, ns', rfl, hS', hok', hQ⟩ | ⟨ty, hty, hk, hQ⟩
  · obtain ⟨dx', t', o', ps', hx', ht', ho', hT'⟩ := id hS'
    refine ⟨_, rfl, _, _, _, _, _, rfl, ClsV.own _, TyX.base (TyOf.ins hx' T.cl_Space T.ac_Space T.cg T.ct T.ob_Space), T.ks_Space, _, rfl, ?_⟩
    refine ⟨_, rfl, x, _, dx, _, .ref t, rfl, hx, T.cl_Space, T.n_names, rfl, _, rfl, y, _, dx', _, .ref t', rfl, hx', T.cl_Space, T.n_names, rfl, .tuple (ns.map nD), .tuple (ns'.map nD), .tup (Or.inl (Or.inr ⟨_, ht⟩)) (dp_ns hT), .tup (Or.inl (Or.inr ⟨_, ht'⟩)) (dp_ns hT'), (fine_nst hok.fine (by have := hok.len; omega)).shaped (by omega), (fine_nst hok'.fine (by have := hok'.len; omega)).shaped (by omega), ?_⟩
    have e : PyData.eqv (.tuple (ns.map nD)) (.tuple (ns'.map nD)) = decide (ns = ns') := by
      have p1 : plainD (.tuple (ns.map nD)) = true := by simp only [plainD]; exact plain_nDs ns
      have p2 : plainD (.tuple (ns'.map nD)) = true := by simp only [plainD]; exact plain_nDs ns'
      by_cases h : ns = ns'
      · subst h
        rw [decide_eq_true rfl]; exact eqv_same p1
      · rw [decide_eq_false h]
        exact eqv_diff p1 p2 fun z => h (nDs_inj (PyData.tuple.inj z))
    rw [e]
    exact hQ
  · exact ⟨_, rfl, _, _, _, _, _, rfl, ClsV.own _, hty, hk, _, rfl, hQ⟩

abbrev N_Ratio_init : List Str := ["self", "top", "bottom", "divisor"]
theorem sc_Ratio_init : FnScope N_Ratio_init ["self", "top", "bottom"] (defScope (inClass (top 45) 0)) := ⟨rfl, rfl, rfl, by decide +kernel, rfl, by decide +kernel, by decide +kernel⟩
def spRatio (K : PySem.W.Frag) : Sp := fun vs H Q _ => ∃ (x dx : Addr) (n : Nat), vs = [.ref x, .int (n : Int), .int 1] ∧ H x = some (.ins (He.ga K "Ratio") dx []) ∧ n < 100 ∧
  ∀ H' fs, (∀ q o, q ≠ x → H q = some o → H' q = some o) → H' x = some (.ins (He.ga K "Ratio") dx fs) → Q .non H'
theorem ok_Ratio_init (T : Txt K mg) (C_is_whole : Cal P w K mg base 1 "is_whole" spWhole []) : Mak P w K mg base 2 "Ratio" (He.ga K "Ratio") (spRatio K) [.int 1] := by
  obtain ⟨fd, F⟩ := T.d_Ratio_init
  obtain ⟨ds, hd, hb⟩ := F.binds1 (ps := ["self", "top", "bottom"]) 2 0 (by simp) (by rfl) (fun T0 kV doc pm an cdv ct us its h1 h2 => match us, its, h1, h2 with | [_, _], [_], _, _ => ⟨_, rfl, rfl⟩)
  refine ⟨_, fd, ["self", "top", "bottom"], ds, T.mk_Ratio, ?_, T.g_Ratio, hb, hd⟩
  refine F.ok sc_Ratio_init (fun vs H Q E h => by obtain ⟨_, _, _, rfl, _⟩ := h; rfl) (fun cdv A outer s H vs Q E hr h => ?_)
  have hu := hu_of hr
  refine ⟨_, PSs.nox (pss_cons (ps_if (pt_not (pt_val (pe_c C_is_whole hr (by omega) rfl (pa_cons (pv 1) pa_nil)))) (pss_one ps_never) pss_nil)
      (pss_cons (ps_if (pt_not (pt_val (pe_c C_is_whole hr (by omega) rfl (pa_cons (pv 2) pa_nil)))) (pss_one ps_never) pss_nil)
      (pss_cons (ps_if (pt_cmpR op_eq (pv 2) pe_int (nomark _)) (pss_one ps_never) pss_nil)
      (pss_cons (ps_set (i := 3) sc_Ratio_init.nd rfl (Or.inl rfl) (pe_callMB cr_gcd (by rfl) T.b_gcd (pa_cons (pv 1) (pa_cons (pv 2) pa_nil))))
      (pss_cons (ps_if (pt_cmpR op_lt (pv 2) pe_int (nomark _)) (pss_one (ps_set (i := 3) sc_Ratio_init.nd rfl (Or.inl rfl) (pe_un un_neg (pv 3)))) pss_nil)
      (pss_cons (ps_fld (pv 0) (pe_op op_fdiv (pv 1) (pv 3)) rfl)
      (pss_one (ps_fld (pv 0) (pe_op op_fdiv (pv 2) (pv 3)) rfl)))))))), ?_⟩
  obtain ⟨x, dx, n, rfl, hx, hn, hQ⟩ := h
  refine ⟨_, rfl, (n : Int), rfl, _, rfl, _, rfl, 1, rfl, _, rfl, ?_⟩
  refine ⟨_, rfl, rfl, _, rfl, ?_⟩
  refine ⟨_, rfl, _, rfl, (n : Int), 1, rfl, ?_⟩
  refine ⟨_, rfl, _, _, rfl, rfl, _, rfl, ?_⟩
  have g1 : ((Nat.gcd (n : Int).natAbs (1 : Int).natAbs : Nat) : Int) = 1 := by
    show ((Nat.gcd n 1 : Nat) : Int) = 1
    rw [Nat.gcd_one_right]
    rfl
  rw [g1, decide_eq_false (by omega)]
  refine ⟨_, rfl, _, rfl, _, _, rfl, rfl, ⟨by omega, by omega⟩, ?_⟩
  refine ⟨_, rfl, x, _, dx, _, rfl, hx, T.cl_Ratio, T.n_top, (by show 0 < 1000; decide), ?_⟩
  refine ⟨_, rfl, _, rfl, _, _, rfl, rfl, ⟨by omega, by omega⟩, ?_⟩
  refine ⟨_, rfl, x, _, dx, _, rfl, upd_same, T.cl_Ratio, T.n_bottom, (by show 1 < 1000; decide), ?_⟩
  refine hQ _ _ (fun q o hq h => ?_) upd_same
  rw [upd_ne hq, upd_ne hq]
  exact h

end
end K00
namespace K00
open PySem PySem.Spec PyProof.Rows L2 C8
section
variable {P : Program} {w : World} {K : PySem.W.Frag} {mg : Str → Option Value} {base : Heap}
abbrev pe_ (K : PySem.W.Frag) : Addr := He.ga K "PatchError"
abbrev ca (K : PySem.W.Frag) (x : Str) : Addr := He.ga K x
abbrev ia (K : PySem.W.Frag) (x : Str) : Addr := He.ma K (He.ga K x) "__init__"
theorem exT (T : Txt K mg) {i : Nat} {x : Str} {fl : List Str} (h : exs[i]? = some (x, fl)) : ExT K (pe_ K) (ca K x) (ia K x) fl := exTB_ok T.cg T.ct (T.ex (x, fl) (List.mem_of_getElem? h))
theorem ca_inj (T : Txt K mg) {i j : Nat} {e f : Str × List Str} (hi : exs[i]? = some e) (hj : exs[j]? = some f) : ca K e.1 = ca K f.1 ↔ i = j := by
  have nd := (List.nodup_cons.mp (by simpa only [List.map_cons] using T.nd)).2
  rw [List.map_map] at nd
  have gi : ((exs.map fun e => He.ga K e.1))[i]? = some (ca K e.1) := by rw [List.getElem?_map, hi]; rfl
  have gj : ((exs.map fun e => He.ga K e.1))[j]? = some (ca K f.1) := by rw [List.getElem?_map, hj]; rfl
  constructor
  · intro h
    rw [← h] at gj
    obtain ⟨li, ei⟩ := List.getElem?_eq_some_iff.mp gi
    obtain ⟨lj, ej⟩ := List.getElem?_eq_some_iff.mp gj
    exact (List.getElem_inj nd).mp (ei.trans ej.symm)
  · intro h
    subst h
    rw [hi] at hj
    cases hj
    rfl
theorem ca_pe (T : Txt K mg) {i : Nat} {e : Str × List Str} (hi : exs[i]? = some e) : ca K e.1 ≠ pe_ K := by
  have nd := (List.nodup_cons.mp (by simpa only [List.map_cons] using T.nd)).1
  rw [List.map_map] at nd
  intro z
  exact nd (List.mem_map.mpr ⟨e, List.mem_of_getElem? hi, z⟩)
/-- isinstance of the classes -/
theorem kitIJ (T : Txt K mg) {i j : Nat} {x y : Str} {fl gl : List Str} (hi : exs[i]? = some (x, fl)) (hj : exs[j]? = some (y, gl)) : PySem.W.kitOne K (.ref (ca K x)) (.ref (ca K y)) = some (decide (i = j)) := by
  rw [(exT T hi).kit (exT T hj) (ca_pe T hj)]
  exact congrArg some (decide_eq_decide.mpr (ca_inj T hi hj))
theorem exmIJ (T : Txt K mg) {i j : Nat} {x y : Str} {fl gl : List Str} (hi : exs[i]? = some (x, fl)) (hj : exs[j]? = some (y, gl)) : PySem.W.exmOne K (.ref (ca K x)) (.ref (ca K y)) = some (decide (i = j)) := by
  rw [(exT T hi).exm (exT T hj) (ca_pe T hj)]
  exact congrArg some (decide_eq_decide.mpr (ca_inj T hi hj))
theorem kitP (T : Txt K mg) {i : Nat} {x : Str} {fl : List Str} (hi : exs[i]? = some (x, fl)) : PySem.W.kitOne K (.ref (ca K x)) (.ref (pe_ K)) = some true := (exT T hi).kitP T.pe_cl T.pe_ty
theorem kitV (T : Txt K mg) {i : Nat} {x : Str} {fl : List Str} (hi : exs[i]? = some (x, fl)) : PySem.W.kitOne K (.ref (ca K x)) (.type "ValueError") = some true := (exT T hi).kitV
theorem exmP (T : Txt K mg) {i : Nat} {x : Str} {fl : List Str} (hi : exs[i]? = some (x, fl)) : PySem.W.exmOne K (.ref (ca K x)) (.ref (pe_ K)) = some true := (exT T hi).exmP T.pe_su T.pe_hd T.pe_ty
abbrev N_InvalidNumber_init : List Str := ["self", "given"]
theorem sc_InvalidNumber_init : FnScope N_InvalidNumber_init ["self", "given"] (defScope (inClass (top 4) 0)) := ⟨rfl, rfl, rfl, by decide +kernel, rfl, by decide +kernel, by decide +kernel⟩
theorem fn_InvalidNumber_init (T : Txt K mg) {fd : FuncData} (F : FunD K "__init__" "InvalidNumber.__init__" (defArgs (inClass (top 4) 0)) (defBody (inClass (top 4) 0)) (defScope (inClass (top 4) 0)) [] [] (He.ma K (He.ga K "InvalidNumber") "__init__") fd) : FnOk P w K mg base C8.CX0 1 (ia K "InvalidNumber") fd ["self", "given"] (spXI (ca K "InvalidNumber") ["given"]) := by
  have TE := exT T (i := 0) (x := "InvalidNumber") (fl := ["given"]) rfl
  refine F.ok sc_InvalidNumber_init (fun vs H Q E h => by obtain ⟨_, _, rfl, hl, _⟩ := h; simpa using hl) (fun cdv A outer s H vs Q E hr h => ?_)
  obtain ⟨a, us, rfl, hl, ha, h0, h1⟩ := h
  obtain ⟨u1, rfl⟩ : ∃ u1, us = [u1] := match us, hl with | [u1], _ => ⟨u1, rfl⟩
  refine ⟨_, PSs.nox (pss_one (ps_ost (pv 0) (pv 1))), ?_⟩
  refine ⟨_, rfl, _, rfl, a, _, rfl, TE.oex, TE.no _ (by simp), .inl ⟨ha, fun d hd dne => ?_⟩⟩
  exact h1 (by simp) d _ hd dne upd_same ((upd_ne dne).trans upd_same) (fun b n1 n2 => by rw [upd_ne n1, upd_ne n2])
theorem mkp_InvalidNumber (T : Txt K mg) : MakX P w K mg base 1 "InvalidNumber" (pe_ K) (ca K "InvalidNumber") ["given"] 1 [] [] := by
  obtain ⟨fd, F⟩ := T.d_InvalidNumber_init
  exact ⟨⟨_, fd, exT T (i := 0) rfl, T.g_InvalidNumber, fn_InvalidNumber_init T F, F.kbindsP 2 [] [] (fun _ _ _ _ _ _ us ws h1 h2 => match us, ws, h1, h2 with | [_, _], [], _, _ => rfl)⟩, by decide⟩
theorem mkk_InvalidNumber (T : Txt K mg) : MakX P w K mg base 1 "InvalidNumber" (pe_ K) (ca K "InvalidNumber") ["given"] 0 ["given"] [0] := by
  obtain ⟨fd, F⟩ := T.d_InvalidNumber_init
  exact ⟨⟨_, fd, exT T (i := 0) rfl, T.g_InvalidNumber, fn_InvalidNumber_init T F, F.kbindsP 1 ["given"] [0] (fun _ _ _ _ _ _ us ws h1 h2 => match us, ws, h1, h2 with | [_], [_], _, _ => rfl)⟩, by decide⟩
abbrev N_InvalidLots_init : List Str := ["self", "given"]
theorem sc_InvalidLots_init : FnScope N_InvalidLots_init ["self", "given"] (defScope (inClass (top 5) 0)) := ⟨rfl, rfl, rfl, by decide +kernel, rfl, by decide +kernel, by decide +kernel⟩
theorem fn_InvalidLots_init (T : Txt K mg) {fd : FuncData} (F : FunD K "__init__" "InvalidLots.__init__" (defArgs (inClass (top 5) 0)) (defBody (inClass (top 5) 0)) (defScope (inClass (top 5) 0)) [] [] (He.ma K (He.ga K "InvalidLots") "__init__") fd) : FnOk P w K mg base C8.CX0 1 (ia K "InvalidLots") fd ["self", "given"] (spXI (ca K "InvalidLots") ["given"]) := by
  have TE := exT T (i := 1) (x := "InvalidLots") (fl := ["given"]) rfl
  refine F.ok sc_InvalidLots_init (fun vs H Q E h => by obtain ⟨_, _, rfl, hl, _⟩ := h; simpa using hl) (fun cdv A outer s H vs Q E hr h => ?_)
  obtain ⟨a, us, rfl, hl, ha, h0, h1⟩ := h
  obtain ⟨u1, rfl⟩ : ∃ u1, us = [u1] := match us, hl with | [u1], _ => ⟨u1, rfl⟩
  refine ⟨_, PSs.nox (pss_one (ps_ost (pv 0) (pv 1))), ?_⟩
  refine ⟨_, rfl, _, rfl, a, _, rfl, TE.oex, TE.no _ (by simp), .inl ⟨ha, fun d hd dne => ?_⟩⟩
  exact h1 (by simp) d _ hd dne upd_same ((upd_ne dne).trans upd_same) (fun b n1 n2 => by rw [upd_ne n1, upd_ne n2])
theorem mkp_InvalidLots (T : Txt K mg) : MakX P w K mg base 1 "InvalidLots" (pe_ K) (ca K "InvalidLots") ["given"] 1 [] [] := by
  obtain ⟨fd, F⟩ := T.d_InvalidLots_init
  exact ⟨⟨_, fd, exT T (i := 1) rfl, T.g_InvalidLots, fn_InvalidLots_init T F, F.kbindsP 2 [] [] (fun _ _ _ _ _ _ us ws h1 h2 => match us, ws, h1, h2 with | [_, _], [], _, _ => rfl)⟩, by decide⟩
theorem mkk_InvalidLots (T : Txt K mg) : MakX P w K mg base 1 "InvalidLots" (pe_ K) (ca K "InvalidLots") ["given"] 0 ["given"] [0] := by
  obtain ⟨fd, F⟩ := T.d_InvalidLots_init
  exact ⟨⟨_, fd, exT T (i := 1) rfl, T.g_InvalidLots, fn_InvalidLots_init T F, F.kbindsP 1 ["given"] [0] (fun _ _ _ _ _ _ us ws h1 h2 => match us, ws, h1, h2 with | [_], [_], _, _ => rfl)⟩, by decide⟩
abbrev N_InvalidLot_init : List Str := ["self", "given"]
theorem sc_InvalidLot_init : FnScope N_InvalidLot_init ["self", "given"] (defScope (inClass (top 6) 0)) := ⟨rfl, rfl, rfl, by decide +kernel, rfl, by decide +kernel, by decide +kernel⟩
theorem fn_InvalidLot_init (T : Txt K mg) {fd : FuncData} (F : FunD K "__init__" "InvalidLot.__init__" (defArgs (inClass (top 6) 0)) (defBody (inClass (top 6) 0)) (defScope (inClass (top 6) 0)) [] [] (He.ma K (He.ga K "InvalidLot") "__init__") fd) : FnOk P w K mg base C8.CX0 1 (ia K "InvalidLot") fd ["self", "given"] (spXI (ca K "InvalidLot") ["given"]) := by
  have TE := exT T (i := 2) (x := "InvalidLot") (fl := ["given"]) rfl
  refine F.ok sc_InvalidLot_init (fun vs H Q E h => by obtain ⟨_, _, rfl, hl, _⟩ := h; simpa using hl) (fun cdv A outer s H vs Q E hr h => ?_)
  obtain ⟨a, us, rfl, hl, ha, h0, h1⟩ := h
  obtain ⟨u1, rfl⟩ : ∃ u1, us = [u1] := match us, hl with | [u1], _ => ⟨u1, rfl⟩
  refine ⟨_, PSs.nox (pss_one (ps_ost (pv 0) (pv 1))), ?_⟩
  refine ⟨_, rfl, _, rfl, a, _, rfl, TE.oex, TE.no _ (by simp), .inl ⟨ha, fun d hd dne => ?_⟩⟩
  exact h1 (by simp) d _ hd dne upd_same ((upd_ne dne).trans upd_same) (fun b n1 n2 => by rw [upd_ne n1, upd_ne n2])
theorem mkp_InvalidLot (T : Txt K mg) : MakX P w K mg base 1 "InvalidLot" (pe_ K) (ca K "InvalidLot") ["given"] 1 [] [] := by
  obtain ⟨fd, F⟩ := T.d_InvalidLot_init
  exact ⟨⟨_, fd, exT T (i := 2) rfl, T.g_InvalidLot, fn_InvalidLot_init T F, F.kbindsP 2 [] [] (fun _ _ _ _ _ _ us ws h1 h2 => match us, ws, h1, h2 with | [_, _], [], _, _ => rfl)⟩, by decide⟩
theorem mkk_InvalidLot (T : Txt K mg) : MakX P w K mg base 1 "InvalidLot" (pe_ K) (ca K "InvalidLot") ["given"] 0 ["given"] [0] := by
  obtain ⟨fd, F⟩ := T.d_InvalidLot_init
  exact ⟨⟨_, fd, exT T (i := 2) rfl, T.g_InvalidLot, fn_InvalidLot_init T F, F.kbindsP 1 ["given"] [0] (fun _ _ _ _ _ _ us ws h1 h2 => match us, ws, h1, h2 with | [_], [_], _, _ => rfl)⟩, by decide⟩
abbrev N_InvalidPayoff_init : List Str := ["self", "given"]
theorem sc_InvalidPayoff_init : FnScope N_InvalidPayoff_init ["self", "given"] (defScope (inClass (top 7) 0)) := ⟨rfl, rfl, rfl, by decide +kernel, rfl, by decide +kernel, by decide +kernel⟩
theorem fn_InvalidPayoff_init (T : Txt K mg) {fd : FuncData} (F : FunD K "__init__" "InvalidPayoff.__init__" (defArgs (inClass (top 7) 0)) (defBody (inClass (top 7) 0)) (defScope (inClass (top 7) 0)) [] [] (He.ma K (He.ga K "InvalidPayoff") "__init__") fd) : FnOk P w K mg base C8.CX0 1 (ia K "InvalidPayoff") fd ["self", "given"] (spXI (ca K "InvalidPayoff") ["given"]) := by
  have TE := exT T (i := 3) (x := "InvalidPayoff") (fl := ["given"]) rfl
  refine F.ok sc_InvalidPayoff_init (fun vs H Q E h => by obtain ⟨_, _, rfl, hl, _⟩ := h; simpa using hl) (fun cdv A outer s H vs Q E hr h => ?_)
  obtain ⟨a, us, rfl, hl, ha, h0, h1⟩ := h
  obtain ⟨u1, rfl⟩ : ∃ u1, us = [u1] := match us, hl with | [u1], _ => ⟨u1, rfl⟩
  refine ⟨_, PSs.nox (pss_one (ps_ost (pv 0) (pv 1))), ?_⟩
  refine ⟨_, rfl, _, rfl, a, _, rfl, TE.oex, TE.no _ (by simp), .inl ⟨ha, fun d hd dne => ?_⟩⟩
  exact h1 (by simp) d _ hd dne upd_same ((upd_ne dne).trans upd_same) (fun b n1 n2 => by rw [upd_ne n1, upd_ne n2])
theorem mkp_InvalidPayoff (T : Txt K mg) : MakX P w K mg base 1 "InvalidPayoff" (pe_ K) (ca K "InvalidPayoff") ["given"] 1 [] [] := by
  obtain ⟨fd, F⟩ := T.d_InvalidPayoff_init
  exact ⟨⟨_, fd, exT T (i := 3) rfl, T.g_InvalidPayoff, fn_InvalidPayoff_init T F, F.kbindsP 2 [] [] (fun _ _ _ _ _ _ us ws h1 h2 => match us, ws, h1, h2 with | [_, _], [], _, _ => rfl)⟩, by decide⟩
theorem mkk_InvalidPayoff (T : Txt K mg) : MakX P w K mg base 1 "InvalidPayoff" (pe_ K) (ca K "InvalidPayoff") ["given"] 0 ["given"] [0] := by
  obtain ⟨fd, F⟩ := T.d_InvalidPayoff_init
  exact ⟨⟨_, fd, exT T (i := 3) rfl, T.g_InvalidPayoff, fn_InvalidPayoff_init T F, F.kbindsP 1 ["given"] [0] (fun _ _ _ _ _ _ us ws h1 h2 => match us, ws, h1, h2 with | [_], [_], _, _ => rfl)⟩, by decide⟩
abbrev N_InvalidNames_init : List Str := ["self", "given"]
theorem sc_InvalidNames_init : FnScope N_InvalidNames_init ["self", "given"] (defScope (inClass (top 8) 0)) := ⟨rfl, rfl, rfl, by decide +kernel, rfl, by decide +kernel, by decide +kernel⟩
theorem fn_InvalidNames_init (T : Txt K mg) {fd : FuncData} (F : FunD K "__init__" "InvalidNames.__init__" (defArgs (inClass (top 8) 0)) (defBody (inClass (top 8) 0)) (defScope (inClass (top 8) 0)) [] [] (He.ma K (He.ga K "InvalidNames") "__init__") fd) : FnOk P w K mg base C8.CX0 1 (ia K "InvalidNames") fd ["self", "given"] (spXI (ca K "InvalidNames") ["given"]) := by
  have TE := exT T (i := 4) (x := "InvalidNames") (fl := ["given"]) rfl
  refine F.ok sc_InvalidNames_init (fun vs H Q E h => by obtain ⟨_, _, rfl, hl, _⟩ := h; simpa using hl) (fun cdv A outer s H vs Q E hr h => ?_)
  obtain ⟨a, us, rfl, hl, ha, h0, h1⟩ := h
  obtain ⟨u1, rfl⟩ : ∃ u1, us = [u1] := match us, hl with | [u1], _ => ⟨u1, rfl⟩
  refine ⟨_, PSs.nox (pss_one (ps_ost (pv 0) (pv 1))), ?_⟩
  refine ⟨_, rfl, _, rfl, a, _, rfl, TE.oex, TE.no _ (by simp), .inl ⟨ha, fun d hd dne => ?_⟩⟩
  exact h1 (by simp) d _ hd dne upd_same ((upd_ne dne).trans upd_same) (fun b n1 n2 => by rw [upd_ne n1, upd_ne n2])
theorem mkp_InvalidNames (T : Txt K mg) : MakX P w K mg base 1 "InvalidNames" (pe_ K) (ca K "InvalidNames") ["given"] 1 [] [] := by
  obtain ⟨fd, F⟩ := T.d_InvalidNames_init
  exact ⟨⟨_, fd, exT T (i := 4) rfl, T.g_InvalidNames, fn_InvalidNames_init T F, F.kbindsP 2 [] [] (fun _ _ _ _ _ _ us ws h1 h2 => match us, ws, h1, h2 with | [_, _], [], _, _ => rfl)⟩, by decide⟩
theorem mkk_InvalidNames (T : Txt K mg) : MakX P w K mg base 1 "InvalidNames" (pe_ K) (ca K "InvalidNames") ["given"] 0 ["given"] [0] := by
  obtain ⟨fd, F⟩ := T.d_InvalidNames_init
  exact ⟨⟨_, fd, exT T (i := 4) rfl, T.g_InvalidNames, fn_InvalidNames_init T F, F.kbindsP 1 ["given"] [0] (fun _ _ _ _ _ _ us ws h1 h2 => match us, ws, h1, h2 with | [_], [_], _, _ => rfl)⟩, by decide⟩
abbrev N_InvalidStore_init : List Str := ["self", "given"]
theorem sc_InvalidStore_init : FnScope N_InvalidStore_init ["self", "given"] (defScope (inClass (top 9) 0)) := ⟨rfl, rfl, rfl, by decide +kernel, rfl, by decide +kernel, by decide +kernel⟩
theorem fn_InvalidStore_init (T : Txt K mg) {fd : FuncData} (F : FunD K "__init__" "InvalidStore.__init__" (defArgs (inClass (top 9) 0)) (defBody (inClass (top 9) 0)) (defScope (inClass (top 9) 0)) [] [] (He.ma K (He.ga K "InvalidStore") "__init__") fd) : FnOk P w K mg base C8.CX0 1 (ia K "InvalidStore") fd ["self", "given"] (spXI (ca K "InvalidStore") ["given"]) := by
  have TE := exT T (i := 5) (x := "InvalidStore") (fl := ["given"]) rfl
  refine F.ok sc_InvalidStore_init (fun vs H Q E h => by obtain ⟨_, _, rfl, hl, _⟩ := h; simpa using hl) (fun cdv A outer s H vs Q E hr h => ?_)
  obtain ⟨a, us, rfl, hl, ha, h0, h1⟩ := h
  obtain ⟨u1, rfl⟩ : ∃ u1, us = [u1] := match us, hl with | [u1], _ => ⟨u1, rfl⟩
  refine ⟨_, PSs.nox (pss_one (ps_ost (pv 0) (pv 1))), ?_⟩
  refine ⟨_, rfl, _, rfl, a, _, rfl, TE.oex, TE.no _ (by simp), .inl ⟨ha, fun d hd dne => ?_⟩⟩
  exact h1 (by simp) d _ hd dne upd_same ((upd_ne dne).trans upd_same) (fun b n1 n2 => by rw [upd_ne n1, upd_ne n2])
theorem mkp_InvalidStore (T : Txt K mg) : MakX P w K mg base 1 "InvalidStore" (pe_ K) (ca K "InvalidStore") ["given"] 1 [] [] := by
  obtain ⟨fd, F⟩ := T.d_InvalidStore_init
  exact ⟨⟨_, fd, exT T (i := 5) rfl, T.g_InvalidStore, fn_InvalidStore_init T F, F.kbindsP 2 [] [] (fun _ _ _ _ _ _ us ws h1 h2 => match us, ws, h1, h2 with | [_, _], [], _, _ => rfl)⟩, by decide⟩
theorem mkk_InvalidStore (T : Txt K mg) : MakX P w K mg base 1 "InvalidStore" (pe_ K) (ca K "InvalidStore") ["given"] 0 ["given"] [0] := by
  obtain ⟨fd, F⟩ := T.d_InvalidStore_init
  exact ⟨⟨_, fd, exT T (i := 5) rfl, T.g_InvalidStore, fn_InvalidStore_init T F, F.kbindsP 1 ["given"] [0] (fun _ _ _ _ _ _ us ws h1 h2 => match us, ws, h1, h2 with | [_], [_], _, _ => rfl)⟩, by decide⟩
abbrev N_InvalidValues_init : List Str := ["self", "given"]
theorem sc_InvalidValues_init : FnScope N_InvalidValues_init ["self", "given"] (defScope (inClass (top 10) 0)) := ⟨rfl, rfl, rfl, by decide +kernel, rfl, by decide +kernel, by decide +kernel⟩
theorem fn_InvalidValues_init (T : Txt K mg) {fd : FuncData} (F : FunD K "__init__" "InvalidValues.__init__" (defArgs (inClass (top 10) 0)) (defBody (inClass (top 10) 0)) (defScope (inClass (top 10) 0)) [] [] (He.ma K (He.ga K "InvalidValues") "__init__") fd) : FnOk P w K mg base C8.CX0 1 (ia K "InvalidValues") fd ["self", "given"] (spXI (ca K "InvalidValues") ["given"]) := by
  have TE := exT T (i := 6) (x := "InvalidValues") (fl := ["given"]) rfl
  refine F.ok sc_InvalidValues_init (fun vs H Q E h => by obtain ⟨_, _, rfl, hl, _⟩ := h; simpa using hl) (fun cdv A outer s H vs Q E hr h => ?_)
  obtain ⟨a, us, rfl, hl, ha, h0, h1⟩ := h
  obtain ⟨u1, rfl⟩ : ∃ u1, us = [u1] := match us, hl with | [u1], _ => ⟨u1, rfl⟩
  refine ⟨_, PSs.nox (pss_one (ps_ost (pv 0) (pv 1))), ?_⟩
  refine ⟨_, rfl, _, rfl, a, _, rfl, TE.oex, TE.no _ (by simp), .inl ⟨ha, fun d hd dne => ?_⟩⟩
  exact h1 (by simp) d _ hd dne upd_same ((upd_ne dne).trans upd_same) (fun b n1 n2 => by rw [upd_ne n1, upd_ne n2])
theorem mkp_InvalidValues (T : Txt K mg) : MakX P w K mg base 1 "InvalidValues" (pe_ K) (ca K "InvalidValues") ["given"] 1 [] [] := by
  obtain ⟨fd, F⟩ := T.d_InvalidValues_init
  exact ⟨⟨_, fd, exT T (i := 6) rfl, T.g_InvalidValues, fn_InvalidValues_init T F, F.kbindsP 2 [] [] (fun _ _ _ _ _ _ us ws h1 h2 => match us, ws, h1, h2 with | [_, _], [], _, _ => rfl)⟩, by decide⟩
theorem mkk_InvalidValues (T : Txt K mg) : MakX P w K mg base 1 "InvalidValues" (pe_ K) (ca K "InvalidValues") ["given"] 0 ["given"] [0] := by
  obtain ⟨fd, F⟩ := T.d_InvalidValues_init
  exact ⟨⟨_, fd, exT T (i := 6) rfl, T.g_InvalidValues, fn_InvalidValues_init T F, F.kbindsP 1 ["given"] [0] (fun _ _ _ _ _ _ us ws h1 h2 => match us, ws, h1, h2 with | [_], [_], _, _ => rfl)⟩, by decide⟩
abbrev N_InvalidText_init : List Str := ["self", "given"]
theorem sc_InvalidText_init : FnScope N_InvalidText_init ["self", "given"] (defScope (inClass (top 11) 0)) := ⟨rfl, rfl, rfl, by decide +kernel, rfl, by decide +kernel, by decide +kernel⟩
theorem fn_InvalidText_init (T : Txt K mg) {fd : FuncData} (F : FunD K "__init__" "InvalidText.__init__" (defArgs (inClass (top 11) 0)) (defBody (inClass (top 11) 0)) (defScope (inClass (top 11) 0)) [] [] (He.ma K (He.ga K "InvalidText") "__init__") fd) : FnOk P w K mg base C8.CX0 1 (ia K "InvalidText") fd ["self", "given"] (spXI (ca K "InvalidText") ["given"]) := by
  have TE := exT T (i := 7) (x := "InvalidText") (fl := ["given"]) rfl
  refine F.ok sc_InvalidText_init (fun vs H Q E h => by obtain ⟨_, _, rfl, hl, _⟩ := h; simpa using hl) (fun cdv A outer s H vs Q E hr h => ?_)
  obtain ⟨a, us, rfl, hl, ha, h0, h1⟩ := h
  obtain ⟨u1, rfl⟩ : ∃ u1, us = [u1] := match us, hl with | [u1], _ => ⟨u1, rfl⟩
  refine ⟨_, PSs.nox (pss_one (ps_ost (pv 0) (pv 1))), ?_⟩
  refine ⟨_, rfl, _, rfl, a, _, rfl, TE.oex, TE.no _ (by simp), .inl ⟨ha, fun d hd dne => ?_⟩⟩
  exact h1 (by simp) d _ hd dne upd_same ((upd_ne dne).trans upd_same) (fun b n1 n2 => by rw [upd_ne n1, upd_ne n2])
theorem mkp_InvalidText (T : Txt K mg) : MakX P w K mg base 1 "InvalidText" (pe_ K) (ca K "InvalidText") ["given"] 1 [] [] := by
  obtain ⟨fd, F⟩ := T.d_InvalidText_init
  exact ⟨⟨_, fd, exT T (i := 7) rfl, T.g_InvalidText, fn_InvalidText_init T F, F.kbindsP 2 [] [] (fun _ _ _ _ _ _ us ws h1 h2 => match us, ws, h1, h2 with | [_, _], [], _, _ => rfl)⟩, by decide⟩
theorem mkk_InvalidText (T : Txt K mg) : MakX P w K mg base 1 "InvalidText" (pe_ K) (ca K "InvalidText") ["given"] 0 ["given"] [0] := by
  obtain ⟨fd, F⟩ := T.d_InvalidText_init
  exact ⟨⟨_, fd, exT T (i := 7) rfl, T.g_InvalidText, fn_InvalidText_init T F, F.kbindsP 1 ["given"] [0] (fun _ _ _ _ _ _ us ws h1 h2 => match us, ws, h1, h2 with | [_], [_], _, _ => rfl)⟩, by decide⟩
abbrev N_InvalidSystem_init : List Str := ["self", "given"]
theorem sc_InvalidSystem_init : FnScope N_InvalidSystem_init ["self", "given"] (defScope (inClass (top 12) 0)) := ⟨rfl, rfl, rfl, by decide +kernel, rfl, by decide +kernel, by decide +kernel⟩
theorem fn_InvalidSystem_init (T : Txt K mg) {fd : FuncData} (F : FunD K "__init__" "InvalidSystem.__init__" (defArgs (inClass (top 12) 0)) (defBody (inClass (top 12) 0)) (defScope (inClass (top 12) 0)) [] [] (He.ma K (He.ga K "InvalidSystem") "__init__") fd) : FnOk P w K mg base C8.CX0 1 (ia K "InvalidSystem") fd ["self", "given"] (spXI (ca K "InvalidSystem") ["given"]) := by
  have TE := exT T (i := 8) (x := "InvalidSystem") (fl := ["given"]) rfl
  refine F.ok sc_InvalidSystem_init (fun vs H Q E h => by obtain ⟨_, _, rfl, hl, _⟩ := h; simpa using hl) (fun cdv A outer s H vs Q E hr h => ?_)
  obtain ⟨a, us, rfl, hl, ha, h0, h1⟩ := h
  obtain ⟨u1, rfl⟩ : ∃ u1, us = [u1] := match us, hl with | [u1], _ => ⟨u1, rfl⟩
  refine ⟨_, PSs.nox (pss_one (ps_ost (pv 0) (pv 1))), ?_⟩
  refine ⟨_, rfl, _, rfl, a, _, rfl, TE.oex, TE.no _ (by simp), .inl ⟨ha, fun d hd dne => ?_⟩⟩
  exact h1 (by simp) d _ hd dne upd_same ((upd_ne dne).trans upd_same) (fun b n1 n2 => by rw [upd_ne n1, upd_ne n2])
theorem mkp_InvalidSystem (T : Txt K mg) : MakX P w K mg base 1 "InvalidSystem" (pe_ K) (ca K "InvalidSystem") ["given"] 1 [] [] := by
  obtain ⟨fd, F⟩ := T.d_InvalidSystem_init
  exact ⟨⟨_, fd, exT T (i := 8) rfl, T.g_InvalidSystem, fn_InvalidSystem_init T F, F.kbindsP 2 [] [] (fun _ _ _ _ _ _ us ws h1 h2 => match us, ws, h1, h2 with | [_, _], [], _, _ => rfl)⟩, by decide⟩
theorem mkk_InvalidSystem (T : Txt K mg) : MakX P w K mg base 1 "InvalidSystem" (pe_ K) (ca K "InvalidSystem") ["given"] 0 ["given"] [0] := by
  obtain ⟨fd, F⟩ := T.d_InvalidSystem_init
  exact ⟨⟨_, fd, exT T (i := 8) rfl, T.g_InvalidSystem, fn_InvalidSystem_init T F, F.kbindsP 1 ["given"] [0] (fun _ _ _ _ _ _ us ws h1 h2 => match us, ws, h1, h2 with | [_], [_], _, _ => rfl)⟩, by decide⟩
abbrev N_InvalidUnit_init : List Str := ["self", "given"]
theorem sc_InvalidUnit_init : FnScope N_InvalidUnit_init ["self", "given"] (defScope (inClass (top 13) 0)) := ⟨rfl, rfl, rfl, by decide +kernel, rfl, by decide +kernel, by decide +kernel⟩
theorem fn_InvalidUnit_init (T : Txt K mg) {fd : FuncData} (F : FunD K "__init__" "InvalidUnit.__init__" (defArgs (inClass (top 13) 0)) (defBody (inClass (top 13) 0)) (defScope (inClass (top 13) 0)) [] [] (He.ma K (He.ga K "InvalidUnit") "__init__") fd) : FnOk P w K mg base C8.CX0 1 (ia K "InvalidUnit") fd ["self", "given"] (spXI (ca K "InvalidUnit") ["given"]) := by
  have TE := exT T (i := 9) (x := "InvalidUnit") (fl := ["given"]) rfl
  refine F.ok sc_InvalidUnit_init (fun vs H Q E h => by obtain ⟨_, _, rfl, hl, _⟩ := h; simpa using hl) (fun cdv A outer s H vs Q E hr h => ?_)
  obtain ⟨a, us, rfl, hl, ha, h0, h1⟩ := h
  obtain ⟨u1, rfl⟩ : ∃ u1, us = [u1] := match us, hl with | [u1], _ => ⟨u1, rfl⟩
  refine ⟨_, PSs.nox (pss_one (ps_ost (pv 0) (pv 1))), ?_⟩
  refine ⟨_, rfl, _, rfl, a, _, rfl, TE.oex, TE.no _ (by simp), .inl ⟨ha, fun d hd dne => ?_⟩⟩
  exact h1 (by simp) d _ hd dne upd_same ((upd_ne dne).trans upd_same) (fun b n1 n2 => by rw [upd_ne n1, upd_ne n2])
theorem mkp_InvalidUnit (T : Txt K mg) : MakX P w K mg base 1 "InvalidUnit" (pe_ K) (ca K "InvalidUnit") ["given"] 1 [] [] := by
  obtain ⟨fd, F⟩ := T.d_InvalidUnit_init
  exact ⟨⟨_, fd, exT T (i := 9) rfl, T.g_InvalidUnit, fn_InvalidUnit_init T F, F.kbindsP 2 [] [] (fun _ _ _ _ _ _ us ws h1 h2 => match us, ws, h1, h2 with | [_, _], [], _, _ => rfl)⟩, by decide⟩
theorem mkk_InvalidUnit (T : Txt K mg) : MakX P w K mg base 1 "InvalidUnit" (pe_ K) (ca K "InvalidUnit") ["given"] 0 ["given"] [0] := by
  obtain ⟨fd, F⟩ := T.d_InvalidUnit_init
  exact ⟨⟨_, fd, exT T (i := 9) rfl, T.g_InvalidUnit, fn_InvalidUnit_init T F, F.kbindsP 1 ["given"] [0] (fun _ _ _ _ _ _ us ws h1 h2 => match us, ws, h1, h2 with | [_], [_], _, _ => rfl)⟩, by decide⟩
abbrev N_InvalidBody_init : List Str := ["self", "given"]
theorem sc_InvalidBody_init : FnScope N_InvalidBody_init ["self", "given"] (defScope (inClass (top 14) 0)) := ⟨rfl, rfl, rfl, by decide +kernel, rfl, by decide +kernel, by decide +kernel⟩
theorem fn_InvalidBody_init (T : Txt K mg) {fd : FuncData} (F : FunD K "__init__" "InvalidBody.__init__" (defArgs (inClass (top 14) 0)) (defBody (inClass (top 14) 0)) (defScope (inClass (top 14) 0)) [] [] (He.ma K (He.ga K "InvalidBody") "__init__") fd) : FnOk P w K mg base C8.CX0 1 (ia K "InvalidBody") fd ["self", "given"] (spXI (ca K "InvalidBody") ["given"]) := by
  have TE := exT T (i := 10) (x := "InvalidBody") (fl := ["given"]) rfl
  refine F.ok sc_InvalidBody_init (fun vs H Q E h => by obtain ⟨_, _, rfl, hl, _⟩ := h; simpa using hl) (fun cdv A outer s H vs Q E hr h => ?_)
  obtain ⟨a, us, rfl, hl, ha, h0, h1⟩ := h
  obtain ⟨u1, rfl⟩ : ∃ u1, us = [u1] := match us, hl with | [u1], _ => ⟨u1, rfl⟩
  refine ⟨_, PSs.nox (pss_one (ps_ost (pv 0) (pv 1))), ?_⟩
  refine ⟨_, rfl, _, rfl, a, _, rfl, TE.oex, TE.no _ (by simp), .inl ⟨ha, fun d hd dne => ?_⟩⟩
  exact h1 (by simp) d _ hd dne upd_same ((upd_ne dne).trans upd_same) (fun b n1 n2 => by rw [upd_ne n1, upd_ne n2])
theorem mkp_InvalidBody (T : Txt K mg) : MakX P w K mg base 1 "InvalidBody" (pe_ K) (ca K "InvalidBody") ["given"] 1 [] [] := by
  obtain ⟨fd, F⟩ := T.d_InvalidBody_init
  exact ⟨⟨_, fd, exT T (i := 10) rfl, T.g_InvalidBody, fn_InvalidBody_init T F, F.kbindsP 2 [] [] (fun _ _ _ _ _ _ us ws h1 h2 => match us, ws, h1, h2 with | [_, _], [], _, _ => rfl)⟩, by decide⟩
theorem mkk_InvalidBody (T : Txt K mg) : MakX P w K mg base 1 "InvalidBody" (pe_ K) (ca K "InvalidBody") ["given"] 0 ["given"] [0] := by
  obtain ⟨fd, F⟩ := T.d_InvalidBody_init
  exact ⟨⟨_, fd, exT T (i := 10) rfl, T.g_InvalidBody, fn_InvalidBody_init T F, F.kbindsP 1 ["given"] [0] (fun _ _ _ _ _ _ us ws h1 h2 => match us, ws, h1, h2 with | [_], [_], _, _ => rfl)⟩, by decide⟩
abbrev N_InvalidSteps_init : List Str := ["self", "given"]
theorem sc_InvalidSteps_init : FnScope N_InvalidSteps_init ["self", "given"] (defScope (inClass (top 15) 0)) := ⟨rfl, rfl, rfl, by decide +kernel, rfl, by decide +kernel, by decide +kernel⟩
theorem fn_InvalidSteps_init (T : Txt K mg) {fd : FuncData} (F : FunD K "__init__" "InvalidSteps.__init__" (defArgs (inClass (top 15) 0)) (defBody (inClass (top 15) 0)) (defScope (inClass (top 15) 0)) [] [] (He.ma K (He.ga K "InvalidSteps") "__init__") fd) : FnOk P w K mg base C8.CX0 1 (ia K "InvalidSteps") fd ["self", "given"] (spXI (ca K "InvalidSteps") ["given"]) := by
  have TE := exT T (i := 11) (x := "InvalidSteps") (fl := ["given"]) rfl
  refine F.ok sc_InvalidSteps_init (fun vs H Q E h => by obtain ⟨_, _, rfl, hl, _⟩ := h; simpa using hl) (fun cdv A outer s H vs Q E hr h => ?_)
  obtain ⟨a, us, rfl, hl, ha, h0, h1⟩ := h
  obtain ⟨u1, rfl⟩ : ∃ u1, us = [u1] := match us, hl with | [u1], _ => ⟨u1, rfl⟩
  refine ⟨_, PSs.nox (pss_one (ps_ost (pv 0) (pv 1))), ?_⟩
  refine ⟨_, rfl, _, rfl, a, _, rfl, TE.oex, TE.no _ (by simp), .inl ⟨ha, fun d hd dne => ?_⟩⟩
  exact h1 (by simp) d _ hd dne upd_same ((upd_ne dne).trans upd_same) (fun b n1 n2 => by rw [upd_ne n1, upd_ne n2])
theorem mkp_InvalidSteps (T : Txt K mg) : MakX P w K mg base 1 "InvalidSteps" (pe_ K) (ca K "InvalidSteps") ["given"] 1 [] [] := by
  obtain ⟨fd, F⟩ := T.d_InvalidSteps_init
  exact ⟨⟨_, fd, exT T (i := 11) rfl, T.g_InvalidSteps, fn_InvalidSteps_init T F, F.kbindsP 2 [] [] (fun _ _ _ _ _ _ us ws h1 h2 => match us, ws, h1, h2 with | [_, _], [], _, _ => rfl)⟩, by decide⟩
theorem mkk_InvalidSteps (T : Txt K mg) : MakX P w K mg base 1 "InvalidSteps" (pe_ K) (ca K "InvalidSteps") ["given"] 0 ["given"] [0] := by
  obtain ⟨fd, F⟩ := T.d_InvalidSteps_init
  exact ⟨⟨_, fd, exT T (i := 11) rfl, T.g_InvalidSteps, fn_InvalidSteps_init T F, F.kbindsP 1 ["given"] [0] (fun _ _ _ _ _ _ us ws h1 h2 => match us, ws, h1, h2 with | [_], [_], _, _ => rfl)⟩, by decide⟩
abbrev N_InvalidSummaries_init : List Str := ["self", "given"]
theorem sc_InvalidSummaries_init : FnScope N_InvalidSummaries_init ["self", "given"] (defScope (inClass (top 16) 0)) := ⟨rfl, rfl, rfl, by decide +kernel, rfl, by decide +kernel, by decide +kernel⟩
theorem fn_InvalidSummaries_init (T : Txt K mg) {fd : FuncData} (F : FunD K "__init__" "InvalidSummaries.__init__" (defArgs (inClass (top 16) 0)) (defBody (inClass (top 16) 0)) (defScope (inClass (top 16) 0)) [] [] (He.ma K (He.ga K "InvalidSummaries") "__init__") fd) : FnOk P w K mg base C8.CX0 1 (ia K "InvalidSummaries") fd ["self", "given"] (spXI (ca K "InvalidSummaries") ["given"]) := by
  have TE := exT T (i := 12) (x := "InvalidSummaries") (fl := ["given"]) rfl
  refine F.ok sc_InvalidSummaries_init (fun vs H Q E h => by obtain ⟨_, _, rfl, hl, _⟩ := h; simpa using hl) (fun cdv A outer s H vs Q E hr h => ?_)
  obtain ⟨a, us, rfl, hl, ha, h0, h1⟩ := h
  obtain ⟨u1, rfl⟩ : ∃ u1, us = [u1] := match us, hl with | [u1], _ => ⟨u1, rfl⟩
  refine ⟨_, PSs.nox (pss_one (ps_ost (pv 0) (pv 1))), ?_⟩
  refine ⟨_, rfl, _, rfl, a, _, rfl, TE.oex, TE.no _ (by simp), .inl ⟨ha, fun d hd dne => ?_⟩⟩
  exact h1 (by simp) d _ hd dne upd_same ((upd_ne dne).trans upd_same) (fun b n1 n2 => by rw [upd_ne n1, upd_ne n2])
theorem mkp_InvalidSummaries (T : Txt K mg) : MakX P w K mg base 1 "InvalidSummaries" (pe_ K) (ca K "InvalidSummaries") ["given"] 1 [] [] := by
  obtain ⟨fd, F⟩ := T.d_InvalidSummaries_init
  exact ⟨⟨_, fd, exT T (i := 12) rfl, T.g_InvalidSummaries, fn_InvalidSummaries_init T F, F.kbindsP 2 [] [] (fun _ _ _ _ _ _ us ws h1 h2 => match us, ws, h1, h2 with | [_, _], [], _, _ => rfl)⟩, by decide⟩
theorem mkk_InvalidSummaries (T : Txt K mg) : MakX P w K mg base 1 "InvalidSummaries" (pe_ K) (ca K "InvalidSummaries") ["given"] 0 ["given"] [0] := by
  obtain ⟨fd, F⟩ := T.d_InvalidSummaries_init
  exact ⟨⟨_, fd, exT T (i := 12) rfl, T.g_InvalidSummaries, fn_InvalidSummaries_init T F, F.kbindsP 1 ["given"] [0] (fun _ _ _ _ _ _ us ws h1 h2 => match us, ws, h1, h2 with | [_], [_], _, _ => rfl)⟩, by decide⟩
abbrev N_InvalidRow_init : List Str := ["self", "given"]
theorem sc_InvalidRow_init : FnScope N_InvalidRow_init ["self", "given"] (defScope (inClass (top 17) 0)) := ⟨rfl, rfl, rfl, by decide +kernel, rfl, by decide +kernel, by decide +kernel⟩
theorem fn_InvalidRow_init (T : Txt K mg) {fd : FuncData} (F : FunD K "__init__" "InvalidRow.__init__" (defArgs (inClass (top 17) 0)) (defBody (inClass (top 17) 0)) (defScope (inClass (top 17) 0)) [] [] (He.ma K (He.ga K "InvalidRow") "__init__") fd) : FnOk P w K mg base C8.CX0 1 (ia K "InvalidRow") fd ["self", "given"] (spXI (ca K "InvalidRow") ["given"]) := by
  have TE := exT T (i := 13) (x := "InvalidRow") (fl := ["given"]) rfl
  refine F.ok sc_InvalidRow_init (fun vs H Q E h => by obtain ⟨_, _, rfl, hl, _⟩ := h; simpa using hl) (fun cdv A outer s H vs Q E hr h => ?_)
  obtain ⟨a, us, rfl, hl, ha, h0, h1⟩ := h
  obtain ⟨u1, rfl⟩ : ∃ u1, us = [u1] := match us, hl with | [u1], _ => ⟨u1, rfl⟩
  refine ⟨_, PSs.nox (pss_one (ps_ost (pv 0) (pv 1))), ?_⟩
  refine ⟨_, rfl, _, rfl, a, _, rfl, TE.oex, TE.no _ (by simp), .inl ⟨ha, fun d hd dne => ?_⟩⟩
  exact h1 (by simp) d _ hd dne upd_same ((upd_ne dne).trans upd_same) (fun b n1 n2 => by rw [upd_ne n1, upd_ne n2])
theorem mkp_InvalidRow (T : Txt K mg) : MakX P w K mg base 1 "InvalidRow" (pe_ K) (ca K "InvalidRow") ["given"] 1 [] [] := by
  obtain ⟨fd, F⟩ := T.d_InvalidRow_init
  exact ⟨⟨_, fd, exT T (i := 13) rfl, T.g_InvalidRow, fn_InvalidRow_init T F, F.kbindsP 2 [] [] (fun _ _ _ _ _ _ us ws h1 h2 => match us, ws, h1, h2 with | [_, _], [], _, _ => rfl)⟩, by decide⟩
theorem mkk_InvalidRow (T : Txt K mg) : MakX P w K mg base 1 "InvalidRow" (pe_ K) (ca K "InvalidRow") ["given"] 0 ["given"] [0] := by
  obtain ⟨fd, F⟩ := T.d_InvalidRow_init
  exact ⟨⟨_, fd, exT T (i := 13) rfl, T.g_InvalidRow, fn_InvalidRow_init T F, F.kbindsP 1 ["given"] [0] (fun _ _ _ _ _ _ us ws h1 h2 => match us, ws, h1, h2 with | [_], [_], _, _ => rfl)⟩, by decide⟩
abbrev N_InvalidPick_init : List Str := ["self", "given"]
theorem sc_InvalidPick_init : FnScope N_InvalidPick_init ["self", "given"] (defScope (inClass (top 18) 0)) := ⟨rfl, rfl, rfl, by decide +kernel, rfl, by decide +kernel, by decide +kernel⟩
theorem fn_InvalidPick_init (T : Txt K mg) {fd : FuncData} (F : FunD K "__init__" "InvalidPick.__init__" (defArgs (inClass (top 18) 0)) (defBody (inClass (top 18) 0)) (defScope (inClass (top 18) 0)) [] [] (He.ma K (He.ga K "InvalidPick") "__init__") fd) : FnOk P w K mg base C8.CX0 1 (ia K "InvalidPick") fd ["self", "given"] (spXI (ca K "InvalidPick") ["given"]) := by
  have TE := exT T (i := 14) (x := "InvalidPick") (fl := ["given"]) rfl
  refine F.ok sc_InvalidPick_init (fun vs H Q E h => by obtain ⟨_, _, rfl, hl, _⟩ := h; simpa using hl) (fun cdv A outer s H vs Q E hr h => ?_)
  obtain ⟨a, us, rfl, hl, ha, h0, h1⟩ := h
  obtain ⟨u1, rfl⟩ : ∃ u1, us = [u1] := match us, hl with | [u1], _ => ⟨u1, rfl⟩
  refine ⟨_, PSs.nox (pss_one (ps_ost (pv 0) (pv 1))), ?_⟩
  refine ⟨_, rfl, _, rfl, a, _, rfl, TE.oex, TE.no _ (by simp), .inl ⟨ha, fun d hd dne => ?_⟩⟩
  exact h1 (by simp) d _ hd dne upd_same ((upd_ne dne).trans upd_same) (fun b n1 n2 => by rw [upd_ne n1, upd_ne n2])
theorem mkp_InvalidPick (T : Txt K mg) : MakX P w K mg base 1 "InvalidPick" (pe_ K) (ca K "InvalidPick") ["given"] 1 [] [] := by
  obtain ⟨fd, F⟩ := T.d_InvalidPick_init
  exact ⟨⟨_, fd, exT T (i := 14) rfl, T.g_InvalidPick, fn_InvalidPick_init T F, F.kbindsP 2 [] [] (fun _ _ _ _ _ _ us ws h1 h2 => match us, ws, h1, h2 with | [_, _], [], _, _ => rfl)⟩, by decide⟩
theorem mkk_InvalidPick (T : Txt K mg) : MakX P w K mg base 1 "InvalidPick" (pe_ K) (ca K "InvalidPick") ["given"] 0 ["given"] [0] := by
  obtain ⟨fd, F⟩ := T.d_InvalidPick_init
  exact ⟨⟨_, fd, exT T (i := 14) rfl, T.g_InvalidPick, fn_InvalidPick_init T F, F.kbindsP 1 ["given"] [0] (fun _ _ _ _ _ _ us ws h1 h2 => match us, ws, h1, h2 with | [_], [_], _, _ => rfl)⟩, by decide⟩
abbrev N_InvalidBlend_init : List Str := ["self", "given"]
theorem sc_InvalidBlend_init : FnScope N_InvalidBlend_init ["self", "given"] (defScope (inClass (top 19) 0)) := ⟨rfl, rfl, rfl, by decide +kernel, rfl, by decide +kernel, by decide +kernel⟩
theorem fn_InvalidBlend_init (T : Txt K mg) {fd : FuncData} (F : FunD K "__init__" "InvalidBlend.__init__" (defArgs (inClass (top 19) 0)) (defBody (inClass (top 19) 0)) (defScope (inClass (top 19) 0)) [] [] (He.ma K (He.ga K "InvalidBlend") "__init__") fd) : FnOk P w K mg base C8.CX0 1 (ia K "InvalidBlend") fd ["self", "given"] (spXI (ca K "InvalidBlend") ["given"]) := by
  have TE := exT T (i := 15) (x := "InvalidBlend") (fl := ["given"]) rfl
  refine F.ok sc_InvalidBlend_init (fun vs H Q E h => by obtain ⟨_, _, rfl, hl, _⟩ := h; simpa using hl) (fun cdv A outer s H vs Q E hr h => ?_)
  obtain ⟨a, us, rfl, hl, ha, h0, h1⟩ := h
  obtain ⟨u1, rfl⟩ : ∃ u1, us = [u1] := match us, hl with | [u1], _ => ⟨u1, rfl⟩
  refine ⟨_, PSs.nox (pss_one (ps_ost (pv 0) (pv 1))), ?_⟩
  refine ⟨_, rfl, _, rfl, a, _, rfl, TE.oex, TE.no _ (by simp), .inl ⟨ha, fun d hd dne => ?_⟩⟩
  exact h1 (by simp) d _ hd dne upd_same ((upd_ne dne).trans upd_same) (fun b n1 n2 => by rw [upd_ne n1, upd_ne n2])
theorem mkp_InvalidBlend (T : Txt K mg) : MakX P w K mg base 1 "InvalidBlend" (pe_ K) (ca K "InvalidBlend") ["given"] 1 [] [] := by
  obtain ⟨fd, F⟩ := T.d_InvalidBlend_init
  exact ⟨⟨_, fd, exT T (i := 15) rfl, T.g_InvalidBlend, fn_InvalidBlend_init T F, F.kbindsP 2 [] [] (fun _ _ _ _ _ _ us ws h1 h2 => match us, ws, h1, h2 with | [_, _], [], _, _ => rfl)⟩, by decide⟩
theorem mkk_InvalidBlend (T : Txt K mg) : MakX P w K mg base 1 "InvalidBlend" (pe_ K) (ca K "InvalidBlend") ["given"] 0 ["given"] [0] := by
  obtain ⟨fd, F⟩ := T.d_InvalidBlend_init
  exact ⟨⟨_, fd, exT T (i := 15) rfl, T.g_InvalidBlend, fn_InvalidBlend_init T F, F.kbindsP 1 ["given"] [0] (fun _ _ _ _ _ _ us ws h1 h2 => match us, ws, h1, h2 with | [_], [_], _, _ => rfl)⟩, by decide⟩
abbrev N_InvalidCode_init : List Str := ["self", "given"]
theorem sc_InvalidCode_init : FnScope N_InvalidCode_init ["self", "given"] (defScope (inClass (top 20) 0)) := ⟨rfl, rfl, rfl, by decide +kernel, rfl, by decide +kernel, by decide +kernel⟩
theorem fn_InvalidCode_init (T : Txt K mg) {fd : FuncData} (F : FunD K "__init__" "InvalidCode.__init__" (defArgs (inClass (top 20) 0)) (defBody (inClass (top 20) 0)) (defScope (inClass (top 20) 0)) [] [] (He.ma K (He.ga K "InvalidCode") "__init__") fd) : FnOk P w K mg base C8.CX0 1 (ia K "InvalidCode") fd ["self", "given"] (spXI (ca K "InvalidCode") ["given"]) := by
  have TE := exT T (i := 16) (x := "InvalidCode") (fl := ["given"]) rfl
  refine F.ok sc_InvalidCode_init (fun vs H Q E h => by obtain ⟨_, _, rfl, hl, _⟩ := h; simpa using hl) (fun cdv A outer s H vs Q E hr h => ?_)
  obtain ⟨a, us, rfl, hl, ha, h0, h1⟩ := h
  obtain ⟨u1, rfl⟩ : ∃ u1, us = [u1] := match us, hl with | [u1], _ => ⟨u1, rfl⟩
  refine ⟨_, PSs.nox (pss_one (ps_ost (pv 0) (pv 1))), ?_⟩
  refine ⟨_, rfl, _, rfl, a, _, rfl, TE.oex, TE.no _ (by simp), .inl ⟨ha, fun d hd dne => ?_⟩⟩
  exact h1 (by simp) d _ hd dne upd_same ((upd_ne dne).trans upd_same) (fun b n1 n2 => by rw [upd_ne n1, upd_ne n2])
theorem mkp_InvalidCode (T : Txt K mg) : MakX P w K mg base 1 "InvalidCode" (pe_ K) (ca K "InvalidCode") ["given"] 1 [] [] := by
  obtain ⟨fd, F⟩ := T.d_InvalidCode_init
  exact ⟨⟨_, fd, exT T (i := 16) rfl, T.g_InvalidCode, fn_InvalidCode_init T F, F.kbindsP 2 [] [] (fun _ _ _ _ _ _ us ws h1 h2 => match us, ws, h1, h2 with | [_, _], [], _, _ => rfl)⟩, by decide⟩
theorem mkk_InvalidCode (T : Txt K mg) : MakX P w K mg base 1 "InvalidCode" (pe_ K) (ca K "InvalidCode") ["given"] 0 ["given"] [0] := by
  obtain ⟨fd, F⟩ := T.d_InvalidCode_init
  exact ⟨⟨_, fd, exT T (i := 16) rfl, T.g_InvalidCode, fn_InvalidCode_init T F, F.kbindsP 1 ["given"] [0] (fun _ _ _ _ _ _ us ws h1 h2 => match us, ws, h1, h2 with | [_], [_], _, _ => rfl)⟩, by decide⟩
abbrev N_InvalidLines_init : List Str := ["self", "given"]
theorem sc_InvalidLines_init : FnScope N_InvalidLines_init ["self", "given"] (defScope (inClass (top 21) 0)) := ⟨rfl, rfl, rfl, by decide +kernel, rfl, by decide +kernel, by decide +kernel⟩
theorem fn_InvalidLines_init (T : Txt K mg) {fd : FuncData} (F : FunD K "__init__" "InvalidLines.__init__" (defArgs (inClass (top 21) 0)) (defBody (inClass (top 21) 0)) (defScope (inClass (top 21) 0)) [] [] (He.ma K (He.ga K "InvalidLines") "__init__") fd) : FnOk P w K mg base C8.CX0 1 (ia K "InvalidLines") fd ["self", "given"] (spXI (ca K "InvalidLines") ["given"]) := by
  have TE := exT T (i := 17) (x := "InvalidLines") (fl := ["given"]) rfl
  refine F.ok sc_InvalidLines_init (fun vs H Q E h => by obtain ⟨_, _, rfl, hl, _⟩ := h; simpa using hl) (fun cdv A outer s H vs Q E hr h => ?_)
  obtain ⟨a, us, rfl, hl, ha, h0, h1⟩ := h
  obtain ⟨u1, rfl⟩ : ∃ u1, us = [u1] := match us, hl with | [u1], _ => ⟨u1, rfl⟩
  refine ⟨_, PSs.nox (pss_one (ps_ost (pv 0) (pv 1))), ?_⟩
  refine ⟨_, rfl, _, rfl, a, _, rfl, TE.oex, TE.no _ (by simp), .inl ⟨ha, fun d hd dne => ?_⟩⟩
  exact h1 (by simp) d _ hd dne upd_same ((upd_ne dne).trans upd_same) (fun b n1 n2 => by rw [upd_ne n1, upd_ne n2])
theorem mkp_InvalidLines (T : Txt K mg) : MakX P w K mg base 1 "InvalidLines" (pe_ K) (ca K "InvalidLines") ["given"] 1 [] [] := by
  obtain ⟨fd, F⟩ := T.d_InvalidLines_init
  exact ⟨⟨_, fd, exT T (i := 17) rfl, T.g_InvalidLines, fn_InvalidLines_init T F, F.kbindsP 2 [] [] (fun _ _ _ _ _ _ us ws h1 h2 => match us, ws, h1, h2 with | [_, _], [], _, _ => rfl)⟩, by decide⟩
theorem mkk_InvalidLines (T : Txt K mg) : MakX P w K mg base 1 "InvalidLines" (pe_ K) (ca K "InvalidLines") ["given"] 0 ["given"] [0] := by
  obtain ⟨fd, F⟩ := T.d_InvalidLines_init
  exact ⟨⟨_, fd, exT T (i := 17) rfl, T.g_InvalidLines, fn_InvalidLines_init T F, F.kbindsP 1 ["given"] [0] (fun _ _ _ _ _ _ us ws h1 h2 => match us, ws, h1, h2 with | [_], [_], _, _ => rfl)⟩, by decide⟩
abbrev N_InvalidAnswer_init : List Str := ["self", "given"]
theorem sc_InvalidAnswer_init : FnScope N_InvalidAnswer_init ["self", "given"] (defScope (inClass (top 22) 0)) := ⟨rfl, rfl, rfl, by decide +kernel, rfl, by decide +kernel, by decide +kernel⟩
theorem fn_InvalidAnswer_init (T : Txt K mg) {fd : FuncData} (F : FunD K "__init__" "InvalidAnswer.__init__" (defArgs (inClass (top 22) 0)) (defBody (inClass (top 22) 0)) (defScope (inClass (top 22) 0)) [] [] (He.ma K (He.ga K "InvalidAnswer") "__init__") fd) : FnOk P w K mg base C8.CX0 1 (ia K "InvalidAnswer") fd ["self", "given"] (spXI (ca K "InvalidAnswer") ["given"]) := by
  have TE := exT T (i := 18) (x := "InvalidAnswer") (fl := ["given"]) rfl
  refine F.ok sc_InvalidAnswer_init (fun vs H Q E h => by obtain ⟨_, _, rfl, hl, _⟩ := h; simpa using hl) (fun cdv A outer s H vs Q E hr h => ?_)
  obtain ⟨a, us, rfl, hl, ha, h0, h1⟩ := h
  obtain ⟨u1, rfl⟩ : ∃ u1, us = [u1] := match us, hl with | [u1], _ => ⟨u1, rfl⟩
  refine ⟨_, PSs.nox (pss_one (ps_ost (pv 0) (pv 1))), ?_⟩
  refine ⟨_, rfl, _, rfl, a, _, rfl, TE.oex, TE.no _ (by simp), .inl ⟨ha, fun d hd dne => ?_⟩⟩
  exact h1 (by simp) d _ hd dne upd_same ((upd_ne dne).trans upd_same) (fun b n1 n2 => by rw [upd_ne n1, upd_ne n2])
theorem mkp_InvalidAnswer (T : Txt K mg) : MakX P w K mg base 1 "InvalidAnswer" (pe_ K) (ca K "InvalidAnswer") ["given"] 1 [] [] := by
  obtain ⟨fd, F⟩ := T.d_InvalidAnswer_init
  exact ⟨⟨_, fd, exT T (i := 18) rfl, T.g_InvalidAnswer, fn_InvalidAnswer_init T F, F.kbindsP 2 [] [] (fun _ _ _ _ _ _ us ws h1 h2 => match us, ws, h1, h2 with | [_, _], [], _, _ => rfl)⟩, by decide⟩
theorem mkk_InvalidAnswer (T : Txt K mg) : MakX P w K mg base 1 "InvalidAnswer" (pe_ K) (ca K "InvalidAnswer") ["given"] 0 ["given"] [0] := by
  obtain ⟨fd, F⟩ := T.d_InvalidAnswer_init
  exact ⟨⟨_, fd, exT T (i := 18) rfl, T.g_InvalidAnswer, fn_InvalidAnswer_init T F, F.kbindsP 1 ["given"] [0] (fun _ _ _ _ _ _ us ws h1 h2 => match us, ws, h1, h2 with | [_], [_], _, _ => rfl)⟩, by decide⟩
abbrev N_InvalidPart_init : List Str := ["self", "given"]
theorem sc_InvalidPart_init : FnScope N_InvalidPart_init ["self", "given"] (defScope (inClass (top 23) 0)) := ⟨rfl, rfl, rfl, by decide +kernel, rfl, by decide +kernel, by decide +kernel⟩
theorem fn_InvalidPart_init (T : Txt K mg) {fd : FuncData} (F : FunD K "__init__" "InvalidPart.__init__" (defArgs (inClass (top 23) 0)) (defBody (inClass (top 23) 0)) (defScope (inClass (top 23) 0)) [] [] (He.ma K (He.ga K "InvalidPart") "__init__") fd) : FnOk P w K mg base C8.CX0 1 (ia K "InvalidPart") fd ["self", "given"] (spXI (ca K "InvalidPart") ["given"]) := by
  have TE := exT T (i := 19) (x := "InvalidPart") (fl := ["given"]) rfl
  refine F.ok sc_InvalidPart_init (fun vs H Q E h => by obtain ⟨_, _, rfl, hl, _⟩ := h; simpa using hl) (fun cdv A outer s H vs Q E hr h => ?_)
  obtain ⟨a, us, rfl, hl, ha, h0, h1⟩ := h
  obtain ⟨u1, rfl⟩ : ∃ u1, us = [u1] := match us, hl with | [u1], _ => ⟨u1, rfl⟩
  refine ⟨_, PSs.nox (pss_one (ps_ost (pv 0) (pv 1))), ?_⟩
  refine ⟨_, rfl, _, rfl, a, _, rfl, TE.oex, TE.no _ (by simp), .inl ⟨ha, fun d hd dne => ?_⟩⟩
  exact h1 (by simp) d _ hd dne upd_same ((upd_ne dne).trans upd_same) (fun b n1 n2 => by rw [upd_ne n1, upd_ne n2])
theorem mkp_InvalidPart (T : Txt K mg) : MakX P w K mg base 1 "InvalidPart" (pe_ K) (ca K "InvalidPart") ["given"] 1 [] [] := by
  obtain ⟨fd, F⟩ := T.d_InvalidPart_init
  exact ⟨⟨_, fd, exT T (i := 19) rfl, T.g_InvalidPart, fn_InvalidPart_init T F, F.kbindsP 2 [] [] (fun _ _ _ _ _ _ us ws h1 h2 => match us, ws, h1, h2 with | [_, _], [], _, _ => rfl)⟩, by decide⟩
theorem mkk_InvalidPart (T : Txt K mg) : MakX P w K mg base 1 "InvalidPart" (pe_ K) (ca K "InvalidPart") ["given"] 0 ["given"] [0] := by
  obtain ⟨fd, F⟩ := T.d_InvalidPart_init
  exact ⟨⟨_, fd, exT T (i := 19) rfl, T.g_InvalidPart, fn_InvalidPart_init T F, F.kbindsP 1 ["given"] [0] (fun _ _ _ _ _ _ us ws h1 h2 => match us, ws, h1, h2 with | [_], [_], _, _ => rfl)⟩, by decide⟩
abbrev N_InvalidEdition_init : List Str := ["self", "given"]
theorem sc_InvalidEdition_init : FnScope N_InvalidEdition_init ["self", "given"] (defScope (inClass (top 24) 0)) := ⟨rfl, rfl, rfl, by decide +kernel, rfl, by decide +kernel, by decide +kernel⟩
theorem fn_InvalidEdition_init (T : Txt K mg) {fd : FuncData} (F : FunD K "__init__" "InvalidEdition.__init__" (defArgs (inClass (top 24) 0)) (defBody (inClass (top 24) 0)) (defScope (inClass (top 24) 0)) [] [] (He.ma K (He.ga K "InvalidEdition") "__init__") fd) : FnOk P w K mg base C8.CX0 1 (ia K "InvalidEdition") fd ["self", "given"] (spXI (ca K "InvalidEdition") ["given"]) := by
  have TE := exT T (i := 20) (x := "InvalidEdition") (fl := ["given"]) rfl
  refine F.ok sc_InvalidEdition_init (fun vs H Q E h => by obtain ⟨_, _, rfl, hl, _⟩ := h; simpa using hl) (fun cdv A outer s H vs Q E hr h => ?_)
  obtain ⟨a, us, rfl, hl, ha, h0, h1⟩ := h
  obtain ⟨u1, rfl⟩ : ∃ u1, us = [u1] := match us, hl with | [u1], _ => ⟨u1, rfl⟩
  refine ⟨_, PSs.nox (pss_one (ps_ost (pv 0) (pv 1))), ?_⟩
  refine ⟨_, rfl, _, rfl, a, _, rfl, TE.oex, TE.no _ (by simp), .inl ⟨ha, fun d hd dne => ?_⟩⟩
  exact h1 (by simp) d _ hd dne upd_same ((upd_ne dne).trans upd_same) (fun b n1 n2 => by rw [upd_ne n1, upd_ne n2])
theorem mkp_InvalidEdition (T : Txt K mg) : MakX P w K mg base 1 "InvalidEdition" (pe_ K) (ca K "InvalidEdition") ["given"] 1 [] [] := by
  obtain ⟨fd, F⟩ := T.d_InvalidEdition_init
  exact ⟨⟨_, fd, exT T (i := 20) rfl, T.g_InvalidEdition, fn_InvalidEdition_init T F, F.kbindsP 2 [] [] (fun _ _ _ _ _ _ us ws h1 h2 => match us, ws, h1, h2 with | [_, _], [], _, _ => rfl)⟩, by decide⟩
theorem mkk_InvalidEdition (T : Txt K mg) : MakX P w K mg base 1 "InvalidEdition" (pe_ K) (ca K "InvalidEdition") ["given"] 0 ["given"] [0] := by
  obtain ⟨fd, F⟩ := T.d_InvalidEdition_init
  exact ⟨⟨_, fd, exT T (i := 20) rfl, T.g_InvalidEdition, fn_InvalidEdition_init T F, F.kbindsP 1 ["given"] [0] (fun _ _ _ _ _ _ us ws h1 h2 => match us, ws, h1, h2 with | [_], [_], _, _ => rfl)⟩, by decide⟩
abbrev N_InvalidGame_init : List Str := ["self", "given"]
theorem sc_InvalidGame_init : FnScope N_InvalidGame_init ["self", "given"] (defScope (inClass (top 25) 0)) := ⟨rfl, rfl, rfl, by decide +kernel, rfl, by decide +kernel, by decide +kernel⟩
theorem fn_InvalidGame_init (T : Txt K mg) {fd : FuncData} (F : FunD K "__init__" "InvalidGame.__init__" (defArgs (inClass (top 25) 0)) (defBody (inClass (top 25) 0)) (defScope (inClass (top 25) 0)) [] [] (He.ma K (He.ga K "InvalidGame") "__init__") fd) : FnOk P w K mg base C8.CX0 1 (ia K "InvalidGame") fd ["self", "given"] (spXI (ca K "InvalidGame") ["given"]) := by
  have TE := exT T (i := 21) (x := "InvalidGame") (fl := ["given"]) rfl
  refine F.ok sc_InvalidGame_init (fun vs H Q E h => by obtain ⟨_, _, rfl, hl, _⟩ := h; simpa using hl) (fun cdv A outer s H vs Q E hr h => ?_)
  obtain ⟨a, us, rfl, hl, ha, h0, h1⟩ := h
  obtain ⟨u1, rfl⟩ : ∃ u1, us = [u1] := match us, hl with | [u1], _ => ⟨u1, rfl⟩
  refine ⟨_, PSs.nox (pss_one (ps_ost (pv 0) (pv 1))), ?_⟩
  refine ⟨_, rfl, _, rfl, a, _, rfl, TE.oex, TE.no _ (by simp), .inl ⟨ha, fun d hd dne => ?_⟩⟩
  exact h1 (by simp) d _ hd dne upd_same ((upd_ne dne).trans upd_same) (fun b n1 n2 => by rw [upd_ne n1, upd_ne n2])
theorem mkp_InvalidGame (T : Txt K mg) : MakX P w K mg base 1 "InvalidGame" (pe_ K) (ca K "InvalidGame") ["given"] 1 [] [] := by
  obtain ⟨fd, F⟩ := T.d_InvalidGame_init
  exact ⟨⟨_, fd, exT T (i := 21) rfl, T.g_InvalidGame, fn_InvalidGame_init T F, F.kbindsP 2 [] [] (fun _ _ _ _ _ _ us ws h1 h2 => match us, ws, h1, h2 with | [_, _], [], _, _ => rfl)⟩, by decide⟩
theorem mkk_InvalidGame (T : Txt K mg) : MakX P w K mg base 1 "InvalidGame" (pe_ K) (ca K "InvalidGame") ["given"] 0 ["given"] [0] := by
  obtain ⟨fd, F⟩ := T.d_InvalidGame_init
  exact ⟨⟨_, fd, exT T (i := 21) rfl, T.g_InvalidGame, fn_InvalidGame_init T F, F.kbindsP 1 ["given"] [0] (fun _ _ _ _ _ _ us ws h1 h2 => match us, ws, h1, h2 with | [_], [_], _, _ => rfl)⟩, by decide⟩
abbrev N_InvalidPlan_init : List Str := ["self", "given"]
theorem sc_InvalidPlan_init : FnScope N_InvalidPlan_init ["self", "given"] (defScope (inClass (top 26) 0)) := ⟨rfl, rfl, rfl, by decide +kernel, rfl, by decide +kernel, by decide +kernel⟩
theorem fn_InvalidPlan_init (T : Txt K mg) {fd : FuncData} (F : FunD K "__init__" "InvalidPlan.__init__" (defArgs (inClass (top 26) 0)) (defBody (inClass (top 26) 0)) (defScope (inClass (top 26) 0)) [] [] (He.ma K (He.ga K "InvalidPlan") "__init__") fd) : FnOk P w K mg base C8.CX0 1 (ia K "InvalidPlan") fd ["self", "given"] (spXI (ca K "InvalidPlan") ["given"]) := by
  have TE := exT T (i := 22) (x := "InvalidPlan") (fl := ["given"]) rfl
  refine F.ok sc_InvalidPlan_init (fun vs H Q E h => by obtain ⟨_, _, rfl, hl, _⟩ := h; simpa using hl) (fun cdv A outer s H vs Q E hr h => ?_)
  obtain ⟨a, us, rfl, hl, ha, h0, h1⟩ := h
  obtain ⟨u1, rfl⟩ : ∃ u1, us = [u1] := match us, hl with | [u1], _ => ⟨u1, rfl⟩
  refine ⟨_, PSs.nox (pss_one (ps_ost (pv 0) (pv 1))), ?_⟩
  refine ⟨_, rfl, _, rfl, a, _, rfl, TE.oex, TE.no _ (by simp), .inl ⟨ha, fun d hd dne => ?_⟩⟩
  exact h1 (by simp) d _ hd dne upd_same ((upd_ne dne).trans upd_same) (fun b n1 n2 => by rw [upd_ne n1, upd_ne n2])
theorem mkp_InvalidPlan (T : Txt K mg) : MakX P w K mg base 1 "InvalidPlan" (pe_ K) (ca K "InvalidPlan") ["given"] 1 [] [] := by
  obtain ⟨fd, F⟩ := T.d_InvalidPlan_init
  exact ⟨⟨_, fd, exT T (i := 22) rfl, T.g_InvalidPlan, fn_InvalidPlan_init T F, F.kbindsP 2 [] [] (fun _ _ _ _ _ _ us ws h1 h2 => match us, ws, h1, h2 with | [_, _], [], _, _ => rfl)⟩, by decide⟩
theorem mkk_InvalidPlan (T : Txt K mg) : MakX P w K mg base 1 "InvalidPlan" (pe_ K) (ca K "InvalidPlan") ["given"] 0 ["given"] [0] := by
  obtain ⟨fd, F⟩ := T.d_InvalidPlan_init
  exact ⟨⟨_, fd, exT T (i := 22) rfl, T.g_InvalidPlan, fn_InvalidPlan_init T F, F.kbindsP 1 ["given"] [0] (fun _ _ _ _ _ _ us ws h1 h2 => match us, ws, h1, h2 with | [_], [_], _, _ => rfl)⟩, by decide⟩
abbrev N_InvalidRecord_init : List Str := ["self", "given"]
theorem sc_InvalidRecord_init : FnScope N_InvalidRecord_init ["self", "given"] (defScope (inClass (top 27) 0)) := ⟨rfl, rfl, rfl, by decide +kernel, rfl, by decide +kernel, by decide +kernel⟩
theorem fn_InvalidRecord_init (T : Txt K mg) {fd : FuncData} (F : FunD K "__init__" "InvalidRecord.__init__" (defArgs (inClass (top 27) 0)) (defBody (inClass (top 27) 0)) (defScope (inClass (top 27) 0)) [] [] (He.ma K (He.ga K "InvalidRecord") "__init__") fd) : FnOk P w K mg base C8.CX0 1 (ia K "InvalidRecord") fd ["self", "given"] (spXI (ca K "InvalidRecord") ["given"]) := by
  have TE := exT T (i := 23) (x := "InvalidRecord") (fl := ["given"]) rfl
  refine F.ok sc_InvalidRecord_init (fun vs H Q E h => by obtain ⟨_, _, rfl, hl, _⟩ := h; simpa using hl) (fun cdv A outer s H vs Q E hr h => ?_)
  obtain ⟨a, us, rfl, hl, ha, h0, h1⟩ := h
  obtain ⟨u1, rfl⟩ : ∃ u1, us = [u1] := match us, hl with | [u1], _ => ⟨u1, rfl⟩
  refine ⟨_, PSs.nox (pss_one (ps_ost (pv 0) (pv 1))), ?_⟩
  refine ⟨_, rfl, _, rfl, a, _, rfl, TE.oex, TE.no _ (by simp), .inl ⟨ha, fun d hd dne => ?_⟩⟩
  exact h1 (by simp) d _ hd dne upd_same ((upd_ne dne).trans upd_same) (fun b n1 n2 => by rw [upd_ne n1, upd_ne n2])
theorem mkp_InvalidRecord (T : Txt K mg) : MakX P w K mg base 1 "InvalidRecord" (pe_ K) (ca K "InvalidRecord") ["given"] 1 [] [] := by
  obtain ⟨fd, F⟩ := T.d_InvalidRecord_init
  exact ⟨⟨_, fd, exT T (i := 23) rfl, T.g_InvalidRecord, fn_InvalidRecord_init T F, F.kbindsP 2 [] [] (fun _ _ _ _ _ _ us ws h1 h2 => match us, ws, h1, h2 with | [_, _], [], _, _ => rfl)⟩, by decide⟩
theorem mkk_InvalidRecord (T : Txt K mg) : MakX P w K mg base 1 "InvalidRecord" (pe_ K) (ca K "InvalidRecord") ["given"] 0 ["given"] [0] := by
  obtain ⟨fd, F⟩ := T.d_InvalidRecord_init
  exact ⟨⟨_, fd, exT T (i := 23) rfl, T.g_InvalidRecord, fn_InvalidRecord_init T F, F.kbindsP 1 ["given"] [0] (fun _ _ _ _ _ _ us ws h1 h2 => match us, ws, h1, h2 with | [_], [_], _, _ => rfl)⟩, by decide⟩
abbrev N_InvalidName_init : List Str := ["self", "given"]
theorem sc_InvalidName_init : FnScope N_InvalidName_init ["self", "given"] (defScope (inClass (top 28) 0)) := ⟨rfl, rfl, rfl, by decide +kernel, rfl, by decide +kernel, by decide +kernel⟩
theorem fn_InvalidName_init (T : Txt K mg) {fd : FuncData} (F : FunD K "__init__" "InvalidName.__init__" (defArgs (inClass (top 28) 0)) (defBody (inClass (top 28) 0)) (defScope (inClass (top 28) 0)) [] [] (He.ma K (He.ga K "InvalidName") "__init__") fd) : FnOk P w K mg base C8.CX0 1 (ia K "InvalidName") fd ["self", "given"] (spXI (ca K "InvalidName") ["given"]) := by
  have TE := exT T (i := 24) (x := "InvalidName") (fl := ["given"]) rfl
  refine F.ok sc_InvalidName_init (fun vs H Q E h => by obtain ⟨_, _, rfl, hl, _⟩ := h; simpa using hl) (fun cdv A outer s H vs Q E hr h => ?_)
  obtain ⟨a, us, rfl, hl, ha, h0, h1⟩ := h
  obtain ⟨u1, rfl⟩ : ∃ u1, us = [u1] := match us, hl with | [u1], _ => ⟨u1, rfl⟩
  refine ⟨_, PSs.nox (pss_one (ps_ost (pv 0) (pv 1))), ?_⟩
  refine ⟨_, rfl, _, rfl, a, _, rfl, TE.oex, TE.no _ (by simp), .inl ⟨ha, fun d hd dne => ?_⟩⟩
  exact h1 (by simp) d _ hd dne upd_same ((upd_ne dne).trans upd_same) (fun b n1 n2 => by rw [upd_ne n1, upd_ne n2])
theorem mkp_InvalidName (T : Txt K mg) : MakX P w K mg base 1 "InvalidName" (pe_ K) (ca K "InvalidName") ["given"] 1 [] [] := by
  obtain ⟨fd, F⟩ := T.d_InvalidName_init
  exact ⟨⟨_, fd, exT T (i := 24) rfl, T.g_InvalidName, fn_InvalidName_init T F, F.kbindsP 2 [] [] (fun _ _ _ _ _ _ us ws h1 h2 => match us, ws, h1, h2 with | [_, _], [], _, _ => rfl)⟩, by decide⟩
theorem mkk_InvalidName (T : Txt K mg) : MakX P w K mg base 1 "InvalidName" (pe_ K) (ca K "InvalidName") ["given"] 0 ["given"] [0] := by
  obtain ⟨fd, F⟩ := T.d_InvalidName_init
  exact ⟨⟨_, fd, exT T (i := 24) rfl, T.g_InvalidName, fn_InvalidName_init T F, F.kbindsP 1 ["given"] [0] (fun _ _ _ _ _ _ us ws h1 h2 => match us, ws, h1, h2 with | [_], [_], _, _ => rfl)⟩, by decide⟩
abbrev N_ByZero_init : List Str := ["self"]
theorem sc_ByZero_init : FnScope N_ByZero_init ["self"] (defScope (inClass (top 29) 0)) := ⟨rfl, rfl, rfl, by decide +kernel, rfl, by decide +kernel, by decide +kernel⟩
theorem fn_ByZero_init (T : Txt K mg) {fd : FuncData} (F : FunD K "__init__" "ByZero.__init__" (defArgs (inClass (top 29) 0)) (defBody (inClass (top 29) 0)) (defScope (inClass (top 29) 0)) [] [] (He.ma K (He.ga K "ByZero") "__init__") fd) : FnOk P w K mg base C8.CX0 1 (ia K "ByZero") fd ["self"] (spXI (ca K "ByZero") []) := by
  have TE := exT T (i := 34) (x := "ByZero") (fl := []) rfl
  refine F.ok sc_ByZero_init (fun vs H Q E h => by obtain ⟨_, _, rfl, hl, _⟩ := h; simpa using hl) (fun cdv A outer s H vs Q E hr h => ?_)
  obtain ⟨a, us, rfl, hl, ha, h0, h1⟩ := h
  obtain rfl : us = [] := List.eq_nil_of_length_eq_zero hl
  refine ⟨_, PSs.nox (pss_one ps_pass), ?_⟩
  exact h0 rfl
theorem mkp_ByZero (T : Txt K mg) : MakX P w K mg base 1 "ByZero" (pe_ K) (ca K "ByZero") [] 0 [] [] := by
  obtain ⟨fd, F⟩ := T.d_ByZero_init
  exact ⟨⟨_, fd, exT T (i := 34) rfl, T.g_ByZero, fn_ByZero_init T F, F.kbindsP 1 [] [] (fun _ _ _ _ _ _ us ws h1 h2 => match us, ws, h1, h2 with | [_], [], _, _ => rfl)⟩, by decide⟩
abbrev N_NoSystem_init : List Str := ["self", "line", "column"]
theorem sc_NoSystem_init : FnScope N_NoSystem_init ["self", "line", "column"] (defScope (inClass (top 30) 0)) := ⟨rfl, rfl, rfl, by decide +kernel, rfl, by decide +kernel, by decide +kernel⟩
theorem fn_NoSystem_init (T : Txt K mg) {fd : FuncData} (F : FunD K "__init__" "NoSystem.__init__" (defArgs (inClass (top 30) 0)) (defBody (inClass (top 30) 0)) (defScope (inClass (top 30) 0)) [] [] (He.ma K (He.ga K "NoSystem") "__init__") fd) : FnOk P w K mg base C8.CX0 1 (ia K "NoSystem") fd ["self", "line", "column"] (spXI (ca K "NoSystem") ["line", "column"]) := by
  have TE := exT T (i := 28) (x := "NoSystem") (fl := ["line", "column"]) rfl
  refine F.ok sc_NoSystem_init (fun vs H Q E h => by obtain ⟨_, _, rfl, hl, _⟩ := h; simpa using hl) (fun cdv A outer s H vs Q E hr h => ?_)
  obtain ⟨a, us, rfl, hl, ha, h0, h1⟩ := h
  obtain ⟨u1, u2, rfl⟩ : ∃ u1 u2, us = [u1, u2] := match us, hl with | [u1, u2], _ => ⟨u1, u2, rfl⟩
  refine ⟨_, PSs.nox (pss_cons (ps_ost (pv 0) (pv 1)) (pss_one (ps_ost (pv 0) (pv 2)))), ?_⟩
  refine ⟨_, rfl, _, rfl, a, _, rfl, TE.oex, TE.no _ (by simp), .inl ⟨ha, fun d hd dne => ?_⟩⟩
  refine ⟨_, rfl, _, rfl, a, _, rfl, TE.oex, TE.no _ (by simp), .inr ⟨d, _, upd_same, ((upd_ne dne).trans upd_same), (by simp), ?_⟩⟩
  exact h1 (by simp) d _ hd dne ((upd_ne (Ne.symm dne)).trans upd_same) upd_same (fun b n1 n2 => by rw [upd_ne n2, upd_ne n1, upd_ne n2])
theorem mkp_NoSystem (T : Txt K mg) : MakX P w K mg base 1 "NoSystem" (pe_ K) (ca K "NoSystem") ["line", "column"] 2 [] [] := by
  obtain ⟨fd, F⟩ := T.d_NoSystem_init
  exact ⟨⟨_, fd, exT T (i := 28) rfl, T.g_NoSystem, fn_NoSystem_init T F, F.kbindsP 3 [] [] (fun _ _ _ _ _ _ us ws h1 h2 => match us, ws, h1, h2 with | [_, _, _], [], _, _ => rfl)⟩, by decide⟩
theorem mkk_NoSystem (T : Txt K mg) : MakX P w K mg base 1 "NoSystem" (pe_ K) (ca K "NoSystem") ["line", "column"] 0 ["line", "column"] [0, 1] := by
  obtain ⟨fd, F⟩ := T.d_NoSystem_init
  exact ⟨⟨_, fd, exT T (i := 28) rfl, T.g_NoSystem, fn_NoSystem_init T F, F.kbindsP 1 ["line", "column"] [0, 1] (fun _ _ _ _ _ _ us ws h1 h2 => match us, ws, h1, h2 with | [_], [_, _], _, _ => rfl)⟩, by decide⟩
theorem mkr_NoSystem (T : Txt K mg) : MakX P w K mg base 1 "NoSystem" (pe_ K) (ca K "NoSystem") ["line", "column"] 0 ["column", "line"] [1, 0] := by
  obtain ⟨fd, F⟩ := T.d_NoSystem_init
  exact ⟨⟨_, fd, exT T (i := 28) rfl, T.g_NoSystem, fn_NoSystem_init T F, F.kbindsP 1 ["column", "line"] [1, 0] (fun _ _ _ _ _ _ us ws h1 h2 => match us, ws, h1, h2 with | [_], [_, _], _, _ => rfl)⟩, by decide⟩
theorem mkm_NoSystem (T : Txt K mg) : MakX P w K mg base 1 "NoSystem" (pe_ K) (ca K "NoSystem") ["line", "column"] 1 ["column"] [0] := by
  obtain ⟨fd, F⟩ := T.d_NoSystem_init
  exact ⟨⟨_, fd, exT T (i := 28) rfl, T.g_NoSystem, fn_NoSystem_init T F, F.kbindsP 2 ["column"] [0] (fun _ _ _ _ _ _ us ws h1 h2 => match us, ws, h1, h2 with | [_, _], [_], _, _ => rfl)⟩, by decide⟩
abbrev N_NotFair_init : List Str := ["self", "reason", "unit", "word"]
theorem sc_NotFair_init : FnScope N_NotFair_init ["self", "reason", "unit", "word"] (defScope (inClass (top 31) 0)) := ⟨rfl, rfl, rfl, by decide +kernel, rfl, by decide +kernel, by decide +kernel⟩
theorem fn_NotFair_init (T : Txt K mg) {fd : FuncData} (F : FunD K "__init__" "NotFair.__init__" (defArgs (inClass (top 31) 0)) (defBody (inClass (top 31) 0)) (defScope (inClass (top 31) 0)) [] [] (He.ma K (He.ga K "NotFair") "__init__") fd) : FnOk P w K mg base C8.CX0 1 (ia K "NotFair") fd ["self", "reason", "unit", "word"] (spXI (ca K "NotFair") ["reason", "unit", "word"]) := by
  have TE := exT T (i := 31) (x := "NotFair") (fl := ["reason", "unit", "word"]) rfl
  refine F.ok sc_NotFair_init (fun vs H Q E h => by obtain ⟨_, _, rfl, hl, _⟩ := h; simpa using hl) (fun cdv A outer s H vs Q E hr h => ?_)
  obtain ⟨a, us, rfl, hl, ha, h0, h1⟩ := h
  obtain ⟨u1, u2, u3, rfl⟩ : ∃ u1 u2 u3, us = [u1, u2, u3] := match us, hl with | [u1, u2, u3], _ => ⟨u1, u2, u3, rfl⟩
  refine ⟨_, PSs.nox (pss_cons (ps_ost (pv 0) (pv 1)) (pss_cons (ps_ost (pv 0) (pv 2)) (pss_one (ps_ost (pv 0) (pv 3))))), ?_⟩
  refine ⟨_, rfl, _, rfl, a, _, rfl, TE.oex, TE.no _ (by simp), .inl ⟨ha, fun d hd dne => ?_⟩⟩
  refine ⟨_, rfl, _, rfl, a, _, rfl, TE.oex, TE.no _ (by simp), .inr ⟨d, _, upd_same, ((upd_ne dne).trans upd_same), (by simp), ?_⟩⟩
  refine ⟨_, rfl, _, rfl, a, _, rfl, TE.oex, TE.no _ (by simp), .inr ⟨d, _, ((upd_ne (Ne.symm dne)).trans upd_same), upd_same, (by simp), ?_⟩⟩
  exact h1 (by simp) d _ hd dne ((upd_ne (Ne.symm dne)).trans ((upd_ne (Ne.symm dne)).trans upd_same)) upd_same (fun b n1 n2 => by rw [upd_ne n2, upd_ne n2, upd_ne n1, upd_ne n2])
theorem mkp_NotFair (T : Txt K mg) : MakX P w K mg base 1 "NotFair" (pe_ K) (ca K "NotFair") ["reason", "unit", "word"] 3 [] [] := by
  obtain ⟨fd, F⟩ := T.d_NotFair_init
  exact ⟨⟨_, fd, exT T (i := 31) rfl, T.g_NotFair, fn_NotFair_init T F, F.kbindsP 4 [] [] (fun _ _ _ _ _ _ us ws h1 h2 => match us, ws, h1, h2 with | [_, _, _, _], [], _, _ => rfl)⟩, by decide⟩
theorem mkk_NotFair (T : Txt K mg) : MakX P w K mg base 1 "NotFair" (pe_ K) (ca K "NotFair") ["reason", "unit", "word"] 0 ["reason", "unit", "word"] [0, 1, 2] := by
  obtain ⟨fd, F⟩ := T.d_NotFair_init
  exact ⟨⟨_, fd, exT T (i := 31) rfl, T.g_NotFair, fn_NotFair_init T F, F.kbindsP 1 ["reason", "unit", "word"] [0, 1, 2] (fun _ _ _ _ _ _ us ws h1 h2 => match us, ws, h1, h2 with | [_], [_, _, _], _, _ => rfl)⟩, by decide⟩
theorem mkr_NotFair (T : Txt K mg) : MakX P w K mg base 1 "NotFair" (pe_ K) (ca K "NotFair") ["reason", "unit", "word"] 0 ["word", "unit", "reason"] [2, 1, 0] := by
  obtain ⟨fd, F⟩ := T.d_NotFair_init
  exact ⟨⟨_, fd, exT T (i := 31) rfl, T.g_NotFair, fn_NotFair_init T F, F.kbindsP 1 ["word", "unit", "reason"] [2, 1, 0] (fun _ _ _ _ _ _ us ws h1 h2 => match us, ws, h1, h2 with | [_], [_, _, _], _, _ => rfl)⟩, by decide⟩
theorem mkm_NotFair (T : Txt K mg) : MakX P w K mg base 1 "NotFair" (pe_ K) (ca K "NotFair") ["reason", "unit", "word"] 2 ["word"] [0] := by
  obtain ⟨fd, F⟩ := T.d_NotFair_init
  exact ⟨⟨_, fd, exT T (i := 31) rfl, T.g_NotFair, fn_NotFair_init T F, F.kbindsP 3 ["word"] [0] (fun _ _ _ _ _ _ us ws h1 h2 => match us, ws, h1, h2 with | [_, _, _], [_], _, _ => rfl)⟩, by decide⟩
abbrev N_Outside_init : List Str := ["self", "payoff"]
theorem sc_Outside_init : FnScope N_Outside_init ["self", "payoff"] (defScope (inClass (top 32) 0)) := ⟨rfl, rfl, rfl, by decide +kernel, rfl, by decide +kernel, by decide +kernel⟩
theorem fn_Outside_init (T : Txt K mg) {fd : FuncData} (F : FunD K "__init__" "Outside.__init__" (defArgs (inClass (top 32) 0)) (defBody (inClass (top 32) 0)) (defScope (inClass (top 32) 0)) [] [] (He.ma K (He.ga K "Outside") "__init__") fd) : FnOk P w K mg base C8.CX0 1 (ia K "Outside") fd ["self", "payoff"] (spXI (ca K "Outside") ["payoff"]) := by
  have TE := exT T (i := 25) (x := "Outside") (fl := ["payoff"]) rfl
  refine F.ok sc_Outside_init (fun vs H Q E h => by obtain ⟨_, _, rfl, hl, _⟩ := h; simpa using hl) (fun cdv A outer s H vs Q E hr h => ?_)
  obtain ⟨a, us, rfl, hl, ha, h0, h1⟩ := h
  obtain ⟨u1, rfl⟩ : ∃ u1, us = [u1] := match us, hl with | [u1], _ => ⟨u1, rfl⟩
  refine ⟨_, PSs.nox (pss_one (ps_ost (pv 0) (pv 1))), ?_⟩
  refine ⟨_, rfl, _, rfl, a, _, rfl, TE.oex, TE.no _ (by simp), .inl ⟨ha, fun d hd dne => ?_⟩⟩
  exact h1 (by simp) d _ hd dne upd_same ((upd_ne dne).trans upd_same) (fun b n1 n2 => by rw [upd_ne n1, upd_ne n2])
theorem mkp_Outside (T : Txt K mg) : MakX P w K mg base 1 "Outside" (pe_ K) (ca K "Outside") ["payoff"] 1 [] [] := by
  obtain ⟨fd, F⟩ := T.d_Outside_init
  exact ⟨⟨_, fd, exT T (i := 25) rfl, T.g_Outside, fn_Outside_init T F, F.kbindsP 2 [] [] (fun _ _ _ _ _ _ us ws h1 h2 => match us, ws, h1, h2 with | [_, _], [], _, _ => rfl)⟩, by decide⟩
theorem mkk_Outside (T : Txt K mg) : MakX P w K mg base 1 "Outside" (pe_ K) (ca K "Outside") ["payoff"] 0 ["payoff"] [0] := by
  obtain ⟨fd, F⟩ := T.d_Outside_init
  exact ⟨⟨_, fd, exT T (i := 25) rfl, T.g_Outside, fn_Outside_init T F, F.kbindsP 1 ["payoff"] [0] (fun _ _ _ _ _ _ us ws h1 h2 => match us, ws, h1, h2 with | [_], [_], _, _ => rfl)⟩, by decide⟩
abbrev N_NotBrought_init : List Str := ["self", "payoff", "table"]
theorem sc_NotBrought_init : FnScope N_NotBrought_init ["self", "payoff", "table"] (defScope (inClass (top 33) 0)) := ⟨rfl, rfl, rfl, by decide +kernel, rfl, by decide +kernel, by decide +kernel⟩
theorem fn_NotBrought_init (T : Txt K mg) {fd : FuncData} (F : FunD K "__init__" "NotBrought.__init__" (defArgs (inClass (top 33) 0)) (defBody (inClass (top 33) 0)) (defScope (inClass (top 33) 0)) [] [] (He.ma K (He.ga K "NotBrought") "__init__") fd) : FnOk P w K mg base C8.CX0 1 (ia K "NotBrought") fd ["self", "payoff", "table"] (spXI (ca K "NotBrought") ["payoff", "table"]) := by
  have TE := exT T (i := 29) (x := "NotBrought") (fl := ["payoff", "table"]) rfl
  refine F.ok sc_NotBrought_init (fun vs H Q E h => by obtain ⟨_, _, rfl, hl, _⟩ := h; simpa using hl) (fun cdv A outer s H vs Q E hr h => ?_)
  obtain ⟨a, us, rfl, hl, ha, h0, h1⟩ := h
  obtain ⟨u1, u2, rfl⟩ : ∃ u1 u2, us = [u1, u2] := match us, hl with | [u1, u2], _ => ⟨u1, u2, rfl⟩
  refine ⟨_, PSs.nox (pss_cons (ps_ost (pv 0) (pv 1)) (pss_one (ps_ost (pv 0) (pv 2)))), ?_⟩
  refine ⟨_, rfl, _, rfl, a, _, rfl, TE.oex, TE.no _ (by simp), .inl ⟨ha, fun d hd dne => ?_⟩⟩
  refine ⟨_, rfl, _, rfl, a, _, rfl, TE.oex, TE.no _ (by simp), .inr ⟨d, _, upd_same, ((upd_ne dne).trans upd_same), (by simp), ?_⟩⟩
  exact h1 (by simp) d _ hd dne ((upd_ne (Ne.symm dne)).trans upd_same) upd_same (fun b n1 n2 => by rw [upd_ne n2, upd_ne n1, upd_ne n2])
theorem mkp_NotBrought (T : Txt K mg) : MakX P w K mg base 1 "NotBrought" (pe_ K) (ca K "NotBrought") ["payoff", "table"] 2 [] [] := by
  obtain ⟨fd, F⟩ := T.d_NotBrought_init
  exact ⟨⟨_, fd, exT T (i := 29) rfl, T.g_NotBrought, fn_NotBrought_init T F, F.kbindsP 3 [] [] (fun _ _ _ _ _ _ us ws h1 h2 => match us, ws, h1, h2 with | [_, _, _], [], _, _ => rfl)⟩, by decide⟩
theorem mkk_NotBrought (T : Txt K mg) : MakX P w K mg base 1 "NotBrought" (pe_ K) (ca K "NotBrought") ["payoff", "table"] 0 ["payoff", "table"] [0, 1] := by
  obtain ⟨fd, F⟩ := T.d_NotBrought_init
  exact ⟨⟨_, fd, exT T (i := 29) rfl, T.g_NotBrought, fn_NotBrought_init T F, F.kbindsP 1 ["payoff", "table"] [0, 1] (fun _ _ _ _ _ _ us ws h1 h2 => match us, ws, h1, h2 with | [_], [_, _], _, _ => rfl)⟩, by decide⟩
theorem mkr_NotBrought (T : Txt K mg) : MakX P w K mg base 1 "NotBrought" (pe_ K) (ca K "NotBrought") ["payoff", "table"] 0 ["table", "payoff"] [1, 0] := by
  obtain ⟨fd, F⟩ := T.d_NotBrought_init
  exact ⟨⟨_, fd, exT T (i := 29) rfl, T.g_NotBrought, fn_NotBrought_init T F, F.kbindsP 1 ["table", "payoff"] [1, 0] (fun _ _ _ _ _ _ us ws h1 h2 => match us, ws, h1, h2 with | [_], [_, _], _, _ => rfl)⟩, by decide⟩
theorem mkm_NotBrought (T : Txt K mg) : MakX P w K mg base 1 "NotBrought" (pe_ K) (ca K "NotBrought") ["payoff", "table"] 1 ["table"] [0] := by
  obtain ⟨fd, F⟩ := T.d_NotBrought_init
  exact ⟨⟨_, fd, exT T (i := 29) rfl, T.g_NotBrought, fn_NotBrought_init T F, F.kbindsP 2 ["table"] [0] (fun _ _ _ _ _ _ us ws h1 h2 => match us, ws, h1, h2 with | [_, _], [_], _, _ => rfl)⟩, by decide⟩
abbrev N_TooMany_init : List Str := ["self", "count"]
theorem sc_TooMany_init : FnScope N_TooMany_init ["self", "count"] (defScope (inClass (top 34) 0)) := ⟨rfl, rfl, rfl, by decide +kernel, rfl, by decide +kernel, by decide +kernel⟩
theorem fn_TooMany_init (T : Txt K mg) {fd : FuncData} (F : FunD K "__init__" "TooMany.__init__" (defArgs (inClass (top 34) 0)) (defBody (inClass (top 34) 0)) (defScope (inClass (top 34) 0)) [] [] (He.ma K (He.ga K "TooMany") "__init__") fd) : FnOk P w K mg base C8.CX0 1 (ia K "TooMany") fd ["self", "count"] (spXI (ca K "TooMany") ["count"]) := by
  have TE := exT T (i := 26) (x := "TooMany") (fl := ["count"]) rfl
  refine F.ok sc_TooMany_init (fun vs H Q E h => by obtain ⟨_, _, rfl, hl, _⟩ := h; simpa using hl) (fun cdv A outer s H vs Q E hr h => ?_)
  obtain ⟨a, us, rfl, hl, ha, h0, h1⟩ := h
  obtain ⟨u1, rfl⟩ : ∃ u1, us = [u1] := match us, hl with | [u1], _ => ⟨u1, rfl⟩
  refine ⟨_, PSs.nox (pss_one (ps_ost (pv 0) (pv 1))), ?_⟩
  refine ⟨_, rfl, _, rfl, a, _, rfl, TE.oex, TE.no _ (by simp), .inl ⟨ha, fun d hd dne => ?_⟩⟩
  exact h1 (by simp) d _ hd dne upd_same ((upd_ne dne).trans upd_same) (fun b n1 n2 => by rw [upd_ne n1, upd_ne n2])
theorem mkp_TooMany (T : Txt K mg) : MakX P w K mg base 1 "TooMany" (pe_ K) (ca K "TooMany") ["count"] 1 [] [] := by
  obtain ⟨fd, F⟩ := T.d_TooMany_init
  exact ⟨⟨_, fd, exT T (i := 26) rfl, T.g_TooMany, fn_TooMany_init T F, F.kbindsP 2 [] [] (fun _ _ _ _ _ _ us ws h1 h2 => match us, ws, h1, h2 with | [_, _], [], _, _ => rfl)⟩, by decide⟩
theorem mkk_TooMany (T : Txt K mg) : MakX P w K mg base 1 "TooMany" (pe_ K) (ca K "TooMany") ["count"] 0 ["count"] [0] := by
  obtain ⟨fd, F⟩ := T.d_TooMany_init
  exact ⟨⟨_, fd, exT T (i := 26) rfl, T.g_TooMany, fn_TooMany_init T F, F.kbindsP 1 ["count"] [0] (fun _ _ _ _ _ _ us ws h1 h2 => match us, ws, h1, h2 with | [_], [_], _, _ => rfl)⟩, by decide⟩
abbrev N_TooRich_init : List Str := ["self", "unit", "store", "count"]
theorem sc_TooRich_init : FnScope N_TooRich_init ["self", "unit", "store", "count"] (defScope (inClass (top 35) 0)) := ⟨rfl, rfl, rfl, by decide +kernel, rfl, by decide +kernel, by decide +kernel⟩
theorem fn_TooRich_init (T : Txt K mg) {fd : FuncData} (F : FunD K "__init__" "TooRich.__init__" (defArgs (inClass (top 35) 0)) (defBody (inClass (top 35) 0)) (defScope (inClass (top 35) 0)) [] [] (He.ma K (He.ga K "TooRich") "__init__") fd) : FnOk P w K mg base C8.CX0 1 (ia K "TooRich") fd ["self", "unit", "store", "count"] (spXI (ca K "TooRich") ["unit", "store", "count"]) := by
  have TE := exT T (i := 32) (x := "TooRich") (fl := ["unit", "store", "count"]) rfl
  refine F.ok sc_TooRich_init (fun vs H Q E h => by obtain ⟨_, _, rfl, hl, _⟩ := h; simpa using hl) (fun cdv A outer s H vs Q E hr h => ?_)
  obtain ⟨a, us, rfl, hl, ha, h0, h1⟩ := h
  obtain ⟨u1, u2, u3, rfl⟩ : ∃ u1 u2 u3, us = [u1, u2, u3] := match us, hl with | [u1, u2, u3], _ => ⟨u1, u2, u3, rfl⟩
  refine ⟨_, PSs.nox (pss_cons (ps_ost (pv 0) (pv 1)) (pss_cons (ps_ost (pv 0) (pv 2)) (pss_one (ps_ost (pv 0) (pv 3))))), ?_⟩
  refine ⟨_, rfl, _, rfl, a, _, rfl, TE.oex, TE.no _ (by simp), .inl ⟨ha, fun d hd dne => ?_⟩⟩
  refine ⟨_, rfl, _, rfl, a, _, rfl, TE.oex, TE.no _ (by simp), .inr ⟨d, _, upd_same, ((upd_ne dne).trans upd_same), (by simp), ?_⟩⟩
  refine ⟨_, rfl, _, rfl, a, _, rfl, TE.oex, TE.no _ (by simp), .inr ⟨d, _, ((upd_ne (Ne.symm dne)).trans upd_same), upd_same, (by simp), ?_⟩⟩
  exact h1 (by simp) d _ hd dne ((upd_ne (Ne.symm dne)).trans ((upd_ne (Ne.symm dne)).trans upd_same)) upd_same (fun b n1 n2 => by rw [upd_ne n2, upd_ne n2, upd_ne n1, upd_ne n2])
theorem mkp_TooRich (T : Txt K mg) : MakX P w K mg base 1 "TooRich" (pe_ K) (ca K "TooRich") ["unit", "store", "count"] 3 [] [] := by
  obtain ⟨fd, F⟩ := T.d_TooRich_init
  exact ⟨⟨_, fd, exT T (i := 32) rfl, T.g_TooRich, fn_TooRich_init T F, F.kbindsP 4 [] [] (fun _ _ _ _ _ _ us ws h1 h2 => match us, ws, h1, h2 with | [_, _, _, _], [], _, _ => rfl)⟩, by decide⟩
theorem mkk_TooRich (T : Txt K mg) : MakX P w K mg base 1 "TooRich" (pe_ K) (ca K "TooRich") ["unit", "store", "count"] 0 ["unit", "store", "count"] [0, 1, 2] := by
  obtain ⟨fd, F⟩ := T.d_TooRich_init
  exact ⟨⟨_, fd, exT T (i := 32) rfl, T.g_TooRich, fn_TooRich_init T F, F.kbindsP 1 ["unit", "store", "count"] [0, 1, 2] (fun _ _ _ _ _ _ us ws h1 h2 => match us, ws, h1, h2 with | [_], [_, _, _], _, _ => rfl)⟩, by decide⟩
theorem mkr_TooRich (T : Txt K mg) : MakX P w K mg base 1 "TooRich" (pe_ K) (ca K "TooRich") ["unit", "store", "count"] 0 ["count", "store", "unit"] [2, 1, 0] := by
  obtain ⟨fd, F⟩ := T.d_TooRich_init
  exact ⟨⟨_, fd, exT T (i := 32) rfl, T.g_TooRich, fn_TooRich_init T F, F.kbindsP 1 ["count", "store", "unit"] [2, 1, 0] (fun _ _ _ _ _ _ us ws h1 h2 => match us, ws, h1, h2 with | [_], [_, _, _], _, _ => rfl)⟩, by decide⟩
theorem mkm_TooRich (T : Txt K mg) : MakX P w K mg base 1 "TooRich" (pe_ K) (ca K "TooRich") ["unit", "store", "count"] 1 ["count", "store"] [1, 0] := by
  obtain ⟨fd, F⟩ := T.d_TooRich_init
  exact ⟨⟨_, fd, exT T (i := 32) rfl, T.g_TooRich, fn_TooRich_init T F, F.kbindsP 2 ["count", "store"] [1, 0] (fun _ _ _ _ _ _ us ws h1 h2 => match us, ws, h1, h2 with | [_, _], [_, _], _, _ => rfl)⟩, by decide⟩
abbrev N_TooGreat_init : List Str := ["self", "unit", "store"]
theorem sc_TooGreat_init : FnScope N_TooGreat_init ["self", "unit", "store"] (defScope (inClass (top 36) 0)) := ⟨rfl, rfl, rfl, by decide +kernel, rfl, by decide +kernel, by decide +kernel⟩
theorem fn_TooGreat_init (T : Txt K mg) {fd : FuncData} (F : FunD K "__init__" "TooGreat.__init__" (defArgs (inClass (top 36) 0)) (defBody (inClass (top 36) 0)) (defScope (inClass (top 36) 0)) [] [] (He.ma K (He.ga K "TooGreat") "__init__") fd) : FnOk P w K mg base C8.CX0 1 (ia K "TooGreat") fd ["self", "unit", "store"] (spXI (ca K "TooGreat") ["unit", "store"]) := by
  have TE := exT T (i := 30) (x := "TooGreat") (fl := ["unit", "store"]) rfl
  refine F.ok sc_TooGreat_init (fun vs H Q E h => by obtain ⟨_, _, rfl, hl, _⟩ := h; simpa using hl) (fun cdv A outer s H vs Q E hr h => ?_)
  obtain ⟨a, us, rfl, hl, ha, h0, h1⟩ := h
  obtain ⟨u1, u2, rfl⟩ : ∃ u1 u2, us = [u1, u2] := match us, hl with | [u1, u2], _ => ⟨u1, u2, rfl⟩
  refine ⟨_, PSs.nox (pss_cons (ps_ost (pv 0) (pv 1)) (pss_one (ps_ost (pv 0) (pv 2)))), ?_⟩
  refine ⟨_, rfl, _, rfl, a, _, rfl, TE.oex, TE.no _ (by simp), .inl ⟨ha, fun d hd dne => ?_⟩⟩
  refine ⟨_, rfl, _, rfl, a, _, rfl, TE.oex, TE.no _ (by simp), .inr ⟨d, _, upd_same, ((upd_ne dne).trans upd_same), (by simp), ?_⟩⟩
  exact h1 (by simp) d _ hd dne ((upd_ne (Ne.symm dne)).trans upd_same) upd_same (fun b n1 n2 => by rw [upd_ne n2, upd_ne n1, upd_ne n2])
theorem mkp_TooGreat (T : Txt K mg) : MakX P w K mg base 1 "TooGreat" (pe_ K) (ca K "TooGreat") ["unit", "store"] 2 [] [] := by
  obtain ⟨fd, F⟩ := T.d_TooGreat_init
  exact ⟨⟨_, fd, exT T (i := 30) rfl, T.g_TooGreat, fn_TooGreat_init T F, F.kbindsP 3 [] [] (fun _ _ _ _ _ _ us ws h1 h2 => match us, ws, h1, h2 with | [_, _, _], [], _, _ => rfl)⟩, by decide⟩
theorem mkk_TooGreat (T : Txt K mg) : MakX P w K mg base 1 "TooGreat" (pe_ K) (ca K "TooGreat") ["unit", "store"] 0 ["unit", "store"] [0, 1] := by
  obtain ⟨fd, F⟩ := T.d_TooGreat_init
  exact ⟨⟨_, fd, exT T (i := 30) rfl, T.g_TooGreat, fn_TooGreat_init T F, F.kbindsP 1 ["unit", "store"] [0, 1] (fun _ _ _ _ _ _ us ws h1 h2 => match us, ws, h1, h2 with | [_], [_, _], _, _ => rfl)⟩, by decide⟩
theorem mkr_TooGreat (T : Txt K mg) : MakX P w K mg base 1 "TooGreat" (pe_ K) (ca K "TooGreat") ["unit", "store"] 0 ["store", "unit"] [1, 0] := by
  obtain ⟨fd, F⟩ := T.d_TooGreat_init
  exact ⟨⟨_, fd, exT T (i := 30) rfl, T.g_TooGreat, fn_TooGreat_init T F, F.kbindsP 1 ["store", "unit"] [1, 0] (fun _ _ _ _ _ _ us ws h1 h2 => match us, ws, h1, h2 with | [_], [_, _], _, _ => rfl)⟩, by decide⟩
theorem mkm_TooGreat (T : Txt K mg) : MakX P w K mg base 1 "TooGreat" (pe_ K) (ca K "TooGreat") ["unit", "store"] 1 ["store"] [0] := by
  obtain ⟨fd, F⟩ := T.d_TooGreat_init
  exact ⟨⟨_, fd, exT T (i := 30) rfl, T.g_TooGreat, fn_TooGreat_init T F, F.kbindsP 2 ["store"] [0] (fun _ _ _ _ _ _ us ws h1 h2 => match us, ws, h1, h2 with | [_, _], [_], _, _ => rfl)⟩, by decide⟩
abbrev N_NotLet_init : List Str := ["self", "store", "pick", "payoff", "table"]
theorem sc_NotLet_init : FnScope N_NotLet_init ["self", "store", "pick", "payoff", "table"] (defScope (inClass (top 37) 0)) := ⟨rfl, rfl, rfl, by decide +kernel, rfl, by decide +kernel, by decide +kernel⟩
theorem fn_NotLet_init (T : Txt K mg) {fd : FuncData} (F : FunD K "__init__" "NotLet.__init__" (defArgs (inClass (top 37) 0)) (defBody (inClass (top 37) 0)) (defScope (inClass (top 37) 0)) [] [] (He.ma K (He.ga K "NotLet") "__init__") fd) : FnOk P w K mg base C8.CX0 1 (ia K "NotLet") fd ["self", "store", "pick", "payoff", "table"] (spXI (ca K "NotLet") ["store", "pick", "payoff", "table"]) := by
  have TE := exT T (i := 33) (x := "NotLet") (fl := ["store", "pick", "payoff", "table"]) rfl
  refine F.ok sc_NotLet_init (fun vs H Q E h => by obtain ⟨_, _, rfl, hl, _⟩ := h; simpa using hl) (fun cdv A outer s H vs Q E hr h => ?_)
  obtain ⟨a, us, rfl, hl, ha, h0, h1⟩ := h
  obtain ⟨u1, u2, u3, u4, rfl⟩ : ∃ u1 u2 u3 u4, us = [u1, u2, u3, u4] := match us, hl with | [u1, u2, u3, u4], _ => ⟨u1, u2, u3, u4, rfl⟩
  refine ⟨_, PSs.nox (pss_cons (ps_ost (pv 0) (pv 1)) (pss_cons (ps_ost (pv 0) (pv 2)) (pss_cons (ps_ost (pv 0) (pv 3)) (pss_one (ps_ost (pv 0) (pv 4)))))), ?_⟩
  refine ⟨_, rfl, _, rfl, a, _, rfl, TE.oex, TE.no _ (by simp), .inl ⟨ha, fun d hd dne => ?_⟩⟩
  refine ⟨_, rfl, _, rfl, a, _, rfl, TE.oex, TE.no _ (by simp), .inr ⟨d, _, upd_same, ((upd_ne dne).trans upd_same), (by simp), ?_⟩⟩
  refine ⟨_, rfl, _, rfl, a, _, rfl, TE.oex, TE.no _ (by simp), .inr ⟨d, _, ((upd_ne (Ne.symm dne)).trans upd_same), upd_same, (by simp), ?_⟩⟩
  refine ⟨_, rfl, _, rfl, a, _, rfl, TE.oex, TE.no _ (by simp), .inr ⟨d, _, ((upd_ne (Ne.symm dne)).trans ((upd_ne (Ne.symm dne)).trans upd_same)), upd_same, (by simp), ?_⟩⟩
  exact h1 (by simp) d _ hd dne ((upd_ne (Ne.symm dne)).trans ((upd_ne (Ne.symm dne)).trans ((upd_ne (Ne.symm dne)).trans upd_same))) upd_same (fun b n1 n2 => by rw [upd_ne n2, upd_ne n2, upd_ne n2, upd_ne n1, upd_ne n2])
theorem mkp_NotLet (T : Txt K mg) : MakX P w K mg base 1 "NotLet" (pe_ K) (ca K "NotLet") ["store", "pick", "payoff", "table"] 4 [] [] := by
  obtain ⟨fd, F⟩ := T.d_NotLet_init
  exact ⟨⟨_, fd, exT T (i := 33) rfl, T.g_NotLet, fn_NotLet_init T F, F.kbindsP 5 [] [] (fun _ _ _ _ _ _ us ws h1 h2 => match us, ws, h1, h2 with | [_, _, _, _, _], [], _, _ => rfl)⟩, by decide⟩
theorem mkk_NotLet (T : Txt K mg) : MakX P w K mg base 1 "NotLet" (pe_ K) (ca K "NotLet") ["store", "pick", "payoff", "table"] 0 ["store", "pick", "payoff", "table"] [0, 1, 2, 3] := by
  obtain ⟨fd, F⟩ := T.d_NotLet_init
  exact ⟨⟨_, fd, exT T (i := 33) rfl, T.g_NotLet, fn_NotLet_init T F, F.kbindsP 1 ["store", "pick", "payoff", "table"] [0, 1, 2, 3] (fun _ _ _ _ _ _ us ws h1 h2 => match us, ws, h1, h2 with | [_], [_, _, _, _], _, _ => rfl)⟩, by decide⟩
theorem mkr_NotLet (T : Txt K mg) : MakX P w K mg base 1 "NotLet" (pe_ K) (ca K "NotLet") ["store", "pick", "payoff", "table"] 0 ["table", "payoff", "pick", "store"] [3, 2, 1, 0] := by
  obtain ⟨fd, F⟩ := T.d_NotLet_init
  exact ⟨⟨_, fd, exT T (i := 33) rfl, T.g_NotLet, fn_NotLet_init T F, F.kbindsP 1 ["table", "payoff", "pick", "store"] [3, 2, 1, 0] (fun _ _ _ _ _ _ us ws h1 h2 => match us, ws, h1, h2 with | [_], [_, _, _, _], _, _ => rfl)⟩, by decide⟩
theorem mkm_NotLet (T : Txt K mg) : MakX P w K mg base 1 "NotLet" (pe_ K) (ca K "NotLet") ["store", "pick", "payoff", "table"] 2 ["table", "payoff"] [1, 0] := by
  obtain ⟨fd, F⟩ := T.d_NotLet_init
  exact ⟨⟨_, fd, exT T (i := 33) rfl, T.g_NotLet, fn_NotLet_init T F, F.kbindsP 3 ["table", "payoff"] [1, 0] (fun _ _ _ _ _ _ us ws h1 h2 => match us, ws, h1, h2 with | [_, _, _], [_, _], _, _ => rfl)⟩, by decide⟩
theorem mkq_NotLet (T : Txt K mg) : MakX P w K mg base 1 "NotLet" (pe_ K) (ca K "NotLet") ["store", "pick", "payoff", "table"] 1 ["pick", "payoff", "table"] [0, 1, 2] := by
  obtain ⟨fd, F⟩ := T.d_NotLet_init
  exact ⟨⟨_, fd, exT T (i := 33) rfl, T.g_NotLet, fn_NotLet_init T F, F.kbindsP 2 ["pick", "payoff", "table"] [0, 1, 2] (fun _ _ _ _ _ _ us ws h1 h2 => match us, ws, h1, h2 with | [_, _], [_, _, _], _, _ => rfl)⟩, by decide⟩
abbrev N_NotAsked_init : List Str := ["self"]
theorem sc_NotAsked_init : FnScope N_NotAsked_init ["self"] (defScope (inClass (top 38) 0)) := ⟨rfl, rfl, rfl, by decide +kernel, rfl, by decide +kernel, by decide +kernel⟩
theorem fn_NotAsked_init (T : Txt K mg) {fd : FuncData} (F : FunD K "__init__" "NotAsked.__init__" (defArgs (inClass (top 38) 0)) (defBody (inClass (top 38) 0)) (defScope (inClass (top 38) 0)) [] [] (He.ma K (He.ga K "NotAsked") "__init__") fd) : FnOk P w K mg base C8.CX0 1 (ia K "NotAsked") fd ["self"] (spXI (ca K "NotAsked") []) := by
  have TE := exT T (i := 35) (x := "NotAsked") (fl := []) rfl
  refine F.ok sc_NotAsked_init (fun vs H Q E h => by obtain ⟨_, _, rfl, hl, _⟩ := h; simpa using hl) (fun cdv A outer s H vs Q E hr h => ?_)
  obtain ⟨a, us, rfl, hl, ha, h0, h1⟩ := h
  obtain rfl : us = [] := List.eq_nil_of_length_eq_zero hl
  refine ⟨_, PSs.nox (pss_one ps_pass), ?_⟩
  exact h0 rfl
theorem mkp_NotAsked (T : Txt K mg) : MakX P w K mg base 1 "NotAsked" (pe_ K) (ca K "NotAsked") [] 0 [] [] := by
  obtain ⟨fd, F⟩ := T.d_NotAsked_init
  exact ⟨⟨_, fd, exT T (i := 35) rfl, T.g_NotAsked, fn_NotAsked_init T F, F.kbindsP 1 [] [] (fun _ _ _ _ _ _ us ws h1 h2 => match us, ws, h1, h2 with | [_], [], _, _ => rfl)⟩, by decide⟩
abbrev N_NoThing_init : List Str := ["self", "name"]
theorem sc_NoThing_init : FnScope N_NoThing_init ["self", "name"] (defScope (inClass (top 39) 0)) := ⟨rfl, rfl, rfl, by decide +kernel, rfl, by decide +kernel, by decide +kernel⟩
theorem fn_NoThing_init (T : Txt K mg) {fd : FuncData} (F : FunD K "__init__" "NoThing.__init__" (defArgs (inClass (top 39) 0)) (defBody (inClass (top 39) 0)) (defScope (inClass (top 39) 0)) [] [] (He.ma K (He.ga K "NoThing") "__init__") fd) : FnOk P w K mg base C8.CX0 1 (ia K "NoThing") fd ["self", "name"] (spXI (ca K "NoThing") ["name"]) := by
  have TE := exT T (i := 27) (x := "NoThing") (fl := ["name"]) rfl
  refine F.ok sc_NoThing_init (fun vs H Q E h => by obtain ⟨_, _, rfl, hl, _⟩ := h; simpa using hl) (fun cdv A outer s H vs Q E hr h => ?_)
  obtain ⟨a, us, rfl, hl, ha, h0, h1⟩ := h
  obtain ⟨u1, rfl⟩ : ∃ u1, us = [u1] := match us, hl with | [u1], _ => ⟨u1, rfl⟩
  refine ⟨_, PSs.nox (pss_one (ps_ost (pv 0) (pv 1))), ?_⟩
  refine ⟨_, rfl, _, rfl, a, _, rfl, TE.oex, TE.no _ (by simp), .inl ⟨ha, fun d hd dne => ?_⟩⟩
  exact h1 (by simp) d _ hd dne upd_same ((upd_ne dne).trans upd_same) (fun b n1 n2 => by rw [upd_ne n1, upd_ne n2])
theorem mkp_NoThing (T : Txt K mg) : MakX P w K mg base 1 "NoThing" (pe_ K) (ca K "NoThing") ["name"] 1 [] [] := by
  obtain ⟨fd, F⟩ := T.d_NoThing_init
  exact ⟨⟨_, fd, exT T (i := 27) rfl, T.g_NoThing, fn_NoThing_init T F, F.kbindsP 2 [] [] (fun _ _ _ _ _ _ us ws h1 h2 => match us, ws, h1, h2 with | [_, _], [], _, _ => rfl)⟩, by decide⟩
theorem mkk_NoThing (T : Txt K mg) : MakX P w K mg base 1 "NoThing" (pe_ K) (ca K "NoThing") ["name"] 0 ["name"] [0] := by
  obtain ⟨fd, F⟩ := T.d_NoThing_init
  exact ⟨⟨_, fd, exT T (i := 27) rfl, T.g_NoThing, fn_NoThing_init T F, F.kbindsP 1 ["name"] [0] (fun _ _ _ _ _ _ us ws h1 h2 => match us, ws, h1, h2 with | [_], [_], _, _ => rfl)⟩, by decide⟩
abbrev N_NothingToUndo_init : List Str := ["self"]
theorem sc_NothingToUndo_init : FnScope N_NothingToUndo_init ["self"] (defScope (inClass (top 40) 0)) := ⟨rfl, rfl, rfl, by decide +kernel, rfl, by decide +kernel, by decide +kernel⟩
theorem fn_NothingToUndo_init (T : Txt K mg) {fd : FuncData} (F : FunD K "__init__" "NothingToUndo.__init__" (defArgs (inClass (top 40) 0)) (defBody (inClass (top 40) 0)) (defScope (inClass (top 40) 0)) [] [] (He.ma K (He.ga K "NothingToUndo") "__init__") fd) : FnOk P w K mg base C8.CX0 1 (ia K "NothingToUndo") fd ["self"] (spXI (ca K "NothingToUndo") []) := by
  have TE := exT T (i := 36) (x := "NothingToUndo") (fl := []) rfl
  refine F.ok sc_NothingToUndo_init (fun vs H Q E h => by obtain ⟨_, _, rfl, hl, _⟩ := h; simpa using hl) (fun cdv A outer s H vs Q E hr h => ?_)
  obtain ⟨a, us, rfl, hl, ha, h0, h1⟩ := h
  obtain rfl : us = [] := List.eq_nil_of_length_eq_zero hl
  refine ⟨_, PSs.nox (pss_one ps_pass), ?_⟩
  exact h0 rfl
theorem mkp_NothingToUndo (T : Txt K mg) : MakX P w K mg base 1 "NothingToUndo" (pe_ K) (ca K "NothingToUndo") [] 0 [] [] := by
  obtain ⟨fd, F⟩ := T.d_NothingToUndo_init
  exact ⟨⟨_, fd, exT T (i := 36) rfl, T.g_NothingToUndo, fn_NothingToUndo_init T F, F.kbindsP 1 [] [] (fun _ _ _ _ _ _ us ws h1 h2 => match us, ws, h1, h2 with | [_], [], _, _ => rfl)⟩, by decide⟩
end
end K00
namespace K00
open PySem PySem.Spec PyProof.Rows L2 C8
section
variable {P : Program} {w : World} {K : PySem.W.Frag} {mg : Str → Option Value} {base : Heap}
/-- at a: an error of the class e, its fields us -/
def XA (K : PySem.W.Frag) (H : Hp) (e : Str × List Str) (us : List V) (a : Addr) : Prop := ∀ pn, XV pn H a (ca K e.1) (e.2.zip us).reverse
theorem XA.mono {K : PySem.W.Frag} {H H' : Hp} {e : Str × List Str} {us : List V} {a : Addr} (h : XA K H e us a) (g : Evl.Ex H H') : XA K H' e us a := fun pn => (h pn).mono g
def exsA : List (Str × List Str) := [e1 "InvalidNumber" ["given"], e1 "InvalidLots" ["given"], e1 "InvalidLot" ["given"], e1 "InvalidPayoff" ["given"], e1 "InvalidNames" ["given"], e1 "InvalidStore" ["given"], e1 "InvalidValues" ["given"], e1 "InvalidText" ["given"], e1 "InvalidSystem" ["given"], e1 "InvalidUnit" ["given"], e1 "InvalidBody" ["given"], e1 "InvalidSteps" ["given"], e1 "InvalidSummaries" ["given"], e1 "InvalidRow" ["given"], e1 "InvalidPick" ["given"], e1 "InvalidBlend" ["given"], e1 "InvalidCode" ["given"], e1 "InvalidLines" ["given"], e1 "InvalidAnswer" ["given"], e1 "InvalidPart" ["given"], e1 "InvalidEdition" ["given"], e1 "InvalidGame" ["given"], e1 "InvalidPlan" ["given"], e1 "InvalidRecord" ["given"], e1 "InvalidName" ["given"], e1 "Outside" ["payoff"], e1 "TooMany" ["count"], e1 "NoThing" ["name"]]
def exsB : List (Str × List Str) := [e1 "NoSystem" ["line", "column"], e1 "NotBrought" ["payoff", "table"], e1 "TooGreat" ["unit", "store"], e1 "NotFair" ["reason", "unit", "word"], e1 "TooRich" ["unit", "store", "count"], e1 "NotLet" ["store", "pick", "payoff", "table"]]
theorem exsA_at : ∀ i, i < 28 → exsA[i]? = exs[i]? := by decide +kernel
theorem exsB_at : ∀ i, i < 6 → exsB[i]? = exs[28 + i]? := by decide +kernel
def spPlace (K : PySem.W.Frag) : Sp := fun vs H Q _ => ∃ x, vs = [x] ∧ ∀ l as H', Ex H H' → H' l = some (.lst (as.map V.ref)) → Paired (fun e a => XA K H' e [x] a) exsA as → Q (.ref l) H'
abbrev N_l_by_place : List Str := ["_law_thing_here", "_law_found"]
theorem sc_l_by_place : FnScope N_l_by_place ["_law_thing_here"] (defScope (top 63)) := ⟨rfl, rfl, rfl, by decide +kernel, rfl, by decide +kernel, by decide +kernel⟩

theorem ok_l_by_place (T : Txt K mg)  : Cal P w K mg base 3 "_law_by_place" (spPlace K) [] := by
  obtain ⟨fd, F⟩ := T.d__law_by_place
  refine ⟨_, fd, ["_law_thing_here"], [], ?_, T.g__law_by_place, F.kp, F.bindsN fun _ _ _ _ _ _ us hl => match us, hl with | [_], _ => rfl, .nil⟩
  refine F.ok sc_l_by_place (fun vs H Q E h => by obtain ⟨_, rfl, _⟩ := h; rfl) (fun cdv A outer s H vs Q E hr h => ?_)
  have hu := hu_of hr
  refine ⟨_, PSs.nox (pss_cons (ps_set (i := 1) sc_l_by_place.nd rfl (Or.inl rfl) (pe_lst (pa_cons (pe_mkX (mkp_InvalidNumber T) hr (by omega) rfl (by decide) (pa_cons (pv 0) pa_nil)) (pa_cons (pe_mkX (mkp_InvalidLots T) hr (by omega) rfl (by decide) (pa_cons (pv 0) pa_nil)) (pa_cons (pe_mkX (mkp_InvalidLot T) hr (by omega) rfl (by decide) (pa_cons (pv 0) pa_nil)) (pa_cons (pe_mkX (mkp_InvalidPayoff T) hr (by omega) rfl (by decide) (pa_cons (pv 0) pa_nil)) (pa_cons (pe_mkX (mkp_InvalidNames T) hr (by omega) rfl (by decide) (pa_cons (pv 0) pa_nil)) pa_nil)))))))
      (pss_cons (ps_set (i := 1) sc_l_by_place.nd rfl (Or.inl rfl) (pe_op op_cat (pv 1) (pe_lst (pa_cons (pe_mkX (mkp_InvalidStore T) hr (by omega) rfl (by decide) (pa_cons (pv 0) pa_nil)) (pa_cons (pe_mkX (mkp_InvalidValues T) hr (by omega) rfl (by decide) (pa_cons (pv 0) pa_nil)) (pa_cons (pe_mkX (mkp_InvalidText T) hr (by omega) rfl (by decide) (pa_cons (pv 0) pa_nil)) (pa_cons (pe_mkX (mkp_InvalidSystem T) hr (by omega) rfl (by decide) (pa_cons (pv 0) pa_nil)) pa_nil)))))))
      (pss_cons (ps_set (i := 1) sc_l_by_place.nd rfl (Or.inl rfl) (pe_op op_cat (pv 1) (pe_lst (pa_cons (pe_mkX (mkp_InvalidUnit T) hr (by omega) rfl (by decide) (pa_cons (pv 0) pa_nil)) (pa_cons (pe_mkX (mkp_InvalidBody T) hr (by omega) rfl (by decide) (pa_cons (pv 0) pa_nil)) pa_nil)))))
      (pss_cons (ps_set (i := 1) sc_l_by_place.nd rfl (Or.inl rfl) (pe_op op_cat (pv 1) (pe_lst (pa_cons (pe_mkX (mkp_InvalidSteps T) hr (by omega) rfl (by decide) (pa_cons (pv 0) pa_nil)) (pa_cons (pe_mkX (mkp_InvalidSummaries T) hr (by omega) rfl (by decide) (pa_cons (pv 0) pa_nil)) (pa_cons (pe_mkX (mkp_InvalidRow T) hr (by omega) rfl (by decide) (pa_cons (pv 0) pa_nil)) (pa_cons (pe_mkX (mkp_InvalidPick T) hr (by omega) rfl (by decide) (pa_cons (pv 0) pa_nil)) pa_nil)))))))
      (pss_cons (ps_set (i := 1) sc_l_by_place.nd rfl (Or.inl rfl) (pe_op op_cat (pv 1) (pe_lst (pa_cons (pe_mkX (mkp_InvalidBlend T) hr (by omega) rfl (by decide) (pa_cons (pv 0) pa_nil)) (pa_cons (pe_mkX (mkp_InvalidCode T) hr (by omega) rfl (by decide) (pa_cons (pv 0) pa_nil)) (pa_cons (pe_mkX (mkp_InvalidLines T) hr (by omega) rfl (by decide) (pa_cons (pv 0) pa_nil)) (pa_cons (pe_mkX (mkp_InvalidAnswer T) hr (by omega) rfl (by decide) (pa_cons (pv 0) pa_nil)) pa_nil)))))))
      (pss_cons (ps_set (i := 1) sc_l_by_place.nd rfl (Or.inl rfl) (pe_op op_cat (pv 1) (pe_lst (pa_cons (pe_mkX (mkp_InvalidPart T) hr (by omega) rfl (by decide) (pa_cons (pv 0) pa_nil)) (pa_cons (pe_mkX (mkp_InvalidEdition T) hr (by omega) rfl (by decide) (pa_cons (pv 0) pa_nil)) (pa_cons (pe_mkX (mkp_InvalidGame T) hr (by omega) rfl (by decide) (pa_cons (pv 0) pa_nil)) (pa_cons (pe_mkX (mkp_InvalidPlan T) hr (by omega) rfl (by decide) (pa_cons (pv 0) pa_nil)) pa_nil)))))))
      (pss_cons (ps_set (i := 1) sc_l_by_place.nd rfl (Or.inl rfl) (pe_op op_cat (pv 1) (pe_lst (pa_cons (pe_mkX (mkp_InvalidRecord T) hr (by omega) rfl (by decide) (pa_cons (pv 0) pa_nil)) (pa_cons (pe_mkX (mkp_InvalidName T) hr (by omega) rfl (by decide) (pa_cons (pv 0) pa_nil)) pa_nil)))))
      (pss_one (ps_ret (pe_op op_cat (pv 1) (pe_lst (pa_cons (pe_mkX (mkp_Outside T) hr (by omega) rfl (by decide) (pa_cons (pv 0) pa_nil)) (pa_cons (pe_mkX (mkp_TooMany T) hr (by omega) rfl (by decide) (pa_cons (pv 0) pa_nil)) (pa_cons (pe_mkX (mkp_NoThing T) hr (by omega) rfl (by decide) (pa_cons (pv 0) pa_nil)) pa_nil)))))))))))))), ?_⟩
  obtain ⟨x, rfl, hQ⟩ := h
  refine ⟨_, rfl, rfl, rfl, fun a1 H1 n1 e1 x1 d1 => ?_⟩
  refine ⟨_, rfl, rfl, rfl, fun a2 H2 n2 e2 x2 d2 => ?_⟩
  refine ⟨_, rfl, rfl, rfl, fun a3 H3 n3 e3 x3 d3 => ?_⟩
  refine ⟨_, rfl, rfl, rfl, fun a4 H4 n4 e4 x4 d4 => ?_⟩
  refine ⟨_, rfl, rfl, rfl, fun a5 H5 n5 e5 x5 d5 => ?_⟩
  refine ⟨(by show 5 ≤ sizeLine; decide), fun l6 n6 => ?_⟩
  refine ⟨_, rfl, ?_⟩
  refine ⟨_, rfl, rfl, rfl, fun a7 H7 n7 e7 x7 d7 => ?_⟩
  refine ⟨_, rfl, rfl, rfl, fun a8 H8 n8 e8 x8 d8 => ?_⟩
  refine ⟨_, rfl, rfl, rfl, fun a9 H9 n9 e9 x9 d9 => ?_⟩
  refine ⟨_, rfl, rfl, rfl, fun a10 H10 n10 e10 x10 d10 => ?_⟩
  refine ⟨(by show 4 ≤ sizeLine; decide), fun l11 n11 => ?_⟩
  refine ⟨_, _, _, _, rfl, rfl, ((e7.trans (e8.trans (e9.trans (e10.trans (Evl.Ex.new n11))))) _ _ upd_same), upd_same, (by show 9 ≤ sizeLine; decide), fun l12 n12 => ?_⟩
  refine ⟨_, rfl, ?_⟩
  refine ⟨_, rfl, rfl, rfl, fun a13 H13 n13 e13 x13 d13 => ?_⟩
  refine ⟨_, rfl, rfl, rfl, fun a14 H14 n14 e14 x14 d14 => ?_⟩
  refine ⟨(by show 2 ≤ sizeLine; decide), fun l15 n15 => ?_⟩
  refine ⟨_, _, _, _, rfl, rfl, ((e13.trans (e14.trans (Evl.Ex.new n15))) _ _ upd_same), upd_same, (by show 11 ≤ sizeLine; decide), fun l16 n16 => ?_⟩
  refine ⟨_, rfl, ?_⟩
  refine ⟨_, rfl, rfl, rfl, fun a17 H17 n17 e17 x17 d17 => ?_⟩
  refine ⟨_, rfl, rfl, rfl, fun a18 H18 n18 e18 x18 d18 => ?_⟩
  refine ⟨_, rfl, rfl, rfl, fun a19 H19 n19 e19 x19 d19 => ?_⟩
  refine ⟨_, rfl, rfl, rfl, fun a20 H20 n20 e20 x20 d20 => ?_⟩
  refine ⟨(by show 4 ≤ sizeLine; decide), fun l21 n21 => ?_⟩
  refine ⟨_, _, _, _, rfl, rfl, ((e17.trans (e18.trans (e19.trans (e20.trans (Evl.Ex.new n21))))) _ _ upd_same), upd_same, (by show 15 ≤ sizeLine; decide), fun l22 n22 => ?_⟩
  refine ⟨_, rfl, ?_⟩
  refine ⟨_, rfl, rfl, rfl, fun a23 H23 n23 e23 x23 d23 => ?_⟩
  refine ⟨_, rfl, rfl, rfl, fun a24 H24 n24 e24 x24 d24 => ?_⟩
  refine ⟨_, rfl, rfl, rfl, fun a25 H25 n25 e25 x25 d25 => ?_⟩
  refine ⟨_, rfl, rfl, rfl, fun a26 H26 n26 e26 x26 d26 => ?_⟩
  refine ⟨(by show 4 ≤ sizeLine; decide), fun l27 n27 => ?_⟩
  refine ⟨_, _, _, _, rfl, rfl, ((e23.trans (e24.trans (e25.trans (e26.trans (Evl.Ex.new n27))))) _ _ upd_same), upd_same, (by show 19 ≤ sizeLine; decide), fun l28 n28 => ?_⟩
  refine ⟨_, rfl, ?_⟩
  refine ⟨_, rfl, rfl, rfl, fun a29 H29 n29 e29 x29 d29 => ?_⟩
  refine ⟨_, rfl, rfl, rfl, fun a30 H30 n30 e30 x30 d30 => ?_⟩
  refine ⟨_, rfl, rfl, rfl, fun a31 H31 n31 e31 x31 d31 => ?_⟩
  refine ⟨_, rfl, rfl, rfl, fun a32 H32 n32 e32 x32 d32 => ?_⟩
  refine ⟨(by show 4 ≤ sizeLine; decide), fun l33 n33 => ?_⟩
  refine ⟨_, _, _, _, rfl, rfl, ((e29.trans (e30.trans (e31.trans (e32.trans (Evl.Ex.new n33))))) _ _ upd_same), upd_same, (by show 23 ≤ sizeLine; decide), fun l34 n34 => ?_⟩
  refine ⟨_, rfl, ?_⟩
  refine ⟨_, rfl, rfl, rfl, fun a35 H35 n35 e35 x35 d35 => ?_⟩
  refine ⟨_, rfl, rfl, rfl, fun a36 H36 n36 e36 x36 d36 => ?_⟩
  refine ⟨(by show 2 ≤ sizeLine; decide), fun l37 n37 => ?_⟩
  refine ⟨_, _, _, _, rfl, rfl, ((e35.trans (e36.trans (Evl.Ex.new n37))) _ _ upd_same), upd_same, (by show 25 ≤ sizeLine; decide), fun l38 n38 => ?_⟩
  refine ⟨_, rfl, ?_⟩
  refine ⟨_, rfl, rfl, rfl, fun a39 H39 n39 e39 x39 d39 => ?_⟩
  refine ⟨_, rfl, rfl, rfl, fun a40 H40 n40 e40 x40 d40 => ?_⟩
  refine ⟨_, rfl, rfl, rfl, fun a41 H41 n41 e41 x41 d41 => ?_⟩
  refine ⟨(by show 3 ≤ sizeLine; decide), fun l42 n42 => ?_⟩
  refine ⟨_, _, _, _, rfl, rfl, ((e39.trans (e40.trans (e41.trans (Evl.Ex.new n42)))) _ _ upd_same), upd_same, (by show 28 ≤ sizeLine; decide), fun l43 n43 => ?_⟩
  refine hQ l43 [a1, a2, a3, a4, a5, a7, a8, a9, a10, a13, a14, a17, a18, a19, a20, a23, a24, a25, a26, a29, a30, a31, a32, a35, a36, a39, a40, a41] _ ?_ upd_same ?_
  · exact (e1.trans (e2.trans (e3.trans (e4.trans (e5.trans ((Evl.Ex.new n6).trans (e7.trans (e8.trans (e9.trans (e10.trans ((Evl.Ex.new n11).trans ((Evl.Ex.new n12).trans (e13.trans (e14.trans ((Evl.Ex.new n15).trans ((Evl.Ex.new n16).trans (e17.trans (e18.trans (e19.trans (e20.trans ((Evl.Ex.new n21).trans ((Evl.Ex.new n22).trans (e23.trans (e24.trans (e25.trans (e26.trans ((Evl.Ex.new n27).trans ((Evl.Ex.new n28).trans (e29.trans (e30.trans (e31.trans (e32.trans ((Evl.Ex.new n33).trans ((Evl.Ex.new n34).trans (e35.trans (e36.trans ((Evl.Ex.new n37).trans ((Evl.Ex.new n38).trans (e39.trans (e40.trans (e41.trans ((Evl.Ex.new n42).trans (Evl.Ex.new n43)))))))))))))))))))))))))))))))))))))))))))
  · refine .cons (fun pn => (x1 pn).mono (e2.trans (e3.trans (e4.trans (e5.trans ((Evl.Ex.new n6).trans (e7.trans (e8.trans (e9.trans (e10.trans ((Evl.Ex.new n11).trans ((Evl.Ex.new n12).trans (e13.trans (e14.trans ((Evl.Ex.new n15).trans ((Evl.Ex.new n16).trans (e17.trans (e18.trans (e19.trans (e20.trans ((Evl.Ex.new n21).trans ((Evl.Ex.new n22).trans (e23.trans (e24.trans (e25.trans (e26.trans ((Evl.Ex.new n27).trans ((Evl.Ex.new n28).trans (e29.trans (e30.trans (e31.trans (e32.trans ((Evl.Ex.new n33).trans ((Evl.Ex.new n34).trans (e35.trans (e36.trans ((Evl.Ex.new n37).trans ((Evl.Ex.new n38).trans (e39.trans (e40.trans (e41.trans ((Evl.Ex.new n42).trans (Evl.Ex.new n43))))))))))))))))))))))))))))))))))))))))))) ?_
    refine .cons (fun pn => (x2 pn).mono (e3.trans (e4.trans (e5.trans ((Evl.Ex.new n6).trans (e7.trans (e8.trans (e9.trans (e10.trans ((Evl.Ex.new n11).trans ((Evl.Ex.new n12).trans (e13.trans (e14.trans ((Evl.Ex.new n15).trans ((Evl.Ex.new n16).trans (e17.trans (e18.trans (e19.trans (e20.trans ((Evl.Ex.new n21).trans ((Evl.Ex.new n22).trans (e23.trans (e24.trans (e25.trans (e26.trans ((Evl.Ex.new n27).trans ((Evl.Ex.new n28).trans (e29.trans (e30.trans (e31.trans (e32.trans ((Evl.Ex.new n33).trans ((Evl.Ex.new n34).trans (e35.trans (e36.trans ((Evl.Ex.new n37).trans ((Evl.Ex.new n38).trans (e39.trans (e40.trans (e41.trans ((Evl.Ex.new n42).trans (Evl.Ex.new n43)))))))))))))))))))))))))))))))))))))))))) ?_
    refine .cons (fun pn => (x3 pn).mono (e4.trans (e5.trans ((Evl.Ex.new n6).trans (e7.trans (e8.trans (e9.trans (e10.trans ((Evl.Ex.new n11).trans ((Evl.Ex.new n12).trans (e13.trans (e14.trans ((Evl.Ex.new n15).trans ((Evl.Ex.new n16).trans (e17.trans (e18.trans (e19.trans (e20.trans ((Evl.Ex.new n21).trans ((Evl.Ex.new n22).trans (e23.trans (e24.trans (e25.trans (e26.trans ((Evl.Ex.new n27).trans ((Evl.Ex.new n28).trans (e29.trans (e30.trans (e31.trans (e32.trans ((Evl.Ex.new n33).trans ((Evl.Ex.new n34).trans (e35.trans (e36.trans ((Evl.Ex.new n37).trans ((Evl.Ex.new n38).trans (e39.trans (e40.trans (e41.trans ((Evl.Ex.new n42).trans (Evl.Ex.new n43))))))))))))))))))))))))))))))))))))))))) ?_
    refine .cons (fun pn => (x4 pn).mono (e5.trans ((Evl.Ex.new n6).trans (e7.trans (e8.trans (e9.trans (e10.trans ((Evl.Ex.new n11).trans ((Evl.Ex.new n12).trans (e13.trans (e14.trans ((Evl.Ex.new n15).trans ((Evl.Ex.new n16).trans (e17.trans (e18.trans (e19.trans (e20.trans ((Evl.Ex.new n21).trans ((Evl.Ex.new n22).trans (e23.trans (e24.trans (e25.trans (e26.trans ((Evl.Ex.new n27).trans ((Evl.Ex.new n28).trans (e29.trans (e30.trans (e31.trans (e32.trans ((Evl.Ex.new n33).trans ((Evl.Ex.new n34).trans (e35.trans (e36.trans ((Evl.Ex.new n37).trans ((Evl.Ex.new n38).trans (e39.trans (e40.trans (e41.trans ((Evl.Ex.new n42).trans (Evl.Ex.new n43)))))))))))))))))))))))))))))))))))))))) ?_
    refine .cons (fun pn => (x5 pn).mono ((Evl.Ex.new n6).trans (e7.trans (e8.trans (e9.trans (e10.trans ((Evl.Ex.new n11).trans ((Evl.Ex.new n12).trans (e13.trans (e14.trans ((Evl.Ex.new n15).trans ((Evl.Ex.new n16).trans (e17.trans (e18.trans (e19.trans (e20.trans ((Evl.Ex.new n21).trans ((Evl.Ex.new n22).trans (e23.trans (e24.trans (e25.trans (e26.trans ((Evl.Ex.new n27).trans ((Evl.Ex.new n28).trans (e29.trans (e30.trans (e31.trans (e32.trans ((Evl.Ex.new n33).trans ((Evl.Ex.new n34).trans (e35.trans (e36.trans ((Evl.Ex.new n37).trans ((Evl.Ex.new n38).trans (e39.trans (e40.trans (e41.trans ((Evl.Ex.new n42).trans (Evl.Ex.new n43))))))))))))))))))))))))))))))))))))))) ?_
    refine .cons (fun pn => (x7 pn).mono (e8.trans (e9.trans (e10.trans ((Evl.Ex.new n11).trans ((Evl.Ex.new n12).trans (e13.trans (e14.trans ((Evl.Ex.new n15).trans ((Evl.Ex.new n16).trans (e17.trans (e18.trans (e19.trans (e20.trans ((Evl.Ex.new n21).trans ((Evl.Ex.new n22).trans (e23.trans (e24.trans (e25.trans (e26.trans ((Evl.Ex.new n27).trans ((Evl.Ex.new n28).trans (e29.trans (e30.trans (e31.trans (e32.trans ((Evl.Ex.new n33).trans ((Evl.Ex.new n34).trans (e35.trans (e36.trans ((Evl.Ex.new n37).trans ((Evl.Ex.new n38).trans (e39.trans (e40.trans (e41.trans ((Evl.Ex.new n42).trans (Evl.Ex.new n43))))))))))))))))))))))))))))))))))))) ?_
    refine .cons (fun pn => (x8 pn).mono (e9.trans (e10.trans ((Evl.Ex.new n11).trans ((Evl.Ex.new n12).trans (e13.trans (e14.trans ((Evl.Ex.new n15).trans ((Evl.Ex.new n16).trans (e17.trans (e18.trans (e19.trans (e20.trans ((Evl.Ex.new n21).trans ((Evl.Ex.new n22).trans (e23.trans (e24.trans (e25.trans (e26.trans ((Evl.Ex.new n27).trans ((Evl.Ex.new n28).trans (e29.trans (e30.trans (e31.trans (e32.trans ((Evl.Ex.new n33).trans ((Evl.Ex.new n34).trans (e35.trans (e36.trans ((Evl.Ex.new n37).trans ((Evl.Ex.new n38).trans (e39.trans (e40.trans (e41.trans ((Evl.Ex.new n42).trans (Evl.Ex.new n43)))))))))))))))))))))))))))))))))))) ?_
    refine .cons (fun pn => (x9 pn).mono (e10.trans ((Evl.Ex.new n11).trans ((Evl.Ex.new n12).trans (e13.trans (e14.trans ((Evl.Ex.new n15).trans ((Evl.Ex.new n16).trans (e17.trans (e18.trans (e19.trans (e20.trans ((Evl.Ex.new n21).trans ((Evl.Ex.new n22).trans (e23.trans (e24.trans (e25.trans (e26.trans ((Evl.Ex.new n27).trans ((Evl.Ex.new n28).trans (e29.trans (e30.trans (e31.trans (e32.trans ((Evl.Ex.new n33).trans ((Evl.Ex.new n34).trans (e35.trans (e36.trans ((Evl.Ex.new n37).trans ((Evl.Ex.new n38).trans (e39.trans (e40.trans (e41.trans ((Evl.Ex.new n42).trans (Evl.Ex.new n43))))))))))))))))))))))))))))))))))) ?_
    refine .cons (fun pn => (x10 pn).mono ((Evl.Ex.new n11).trans ((Evl.Ex.new n12).trans (e13.trans (e14.trans ((Evl.Ex.new n15).trans ((Evl.Ex.new n16).trans (e17.trans (e18.trans (e19.trans (e20.trans ((Evl.Ex.new n21).trans ((Evl.Ex.new n22).trans (e23.trans (e24.trans (e25.trans (e26.trans ((Evl.Ex.new n27).trans ((Evl.Ex.new n28).trans (e29.trans (e30.trans (e31.trans (e32.trans ((Evl.Ex.new n33).trans ((Evl.Ex.new n34).trans (e35.trans (e36.trans ((Evl.Ex.new n37).trans ((Evl.Ex.new n38).trans (e39.trans (e40.trans (e41.trans ((Evl.Ex.new n42).trans (Evl.Ex.new n43)))))))))))))))))))))))))))))))))) ?_
    refine .cons (fun pn => (x13 pn).mono (e14.trans ((Evl.Ex.new n15).trans ((Evl.Ex.new n16).trans (e17.trans (e18.trans (e19.trans (e20.trans ((Evl.Ex.new n21).trans ((Evl.Ex.new n22).trans (e23.trans (e24.trans (e25.trans (e26.trans ((Evl.Ex.new n27).trans ((Evl.Ex.new n28).trans (e29.trans (e30.trans (e31.trans (e32.trans ((Evl.Ex.new n33).trans ((Evl.Ex.new n34).trans (e35.trans (e36.trans ((Evl.Ex.new n37).trans ((Evl.Ex.new n38).trans (e39.trans (e40.trans (e41.trans ((Evl.Ex.new n42).trans (Evl.Ex.new n43))))))))))))))))))))))))))))))) ?_
    refine .cons (fun pn => (x14 pn).mono ((Evl.Ex.new n15).trans ((Evl.Ex.new n16).trans (e17.trans (e18.trans (e19.trans (e20.trans ((Evl.Ex.new n21).trans ((Evl.Ex.new n22).trans (e23.trans (e24.trans (e25.trans (e26.trans ((Evl.Ex.new n27).trans ((Evl.Ex.new n28).trans (e29.trans (e30.trans (e31.trans (e32.trans ((Evl.Ex.new n33).trans ((Evl.Ex.new n34).trans (e35.trans (e36.trans ((Evl.Ex.new n37).trans ((Evl.Ex.new n38).trans (e39.trans (e40.trans (e41.trans ((Evl.Ex.new n42).trans (Evl.Ex.new n43)))))))))))))))))))))))))))))) ?_
    refine .cons (fun pn => (x17 pn).mono (e18.trans (e19.trans (e20.trans ((Evl.Ex.new n21).trans ((Evl.Ex.new n22).trans (e23.trans (e24.trans (e25.trans (e26.trans ((Evl.Ex.new n27).trans ((Evl.Ex.new n28).trans (e29.trans (e30.trans (e31.trans (e32.trans ((Evl.Ex.new n33).trans ((Evl.Ex.new n34).trans (e35.trans (e36.trans ((Evl.Ex.new n37).trans ((Evl.Ex.new n38).trans (e39.trans (e40.trans (e41.trans ((Evl.Ex.new n42).trans (Evl.Ex.new n43))))))))))))))))))))))))))) ?_
    refine .cons (fun pn => (x18 pn).mono (e19.trans (e20.trans ((Evl.Ex.new n21).trans ((Evl.Ex.new n22).trans (e23.trans (e24.trans (e25.trans (e26.trans ((Evl.Ex.new n27).trans ((Evl.Ex.new n28).trans (e29.trans (e30.trans (e31.trans (e32.trans ((Evl.Ex.new n33).trans ((Evl.Ex.new n34).trans (e35.trans (e36.trans ((Evl.Ex.new n37).trans ((Evl.Ex.new n38).trans (e39.trans (e40.trans (e41.trans ((Evl.Ex.new n42).trans (Evl.Ex.new n43)))))))))))))))))))))))))) ?_
    refine .cons (fun pn => (x19 pn).mono (e20.trans ((Evl.Ex.new n21).trans ((Evl.Ex.new n22).trans (e23.trans (e24.trans (e25.trans (e26.trans ((Evl.Ex.new n27).trans ((Evl.Ex.new n28).trans (e29.trans (e30.trans (e31.trans (e32.trans ((Evl.Ex.new n33).trans ((Evl.Ex.new n34).trans (e35.trans (e36.trans ((Evl.Ex.new n37).trans ((Evl.Ex.new n38).trans (e39.trans (e40.trans (e41.trans ((Evl.Ex.new n42).trans (Evl.Ex.new n43))))))))))))))))))))))))) ?_
    refine .cons (fun pn => (x20 pn).mono ((Evl.Ex.new n21).trans ((Evl.Ex.new n22).trans (e23.trans (e24.trans (e25.trans (e26.trans ((Evl.Ex.new n27).trans ((Evl.Ex.new n28).trans (e29.trans (e30.trans (e31.trans (e32.trans ((Evl.Ex.new n33).trans ((Evl.Ex.new n34).trans (e35.trans (e36.trans ((Evl.Ex.new n37).trans ((Evl.Ex.new n38).trans (e39.trans (e40.trans (e41.trans ((Evl.Ex.new n42).trans (Evl.Ex.new n43)))))))))))))))))))))))) ?_
    refine .cons (fun pn => (x23 pn).mono (e24.trans (e25.trans (e26.trans ((Evl.Ex.new n27).trans ((Evl.Ex.new n28).trans (e29.trans (e30.trans (e31.trans (e32.trans ((Evl.Ex.new n33).trans ((Evl.Ex.new n34).trans (e35.trans (e36.trans ((Evl.Ex.new n37).trans ((Evl.Ex.new n38).trans (e39.trans (e40.trans (e41.trans ((Evl.Ex.new n42).trans (Evl.Ex.new n43))))))))))))))))))))) ?_
    refine .cons (fun pn => (x24 pn).mono (e25.trans (e26.trans ((Evl.Ex.new n27).trans ((Evl.Ex.new n28).trans (e29.trans (e30.trans (e31.trans (e32.trans ((Evl.Ex.new n33).trans ((Evl.Ex.new n34).trans (e35.trans (e36.trans ((Evl.Ex.new n37).trans ((Evl.Ex.new n38).trans (e39.trans (e40.trans (e41.trans ((Evl.Ex.new n42).trans (Evl.Ex.new n43)))))))))))))))))))) ?_
    refine .cons (fun pn => (x25 pn).mono (e26.trans ((Evl.Ex.new n27).trans ((Evl.Ex.new n28).trans (e29.trans (e30.trans (e31.trans (e32.trans ((Evl.Ex.new n33).trans ((Evl.Ex.new n34).trans (e35.trans (e36.trans ((Evl.Ex.new n37).trans ((Evl.Ex.new n38).trans (e39.trans (e40.trans (e41.trans ((Evl.Ex.new n42).trans (Evl.Ex.new n43))))))))))))))))))) ?_
    refine .cons (fun pn => (x26 pn).mono ((Evl.Ex.new n27).trans ((Evl.Ex.new n28).trans (e29.trans (e30.trans (e31.trans (e32.trans ((Evl.Ex.new n33).trans ((Evl.Ex.new n34).trans (e35.trans (e36.trans ((Evl.Ex.new n37).trans ((Evl.Ex.new n38).trans (e39.trans (e40.trans (e41.trans ((Evl.Ex.new n42).trans (Evl.Ex.new n43)))))))))))))))))) ?_
    refine .cons (fun pn => (x29 pn).mono (e30.trans (e31.trans (e32.trans ((Evl.Ex.new n33).trans ((Evl.Ex.new n34).trans (e35.trans (e36.trans ((Evl.Ex.new n37).trans ((Evl.Ex.new n38).trans (e39.trans (e40.trans (e41.trans ((Evl.Ex.new n42).trans (Evl.Ex.new n43))))))))))))))) ?_
    refine .cons (fun pn => (x30 pn).mono (e31.trans (e32.trans ((Evl.Ex.new n33).trans ((Evl.Ex.new n34).trans (e35.trans (e36.trans ((Evl.Ex.new n37).trans ((Evl.Ex.new n38).trans (e39.trans (e40.trans (e41.trans ((Evl.Ex.new n42).trans (Evl.Ex.new n43)))))))))))))) ?_
    refine .cons (fun pn => (x31 pn).mono (e32.trans ((Evl.Ex.new n33).trans ((Evl.Ex.new n34).trans (e35.trans (e36.trans ((Evl.Ex.new n37).trans ((Evl.Ex.new n38).trans (e39.trans (e40.trans (e41.trans ((Evl.Ex.new n42).trans (Evl.Ex.new n43))))))))))))) ?_
    refine .cons (fun pn => (x32 pn).mono ((Evl.Ex.new n33).trans ((Evl.Ex.new n34).trans (e35.trans (e36.trans ((Evl.Ex.new n37).trans ((Evl.Ex.new n38).trans (e39.trans (e40.trans (e41.trans ((Evl.Ex.new n42).trans (Evl.Ex.new n43)))))))))))) ?_
    refine .cons (fun pn => (x35 pn).mono (e36.trans ((Evl.Ex.new n37).trans ((Evl.Ex.new n38).trans (e39.trans (e40.trans (e41.trans ((Evl.Ex.new n42).trans (Evl.Ex.new n43))))))))) ?_
    refine .cons (fun pn => (x36 pn).mono ((Evl.Ex.new n37).trans ((Evl.Ex.new n38).trans (e39.trans (e40.trans (e41.trans ((Evl.Ex.new n42).trans (Evl.Ex.new n43)))))))) ?_
    refine .cons (fun pn => (x39 pn).mono (e40.trans (e41.trans ((Evl.Ex.new n42).trans (Evl.Ex.new n43))))) ?_
    refine .cons (fun pn => (x40 pn).mono (e41.trans ((Evl.Ex.new n42).trans (Evl.Ex.new n43)))) ?_
    refine .cons (fun pn => (x41 pn).mono ((Evl.Ex.new n42).trans (Evl.Ex.new n43))) ?_
    exact .nil

abbrev N_l_by_name : List Str := ["_law_thing_here", "_law_found"]
theorem sc_l_by_name : FnScope N_l_by_name ["_law_thing_here"] (defScope (top 64)) := ⟨rfl, rfl, rfl, by decide +kernel, rfl, by decide +kernel, by decide +kernel⟩

theorem ok_l_by_name (T : Txt K mg)  : Cal P w K mg base 3 "_law_by_name" (spPlace K) [] := by
  obtain ⟨fd, F⟩ := T.d__law_by_name
  refine ⟨_, fd, ["_law_thing_here"], [], ?_, T.g__law_by_name, F.kp, F.bindsN fun _ _ _ _ _ _ us hl => match us, hl with | [_], _ => rfl, .nil⟩
  refine F.ok sc_l_by_name (fun vs H Q E h => by obtain ⟨_, rfl, _⟩ := h; rfl) (fun cdv A outer s H vs Q E hr h => ?_)
  have hu := hu_of hr
  refine ⟨_, PSs.nox (pss_cons (ps_set (i := 1) sc_l_by_name.nd rfl (Or.inl rfl) (pe_lst (pa_cons (pe_mkXK0 (mkk_InvalidNumber T) hr (by omega) rfl (pk_cons (pv 0) pk_nil)) (pa_cons (pe_mkXK0 (mkk_InvalidLots T) hr (by omega) rfl (pk_cons (pv 0) pk_nil)) (pa_cons (pe_mkXK0 (mkk_InvalidLot T) hr (by omega) rfl (pk_cons (pv 0) pk_nil)) (pa_cons (pe_mkXK0 (mkk_InvalidPayoff T) hr (by omega) rfl (pk_cons (pv 0) pk_nil)) pa_nil))))))
      (pss_cons (ps_set (i := 1) sc_l_by_name.nd rfl (Or.inl rfl) (pe_op op_cat (pv 1) (pe_lst (pa_cons (pe_mkXK0 (mkk_InvalidNames T) hr (by omega) rfl (pk_cons (pv 0) pk_nil)) (pa_cons (pe_mkXK0 (mkk_InvalidStore T) hr (by omega) rfl (pk_cons (pv 0) pk_nil)) (pa_cons (pe_mkXK0 (mkk_InvalidValues T) hr (by omega) rfl (pk_cons (pv 0) pk_nil)) pa_nil))))))
      (pss_cons (ps_set (i := 1) sc_l_by_name.nd rfl (Or.inl rfl) (pe_op op_cat (pv 1) (pe_lst (pa_cons (pe_mkXK0 (mkk_InvalidText T) hr (by omega) rfl (pk_cons (pv 0) pk_nil)) (pa_cons (pe_mkXK0 (mkk_InvalidSystem T) hr (by omega) rfl (pk_cons (pv 0) pk_nil)) (pa_cons (pe_mkXK0 (mkk_InvalidUnit T) hr (by omega) rfl (pk_cons (pv 0) pk_nil)) pa_nil))))))
      (pss_cons (ps_set (i := 1) sc_l_by_name.nd rfl (Or.inl rfl) (pe_op op_cat (pv 1) (pe_lst (pa_cons (pe_mkXK0 (mkk_InvalidBody T) hr (by omega) rfl (pk_cons (pv 0) pk_nil)) pa_nil))))
      (pss_cons (ps_set (i := 1) sc_l_by_name.nd rfl (Or.inl rfl) (pe_op op_cat (pv 1) (pe_lst (pa_cons (pe_mkXK0 (mkk_InvalidSteps T) hr (by omega) rfl (pk_cons (pv 0) pk_nil)) (pa_cons (pe_mkXK0 (mkk_InvalidSummaries T) hr (by omega) rfl (pk_cons (pv 0) pk_nil)) (pa_cons (pe_mkXK0 (mkk_InvalidRow T) hr (by omega) rfl (pk_cons (pv 0) pk_nil)) pa_nil))))))
      (pss_cons (ps_set (i := 1) sc_l_by_name.nd rfl (Or.inl rfl) (pe_op op_cat (pv 1) (pe_lst (pa_cons (pe_mkXK0 (mkk_InvalidPick T) hr (by omega) rfl (pk_cons (pv 0) pk_nil)) (pa_cons (pe_mkXK0 (mkk_InvalidBlend T) hr (by omega) rfl (pk_cons (pv 0) pk_nil)) (pa_cons (pe_mkXK0 (mkk_InvalidCode T) hr (by omega) rfl (pk_cons (pv 0) pk_nil)) pa_nil))))))
      (pss_cons (ps_set (i := 1) sc_l_by_name.nd rfl (Or.inl rfl) (pe_op op_cat (pv 1) (pe_lst (pa_cons (pe_mkXK0 (mkk_InvalidLines T) hr (by omega) rfl (pk_cons (pv 0) pk_nil)) (pa_cons (pe_mkXK0 (mkk_InvalidAnswer T) hr (by omega) rfl (pk_cons (pv 0) pk_nil)) (pa_cons (pe_mkXK0 (mkk_InvalidPart T) hr (by omega) rfl (pk_cons (pv 0) pk_nil)) pa_nil))))))
      (pss_cons (ps_set (i := 1) sc_l_by_name.nd rfl (Or.inl rfl) (pe_op op_cat (pv 1) (pe_lst (pa_cons (pe_mkXK0 (mkk_InvalidEdition T) hr (by omega) rfl (pk_cons (pv 0) pk_nil)) (pa_cons (pe_mkXK0 (mkk_InvalidGame T) hr (by omega) rfl (pk_cons (pv 0) pk_nil)) (pa_cons (pe_mkXK0 (mkk_InvalidPlan T) hr (by omega) rfl (pk_cons (pv 0) pk_nil)) pa_nil))))))
      (pss_cons (ps_set (i := 1) sc_l_by_name.nd rfl (Or.inl rfl) (pe_op op_cat (pv 1) (pe_lst (pa_cons (pe_mkXK0 (mkk_InvalidRecord T) hr (by omega) rfl (pk_cons (pv 0) pk_nil)) (pa_cons (pe_mkXK0 (mkk_InvalidName T) hr (by omega) rfl (pk_cons (pv 0) pk_nil)) pa_nil)))))
      (pss_one (ps_ret (pe_op op_cat (pv 1) (pe_lst (pa_cons (pe_mkXK0 (mkk_Outside T) hr (by omega) rfl (pk_cons (pv 0) pk_nil)) (pa_cons (pe_mkXK0 (mkk_TooMany T) hr (by omega) rfl (pk_cons (pv 0) pk_nil)) (pa_cons (pe_mkXK0 (mkk_NoThing T) hr (by omega) rfl (pk_cons (pv 0) pk_nil)) pa_nil)))))))))))))))), ?_⟩
  obtain ⟨x, rfl, hQ⟩ := h
  refine ⟨_, rfl, rfl, rfl, fun a1 H1 n1 e1 x1 d1 => ?_⟩
  refine ⟨_, rfl, rfl, rfl, fun a2 H2 n2 e2 x2 d2 => ?_⟩
  refine ⟨_, rfl, rfl, rfl, fun a3 H3 n3 e3 x3 d3 => ?_⟩
  refine ⟨_, rfl, rfl, rfl, fun a4 H4 n4 e4 x4 d4 => ?_⟩
  refine ⟨(by show 4 ≤ sizeLine; decide), fun l5 n5 => ?_⟩
  refine ⟨_, rfl, ?_⟩
  refine ⟨_, rfl, rfl, rfl, fun a6 H6 n6 e6 x6 d6 => ?_⟩
  refine ⟨_, rfl, rfl, rfl, fun a7 H7 n7 e7 x7 d7 => ?_⟩
  refine ⟨_, rfl, rfl, rfl, fun a8 H8 n8 e8 x8 d8 => ?_⟩
  refine ⟨(by show 3 ≤ sizeLine; decide), fun l9 n9 => ?_⟩
  refine ⟨_, _, _, _, rfl, rfl, ((e6.trans (e7.trans (e8.trans (Evl.Ex.new n9)))) _ _ upd_same), upd_same, (by show 7 ≤ sizeLine; decide), fun l10 n10 => ?_⟩
  refine ⟨_, rfl, ?_⟩
  refine ⟨_, rfl, rfl, rfl, fun a11 H11 n11 e11 x11 d11 => ?_⟩
  refine ⟨_, rfl, rfl, rfl, fun a12 H12 n12 e12 x12 d12 => ?_⟩
  refine ⟨_, rfl, rfl, rfl, fun a13 H13 n13 e13 x13 d13 => ?_⟩
  refine ⟨(by show 3 ≤ sizeLine; decide), fun l14 n14 => ?_⟩
  refine ⟨_, _, _, _, rfl, rfl, ((e11.trans (e12.trans (e13.trans (Evl.Ex.new n14)))) _ _ upd_same), upd_same, (by show 10 ≤ sizeLine; decide), fun l15 n15 => ?_⟩
  refine ⟨_, rfl, ?_⟩
  refine ⟨_, rfl, rfl, rfl, fun a16 H16 n16 e16 x16 d16 => ?_⟩
  refine ⟨(by show 1 ≤ sizeLine; decide), fun l17 n17 => ?_⟩
  refine ⟨_, _, _, _, rfl, rfl, ((e16.trans (Evl.Ex.new n17)) _ _ upd_same), upd_same, (by show 11 ≤ sizeLine; decide), fun l18 n18 => ?_⟩
  refine ⟨_, rfl, ?_⟩
  refine ⟨_, rfl, rfl, rfl, fun a19 H19 n19 e19 x19 d19 => ?_⟩
  refine ⟨_, rfl, rfl, rfl, fun a20 H20 n20 e20 x20 d20 => ?_⟩
  refine ⟨_, rfl, rfl, rfl, fun a21 H21 n21 e21 x21 d21 => ?_⟩
  refine ⟨(by show 3 ≤ sizeLine; decide), fun l22 n22 => ?_⟩
  refine ⟨_, _, _, _, rfl, rfl, ((e19.trans (e20.trans (e21.trans (Evl.Ex.new n22)))) _ _ upd_same), upd_same, (by show 14 ≤ sizeLine; decide), fun l23 n23 => ?_⟩
  refine ⟨_, rfl, ?_⟩
  refine ⟨_, rfl, rfl, rfl, fun a24 H24 n24 e24 x24 d24 => ?_⟩
  refine ⟨_, rfl, rfl, rfl, fun a25 H25 n25 e25 x25 d25 => ?_⟩
  refine ⟨_, rfl, rfl, rfl, fun a26 H26 n26 e26 x26 d26 => ?_⟩
  refine ⟨(by show 3 ≤ sizeLine; decide), fun l27 n27 => ?_⟩
  refine ⟨_, _, _, _, rfl, rfl, ((e24.trans (e25.trans (e26.trans (Evl.Ex.new n27)))) _ _ upd_same), upd_same, (by show 17 ≤ sizeLine; decide), fun l28 n28 => ?_⟩
  refine ⟨_, rfl, ?_⟩
  refine ⟨_, rfl, rfl, rfl, fun a29 H29 n29 e29 x29 d29 => ?_⟩
  refine ⟨_, rfl, rfl, rfl, fun a30 H30 n30 e30 x30 d30 => ?_⟩
  refine ⟨_, rfl, rfl, rfl, fun a31 H31 n31 e31 x31 d31 => ?_⟩
  refine ⟨(by show 3 ≤ sizeLine; decide), fun l32 n32 => ?_⟩
  refine ⟨_, _, _, _, rfl, rfl, ((e29.trans (e30.trans (e31.trans (Evl.Ex.new n32)))) _ _ upd_same), upd_same, (by show 20 ≤ sizeLine; decide), fun l33 n33 => ?_⟩
  refine ⟨_, rfl, ?_⟩
  refine ⟨_, rfl, rfl, rfl, fun a34 H34 n34 e34 x34 d34 => ?_⟩
  refine ⟨_, rfl, rfl, rfl, fun a35 H35 n35 e35 x35 d35 => ?_⟩
  refine ⟨_, rfl, rfl, rfl, fun a36 H36 n36 e36 x36 d36 => ?_⟩
  refine ⟨(by show 3 ≤ sizeLine; decide), fun l37 n37 => ?_⟩
  refine ⟨_, _, _, _, rfl, rfl, ((e34.trans (e35.trans (e36.trans (Evl.Ex.new n37)))) _ _ upd_same), upd_same, (by show 23 ≤ sizeLine; decide), fun l38 n38 => ?_⟩
  refine ⟨_, rfl, ?_⟩
  refine ⟨_, rfl, rfl, rfl, fun a39 H39 n39 e39 x39 d39 => ?_⟩
  refine ⟨_, rfl, rfl, rfl, fun a40 H40 n40 e40 x40 d40 => ?_⟩
  refine ⟨(by show 2 ≤ sizeLine; decide), fun l41 n41 => ?_⟩
  refine ⟨_, _, _, _, rfl, rfl, ((e39.trans (e40.trans (Evl.Ex.new n41))) _ _ upd_same), upd_same, (by show 25 ≤ sizeLine; decide), fun l42 n42 => ?_⟩
  refine ⟨_, rfl, ?_⟩
  refine ⟨_, rfl, rfl, rfl, fun a43 H43 n43 e43 x43 d43 => ?_⟩
  refine ⟨_, rfl, rfl, rfl, fun a44 H44 n44 e44 x44 d44 => ?_⟩
  refine ⟨_, rfl, rfl, rfl, fun a45 H45 n45 e45 x45 d45 => ?_⟩
  refine ⟨(by show 3 ≤ sizeLine; decide), fun l46 n46 => ?_⟩
  refine ⟨_, _, _, _, rfl, rfl, ((e43.trans (e44.trans (e45.trans (Evl.Ex.new n46)))) _ _ upd_same), upd_same, (by show 28 ≤ sizeLine; decide), fun l47 n47 => ?_⟩
  refine hQ l47 [a1, a2, a3, a4, a6, a7, a8, a11, a12, a13, a16, a19, a20, a21, a24, a25, a26, a29, a30, a31, a34, a35, a36, a39, a40, a43, a44, a45] _ ?_ upd_same ?_
  · exact (e1.trans (e2.trans (e3.trans (e4.trans ((Evl.Ex.new n5).trans (e6.trans (e7.trans (e8.trans ((Evl.Ex.new n9).trans ((Evl.Ex.new n10).trans (e11.trans (e12.trans (e13.trans ((Evl.Ex.new n14).trans ((Evl.Ex.new n15).trans (e16.trans ((Evl.Ex.new n17).trans ((Evl.Ex.new n18).trans (e19.trans (e20.trans (e21.trans ((Evl.Ex.new n22).trans ((Evl.Ex.new n23).trans (e24.trans (e25.trans (e26.trans ((Evl.Ex.new n27).trans ((Evl.Ex.new n28).trans (e29.trans (e30.trans (e31.trans ((Evl.Ex.new n32).trans ((Evl.Ex.new n33).trans (e34.trans (e35.trans (e36.trans ((Evl.Ex.new n37).trans ((Evl.Ex.new n38).trans (e39.trans (e40.trans ((Evl.Ex.new n41).trans ((Evl.Ex.new n42).trans (e43.trans (e44.trans (e45.trans ((Evl.Ex.new n46).trans (Evl.Ex.new n47)))))))))))))))))))))))))))))))))))))))))))))))
  · refine .cons (fun pn => (x1 pn).mono (e2.trans (e3.trans (e4.trans ((Evl.Ex.new n5).trans (e6.trans (e7.trans (e8.trans ((Evl.Ex.new n9).trans ((Evl.Ex.new n10).trans (e11.trans (e12.trans (e13.trans ((Evl.Ex.new n14).trans ((Evl.Ex.new n15).trans (e16.trans ((Evl.Ex.new n17).trans ((Evl.Ex.new n18).trans (e19.trans (e20.trans (e21.trans ((Evl.Ex.new n22).trans ((Evl.Ex.new n23).trans (e24.trans (e25.trans (e26.trans ((Evl.Ex.new n27).trans ((Evl.Ex.new n28).trans (e29.trans (e30.trans (e31.trans ((Evl.Ex.new n32).trans ((Evl.Ex.new n33).trans (e34.trans (e35.trans (e36.trans ((Evl.Ex.new n37).trans ((Evl.Ex.new n38).trans (e39.trans (e40.trans ((Evl.Ex.new n41).trans ((Evl.Ex.new n42).trans (e43.trans (e44.trans (e45.trans ((Evl.Ex.new n46).trans (Evl.Ex.new n47))))))))))))))))))))))))))))))))))))))))))))))) ?_
    refine .cons (fun pn => (x2 pn).mono (e3.trans (e4.trans ((Evl.Ex.new n5).trans (e6.trans (e7.trans (e8.trans ((Evl.Ex.new n9).trans ((Evl.Ex.new n10).trans (e11.trans (e12.trans (e13.trans ((Evl.Ex.new n14).trans ((Evl.Ex.new n15).trans (e16.trans ((Evl.Ex.new n17).trans ((Evl.Ex.new n18).trans (e19.trans (e20.trans (e21.trans ((Evl.Ex.new n22).trans ((Evl.Ex.new n23).trans (e24.trans (e25.trans (e26.trans ((Evl.Ex.new n27).trans ((Evl.Ex.new n28).trans (e29.trans (e30.trans (e31.trans ((Evl.Ex.new n32).trans ((Evl.Ex.new n33).trans (e34.trans (e35.trans (e36.trans ((Evl.Ex.new n37).trans ((Evl.Ex.new n38).trans (e39.trans (e40.trans ((Evl.Ex.new n41).trans ((Evl.Ex.new n42).trans (e43.trans (e44.trans (e45.trans ((Evl.Ex.new n46).trans (Evl.Ex.new n47)))))))))))))))))))))))))))))))))))))))))))))) ?_
    refine .cons (fun pn => (x3 pn).mono (e4.trans ((Evl.Ex.new n5).trans (e6.trans (e7.trans (e8.trans ((Evl.Ex.new n9).trans ((Evl.Ex.new n10).trans (e11.trans (e12.trans (e13.trans ((Evl.Ex.new n14).trans ((Evl.Ex.new n15).trans (e16.trans ((Evl.Ex.new n17).trans ((Evl.Ex.new n18).trans (e19.trans (e20.trans (e21.trans ((Evl.Ex.new n22).trans ((Evl.Ex.new n23).trans (e24.trans (e25.trans (e26.trans ((Evl.Ex.new n27).trans ((Evl.Ex.new n28).trans (e29.trans (e30.trans (e31.trans ((Evl.Ex.new n32).trans ((Evl.Ex.new n33).trans (e34.trans (e35.trans (e36.trans ((Evl.Ex.new n37).trans ((Evl.Ex.new n38).trans (e39.trans (e40.trans ((Evl.Ex.new n41).trans ((Evl.Ex.new n42).trans (e43.trans (e44.trans (e45.trans ((Evl.Ex.new n46).trans (Evl.Ex.new n47))))))))))))))))))))))))))))))))))))))))))))) ?_
    refine .cons (fun pn => (x4 pn).mono ((Evl.Ex.new n5).trans (e6.trans (e7.trans (e8.trans ((Evl.Ex.new n9).trans ((Evl.Ex.new n10).trans (e11.trans (e12.trans (e13.trans ((Evl.Ex.new n14).trans ((Evl.Ex.new n15).trans (e16.trans ((Evl.Ex.new n17).trans ((Evl.Ex.new n18).trans (e19.trans (e20.trans (e21.trans ((Evl.Ex.new n22).trans ((Evl.Ex.new n23).trans (e24.trans (e25.trans (e26.trans ((Evl.Ex.new n27).trans ((Evl.Ex.new n28).trans (e29.trans (e30.trans (e31.trans ((Evl.Ex.new n32).trans ((Evl.Ex.new n33).trans (e34.trans (e35.trans (e36.trans ((Evl.Ex.new n37).trans ((Evl.Ex.new n38).trans (e39.trans (e40.trans ((Evl.Ex.new n41).trans ((Evl.Ex.new n42).trans (e43.trans (e44.trans (e45.trans ((Evl.Ex.new n46).trans (Evl.Ex.new n47)))))))))))))))))))))))))))))))))))))))))))) ?_
    refine .cons (fun pn => (x6 pn).mono (e7.trans (e8.trans ((Evl.Ex.new n9).trans ((Evl.Ex.new n10).trans (e11.trans (e12.trans (e13.trans ((Evl.Ex.new n14).trans ((Evl.Ex.new n15).trans (e16.trans ((Evl.Ex.new n17).trans ((Evl.Ex.new n18).trans (e19.trans (e20.trans (e21.trans ((Evl.Ex.new n22).trans ((Evl.Ex.new n23).trans (e24.trans (e25.trans (e26.trans ((Evl.Ex.new n27).trans ((Evl.Ex.new n28).trans (e29.trans (e30.trans (e31.trans ((Evl.Ex.new n32).trans ((Evl.Ex.new n33).trans (e34.trans (e35.trans (e36.trans ((Evl.Ex.new n37).trans ((Evl.Ex.new n38).trans (e39.trans (e40.trans ((Evl.Ex.new n41).trans ((Evl.Ex.new n42).trans (e43.trans (e44.trans (e45.trans ((Evl.Ex.new n46).trans (Evl.Ex.new n47)))))))))))))))))))))))))))))))))))))))))) ?_
    refine .cons (fun pn => (x7 pn).mono (e8.trans ((Evl.Ex.new n9).trans ((Evl.Ex.new n10).trans (e11.trans (e12.trans (e13.trans ((Evl.Ex.new n14).trans ((Evl.Ex.new n15).trans (e16.trans ((Evl.Ex.new n17).trans ((Evl.Ex.new n18).trans (e19.trans (e20.trans (e21.trans ((Evl.Ex.new n22).trans ((Evl.Ex.new n23).trans (e24.trans (e25.trans (e26.trans ((Evl.Ex.new n27).trans ((Evl.Ex.new n28).trans (e29.trans (e30.trans (e31.trans ((Evl.Ex.new n32).trans ((Evl.Ex.new n33).trans (e34.trans (e35.trans (e36.trans ((Evl.Ex.new n37).trans ((Evl.Ex.new n38).trans (e39.trans (e40.trans ((Evl.Ex.new n41).trans ((Evl.Ex.new n42).trans (e43.trans (e44.trans (e45.trans ((Evl.Ex.new n46).trans (Evl.Ex.new n47))))))))))))))))))))))))))))))))))))))))) ?_
    refine .cons (fun pn => (x8 pn).mono ((Evl.Ex.new n9).trans ((Evl.Ex.new n10).trans (e11.trans (e12.trans (e13.trans ((Evl.Ex.new n14).trans ((Evl.Ex.new n15).trans (e16.trans ((Evl.Ex.new n17).trans ((Evl.Ex.new n18).trans (e19.trans (e20.trans (e21.trans ((Evl.Ex.new n22).trans ((Evl.Ex.new n23).trans (e24.trans (e25.trans (e26.trans ((Evl.Ex.new n27).trans ((Evl.Ex.new n28).trans (e29.trans (e30.trans (e31.trans ((Evl.Ex.new n32).trans ((Evl.Ex.new n33).trans (e34.trans (e35.trans (e36.trans ((Evl.Ex.new n37).trans ((Evl.Ex.new n38).trans (e39.trans (e40.trans ((Evl.Ex.new n41).trans ((Evl.Ex.new n42).trans (e43.trans (e44.trans (e45.trans ((Evl.Ex.new n46).trans (Evl.Ex.new n47)))))))))))))))))))))))))))))))))))))))) ?_
    refine .cons (fun pn => (x11 pn).mono (e12.trans (e13.trans ((Evl.Ex.new n14).trans ((Evl.Ex.new n15).trans (e16.trans ((Evl.Ex.new n17).trans ((Evl.Ex.new n18).trans (e19.trans (e20.trans (e21.trans ((Evl.Ex.new n22).trans ((Evl.Ex.new n23).trans (e24.trans (e25.trans (e26.trans ((Evl.Ex.new n27).trans ((Evl.Ex.new n28).trans (e29.trans (e30.trans (e31.trans ((Evl.Ex.new n32).trans ((Evl.Ex.new n33).trans (e34.trans (e35.trans (e36.trans ((Evl.Ex.new n37).trans ((Evl.Ex.new n38).trans (e39.trans (e40.trans ((Evl.Ex.new n41).trans ((Evl.Ex.new n42).trans (e43.trans (e44.trans (e45.trans ((Evl.Ex.new n46).trans (Evl.Ex.new n47))))))))))))))))))))))))))))))))))))) ?_
    refine .cons (fun pn => (x12 pn).mono (e13.trans ((Evl.Ex.new n14).trans ((Evl.Ex.new n15).trans (e16.trans ((Evl.Ex.new n17).trans ((Evl.Ex.new n18).trans (e19.trans (e20.trans (e21.trans ((Evl.Ex.new n22).trans ((Evl.Ex.new n23).trans (e24.trans (e25.trans (e26.trans ((Evl.Ex.new n27).trans ((Evl.Ex.new n28).trans (e29.trans (e30.trans (e31.trans ((Evl.Ex.new n32).trans ((Evl.Ex.new n33).trans (e34.trans (e35.trans (e36.trans ((Evl.Ex.new n37).trans ((Evl.Ex.new n38).trans (e39.trans (e40.trans ((Evl.Ex.new n41).trans ((Evl.Ex.new n42).trans (e43.trans (e44.trans (e45.trans ((Evl.Ex.new n46).trans (Evl.Ex.new n47)))))))))))))))))))))))))))))))))))) ?_
    refine .cons (fun pn => (x13 pn).mono ((Evl.Ex.new n14).trans ((Evl.Ex.new n15).trans (e16.trans ((Evl.Ex.new n17).trans ((Evl.Ex.new n18).trans (e19.trans (e20.trans (e21.trans ((Evl.Ex.new n22).trans ((Evl.Ex.new n23).trans (e24.trans (e25.trans (e26.trans ((Evl.Ex.new n27).trans ((Evl.Ex.new n28).trans (e29.trans (e30.trans (e31.trans ((Evl.Ex.new n32).trans ((Evl.Ex.new n33).trans (e34.trans (e35.trans (e36.trans ((Evl.Ex.new n37).trans ((Evl.Ex.new n38).trans (e39.trans (e40.trans ((Evl.Ex.new n41).trans ((Evl.Ex.new n42).trans (e43.trans (e44.trans (e45.trans ((Evl.Ex.new n46).trans (Evl.Ex.new n47))))))))))))))))))))))))))))))))))) ?_
    refine .cons (fun pn => (x16 pn).mono ((Evl.Ex.new n17).trans ((Evl.Ex.new n18).trans (e19.trans (e20.trans (e21.trans ((Evl.Ex.new n22).trans ((Evl.Ex.new n23).trans (e24.trans (e25.trans (e26.trans ((Evl.Ex.new n27).trans ((Evl.Ex.new n28).trans (e29.trans (e30.trans (e31.trans ((Evl.Ex.new n32).trans ((Evl.Ex.new n33).trans (e34.trans (e35.trans (e36.trans ((Evl.Ex.new n37).trans ((Evl.Ex.new n38).trans (e39.trans (e40.trans ((Evl.Ex.new n41).trans ((Evl.Ex.new n42).trans (e43.trans (e44.trans (e45.trans ((Evl.Ex.new n46).trans (Evl.Ex.new n47)))))))))))))))))))))))))))))))) ?_
    refine .cons (fun pn => (x19 pn).mono (e20.trans (e21.trans ((Evl.Ex.new n22).trans ((Evl.Ex.new n23).trans (e24.trans (e25.trans (e26.trans ((Evl.Ex.new n27).trans ((Evl.Ex.new n28).trans (e29.trans (e30.trans (e31.trans ((Evl.Ex.new n32).trans ((Evl.Ex.new n33).trans (e34.trans (e35.trans (e36.trans ((Evl.Ex.new n37).trans ((Evl.Ex.new n38).trans (e39.trans (e40.trans ((Evl.Ex.new n41).trans ((Evl.Ex.new n42).trans (e43.trans (e44.trans (e45.trans ((Evl.Ex.new n46).trans (Evl.Ex.new n47))))))))))))))))))))))))))))) ?_
    refine .cons (fun pn => (x20 pn).mono (e21.trans ((Evl.Ex.new n22).trans ((Evl.Ex.new n23).trans (e24.trans (e25.trans (e26.trans ((Evl.Ex.new n27).trans ((Evl.Ex.new n28).trans (e29.trans (e30.trans (e31.trans ((Evl.Ex.new n32).trans ((Evl.Ex.new n33).trans (e34.trans (e35.trans (e36.trans ((Evl.Ex.new n37).trans ((Evl.Ex.new n38).trans (e39.trans (e40.trans ((Evl.Ex.new n41).trans ((Evl.Ex.new n42).trans (e43.trans (e44.trans (e45.trans ((Evl.Ex.new n46).trans (Evl.Ex.new n47)))))))))))))))))))))))))))) ?_
    refine .cons (fun pn => (x21 pn).mono ((Evl.Ex.new n22).trans ((Evl.Ex.new n23).trans (e24.trans (e25.trans (e26.trans ((Evl.Ex.new n27).trans ((Evl.Ex.new n28).trans (e29.trans (e30.trans (e31.trans ((Evl.Ex.new n32).trans ((Evl.Ex.new n33).trans (e34.trans (e35.trans (e36.trans ((Evl.Ex.new n37).trans ((Evl.Ex.new n38).trans (e39.trans (e40.trans ((Evl.Ex.new n41).trans ((Evl.Ex.new n42).trans (e43.trans (e44.trans (e45.trans ((Evl.Ex.new n46).trans (Evl.Ex.new n47))))))))))))))))))))))))))) ?_
    refine .cons (fun pn => (x24 pn).mono (e25.trans (e26.trans ((Evl.Ex.new n27).trans ((Evl.Ex.new n28).trans (e29.trans (e30.trans (e31.trans ((Evl.Ex.new n32).trans ((Evl.Ex.new n33).trans (e34.trans (e35.trans (e36.trans ((Evl.Ex.new n37).trans ((Evl.Ex.new n38).trans (e39.trans (e40.trans ((Evl.Ex.new n41).trans ((Evl.Ex.new n42).trans (e43.trans (e44.trans (e45.trans ((Evl.Ex.new n46).trans (Evl.Ex.new n47)))))))))))))))))))))))) ?_
    refine .cons (fun pn => (x25 pn).mono (e26.trans ((Evl.Ex.new n27).trans ((Evl.Ex.new n28).trans (e29.trans (e30.trans (e31.trans ((Evl.Ex.new n32).trans ((Evl.Ex.new n33).trans (e34.trans (e35.trans (e36.trans ((Evl.Ex.new n37).trans ((Evl.Ex.new n38).trans (e39.trans (e40.trans ((Evl.Ex.new n41).trans ((Evl.Ex.new n42).trans (e43.trans (e44.trans (e45.trans ((Evl.Ex.new n46).trans (Evl.Ex.new n47))))))))))))))))))))))) ?_
    refine .cons (fun pn => (x26 pn).mono ((Evl.Ex.new n27).trans ((Evl.Ex.new n28).trans (e29.trans (e30.trans (e31.trans ((Evl.Ex.new n32).trans ((Evl.Ex.new n33).trans (e34.trans (e35.trans (e36.trans ((Evl.Ex.new n37).trans ((Evl.Ex.new n38).trans (e39.trans (e40.trans ((Evl.Ex.new n41).trans ((Evl.Ex.new n42).trans (e43.trans (e44.trans (e45.trans ((Evl.Ex.new n46).trans (Evl.Ex.new n47)))))))))))))))))))))) ?_
    refine .cons (fun pn => (x29 pn).mono (e30.trans (e31.trans ((Evl.Ex.new n32).trans ((Evl.Ex.new n33).trans (e34.trans (e35.trans (e36.trans ((Evl.Ex.new n37).trans ((Evl.Ex.new n38).trans (e39.trans (e40.trans ((Evl.Ex.new n41).trans ((Evl.Ex.new n42).trans (e43.trans (e44.trans (e45.trans ((Evl.Ex.new n46).trans (Evl.Ex.new n47))))))))))))))))))) ?_
    refine .cons (fun pn => (x30 pn).mono (e31.trans ((Evl.Ex.new n32).trans ((Evl.Ex.new n33).trans (e34.trans (e35.trans (e36.trans ((Evl.Ex.new n37).trans ((Evl.Ex.new n38).trans (e39.trans (e40.trans ((Evl.Ex.new n41).trans ((Evl.Ex.new n42).trans (e43.trans (e44.trans (e45.trans ((Evl.Ex.new n46).trans (Evl.Ex.new n47)))))))))))))))))) ?_
    refine .cons (fun pn => (x31 pn).mono ((Evl.Ex.new n32).trans ((Evl.Ex.new n33).trans (e34.trans (e35.trans (e36.trans ((Evl.Ex.new n37).trans ((Evl.Ex.new n38).trans (e39.trans (e40.trans ((Evl.Ex.new n41).trans ((Evl.Ex.new n42).trans (e43.trans (e44.trans (e45.trans ((Evl.Ex.new n46).trans (Evl.Ex.new n47))))))))))))))))) ?_
    refine .cons (fun pn => (x34 pn).mono (e35.trans (e36.trans ((Evl.Ex.new n37).trans ((Evl.Ex.new n38).trans (e39.trans (e40.trans ((Evl.Ex.new n41).trans ((Evl.Ex.new n42).trans (e43.trans (e44.trans (e45.trans ((Evl.Ex.new n46).trans (Evl.Ex.new n47)))))))))))))) ?_
    refine .cons (fun pn => (x35 pn).mono (e36.trans ((Evl.Ex.new n37).trans ((Evl.Ex.new n38).trans (e39.trans (e40.trans ((Evl.Ex.new n41).trans ((Evl.Ex.new n42).trans (e43.trans (e44.trans (e45.trans ((Evl.Ex.new n46).trans (Evl.Ex.new n47))))))))))))) ?_
    refine .cons (fun pn => (x36 pn).mono ((Evl.Ex.new n37).trans ((Evl.Ex.new n38).trans (e39.trans (e40.trans ((Evl.Ex.new n41).trans ((Evl.Ex.new n42).trans (e43.trans (e44.trans (e45.trans ((Evl.Ex.new n46).trans (Evl.Ex.new n47)))))))))))) ?_
    refine .cons (fun pn => (x39 pn).mono (e40.trans ((Evl.Ex.new n41).trans ((Evl.Ex.new n42).trans (e43.trans (e44.trans (e45.trans ((Evl.Ex.new n46).trans (Evl.Ex.new n47))))))))) ?_
    refine .cons (fun pn => (x40 pn).mono ((Evl.Ex.new n41).trans ((Evl.Ex.new n42).trans (e43.trans (e44.trans (e45.trans ((Evl.Ex.new n46).trans (Evl.Ex.new n47)))))))) ?_
    refine .cons (fun pn => (x43 pn).mono (e44.trans (e45.trans ((Evl.Ex.new n46).trans (Evl.Ex.new n47))))) ?_
    refine .cons (fun pn => (x44 pn).mono (e45.trans ((Evl.Ex.new n46).trans (Evl.Ex.new n47)))) ?_
    refine .cons (fun pn => (x45 pn).mono ((Evl.Ex.new n46).trans (Evl.Ex.new n47))) ?_
    exact .nil

end
end K00
namespace K00
open PySem PySem.Spec PyProof.Rows L2 C8
section
variable {P : Program} {w : World} {K : PySem.W.Frag} {mg : Str → Option Value} {base : Heap}
theorem iteFo {b : Bool} {A B : Prop} (h : b = false) (q : B) : if b = true then A else B := by rw [h]; exact q
theorem iteTo {b : Bool} {A B : Prop} (h : b = true) (q : A) : if b = true then A else B := by rw [h]; exact q
def spSeveral (K : PySem.W.Frag) : Sp := fun vs H Q _ => ∃ (x1 x2 x3 x4 : V) (wy : Nat), vs = [x1, x2, x3, x4, .int (wy : Int)] ∧ wy < 4 ∧ ∀ l as H', Ex H H' → H' l = some (.lst (as.map V.ref)) → Paired (fun e a => XA K H' e [x1, x2, x3, x4] a) exsB as → Q (.ref l) H'
abbrev N_l_several : List Str := ["_law_one", "_law_two", "_law_three", "_law_four", "_law_way", "_law_found"]
theorem sc_l_several : FnScope N_l_several ["_law_one", "_law_two", "_law_three", "_law_four", "_law_way"] (defScope (top 65)) := ⟨rfl, rfl, rfl, by decide +kernel, rfl, by decide +kernel, by decide +kernel⟩

theorem ok_l_several (T : Txt K mg)  : Cal P w K mg base 3 "_law_several" (spSeveral K) [] := by
  obtain ⟨fd, F⟩ := T.d__law_several
  refine ⟨_, fd, ["_law_one", "_law_two", "_law_three", "_law_four", "_law_way"], [], ?_, T.g__law_several, F.kp, F.bindsN fun _ _ _ _ _ _ us hl => match us, hl with | [_, _, _, _, _], _ => rfl, .nil⟩
  refine F.ok sc_l_several (fun vs H Q E h => by obtain ⟨_, _, _, _, _, rfl, _⟩ := h; rfl) (fun cdv A outer s H vs Q E hr h => ?_)
  have hu := hu_of hr
  refine ⟨_, PSs.nox (pss_cons (ps_if (pt_cmpR op_eq (pv 4) pe_int (nomark _)) (pss_cons (ps_set (i := 5) sc_l_several.nd rfl (Or.inl rfl) (pe_lst (pa_cons (pe_mkX (mkp_NoSystem T) hr (by omega) rfl (by decide) (pa_cons (pv 0) (pa_cons (pv 1) pa_nil))) (pa_cons (pe_mkX (mkp_NotBrought T) hr (by omega) rfl (by decide) (pa_cons (pv 0) (pa_cons (pv 1) pa_nil))) (pa_cons (pe_mkX (mkp_TooGreat T) hr (by omega) rfl (by decide) (pa_cons (pv 0) (pa_cons (pv 1) pa_nil))) (pa_cons (pe_mkX (mkp_NotFair T) hr (by omega) rfl (by decide) (pa_cons (pv 0) (pa_cons (pv 1) (pa_cons (pv 2) pa_nil)))) pa_nil))))))
      (pss_one (ps_ret (pe_op op_cat (pv 5) (pe_lst (pa_cons (pe_mkX (mkp_TooRich T) hr (by omega) rfl (by decide) (pa_cons (pv 0) (pa_cons (pv 1) (pa_cons (pv 2) pa_nil)))) (pa_cons (pe_mkX (mkp_NotLet T) hr (by omega) rfl (by decide) (pa_cons (pv 0) (pa_cons (pv 1) (pa_cons (pv 2) (pa_cons (pv 3) pa_nil))))) pa_nil))))))) pss_nil)
      (pss_cons (ps_if (pt_cmpR op_eq (pv 4) pe_int (nomark _)) (pss_cons (ps_set (i := 5) sc_l_several.nd rfl (Or.inl rfl) (pe_lst (pa_cons (pe_mkXK0 (mkk_NoSystem T) hr (by omega) rfl (pk_cons (pv 0) (pk_cons (pv 1) pk_nil))) (pa_cons (pe_mkXK0 (mkk_NotBrought T) hr (by omega) rfl (pk_cons (pv 0) (pk_cons (pv 1) pk_nil))) (pa_cons (pe_mkXK0 (mkk_TooGreat T) hr (by omega) rfl (pk_cons (pv 0) (pk_cons (pv 1) pk_nil))) pa_nil)))))
      (pss_cons (ps_set (i := 5) sc_l_several.nd rfl (Or.inl rfl) (pe_op op_cat (pv 5) (pe_lst (pa_cons (pe_mkXK0 (mkk_NotFair T) hr (by omega) rfl (pk_cons (pv 0) (pk_cons (pv 1) (pk_cons (pv 2) pk_nil)))) (pa_cons (pe_mkXK0 (mkk_TooRich T) hr (by omega) rfl (pk_cons (pv 0) (pk_cons (pv 1) (pk_cons (pv 2) pk_nil)))) pa_nil)))))
      (pss_one (ps_ret (pe_op op_cat (pv 5) (pe_lst (pa_cons (pe_mkXK0 (mkk_NotLet T) hr (by omega) rfl (pk_cons (pv 0) (pk_cons (pv 1) (pk_cons (pv 2) (pk_cons (pv 3) pk_nil))))) pa_nil))))))) pss_nil)
      (pss_cons (ps_if (pt_cmpR op_eq (pv 4) pe_int (nomark _)) (pss_cons (ps_set (i := 5) sc_l_several.nd rfl (Or.inl rfl) (pe_lst (pa_cons (pe_mkXK0 (mkr_NoSystem T) hr (by omega) rfl (pk_cons (pv 1) (pk_cons (pv 0) pk_nil))) (pa_cons (pe_mkXK0 (mkr_NotBrought T) hr (by omega) rfl (pk_cons (pv 1) (pk_cons (pv 0) pk_nil))) (pa_cons (pe_mkXK0 (mkr_TooGreat T) hr (by omega) rfl (pk_cons (pv 1) (pk_cons (pv 0) pk_nil))) pa_nil)))))
      (pss_cons (ps_set (i := 5) sc_l_several.nd rfl (Or.inl rfl) (pe_op op_cat (pv 5) (pe_lst (pa_cons (pe_mkXK0 (mkr_NotFair T) hr (by omega) rfl (pk_cons (pv 2) (pk_cons (pv 1) (pk_cons (pv 0) pk_nil)))) (pa_cons (pe_mkXK0 (mkr_TooRich T) hr (by omega) rfl (pk_cons (pv 2) (pk_cons (pv 1) (pk_cons (pv 0) pk_nil)))) pa_nil)))))
      (pss_one (ps_ret (pe_op op_cat (pv 5) (pe_lst (pa_cons (pe_mkXK0 (mkr_NotLet T) hr (by omega) rfl (pk_cons (pv 3) (pk_cons (pv 2) (pk_cons (pv 1) (pk_cons (pv 0) pk_nil))))) pa_nil))))))) pss_nil)
      (pss_cons (ps_set (i := 5) sc_l_several.nd rfl (Or.inl rfl) (pe_lst (pa_cons (pe_mkXK (mkm_NoSystem T) hr (by omega) rfl (by decide) (pa_cons (pv 0) pa_nil) (pk_cons (pv 1) pk_nil)) (pa_cons (pe_mkXK (mkm_NotBrought T) hr (by omega) rfl (by decide) (pa_cons (pv 0) pa_nil) (pk_cons (pv 1) pk_nil)) (pa_cons (pe_mkXK (mkm_TooGreat T) hr (by omega) rfl (by decide) (pa_cons (pv 0) pa_nil) (pk_cons (pv 1) pk_nil)) pa_nil)))))
      (pss_cons (ps_set (i := 5) sc_l_several.nd rfl (Or.inl rfl) (pe_op op_cat (pv 5) (pe_lst (pa_cons (pe_mkXK (mkm_NotFair T) hr (by omega) rfl (by decide) (pa_cons (pv 0) (pa_cons (pv 1) pa_nil)) (pk_cons (pv 2) pk_nil)) (pa_cons (pe_mkXK (mkm_TooRich T) hr (by omega) rfl (by decide) (pa_cons (pv 0) pa_nil) (pk_cons (pv 2) (pk_cons (pv 1) pk_nil))) pa_nil)))))
      (pss_one (ps_ret (pe_op op_cat (pv 5) (pe_lst (pa_cons (pe_mkXK (mkm_NotLet T) hr (by omega) rfl (by decide) (pa_cons (pv 0) (pa_cons (pv 1) pa_nil)) (pk_cons (pv 3) (pk_cons (pv 2) pk_nil))) pa_nil)))))))))), ?_⟩
  obtain ⟨x1, x2, x3, x4, wy, rfl, hw, hQ⟩ := h
  match wy, hw with
  | 0, _ =>
    refine ⟨_, rfl, rfl, _, rfl, iteTo (by decide) ?_⟩
    refine ⟨_, rfl, _, rfl, rfl, rfl, fun a1 H1 n1 e1 x1 d1 => ?_⟩
    refine ⟨_, rfl, _, rfl, rfl, rfl, fun a2 H2 n2 e2 x2 d2 => ?_⟩
    refine ⟨_, rfl, _, rfl, rfl, rfl, fun a3 H3 n3 e3 x3 d3 => ?_⟩
    refine ⟨_, rfl, _, rfl, _, rfl, rfl, rfl, fun a4 H4 n4 e4 x4 d4 => ?_⟩
    refine ⟨(by show 4 ≤ sizeLine; decide), fun l5 n5 => ?_⟩
    refine ⟨_, rfl, ?_⟩
    refine ⟨_, rfl, _, rfl, _, rfl, rfl, rfl, fun a6 H6 n6 e6 x6 d6 => ?_⟩
    refine ⟨_, rfl, _, rfl, _, rfl, _, rfl, rfl, rfl, fun a7 H7 n7 e7 x7 d7 => ?_⟩
    refine ⟨(by show 2 ≤ sizeLine; decide), fun l8 n8 => ?_⟩
    refine ⟨_, _, _, _, rfl, rfl, ((e6.trans (e7.trans (Evl.Ex.new n8))) _ _ upd_same), upd_same, (by show 6 ≤ sizeLine; decide), fun l9 n9 => ?_⟩
    refine hQ l9 [a1, a2, a3, a4, a6, a7] _ ?_ upd_same ?_
    · exact (e1.trans (e2.trans (e3.trans (e4.trans ((Evl.Ex.new n5).trans (e6.trans (e7.trans ((Evl.Ex.new n8).trans (Evl.Ex.new n9)))))))))
    · refine .cons (fun pn => (x1 pn).mono (e2.trans (e3.trans (e4.trans ((Evl.Ex.new n5).trans (e6.trans (e7.trans ((Evl.Ex.new n8).trans (Evl.Ex.new n9))))))))) ?_
      refine .cons (fun pn => (x2 pn).mono (e3.trans (e4.trans ((Evl.Ex.new n5).trans (e6.trans (e7.trans ((Evl.Ex.new n8).trans (Evl.Ex.new n9)))))))) ?_
      refine .cons (fun pn => (x3 pn).mono (e4.trans ((Evl.Ex.new n5).trans (e6.trans (e7.trans ((Evl.Ex.new n8).trans (Evl.Ex.new n9))))))) ?_
      refine .cons (fun pn => (x4 pn).mono ((Evl.Ex.new n5).trans (e6.trans (e7.trans ((Evl.Ex.new n8).trans (Evl.Ex.new n9)))))) ?_
      refine .cons (fun pn => (x6 pn).mono (e7.trans ((Evl.Ex.new n8).trans (Evl.Ex.new n9)))) ?_
      refine .cons (fun pn => (x7 pn).mono ((Evl.Ex.new n8).trans (Evl.Ex.new n9))) ?_
      exact .nil
  | 1, _ =>
    refine ⟨_, rfl, rfl, _, rfl, iteFo (by decide) ?_⟩
    refine ⟨_, rfl, rfl, _, rfl, iteTo (by decide) ?_⟩
    refine ⟨_, rfl, _, rfl, rfl, rfl, fun a1 H1 n1 e1 x1 d1 => ?_⟩
    refine ⟨_, rfl, _, rfl, rfl, rfl, fun a2 H2 n2 e2 x2 d2 => ?_⟩
    refine ⟨_, rfl, _, rfl, rfl, rfl, fun a3 H3 n3 e3 x3 d3 => ?_⟩
    refine ⟨(by show 3 ≤ sizeLine; decide), fun l4 n4 => ?_⟩
    refine ⟨_, rfl, ?_⟩
    refine ⟨_, rfl, _, rfl, _, rfl, rfl, rfl, fun a5 H5 n5 e5 x5 d5 => ?_⟩
    refine ⟨_, rfl, _, rfl, _, rfl, rfl, rfl, fun a6 H6 n6 e6 x6 d6 => ?_⟩
    refine ⟨(by show 2 ≤ sizeLine; decide), fun l7 n7 => ?_⟩
    refine ⟨_, _, _, _, rfl, rfl, ((e5.trans (e6.trans (Evl.Ex.new n7))) _ _ upd_same), upd_same, (by show 5 ≤ sizeLine; decide), fun l8 n8 => ?_⟩
    refine ⟨_, rfl, ?_⟩
    refine ⟨_, rfl, _, rfl, _, rfl, _, rfl, rfl, rfl, fun a9 H9 n9 e9 x9 d9 => ?_⟩
    refine ⟨(by show 1 ≤ sizeLine; decide), fun l10 n10 => ?_⟩
    refine ⟨_, _, _, _, rfl, rfl, ((e9.trans (Evl.Ex.new n10)) _ _ upd_same), upd_same, (by show 6 ≤ sizeLine; decide), fun l11 n11 => ?_⟩
    refine hQ l11 [a1, a2, a3, a5, a6, a9] _ ?_ upd_same ?_
    · exact (e1.trans (e2.trans (e3.trans ((Evl.Ex.new n4).trans (e5.trans (e6.trans ((Evl.Ex.new n7).trans ((Evl.Ex.new n8).trans (e9.trans ((Evl.Ex.new n10).trans (Evl.Ex.new n11)))))))))))
    · refine .cons (fun pn => (x1 pn).mono (e2.trans (e3.trans ((Evl.Ex.new n4).trans (e5.trans (e6.trans ((Evl.Ex.new n7).trans ((Evl.Ex.new n8).trans (e9.trans ((Evl.Ex.new n10).trans (Evl.Ex.new n11))))))))))) ?_
      refine .cons (fun pn => (x2 pn).mono (e3.trans ((Evl.Ex.new n4).trans (e5.trans (e6.trans ((Evl.Ex.new n7).trans ((Evl.Ex.new n8).trans (e9.trans ((Evl.Ex.new n10).trans (Evl.Ex.new n11)))))))))) ?_
      refine .cons (fun pn => (x3 pn).mono ((Evl.Ex.new n4).trans (e5.trans (e6.trans ((Evl.Ex.new n7).trans ((Evl.Ex.new n8).trans (e9.trans ((Evl.Ex.new n10).trans (Evl.Ex.new n11))))))))) ?_
      refine .cons (fun pn => (x5 pn).mono (e6.trans ((Evl.Ex.new n7).trans ((Evl.Ex.new n8).trans (e9.trans ((Evl.Ex.new n10).trans (Evl.Ex.new n11))))))) ?_
      refine .cons (fun pn => (x6 pn).mono ((Evl.Ex.new n7).trans ((Evl.Ex.new n8).trans (e9.trans ((Evl.Ex.new n10).trans (Evl.Ex.new n11)))))) ?_
      refine .cons (fun pn => (x9 pn).mono ((Evl.Ex.new n10).trans (Evl.Ex.new n11))) ?_
      exact .nil
  | 2, _ =>
    refine ⟨_, rfl, rfl, _, rfl, iteFo (by decide) ?_⟩
    refine ⟨_, rfl, rfl, _, rfl, iteFo (by decide) ?_⟩
    refine ⟨_, rfl, rfl, _, rfl, iteTo (by decide) ?_⟩
    refine ⟨_, rfl, _, rfl, rfl, rfl, fun a1 H1 n1 e1 x1 d1 => ?_⟩
    refine ⟨_, rfl, _, rfl, rfl, rfl, fun a2 H2 n2 e2 x2 d2 => ?_⟩
    refine ⟨_, rfl, _, rfl, rfl, rfl, fun a3 H3 n3 e3 x3 d3 => ?_⟩
    refine ⟨(by show 3 ≤ sizeLine; decide), fun l4 n4 => ?_⟩
    refine ⟨_, rfl, ?_⟩
    refine ⟨_, rfl, _, rfl, _, rfl, rfl, rfl, fun a5 H5 n5 e5 x5 d5 => ?_⟩
    refine ⟨_, rfl, _, rfl, _, rfl, rfl, rfl, fun a6 H6 n6 e6 x6 d6 => ?_⟩
    refine ⟨(by show 2 ≤ sizeLine; decide), fun l7 n7 => ?_⟩
    refine ⟨_, _, _, _, rfl, rfl, ((e5.trans (e6.trans (Evl.Ex.new n7))) _ _ upd_same), upd_same, (by show 5 ≤ sizeLine; decide), fun l8 n8 => ?_⟩
    refine ⟨_, rfl, ?_⟩
    refine ⟨_, rfl, _, rfl, _, rfl, _, rfl, rfl, rfl, fun a9 H9 n9 e9 x9 d9 => ?_⟩
    refine ⟨(by show 1 ≤ sizeLine; decide), fun l10 n10 => ?_⟩
    refine ⟨_, _, _, _, rfl, rfl, ((e9.trans (Evl.Ex.new n10)) _ _ upd_same), upd_same, (by show 6 ≤ sizeLine; decide), fun l11 n11 => ?_⟩
    refine hQ l11 [a1, a2, a3, a5, a6, a9] _ ?_ upd_same ?_
    · exact (e1.trans (e2.trans (e3.trans ((Evl.Ex.new n4).trans (e5.trans (e6.trans ((Evl.Ex.new n7).trans ((Evl.Ex.new n8).trans (e9.trans ((Evl.Ex.new n10).trans (Evl.Ex.new n11)))))))))))
    · refine .cons (fun pn => (x1 pn).mono (e2.trans (e3.trans ((Evl.Ex.new n4).trans (e5.trans (e6.trans ((Evl.Ex.new n7).trans ((Evl.Ex.new n8).trans (e9.trans ((Evl.Ex.new n10).trans (Evl.Ex.new n11))))))))))) ?_
      refine .cons (fun pn => (x2 pn).mono (e3.trans ((Evl.Ex.new n4).trans (e5.trans (e6.trans ((Evl.Ex.new n7).trans ((Evl.Ex.new n8).trans (e9.trans ((Evl.Ex.new n10).trans (Evl.Ex.new n11)))))))))) ?_
      refine .cons (fun pn => (x3 pn).mono ((Evl.Ex.new n4).trans (e5.trans (e6.trans ((Evl.Ex.new n7).trans ((Evl.Ex.new n8).trans (e9.trans ((Evl.Ex.new n10).trans (Evl.Ex.new n11))))))))) ?_
      refine .cons (fun pn => (x5 pn).mono (e6.trans ((Evl.Ex.new n7).trans ((Evl.Ex.new n8).trans (e9.trans ((Evl.Ex.new n10).trans (Evl.Ex.new n11))))))) ?_
      refine .cons (fun pn => (x6 pn).mono ((Evl.Ex.new n7).trans ((Evl.Ex.new n8).trans (e9.trans ((Evl.Ex.new n10).trans (Evl.Ex.new n11)))))) ?_
      refine .cons (fun pn => (x9 pn).mono ((Evl.Ex.new n10).trans (Evl.Ex.new n11))) ?_
      exact .nil
  | 3, _ =>
    refine ⟨_, rfl, rfl, _, rfl, iteFo (by decide) ?_⟩
    refine ⟨_, rfl, rfl, _, rfl, iteFo (by decide) ?_⟩
    refine ⟨_, rfl, rfl, _, rfl, iteFo (by decide) ?_⟩
    refine ⟨_, rfl, _, rfl, rfl, rfl, rfl, fun a1 H1 n1 e1 x1 d1 => ?_⟩
    refine ⟨_, rfl, _, rfl, rfl, rfl, rfl, fun a2 H2 n2 e2 x2 d2 => ?_⟩
    refine ⟨_, rfl, _, rfl, rfl, rfl, rfl, fun a3 H3 n3 e3 x3 d3 => ?_⟩
    refine ⟨(by show 3 ≤ sizeLine; decide), fun l4 n4 => ?_⟩
    refine ⟨_, rfl, ?_⟩
    refine ⟨_, rfl, _, rfl, _, rfl, rfl, rfl, rfl, fun a5 H5 n5 e5 x5 d5 => ?_⟩
    refine ⟨_, rfl, _, rfl, _, rfl, rfl, rfl, rfl, fun a6 H6 n6 e6 x6 d6 => ?_⟩
    refine ⟨(by show 2 ≤ sizeLine; decide), fun l7 n7 => ?_⟩
    refine ⟨_, _, _, _, rfl, rfl, ((e5.trans (e6.trans (Evl.Ex.new n7))) _ _ upd_same), upd_same, (by show 5 ≤ sizeLine; decide), fun l8 n8 => ?_⟩
    refine ⟨_, rfl, ?_⟩
    refine ⟨_, rfl, _, rfl, _, rfl, _, rfl, rfl, rfl, rfl, fun a9 H9 n9 e9 x9 d9 => ?_⟩
    refine ⟨(by show 1 ≤ sizeLine; decide), fun l10 n10 => ?_⟩
    refine ⟨_, _, _, _, rfl, rfl, ((e9.trans (Evl.Ex.new n10)) _ _ upd_same), upd_same, (by show 6 ≤ sizeLine; decide), fun l11 n11 => ?_⟩
    refine hQ l11 [a1, a2, a3, a5, a6, a9] _ ?_ upd_same ?_
    · exact (e1.trans (e2.trans (e3.trans ((Evl.Ex.new n4).trans (e5.trans (e6.trans ((Evl.Ex.new n7).trans ((Evl.Ex.new n8).trans (e9.trans ((Evl.Ex.new n10).trans (Evl.Ex.new n11)))))))))))
    · refine .cons (fun pn => (x1 pn).mono (e2.trans (e3.trans ((Evl.Ex.new n4).trans (e5.trans (e6.trans ((Evl.Ex.new n7).trans ((Evl.Ex.new n8).trans (e9.trans ((Evl.Ex.new n10).trans (Evl.Ex.new n11))))))))))) ?_
      refine .cons (fun pn => (x2 pn).mono (e3.trans ((Evl.Ex.new n4).trans (e5.trans (e6.trans ((Evl.Ex.new n7).trans ((Evl.Ex.new n8).trans (e9.trans ((Evl.Ex.new n10).trans (Evl.Ex.new n11)))))))))) ?_
      refine .cons (fun pn => (x3 pn).mono ((Evl.Ex.new n4).trans (e5.trans (e6.trans ((Evl.Ex.new n7).trans ((Evl.Ex.new n8).trans (e9.trans ((Evl.Ex.new n10).trans (Evl.Ex.new n11))))))))) ?_
      refine .cons (fun pn => (x5 pn).mono (e6.trans ((Evl.Ex.new n7).trans ((Evl.Ex.new n8).trans (e9.trans ((Evl.Ex.new n10).trans (Evl.Ex.new n11))))))) ?_
      refine .cons (fun pn => (x6 pn).mono ((Evl.Ex.new n7).trans ((Evl.Ex.new n8).trans (e9.trans ((Evl.Ex.new n10).trans (Evl.Ex.new n11)))))) ?_
      refine .cons (fun pn => (x9 pn).mono ((Evl.Ex.new n10).trans (Evl.Ex.new n11))) ?_
      exact .nil
  | n + 4, h => exact absurd h (by omega)

end
end K00
namespace K00
open PySem PySem.Spec PyProof.Rows L2 C8
section
variable {P : Program} {w : World} {K : PySem.W.Frag} {mg : Str → Option Value} {base : Heap}
theorem list37 (i : Nat) : ((List.range 37).map fun j => V.bl (decide (i = j))) = [V.bl (decide (i = 0)), V.bl (decide (i = 1)), V.bl (decide (i = 2)), V.bl (decide (i = 3)), V.bl (decide (i = 4)), V.bl (decide (i = 5)), V.bl (decide (i = 6)), V.bl (decide (i = 7)), V.bl (decide (i = 8)), V.bl (decide (i = 9)), V.bl (decide (i = 10)), V.bl (decide (i = 11)), V.bl (decide (i = 12)), V.bl (decide (i = 13)), V.bl (decide (i = 14)), V.bl (decide (i = 15)), V.bl (decide (i = 16)), V.bl (decide (i = 17)), V.bl (decide (i = 18)), V.bl (decide (i = 19)), V.bl (decide (i = 20)), V.bl (decide (i = 21)), V.bl (decide (i = 22)), V.bl (decide (i = 23)), V.bl (decide (i = 24)), V.bl (decide (i = 25)), V.bl (decide (i = 26)), V.bl (decide (i = 27)), V.bl (decide (i = 28)), V.bl (decide (i = 29)), V.bl (decide (i = 30)), V.bl (decide (i = 31)), V.bl (decide (i = 32)), V.bl (decide (i = 33)), V.bl (decide (i = 34)), V.bl (decide (i = 35)), V.bl (decide (i = 36))] := rfl
theorem given25 : ∀ i, i < 25 → (exs[i]?.map fun e : Str × List Str => e.2) = some ([("given" : Str)] : List Str) := by decide +kernel
theorem xv_inst {pn : List (Addr × Obj)} {H : Hp} {a C : Addr} {fs gs : List (Str × V)} (h : XV pn H a C fs) (e : fs = gs) : XV pn H a C gs := e ▸ h
/-- which errors an error is -/
def spSorts (K : PySem.W.Frag) (pn : List (Addr × Obj)) : Sp := fun vs H Q _ => ∃ (a : Addr) (i : Nat) (e : Str × List Str) (fs : List (Str × V)), vs = [.ref a] ∧ exs[i]? = some e ∧ XV pn H a (ca K e.1) fs ∧
  ∀ l H', Ex H H' → H' l = some (.lst ((List.range 37).map fun j => V.bl (decide (i = j)))) → Q (.ref l) H'
/-- what an error holds -/
def spKept (K : PySem.W.Frag) (pn : List (Addr × Obj)) : Sp := fun vs H Q _ => ∃ (a : Addr) (i : Nat) (e : Str × List Str) (us : List V), vs = [.ref a] ∧ exs[i]? = some e ∧ i < 34 ∧ us.length = e.2.length ∧ XV pn H a (ca K e.1) (e.2.zip us).reverse ∧
  ∀ l H', H l = none → Ex H H' → H' l = some (.lst us) → Q (.ref l) H'
/-- whether an error is of just this class -/
def spIs (K : PySem.W.Frag) (pn : List (Addr × Obj)) : Sp := fun vs H Q _ => ∃ (a : Addr) (i s : Nat) (e : Str × List Str) (fs : List (Str × V)), vs = [.ref a, .int (s : Int)] ∧ exs[i]? = some e ∧ XV pn H a (ca K e.1) fs ∧ ∀ H', Ex H H' → Q (.bl (decide (i = s))) H'
theorem filt (i n : Nat) : ((List.range (n + 1)).filter fun j => decide (i = j)) = if decide (i = n) = true then ((List.range n).filter fun j => decide (i = j)) ++ [n] else (List.range n).filter fun j => decide (i = j) := by
  rw [List.range_succ, List.filter_append]
  by_cases h : i = n
  · simp [h]
  · simp [h]
theorem filt_all {i n : Nat} (h : i < n) : ((List.range n).filter fun j => decide (i = j)) = [i] := by
  induction n with
  | zero => omega
  | succ n ih =>
    rw [filt]
    by_cases e : i = n
    · rw [if_pos (decide_eq_true e)]
      subst e
      have : ((List.range i).filter fun j => decide (i = j)) = [] := by
        rw [List.filter_eq_nil_iff]
        intro j hj
        have := List.mem_range.mp hj
        simp
        omega
      rw [this]
      rfl
    · rw [if_neg (by simpa using e), ih (by omega)]
theorem exs_lt {i : Nat} {e : Str × List Str} (h : exs[i]? = some e) : i < 37 := (List.getElem?_eq_some_iff.mp h).1
theorem one_shaped (i : Int) : SeqAt.shaped (.list [.int i]) = true := by
  simp [SeqAt.shaped, PyData.canLay0, PyData.canLayAll0, PyData.depth, PyData.depthAll]
theorem eqv1 (i s : Nat) : PyData.eqv (.list [.int (i : Int)]) (.list [.int (s : Int)]) = decide (i = s) := by
  simp [PyData.eqv, PyData.eqvAll]
  by_cases h : i = s
  · subst h; simp
  · rw [decide_eq_false h]; exact beq_eq_false_iff_ne.mpr (by omega)
abbrev N_l_sorts : List Str := ["_law_e", "_law_found"]
theorem sc_l_sorts : FnScope N_l_sorts ["_law_e"] (defScope (top 66)) := ⟨rfl, rfl, rfl, by decide +kernel, rfl, by decide +kernel, by decide +kernel⟩

theorem ok_l_sorts (T : Txt K mg)  : Cal P w K mg base 2 "_law_sorts" (spSorts K []) [] := by
  obtain ⟨fd, F⟩ := T.d__law_sorts
  refine ⟨_, fd, ["_law_e"], [], ?_, T.g__law_sorts, F.kp, F.bindsN fun _ _ _ _ _ _ us hl => match us, hl with | [_], _ => rfl, .nil⟩
  refine F.ok sc_l_sorts (fun vs H Q E h => by obtain ⟨_, _, _, _, rfl, _⟩ := h; rfl) (fun cdv A outer s H vs Q E hr h => ?_)
  have hu := hu_of hr
  refine ⟨_, PSs.nox (pss_cons (ps_set (i := 1) sc_l_sorts.nd rfl (Or.inl rfl) (pe_lst (pa_cons (pe_callB call_isX (by rfl) T.f_isinstance (by decide +kernel) (pa_cons (pv 0) (pa_cons (pe_gc rfl T.c_InvalidNumber) pa_nil))) (pa_cons (pe_callB call_isX (by rfl) T.f_isinstance (by decide +kernel) (pa_cons (pv 0) (pa_cons (pe_gc rfl T.c_InvalidLots) pa_nil))) (pa_cons (pe_callB call_isX (by rfl) T.f_isinstance (by decide +kernel) (pa_cons (pv 0) (pa_cons (pe_gc rfl T.c_InvalidLot) pa_nil))) pa_nil)))))
      (pss_cons (ps_set (i := 1) sc_l_sorts.nd rfl (Or.inl rfl) (pe_op op_cat (pv 1) (pe_lst (pa_cons (pe_callB call_isX (by rfl) T.f_isinstance (by decide +kernel) (pa_cons (pv 0) (pa_cons (pe_gc rfl T.c_InvalidPayoff) pa_nil))) (pa_cons (pe_callB call_isX (by rfl) T.f_isinstance (by decide +kernel) (pa_cons (pv 0) (pa_cons (pe_gc rfl T.c_InvalidNames) pa_nil))) (pa_cons (pe_callB call_isX (by rfl) T.f_isinstance (by decide +kernel) (pa_cons (pv 0) (pa_cons (pe_gc rfl T.c_InvalidStore) pa_nil))) pa_nil))))))
      (pss_cons (ps_set (i := 1) sc_l_sorts.nd rfl (Or.inl rfl) (pe_op op_cat (pv 1) (pe_lst (pa_cons (pe_callB call_isX (by rfl) T.f_isinstance (by decide +kernel) (pa_cons (pv 0) (pa_cons (pe_gc rfl T.c_InvalidValues) pa_nil))) (pa_cons (pe_callB call_isX (by rfl) T.f_isinstance (by decide +kernel) (pa_cons (pv 0) (pa_cons (pe_gc rfl T.c_InvalidText) pa_nil))) (pa_cons (pe_callB call_isX (by rfl) T.f_isinstance (by decide +kernel) (pa_cons (pv 0) (pa_cons (pe_gc rfl T.c_InvalidSystem) pa_nil))) pa_nil))))))
      (pss_cons (ps_set (i := 1) sc_l_sorts.nd rfl (Or.inl rfl) (pe_op op_cat (pv 1) (pe_lst (pa_cons (pe_callB call_isX (by rfl) T.f_isinstance (by decide +kernel) (pa_cons (pv 0) (pa_cons (pe_gc rfl T.c_InvalidUnit) pa_nil))) (pa_cons (pe_callB call_isX (by rfl) T.f_isinstance (by decide +kernel) (pa_cons (pv 0) (pa_cons (pe_gc rfl T.c_InvalidBody) pa_nil))) pa_nil)))))
      (pss_cons (ps_set (i := 1) sc_l_sorts.nd rfl (Or.inl rfl) (pe_op op_cat (pv 1) (pe_lst (pa_cons (pe_callB call_isX (by rfl) T.f_isinstance (by decide +kernel) (pa_cons (pv 0) (pa_cons (pe_gc rfl T.c_InvalidSteps) pa_nil))) (pa_cons (pe_callB call_isX (by rfl) T.f_isinstance (by decide +kernel) (pa_cons (pv 0) (pa_cons (pe_gc rfl T.c_InvalidSummaries) pa_nil))) pa_nil)))))
      (pss_cons (ps_set (i := 1) sc_l_sorts.nd rfl (Or.inl rfl) (pe_op op_cat (pv 1) (pe_lst (pa_cons (pe_callB call_isX (by rfl) T.f_isinstance (by decide +kernel) (pa_cons (pv 0) (pa_cons (pe_gc rfl T.c_InvalidRow) pa_nil))) (pa_cons (pe_callB call_isX (by rfl) T.f_isinstance (by decide +kernel) (pa_cons (pv 0) (pa_cons (pe_gc rfl T.c_InvalidPick) pa_nil))) (pa_cons (pe_callB call_isX (by rfl) T.f_isinstance (by decide +kernel) (pa_cons (pv 0) (pa_cons (pe_gc rfl T.c_InvalidBlend) pa_nil))) pa_nil))))))
      (pss_cons (ps_set (i := 1) sc_l_sorts.nd rfl (Or.inl rfl) (pe_op op_cat (pv 1) (pe_lst (pa_cons (pe_callB call_isX (by rfl) T.f_isinstance (by decide +kernel) (pa_cons (pv 0) (pa_cons (pe_gc rfl T.c_InvalidCode) pa_nil))) (pa_cons (pe_callB call_isX (by rfl) T.f_isinstance (by decide +kernel) (pa_cons (pv 0) (pa_cons (pe_gc rfl T.c_InvalidLines) pa_nil))) (pa_cons (pe_callB call_isX (by rfl) T.f_isinstance (by decide +kernel) (pa_cons (pv 0) (pa_cons (pe_gc rfl T.c_InvalidAnswer) pa_nil))) pa_nil))))))
      (pss_cons (ps_set (i := 1) sc_l_sorts.nd rfl (Or.inl rfl) (pe_op op_cat (pv 1) (pe_lst (pa_cons (pe_callB call_isX (by rfl) T.f_isinstance (by decide +kernel) (pa_cons (pv 0) (pa_cons (pe_gc rfl T.c_InvalidPart) pa_nil))) (pa_cons (pe_callB call_isX (by rfl) T.f_isinstance (by decide +kernel) (pa_cons (pv 0) (pa_cons (pe_gc rfl T.c_InvalidEdition) pa_nil))) (pa_cons (pe_callB call_isX (by rfl) T.f_isinstance (by decide +kernel) (pa_cons (pv 0) (pa_cons (pe_gc rfl T.c_InvalidGame) pa_nil))) pa_nil))))))
      (pss_cons (ps_set (i := 1) sc_l_sorts.nd rfl (Or.inl rfl) (pe_op op_cat (pv 1) (pe_lst (pa_cons (pe_callB call_isX (by rfl) T.f_isinstance (by decide +kernel) (pa_cons (pv 0) (pa_cons (pe_gc rfl T.c_InvalidPlan) pa_nil))) (pa_cons (pe_callB call_isX (by rfl) T.f_isinstance (by decide +kernel) (pa_cons (pv 0) (pa_cons (pe_gc rfl T.c_InvalidRecord) pa_nil))) (pa_cons (pe_callB call_isX (by rfl) T.f_isinstance (by decide +kernel) (pa_cons (pv 0) (pa_cons (pe_gc rfl T.c_InvalidName) pa_nil))) pa_nil))))))
      (pss_cons (ps_set (i := 1) sc_l_sorts.nd rfl (Or.inl rfl) (pe_op op_cat (pv 1) (pe_lst (pa_cons (pe_callB call_isX (by rfl) T.f_isinstance (by decide +kernel) (pa_cons (pv 0) (pa_cons (pe_gc rfl T.c_Outside) pa_nil))) (pa_cons (pe_callB call_isX (by rfl) T.f_isinstance (by decide +kernel) (pa_cons (pv 0) (pa_cons (pe_gc rfl T.c_TooMany) pa_nil))) (pa_cons (pe_callB call_isX (by rfl) T.f_isinstance (by decide +kernel) (pa_cons (pv 0) (pa_cons (pe_gc rfl T.c_NoThing) pa_nil))) (pa_cons (pe_callB call_isX (by rfl) T.f_isinstance (by decide +kernel) (pa_cons (pv 0) (pa_cons (pe_gc rfl T.c_NoSystem) pa_nil))) pa_nil)))))))
      (pss_cons (ps_set (i := 1) sc_l_sorts.nd rfl (Or.inl rfl) (pe_op op_cat (pv 1) (pe_lst (pa_cons (pe_callB call_isX (by rfl) T.f_isinstance (by decide +kernel) (pa_cons (pv 0) (pa_cons (pe_gc rfl T.c_NotBrought) pa_nil))) (pa_cons (pe_callB call_isX (by rfl) T.f_isinstance (by decide +kernel) (pa_cons (pv 0) (pa_cons (pe_gc rfl T.c_TooGreat) pa_nil))) (pa_cons (pe_callB call_isX (by rfl) T.f_isinstance (by decide +kernel) (pa_cons (pv 0) (pa_cons (pe_gc rfl T.c_NotFair) pa_nil))) (pa_cons (pe_callB call_isX (by rfl) T.f_isinstance (by decide +kernel) (pa_cons (pv 0) (pa_cons (pe_gc rfl T.c_TooRich) pa_nil))) pa_nil)))))))
      (pss_one (ps_ret (pe_op op_cat (pv 1) (pe_lst (pa_cons (pe_callB call_isX (by rfl) T.f_isinstance (by decide +kernel) (pa_cons (pv 0) (pa_cons (pe_gc rfl T.c_NotLet) pa_nil))) (pa_cons (pe_callB call_isX (by rfl) T.f_isinstance (by decide +kernel) (pa_cons (pv 0) (pa_cons (pe_gc rfl T.c_ByZero) pa_nil))) (pa_cons (pe_callB call_isX (by rfl) T.f_isinstance (by decide +kernel) (pa_cons (pv 0) (pa_cons (pe_gc rfl T.c_NotAsked) pa_nil))) (pa_cons (pe_callB call_isX (by rfl) T.f_isinstance (by decide +kernel) (pa_cons (pv 0) (pa_cons (pe_gc rfl T.c_NothingToUndo) pa_nil))) pa_nil))))))))))))))))))), ?_⟩
  obtain ⟨a, i, ⟨x, fl⟩, fs, rfl, hi, hx, hQ⟩ := h
  refine ⟨_, rfl, a, _, _, _, _, _, _, _, _, rfl, exT T hi, hx, .own _, kitIJ T hi (j := 0) rfl, ?_⟩
  refine ⟨_, rfl, a, _, _, _, _, _, _, _, _, rfl, exT T hi, hx, .own _, kitIJ T hi (j := 1) rfl, ?_⟩
  refine ⟨_, rfl, a, _, _, _, _, _, _, _, _, rfl, exT T hi, hx, .own _, kitIJ T hi (j := 2) rfl, ?_⟩
  refine ⟨(by show 3 ≤ sizeLine; decide), fun l1 n1 => ?_⟩
  refine ⟨_, rfl, ?_⟩
  refine ⟨_, rfl, a, _, _, _, _, _, _, _, _, rfl, exT T hi, (hx.mono (Evl.Ex.new n1)), .own _, kitIJ T hi (j := 3) rfl, ?_⟩
  refine ⟨_, rfl, a, _, _, _, _, _, _, _, _, rfl, exT T hi, (hx.mono (Evl.Ex.new n1)), .own _, kitIJ T hi (j := 4) rfl, ?_⟩
  refine ⟨_, rfl, a, _, _, _, _, _, _, _, _, rfl, exT T hi, (hx.mono (Evl.Ex.new n1)), .own _, kitIJ T hi (j := 5) rfl, ?_⟩
  refine ⟨(by show 3 ≤ sizeLine; decide), fun l2 n2 => ?_⟩
  refine ⟨_, _, _, _, rfl, rfl, ((Evl.Ex.new n2) _ _ upd_same), upd_same, (by show 6 ≤ sizeLine; decide), fun l3 n3 => ?_⟩
  refine ⟨_, rfl, ?_⟩
  refine ⟨_, rfl, a, _, _, _, _, _, _, _, _, rfl, exT T hi, (hx.mono ((Evl.Ex.new n1).trans ((Evl.Ex.new n2).trans (Evl.Ex.new n3)))), .own _, kitIJ T hi (j := 6) rfl, ?_⟩
  refine ⟨_, rfl, a, _, _, _, _, _, _, _, _, rfl, exT T hi, (hx.mono ((Evl.Ex.new n1).trans ((Evl.Ex.new n2).trans (Evl.Ex.new n3)))), .own _, kitIJ T hi (j := 7) rfl, ?_⟩
  refine ⟨_, rfl, a, _, _, _, _, _, _, _, _, rfl, exT T hi, (hx.mono ((Evl.Ex.new n1).trans ((Evl.Ex.new n2).trans (Evl.Ex.new n3)))), .own _, kitIJ T hi (j := 8) rfl, ?_⟩
  refine ⟨(by show 3 ≤ sizeLine; decide), fun l4 n4 => ?_⟩
  refine ⟨_, _, _, _, rfl, rfl, ((Evl.Ex.new n4) _ _ upd_same), upd_same, (by show 9 ≤ sizeLine; decide), fun l5 n5 => ?_⟩
  refine ⟨_, rfl, ?_⟩
  refine ⟨_, rfl, a, _, _, _, _, _, _, _, _, rfl, exT T hi, (hx.mono ((Evl.Ex.new n1).trans ((Evl.Ex.new n2).trans ((Evl.Ex.new n3).trans ((Evl.Ex.new n4).trans (Evl.Ex.new n5)))))), .own _, kitIJ T hi (j := 9) rfl, ?_⟩
  refine ⟨_, rfl, a, _, _, _, _, _, _, _, _, rfl, exT T hi, (hx.mono ((Evl.Ex.new n1).trans ((Evl.Ex.new n2).trans ((Evl.Ex.new n3).trans ((Evl.Ex.new n4).trans (Evl.Ex.new n5)))))), .own _, kitIJ T hi (j := 10) rfl, ?_⟩
  refine ⟨(by show 2 ≤ sizeLine; decide), fun l6 n6 => ?_⟩
  refine ⟨_, _, _, _, rfl, rfl, ((Evl.Ex.new n6) _ _ upd_same), upd_same, (by show 11 ≤ sizeLine; decide), fun l7 n7 => ?_⟩
  refine ⟨_, rfl, ?_⟩
  refine ⟨_, rfl, a, _, _, _, _, _, _, _, _, rfl, exT T hi, (hx.mono ((Evl.Ex.new n1).trans ((Evl.Ex.new n2).trans ((Evl.Ex.new n3).trans ((Evl.Ex.new n4).trans ((Evl.Ex.new n5).trans ((Evl.Ex.new n6).trans (Evl.Ex.new n7)))))))), .own _, kitIJ T hi (j := 11) rfl, ?_⟩
  refine ⟨_, rfl, a, _, _, _, _, _, _, _, _, rfl, exT T hi, (hx.mono ((Evl.Ex.new n1).trans ((Evl.Ex.new n2).trans ((Evl.Ex.new n3).trans ((Evl.Ex.new n4).trans ((Evl.Ex.new n5).trans ((Evl.Ex.new n6).trans (Evl.Ex.new n7)))))))), .own _, kitIJ T hi (j := 12) rfl, ?_⟩
  refine ⟨(by show 2 ≤ sizeLine; decide), fun l8 n8 => ?_⟩
  refine ⟨_, _, _, _, rfl, rfl, ((Evl.Ex.new n8) _ _ upd_same), upd_same, (by show 13 ≤ sizeLine; decide), fun l9 n9 => ?_⟩
  refine ⟨_, rfl, ?_⟩
  refine ⟨_, rfl, a, _, _, _, _, _, _, _, _, rfl, exT T hi, (hx.mono ((Evl.Ex.new n1).trans ((Evl.Ex.new n2).trans ((Evl.Ex.new n3).trans ((Evl.Ex.new n4).trans ((Evl.Ex.new n5).trans ((Evl.Ex.new n6).trans ((Evl.Ex.new n7).trans ((Evl.Ex.new n8).trans (Evl.Ex.new n9)))))))))), .own _, kitIJ T hi (j := 13) rfl, ?_⟩
  refine ⟨_, rfl, a, _, _, _, _, _, _, _, _, rfl, exT T hi, (hx.mono ((Evl.Ex.new n1).trans ((Evl.Ex.new n2).trans ((Evl.Ex.new n3).trans ((Evl.Ex.new n4).trans ((Evl.Ex.new n5).trans ((Evl.Ex.new n6).trans ((Evl.Ex.new n7).trans ((Evl.Ex.new n8).trans (Evl.Ex.new n9)))))))))), .own _, kitIJ T hi (j := 14) rfl, ?_⟩
  refine ⟨_, rfl, a, _, _, _, _, _, _, _, _, rfl, exT T hi, (hx.mono ((Evl.Ex.new n1).trans ((Evl.Ex.new n2).trans ((Evl.Ex.new n3).trans ((Evl.Ex.new n4).trans ((Evl.Ex.new n5).trans ((Evl.Ex.new n6).trans ((Evl.Ex.new n7).trans ((Evl.Ex.new n8).trans (Evl.Ex.new n9)))))))))), .own _, kitIJ T hi (j := 15) rfl, ?_⟩
  refine ⟨(by show 3 ≤ sizeLine; decide), fun l10 n10 => ?_⟩
  refine ⟨_, _, _, _, rfl, rfl, ((Evl.Ex.new n10) _ _ upd_same), upd_same, (by show 16 ≤ sizeLine; decide), fun l11 n11 => ?_⟩
  refine ⟨_, rfl, ?_⟩
  refine ⟨_, rfl, a, _, _, _, _, _, _, _, _, rfl, exT T hi, (hx.mono ((Evl.Ex.new n1).trans ((Evl.Ex.new n2).trans ((Evl.Ex.new n3).trans ((Evl.Ex.new n4).trans ((Evl.Ex.new n5).trans ((Evl.Ex.new n6).trans ((Evl.Ex.new n7).trans ((Evl.Ex.new n8).trans ((Evl.Ex.new n9).trans ((Evl.Ex.new n10).trans (Evl.Ex.new n11)))))))))))), .own _, kitIJ T hi (j := 16) rfl, ?_⟩
  refine ⟨_, rfl, a, _, _, _, _, _, _, _, _, rfl, exT T hi, (hx.mono ((Evl.Ex.new n1).trans ((Evl.Ex.new n2).trans ((Evl.Ex.new n3).trans ((Evl.Ex.new n4).trans ((Evl.Ex.new n5).trans ((Evl.Ex.new n6).trans ((Evl.Ex.new n7).trans ((Evl.Ex.new n8).trans ((Evl.Ex.new n9).trans ((Evl.Ex.new n10).trans (Evl.Ex.new n11)))))))))))), .own _, kitIJ T hi (j := 17) rfl, ?_⟩
  refine ⟨_, rfl, a, _, _, _, _, _, _, _, _, rfl, exT T hi, (hx.mono ((Evl.Ex.new n1).trans ((Evl.Ex.new n2).trans ((Evl.Ex.new n3).trans ((Evl.Ex.new n4).trans ((Evl.Ex.new n5).trans ((Evl.Ex.new n6).trans ((Evl.Ex.new n7).trans ((Evl.Ex.new n8).trans ((Evl.Ex.new n9).trans ((Evl.Ex.new n10).trans (Evl.Ex.new n11)))))))))))), .own _, kitIJ T hi (j := 18) rfl, ?_⟩
  refine ⟨(by show 3 ≤ sizeLine; decide), fun l12 n12 => ?_⟩
  refine ⟨_, _, _, _, rfl, rfl, ((Evl.Ex.new n12) _ _ upd_same), upd_same, (by show 19 ≤ sizeLine; decide), fun l13 n13 => ?_⟩
  refine ⟨_, rfl, ?_⟩
  refine ⟨_, rfl, a, _, _, _, _, _, _, _, _, rfl, exT T hi, (hx.mono ((Evl.Ex.new n1).trans ((Evl.Ex.new n2).trans ((Evl.Ex.new n3).trans ((Evl.Ex.new n4).trans ((Evl.Ex.new n5).trans ((Evl.Ex.new n6).trans ((Evl.Ex.new n7).trans ((Evl.Ex.new n8).trans ((Evl.Ex.new n9).trans ((Evl.Ex.new n10).trans ((Evl.Ex.new n11).trans ((Evl.Ex.new n12).trans (Evl.Ex.new n13)))))))))))))), .own _, kitIJ T hi (j := 19) rfl, ?_⟩
  refine ⟨_, rfl, a, _, _, _, _, _, _, _, _, rfl, exT T hi, (hx.mono ((Evl.Ex.new n1).trans ((Evl.Ex.new n2).trans ((Evl.Ex.new n3).trans ((Evl.Ex.new n4).trans ((Evl.Ex.new n5).trans ((Evl.Ex.new n6).trans ((Evl.Ex.new n7).trans ((Evl.Ex.new n8).trans ((Evl.Ex.new n9).trans ((Evl.Ex.new n10).trans ((Evl.Ex.new n11).trans ((Evl.Ex.new n12).trans (Evl.Ex.new n13)))))))))))))), .own _, kitIJ T hi (j := 20) rfl, ?_⟩
  refine ⟨_, rfl, a, _, _, _, _, _, _, _, _, rfl, exT T hi, (hx.mono ((Evl.Ex.new n1).trans ((Evl.Ex.new n2).trans ((Evl.Ex.new n3).trans ((Evl.Ex.new n4).trans ((Evl.Ex.new n5).trans ((Evl.Ex.new n6).trans ((Evl.Ex.new n7).trans ((Evl.Ex.new n8).trans ((Evl.Ex.new n9).trans ((Evl.Ex.new n10).trans ((Evl.Ex.new n11).trans ((Evl.Ex.new n12).trans (Evl.Ex.new n13)))))))))))))), .own _, kitIJ T hi (j := 21) rfl, ?_⟩
  refine ⟨(by show 3 ≤ sizeLine; decide), fun l14 n14 => ?_⟩
  refine ⟨_, _, _, _, rfl, rfl, ((Evl.Ex.new n14) _ _ upd_same), upd_same, (by show 22 ≤ sizeLine; decide), fun l15 n15 => ?_⟩
  refine ⟨_, rfl, ?_⟩
  refine ⟨_, rfl, a, _, _, _, _, _, _, _, _, rfl, exT T hi, (hx.mono ((Evl.Ex.new n1).trans ((Evl.Ex.new n2).trans ((Evl.Ex.new n3).trans ((Evl.Ex.new n4).trans ((Evl.Ex.new n5).trans ((Evl.Ex.new n6).trans ((Evl.Ex.new n7).trans ((Evl.Ex.new n8).trans ((Evl.Ex.new n9).trans ((Evl.Ex.new n10).trans ((Evl.Ex.new n11).trans ((Evl.Ex.new n12).trans ((Evl.Ex.new n13).trans ((Evl.Ex.new n14).trans (Evl.Ex.new n15)))))))))))))))), .own _, kitIJ T hi (j := 22) rfl, ?_⟩
  refine ⟨_, rfl, a, _, _, _, _, _, _, _, _, rfl, exT T hi, (hx.mono ((Evl.Ex.new n1).trans ((Evl.Ex.new n2).trans ((Evl.Ex.new n3).trans ((Evl.Ex.new n4).trans ((Evl.Ex.new n5).trans ((Evl.Ex.new n6).trans ((Evl.Ex.new n7).trans ((Evl.Ex.new n8).trans ((Evl.Ex.new n9).trans ((Evl.Ex.new n10).trans ((Evl.Ex.new n11).trans ((Evl.Ex.new n12).trans ((Evl.Ex.new n13).trans ((Evl.Ex.new n14).trans (Evl.Ex.new n15)))))))))))))))), .own _, kitIJ T hi (j := 23) rfl, ?_⟩
  refine ⟨_, rfl, a, _, _, _, _, _, _, _, _, rfl, exT T hi, (hx.mono ((Evl.Ex.new n1).trans ((Evl.Ex.new n2).trans ((Evl.Ex.new n3).trans ((Evl.Ex.new n4).trans ((Evl.Ex.new n5).trans ((Evl.Ex.new n6).trans ((Evl.Ex.new n7).trans ((Evl.Ex.new n8).trans ((Evl.Ex.new n9).trans ((Evl.Ex.new n10).trans ((Evl.Ex.new n11).trans ((Evl.Ex.new n12).trans ((Evl.Ex.new n13).trans ((Evl.Ex.new n14).trans (Evl.Ex.new n15)))))))))))))))), .own _, kitIJ T hi (j := 24) rfl, ?_⟩
  refine ⟨(by show 3 ≤ sizeLine; decide), fun l16 n16 => ?_⟩
  refine ⟨_, _, _, _, rfl, rfl, ((Evl.Ex.new n16) _ _ upd_same), upd_same, (by show 25 ≤ sizeLine; decide), fun l17 n17 => ?_⟩
  refine ⟨_, rfl, ?_⟩
  refine ⟨_, rfl, a, _, _, _, _, _, _, _, _, rfl, exT T hi, (hx.mono ((Evl.Ex.new n1).trans ((Evl.Ex.new n2).trans ((Evl.Ex.new n3).trans ((Evl.Ex.new n4).trans ((Evl.Ex.new n5).trans ((Evl.Ex.new n6).trans ((Evl.Ex.new n7).trans ((Evl.Ex.new n8).trans ((Evl.Ex.new n9).trans ((Evl.Ex.new n10).trans ((Evl.Ex.new n11).trans ((Evl.Ex.new n12).trans ((Evl.Ex.new n13).trans ((Evl.Ex.new n14).trans ((Evl.Ex.new n15).trans ((Evl.Ex.new n16).trans (Evl.Ex.new n17)))))))))))))))))), .own _, kitIJ T hi (j := 25) rfl, ?_⟩
  refine ⟨_, rfl, a, _, _, _, _, _, _, _, _, rfl, exT T hi, (hx.mono ((Evl.Ex.new n1).trans ((Evl.Ex.new n2).trans ((Evl.Ex.new n3).trans ((Evl.Ex.new n4).trans ((Evl.Ex.new n5).trans ((Evl.Ex.new n6).trans ((Evl.Ex.new n7).trans ((Evl.Ex.new n8).trans ((Evl.Ex.new n9).trans ((Evl.Ex.new n10).trans ((Evl.Ex.new n11).trans ((Evl.Ex.new n12).trans ((Evl.Ex.new n13).trans ((Evl.Ex.new n14).trans ((Evl.Ex.new n15).trans ((Evl.Ex.new n16).trans (Evl.Ex.new n17)))))))))))))))))), .own _, kitIJ T hi (j := 26) rfl, ?_⟩
  refine ⟨_, rfl, a, _, _, _, _, _, _, _, _, rfl, exT T hi, (hx.mono ((Evl.Ex.new n1).trans ((Evl.Ex.new n2).trans ((Evl.Ex.new n3).trans ((Evl.Ex.new n4).trans ((Evl.Ex.new n5).trans ((Evl.Ex.new n6).trans ((Evl.Ex.new n7).trans ((Evl.Ex.new n8).trans ((Evl.Ex.new n9).trans ((Evl.Ex.new n10).trans ((Evl.Ex.new n11).trans ((Evl.Ex.new n12).trans ((Evl.Ex.new n13).trans ((Evl.Ex.new n14).trans ((Evl.Ex.new n15).trans ((Evl.Ex.new n16).trans (Evl.Ex.new n17)))))))))))))))))), .own _, kitIJ T hi (j := 27) rfl, ?_⟩
  refine ⟨_, rfl, a, _, _, _, _, _, _, _, _, rfl, exT T hi, (hx.mono ((Evl.Ex.new n1).trans ((Evl.Ex.new n2).trans ((Evl.Ex.new n3).trans ((Evl.Ex.new n4).trans ((Evl.Ex.new n5).trans ((Evl.Ex.new n6).trans ((Evl.Ex.new n7).trans ((Evl.Ex.new n8).trans ((Evl.Ex.new n9).trans ((Evl.Ex.new n10).trans ((Evl.Ex.new n11).trans ((Evl.Ex.new n12).trans ((Evl.Ex.new n13).trans ((Evl.Ex.new n14).trans ((Evl.Ex.new n15).trans ((Evl.Ex.new n16).trans (Evl.Ex.new n17)))))))))))))))))), .own _, kitIJ T hi (j := 28) rfl, ?_⟩
  refine ⟨(by show 4 ≤ sizeLine; decide), fun l18 n18 => ?_⟩
  refine ⟨_, _, _, _, rfl, rfl, ((Evl.Ex.new n18) _ _ upd_same), upd_same, (by show 29 ≤ sizeLine; decide), fun l19 n19 => ?_⟩
  refine ⟨_, rfl, ?_⟩
  refine ⟨_, rfl, a, _, _, _, _, _, _, _, _, rfl, exT T hi, (hx.mono ((Evl.Ex.new n1).trans ((Evl.Ex.new n2).trans ((Evl.Ex.new n3).trans ((Evl.Ex.new n4).trans ((Evl.Ex.new n5).trans ((Evl.Ex.new n6).trans ((Evl.Ex.new n7).trans ((Evl.Ex.new n8).trans ((Evl.Ex.new n9).trans ((Evl.Ex.new n10).trans ((Evl.Ex.new n11).trans ((Evl.Ex.new n12).trans ((Evl.Ex.new n13).trans ((Evl.Ex.new n14).trans ((Evl.Ex.new n15).trans ((Evl.Ex.new n16).trans ((Evl.Ex.new n17).trans ((Evl.Ex.new n18).trans (Evl.Ex.new n19)))))))))))))))))))), .own _, kitIJ T hi (j := 29) rfl, ?_⟩
  refine ⟨_, rfl, a, _, _, _, _, _, _, _, _, rfl, exT T hi, (hx.mono ((Evl.Ex.new n1).trans ((Evl.Ex.new n2).trans ((Evl.Ex.new n3).trans ((Evl.Ex.new n4).trans ((Evl.Ex.new n5).trans ((Evl.Ex.new n6).trans ((Evl.Ex.new n7).trans ((Evl.Ex.new n8).trans ((Evl.Ex.new n9).trans ((Evl.Ex.new n10).trans ((Evl.Ex.new n11).trans ((Evl.Ex.new n12).trans ((Evl.Ex.new n13).trans ((Evl.Ex.new n14).trans ((Evl.Ex.new n15).trans ((Evl.Ex.new n16).trans ((Evl.Ex.new n17).trans ((Evl.Ex.new n18).trans (Evl.Ex.new n19)))))))))))))))))))), .own _, kitIJ T hi (j := 30) rfl, ?_⟩
  refine ⟨_, rfl, a, _, _, _, _, _, _, _, _, rfl, exT T hi, (hx.mono ((Evl.Ex.new n1).trans ((Evl.Ex.new n2).trans ((Evl.Ex.new n3).trans ((Evl.Ex.new n4).trans ((Evl.Ex.new n5).trans ((Evl.Ex.new n6).trans ((Evl.Ex.new n7).trans ((Evl.Ex.new n8).trans ((Evl.Ex.new n9).trans ((Evl.Ex.new n10).trans ((Evl.Ex.new n11).trans ((Evl.Ex.new n12).trans ((Evl.Ex.new n13).trans ((Evl.Ex.new n14).trans ((Evl.Ex.new n15).trans ((Evl.Ex.new n16).trans ((Evl.Ex.new n17).trans ((Evl.Ex.new n18).trans (Evl.Ex.new n19)))))))))))))))))))), .own _, kitIJ T hi (j := 31) rfl, ?_⟩
  refine ⟨_, rfl, a, _, _, _, _, _, _, _, _, rfl, exT T hi, (hx.mono ((Evl.Ex.new n1).trans ((Evl.Ex.new n2).trans ((Evl.Ex.new n3).trans ((Evl.Ex.new n4).trans ((Evl.Ex.new n5).trans ((Evl.Ex.new n6).trans ((Evl.Ex.new n7).trans ((Evl.Ex.new n8).trans ((Evl.Ex.new n9).trans ((Evl.Ex.new n10).trans ((Evl.Ex.new n11).trans ((Evl.Ex.new n12).trans ((Evl.Ex.new n13).trans ((Evl.Ex.new n14).trans ((Evl.Ex.new n15).trans ((Evl.Ex.new n16).trans ((Evl.Ex.new n17).trans ((Evl.Ex.new n18).trans (Evl.Ex.new n19)))))))))))))))))))), .own _, kitIJ T hi (j := 32) rfl, ?_⟩
  refine ⟨(by show 4 ≤ sizeLine; decide), fun l20 n20 => ?_⟩
  refine ⟨_, _, _, _, rfl, rfl, ((Evl.Ex.new n20) _ _ upd_same), upd_same, (by show 33 ≤ sizeLine; decide), fun l21 n21 => ?_⟩
  refine ⟨_, rfl, ?_⟩
  refine ⟨_, rfl, a, _, _, _, _, _, _, _, _, rfl, exT T hi, (hx.mono ((Evl.Ex.new n1).trans ((Evl.Ex.new n2).trans ((Evl.Ex.new n3).trans ((Evl.Ex.new n4).trans ((Evl.Ex.new n5).trans ((Evl.Ex.new n6).trans ((Evl.Ex.new n7).trans ((Evl.Ex.new n8).trans ((Evl.Ex.new n9).trans ((Evl.Ex.new n10).trans ((Evl.Ex.new n11).trans ((Evl.Ex.new n12).trans ((Evl.Ex.new n13).trans ((Evl.Ex.new n14).trans ((Evl.Ex.new n15).trans ((Evl.Ex.new n16).trans ((Evl.Ex.new n17).trans ((Evl.Ex.new n18).trans ((Evl.Ex.new n19).trans ((Evl.Ex.new n20).trans (Evl.Ex.new n21)))))))))))))))))))))), .own _, kitIJ T hi (j := 33) rfl, ?_⟩
  refine ⟨_, rfl, a, _, _, _, _, _, _, _, _, rfl, exT T hi, (hx.mono ((Evl.Ex.new n1).trans ((Evl.Ex.new n2).trans ((Evl.Ex.new n3).trans ((Evl.Ex.new n4).trans ((Evl.Ex.new n5).trans ((Evl.Ex.new n6).trans ((Evl.Ex.new n7).trans ((Evl.Ex.new n8).trans ((Evl.Ex.new n9).trans ((Evl.Ex.new n10).trans ((Evl.Ex.new n11).trans ((Evl.Ex.new n12).trans ((Evl.Ex.new n13).trans ((Evl.Ex.new n14).trans ((Evl.Ex.new n15).trans ((Evl.Ex.new n16).trans ((Evl.Ex.new n17).trans ((Evl.Ex.new n18).trans ((Evl.Ex.new n19).trans ((Evl.Ex.new n20).trans (Evl.Ex.new n21)))))))))))))))))))))), .own _, kitIJ T hi (j := 34) rfl, ?_⟩
  refine ⟨_, rfl, a, _, _, _, _, _, _, _, _, rfl, exT T hi, (hx.mono ((Evl.Ex.new n1).trans ((Evl.Ex.new n2).trans ((Evl.Ex.new n3).trans ((Evl.Ex.new n4).trans ((Evl.Ex.new n5).trans ((Evl.Ex.new n6).trans ((Evl.Ex.new n7).trans ((Evl.Ex.new n8).trans ((Evl.Ex.new n9).trans ((Evl.Ex.new n10).trans ((Evl.Ex.new n11).trans ((Evl.Ex.new n12).trans ((Evl.Ex.new n13).trans ((Evl.Ex.new n14).trans ((Evl.Ex.new n15).trans ((Evl.Ex.new n16).trans ((Evl.Ex.new n17).trans ((Evl.Ex.new n18).trans ((Evl.Ex.new n19).trans ((Evl.Ex.new n20).trans (Evl.Ex.new n21)))))))))))))))))))))), .own _, kitIJ T hi (j := 35) rfl, ?_⟩
  refine ⟨_, rfl, a, _, _, _, _, _, _, _, _, rfl, exT T hi, (hx.mono ((Evl.Ex.new n1).trans ((Evl.Ex.new n2).trans ((Evl.Ex.new n3).trans ((Evl.Ex.new n4).trans ((Evl.Ex.new n5).trans ((Evl.Ex.new n6).trans ((Evl.Ex.new n7).trans ((Evl.Ex.new n8).trans ((Evl.Ex.new n9).trans ((Evl.Ex.new n10).trans ((Evl.Ex.new n11).trans ((Evl.Ex.new n12).trans ((Evl.Ex.new n13).trans ((Evl.Ex.new n14).trans ((Evl.Ex.new n15).trans ((Evl.Ex.new n16).trans ((Evl.Ex.new n17).trans ((Evl.Ex.new n18).trans ((Evl.Ex.new n19).trans ((Evl.Ex.new n20).trans (Evl.Ex.new n21)))))))))))))))))))))), .own _, kitIJ T hi (j := 36) rfl, ?_⟩
  refine ⟨(by show 4 ≤ sizeLine; decide), fun l22 n22 => ?_⟩
  refine ⟨_, _, _, _, rfl, rfl, ((Evl.Ex.new n22) _ _ upd_same), upd_same, (by show 37 ≤ sizeLine; decide), fun l23 n23 => ?_⟩
  exact hQ l23 _ ((Evl.Ex.new n1).trans ((Evl.Ex.new n2).trans ((Evl.Ex.new n3).trans ((Evl.Ex.new n4).trans ((Evl.Ex.new n5).trans ((Evl.Ex.new n6).trans ((Evl.Ex.new n7).trans ((Evl.Ex.new n8).trans ((Evl.Ex.new n9).trans ((Evl.Ex.new n10).trans ((Evl.Ex.new n11).trans ((Evl.Ex.new n12).trans ((Evl.Ex.new n13).trans ((Evl.Ex.new n14).trans ((Evl.Ex.new n15).trans ((Evl.Ex.new n16).trans ((Evl.Ex.new n17).trans ((Evl.Ex.new n18).trans ((Evl.Ex.new n19).trans ((Evl.Ex.new n20).trans ((Evl.Ex.new n21).trans ((Evl.Ex.new n22).trans (Evl.Ex.new n23))))))))))))))))))))))) (by rw [list37]; exact upd_same)

abbrev N_l_kept : List Str := ["_law_e"]
theorem sc_l_kept : FnScope N_l_kept ["_law_e"] (defScope (top 67)) := ⟨rfl, rfl, rfl, by decide +kernel, rfl, by decide +kernel, by decide +kernel⟩

theorem ok_l_kept (T : Txt K mg)  : Cal P w K mg base 2 "_law_kept" (spKept K []) [] := by
  obtain ⟨fd, F⟩ := T.d__law_kept
  refine ⟨_, fd, ["_law_e"], [], ?_, T.g__law_kept, F.kp, F.bindsN fun _ _ _ _ _ _ us hl => match us, hl with | [_], _ => rfl, .nil⟩
  refine F.ok sc_l_kept (fun vs H Q E h => by obtain ⟨_, _, _, _, rfl, _⟩ := h; rfl) (fun cdv A outer s H vs Q E hr h => ?_)
  have hu := hu_of hr
  refine ⟨_, PSs.nox (pss_cons (ps_if (pt_val (pe_callB call_isX (by rfl) T.f_isinstance (by decide +kernel) (pa_cons (pv 0) (pa_cons (pe_gc rfl T.c_Outside) pa_nil)))) (pss_one (ps_ret (pe_lst (pa_cons (pe_xv (pv 0)) pa_nil)))) pss_nil)
      (pss_cons (ps_if (pt_val (pe_callB call_isX (by rfl) T.f_isinstance (by decide +kernel) (pa_cons (pv 0) (pa_cons (pe_gc rfl T.c_TooMany) pa_nil)))) (pss_one (ps_ret (pe_lst (pa_cons (pe_xv (pv 0)) pa_nil)))) pss_nil)
      (pss_cons (ps_if (pt_val (pe_callB call_isX (by rfl) T.f_isinstance (by decide +kernel) (pa_cons (pv 0) (pa_cons (pe_gc rfl T.c_NoThing) pa_nil)))) (pss_one (ps_ret (pe_lst (pa_cons (pe_xv (pv 0)) pa_nil)))) pss_nil)
      (pss_cons (ps_if (pt_val (pe_callB call_isX (by rfl) T.f_isinstance (by decide +kernel) (pa_cons (pv 0) (pa_cons (pe_gc rfl T.c_NoSystem) pa_nil)))) (pss_one (ps_ret (pe_lst (pa_cons (pe_xv (pv 0)) (pa_cons (pe_xv (pv 0)) pa_nil))))) pss_nil)
      (pss_cons (ps_if (pt_val (pe_callB call_isX (by rfl) T.f_isinstance (by decide +kernel) (pa_cons (pv 0) (pa_cons (pe_gc rfl T.c_NotBrought) pa_nil)))) (pss_one (ps_ret (pe_lst (pa_cons (pe_xv (pv 0)) (pa_cons (pe_xv (pv 0)) pa_nil))))) pss_nil)
      (pss_cons (ps_if (pt_val (pe_callB call_isX (by rfl) T.f_isinstance (by decide +kernel) (pa_cons (pv 0) (pa_cons (pe_gc rfl T.c_TooGreat) pa_nil)))) (pss_one (ps_ret (pe_lst (pa_cons (pe_xv (pv 0)) (pa_cons (pe_xv (pv 0)) pa_nil))))) pss_nil)
      (pss_cons (ps_if (pt_val (pe_callB call_isX (by rfl) T.f_isinstance (by decide +kernel) (pa_cons (pv 0) (pa_cons (pe_gc rfl T.c_NotFair) pa_nil)))) (pss_one (ps_ret (pe_lst (pa_cons (pe_xv (pv 0)) (pa_cons (pe_xv (pv 0)) (pa_cons (pe_xv (pv 0)) pa_nil)))))) pss_nil)
      (pss_cons (ps_if (pt_val (pe_callB call_isX (by rfl) T.f_isinstance (by decide +kernel) (pa_cons (pv 0) (pa_cons (pe_gc rfl T.c_TooRich) pa_nil)))) (pss_one (ps_ret (pe_lst (pa_cons (pe_xv (pv 0)) (pa_cons (pe_xv (pv 0)) (pa_cons (pe_xv (pv 0)) pa_nil)))))) pss_nil)
      (pss_one (ps_ret (pe_ifExp (pt_val (pe_callB call_isX (by rfl) T.f_isinstance (by decide +kernel) (pa_cons (pv 0) (pa_cons (pe_gc rfl T.c_NotLet) pa_nil)))) (pe_lst (pa_cons (pe_xv (pv 0)) (pa_cons (pe_xv (pv 0)) (pa_cons (pe_xv (pv 0)) (pa_cons (pe_xv (pv 0)) pa_nil))))) (pe_lst (pa_cons (pe_xv (pv 0)) pa_nil))))))))))))), ?_⟩
  obtain ⟨a, i, e, us, rfl, hi, hi34, hul, hx, hQ⟩ := h
  by_cases c25 : i = 25
  · subst c25
    obtain rfl : e = e1 "Outside" ["payoff"] := Option.some.inj (hi.symm.trans rfl)
    obtain ⟨u1, rfl⟩ : ∃ u1, us = [u1] := match us, hul with | [u1], _ => ⟨u1, rfl⟩
    refine ⟨_, rfl, a, _, _, _, _, _, _, _, _, rfl, exT T hi, hx, .own _, kitIJ T hi (j := 25) rfl, ?_⟩
    refine ⟨_, rfl, iteTo (decide_eq_true (by omega)) ?_⟩
    refine ⟨_, rfl, a, _, _, _, _, _, _, rfl, exT T hi, (by simp), hx, rfl, ?_⟩
    exact ⟨(by show 1 ≤ sizeLine; decide), fun l hl => hQ l _ hl (Evl.Ex.new hl) upd_same⟩
  by_cases c26 : i = 26
  · subst c26
    obtain rfl : e = e1 "TooMany" ["count"] := Option.some.inj (hi.symm.trans rfl)
    obtain ⟨u1, rfl⟩ : ∃ u1, us = [u1] := match us, hul with | [u1], _ => ⟨u1, rfl⟩
    refine ⟨_, rfl, a, _, _, _, _, _, _, _, _, rfl, exT T hi, hx, .own _, kitIJ T hi (j := 25) rfl, ?_⟩
    refine ⟨_, rfl, iteFo (decide_eq_false (by omega)) ?_⟩
    refine ⟨_, rfl, a, _, _, _, _, _, _, _, _, rfl, exT T hi, hx, .own _, kitIJ T hi (j := 26) rfl, ?_⟩
    refine ⟨_, rfl, iteTo (decide_eq_true (by omega)) ?_⟩
    refine ⟨_, rfl, a, _, _, _, _, _, _, rfl, exT T hi, (by simp), hx, rfl, ?_⟩
    exact ⟨(by show 1 ≤ sizeLine; decide), fun l hl => hQ l _ hl (Evl.Ex.new hl) upd_same⟩
  by_cases c27 : i = 27
  · subst c27
    obtain rfl : e = e1 "NoThing" ["name"] := Option.some.inj (hi.symm.trans rfl)
    obtain ⟨u1, rfl⟩ : ∃ u1, us = [u1] := match us, hul with | [u1], _ => ⟨u1, rfl⟩
    refine ⟨_, rfl, a, _, _, _, _, _, _, _, _, rfl, exT T hi, hx, .own _, kitIJ T hi (j := 25) rfl, ?_⟩
    refine ⟨_, rfl, iteFo (decide_eq_false (by omega)) ?_⟩
    refine ⟨_, rfl, a, _, _, _, _, _, _, _, _, rfl, exT T hi, hx, .own _, kitIJ T hi (j := 26) rfl, ?_⟩
    refine ⟨_, rfl, iteFo (decide_eq_false (by omega)) ?_⟩
    refine ⟨_, rfl, a, _, _, _, _, _, _, _, _, rfl, exT T hi, hx, .own _, kitIJ T hi (j := 27) rfl, ?_⟩
    refine ⟨_, rfl, iteTo (decide_eq_true (by omega)) ?_⟩
    refine ⟨_, rfl, a, _, _, _, _, _, _, rfl, exT T hi, (by simp), hx, rfl, ?_⟩
    exact ⟨(by show 1 ≤ sizeLine; decide), fun l hl => hQ l _ hl (Evl.Ex.new hl) upd_same⟩
  by_cases c28 : i = 28
  · subst c28
    obtain rfl : e = e1 "NoSystem" ["line", "column"] := Option.some.inj (hi.symm.trans rfl)
    obtain ⟨u1, u2, rfl⟩ : ∃ u1 u2, us = [u1, u2] := match us, hul with | [u1, u2], _ => ⟨u1, u2, rfl⟩
    refine ⟨_, rfl, a, _, _, _, _, _, _, _, _, rfl, exT T hi, hx, .own _, kitIJ T hi (j := 25) rfl, ?_⟩
    refine ⟨_, rfl, iteFo (decide_eq_false (by omega)) ?_⟩
    refine ⟨_, rfl, a, _, _, _, _, _, _, _, _, rfl, exT T hi, hx, .own _, kitIJ T hi (j := 26) rfl, ?_⟩
    refine ⟨_, rfl, iteFo (decide_eq_false (by omega)) ?_⟩
    refine ⟨_, rfl, a, _, _, _, _, _, _, _, _, rfl, exT T hi, hx, .own _, kitIJ T hi (j := 27) rfl, ?_⟩
    refine ⟨_, rfl, iteFo (decide_eq_false (by omega)) ?_⟩
    refine ⟨_, rfl, a, _, _, _, _, _, _, _, _, rfl, exT T hi, hx, .own _, kitIJ T hi (j := 28) rfl, ?_⟩
    refine ⟨_, rfl, iteTo (decide_eq_true (by omega)) ?_⟩
    refine ⟨_, rfl, a, _, _, _, _, _, _, rfl, exT T hi, (by simp), hx, rfl, ?_⟩
    refine ⟨_, rfl, a, _, _, _, _, _, _, rfl, exT T hi, (by simp), hx, rfl, ?_⟩
    exact ⟨(by show 2 ≤ sizeLine; decide), fun l hl => hQ l _ hl (Evl.Ex.new hl) upd_same⟩
  by_cases c29 : i = 29
  · subst c29
    obtain rfl : e = e1 "NotBrought" ["payoff", "table"] := Option.some.inj (hi.symm.trans rfl)
    obtain ⟨u1, u2, rfl⟩ : ∃ u1 u2, us = [u1, u2] := match us, hul with | [u1, u2], _ => ⟨u1, u2, rfl⟩
    refine ⟨_, rfl, a, _, _, _, _, _, _, _, _, rfl, exT T hi, hx, .own _, kitIJ T hi (j := 25) rfl, ?_⟩
    refine ⟨_, rfl, iteFo (decide_eq_false (by omega)) ?_⟩
    refine ⟨_, rfl, a, _, _, _, _, _, _, _, _, rfl, exT T hi, hx, .own _, kitIJ T hi (j := 26) rfl, ?_⟩
    refine ⟨_, rfl, iteFo (decide_eq_false (by omega)) ?_⟩
    refine ⟨_, rfl, a, _, _, _, _, _, _, _, _, rfl, exT T hi, hx, .own _, kitIJ T hi (j := 27) rfl, ?_⟩
    refine ⟨_, rfl, iteFo (decide_eq_false (by omega)) ?_⟩
    refine ⟨_, rfl, a, _, _, _, _, _, _, _, _, rfl, exT T hi, hx, .own _, kitIJ T hi (j := 28) rfl, ?_⟩
    refine ⟨_, rfl, iteFo (decide_eq_false (by omega)) ?_⟩
    refine ⟨_, rfl, a, _, _, _, _, _, _, _, _, rfl, exT T hi, hx, .own _, kitIJ T hi (j := 29) rfl, ?_⟩
    refine ⟨_, rfl, iteTo (decide_eq_true (by omega)) ?_⟩
    refine ⟨_, rfl, a, _, _, _, _, _, _, rfl, exT T hi, (by simp), hx, rfl, ?_⟩
    refine ⟨_, rfl, a, _, _, _, _, _, _, rfl, exT T hi, (by simp), hx, rfl, ?_⟩
    exact ⟨(by show 2 ≤ sizeLine; decide), fun l hl => hQ l _ hl (Evl.Ex.new hl) upd_same⟩
  by_cases c30 : i = 30
  · subst c30
    obtain rfl : e = e1 "TooGreat" ["unit", "store"] := Option.some.inj (hi.symm.trans rfl)
    obtain ⟨u1, u2, rfl⟩ : ∃ u1 u2, us = [u1, u2] := match us, hul with | [u1, u2], _ => ⟨u1, u2, rfl⟩
    refine ⟨_, rfl, a, _, _, _, _, _, _, _, _, rfl, exT T hi, hx, .own _, kitIJ T hi (j := 25) rfl, ?_⟩
    refine ⟨_, rfl, iteFo (decide_eq_false (by omega)) ?_⟩
    refine ⟨_, rfl, a, _, _, _, _, _, _, _, _, rfl, exT T hi, hx, .own _, kitIJ T hi (j := 26) rfl, ?_⟩
    refine ⟨_, rfl, iteFo (decide_eq_false (by omega)) ?_⟩
    refine ⟨_, rfl, a, _, _, _, _, _, _, _, _, rfl, exT T hi, hx, .own _, kitIJ T hi (j := 27) rfl, ?_⟩
    refine ⟨_, rfl, iteFo (decide_eq_false (by omega)) ?_⟩
    refine ⟨_, rfl, a, _, _, _, _, _, _, _, _, rfl, exT T hi, hx, .own _, kitIJ T hi (j := 28) rfl, ?_⟩
    refine ⟨_, rfl, iteFo (decide_eq_false (by omega)) ?_⟩
    refine ⟨_, rfl, a, _, _, _, _, _, _, _, _, rfl, exT T hi, hx, .own _, kitIJ T hi (j := 29) rfl, ?_⟩
    refine ⟨_, rfl, iteFo (decide_eq_false (by omega)) ?_⟩
    refine ⟨_, rfl, a, _, _, _, _, _, _, _, _, rfl, exT T hi, hx, .own _, kitIJ T hi (j := 30) rfl, ?_⟩
    refine ⟨_, rfl, iteTo (decide_eq_true (by omega)) ?_⟩
    refine ⟨_, rfl, a, _, _, _, _, _, _, rfl, exT T hi, (by simp), hx, rfl, ?_⟩
    refine ⟨_, rfl, a, _, _, _, _, _, _, rfl, exT T hi, (by simp), hx, rfl, ?_⟩
    exact ⟨(by show 2 ≤ sizeLine; decide), fun l hl => hQ l _ hl (Evl.Ex.new hl) upd_same⟩
  by_cases c31 : i = 31
  · subst c31
    obtain rfl : e = e1 "NotFair" ["reason", "unit", "word"] := Option.some.inj (hi.symm.trans rfl)
    obtain ⟨u1, u2, u3, rfl⟩ : ∃ u1 u2 u3, us = [u1, u2, u3] := match us, hul with | [u1, u2, u3], _ => ⟨u1, u2, u3, rfl⟩
    refine ⟨_, rfl, a, _, _, _, _, _, _, _, _, rfl, exT T hi, hx, .own _, kitIJ T hi (j := 25) rfl, ?_⟩
    refine ⟨_, rfl, iteFo (decide_eq_false (by omega)) ?_⟩
    refine ⟨_, rfl, a, _, _, _, _, _, _, _, _, rfl, exT T hi, hx, .own _, kitIJ T hi (j := 26) rfl, ?_⟩
    refine ⟨_, rfl, iteFo (decide_eq_false (by omega)) ?_⟩
    refine ⟨_, rfl, a, _, _, _, _, _, _, _, _, rfl, exT T hi, hx, .own _, kitIJ T hi (j := 27) rfl, ?_⟩
    refine ⟨_, rfl, iteFo (decide_eq_false (by omega)) ?_⟩
    refine ⟨_, rfl, a, _, _, _, _, _, _, _, _, rfl, exT T hi, hx, .own _, kitIJ T hi (j := 28) rfl, ?_⟩
    refine ⟨_, rfl, iteFo (decide_eq_false (by omega)) ?_⟩
    refine ⟨_, rfl, a, _, _, _, _, _, _, _, _, rfl, exT T hi, hx, .own _, kitIJ T hi (j := 29) rfl, ?_⟩
    refine ⟨_, rfl, iteFo (decide_eq_false (by omega)) ?_⟩
    refine ⟨_, rfl, a, _, _, _, _, _, _, _, _, rfl, exT T hi, hx, .own _, kitIJ T hi (j := 30) rfl, ?_⟩
    refine ⟨_, rfl, iteFo (decide_eq_false (by omega)) ?_⟩
    refine ⟨_, rfl, a, _, _, _, _, _, _, _, _, rfl, exT T hi, hx, .own _, kitIJ T hi (j := 31) rfl, ?_⟩
    refine ⟨_, rfl, iteTo (decide_eq_true (by omega)) ?_⟩
    refine ⟨_, rfl, a, _, _, _, _, _, _, rfl, exT T hi, (by simp), hx, rfl, ?_⟩
    refine ⟨_, rfl, a, _, _, _, _, _, _, rfl, exT T hi, (by simp), hx, rfl, ?_⟩
    refine ⟨_, rfl, a, _, _, _, _, _, _, rfl, exT T hi, (by simp), hx, rfl, ?_⟩
    exact ⟨(by show 3 ≤ sizeLine; decide), fun l hl => hQ l _ hl (Evl.Ex.new hl) upd_same⟩
  by_cases c32 : i = 32
  · subst c32
    obtain rfl : e = e1 "TooRich" ["unit", "store", "count"] := Option.some.inj (hi.symm.trans rfl)
    obtain ⟨u1, u2, u3, rfl⟩ : ∃ u1 u2 u3, us = [u1, u2, u3] := match us, hul with | [u1, u2, u3], _ => ⟨u1, u2, u3, rfl⟩
    refine ⟨_, rfl, a, _, _, _, _, _, _, _, _, rfl, exT T hi, hx, .own _, kitIJ T hi (j := 25) rfl, ?_⟩
    refine ⟨_, rfl, iteFo (decide_eq_false (by omega)) ?_⟩
    refine ⟨_, rfl, a, _, _, _, _, _, _, _, _, rfl, exT T hi, hx, .own _, kitIJ T hi (j := 26) rfl, ?_⟩
    refine ⟨_, rfl, iteFo (decide_eq_false (by omega)) ?_⟩
    refine ⟨_, rfl, a, _, _, _, _, _, _, _, _, rfl, exT T hi, hx, .own _, kitIJ T hi (j := 27) rfl, ?_⟩
    refine ⟨_, rfl, iteFo (decide_eq_false (by omega)) ?_⟩
    refine ⟨_, rfl, a, _, _, _, _, _, _, _, _, rfl, exT T hi, hx, .own _, kitIJ T hi (j := 28) rfl, ?_⟩
    refine ⟨_, rfl, iteFo (decide_eq_false (by omega)) ?_⟩
    refine ⟨_, rfl, a, _, _, _, _, _, _, _, _, rfl, exT T hi, hx, .own _, kitIJ T hi (j := 29) rfl, ?_⟩
    refine ⟨_, rfl, iteFo (decide_eq_false (by omega)) ?_⟩
    refine ⟨_, rfl, a, _, _, _, _, _, _, _, _, rfl, exT T hi, hx, .own _, kitIJ T hi (j := 30) rfl, ?_⟩
    refine ⟨_, rfl, iteFo (decide_eq_false (by omega)) ?_⟩
    refine ⟨_, rfl, a, _, _, _, _, _, _, _, _, rfl, exT T hi, hx, .own _, kitIJ T hi (j := 31) rfl, ?_⟩
    refine ⟨_, rfl, iteFo (decide_eq_false (by omega)) ?_⟩
    refine ⟨_, rfl, a, _, _, _, _, _, _, _, _, rfl, exT T hi, hx, .own _, kitIJ T hi (j := 32) rfl, ?_⟩
    refine ⟨_, rfl, iteTo (decide_eq_true (by omega)) ?_⟩
    refine ⟨_, rfl, a, _, _, _, _, _, _, rfl, exT T hi, (by simp), hx, rfl, ?_⟩
    refine ⟨_, rfl, a, _, _, _, _, _, _, rfl, exT T hi, (by simp), hx, rfl, ?_⟩
    refine ⟨_, rfl, a, _, _, _, _, _, _, rfl, exT T hi, (by simp), hx, rfl, ?_⟩
    exact ⟨(by show 3 ≤ sizeLine; decide), fun l hl => hQ l _ hl (Evl.Ex.new hl) upd_same⟩
  by_cases c33 : i = 33
  · subst c33
    obtain rfl : e = e1 "NotLet" ["store", "pick", "payoff", "table"] := Option.some.inj (hi.symm.trans rfl)
    obtain ⟨u1, u2, u3, u4, rfl⟩ : ∃ u1 u2 u3 u4, us = [u1, u2, u3, u4] := match us, hul with | [u1, u2, u3, u4], _ => ⟨u1, u2, u3, u4, rfl⟩
    refine ⟨_, rfl, a, _, _, _, _, _, _, _, _, rfl, exT T hi, hx, .own _, kitIJ T hi (j := 25) rfl, ?_⟩
    refine ⟨_, rfl, iteFo (decide_eq_false (by omega)) ?_⟩
    refine ⟨_, rfl, a, _, _, _, _, _, _, _, _, rfl, exT T hi, hx, .own _, kitIJ T hi (j := 26) rfl, ?_⟩
    refine ⟨_, rfl, iteFo (decide_eq_false (by omega)) ?_⟩
    refine ⟨_, rfl, a, _, _, _, _, _, _, _, _, rfl, exT T hi, hx, .own _, kitIJ T hi (j := 27) rfl, ?_⟩
    refine ⟨_, rfl, iteFo (decide_eq_false (by omega)) ?_⟩
    refine ⟨_, rfl, a, _, _, _, _, _, _, _, _, rfl, exT T hi, hx, .own _, kitIJ T hi (j := 28) rfl, ?_⟩
    refine ⟨_, rfl, iteFo (decide_eq_false (by omega)) ?_⟩
    refine ⟨_, rfl, a, _, _, _, _, _, _, _, _, rfl, exT T hi, hx, .own _, kitIJ T hi (j := 29) rfl, ?_⟩
    refine ⟨_, rfl, iteFo (decide_eq_false (by omega)) ?_⟩
    refine ⟨_, rfl, a, _, _, _, _, _, _, _, _, rfl, exT T hi, hx, .own _, kitIJ T hi (j := 30) rfl, ?_⟩
    refine ⟨_, rfl, iteFo (decide_eq_false (by omega)) ?_⟩
    refine ⟨_, rfl, a, _, _, _, _, _, _, _, _, rfl, exT T hi, hx, .own _, kitIJ T hi (j := 31) rfl, ?_⟩
    refine ⟨_, rfl, iteFo (decide_eq_false (by omega)) ?_⟩
    refine ⟨_, rfl, a, _, _, _, _, _, _, _, _, rfl, exT T hi, hx, .own _, kitIJ T hi (j := 32) rfl, ?_⟩
    refine ⟨_, rfl, iteFo (decide_eq_false (by omega)) ?_⟩
    refine ⟨_, rfl, a, _, _, _, _, _, _, _, _, rfl, exT T hi, hx, .own _, kitIJ T hi (j := 33) rfl, ?_⟩
    refine ⟨_, rfl, iteTo (decide_eq_true (by omega)) ?_⟩
    refine ⟨_, rfl, a, _, _, _, _, _, _, rfl, exT T hi, (by simp), hx, rfl, ?_⟩
    refine ⟨_, rfl, a, _, _, _, _, _, _, rfl, exT T hi, (by simp), hx, rfl, ?_⟩
    refine ⟨_, rfl, a, _, _, _, _, _, _, rfl, exT T hi, (by simp), hx, rfl, ?_⟩
    refine ⟨_, rfl, a, _, _, _, _, _, _, rfl, exT T hi, (by simp), hx, rfl, ?_⟩
    exact ⟨(by show 4 ≤ sizeLine; decide), fun l hl => hQ l _ hl (Evl.Ex.new hl) upd_same⟩
  have i25 : i < 25 := by omega
  obtain ⟨x, fl⟩ := e
  obtain rfl : fl = ([("given" : Str)] : List Str) := by
    have := given25 i i25
    rw [hi] at this
    exact Option.some.inj this
  obtain ⟨u1, rfl⟩ : ∃ u1, us = [u1] := match us, hul with | [u1], _ => ⟨u1, rfl⟩
  refine ⟨_, rfl, a, _, _, _, _, _, _, _, _, rfl, exT T hi, hx, .own _, kitIJ T hi (j := 25) rfl, ?_⟩
  refine ⟨_, rfl, iteFo (decide_eq_false (by omega)) ?_⟩
  refine ⟨_, rfl, a, _, _, _, _, _, _, _, _, rfl, exT T hi, hx, .own _, kitIJ T hi (j := 26) rfl, ?_⟩
  refine ⟨_, rfl, iteFo (decide_eq_false (by omega)) ?_⟩
  refine ⟨_, rfl, a, _, _, _, _, _, _, _, _, rfl, exT T hi, hx, .own _, kitIJ T hi (j := 27) rfl, ?_⟩
  refine ⟨_, rfl, iteFo (decide_eq_false (by omega)) ?_⟩
  refine ⟨_, rfl, a, _, _, _, _, _, _, _, _, rfl, exT T hi, hx, .own _, kitIJ T hi (j := 28) rfl, ?_⟩
  refine ⟨_, rfl, iteFo (decide_eq_false (by omega)) ?_⟩
  refine ⟨_, rfl, a, _, _, _, _, _, _, _, _, rfl, exT T hi, hx, .own _, kitIJ T hi (j := 29) rfl, ?_⟩
  refine ⟨_, rfl, iteFo (decide_eq_false (by omega)) ?_⟩
  refine ⟨_, rfl, a, _, _, _, _, _, _, _, _, rfl, exT T hi, hx, .own _, kitIJ T hi (j := 30) rfl, ?_⟩
  refine ⟨_, rfl, iteFo (decide_eq_false (by omega)) ?_⟩
  refine ⟨_, rfl, a, _, _, _, _, _, _, _, _, rfl, exT T hi, hx, .own _, kitIJ T hi (j := 31) rfl, ?_⟩
  refine ⟨_, rfl, iteFo (decide_eq_false (by omega)) ?_⟩
  refine ⟨_, rfl, a, _, _, _, _, _, _, _, _, rfl, exT T hi, hx, .own _, kitIJ T hi (j := 32) rfl, ?_⟩
  refine ⟨_, rfl, iteFo (decide_eq_false (by omega)) ?_⟩
  refine ⟨_, rfl, a, _, _, _, _, _, _, _, _, rfl, exT T hi, hx, .own _, kitIJ T hi (j := 33) rfl, ?_⟩
  refine ⟨_, rfl, iteFo (decide_eq_false (by omega)) ?_⟩
  refine ⟨_, rfl, a, _, _, _, _, _, _, rfl, exT T hi, (by simp), hx, rfl, ?_⟩
  exact ⟨(by show 1 ≤ sizeLine; decide), fun l hl => hQ l _ hl (Evl.Ex.new hl) upd_same⟩

abbrev N_l_is : List Str := ["_law_e", "_law_spot", "_law_sorts_here", "_law_k"]
theorem sc_l_is : FnScope N_l_is ["_law_e", "_law_spot"] (defScope (top 68)) := ⟨rfl, rfl, rfl, by decide +kernel, rfl, by decide +kernel, by decide +kernel⟩

theorem ok_l_is (T : Txt K mg) (C_l_sorts : Cal P w K mg base 2 "_law_sorts" (spSorts K []) []) : Cal P w K mg base 3 "_law_is" (spIs K []) [] := by
  obtain ⟨fd, F⟩ := T.d__law_is
  refine ⟨_, fd, ["_law_e", "_law_spot"], [], ?_, T.g__law_is, F.kp, F.bindsN fun _ _ _ _ _ _ us hl => match us, hl with | [_, _], _ => rfl, .nil⟩
  refine F.ok sc_l_is (fun vs H Q E h => by obtain ⟨_, _, _, _, _, rfl, _⟩ := h; rfl) (fun cdv A outer s H vs Q E hr h => ?_)
  have hu := hu_of hr
  refine ⟨_, PSs.nox (pss_cons (ps_set (i := 2) sc_l_is.nd rfl (Or.inr rfl) (pe_c C_l_sorts hr (by omega) rfl (pa_cons (pv 0) pa_nil)))
      (pss_cons (ps_if (PW.pt (pw_or (pt_not (pt_val (pe_callB call_isX (by rfl) T.f_isinstance (by decide +kernel) (pa_cons (pv 0) (pa_cons (pe_gc rfl T.c_PatchError) pa_nil))))) (pw_or1 (pt_not (pt_val (pe_callB call_isX (by rfl) T.f_isinstance (by decide +kernel) (pa_cons (pv 0) (pa_cons (pe_bltn (v := .ty "ValueError") (u := .type "ValueError") (by rfl) T.f_ValueError (by decide +kernel) rfl) pa_nil)))))))) (pss_one (ps_ret pe_bl)) pss_nil)
      (pss_one (ps_ret (pe_cmpR (op_eqD hr.units) (pe_lc (own := [("_law_k", 3)]) rfl sc_l_is.nd (pi_range1 (by rfl) T.f_range (pa_cons (pe_callB call_len_seq (by rfl) T.f_len (by decide +kernel) (pa_cons (pv 2) pa_nil)) pa_nil)) (blkOk_by (own := [("_law_k", 3)]) (N := N_l_is) (sc := defScope (top 68)) (by decide +kernel)) (fun _ _ _ _ _ => (pg_name (i := 3) sc_l_is.nd rfl (Or.inl rfl))) (fun _ _ _ _ _ => (pts_one (pt_val (pe_ix (ixL (K := K) rfl) (pv 2) (pv 3) (fun _ _ => rfl))))) (fun _ _ _ _ _ => (pv 3))) (pe_lst (pa_cons (pv 1) pa_nil)) (nomark _)))))), ?_⟩
  obtain ⟨a, i, s0, ⟨x, fl⟩, fs, rfl, hi, hx, hQ⟩ := h
  have i37 := exs_lt hi
  refine ⟨_, rfl, a, i, _, fs, rfl, hi, hx, fun l H1 g1 h1 => ?_⟩
  refine ⟨_, rfl, a, _, _, _, _, _, _, _, _, rfl, exT T hi, hx.mono g1, .own _, kitP T hi, _, rfl, iteFo rfl ?_⟩
  refine ⟨_, rfl, a, _, _, _, _, _, _, _, _, rfl, exT T hi, hx.mono g1, .ty _, kitV T hi, _, rfl, iteFo rfl ?_⟩
  refine ⟨_, rfl, l, _, rfl, .inl (SqL.of h1), ?_⟩
  refine ⟨37, rfl, by decide, by decide, fun D hD => ?_⟩
  refine lc_range (lo := 0) (n := 37) (fun k H' => Ex H1 H' ∧ H' D = some (.lst (((List.range k).filter fun j => decide (i = j)).map fun j : Nat => V.int (j : Int)))) ⟨Evl.Ex.new hD, upd_same⟩ ?_ ?_
  · rintro k H2 hk ⟨g2, h2⟩
    refine ⟨rfl, ?_⟩
    have hit : ((List.range 37).map fun j => V.bl (decide (i = j)))[k]? = some (V.bl (decide (i = k))) := by
      rw [List.getElem?_map, List.getElem?_range hk]
      rfl
    refine ⟨_, rfl, _, rfl, l, _, (k : Int), _, rfl, (by show V.int (0 + (k : Int)) = _; rw [Int.zero_add]), SqL.of (g2 _ _ h1), atI_nat hit, _, rfl, ?_⟩
    rw [filt]
    by_cases c : i = k
    · rw [decide_eq_true c]
      refine ⟨_, rfl, _, h2, ?_, Evl.Ex.mut g2 hD, ?_⟩
      · rw [List.length_map]
        exact Nat.lt_of_le_of_lt (List.length_filter_le _ _) (by rw [List.length_range]; have : 37 < sizeLine := by decide
                                                                 omega)
      · rw [if_pos (by rfl), List.map_append, upd_same]
        show _ = some (HO.lst (_ ++ [V.int (k : Int)]))
        rw [Int.zero_add]
    · rw [decide_eq_false c]
      exact ⟨g2, by rw [if_neg (by simp)]; exact h2⟩
  · rintro H2 ⟨g2, h2⟩
    rw [filt_all i37] at h2
    refine ⟨_, rfl, (by show 1 ≤ sizeLine; decide), fun m hm => ?_⟩
    have g3 := Evl.Ex.new (o := .lst [V.int (s0 : Int)]) hm
    refine ⟨.list [.int (i : Int)], .list [.int (s0 : Int)], .lst (SqL.of (g3 _ _ h2)) (.cons (.int _) .nil), .lst (SqL.of upd_same) (.cons (.int _) .nil), one_shaped _, one_shaped _, ?_⟩
    rw [eqv1]
    exact hQ _ ((g1.trans g2).trans g3)

end
end K00
namespace K00
open PySem PySem.Spec PyProof.Rows L2 C8
section
variable {P : Program} {w : World} {K : PySem.W.Frag} {mg : Str → Option Value} {base : Heap} {p : Addr × Obj}
theorem rh64 {k : Nat} {A : Around} (r : L2H.RoomH k A) : A.units + 64 < cLine := by
  have := r.un
  omega
theorem hot_l_sorts (T : Txt K mg)  : CalP p P w K mg base 2 "_law_sorts" (spSorts K [p]) := by
  obtain ⟨fd, F⟩ := T.d__law_sorts
  refine ⟨_, fd, ["_law_e"], ?_, T.g__law_sorts, F.kp, F.bindsN fun _ _ _ _ _ _ us hl => match us, hl with | [_], _ => rfl⟩
  refine fnP_of F sc_l_sorts (fun vs H Q E h => by obtain ⟨_, _, _, _, rfl, _⟩ := h; rfl) (fun cdv A outer s H vs Q hot hr h => ?_)
  refine ⟨_, PSs.nox (pss_cons (ps_set (i := 1) sc_l_sorts.nd rfl (Or.inl rfl) (pe_lst (pa_cons (pe_callB call_isX (by rfl) T.f_isinstance (by decide +kernel) (pa_cons (pv 0) (pa_cons (pe_gc rfl T.c_InvalidNumber) pa_nil))) (pa_cons (pe_callB call_isX (by rfl) T.f_isinstance (by decide +kernel) (pa_cons (pv 0) (pa_cons (pe_gc rfl T.c_InvalidLots) pa_nil))) (pa_cons (pe_callB call_isX (by rfl) T.f_isinstance (by decide +kernel) (pa_cons (pv 0) (pa_cons (pe_gc rfl T.c_InvalidLot) pa_nil))) pa_nil)))))
      (pss_cons (ps_set (i := 1) sc_l_sorts.nd rfl (Or.inl rfl) (pe_op op_cat (pv 1) (pe_lst (pa_cons (pe_callB call_isX (by rfl) T.f_isinstance (by decide +kernel) (pa_cons (pv 0) (pa_cons (pe_gc rfl T.c_InvalidPayoff) pa_nil))) (pa_cons (pe_callB call_isX (by rfl) T.f_isinstance (by decide +kernel) (pa_cons (pv 0) (pa_cons (pe_gc rfl T.c_InvalidNames) pa_nil))) (pa_cons (pe_callB call_isX (by rfl) T.f_isinstance (by decide +kernel) (pa_cons (pv 0) (pa_cons (pe_gc rfl T.c_InvalidStore) pa_nil))) pa_nil))))))
      (pss_cons (ps_set (i := 1) sc_l_sorts.nd rfl (Or.inl rfl) (pe_op op_cat (pv 1) (pe_lst (pa_cons (pe_callB call_isX (by rfl) T.f_isinstance (by decide +kernel) (pa_cons (pv 0) (pa_cons (pe_gc rfl T.c_InvalidValues) pa_nil))) (pa_cons (pe_callB call_isX (by rfl) T.f_isinstance (by decide +kernel) (pa_cons (pv 0) (pa_cons (pe_gc rfl T.c_InvalidText) pa_nil))) (pa_cons (pe_callB call_isX (by rfl) T.f_isinstance (by decide +kernel) (pa_cons (pv 0) (pa_cons (pe_gc rfl T.c_InvalidSystem) pa_nil))) pa_nil))))))
      (pss_cons (ps_set (i := 1) sc_l_sorts.nd rfl (Or.inl rfl) (pe_op op_cat (pv 1) (pe_lst (pa_cons (pe_callB call_isX (by rfl) T.f_isinstance (by decide +kernel) (pa_cons (pv 0) (pa_cons (pe_gc rfl T.c_InvalidUnit) pa_nil))) (pa_cons (pe_callB call_isX (by rfl) T.f_isinstance (by decide +kernel) (pa_cons (pv 0) (pa_cons (pe_gc rfl T.c_InvalidBody) pa_nil))) pa_nil)))))
      (pss_cons (ps_set (i := 1) sc_l_sorts.nd rfl (Or.inl rfl) (pe_op op_cat (pv 1) (pe_lst (pa_cons (pe_callB call_isX (by rfl) T.f_isinstance (by decide +kernel) (pa_cons (pv 0) (pa_cons (pe_gc rfl T.c_InvalidSteps) pa_nil))) (pa_cons (pe_callB call_isX (by rfl) T.f_isinstance (by decide +kernel) (pa_cons (pv 0) (pa_cons (pe_gc rfl T.c_InvalidSummaries) pa_nil))) pa_nil)))))
      (pss_cons (ps_set (i := 1) sc_l_sorts.nd rfl (Or.inl rfl) (pe_op op_cat (pv 1) (pe_lst (pa_cons (pe_callB call_isX (by rfl) T.f_isinstance (by decide +kernel) (pa_cons (pv 0) (pa_cons (pe_gc rfl T.c_InvalidRow) pa_nil))) (pa_cons (pe_callB call_isX (by rfl) T.f_isinstance (by decide +kernel) (pa_cons (pv 0) (pa_cons (pe_gc rfl T.c_InvalidPick) pa_nil))) (pa_cons (pe_callB call_isX (by rfl) T.f_isinstance (by decide +kernel) (pa_cons (pv 0) (pa_cons (pe_gc rfl T.c_InvalidBlend) pa_nil))) pa_nil))))))
      (pss_cons (ps_set (i := 1) sc_l_sorts.nd rfl (Or.inl rfl) (pe_op op_cat (pv 1) (pe_lst (pa_cons (pe_callB call_isX (by rfl) T.f_isinstance (by decide +kernel) (pa_cons (pv 0) (pa_cons (pe_gc rfl T.c_InvalidCode) pa_nil))) (pa_cons (pe_callB call_isX (by rfl) T.f_isinstance (by decide +kernel) (pa_cons (pv 0) (pa_cons (pe_gc rfl T.c_InvalidLines) pa_nil))) (pa_cons (pe_callB call_isX (by rfl) T.f_isinstance (by decide +kernel) (pa_cons (pv 0) (pa_cons (pe_gc rfl T.c_InvalidAnswer) pa_nil))) pa_nil))))))
      (pss_cons (ps_set (i := 1) sc_l_sorts.nd rfl (Or.inl rfl) (pe_op op_cat (pv 1) (pe_lst (pa_cons (pe_callB call_isX (by rfl) T.f_isinstance (by decide +kernel) (pa_cons (pv 0) (pa_cons (pe_gc rfl T.c_InvalidPart) pa_nil))) (pa_cons (pe_callB call_isX (by rfl) T.f_isinstance (by decide +kernel) (pa_cons (pv 0) (pa_cons (pe_gc rfl T.c_InvalidEdition) pa_nil))) (pa_cons (pe_callB call_isX (by rfl) T.f_isinstance (by decide +kernel) (pa_cons (pv 0) (pa_cons (pe_gc rfl T.c_InvalidGame) pa_nil))) pa_nil))))))
      (pss_cons (ps_set (i := 1) sc_l_sorts.nd rfl (Or.inl rfl) (pe_op op_cat (pv 1) (pe_lst (pa_cons (pe_callB call_isX (by rfl) T.f_isinstance (by decide +kernel) (pa_cons (pv 0) (pa_cons (pe_gc rfl T.c_InvalidPlan) pa_nil))) (pa_cons (pe_callB call_isX (by rfl) T.f_isinstance (by decide +kernel) (pa_cons (pv 0) (pa_cons (pe_gc rfl T.c_InvalidRecord) pa_nil))) (pa_cons (pe_callB call_isX (by rfl) T.f_isinstance (by decide +kernel) (pa_cons (pv 0) (pa_cons (pe_gc rfl T.c_InvalidName) pa_nil))) pa_nil))))))
      (pss_cons (ps_set (i := 1) sc_l_sorts.nd rfl (Or.inl rfl) (pe_op op_cat (pv 1) (pe_lst (pa_cons (pe_callB call_isX (by rfl) T.f_isinstance (by decide +kernel) (pa_cons (pv 0) (pa_cons (pe_gc rfl T.c_Outside) pa_nil))) (pa_cons (pe_callB call_isX (by rfl) T.f_isinstance (by decide +kernel) (pa_cons (pv 0) (pa_cons (pe_gc rfl T.c_TooMany) pa_nil))) (pa_cons (pe_callB call_isX (by rfl) T.f_isinstance (by decide +kernel) (pa_cons (pv 0) (pa_cons (pe_gc rfl T.c_NoThing) pa_nil))) (pa_cons (pe_callB call_isX (by rfl) T.f_isinstance (by decide +kernel) (pa_cons (pv 0) (pa_cons (pe_gc rfl T.c_NoSystem) pa_nil))) pa_nil)))))))
      (pss_cons (ps_set (i := 1) sc_l_sorts.nd rfl (Or.inl rfl) (pe_op op_cat (pv 1) (pe_lst (pa_cons (pe_callB call_isX (by rfl) T.f_isinstance (by decide +kernel) (pa_cons (pv 0) (pa_cons (pe_gc rfl T.c_NotBrought) pa_nil))) (pa_cons (pe_callB call_isX (by rfl) T.f_isinstance (by decide +kernel) (pa_cons (pv 0) (pa_cons (pe_gc rfl T.c_TooGreat) pa_nil))) (pa_cons (pe_callB call_isX (by rfl) T.f_isinstance (by decide +kernel) (pa_cons (pv 0) (pa_cons (pe_gc rfl T.c_NotFair) pa_nil))) (pa_cons (pe_callB call_isX (by rfl) T.f_isinstance (by decide +kernel) (pa_cons (pv 0) (pa_cons (pe_gc rfl T.c_TooRich) pa_nil))) pa_nil)))))))
      (pss_one (ps_ret (pe_op op_cat (pv 1) (pe_lst (pa_cons (pe_callB call_isX (by rfl) T.f_isinstance (by decide +kernel) (pa_cons (pv 0) (pa_cons (pe_gc rfl T.c_NotLet) pa_nil))) (pa_cons (pe_callB call_isX (by rfl) T.f_isinstance (by decide +kernel) (pa_cons (pv 0) (pa_cons (pe_gc rfl T.c_ByZero) pa_nil))) (pa_cons (pe_callB call_isX (by rfl) T.f_isinstance (by decide +kernel) (pa_cons (pv 0) (pa_cons (pe_gc rfl T.c_NotAsked) pa_nil))) (pa_cons (pe_callB call_isX (by rfl) T.f_isinstance (by decide +kernel) (pa_cons (pv 0) (pa_cons (pe_gc rfl T.c_NothingToUndo) pa_nil))) pa_nil))))))))))))))))))), ?_⟩
  obtain ⟨a, i, ⟨x, fl⟩, fs, rfl, hi, hx, hQ⟩ := h
  refine ⟨_, rfl, a, _, _, _, _, _, _, _, _, rfl, exT T hi, hx, .own _, kitIJ T hi (j := 0) rfl, ?_⟩
  refine ⟨_, rfl, a, _, _, _, _, _, _, _, _, rfl, exT T hi, hx, .own _, kitIJ T hi (j := 1) rfl, ?_⟩
  refine ⟨_, rfl, a, _, _, _, _, _, _, _, _, rfl, exT T hi, hx, .own _, kitIJ T hi (j := 2) rfl, ?_⟩
  refine ⟨(by show 3 ≤ sizeLine; decide), fun l1 n1 => ?_⟩
  refine ⟨_, rfl, ?_⟩
  refine ⟨_, rfl, a, _, _, _, _, _, _, _, _, rfl, exT T hi, (hx.mono (Evl.Ex.new n1)), .own _, kitIJ T hi (j := 3) rfl, ?_⟩
  refine ⟨_, rfl, a, _, _, _, _, _, _, _, _, rfl, exT T hi, (hx.mono (Evl.Ex.new n1)), .own _, kitIJ T hi (j := 4) rfl, ?_⟩
  refine ⟨_, rfl, a, _, _, _, _, _, _, _, _, rfl, exT T hi, (hx.mono (Evl.Ex.new n1)), .own _, kitIJ T hi (j := 5) rfl, ?_⟩
  refine ⟨(by show 3 ≤ sizeLine; decide), fun l2 n2 => ?_⟩
  refine ⟨_, _, _, _, rfl, rfl, ((Evl.Ex.new n2) _ _ upd_same), upd_same, (by show 6 ≤ sizeLine; decide), fun l3 n3 => ?_⟩
  refine ⟨_, rfl, ?_⟩
  refine ⟨_, rfl, a, _, _, _, _, _, _, _, _, rfl, exT T hi, (hx.mono ((Evl.Ex.new n1).trans ((Evl.Ex.new n2).trans (Evl.Ex.new n3)))), .own _, kitIJ T hi (j := 6) rfl, ?_⟩
  refine ⟨_, rfl, a, _, _, _, _, _, _, _, _, rfl, exT T hi, (hx.mono ((Evl.Ex.new n1).trans ((Evl.Ex.new n2).trans (Evl.Ex.new n3)))), .own _, kitIJ T hi (j := 7) rfl, ?_⟩
  refine ⟨_, rfl, a, _, _, _, _, _, _, _, _, rfl, exT T hi, (hx.mono ((Evl.Ex.new n1).trans ((Evl.Ex.new n2).trans (Evl.Ex.new n3)))), .own _, kitIJ T hi (j := 8) rfl, ?_⟩
  refine ⟨(by show 3 ≤ sizeLine; decide), fun l4 n4 => ?_⟩
  refine ⟨_, _, _, _, rfl, rfl, ((Evl.Ex.new n4) _ _ upd_same), upd_same, (by show 9 ≤ sizeLine; decide), fun l5 n5 => ?_⟩
  refine ⟨_, rfl, ?_⟩
  refine ⟨_, rfl, a, _, _, _, _, _, _, _, _, rfl, exT T hi, (hx.mono ((Evl.Ex.new n1).trans ((Evl.Ex.new n2).trans ((Evl.Ex.new n3).trans ((Evl.Ex.new n4).trans (Evl.Ex.new n5)))))), .own _, kitIJ T hi (j := 9) rfl, ?_⟩
  refine ⟨_, rfl, a, _, _, _, _, _, _, _, _, rfl, exT T hi, (hx.mono ((Evl.Ex.new n1).trans ((Evl.Ex.new n2).trans ((Evl.Ex.new n3).trans ((Evl.Ex.new n4).trans (Evl.Ex.new n5)))))), .own _, kitIJ T hi (j := 10) rfl, ?_⟩
  refine ⟨(by show 2 ≤ sizeLine; decide), fun l6 n6 => ?_⟩
  refine ⟨_, _, _, _, rfl, rfl, ((Evl.Ex.new n6) _ _ upd_same), upd_same, (by show 11 ≤ sizeLine; decide), fun l7 n7 => ?_⟩
  refine ⟨_, rfl, ?_⟩
  refine ⟨_, rfl, a, _, _, _, _, _, _, _, _, rfl, exT T hi, (hx.mono ((Evl.Ex.new n1).trans ((Evl.Ex.new n2).trans ((Evl.Ex.new n3).trans ((Evl.Ex.new n4).trans ((Evl.Ex.new n5).trans ((Evl.Ex.new n6).trans (Evl.Ex.new n7)))))))), .own _, kitIJ T hi (j := 11) rfl, ?_⟩
  refine ⟨_, rfl, a, _, _, _, _, _, _, _, _, rfl, exT T hi, (hx.mono ((Evl.Ex.new n1).trans ((Evl.Ex.new n2).trans ((Evl.Ex.new n3).trans ((Evl.Ex.new n4).trans ((Evl.Ex.new n5).trans ((Evl.Ex.new n6).trans (Evl.Ex.new n7)))))))), .own _, kitIJ T hi (j := 12) rfl, ?_⟩
  refine ⟨(by show 2 ≤ sizeLine; decide), fun l8 n8 => ?_⟩
  refine ⟨_, _, _, _, rfl, rfl, ((Evl.Ex.new n8) _ _ upd_same), upd_same, (by show 13 ≤ sizeLine; decide), fun l9 n9 => ?_⟩
  refine ⟨_, rfl, ?_⟩
  refine ⟨_, rfl, a, _, _, _, _, _, _, _, _, rfl, exT T hi, (hx.mono ((Evl.Ex.new n1).trans ((Evl.Ex.new n2).trans ((Evl.Ex.new n3).trans ((Evl.Ex.new n4).trans ((Evl.Ex.new n5).trans ((Evl.Ex.new n6).trans ((Evl.Ex.new n7).trans ((Evl.Ex.new n8).trans (Evl.Ex.new n9)))))))))), .own _, kitIJ T hi (j := 13) rfl, ?_⟩
  refine ⟨_, rfl, a, _, _, _, _, _, _, _, _, rfl, exT T hi, (hx.mono ((Evl.Ex.new n1).trans ((Evl.Ex.new n2).trans ((Evl.Ex.new n3).trans ((Evl.Ex.new n4).trans ((Evl.Ex.new n5).trans ((Evl.Ex.new n6).trans ((Evl.Ex.new n7).trans ((Evl.Ex.new n8).trans (Evl.Ex.new n9)))))))))), .own _, kitIJ T hi (j := 14) rfl, ?_⟩
  refine ⟨_, rfl, a, _, _, _, _, _, _, _, _, rfl, exT T hi, (hx.mono ((Evl.Ex.new n1).trans ((Evl.Ex.new n2).trans ((Evl.Ex.new n3).trans ((Evl.Ex.new n4).trans ((Evl.Ex.new n5).trans ((Evl.Ex.new n6).trans ((Evl.Ex.new n7).trans ((Evl.Ex.new n8).trans (Evl.Ex.new n9)))))))))), .own _, kitIJ T hi (j := 15) rfl, ?_⟩
  refine ⟨(by show 3 ≤ sizeLine; decide), fun l10 n10 => ?_⟩
  refine ⟨_, _, _, _, rfl, rfl, ((Evl.Ex.new n10) _ _ upd_same), upd_same, (by show 16 ≤ sizeLine; decide), fun l11 n11 => ?_⟩
  refine ⟨_, rfl, ?_⟩
  refine ⟨_, rfl, a, _, _, _, _, _, _, _, _, rfl, exT T hi, (hx.mono ((Evl.Ex.new n1).trans ((Evl.Ex.new n2).trans ((Evl.Ex.new n3).trans ((Evl.Ex.new n4).trans ((Evl.Ex.new n5).trans ((Evl.Ex.new n6).trans ((Evl.Ex.new n7).trans ((Evl.Ex.new n8).trans ((Evl.Ex.new n9).trans ((Evl.Ex.new n10).trans (Evl.Ex.new n11)))))))))))), .own _, kitIJ T hi (j := 16) rfl, ?_⟩
  refine ⟨_, rfl, a, _, _, _, _, _, _, _, _, rfl, exT T hi, (hx.mono ((Evl.Ex.new n1).trans ((Evl.Ex.new n2).trans ((Evl.Ex.new n3).trans ((Evl.Ex.new n4).trans ((Evl.Ex.new n5).trans ((Evl.Ex.new n6).trans ((Evl.Ex.new n7).trans ((Evl.Ex.new n8).trans ((Evl.Ex.new n9).trans ((Evl.Ex.new n10).trans (Evl.Ex.new n11)))))))))))), .own _, kitIJ T hi (j := 17) rfl, ?_⟩
  refine ⟨_, rfl, a, _, _, _, _, _, _, _, _, rfl, exT T hi, (hx.mono ((Evl.Ex.new n1).trans ((Evl.Ex.new n2).trans ((Evl.Ex.new n3).trans ((Evl.Ex.new n4).trans ((Evl.Ex.new n5).trans ((Evl.Ex.new n6).trans ((Evl.Ex.new n7).trans ((Evl.Ex.new n8).trans ((Evl.Ex.new n9).trans ((Evl.Ex.new n10).trans (Evl.Ex.new n11)))))))))))), .own _, kitIJ T hi (j := 18) rfl, ?_⟩
  refine ⟨(by show 3 ≤ sizeLine; decide), fun l12 n12 => ?_⟩
  refine ⟨_, _, _, _, rfl, rfl, ((Evl.Ex.new n12) _ _ upd_same), upd_same, (by show 19 ≤ sizeLine; decide), fun l13 n13 => ?_⟩
  refine ⟨_, rfl, ?_⟩
  refine ⟨_, rfl, a, _, _, _, _, _, _, _, _, rfl, exT T hi, (hx.mono ((Evl.Ex.new n1).trans ((Evl.Ex.new n2).trans ((Evl.Ex.new n3).trans ((Evl.Ex.new n4).trans ((Evl.Ex.new n5).trans ((Evl.Ex.new n6).trans ((Evl.Ex.new n7).trans ((Evl.Ex.new n8).trans ((Evl.Ex.new n9).trans ((Evl.Ex.new n10).trans ((Evl.Ex.new n11).trans ((Evl.Ex.new n12).trans (Evl.Ex.new n13)))))))))))))), .own _, kitIJ T hi (j := 19) rfl, ?_⟩
  refine ⟨_, rfl, a, _, _, _, _, _, _, _, _, rfl, exT T hi, (hx.mono ((Evl.Ex.new n1).trans ((Evl.Ex.new n2).trans ((Evl.Ex.new n3).trans ((Evl.Ex.new n4).trans ((Evl.Ex.new n5).trans ((Evl.Ex.new n6).trans ((Evl.Ex.new n7).trans ((Evl.Ex.new n8).trans ((Evl.Ex.new n9).trans ((Evl.Ex.new n10).trans ((Evl.Ex.new n11).trans ((Evl.Ex.new n12).trans (Evl.Ex.new n13)))))))))))))), .own _, kitIJ T hi (j := 20) rfl, ?_⟩
  refine ⟨_, rfl, a, _, _, _, _, _, _, _, _, rfl, exT T hi, (hx.mono ((Evl.Ex.new n1).trans ((Evl.Ex.new n2).trans ((Evl.Ex.new n3).trans ((Evl.Ex.new n4).trans ((Evl.Ex.new n5).trans ((Evl.Ex.new n6).trans ((Evl.Ex.new n7).trans ((Evl.Ex.new n8).trans ((Evl.Ex.new n9).trans ((Evl.Ex.new n10).trans ((Evl.Ex.new n11).trans ((Evl.Ex.new n12).trans (Evl.Ex.new n13)))))))))))))), .own _, kitIJ T hi (j := 21) rfl, ?_⟩
  refine ⟨(by show 3 ≤ sizeLine; decide), fun l14 n14 => ?_⟩
  refine ⟨_, _, _, _, rfl, rfl, ((Evl.Ex.new n14) _ _ upd_same), upd_same, (by show 22 ≤ sizeLine; decide), fun l15 n15 => ?_⟩
  refine ⟨_, rfl, ?_⟩
  refine ⟨_, rfl, a, _, _, _, _, _, _, _, _, rfl, exT T hi, (hx.mono ((Evl.Ex.new n1).trans ((Evl.Ex.new n2).trans ((Evl.Ex.new n3).trans ((Evl.Ex.new n4).trans ((Evl.Ex.new n5).trans ((Evl.Ex.new n6).trans ((Evl.Ex.new n7).trans ((Evl.Ex.new n8).trans ((Evl.Ex.new n9).trans ((Evl.Ex.new n10).trans ((Evl.Ex.new n11).trans ((Evl.Ex.new n12).trans ((Evl.Ex.new n13).trans ((Evl.Ex.new n14).trans (Evl.Ex.new n15)))))))))))))))), .own _, kitIJ T hi (j := 22) rfl, ?_⟩
  refine ⟨_, rfl, a, _, _, _, _, _, _, _, _, rfl, exT T hi, (hx.mono ((Evl.Ex.new n1).trans ((Evl.Ex.new n2).trans ((Evl.Ex.new n3).trans ((Evl.Ex.new n4).trans ((Evl.Ex.new n5).trans ((Evl.Ex.new n6).trans ((Evl.Ex.new n7).trans ((Evl.Ex.new n8).trans ((Evl.Ex.new n9).trans ((Evl.Ex.new n10).trans ((Evl.Ex.new n11).trans ((Evl.Ex.new n12).trans ((Evl.Ex.new n13).trans ((Evl.Ex.new n14).trans (Evl.Ex.new n15)))))))))))))))), .own _, kitIJ T hi (j := 23) rfl, ?_⟩
  refine ⟨_, rfl, a, _, _, _, _, _, _, _, _, rfl, exT T hi, (hx.mono ((Evl.Ex.new n1).trans ((Evl.Ex.new n2).trans ((Evl.Ex.new n3).trans ((Evl.Ex.new n4).trans ((Evl.Ex.new n5).trans ((Evl.Ex.new n6).trans ((Evl.Ex.new n7).trans ((Evl.Ex.new n8).trans ((Evl.Ex.new n9).trans ((Evl.Ex.new n10).trans ((Evl.Ex.new n11).trans ((Evl.Ex.new n12).trans ((Evl.Ex.new n13).trans ((Evl.Ex.new n14).trans (Evl.Ex.new n15)))))))))))))))), .own _, kitIJ T hi (j := 24) rfl, ?_⟩
  refine ⟨(by show 3 ≤ sizeLine; decide), fun l16 n16 => ?_⟩
  refine ⟨_, _, _, _, rfl, rfl, ((Evl.Ex.new n16) _ _ upd_same), upd_same, (by show 25 ≤ sizeLine; decide), fun l17 n17 => ?_⟩
  refine ⟨_, rfl, ?_⟩
  refine ⟨_, rfl, a, _, _, _, _, _, _, _, _, rfl, exT T hi, (hx.mono ((Evl.Ex.new n1).trans ((Evl.Ex.new n2).trans ((Evl.Ex.new n3).trans ((Evl.Ex.new n4).trans ((Evl.Ex.new n5).trans ((Evl.Ex.new n6).trans ((Evl.Ex.new n7).trans ((Evl.Ex.new n8).trans ((Evl.Ex.new n9).trans ((Evl.Ex.new n10).trans ((Evl.Ex.new n11).trans ((Evl.Ex.new n12).trans ((Evl.Ex.new n13).trans ((Evl.Ex.new n14).trans ((Evl.Ex.new n15).trans ((Evl.Ex.new n16).trans (Evl.Ex.new n17)))))))))))))))))), .own _, kitIJ T hi (j := 25) rfl, ?_⟩
  refine ⟨_, rfl, a, _, _, _, _, _, _, _, _, rfl, exT T hi, (hx.mono ((Evl.Ex.new n1).trans ((Evl.Ex.new n2).trans ((Evl.Ex.new n3).trans ((Evl.Ex.new n4).trans ((Evl.Ex.new n5).trans ((Evl.Ex.new n6).trans ((Evl.Ex.new n7).trans ((Evl.Ex.new n8).trans ((Evl.Ex.new n9).trans ((Evl.Ex.new n10).trans ((Evl.Ex.new n11).trans ((Evl.Ex.new n12).trans ((Evl.Ex.new n13).trans ((Evl.Ex.new n14).trans ((Evl.Ex.new n15).trans ((Evl.Ex.new n16).trans (Evl.Ex.new n17)))))))))))))))))), .own _, kitIJ T hi (j := 26) rfl, ?_⟩
  refine ⟨_, rfl, a, _, _, _, _, _, _, _, _, rfl, exT T hi, (hx.mono ((Evl.Ex.new n1).trans ((Evl.Ex.new n2).trans ((Evl.Ex.new n3).trans ((Evl.Ex.new n4).trans ((Evl.Ex.new n5).trans ((Evl.Ex.new n6).trans ((Evl.Ex.new n7).trans ((Evl.Ex.new n8).trans ((Evl.Ex.new n9).trans ((Evl.Ex.new n10).trans ((Evl.Ex.new n11).trans ((Evl.Ex.new n12).trans ((Evl.Ex.new n13).trans ((Evl.Ex.new n14).trans ((Evl.Ex.new n15).trans ((Evl.Ex.new n16).trans (Evl.Ex.new n17)))))))))))))))))), .own _, kitIJ T hi (j := 27) rfl, ?_⟩
  refine ⟨_, rfl, a, _, _, _, _, _, _, _, _, rfl, exT T hi, (hx.mono ((Evl.Ex.new n1).trans ((Evl.Ex.new n2).trans ((Evl.Ex.new n3).trans ((Evl.Ex.new n4).trans ((Evl.Ex.new n5).trans ((Evl.Ex.new n6).trans ((Evl.Ex.new n7).trans ((Evl.Ex.new n8).trans ((Evl.Ex.new n9).trans ((Evl.Ex.new n10).trans ((Evl.Ex.new n11).trans ((Evl.Ex.new n12).trans ((Evl.Ex.new n13).trans ((Evl.Ex.new n14).trans ((Evl.Ex.new n15).trans ((Evl.Ex.new n16).trans (Evl.Ex.new n17)))))))))))))))))), .own _, kitIJ T hi (j := 28) rfl, ?_⟩
  refine ⟨(by show 4 ≤ sizeLine; decide), fun l18 n18 => ?_⟩
  refine ⟨_, _, _, _, rfl, rfl, ((Evl.Ex.new n18) _ _ upd_same), upd_same, (by show 29 ≤ sizeLine; decide), fun l19 n19 => ?_⟩
  refine ⟨_, rfl, ?_⟩
  refine ⟨_, rfl, a, _, _, _, _, _, _, _, _, rfl, exT T hi, (hx.mono ((Evl.Ex.new n1).trans ((Evl.Ex.new n2).trans ((Evl.Ex.new n3).trans ((Evl.Ex.new n4).trans ((Evl.Ex.new n5).trans ((Evl.Ex.new n6).trans ((Evl.Ex.new n7).trans ((Evl.Ex.new n8).trans ((Evl.Ex.new n9).trans ((Evl.Ex.new n10).trans ((Evl.Ex.new n11).trans ((Evl.Ex.new n12).trans ((Evl.Ex.new n13).trans ((Evl.Ex.new n14).trans ((Evl.Ex.new n15).trans ((Evl.Ex.new n16).trans ((Evl.Ex.new n17).trans ((Evl.Ex.new n18).trans (Evl.Ex.new n19)))))))))))))))))))), .own _, kitIJ T hi (j := 29) rfl, ?_⟩
  refine ⟨_, rfl, a, _, _, _, _, _, _, _, _, rfl, exT T hi, (hx.mono ((Evl.Ex.new n1).trans ((Evl.Ex.new n2).trans ((Evl.Ex.new n3).trans ((Evl.Ex.new n4).trans ((Evl.Ex.new n5).trans ((Evl.Ex.new n6).trans ((Evl.Ex.new n7).trans ((Evl.Ex.new n8).trans ((Evl.Ex.new n9).trans ((Evl.Ex.new n10).trans ((Evl.Ex.new n11).trans ((Evl.Ex.new n12).trans ((Evl.Ex.new n13).trans ((Evl.Ex.new n14).trans ((Evl.Ex.new n15).trans ((Evl.Ex.new n16).trans ((Evl.Ex.new n17).trans ((Evl.Ex.new n18).trans (Evl.Ex.new n19)))))))))))))))))))), .own _, kitIJ T hi (j := 30) rfl, ?_⟩
  refine ⟨_, rfl, a, _, _, _, _, _, _, _, _, rfl, exT T hi, (hx.mono ((Evl.Ex.new n1).trans ((Evl.Ex.new n2).trans ((Evl.Ex.new n3).trans ((Evl.Ex.new n4).trans ((Evl.Ex.new n5).trans ((Evl.Ex.new n6).trans ((Evl.Ex.new n7).trans ((Evl.Ex.new n8).trans ((Evl.Ex.new n9).trans ((Evl.Ex.new n10).trans ((Evl.Ex.new n11).trans ((Evl.Ex.new n12).trans ((Evl.Ex.new n13).trans ((Evl.Ex.new n14).trans ((Evl.Ex.new n15).trans ((Evl.Ex.new n16).trans ((Evl.Ex.new n17).trans ((Evl.Ex.new n18).trans (Evl.Ex.new n19)))))))))))))))))))), .own _, kitIJ T hi (j := 31) rfl, ?_⟩
  refine ⟨_, rfl, a, _, _, _, _, _, _, _, _, rfl, exT T hi, (hx.mono ((Evl.Ex.new n1).trans ((Evl.Ex.new n2).trans ((Evl.Ex.new n3).trans ((Evl.Ex.new n4).trans ((Evl.Ex.new n5).trans ((Evl.Ex.new n6).trans ((Evl.Ex.new n7).trans ((Evl.Ex.new n8).trans ((Evl.Ex.new n9).trans ((Evl.Ex.new n10).trans ((Evl.Ex.new n11).trans ((Evl.Ex.new n12).trans ((Evl.Ex.new n13).trans ((Evl.Ex.new n14).trans ((Evl.Ex.new n15).trans ((Evl.Ex.new n16).trans ((Evl.Ex.new n17).trans ((Evl.Ex.new n18).trans (Evl.Ex.new n19)))))))))))))))))))), .own _, kitIJ T hi (j := 32) rfl, ?_⟩
  refine ⟨(by show 4 ≤ sizeLine; decide), fun l20 n20 => ?_⟩
  refine ⟨_, _, _, _, rfl, rfl, ((Evl.Ex.new n20) _ _ upd_same), upd_same, (by show 33 ≤ sizeLine; decide), fun l21 n21 => ?_⟩
  refine ⟨_, rfl, ?_⟩
  refine ⟨_, rfl, a, _, _, _, _, _, _, _, _, rfl, exT T hi, (hx.mono ((Evl.Ex.new n1).trans ((Evl.Ex.new n2).trans ((Evl.Ex.new n3).trans ((Evl.Ex.new n4).trans ((Evl.Ex.new n5).trans ((Evl.Ex.new n6).trans ((Evl.Ex.new n7).trans ((Evl.Ex.new n8).trans ((Evl.Ex.new n9).trans ((Evl.Ex.new n10).trans ((Evl.Ex.new n11).trans ((Evl.Ex.new n12).trans ((Evl.Ex.new n13).trans ((Evl.Ex.new n14).trans ((Evl.Ex.new n15).trans ((Evl.Ex.new n16).trans ((Evl.Ex.new n17).trans ((Evl.Ex.new n18).trans ((Evl.Ex.new n19).trans ((Evl.Ex.new n20).trans (Evl.Ex.new n21)))))))))))))))))))))), .own _, kitIJ T hi (j := 33) rfl, ?_⟩
  refine ⟨_, rfl, a, _, _, _, _, _, _, _, _, rfl, exT T hi, (hx.mono ((Evl.Ex.new n1).trans ((Evl.Ex.new n2).trans ((Evl.Ex.new n3).trans ((Evl.Ex.new n4).trans ((Evl.Ex.new n5).trans ((Evl.Ex.new n6).trans ((Evl.Ex.new n7).trans ((Evl.Ex.new n8).trans ((Evl.Ex.new n9).trans ((Evl.Ex.new n10).trans ((Evl.Ex.new n11).trans ((Evl.Ex.new n12).trans ((Evl.Ex.new n13).trans ((Evl.Ex.new n14).trans ((Evl.Ex.new n15).trans ((Evl.Ex.new n16).trans ((Evl.Ex.new n17).trans ((Evl.Ex.new n18).trans ((Evl.Ex.new n19).trans ((Evl.Ex.new n20).trans (Evl.Ex.new n21)))))))))))))))))))))), .own _, kitIJ T hi (j := 34) rfl, ?_⟩
  refine ⟨_, rfl, a, _, _, _, _, _, _, _, _, rfl, exT T hi, (hx.mono ((Evl.Ex.new n1).trans ((Evl.Ex.new n2).trans ((Evl.Ex.new n3).trans ((Evl.Ex.new n4).trans ((Evl.Ex.new n5).trans ((Evl.Ex.new n6).trans ((Evl.Ex.new n7).trans ((Evl.Ex.new n8).trans ((Evl.Ex.new n9).trans ((Evl.Ex.new n10).trans ((Evl.Ex.new n11).trans ((Evl.Ex.new n12).trans ((Evl.Ex.new n13).trans ((Evl.Ex.new n14).trans ((Evl.Ex.new n15).trans ((Evl.Ex.new n16).trans ((Evl.Ex.new n17).trans ((Evl.Ex.new n18).trans ((Evl.Ex.new n19).trans ((Evl.Ex.new n20).trans (Evl.Ex.new n21)))))))))))))))))))))), .own _, kitIJ T hi (j := 35) rfl, ?_⟩
  refine ⟨_, rfl, a, _, _, _, _, _, _, _, _, rfl, exT T hi, (hx.mono ((Evl.Ex.new n1).trans ((Evl.Ex.new n2).trans ((Evl.Ex.new n3).trans ((Evl.Ex.new n4).trans ((Evl.Ex.new n5).trans ((Evl.Ex.new n6).trans ((Evl.Ex.new n7).trans ((Evl.Ex.new n8).trans ((Evl.Ex.new n9).trans ((Evl.Ex.new n10).trans ((Evl.Ex.new n11).trans ((Evl.Ex.new n12).trans ((Evl.Ex.new n13).trans ((Evl.Ex.new n14).trans ((Evl.Ex.new n15).trans ((Evl.Ex.new n16).trans ((Evl.Ex.new n17).trans ((Evl.Ex.new n18).trans ((Evl.Ex.new n19).trans ((Evl.Ex.new n20).trans (Evl.Ex.new n21)))))))))))))))))))))), .own _, kitIJ T hi (j := 36) rfl, ?_⟩
  refine ⟨(by show 4 ≤ sizeLine; decide), fun l22 n22 => ?_⟩
  refine ⟨_, _, _, _, rfl, rfl, ((Evl.Ex.new n22) _ _ upd_same), upd_same, (by show 37 ≤ sizeLine; decide), fun l23 n23 => ?_⟩
  exact hQ l23 _ ((Evl.Ex.new n1).trans ((Evl.Ex.new n2).trans ((Evl.Ex.new n3).trans ((Evl.Ex.new n4).trans ((Evl.Ex.new n5).trans ((Evl.Ex.new n6).trans ((Evl.Ex.new n7).trans ((Evl.Ex.new n8).trans ((Evl.Ex.new n9).trans ((Evl.Ex.new n10).trans ((Evl.Ex.new n11).trans ((Evl.Ex.new n12).trans ((Evl.Ex.new n13).trans ((Evl.Ex.new n14).trans ((Evl.Ex.new n15).trans ((Evl.Ex.new n16).trans ((Evl.Ex.new n17).trans ((Evl.Ex.new n18).trans ((Evl.Ex.new n19).trans ((Evl.Ex.new n20).trans ((Evl.Ex.new n21).trans ((Evl.Ex.new n22).trans (Evl.Ex.new n23))))))))))))))))))))))) (by rw [list37]; exact upd_same)
theorem hot_l_kept (T : Txt K mg)  : CalP p P w K mg base 2 "_law_kept" (spKept K [p]) := by
  obtain ⟨fd, F⟩ := T.d__law_kept
  refine ⟨_, fd, ["_law_e"], ?_, T.g__law_kept, F.kp, F.bindsN fun _ _ _ _ _ _ us hl => match us, hl with | [_], _ => rfl⟩
  refine fnP_of F sc_l_kept (fun vs H Q E h => by obtain ⟨_, _, _, _, rfl, _⟩ := h; rfl) (fun cdv A outer s H vs Q hot hr h => ?_)
  refine ⟨_, PSs.nox (pss_cons (ps_if (pt_val (pe_callB call_isX (by rfl) T.f_isinstance (by decide +kernel) (pa_cons (pv 0) (pa_cons (pe_gc rfl T.c_Outside) pa_nil)))) (pss_one (ps_ret (pe_lst (pa_cons (pe_xv (pv 0)) pa_nil)))) pss_nil)
      (pss_cons (ps_if (pt_val (pe_callB call_isX (by rfl) T.f_isinstance (by decide +kernel) (pa_cons (pv 0) (pa_cons (pe_gc rfl T.c_TooMany) pa_nil)))) (pss_one (ps_ret (pe_lst (pa_cons (pe_xv (pv 0)) pa_nil)))) pss_nil)
      (pss_cons (ps_if (pt_val (pe_callB call_isX (by rfl) T.f_isinstance (by decide +kernel) (pa_cons (pv 0) (pa_cons (pe_gc rfl T.c_NoThing) pa_nil)))) (pss_one (ps_ret (pe_lst (pa_cons (pe_xv (pv 0)) pa_nil)))) pss_nil)
      (pss_cons (ps_if (pt_val (pe_callB call_isX (by rfl) T.f_isinstance (by decide +kernel) (pa_cons (pv 0) (pa_cons (pe_gc rfl T.c_NoSystem) pa_nil)))) (pss_one (ps_ret (pe_lst (pa_cons (pe_xv (pv 0)) (pa_cons (pe_xv (pv 0)) pa_nil))))) pss_nil)
      (pss_cons (ps_if (pt_val (pe_callB call_isX (by rfl) T.f_isinstance (by decide +kernel) (pa_cons (pv 0) (pa_cons (pe_gc rfl T.c_NotBrought) pa_nil)))) (pss_one (ps_ret (pe_lst (pa_cons (pe_xv (pv 0)) (pa_cons (pe_xv (pv 0)) pa_nil))))) pss_nil)
      (pss_cons (ps_if (pt_val (pe_callB call_isX (by rfl) T.f_isinstance (by decide +kernel) (pa_cons (pv 0) (pa_cons (pe_gc rfl T.c_TooGreat) pa_nil)))) (pss_one (ps_ret (pe_lst (pa_cons (pe_xv (pv 0)) (pa_cons (pe_xv (pv 0)) pa_nil))))) pss_nil)
      (pss_cons (ps_if (pt_val (pe_callB call_isX (by rfl) T.f_isinstance (by decide +kernel) (pa_cons (pv 0) (pa_cons (pe_gc rfl T.c_NotFair) pa_nil)))) (pss_one (ps_ret (pe_lst (pa_cons (pe_xv (pv 0)) (pa_cons (pe_xv (pv 0)) (pa_cons (pe_xv (pv 0)) pa_nil)))))) pss_nil)
      (pss_cons (ps_if (pt_val (pe_callB call_isX (by rfl) T.f_isinstance (by decide +kernel) (pa_cons (pv 0) (pa_cons (pe_gc rfl T.c_TooRich) pa_nil)))) (pss_one (ps_ret (pe_lst (pa_cons (pe_xv (pv 0)) (pa_cons (pe_xv (pv 0)) (pa_cons (pe_xv (pv 0)) pa_nil)))))) pss_nil)
      (pss_one (ps_ret (pe_ifExp (pt_val (pe_callB call_isX (by rfl) T.f_isinstance (by decide +kernel) (pa_cons (pv 0) (pa_cons (pe_gc rfl T.c_NotLet) pa_nil)))) (pe_lst (pa_cons (pe_xv (pv 0)) (pa_cons (pe_xv (pv 0)) (pa_cons (pe_xv (pv 0)) (pa_cons (pe_xv (pv 0)) pa_nil))))) (pe_lst (pa_cons (pe_xv (pv 0)) pa_nil))))))))))))), ?_⟩
  obtain ⟨a, i, e, us, rfl, hi, hi34, hul, hx, hQ⟩ := h
  by_cases c25 : i = 25
  · subst c25
    obtain rfl : e = e1 "Outside" ["payoff"] := Option.some.inj (hi.symm.trans rfl)
    obtain ⟨u1, rfl⟩ : ∃ u1, us = [u1] := match us, hul with | [u1], _ => ⟨u1, rfl⟩
    refine ⟨_, rfl, a, _, _, _, _, _, _, _, _, rfl, exT T hi, hx, .own _, kitIJ T hi (j := 25) rfl, ?_⟩
    refine ⟨_, rfl, iteTo (decide_eq_true (by omega)) ?_⟩
    refine ⟨_, rfl, a, _, _, _, _, _, _, rfl, exT T hi, (by simp), hx, rfl, ?_⟩
    exact ⟨(by show 1 ≤ sizeLine; decide), fun l hl => hQ l _ hl (Evl.Ex.new hl) upd_same⟩
  by_cases c26 : i = 26
  · subst c26
    obtain rfl : e = e1 "TooMany" ["count"] := Option.some.inj (hi.symm.trans rfl)
    obtain ⟨u1, rfl⟩ : ∃ u1, us = [u1] := match us, hul with | [u1], _ => ⟨u1, rfl⟩
    refine ⟨_, rfl, a, _, _, _, _, _, _, _, _, rfl, exT T hi, hx, .own _, kitIJ T hi (j := 25) rfl, ?_⟩
    refine ⟨_, rfl, iteFo (decide_eq_false (by omega)) ?_⟩
    refine ⟨_, rfl, a, _, _, _, _, _, _, _, _, rfl, exT T hi, hx, .own _, kitIJ T hi (j := 26) rfl, ?_⟩
    refine ⟨_, rfl, iteTo (decide_eq_true (by omega)) ?_⟩
    refine ⟨_, rfl, a, _, _, _, _, _, _, rfl, exT T hi, (by simp), hx, rfl, ?_⟩
    exact ⟨(by show 1 ≤ sizeLine; decide), fun l hl => hQ l _ hl (Evl.Ex.new hl) upd_same⟩
  by_cases c27 : i = 27
  · subst c27
    obtain rfl : e = e1 "NoThing" ["name"] := Option.some.inj (hi.symm.trans rfl)
    obtain ⟨u1, rfl⟩ : ∃ u1, us = [u1] := match us, hul with | [u1], _ => ⟨u1, rfl⟩
    refine ⟨_, rfl, a, _, _, _, _, _, _, _, _, rfl, exT T hi, hx, .own _, kitIJ T hi (j := 25) rfl, ?_⟩
    refine ⟨_, rfl, iteFo (decide_eq_false (by omega)) ?_⟩
    refine ⟨_, rfl, a, _, _, _, _, _, _, _, _, rfl, exT T hi, hx, .own _, kitIJ T hi (j := 26) rfl, ?_⟩
    refine ⟨_, rfl, iteFo (decide_eq_false (by omega)) ?_⟩
    refine ⟨_, rfl, a, _, _, _, _, _, _, _, _, rfl, exT T hi, hx, .own _, kitIJ T hi (j := 27) rfl, ?_⟩
    refine ⟨_, rfl, iteTo (decide_eq_true (by omega)) ?_⟩
    refine ⟨_, rfl, a, _, _, _, _, _, _, rfl, exT T hi, (by simp), hx, rfl, ?_⟩
    exact ⟨(by show 1 ≤ sizeLine; decide), fun l hl => hQ l _ hl (Evl.Ex.new hl) upd_same⟩
  by_cases c28 : i = 28
  · subst c28
    obtain rfl : e = e1 "NoSystem" ["line", "column"] := Option.some.inj (hi.symm.trans rfl)
    obtain ⟨u1, u2, rfl⟩ : ∃ u1 u2, us = [u1, u2] := match us, hul with | [u1, u2], _ => ⟨u1, u2, rfl⟩
    refine ⟨_, rfl, a, _, _, _, _, _, _, _, _, rfl, exT T hi, hx, .own _, kitIJ T hi (j := 25) rfl, ?_⟩
    refine ⟨_, rfl, iteFo (decide_eq_false (by omega)) ?_⟩
    refine ⟨_, rfl, a, _, _, _, _, _, _, _, _, rfl, exT T hi, hx, .own _, kitIJ T hi (j := 26) rfl, ?_⟩
    refine ⟨_, rfl, iteFo (decide_eq_false (by omega)) ?_⟩
    refine ⟨_, rfl, a, _, _, _, _, _, _, _, _, rfl, exT T hi, hx, .own _, kitIJ T hi (j := 27) rfl, ?_⟩
    refine ⟨_, rfl, iteFo (decide_eq_false (by omega)) ?_⟩
    refine ⟨_, rfl, a, _, _, _, _, _, _, _, _, rfl, exT T hi, hx, .own _, kitIJ T hi (j := 28) rfl, ?_⟩
    refine ⟨_, rfl, iteTo (decide_eq_true (by omega)) ?_⟩
    refine ⟨_, rfl, a, _, _, _, _, _, _, rfl, exT T hi, (by simp), hx, rfl, ?_⟩
    refine ⟨_, rfl, a, _, _, _, _, _, _, rfl, exT T hi, (by simp), hx, rfl, ?_⟩
    exact ⟨(by show 2 ≤ sizeLine; decide), fun l hl => hQ l _ hl (Evl.Ex.new hl) upd_same⟩
  by_cases c29 : i = 29
  · subst c29
    obtain rfl : e = e1 "NotBrought" ["payoff", "table"] := Option.some.inj (hi.symm.trans rfl)
    obtain ⟨u1, u2, rfl⟩ : ∃ u1 u2, us = [u1, u2] := match us, hul with | [u1, u2], _ => ⟨u1, u2, rfl⟩
    refine ⟨_, rfl, a, _, _, _, _, _, _, _, _, rfl, exT T hi, hx, .own _, kitIJ T hi (j := 25) rfl, ?_⟩
    refine ⟨_, rfl, iteFo (decide_eq_false (by omega)) ?_⟩
    refine ⟨_, rfl, a, _, _, _, _, _, _, _, _, rfl, exT T hi, hx, .own _, kitIJ T hi (j := 26) rfl, ?_⟩
    refine ⟨_, rfl, iteFo (decide_eq_false (by omega)) ?_⟩
    refine ⟨_, rfl, a, _, _, _, _, _, _, _, _, rfl, exT T hi, hx, .own _, kitIJ T hi (j := 27) rfl, ?_⟩
    refine ⟨_, rfl, iteFo (decide_eq_false (by omega)) ?_⟩
    refine ⟨_, rfl, a, _, _, _, _, _, _, _, _, rfl, exT T hi, hx, .own _, kitIJ T hi (j := 28) rfl, ?_⟩
    refine ⟨_, rfl, iteFo (decide_eq_false (by omega)) ?_⟩
    refine ⟨_, rfl, a, _, _, _, _, _, _, _, _, rfl, exT T hi, hx, .own _, kitIJ T hi (j := 29) rfl, ?_⟩
    refine ⟨_, rfl, iteTo (decide_eq_true (by omega)) ?_⟩
    refine ⟨_, rfl, a, _, _, _, _, _, _, rfl, exT T hi, (by simp), hx, rfl, ?_⟩
    refine ⟨_, rfl, a, _, _, _, _, _, _, rfl, exT T hi, (by simp), hx, rfl, ?_⟩
    exact ⟨(by show 2 ≤ sizeLine; decide), fun l hl => hQ l _ hl (Evl.Ex.new hl) upd_same⟩
  by_cases c30 : i = 30
  · subst c30
    obtain rfl : e = e1 "TooGreat" ["unit", "store"] := Option.some.inj (hi.symm.trans rfl)
    obtain ⟨u1, u2, rfl⟩ : ∃ u1 u2, us = [u1, u2] := match us, hul with | [u1, u2], _ => ⟨u1, u2, rfl⟩
    refine ⟨_, rfl, a, _, _, _, _, _, _, _, _, rfl, exT T hi, hx, .own _, kitIJ T hi (j := 25) rfl, ?_⟩
    refine ⟨_, rfl, iteFo (decide_eq_false (by omega)) ?_⟩
    refine ⟨_, rfl, a, _, _, _, _, _, _, _, _, rfl, exT T hi, hx, .own _, kitIJ T hi (j := 26) rfl, ?_⟩
    refine ⟨_, rfl, iteFo (decide_eq_false (by omega)) ?_⟩
    refine ⟨_, rfl, a, _, _, _, _, _, _, _, _, rfl, exT T hi, hx, .own _, kitIJ T hi (j := 27) rfl, ?_⟩
    refine ⟨_, rfl, iteFo (decide_eq_false (by omega)) ?_⟩
    refine ⟨_, rfl, a, _, _, _, _, _, _, _, _, rfl, exT T hi, hx, .own _, kitIJ T hi (j := 28) rfl, ?_⟩
    refine ⟨_, rfl, iteFo (decide_eq_false (by omega)) ?_⟩
    refine ⟨_, rfl, a, _, _, _, _, _, _, _, _, rfl, exT T hi, hx, .own _, kitIJ T hi (j := 29) rfl, ?_⟩
    refine ⟨_, rfl, iteFo (decide_eq_false (by omega)) ?_⟩
    refine ⟨_, rfl, a, _, _, _, _, _, _, _, _, rfl, exT T hi, hx, .own _, kitIJ T hi (j := 30) rfl, ?_⟩
    refine ⟨_, rfl, iteTo (decide_eq_true (by omega)) ?_⟩
    refine ⟨_, rfl, a, _, _, _, _, _, _, rfl, exT T hi, (by simp), hx, rfl, ?_⟩
    refine ⟨_, rfl, a, _, _, _, _, _, _, rfl, exT T hi, (by simp), hx, rfl, ?_⟩
    exact ⟨(by show 2 ≤ sizeLine; decide), fun l hl => hQ l _ hl (Evl.Ex.new hl) upd_same⟩
  by_cases c31 : i = 31
  · subst c31
    obtain rfl : e = e1 "NotFair" ["reason", "unit", "word"] := Option.some.inj (hi.symm.trans rfl)
    obtain ⟨u1, u2, u3, rfl⟩ : ∃ u1 u2 u3, us = [u1, u2, u3] := match us, hul with | [u1, u2, u3], _ => ⟨u1, u2, u3, rfl⟩
    refine ⟨_, rfl, a, _, _, _, _, _, _, _, _, rfl, exT T hi, hx, .own _, kitIJ T hi (j := 25) rfl, ?_⟩
    refine ⟨_, rfl, iteFo (decide_eq_false (by omega)) ?_⟩
    refine ⟨_, rfl, a, _, _, _, _, _, _, _, _, rfl, exT T hi, hx, .own _, kitIJ T hi (j := 26) rfl, ?_⟩
    refine ⟨_, rfl, iteFo (decide_eq_false (by omega)) ?_⟩
    refine ⟨_, rfl, a, _, _, _, _, _, _, _, _, rfl, exT T hi, hx, .own _, kitIJ T hi (j := 27) rfl, ?_⟩
    refine ⟨_, rfl, iteFo (decide_eq_false (by omega)) ?_⟩
    refine ⟨_, rfl, a, _, _, _, _, _, _, _, _, rfl, exT T hi, hx, .own _, kitIJ T hi (j := 28) rfl, ?_⟩
    refine ⟨_, rfl, iteFo (decide_eq_false (by omega)) ?_⟩
    refine ⟨_, rfl, a, _, _, _, _, _, _, _, _, rfl, exT T hi, hx, .own _, kitIJ T hi (j := 29) rfl, ?_⟩
    refine ⟨_, rfl, iteFo (decide_eq_false (by omega)) ?_⟩
    refine ⟨_, rfl, a, _, _, _, _, _, _, _, _, rfl, exT T hi, hx, .own _, kitIJ T hi (j := 30) rfl, ?_⟩
    refine ⟨_, rfl, iteFo (decide_eq_false (by omega)) ?_⟩
    refine ⟨_, rfl, a, _, _, _, _, _, _, _, _, rfl, exT T hi, hx, .own _, kitIJ T hi (j := 31) rfl, ?_⟩
    refine ⟨_, rfl, iteTo (decide_eq_true (by omega)) ?_⟩
    refine ⟨_, rfl, a, _, _, _, _, _, _, rfl, exT T hi, (by simp), hx, rfl, ?_⟩
    refine ⟨_, rfl, a, _, _, _, _, _, _, rfl, exT T hi, (by simp), hx, rfl, ?_⟩
    refine ⟨_, rfl, a, _, _, _, _, _, _, rfl, exT T hi, (by simp), hx, rfl, ?_⟩
    exact ⟨(by show 3 ≤ sizeLine; decide), fun l hl => hQ l _ hl (Evl.Ex.new hl) upd_same⟩
  by_cases c32 : i = 32
  · subst c32
    obtain rfl : e = e1 "TooRich" ["unit", "store", "count"] := Option.some.inj (hi.symm.trans rfl)
    obtain ⟨u1, u2, u3, rfl⟩ : ∃ u1 u2 u3, us = [u1, u2, u3] := match us, hul with | [u1, u2, u3], _ => ⟨u1, u2, u3, rfl⟩
    refine ⟨_, rfl, a, _, _, _, _, _, _, _, _, rfl, exT T hi, hx, .own _, kitIJ T hi (j := 25) rfl, ?_⟩
    refine ⟨_, rfl, iteFo (decide_eq_false (by omega)) ?_⟩
    refine ⟨_, rfl, a, _, _, _, _, _, _, _, _, rfl, exT T hi, hx, .own _, kitIJ T hi (j := 26) rfl, ?_⟩
    refine ⟨_, rfl, iteFo (decide_eq_false (by omega)) ?_⟩
    refine ⟨_, rfl, a, _, _, _, _, _, _, _, _, rfl, exT T hi, hx, .own _, kitIJ T hi (j := 27) rfl, ?_⟩
    refine ⟨_, rfl, iteFo (decide_eq_false (by omega)) ?_⟩
    refine ⟨_, rfl, a, _, _, _, _, _, _, _, _, rfl, exT T hi, hx, .own _, kitIJ T hi (j := 28) rfl, ?_⟩
    refine ⟨_, rfl, iteFo (decide_eq_false (by omega)) ?_⟩
    refine ⟨_, rfl, a, _, _, _, _, _, _, _, _, rfl, exT T hi, hx, .own _, kitIJ T hi (j := 29) rfl, ?_⟩
    refine ⟨_, rfl, iteFo (decide_eq_false (by omega)) ?_⟩
    refine ⟨_, rfl, a, _, _, _, _, _, _, _, _, rfl, exT T hi, hx, .own _, kitIJ T hi (j := 30) rfl, ?_⟩
    refine ⟨_, rfl, iteFo (decide_eq_false (by omega)) ?_⟩
    refine ⟨_, rfl, a, _, _, _, _, _, _, _, _, rfl, exT T hi, hx, .own _, kitIJ T hi (j := 31) rfl, ?_⟩
    refine ⟨_, rfl, iteFo (decide_eq_false (by omega)) ?_⟩
    refine ⟨_, rfl, a, _, _, _, _, _, _, _, _, rfl, exT T hi, hx, .own _, kitIJ T hi (j := 32) rfl, ?_⟩
    refine ⟨_, rfl, iteTo (decide_eq_true (by omega)) ?_⟩
    refine ⟨_, rfl, a, _, _, _, _, _, _, rfl, exT T hi, (by simp), hx, rfl, ?_⟩
    refine ⟨_, rfl, a, _, _, _, _, _, _, rfl, exT T hi, (by simp), hx, rfl, ?_⟩
    refine ⟨_, rfl, a, _, _, _, _, _, _, rfl, exT T hi, (by simp), hx, rfl, ?_⟩
    exact ⟨(by show 3 ≤ sizeLine; decide), fun l hl => hQ l _ hl (Evl.Ex.new hl) upd_same⟩
  by_cases c33 : i = 33
  · subst c33
    obtain rfl : e = e1 "NotLet" ["store", "pick", "payoff", "table"] := Option.some.inj (hi.symm.trans rfl)
    obtain ⟨u1, u2, u3, u4, rfl⟩ : ∃ u1 u2 u3 u4, us = [u1, u2, u3, u4] := match us, hul with | [u1, u2, u3, u4], _ => ⟨u1, u2, u3, u4, rfl⟩
    refine ⟨_, rfl, a, _, _, _, _, _, _, _, _, rfl, exT T hi, hx, .own _, kitIJ T hi (j := 25) rfl, ?_⟩
    refine ⟨_, rfl, iteFo (decide_eq_false (by omega)) ?_⟩
    refine ⟨_, rfl, a, _, _, _, _, _, _, _, _, rfl, exT T hi, hx, .own _, kitIJ T hi (j := 26) rfl, ?_⟩
    refine ⟨_, rfl, iteFo (decide_eq_false (by omega)) ?_⟩
    refine ⟨_, rfl, a, _, _, _, _, _, _, _, _, rfl, exT T hi, hx, .own _, kitIJ T hi (j := 27) rfl, ?_⟩
    refine ⟨_, rfl, iteFo (decide_eq_false (by omega)) ?_⟩
    refine ⟨_, rfl, a, _, _, _, _, _, _, _, _, rfl, exT T hi, hx, .own _, kitIJ T hi (j := 28) rfl, ?_⟩
    refine ⟨_, rfl, iteFo (decide_eq_false (by omega)) ?_⟩
    refine ⟨_, rfl, a, _, _, _, _, _, _, _, _, rfl, exT T hi, hx, .own _, kitIJ T hi (j := 29) rfl, ?_⟩
    refine ⟨_, rfl, iteFo (decide_eq_false (by omega)) ?_⟩
    refine ⟨_, rfl, a, _, _, _, _, _, _, _, _, rfl, exT T hi, hx, .own _, kitIJ T hi (j := 30) rfl, ?_⟩
    refine ⟨_, rfl, iteFo (decide_eq_false (by omega)) ?_⟩
    refine ⟨_, rfl, a, _, _, _, _, _, _, _, _, rfl, exT T hi, hx, .own _, kitIJ T hi (j := 31) rfl, ?_⟩
    refine ⟨_, rfl, iteFo (decide_eq_false (by omega)) ?_⟩
    refine ⟨_, rfl, a, _, _, _, _, _, _, _, _, rfl, exT T hi, hx, .own _, kitIJ T hi (j := 32) rfl, ?_⟩
    refine ⟨_, rfl, iteFo (decide_eq_false (by omega)) ?_⟩
    refine ⟨_, rfl, a, _, _, _, _, _, _, _, _, rfl, exT T hi, hx, .own _, kitIJ T hi (j := 33) rfl, ?_⟩
    refine ⟨_, rfl, iteTo (decide_eq_true (by omega)) ?_⟩
    refine ⟨_, rfl, a, _, _, _, _, _, _, rfl, exT T hi, (by simp), hx, rfl, ?_⟩
    refine ⟨_, rfl, a, _, _, _, _, _, _, rfl, exT T hi, (by simp), hx, rfl, ?_⟩
    refine ⟨_, rfl, a, _, _, _, _, _, _, rfl, exT T hi, (by simp), hx, rfl, ?_⟩
    refine ⟨_, rfl, a, _, _, _, _, _, _, rfl, exT T hi, (by simp), hx, rfl, ?_⟩
    exact ⟨(by show 4 ≤ sizeLine; decide), fun l hl => hQ l _ hl (Evl.Ex.new hl) upd_same⟩
  have i25 : i < 25 := by omega
  obtain ⟨x, fl⟩ := e
  obtain rfl : fl = ([("given" : Str)] : List Str) := by
    have := given25 i i25
    rw [hi] at this
    exact Option.some.inj this
  obtain ⟨u1, rfl⟩ : ∃ u1, us = [u1] := match us, hul with | [u1], _ => ⟨u1, rfl⟩
  refine ⟨_, rfl, a, _, _, _, _, _, _, _, _, rfl, exT T hi, hx, .own _, kitIJ T hi (j := 25) rfl, ?_⟩
  refine ⟨_, rfl, iteFo (decide_eq_false (by omega)) ?_⟩
  refine ⟨_, rfl, a, _, _, _, _, _, _, _, _, rfl, exT T hi, hx, .own _, kitIJ T hi (j := 26) rfl, ?_⟩
  refine ⟨_, rfl, iteFo (decide_eq_false (by omega)) ?_⟩
  refine ⟨_, rfl, a, _, _, _, _, _, _, _, _, rfl, exT T hi, hx, .own _, kitIJ T hi (j := 27) rfl, ?_⟩
  refine ⟨_, rfl, iteFo (decide_eq_false (by omega)) ?_⟩
  refine ⟨_, rfl, a, _, _, _, _, _, _, _, _, rfl, exT T hi, hx, .own _, kitIJ T hi (j := 28) rfl, ?_⟩
  refine ⟨_, rfl, iteFo (decide_eq_false (by omega)) ?_⟩
  refine ⟨_, rfl, a, _, _, _, _, _, _, _, _, rfl, exT T hi, hx, .own _, kitIJ T hi (j := 29) rfl, ?_⟩
  refine ⟨_, rfl, iteFo (decide_eq_false (by omega)) ?_⟩
  refine ⟨_, rfl, a, _, _, _, _, _, _, _, _, rfl, exT T hi, hx, .own _, kitIJ T hi (j := 30) rfl, ?_⟩
  refine ⟨_, rfl, iteFo (decide_eq_false (by omega)) ?_⟩
  refine ⟨_, rfl, a, _, _, _, _, _, _, _, _, rfl, exT T hi, hx, .own _, kitIJ T hi (j := 31) rfl, ?_⟩
  refine ⟨_, rfl, iteFo (decide_eq_false (by omega)) ?_⟩
  refine ⟨_, rfl, a, _, _, _, _, _, _, _, _, rfl, exT T hi, hx, .own _, kitIJ T hi (j := 32) rfl, ?_⟩
  refine ⟨_, rfl, iteFo (decide_eq_false (by omega)) ?_⟩
  refine ⟨_, rfl, a, _, _, _, _, _, _, _, _, rfl, exT T hi, hx, .own _, kitIJ T hi (j := 33) rfl, ?_⟩
  refine ⟨_, rfl, iteFo (decide_eq_false (by omega)) ?_⟩
  refine ⟨_, rfl, a, _, _, _, _, _, _, rfl, exT T hi, (by simp), hx, rfl, ?_⟩
  exact ⟨(by show 1 ≤ sizeLine; decide), fun l hl => hQ l _ hl (Evl.Ex.new hl) upd_same⟩
theorem hot_l_is (T : Txt K mg) (C_l_sorts : CalP p P w K mg base 2 "_law_sorts" (spSorts K [p])) : CalP p P w K mg base 3 "_law_is" (spIs K [p]) := by
  obtain ⟨fd, F⟩ := T.d__law_is
  refine ⟨_, fd, ["_law_e", "_law_spot"], ?_, T.g__law_is, F.kp, F.bindsN fun _ _ _ _ _ _ us hl => match us, hl with | [_, _], _ => rfl⟩
  refine fnP_of F sc_l_is (fun vs H Q E h => by obtain ⟨_, _, _, _, _, rfl, _⟩ := h; rfl) (fun cdv A outer s H vs Q hot hr h => ?_)
  refine ⟨_, PSs.nox (pss_cons (ps_set (i := 2) sc_l_is.nd rfl (Or.inr rfl) (pe_cP C_l_sorts hr (by decide) hot List.mem_cons_self rfl (pa_cons (pv 0) pa_nil)))
      (pss_cons (ps_if (PW.pt (pw_or (pt_not (pt_val (pe_callB call_isX (by rfl) T.f_isinstance (by decide +kernel) (pa_cons (pv 0) (pa_cons (pe_gc rfl T.c_PatchError) pa_nil))))) (pw_or1 (pt_not (pt_val (pe_callB call_isX (by rfl) T.f_isinstance (by decide +kernel) (pa_cons (pv 0) (pa_cons (pe_bltn (v := .ty "ValueError") (u := .type "ValueError") (by rfl) T.f_ValueError (by decide +kernel) rfl) pa_nil)))))))) (pss_one (ps_ret pe_bl)) pss_nil)
      (pss_one (ps_ret (pe_cmpR (op_eqD (rh64 hr)) (pe_lcH (own := [("_law_k", 3)]) ⟨p, hot, List.mem_cons_self⟩ sc_l_is.nd (L2H.pi_range1H (by rfl) T.f_range (pa_cons (pe_callB call_len_seq (by rfl) T.f_len (by decide +kernel) (pa_cons (pv 2) pa_nil)) pa_nil)) (blkOk_by (own := [("_law_k", 3)]) (N := N_l_is) (sc := defScope (top 68)) (by decide +kernel)) (fun _ _ _ _ _ => (pg_name (i := 3) sc_l_is.nd rfl (Or.inl rfl))) (fun _ _ _ _ _ => (pts_one (pt_val (pe_ix (ixL (K := K) rfl) (pv 2) (pv 3) (fun _ _ => rfl))))) (fun _ _ _ _ _ => (pv 3))) (pe_lst (pa_cons (pv 1) pa_nil)) (nomark _)))))), ?_⟩
  obtain ⟨a, i, s0, ⟨x, fl⟩, fs, rfl, hi, hx, hQ⟩ := h
  have i37 := exs_lt hi
  refine ⟨_, rfl, a, i, _, fs, rfl, hi, hx, fun l H1 g1 h1 => ?_⟩
  refine ⟨_, rfl, a, _, _, _, _, _, _, _, _, rfl, exT T hi, hx.mono g1, .own _, kitP T hi, _, rfl, iteFo rfl ?_⟩
  refine ⟨_, rfl, a, _, _, _, _, _, _, _, _, rfl, exT T hi, hx.mono g1, .ty _, kitV T hi, _, rfl, iteFo rfl ?_⟩
  refine ⟨_, rfl, l, _, rfl, .inl (SqL.of h1), ?_⟩
  refine ⟨37, rfl, by decide, by decide, fun D hD => ?_⟩
  refine lc_range (lo := 0) (n := 37) (fun k H' => Ex H1 H' ∧ H' D = some (.lst (((List.range k).filter fun j => decide (i = j)).map fun j : Nat => V.int (j : Int)))) ⟨Evl.Ex.new hD, upd_same⟩ ?_ ?_
  · rintro k H2 hk ⟨g2, h2⟩
    refine ⟨rfl, ?_⟩
    have hit : ((List.range 37).map fun j => V.bl (decide (i = j)))[k]? = some (V.bl (decide (i = k))) := by
      rw [List.getElem?_map, List.getElem?_range hk]
      rfl
    refine ⟨_, rfl, _, rfl, l, _, (k : Int), _, rfl, (by show V.int (0 + (k : Int)) = _; rw [Int.zero_add]), SqL.of (g2 _ _ h1), atI_nat hit, _, rfl, ?_⟩
    rw [filt]
    by_cases c : i = k
    · rw [decide_eq_true c]
      refine ⟨_, rfl, _, h2, ?_, Evl.Ex.mut g2 hD, ?_⟩
      · rw [List.length_map]
        exact Nat.lt_of_le_of_lt (List.length_filter_le _ _) (by rw [List.length_range]; have : 37 < sizeLine := by decide
                                                                 omega)
      · rw [if_pos (by rfl), List.map_append, upd_same]
        show _ = some (HO.lst (_ ++ [V.int (k : Int)]))
        rw [Int.zero_add]
    · rw [decide_eq_false c]
      exact ⟨g2, by rw [if_neg (by simp)]; exact h2⟩
  · rintro H2 ⟨g2, h2⟩
    rw [filt_all i37] at h2
    refine ⟨_, rfl, (by show 1 ≤ sizeLine; decide), fun m hm => ?_⟩
    have g3 := Evl.Ex.new (o := .lst [V.int (s0 : Int)]) hm
    refine ⟨.list [.int (i : Int)], .list [.int (s0 : Int)], .lst (SqL.of (g3 _ _ h2)) (.cons (.int _) .nil), .lst (SqL.of upd_same) (.cons (.int _) .nil), one_shaped _, one_shaped _, ?_⟩
    rw [eqv1]
    exact hQ _ ((g1.trans g2).trans g3)

end
end K00
namespace K00
open PySem PySem.Spec PyProof.Rows L2 C8
section
variable {P : Program} {w : World} {K : PySem.W.Frag} {mg : Str → Option Value} {base : Heap}
/-- a thing that is shown in a few signs -/
structure TD (d : PyData) : Prop where
  sh : d.showable = true
  dep : d.depth ≤ 3
  len : d.shown.length ≤ 100
theorem td_dec {d : PyData} (h : (d.showable && (decide (d.depth ≤ 3) && decide (d.shown.length ≤ 100))) = true) : TD d := by
  obtain ⟨h1, h⟩ := Bool.and_eq_true_iff.mp h
  obtain ⟨h2, h3⟩ := Bool.and_eq_true_iff.mp h
  exact ⟨h1, of_decide_eq_true h2, of_decide_eq_true h3⟩
abbrev Wd.hb {Hb H : Hp} {b : Addr} {c : Nat} (_ : Wd Hb H b c) : Hp := Hb
def spThing : Sp := fun vs H Q _ => ∃ (Hb : Hp) (b : Addr) (c : Nat), vs = [.ref b] ∧ Wd Hb H b c ∧ c ≤ 100000 ∧ ∀ Hb' v d H', Ex Hb Hb' → Wd Hb' H' b (c + 1) → DpX Hb' v d → TD d → Q v H'
abbrev N_l_thing : List Str := ["_law_box_here", "_law_menu"]
theorem sc_l_thing : FnScope N_l_thing ["_law_box_here"] (defScope (top 69)) := ⟨rfl, rfl, rfl, by decide +kernel, rfl, by decide +kernel, by decide +kernel⟩

theorem ok_l_thing (T : Txt K mg) (C_l_take : Cal P w K mg base 1 "_law_take" spTake []) : Cal P w K mg base 2 "_law_thing" (spThing) [] := by
  obtain ⟨fd, F⟩ := T.d__law_thing
  refine ⟨_, fd, ["_law_box_here"], [], ?_, T.g__law_thing, F.kp, F.bindsN fun _ _ _ _ _ _ us hl => match us, hl with | [_], _ => rfl, .nil⟩
  refine F.ok sc_l_thing (fun vs H Q E h => by obtain ⟨_, _, _, rfl, _⟩ := h; rfl) (fun cdv A outer s H vs Q E hr h => ?_)
  have hu := hu_of hr
  refine ⟨_, PSs.nox (pss_cons (ps_set (i := 1) sc_l_thing.nd rfl (Or.inl rfl) (pe_lst (pa_cons pe_non (pa_cons pe_bl (pa_cons pe_bl (pa_cons pe_int (pa_cons pe_int (pa_cons pe_str (pa_cons pe_str (pa_cons (pe_lst pa_nil) (pa_cons (pe_lst (pa_cons pe_int (pa_cons pe_str pa_nil))) (pa_cons (pe_tup pa_nil) (pa_cons (pe_tup (pa_cons pe_int (pa_cons pe_bl pa_nil))) (pa_cons pe_dnewK (pa_cons (pe_callTy (call_dictP rfl) (by rfl) T.f_dict (by decide +kernel) (pa_cons (pe_lst (pa_cons (pe_tup (pa_cons pe_str (pa_cons (pe_lst (pa_cons pe_int pa_nil)) pa_nil))) pa_nil)) pa_nil)) (pa_cons (pe_un un_neg (pe_op op_pow pe_int pe_int)) (pa_cons pe_str pa_nil)))))))))))))))))
      (pss_one (ps_ret (pe_ix ix_list (pv 1) (pe_c C_l_take hr (by omega) rfl (pa_cons (pv 0) (pa_cons pe_int pa_nil))) (fun _ _ => rfl))))), ?_⟩
  obtain ⟨Hb, b, c, rfl, W, hc, hQ⟩ := h
  refine ⟨(by show 0 ≤ sizeLine; decide), fun l1 n1 => ?_⟩
  have W1 := W.new (o := .lst []) n1
  refine ⟨(by show 2 ≤ sizeLine; decide), fun l2 n2 => ?_⟩
  have W2 := W1.new (o := .lst [.int 1, .str "a"]) n2
  refine ⟨(by show 0 ≤ sizeLine; decide), fun t1 n3 => ?_⟩
  have W3 := W2.new (o := .tup []) n3
  refine ⟨(by show 2 ≤ sizeLine; decide), fun t2 n4 => ?_⟩
  have W4 := W3.new (o := .tup [.int 1, .bl true]) n4
  refine fun d1 n5 => ?_
  have W5 := W4.new (o := .dK []) n5
  refine ⟨(by show 1 ≤ sizeLine; decide), fun l3 n6 => ?_⟩
  have W6 := W5.new (o := .lst [.int 3]) n6
  refine ⟨(by show 2 ≤ sizeLine; decide), fun t3 n7 => ?_⟩
  have W7 := W6.new (o := .tup [.str "a", .ref l3]) n7
  refine ⟨(by show 1 ≤ sizeLine; decide), fun l4 n8 => ?_⟩
  have W8 := W7.new (o := .lst [.ref t3]) n8
  refine ⟨l4, [t3], [(Sum.inr "a", .ref l3)], rfl, SqL.of upd_same, .cons (SqT.of ((Evl.Ex.new n8) _ _ upd_same)) .nil, fun d2 n9 => ?_⟩
  have W9 := W8.new (o := .dK [(Sum.inr "a", .ref l3)]) n9
  refine ⟨_, _, rfl, rfl, ⟨by decide, by decide, by decide⟩, _, rfl, ?_⟩
  refine ⟨(by show 15 ≤ sizeLine; decide), fun m n10 => ?_⟩
  have W10 := W9.new (o := .lst [.non, .bl true, .bl false, .int 0, .int 7, .str "", .str "hp", .ref l1, .ref l2, .ref t1, .ref t2, .ref d1, .ref d2, .int (-(10 ^ 29)), .str "roll"]) n10
  refine ⟨_, rfl, _, rfl, _, b, c, 15, rfl, W10, by omega, by decide, by decide, fun r H' r0 r1 W' => ?_⟩
  obtain ⟨k, rfl⟩ : ∃ k : Nat, r = (k : Int) := ⟨r.toNat, by omega⟩
  have hk : k < 15 := by omega
  have fr1 := W.free n1
  have fr2 := W1.free n2
  have fr3 := W2.free n3
  have fr4 := W3.free n4
  have fr5 := W4.free n5
  have fr6 := W5.free n6
  have fr7 := W6.free n7
  have fr8 := W7.free n8
  have fr9 := W8.free n9
  have fr10 := W9.free n10
  have gr : Ex Hb W'.hb := (Evl.Ex.new fr1).trans ((Evl.Ex.new fr2).trans ((Evl.Ex.new fr3).trans ((Evl.Ex.new fr4).trans ((Evl.Ex.new fr5).trans ((Evl.Ex.new fr6).trans ((Evl.Ex.new fr7).trans ((Evl.Ex.new fr8).trans ((Evl.Ex.new fr9).trans (Evl.Ex.new (o := .lst [.non, .bl true, .bl false, .int 0, .int 7, .str "", .str "hp", .ref l1, .ref l2, .ref t1, .ref t2, .ref d1, .ref d2, .int (-(10 ^ 29)), .str "roll"]) fr10)))))))))
  have key : ∃ v d, ([.non, .bl true, .bl false, .int 0, .int 7, .str "", .str "hp", .ref l1, .ref l2, .ref t1, .ref t2, .ref d1, .ref d2, .int (-(10 ^ 29)), .str "roll"] : List V)[k]? = some v ∧ DpX W'.hb v d ∧ TD d := by
    match k, hk with
    | 0, _ => exact ⟨_, .none, rfl, .non, td_dec (by decide +kernel)⟩
    | 1, _ => exact ⟨_, .bool true, rfl, .bl true, td_dec (by decide +kernel)⟩
    | 2, _ => exact ⟨_, .bool false, rfl, .bl false, td_dec (by decide +kernel)⟩
    | 3, _ => exact ⟨_, .int 0, rfl, .int 0, td_dec (by decide +kernel)⟩
    | 4, _ => exact ⟨_, .int 7, rfl, .int 7, td_dec (by decide +kernel)⟩
    | 5, _ => exact ⟨_, .str "", rfl, .str _, td_dec (by decide +kernel)⟩
    | 6, _ => exact ⟨_, .str "hp", rfl, .str _, td_dec (by decide +kernel)⟩
    | 7, _ => exact ⟨_, .list [], rfl, .lst (((Evl.Ex.new fr2).trans ((Evl.Ex.new fr3).trans ((Evl.Ex.new fr4).trans ((Evl.Ex.new fr5).trans ((Evl.Ex.new fr6).trans ((Evl.Ex.new fr7).trans ((Evl.Ex.new fr8).trans ((Evl.Ex.new fr9).trans (Evl.Ex.new (o := .lst [.non, .bl true, .bl false, .int 0, .int 7, .str "", .str "hp", .ref l1, .ref l2, .ref t1, .ref t2, .ref d1, .ref d2, .int (-(10 ^ 29)), .str "roll"]) fr10))))))))) _ _ upd_same) .nil, td_dec (by decide +kernel)⟩
    | 8, _ => exact ⟨_, .list [.int 1, .str "a"], rfl, .lst (((Evl.Ex.new fr3).trans ((Evl.Ex.new fr4).trans ((Evl.Ex.new fr5).trans ((Evl.Ex.new fr6).trans ((Evl.Ex.new fr7).trans ((Evl.Ex.new fr8).trans ((Evl.Ex.new fr9).trans (Evl.Ex.new (o := .lst [.non, .bl true, .bl false, .int 0, .int 7, .str "", .str "hp", .ref l1, .ref l2, .ref t1, .ref t2, .ref d1, .ref d2, .int (-(10 ^ 29)), .str "roll"]) fr10)))))))) _ _ upd_same) (.cons (.int 1) (.cons (.str _) .nil)), td_dec (by decide +kernel)⟩
    | 9, _ => exact ⟨_, .tuple [], rfl, .tup (((Evl.Ex.new fr4).trans ((Evl.Ex.new fr5).trans ((Evl.Ex.new fr6).trans ((Evl.Ex.new fr7).trans ((Evl.Ex.new fr8).trans ((Evl.Ex.new fr9).trans (Evl.Ex.new (o := .lst [.non, .bl true, .bl false, .int 0, .int 7, .str "", .str "hp", .ref l1, .ref l2, .ref t1, .ref t2, .ref d1, .ref d2, .int (-(10 ^ 29)), .str "roll"]) fr10))))))) _ _ upd_same) .nil, td_dec (by decide +kernel)⟩
    | 10, _ => exact ⟨_, .tuple [.int 1, .bool true], rfl, .tup (((Evl.Ex.new fr5).trans ((Evl.Ex.new fr6).trans ((Evl.Ex.new fr7).trans ((Evl.Ex.new fr8).trans ((Evl.Ex.new fr9).trans (Evl.Ex.new (o := .lst [.non, .bl true, .bl false, .int 0, .int 7, .str "", .str "hp", .ref l1, .ref l2, .ref t1, .ref t2, .ref d1, .ref d2, .int (-(10 ^ 29)), .str "roll"]) fr10)))))) _ _ upd_same) (.cons (.int 1) (.cons (.bl true) .nil)), td_dec (by decide +kernel)⟩
    | 11, _ => exact ⟨_, .dict [], rfl, .dic (((Evl.Ex.new fr6).trans ((Evl.Ex.new fr7).trans ((Evl.Ex.new fr8).trans ((Evl.Ex.new fr9).trans (Evl.Ex.new (o := .lst [.non, .bl true, .bl false, .int 0, .int 7, .str "", .str "hp", .ref l1, .ref l2, .ref t1, .ref t2, .ref d1, .ref d2, .int (-(10 ^ 29)), .str "roll"]) fr10))))) _ _ upd_same) .nil, td_dec (by decide +kernel)⟩
    | 12, _ => exact ⟨_, .dict [(.str "a", .list [.int 3])], rfl, .dic ((Evl.Ex.new (o := .lst [.non, .bl true, .bl false, .int 0, .int 7, .str "", .str "hp", .ref l1, .ref l2, .ref t1, .ref t2, .ref d1, .ref d2, .int (-(10 ^ 29)), .str "roll"]) fr10) _ _ upd_same) (.cons (.lst (((Evl.Ex.new fr7).trans ((Evl.Ex.new fr8).trans ((Evl.Ex.new fr9).trans (Evl.Ex.new (o := .lst [.non, .bl true, .bl false, .int 0, .int 7, .str "", .str "hp", .ref l1, .ref l2, .ref t1, .ref t2, .ref d1, .ref d2, .int (-(10 ^ 29)), .str "roll"]) fr10)))) _ _ upd_same) (.cons (.int 3) .nil)) .nil), td_dec (by decide +kernel)⟩
    | 13, _ => exact ⟨_, .int (-(10 ^ 29)), rfl, .int _, td_dec (by decide +kernel)⟩
    | 14, _ => exact ⟨_, .str "roll", rfl, .str _, td_dec (by decide +kernel)⟩
    | n + 15, h => exact absurd h (by omega)
  obtain ⟨v, d, hv, hd, ht⟩ := key
  refine ⟨m, _, _, v, rfl, rfl, SqL.of (W'.ex _ _ upd_same), atI_nat hv, ?_⟩
  exact hQ _ v d H' gr W' hd ht

end
end K00
namespace K00
open PySem PySem.Spec PyProof.Rows L2 C8
section
variable {P : Program} {w : World} {K : PySem.W.Frag} {mg : Str → Option Value} {base : Heap}
theorem xv_out {H1 : Hp} {a C : Addr} {fs : List (Str × V)} (h : XV [] H1 a C fs) : ∃ d, H1 a = some (exo a C d) ∧ ((d = none ∧ fs = []) ∨ ∃ dx, d = some dx ∧ dx ≠ a ∧ H1 dx = some (.xd fs)) := by
  obtain ⟨d, hx, hf⟩ := h
  rcases hx with hx | ⟨_, hm, _⟩
  · refine ⟨d, hx, ?_⟩
    rcases hf with hf | ⟨dx, e1, e2⟩
    · exact .inl hf
    · refine .inr ⟨dx, e1, fun z => ?_, e2⟩
      rw [z, hx] at e2
      have q : exo a C d = HO.xd fs := Option.some.inj e2
      have z' : HO.ext _ = HO.xd fs := q
      cases z'
  · cases hm
theorem ex_del {H H1 : Hp} {a : Addr} (n : H a = none) (e : Ex H H1) : Ex H (delH H1 a) := fun b o h => by
  rw [delH_ne (ne_of_none h n)]
  exact e b o h
/-- what is raised -/
def rz : Nat → Str × List Str
  | 0 => e1 "InvalidBody" ["given"]
  | 1 => e1 "NotLet" ["store", "pick", "payoff", "table"]
  | 2 => e1 "TooRich" ["unit", "store", "count"]
  | _ => e1 "NotAsked" []
def ri : Nat → Nat
  | 0 => 10
  | 1 => 33
  | 2 => 32
  | _ => 35
theorem rz_at : ∀ k, k < 4 → exs[ri k]? = some (rz k) := by decide +kernel
def spRaised (K : PySem.W.Frag) : Sp := fun vs H _ E => ∃ (x : V) (wy : Nat), vs = [.int (wy : Int), x] ∧ wy < 4 ∧ ∀ d H', Ex H H' →
  ((d = none ∧ (rz wy).2 = []) ∨ ∃ dx, d = some dx ∧ H' dx = some (.xd ((rz wy).2.zip [x, x, x, x]).reverse)) → E (.ref (ca K (rz wy).1)) d H'
abbrev N_l_raised : List Str := ["_law_way", "_law_thing_here"]
theorem sc_l_raised : FnScope N_l_raised ["_law_way", "_law_thing_here"] (defScope (top 71)) := ⟨rfl, rfl, rfl, by decide +kernel, rfl, by decide +kernel, by decide +kernel⟩
theorem fn_l_raised (T : Txt K mg) {fd : FuncData} (F : FunD K "_law_raised" "_law_raised" (defArgs (top 71)) (defBody (top 71)) (defScope (top 71)) [] [] (He.ga K "_law_raised") fd) : FnOk P w K mg base (L2N.CX P w) 3 (He.ga K "_law_raised") fd ["_law_way", "_law_thing_here"] (spRaised K) := by
  refine F.ok sc_l_raised (fun vs H Q E h => by obtain ⟨_, _, rfl, _⟩ := h; rfl) (fun cdv A outer s H vs Q E hr h => ?_)
  obtain ⟨x, wy, rfl, hw, hE⟩ := h
  refine ⟨_, (pss_cons (ps_if (pt_cmpR op_eq (pv 0) pe_int (nomark _)) (pss_one (L2N.ps_raise rfl (L2N.takes_of rfl rfl rfl rfl) (pmk_x rfl (pe_mkX (mkp_InvalidBody T) hr (by decide) rfl (by decide) (pa_cons (pv 1) pa_nil))))) pss_nil)
      (pss_cons (ps_if (pt_cmpR op_eq (pv 0) pe_int (nomark _)) (pss_one (L2N.ps_raise rfl (L2N.takes_of rfl rfl rfl rfl) (pmk_x rfl (pe_mkXK (mkq_NotLet T) hr (by decide) rfl (by decide) (pa_cons (pv 1) pa_nil) (pk_cons (pv 1) (pk_cons (pv 1) (pk_cons (pv 1) pk_nil))))))) pss_nil)
      (pss_cons (ps_if (pt_cmpR op_eq (pv 0) pe_int (nomark _)) (pss_one (L2N.ps_raise rfl (L2N.takes_of rfl rfl rfl rfl) (pmk_x rfl (pe_mkXK0 (mkr_TooRich T) hr (by decide) rfl (pk_cons (pv 1) (pk_cons (pv 1) (pk_cons (pv 1) pk_nil))))))) pss_nil)
      (pss_one (L2N.ps_raise rfl (L2N.takes_of rfl rfl rfl rfl) (pmk_x rfl (pe_mkX0 (mkp_NotAsked T) hr (by decide) rfl))))))), ?_⟩
  match wy, hw with
  | 0, _ =>
    refine ⟨_, rfl, rfl, _, rfl, iteTo (by decide) ?_⟩
    refine ⟨_, rfl, rfl, rfl, fun a1 H1 n1 e1 x1 d1 => ?_⟩
    obtain ⟨d, hd, hf⟩ := xv_out (x1 [])
    refine ⟨a1, _, d, rfl, hd, n1, raises_own (exT T (rz_at 0 (by decide))).exC (exT T (rz_at 0 (by decide))).tyC, ?_⟩
    refine hE d _ (ex_del n1 e1) ?_
    rcases hf with ⟨q1, q2⟩ | ⟨dx, q1, q2, q3⟩
    · cases q2
    · exact .inr ⟨dx, q1, by rw [delH_ne q2]; exact q3⟩
  | 1, _ =>
    refine ⟨_, rfl, rfl, _, rfl, iteFo (by decide) ?_⟩
    refine ⟨_, rfl, rfl, _, rfl, iteTo (by decide) ?_⟩
    refine ⟨_, rfl, _, rfl, _, rfl, _, rfl, rfl, rfl, rfl, fun a1 H1 n1 e1 x1 d1 => ?_⟩
    obtain ⟨d, hd, hf⟩ := xv_out (x1 [])
    refine ⟨a1, _, d, rfl, hd, n1, raises_own (exT T (rz_at 1 (by decide))).exC (exT T (rz_at 1 (by decide))).tyC, ?_⟩
    refine hE d _ (ex_del n1 e1) ?_
    rcases hf with ⟨q1, q2⟩ | ⟨dx, q1, q2, q3⟩
    · cases q2
    · exact .inr ⟨dx, q1, by rw [delH_ne q2]; exact q3⟩
  | 2, _ =>
    refine ⟨_, rfl, rfl, _, rfl, iteFo (by decide) ?_⟩
    refine ⟨_, rfl, rfl, _, rfl, iteFo (by decide) ?_⟩
    refine ⟨_, rfl, rfl, _, rfl, iteTo (by decide) ?_⟩
    refine ⟨_, rfl, _, rfl, _, rfl, rfl, rfl, fun a1 H1 n1 e1 x1 d1 => ?_⟩
    obtain ⟨d, hd, hf⟩ := xv_out (x1 [])
    refine ⟨a1, _, d, rfl, hd, n1, raises_own (exT T (rz_at 2 (by decide))).exC (exT T (rz_at 2 (by decide))).tyC, ?_⟩
    refine hE d _ (ex_del n1 e1) ?_
    rcases hf with ⟨q1, q2⟩ | ⟨dx, q1, q2, q3⟩
    · cases q2
    · exact .inr ⟨dx, q1, by rw [delH_ne q2]; exact q3⟩
  | 3, _ =>
    refine ⟨_, rfl, rfl, _, rfl, iteFo (by decide) ?_⟩
    refine ⟨_, rfl, rfl, _, rfl, iteFo (by decide) ?_⟩
    refine ⟨_, rfl, rfl, _, rfl, iteFo (by decide) ?_⟩
    refine ⟨rfl, fun a1 H1 n1 e1 x1 d1 => ?_⟩
    obtain ⟨d, hd, hf⟩ := xv_out (x1 [])
    refine ⟨a1, _, d, rfl, hd, n1, raises_own (exT T (rz_at 3 (by decide))).exC (exT T (rz_at 3 (by decide))).tyC, ?_⟩
    refine hE d _ (ex_del n1 e1) ?_
    rcases hf with ⟨q1, q2⟩ | ⟨dx, q1, q2, q3⟩
    · exact .inl ⟨q1, rfl⟩
    · exact .inr ⟨dx, q1, by rw [delH_ne q2]; exact q3⟩
  | n + 4, h => exact absurd h (by omega)

end
end K00
namespace K00
open PySem PySem.Spec PyProof.Rows L2 C8
section
variable {P : Program} {w : World} {K : PySem.W.Frag} {mg : Str → Option Value} {base : Heap}
theorem takesF {X : Cx} : Takes X (fun _ _ _ _ => False) := fun _ _ ⟨_, _, _, _, _, _, _, _, _, _, _, _, _, _, _, _, z⟩ => z.elim
theorem takesFN {X : Cx} : L2N.Takes X (fun _ _ _ _ => False) := fun _ _ ⟨_, _, _, _, _, _, _, _, _, _, _, _, _, _, _, _, z⟩ => z.elim
theorem pss_sp {X : Cx} {body : List Stmt} {t Sp : TS} (h : PSs X body t) (g : ∀ D σ H, Sp D σ H → t D σ H) : PSs X body Sp := ⟨fun pins s σ H D I q => h.run pins s σ H D I (g D σ H q)⟩
/-- what is known and wanted in the suite of the first try -/
def suiteSp (K : PySem.W.Frag) (a : Addr) (cls : Value) (d : Option Addr) : TS := fun D σ H => ∃ (k : Nat) (b m : Addr) (v : V) (dv : PyData), σ = [some (.ref b), some v, some (.int (k : Int)), some (.ref m), some (.ref a)] ∧ k < 4 ∧ cls = .ref (ca K (rz k).1) ∧
  ((d = none ∧ (rz k).2 = []) ∨ ∃ dx, d = some dx ∧ H dx = some (.xd ((rz k).2.zip [v, v, v, v]).reverse)) ∧ H m = some (.lst []) ∧ DpX H v dv ∧ TD dv ∧ ∀ H5, Ex H H5 → D.nx σ (upd H5 m (.lst ([] ++ [V.bl true])))
def suite2 (x : Bool) (a : Addr) (cls : Value) (d : Option Addr) : TS := fun D σ H => ∃ (m : Addr) (xs : List V), σ[3]? = some (some (.ref m)) ∧ H m = some (.lst xs) ∧ xs.length < sizeLine ∧ D.nx σ (upd H m (.lst (xs ++ [V.bl x])))
theorem rhm {k : Nat} {A : Around} {h : Option Value} (r : Room k A) : L2H.RoomH k (A.mark h) := ⟨r.dp, r.un⟩
theorem hotS {A : Around} {a : Addr} {oe : Obj} {cls : Value} {d : Option Addr} (h : L2N.Zn cls d oe ∧ ∃ vs, oe.data = .fields vs) : L2H.Hot1 (A.mark (some (.ref a))) (a, oe) := by
  obtain ⟨hz, vs, hv⟩ := h
  exact ⟨rfl, vs, hv, hz.2.2 vs hv⟩
theorem exm4 (T : Txt K mg) {i j1 j2 j3 j4 : Nat} {e e1 e2 e3 e4 : Str × List Str} (hi : exs[i]? = some e) (h1 : exs[j1]? = some e1) (h2 : exs[j2]? = some e2) (h3 : exs[j3]? = some e3) (h4 : exs[j4]? = some e4) :
    PySem.W.exmAny K (.ref (ca K e.1)) [.ref (ca K e1.1), .ref (ca K e2.1), .ref (ca K e3.1), .ref (ca K e4.1)] = some (decide (i = j1) || (decide (i = j2) || (decide (i = j3) || (decide (i = j4) || false)))) := by
  obtain ⟨x, fl⟩ := e
  obtain ⟨x1, g1⟩ := e1
  obtain ⟨x2, g2⟩ := e2
  obtain ⟨x3, g3⟩ := e3
  obtain ⟨x4, g4⟩ := e4
  simp only [PySem.W.exmAny, exmIJ T hi h1, exmIJ T hi h2, exmIJ T hi h3, exmIJ T hi h4]
theorem ri_it : ∀ k, k < 4 → ([V.int 10, .int 33, .int 32, .int 35] : List V)[k]? = some (.int ((ri k : Nat) : Int))
  | 0, _ => rfl
  | 1, _ => rfl
  | 2, _ => rfl
  | 3, _ => rfl
  | n + 4, h => absurd h (by omega)
theorem ri_no : ∀ k, k < 4 → (decide (ri k = 8) || (decide (ri k = 29) || (decide (ri k = 26) || (decide (ri k = 36) || false)))) = false := by decide
theorem ri_yes : ∀ k, k < 4 → (decide (ri k = 10) || (decide (ri k = 33) || (decide (ri k = 32) || (decide (ri k = 35) || false)))) = true := by decide
theorem bb_shaped : SeqAt.shaped (.list [.bool true, .bool true]) = true := by decide +kernel
theorem bb_eqv : PyData.eqv (.list [.bool true, .bool true]) (.list [.bool true, .bool true]) = true := by decide +kernel
def spCaught : Sp := fun vs H Q _ => ∃ (Hb : Hp) (b : Addr) (c : Nat) (v : V) (dv : PyData), vs = [.ref b, v] ∧ Wd Hb H b c ∧ c ≤ 100000 ∧ DpX Hb v dv ∧ TD dv ∧ ∀ H', Wd Hb H' b (c + 1) → Q (.bl true) H'
abbrev N_l_caught : List Str := ["_law_box_here", "_law_thing_here", "_law_way", "_law_met", "_law_e"]
theorem sc_l_caught : FnScope N_l_caught ["_law_box_here", "_law_thing_here"] (defScope (top 72)) := ⟨rfl, rfl, rfl, by decide +kernel, rfl, by decide +kernel, by decide +kernel⟩

theorem ok_l_caught (T : Txt K mg) (C_l_take : Cal P w K mg base 1 "_law_take" spTake []) : CalG P w K mg base 4 "_law_caught" (spCaught) := by
  obtain ⟨fd, F⟩ := T.d__law_caught
  refine ⟨_, fd, ["_law_box_here", "_law_thing_here"], ?_, T.g__law_caught, F.kp, F.bindsN fun _ _ _ _ _ _ us hl => match us, hl with | [_, _], _ => rfl⟩
  refine F.okG sc_l_caught (fun vs H Q E h => by obtain ⟨_, _, _, _, _, rfl, _⟩ := h; rfl) (fun cdv A outer s H vs Q E hG hr h => ?_)
  have hu := hu_of hr
  obtain ⟨fdR, FRd⟩ := T.d__law_raised
  have FR := fn_l_raised (P := P) (w := w) (base := base) T FRd
  refine ⟨_, PSs.nox (pss_cons (ps_par (i := 2) (j := 3) (by rfl) sc_l_caught.nd rfl rfl (by decide) rfl rfl (pa_cons (pe_c C_l_take hr (by omega) rfl (pa_cons (pv 0) (pa_cons pe_int pa_nil))) (pa_cons (pe_lst pa_nil) pa_nil)) (by rfl))
      (pss_cut (L2N.ps_try_as (ts := suiteSp K) (i := 4) rfl rfl sc_l_caught.nd rfl rfl ⟨rfl, by decide, .inl T.g_PatchError⟩ takesFN (fun W pn xe tk _ => (pss_one (ps_expr (pe_callS FR (hr.mono (by decide)) rfl T.g__law_raised FRd.kp (FRd.bindsN fun _ _ _ _ _ _ us hl => match us, hl with | [_, _], _ => rfl) (fun σ => L2N.passAt tk σ) (pa_cons (pv 2) (pa_cons (pv 1) pa_nil)))))) (fun a oe cls d pn hz hf => (pss_sp (pss_one (ps_expr (pe_bm PySem.F.plainAttrs_list PySem.F.slot_list_append PySem.F.type_list_append mt_append (pv 3) (pa_cons (pe_and (pe_cP (p := (a, oe)) (hot_l_is T (hot_l_sorts T)) (rhm hr) (by decide) (hotS ⟨hz, hf⟩) List.mem_cons_self rfl (pa_cons (pv 4) (pa_cons (pe_ix ix_list (pe_lst (pa_cons pe_int (pa_cons pe_int (pa_cons pe_int (pa_cons pe_int pa_nil))))) (pv 2) (fun _ _ => rfl)) pa_nil))) (pe_one (pe_or (pe_cmpR op_eq (pv 2) pe_int (nomark _)) (pe_one (pe_cmpR op_eq (pe_callB (call_reprX T.sysm hG hr.units) (by rfl) T.f_repr (by decide +kernel) (pa_cons (pe_ix ix_list (pe_cP (p := (a, oe)) (hot_l_kept T) (rhm hr) (by decide) (hotS ⟨hz, hf⟩) List.mem_cons_self rfl (pa_cons (pv 4) pa_nil)) (pe_un un_neg pe_int) (fun _ _ => rfl)) pa_nil)) (pe_callB (call_reprX T.sysm hG hr.units) (by rfl) T.f_repr (by decide +kernel) (pa_cons (pv 1) pa_nil)) (nomark _)))))) pa_nil)))) (fun D1 σ1 H1 h1 => ?_))))
      (pss_cons (ps_try_row4 rfl rfl takesF (fun W pn xe tk _ => (pss_one (ps_expr (pe_callS FR (hr.mono (by decide)) rfl T.g__law_raised FRd.kp (FRd.bindsN fun _ _ _ _ _ _ us hl => match us, hl with | [_, _], _ => rfl) (fun σ => L2N.passAt (takesN tk) σ) (pa_cons (pv 2) (pa_cons (pv 1) pa_nil)))))) (.cons (ts := suite2 false) ⟨rfl, by decide, .inl T.g_InvalidSystem⟩ ⟨rfl, by decide, .inl T.g_NotBrought⟩ ⟨rfl, by decide, .inl T.g_TooMany⟩ ⟨rfl, by decide, .inl T.g_NothingToUndo⟩ (fun a oe cls d pn hz hf => (pss_sp (pss_one (ps_expr (pe_bm PySem.F.plainAttrs_list PySem.F.slot_list_append PySem.F.type_list_append mt_append (pv 3) (pa_cons pe_bl pa_nil)))) (fun D1 σ1 H1 ⟨m, xs, q1, q2, q3, q4⟩ => ⟨_, q1, .inl ⟨rfl, _, SqL.of q2⟩, m, _, _, rfl, rfl, q2, q3, q4⟩))) (.cons (ts := suite2 true) ⟨rfl, by decide, .inl T.g_InvalidBody⟩ ⟨rfl, by decide, .inl T.g_NotLet⟩ ⟨rfl, by decide, .inl T.g_TooRich⟩ ⟨rfl, by decide, .inl T.g_NotAsked⟩ (fun a oe cls d pn hz hf => (pss_sp (pss_one (ps_expr (pe_bm PySem.F.plainAttrs_list PySem.F.slot_list_append PySem.F.type_list_append mt_append (pv 3) (pa_cons pe_bl pa_nil)))) (fun D1 σ1 H1 ⟨m, xs, q1, q2, q3, q4⟩ => ⟨_, q1, .inl ⟨rfl, _, SqL.of q2⟩, m, _, _, rfl, rfl, q2, q3, q4⟩))) .nil)))
      (pss_one (ps_ret (pe_cmpR (op_eqD hr.units) (pv 3) (pe_lst (pa_cons pe_bl (pa_cons pe_bl pa_nil))) (nomark _))))))), ?_⟩
  · obtain ⟨k, b, m, v, dv, rfl, hk, rfl, hd, hm, hv, ht, go⟩ := h1
    refine ⟨_, rfl, .inl ⟨rfl, _, SqL.of hm⟩, ?_⟩
    refine ⟨_, rfl, (by show 4 ≤ sizeLine; decide), fun q hq => ?_⟩
    refine ⟨_, rfl, q, _, (k : Int), _, rfl, rfl, SqL.of upd_same, atI_nat (ri_it k hk), ?_⟩
    have xv : ∀ {H3 : Hp}, Ex H1 H3 → XV [(a, oe)] H3 a (ca K (rz k).1) ((rz k).2.zip [v, v, v, v]).reverse := by
      intro H3 g3
      refine ⟨d, .inr ⟨oe, List.mem_cons_self, hz.zc, hf⟩, ?_⟩
      rcases hd with ⟨q1, q2⟩ | ⟨dx, q1, q2⟩
      · refine .inl ⟨q1, ?_⟩
        rw [q2]
        rfl
      · exact .inr ⟨dx, q1, g3 _ _ q2⟩
    refine ⟨a, ri k, ri k, rz k, _, rfl, rz_at k hk, xv (Evl.Ex.new hq), fun H3 g3 => ?_⟩
    have g23 : Ex H1 H3 := (Evl.Ex.new hq).trans g3
    refine ⟨_, rfl, iteTo (by simp) ?_⟩
    refine ⟨_, rfl, rfl, _, rfl, ?_⟩
    match k, hk with
    | 0, hk =>
      refine iteFo (by decide) ?_
      refine ⟨_, rfl, a, 10, rz 0, [v], rfl, rz_at 0 hk, (by decide), rfl, xv g23, fun l H4 nl g4 h4 => ?_⟩
      refine ⟨_, rfl, l, _, -1, v, rfl, rfl, SqL.of h4, rfl, ⟨⟨v, dv, rfl, DpX.mono (g23.trans g4) _ _ hv, ht.sh, Nat.le_trans ht.dep (by decide), Nat.le_trans ht.len (by decide), ?_⟩⟩⟩
      refine ⟨_, rfl, ⟨⟨v, dv, rfl, DpX.mono (g23.trans g4) _ _ hv, ht.sh, Nat.le_trans ht.dep (by decide), Nat.le_trans ht.len (by decide), ?_⟩⟩⟩
      refine ⟨rfl, ?_⟩
      rw [decide_eq_true rfl]
      exact ⟨m, _, _, rfl, rfl, (g23.trans g4) _ _ hm, (by show 0 < sizeLine; decide), go _ (g23.trans g4)⟩
    | 1, hk =>
      refine iteFo (by decide) ?_
      refine ⟨_, rfl, a, 33, rz 1, [v, v, v, v], rfl, rz_at 1 hk, (by decide), rfl, xv g23, fun l H4 nl g4 h4 => ?_⟩
      refine ⟨_, rfl, l, _, -1, v, rfl, rfl, SqL.of h4, rfl, ⟨⟨v, dv, rfl, DpX.mono (g23.trans g4) _ _ hv, ht.sh, Nat.le_trans ht.dep (by decide), Nat.le_trans ht.len (by decide), ?_⟩⟩⟩
      refine ⟨_, rfl, ⟨⟨v, dv, rfl, DpX.mono (g23.trans g4) _ _ hv, ht.sh, Nat.le_trans ht.dep (by decide), Nat.le_trans ht.len (by decide), ?_⟩⟩⟩
      refine ⟨rfl, ?_⟩
      rw [decide_eq_true rfl]
      exact ⟨m, _, _, rfl, rfl, (g23.trans g4) _ _ hm, (by show 0 < sizeLine; decide), go _ (g23.trans g4)⟩
    | 2, hk =>
      refine iteFo (by decide) ?_
      refine ⟨_, rfl, a, 32, rz 2, [v, v, v], rfl, rz_at 2 hk, (by decide), rfl, xv g23, fun l H4 nl g4 h4 => ?_⟩
      refine ⟨_, rfl, l, _, -1, v, rfl, rfl, SqL.of h4, rfl, ⟨⟨v, dv, rfl, DpX.mono (g23.trans g4) _ _ hv, ht.sh, Nat.le_trans ht.dep (by decide), Nat.le_trans ht.len (by decide), ?_⟩⟩⟩
      refine ⟨_, rfl, ⟨⟨v, dv, rfl, DpX.mono (g23.trans g4) _ _ hv, ht.sh, Nat.le_trans ht.dep (by decide), Nat.le_trans ht.len (by decide), ?_⟩⟩⟩
      refine ⟨rfl, ?_⟩
      rw [decide_eq_true rfl]
      exact ⟨m, _, _, rfl, rfl, (g23.trans g4) _ _ hm, (by show 0 < sizeLine; decide), go _ (g23.trans g4)⟩
    | 3, hk =>
      refine iteTo (by decide) ?_
      exact ⟨m, _, _, rfl, rfl, g23 _ _ hm, (by show 0 < sizeLine; decide), go _ g23⟩
    | n + 4, h => exact absurd h (by omega)
  obtain ⟨Hb, b, c, v, dv, rfl, W, hc, hv, ht, hQ⟩ := h
  refine ⟨_, rfl, Hb, b, c, 4, rfl, W, by omega, by decide, by decide, fun r H1 r0 r1 W1 => ?_⟩
  refine ⟨(by show 0 ≤ sizeLine; decide), fun m hm => ?_⟩
  obtain ⟨k, rfl⟩ : ∃ k : Nat, r = (k : Int) := ⟨r.toNat, by omega⟩
  have hk : k < 4 := by omega
  have mb := W1.ne hm
  have mf := W1.free hm
  refine ⟨_, _, rfl, ?_⟩
  refine ⟨fun σ' H' => σ' = [some (.ref b), some v, some (.int (k : Int)), some (.ref m), none] ∧ H' m = some (.lst [.bl true]) ∧ Wd Hb H' b (c + 1), ?_, ?_⟩
  · refine ⟨_, rfl, _, rfl, v, k, rfl, hk, fun d H2 g2 hd => ?_⟩
    refine ⟨true, exmP T (rz_at k hk), fun _ a na => ?_, fun q => Bool.noConfusion q⟩
    have W2 : Wd Hb H2 b (c + 1) := (W1.skip hm).grow g2
    exact ⟨k, b, m, v, dv, rfl, hk, rfl, hd, g2 _ _ upd_same, DpX.mono W2.ex _ _ hv, ht, fun H5 g => ⟨rfl, upd_same, (W2.grow g).chg mf mb⟩⟩
  · rintro σ' H2 ⟨rfl, h2, W2⟩
    refine ⟨_, rfl, _, rfl, v, k, rfl, hk, fun d H3 g3 hd => ?_⟩
    refine ⟨false, (exm4 T (rz_at k hk) (j1 := 8)  (j2 := 29)  (j3 := 26)  (j4 := 36) rfl rfl rfl rfl).trans (congrArg some (ri_no k hk)), fun q => Bool.noConfusion q, fun _ => ?_⟩
    refine ⟨true, (exm4 T (rz_at k hk) (j1 := 10)  (j2 := 33)  (j3 := 32)  (j4 := 35) rfl rfl rfl rfl).trans (congrArg some (ri_yes k hk)), fun _ a na => ?_, fun q => Bool.noConfusion q⟩
    refine ⟨m, _, rfl, g3 _ _ h2, (by show 1 < sizeLine; decide), ?_⟩
    have W4 : Wd Hb (upd H3 m (.lst ([V.bl true] ++ [V.bl true]))) b (c + 1) := (W2.grow g3).chg mf mb
    refine ⟨_, rfl, (by show 2 ≤ sizeLine; decide), fun q hq => ?_⟩
    refine ⟨.list [.bool true, .bool true], .list [.bool true, .bool true], .lst (SqL.of (Evl.Ex.new hq _ _ upd_same)) (.cons (.bl _) (.cons (.bl _) .nil)), .lst (SqL.of upd_same) (.cons (.bl _) (.cons (.bl _) .nil)), bb_shaped, bb_shaped, ?_⟩
    rw [bb_eqv]
    exact hQ _ (W4.skip hq)

end
end K00
namespace K00
open PySem PySem.Spec PyProof.Rows L2 C8
section
variable {P : Program} {w : World} {K : PySem.W.Frag} {mg : Str → Option Value} {base : Heap}
/-- small data: shown in at most m signs -/
def Sml (k m : Nat) (d : PyData) : Prop := d.showable = true ∧ d.depth ≤ k ∧ d.shown.length ≤ m
theorem TD.sml {d : PyData} (h : TD d) : Sml 3 100 d := ⟨h.sh, h.dep, h.len⟩
theorem smlAll {k m : Nat} : ∀ {ds : List PyData}, (∀ d ∈ ds, Sml k m d) → PyData.showableAll ds = true ∧ PyData.depthAll ds ≤ k ∧ (PyData.shownAll ds).length = ds.length ∧ ∀ t ∈ PyData.shownAll ds, t.length ≤ m
  | [], _ => ⟨by simp [PyData.showableAll], by simp [PyData.depthAll], by simp [PyData.shownAll], by simp [PyData.shownAll]⟩
  | d :: ds, h => by
    obtain ⟨f1, f2, f3⟩ := h d (List.mem_cons_self ..)
    obtain ⟨a, b, g, i⟩ := smlAll (ds := ds) fun x hx => h x (List.mem_cons_of_mem _ hx)
    refine ⟨by simp [PyData.showableAll, f1, a], by simp only [PyData.depthAll]; omega, by simp [PyData.shownAll, g], fun t ht => ?_⟩
    simp only [PyData.shownAll, List.mem_cons] at ht
    rcases ht with rfl | ht
    · exact f3
    · exact i t ht
theorem Sml.list {ds : List PyData} {k m : Nat} (n : Nat) (h : ∀ d ∈ ds, Sml k m d) (hn : ds.length ≤ n) : Sml (k + 1) (2 + n * (m + 2)) (.list ds) := by
  obtain ⟨a, b, g, i⟩ := smlAll h
  refine ⟨by simp [PyData.showable, a], by simp only [PyData.depth]; omega, ?_⟩
  simp only [PyData.shown]
  unfold listText
  have t := textFrom_le m (PyData.shownAll ds) 0 "[" i
  have e2 : (textFrom 0 "[" (PyData.shownAll ds) ++ ("]" : Str)).length = (textFrom 0 "[" (PyData.shownAll ds)).length + 1 := by rw [strLen_append]; rfl
  have e3 : (("[" : Str)).length = 1 := rfl
  rw [g] at t
  have := Nat.mul_le_mul_right (m + 2) hn
  show (textFrom 0 "[" (PyData.shownAll ds) ++ ("]" : Str)).length ≤ _
  rw [e2]
  omega
theorem repr_x {H : Hp} {v : V} {d : PyData} {k m : Nat} {Q : VK} (hd : DpX H v d) (f : Sml k m d) (hk : k ≤ 60) (hm : m ≤ 1000000) (q : Q (.str d.shown) H) : rReprX [v] H Q :=
  ⟨⟨v, d, rfl, hd, f.1, Nat.le_trans f.2.1 hk, Nat.le_trans f.2.2 (Nat.le_trans hm (by decide)), q⟩⟩
theorem things_at {Pr : V → Prop} {x0 x1 x2 x3 : V} (h0 : Pr x0) (h1 : Pr x1) (h2 : Pr x2) (h3 : Pr x3) {i : Nat} (hi : i < 4) : ∃ y1 y2 y3 y4, atI [x0, x1, x2, x3] (0 + (i : Int) - 3) = some y1 ∧ atI [x0, x1, x2, x3] (0 + (i : Int) - 2) = some y2 ∧
    atI [x0, x1, x2, x3] (0 + (i : Int) - 1) = some y3 ∧ atI [x0, x1, x2, x3] (0 + (i : Int)) = some y4 ∧ Pr y1 ∧ Pr y2 ∧ Pr y3 ∧ Pr y4 := by
  match i, hi with
  | 0, _ => exact ⟨x1, x2, x3, x0, rfl, rfl, rfl, rfl, h1, h2, h3, h0⟩
  | 1, _ => exact ⟨x2, x3, x0, x1, rfl, rfl, rfl, rfl, h2, h3, h0, h1⟩
  | 2, _ => exact ⟨x3, x0, x1, x2, rfl, rfl, rfl, rfl, h3, h0, h1, h2⟩
  | 3, _ => exact ⟨x0, x1, x2, x3, rfl, rfl, rfl, rfl, h0, h1, h2, h3⟩
  | n + 4, h => exact absurd h (by omega)
theorem half_at {x y : V} {Pr : V → Prop} (hx : Pr x) (hy : Pr y) {i : Nat} (hi : i < 4) : ∃ z, atI [x, y] ((0 + (i : Int)) / 2) = some z ∧ Pr z := by
  match i, hi with
  | 0, _ => exact ⟨x, rfl, hx⟩
  | 1, _ => exact ⟨x, rfl, hx⟩
  | 2, _ => exact ⟨y, rfl, hy⟩
  | 3, _ => exact ⟨y, rfl, hy⟩
  | n + 4, h => exact absurd h (by omega)
theorem exsA_len : exsA.length = 28 := rfl
theorem one28 : ∀ i, i < 28 → (exs[i]?.map fun e : Str × List Str => e.2.length) = some 1 := by decide +kernel
theorem zip_one {l : List Str} {x : V} {xs : List V} (h : l.length = 1) : l.zip (x :: xs) = l.zip [x] := by
  match l, h with
  | [a], _ => rfl
theorem nat_at {xs : List V} {k : Nat} {v : V} (h : xs[k]? = some v) : atI xs (0 + (k : Int)) = some v := by
  rw [Int.zero_add]
  exact atI_nat h
theorem refs_at {as : List Addr} {k : Nat} {a : Addr} (h : as[k]? = some a) : (as.map V.ref)[k]? = some (.ref a) := by
  rw [List.getElem?_map, h]
  rfl
theorem rep_all {y : V} {d : PyData} {H : Hp} (hd : DpX H y d) : ∀ (rs : List Addr), (∀ r ∈ rs, H r = some (.lst [y])) → DpXA H (rs.map V.ref) (List.replicate rs.length (.list [d]))
  | [], _ => .nil
  | r :: rs, h => .cons (.lst (h r (List.mem_cons_self ..)) (.cons hd .nil)) (rep_all hd rs fun z hz => h z (List.mem_cons_of_mem _ hz))
theorem rep_same {y : V} {d : PyData} {H : Hp} {m : Addr} (hd : DpX H y d) (hm : H m = some (.lst [y])) : ∀ n, DpXA H (List.replicate n (V.ref m)) (List.replicate n (.list [d]))
  | 0 => .nil
  | n + 1 => .cons (.lst hm (.cons hd .nil)) (rep_same hd hm n)
theorem flat_rep (n : Nat) (x : V) : (List.replicate n [x]).flatten = List.replicate n x := by
  induction n with
  | zero => rfl
  | succ n ih =>
    rw [List.replicate_succ, List.flatten_cons, ih]
    rfl
theorem lenP {α β : Type} {F : α → β → Prop} : ∀ {l : List α} {m : List β}, Paired F l m → l.length = m.length
  | _, _, .nil => rfl
  | _, _, .cons r t => congrArg Nat.succ (lenP t)
theorem pget {α β : Type} {F : α → β → Prop} : ∀ {l : List α} {m : List β}, Paired F l m → ∀ {i : Nat} {x : α}, l[i]? = some x → ∃ y, m[i]? = some y ∧ F x y
  | _, _, .nil, i, x, h => by simp at h
  | _, _, .cons r t, 0, x, h => by
    cases h
    exact ⟨_, rfl, r⟩
  | _, _, .cons r t, i + 1, x, h => pget t (i := i) (by simpa using h)
theorem Wd.under {Hb B H : Hp} {b : Addr} {c : Nat} (W : Wd B H b c) (g : Ex Hb B) : Wd Hb H b c := by
  obtain ⟨e, n, r⟩ := W
  refine ⟨g.trans e, ?_, r⟩
  cases q : Hb b with
  | none => rfl
  | some o =>
    rw [g _ _ q] at n
    cases n
/-- all that is asked of the errors of one box -/
def spAll : Sp := fun vs H Q _ => ∃ (Hb : Hp) (b : Addr) (c : Nat), vs = [.ref b] ∧ Wd Hb H b c ∧ c ≤ 90000 ∧ ∀ H', Wd Hb H' b (c + 4) → Q (.bl true) H'
abbrev N_l_all_right : List Str := ["_law_box_here", "_law_things", "_law_turn", "_law_first", "_law_lists", "_law_spot", "_law_e", "_law_several_here", "_law_due"]
theorem sc_l_all_right : FnScope N_l_all_right ["_law_box_here"] (defScope (top 70)) := ⟨rfl, rfl, rfl, by decide +kernel, rfl, by decide +kernel, by decide +kernel⟩

theorem ok_l_all_right (T : Txt K mg) (C_l_thing : Cal P w K mg base 2 "_law_thing" (spThing) []) (C_l_by_place : Cal P w K mg base 3 "_law_by_place" (spPlace K) []) (C_l_by_name : Cal P w K mg base 3 "_law_by_name" (spPlace K) []) (C_l_several : Cal P w K mg base 3 "_law_several" (spSeveral K) []) (C_l_is : Cal P w K mg base 3 "_law_is" (spIs K []) []) (C_l_kept : Cal P w K mg base 2 "_law_kept" (spKept K []) []) : CalG P w K mg base 4 "_law_all_right" (spAll) := by
  obtain ⟨fd, F⟩ := T.d__law_all_right
  refine ⟨_, fd, ["_law_box_here"], ?_, T.g__law_all_right, F.kp, F.bindsN fun _ _ _ _ _ _ us hl => match us, hl with | [_], _ => rfl⟩
  refine F.okG sc_l_all_right (fun vs H Q E h => by obtain ⟨_, _, _, rfl, _⟩ := h; rfl) (fun cdv A outer s H vs Q E hG hr h => ?_)
  have hu := hu_of hr
  refine ⟨_, PSs.nox (pss_cons (ps_set (i := 1) sc_l_all_right.nd rfl (Or.inl rfl) (pe_lst (pa_cons (pe_c C_l_thing hr (by omega) rfl (pa_cons (pv 0) pa_nil)) (pa_cons (pe_c C_l_thing hr (by omega) rfl (pa_cons (pv 0) pa_nil)) (pa_cons (pe_c C_l_thing hr (by omega) rfl (pa_cons (pv 0) pa_nil)) (pa_cons (pe_c C_l_thing hr (by omega) rfl (pa_cons (pv 0) pa_nil)) pa_nil))))))
      (pss_cons (ps_for PassesOwn.never rfl (pi_range1 (by rfl) T.f_range (pa_cons pe_int pa_nil)) (pg_name (i := 2) sc_l_all_right.nd rfl (Or.inl rfl)) (pss_cons (ps_set (i := 3) sc_l_all_right.nd rfl (Or.inl rfl) (pe_ix ix_list (pv 1) (pv 2) (fun _ _ => rfl)))
      (pss_cons (ps_set (i := 4) sc_l_all_right.nd rfl (Or.inl rfl) (pe_lst (pa_cons (pe_c C_l_by_place hr (by omega) rfl (pa_cons (pv 3) pa_nil)) (pa_cons (pe_c C_l_by_name hr (by omega) rfl (pa_cons (pv 3) pa_nil)) pa_nil))))
      (pss_cons (ps_for PassesOwn.never rfl (pi_range1 (by rfl) T.f_range (pa_cons pe_int pa_nil)) (pg_name (i := 5) sc_l_all_right.nd rfl (Or.inl rfl)) (pss_cons (ps_set (i := 6) sc_l_all_right.nd rfl (Or.inl rfl) (pe_ix ix_list (pe_ix ix_list (pv 4) (pe_op op_fdiv (pv 2) pe_int) (fun _ _ => rfl)) (pv 5) (fun _ _ => rfl)))
      (pss_one (ps_if (PW.pt (pw_or (pt_not (pt_val (pe_c C_l_is hr (by omega) rfl (pa_cons (pv 6) (pa_cons (pv 5) pa_nil))))) (pw_or1 (pt_cmpR op_ne (pe_callB (call_reprX T.sysm hG hr.units) (by rfl) T.f_repr (by decide +kernel) (pa_cons (pe_c C_l_kept hr (by omega) rfl (pa_cons (pv 6) pa_nil)) pa_nil)) (pe_callB (call_reprX T.sysm hG hr.units) (by rfl) T.f_repr (by decide +kernel) (pa_cons (pe_lst (pa_cons (pv 3) pa_nil)) pa_nil)) (nomark _))))) (pss_one (ps_ret pe_bl)) pss_nil))))
      (pss_cons (ps_set (i := 7) sc_l_all_right.nd rfl (Or.inl rfl) (pe_c C_l_several hr (by omega) rfl (pa_cons (pe_ix ix_list (pv 1) (pe_op op_sub (pv 2) pe_int) (fun _ _ => rfl)) (pa_cons (pe_ix ix_list (pv 1) (pe_op op_sub (pv 2) pe_int) (fun _ _ => rfl)) (pa_cons (pe_ix ix_list (pv 1) (pe_op op_sub (pv 2) pe_int) (fun _ _ => rfl)) (pa_cons (pe_ix ix_list (pv 1) (pv 2) (fun _ _ => rfl)) (pa_cons (pv 2) pa_nil)))))))
      (pss_cons (ps_set (i := 8) sc_l_all_right.nd rfl (Or.inl rfl) (pe_lst (pa_cons (pe_ix ix_list (pv 1) (pe_op op_sub (pv 2) pe_int) (fun _ _ => rfl)) (pa_cons (pe_ix ix_list (pv 1) (pe_op op_sub (pv 2) pe_int) (fun _ _ => rfl)) (pa_cons (pe_ix ix_list (pv 1) (pe_op op_sub (pv 2) pe_int) (fun _ _ => rfl)) (pa_cons (pe_ix ix_list (pv 1) (pv 2) (fun _ _ => rfl)) pa_nil))))))
      (pss_cons (ps_for PassesOwn.never rfl (pi_range1 (by rfl) T.f_range (pa_cons pe_int pa_nil)) (pg_name (i := 5) sc_l_all_right.nd rfl (Or.inl rfl)) (pss_cons (ps_if (pt_not (pt_val (pe_c C_l_is hr (by omega) rfl (pa_cons (pe_ix ix_list (pv 7) (pv 5) (fun _ _ => rfl)) (pa_cons (pe_op op_add pe_int (pv 5)) pa_nil))))) (pss_one (ps_ret pe_bl)) pss_nil)
      (pss_one (ps_if (pt_cmpR op_ne (pe_callB (call_reprX T.sysm hG hr.units) (by rfl) T.f_repr (by decide +kernel) (pa_cons (pe_c C_l_kept hr (by omega) rfl (pa_cons (pe_ix ix_list (pv 7) (pv 5) (fun _ _ => rfl)) pa_nil)) pa_nil)) (pe_callB (call_reprX T.sysm hG hr.units) (by rfl) T.f_repr (by decide +kernel) (pa_cons (pe_slice sl_list (pv 8) po_none (po_some (pe_ix ix_list (pe_lst (pa_cons pe_int (pa_cons pe_int (pa_cons pe_int (pa_cons pe_int (pa_cons pe_int (pa_cons pe_int pa_nil))))))) (pv 5) (fun _ _ => rfl)))) pa_nil)) (nomark _)) (pss_one (ps_ret pe_bl)) pss_nil))))
      (pss_one (ps_if (pt_cmpR op_ne (pe_callB (call_reprX T.sysm hG hr.units) (by rfl) T.f_repr (by decide +kernel) (pa_cons (pe_lc (own := [("_law_e", 6)]) rfl sc_l_all_right.nd (pi_list (pe_ix ix_list (pv 4) pe_int (fun _ _ => rfl))) (blkOk_by (own := [("_law_e", 6)]) (N := N_l_all_right) (sc := defScope (top 70)) (by decide +kernel)) (fun _ _ _ _ _ => (pg_name (i := 6) sc_l_all_right.nd rfl (Or.inl rfl))) (fun _ _ _ _ _ => pts_nil) (fun _ _ _ _ _ => (pe_c C_l_kept hr (by omega) rfl (pa_cons (pv 6) pa_nil)))) pa_nil)) (pe_callB (call_reprX T.sysm hG hr.units) (by rfl) T.f_repr (by decide +kernel) (pa_cons (pe_op op_rep (pe_lst (pa_cons (pe_lst (pa_cons (pv 3) pa_nil)) pa_nil)) pe_int) pa_nil)) (nomark _)) (pss_one (ps_ret pe_bl)) pss_nil)))))))))
      (pss_one (ps_ret pe_bl)))), ?_⟩
  obtain ⟨Hb, b, c, rfl, W, hc, hQ⟩ := h
  refine ⟨_, rfl, Hb, b, c, rfl, W, by omega, fun B1 x0 d0 H1 g1 W1 p0 t0 => ?_⟩
  refine ⟨_, rfl, B1, b, c + 1, rfl, W1, by omega, fun B2 x1 d1 H2 g2 W2 p1 t1 => ?_⟩
  refine ⟨_, rfl, B2, b, c + 2, rfl, W2, by omega, fun B3 x2 d2 H3 g3 W3 p2 t2 => ?_⟩
  refine ⟨_, rfl, B3, b, c + 3, rfl, W3, by omega, fun B4 x3 d3 H4 g4 W4 p3 t3 => ?_⟩
  refine ⟨(by show 4 ≤ sizeLine; decide), fun tl ntl => ?_⟩
  have W5 := W4.new (o := .lst [x0, x1, x2, x3]) ntl
  have g5 : Ex B4 W5.hb := Evl.Ex.new (W4.free ntl)
  have htl : W5.hb tl = some (.lst [x0, x1, x2, x3]) := upd_same
  have gb : Ex Hb W5.hb := (((g1.trans g2).trans g3).trans g4).trans g5
  have k0 : ∃ d, DpX W5.hb x0 d ∧ TD d := ⟨d0, DpX.mono (((g2.trans g3).trans g4).trans g5) _ _ p0, t0⟩
  have k1 : ∃ d, DpX W5.hb x1 d ∧ TD d := ⟨d1, DpX.mono ((g3.trans g4).trans g5) _ _ p1, t1⟩
  have k2 : ∃ d, DpX W5.hb x2 d ∧ TD d := ⟨d2, DpX.mono (g4.trans g5) _ _ p2, t2⟩
  have k3 : ∃ d, DpX W5.hb x3 d ∧ TD d := ⟨d3, DpX.mono g5 _ _ p3, t3⟩
  have W5' : Wd W5.hb _ b (c + 4) := W5
  generalize hB : W5.hb = B at W5' gb htl k0 k1 k2 k3
  refine ⟨4, rfl, by decide, by decide, for_range (n := 4) (fun i σ H' => (∃ s2 s3 s4 s5 s6 s7 s8, σ = [some (.ref b), some (.ref tl), s2, s3, s4, s5, s6, s7, s8]) ∧ Wd B H' b (c + 4)) ⟨⟨_, _, _, _, _, _, _, rfl⟩, W5'⟩ ?_ ?_⟩
  · rintro i σ H6 hi ⟨⟨s2, s3, s4, s5, s6, s7, s8, rfl⟩, W6⟩
    obtain ⟨y1, y2, y3, y4, a1, a2, a3, a4, ⟨e1, q1, u1⟩, ⟨e2, q2, u2⟩, ⟨e3, q3, u3⟩, ⟨e4, q4, u4⟩⟩ := things_at (Pr := fun v => ∃ d, DpX B v d ∧ TD d) k0 k1 k2 k3 hi
    refine ⟨_, rfl, _, rfl, tl, _, _, _, rfl, rfl, SqL.of (W6.ex _ _ htl), a4, ?_⟩
    refine ⟨_, rfl, y4, rfl, fun l1 as1 H7 g7 h7 p7 => ?_⟩
    refine ⟨_, rfl, y4, rfl, fun l2 as2 H8 g8 h8 p8 => ?_⟩
    refine ⟨(by show 2 ≤ sizeLine; decide), fun L nL => ?_⟩
    have gL := Evl.Ex.new (o := .lst [.ref l1, .ref l2]) nL
    have W9 : Wd B (upd H8 L (.lst [.ref l1, .ref l2])) b (c + 4) := W6.grow ((g7.trans g8).trans gL)
    have hL : (upd H8 L (.lst [.ref l1, .ref l2])) L = some (.lst [.ref l1, .ref l2]) := upd_same
    generalize hH9 : upd H8 L (.lst [.ref l1, .ref l2]) = H9 at W9 hL gL
    have c1 : ∃ q as, V.ref l1 = .ref q ∧ H9 q = some (.lst (as.map V.ref)) ∧ Paired (fun e a => XA K H9 e [y4] a) exsA as := ⟨l1, as1, rfl, gL _ _ (g8 _ _ h7), L2.Paired.mapP p7 fun _ _ z => z.mono (g8.trans gL)⟩
    have c2 : ∃ q as, V.ref l2 = .ref q ∧ H9 q = some (.lst (as.map V.ref)) ∧ Paired (fun e a => XA K H9 e [y4] a) exsA as := ⟨l2, as2, rfl, gL _ _ h8, L2.Paired.mapP p8 fun _ _ z => z.mono gL⟩
    obtain ⟨z, az, ⟨q, as, rfl, hq, pq⟩⟩ := half_at (Pr := fun v => ∃ q as, v = .ref q ∧ H9 q = some (.lst (as.map V.ref)) ∧ Paired (fun e a => XA K H9 e [y4] a) exsA as) c1 c2 hi
    have D4 : DpX H9 y4 e4 := DpX.mono W9.ex _ _ q4
    have S4 : Sml 4 (2 + 1 * (100 + 2)) (.list [e4]) := Sml.list 1 (fun d hd => by rw [List.mem_singleton] at hd; rw [hd]; exact u4.sml) (Nat.le_refl _)
    refine ⟨28, rfl, by decide, by decide, for_range (n := 28) (fun k σ H' => (∃ s5 s6, σ = [some (.ref b), some (.ref tl), some (.int (0 + (i : Int))), some y4, some (.ref L), s5, s6, s7, s8]) ∧ Ex H9 H') ⟨⟨_, _, rfl⟩, Evl.Ex.refl _⟩ ?_ ?_⟩
    · rintro k σ H10 hk ⟨⟨s5', s6', rfl⟩, g10⟩
      obtain ⟨ek, hek⟩ : ∃ ek, exsA[k]? = some ek := ⟨_, List.getElem?_eq_getElem (by rw [exsA_len]; exact hk)⟩
      obtain ⟨a, ha, xa⟩ := pget pq hek
      have hik : exs[k]? = some ek := (exsA_at k hk).symm.trans hek
      have l1k : ek.2.length = 1 := by
        have z := one28 k hk
        rw [hik] at z
        exact Option.some.inj z
      refine ⟨_, rfl, _, rfl, _, _, rfl, rfl, ⟨by decide, by decide⟩, L, _, _, _, rfl, rfl, SqL.of (g10 _ _ hL), az, ?_⟩
      refine ⟨_, rfl, q, _, _, _, rfl, rfl, SqL.of (g10 _ _ hq), nat_at (refs_at ha), ?_⟩
      refine ⟨_, rfl, _, rfl, a, k, k, ek, _, by rw [Int.zero_add]; rfl, hik, (xa.mono g10) _, fun H11 g11 => ⟨_, rfl, iteFo (by simp) ?_⟩⟩
      refine ⟨_, rfl, a, k, ek, [y4], rfl, hik, by omega, by rw [l1k]; rfl, (xa.mono (g10.trans g11)) _, fun l H12 nl g12 h12 => ?_⟩
      have G12 := (g10.trans g11).trans g12
      refine repr_x (.lst h12 (.cons (DpX.mono G12 _ _ D4) .nil)) S4 (by decide) (by decide) ?_
      refine ⟨_, rfl, (by show 1 ≤ sizeLine; decide), fun m hm => ?_⟩
      refine repr_x (.lst upd_same (.cons (DpX.mono (G12.trans (Evl.Ex.new hm)) _ _ D4) .nil)) S4 (by decide) (by decide) ?_
      refine ⟨rfl, _, rfl, iteFo (by simp) ?_⟩
      exact ⟨⟨_, _, rfl⟩, G12.trans (Evl.Ex.new hm)⟩
    · rintro σ H10 ⟨⟨s5', s6', rfl⟩, g10⟩
      have W10 := W9.grow g10
      have HT := W10.ex _ _ htl
      refine ⟨_, rfl, _, rfl, _, _, rfl, rfl, tl, _, _, _, rfl, rfl, SqL.of HT, a1, ?_⟩
      refine ⟨_, rfl, _, rfl, _, _, rfl, rfl, tl, _, _, _, rfl, rfl, SqL.of HT, a2, ?_⟩
      refine ⟨_, rfl, _, rfl, _, _, rfl, rfl, tl, _, _, _, rfl, rfl, SqL.of HT, a3, ?_⟩
      refine ⟨_, rfl, _, rfl, tl, _, _, _, rfl, rfl, SqL.of HT, a4, ?_⟩
      refine ⟨_, rfl, y1, y2, y3, y4, i, by rw [Int.zero_add]; rfl, hi, fun sl bs H11 g11 h11 p11 => ?_⟩
      have HT1 := g11 _ _ HT
      refine ⟨_, rfl, _, rfl, _, _, rfl, rfl, tl, _, _, _, rfl, rfl, SqL.of HT1, a1, ?_⟩
      refine ⟨_, rfl, _, rfl, _, _, rfl, rfl, tl, _, _, _, rfl, rfl, SqL.of HT1, a2, ?_⟩
      refine ⟨_, rfl, _, rfl, _, _, rfl, rfl, tl, _, _, _, rfl, rfl, SqL.of HT1, a3, ?_⟩
      refine ⟨_, rfl, _, rfl, tl, _, _, _, rfl, rfl, SqL.of HT1, a4, ?_⟩
      refine ⟨(by show 4 ≤ sizeLine; decide), fun dl ndl => ?_⟩
      have gd := Evl.Ex.new (o := .lst [y1, y2, y3, y4]) ndl
      have hdl : (upd H11 dl (.lst [y1, y2, y3, y4])) dl = some (.lst [y1, y2, y3, y4]) := upd_same
      generalize hH12 : upd H11 dl (.lst [y1, y2, y3, y4]) = H12 at gd hdl
      have G12 := (g10.trans g11).trans gd
      have W12 := W9.grow G12
      have E1 := DpX.mono W12.ex _ _ q1
      have E2 := DpX.mono W12.ex _ _ q2
      have E3 := DpX.mono W12.ex _ _ q3
      have E4 := DpX.mono W12.ex _ _ q4
      have hsl := gd _ _ h11
      refine ⟨6, rfl, by decide, by decide, for_range (n := 6) (fun k σ H' => (∃ s5, σ = [some (.ref b), some (.ref tl), some (.int (0 + (i : Int))), some y4, some (.ref L), s5, s6', some (.ref sl), some (.ref dl)]) ∧ Ex H12 H') ⟨⟨_, rfl⟩, Evl.Ex.refl _⟩ ?_ ?_⟩
      · rintro k σ H13 hk ⟨⟨s5'', rfl⟩, g13⟩
        obtain ⟨ek, hek⟩ : ∃ ek, exsB[k]? = some ek := ⟨_, List.getElem?_eq_getElem hk⟩
        obtain ⟨a, ha, xa⟩ := pget p11 hek
        have xa := xa.mono gd
        have hik : exs[28 + k]? = some ek := (exsB_at k hk).symm.trans hek
        refine ⟨_, rfl, _, rfl, sl, _, _, _, rfl, rfl, SqL.of (g13 _ _ hsl), nat_at (refs_at ha), ?_⟩
        refine ⟨_, rfl, _, _, rfl, rfl, ?_⟩
        refine ⟨a, 28 + k, 28 + k, ek, _, by rw [Int.zero_add]; rfl, hik, (xa.mono g13) _, fun H14 g14 => ⟨_, rfl, iteFo (by simp) ?_⟩⟩
        have G14 := g13.trans g14
        refine ⟨_, rfl, _, rfl, sl, _, _, _, rfl, rfl, SqL.of (G14 _ _ hsl), nat_at (refs_at ha), ?_⟩
        match k, hk with
        | 0, hk =>
          obtain rfl : K00.e1 "NoSystem" ["line", "column"] = ek := Option.some.inj hek
          have SM : Sml 4 (2 + 2 * (100 + 2)) (.list [e1, e2]) := (Sml.list 2 (fun d hd => by simp only [List.mem_cons, List.not_mem_nil, or_false] at hd; rcases hd with rfl | rfl <;> first | exact u1.sml | exact u2.sml | exact u3.sml | exact u4.sml) (Nat.le_refl _))
          refine ⟨a, 28 + 0, _, [y1, y2], rfl, hik, by decide, rfl, (xa.mono G14) _, fun l H15 nl g15 h15 => ?_⟩
          have G15 := G14.trans g15
          refine repr_x (.lst h15 (.cons (DpX.mono (G15) _ _ E1) (.cons (DpX.mono (G15) _ _ E2) .nil))) SM (by decide) (by decide) ?_
          refine ⟨_, rfl, (by show 6 ≤ sizeLine; decide), fun z nz => ?_⟩
          have G16 := G15.trans (Evl.Ex.new (o := .lst [.int 2, .int 2, .int 2, .int 3, .int 3, .int 4]) nz)
          refine ⟨_, rfl, z, _, _, _, rfl, rfl, SqL.of upd_same, nat_at (k := 0) rfl, 2, rfl, ?_⟩
          refine ⟨dl, _, rfl, SqL.of (G16 _ _ hdl), fun p hp => ?_⟩
          have G17 := G16.trans (Evl.Ex.new (o := .lst [y1, y2]) hp)
          refine repr_x (d := .list [e1, e2]) (.lst upd_same (.cons (DpX.mono (G17) _ _ E1) (.cons (DpX.mono (G17) _ _ E2) .nil))) SM (by decide) (by decide) ?_
          refine ⟨rfl, _, rfl, iteFo (by simp) ?_⟩
          exact ⟨⟨_, rfl⟩, G17⟩
        | 1, hk =>
          obtain rfl : K00.e1 "NotBrought" ["payoff", "table"] = ek := Option.some.inj hek
          have SM : Sml 4 (2 + 2 * (100 + 2)) (.list [e1, e2]) := (Sml.list 2 (fun d hd => by simp only [List.mem_cons, List.not_mem_nil, or_false] at hd; rcases hd with rfl | rfl <;> first | exact u1.sml | exact u2.sml | exact u3.sml | exact u4.sml) (Nat.le_refl _))
          refine ⟨a, 28 + 1, _, [y1, y2], rfl, hik, by decide, rfl, (xa.mono G14) _, fun l H15 nl g15 h15 => ?_⟩
          have G15 := G14.trans g15
          refine repr_x (.lst h15 (.cons (DpX.mono (G15) _ _ E1) (.cons (DpX.mono (G15) _ _ E2) .nil))) SM (by decide) (by decide) ?_
          refine ⟨_, rfl, (by show 6 ≤ sizeLine; decide), fun z nz => ?_⟩
          have G16 := G15.trans (Evl.Ex.new (o := .lst [.int 2, .int 2, .int 2, .int 3, .int 3, .int 4]) nz)
          refine ⟨_, rfl, z, _, _, _, rfl, rfl, SqL.of upd_same, nat_at (k := 1) rfl, 2, rfl, ?_⟩
          refine ⟨dl, _, rfl, SqL.of (G16 _ _ hdl), fun p hp => ?_⟩
          have G17 := G16.trans (Evl.Ex.new (o := .lst [y1, y2]) hp)
          refine repr_x (d := .list [e1, e2]) (.lst upd_same (.cons (DpX.mono (G17) _ _ E1) (.cons (DpX.mono (G17) _ _ E2) .nil))) SM (by decide) (by decide) ?_
          refine ⟨rfl, _, rfl, iteFo (by simp) ?_⟩
          exact ⟨⟨_, rfl⟩, G17⟩
        | 2, hk =>
          obtain rfl : K00.e1 "TooGreat" ["unit", "store"] = ek := Option.some.inj hek
          have SM : Sml 4 (2 + 2 * (100 + 2)) (.list [e1, e2]) := (Sml.list 2 (fun d hd => by simp only [List.mem_cons, List.not_mem_nil, or_false] at hd; rcases hd with rfl | rfl <;> first | exact u1.sml | exact u2.sml | exact u3.sml | exact u4.sml) (Nat.le_refl _))
          refine ⟨a, 28 + 2, _, [y1, y2], rfl, hik, by decide, rfl, (xa.mono G14) _, fun l H15 nl g15 h15 => ?_⟩
          have G15 := G14.trans g15
          refine repr_x (.lst h15 (.cons (DpX.mono (G15) _ _ E1) (.cons (DpX.mono (G15) _ _ E2) .nil))) SM (by decide) (by decide) ?_
          refine ⟨_, rfl, (by show 6 ≤ sizeLine; decide), fun z nz => ?_⟩
          have G16 := G15.trans (Evl.Ex.new (o := .lst [.int 2, .int 2, .int 2, .int 3, .int 3, .int 4]) nz)
          refine ⟨_, rfl, z, _, _, _, rfl, rfl, SqL.of upd_same, nat_at (k := 2) rfl, 2, rfl, ?_⟩
          refine ⟨dl, _, rfl, SqL.of (G16 _ _ hdl), fun p hp => ?_⟩
          have G17 := G16.trans (Evl.Ex.new (o := .lst [y1, y2]) hp)
          refine repr_x (d := .list [e1, e2]) (.lst upd_same (.cons (DpX.mono (G17) _ _ E1) (.cons (DpX.mono (G17) _ _ E2) .nil))) SM (by decide) (by decide) ?_
          refine ⟨rfl, _, rfl, iteFo (by simp) ?_⟩
          exact ⟨⟨_, rfl⟩, G17⟩
        | 3, hk =>
          obtain rfl : K00.e1 "NotFair" ["reason", "unit", "word"] = ek := Option.some.inj hek
          have SM : Sml 4 (2 + 3 * (100 + 2)) (.list [e1, e2, e3]) := (Sml.list 3 (fun d hd => by simp only [List.mem_cons, List.not_mem_nil, or_false] at hd; rcases hd with rfl | rfl | rfl <;> first | exact u1.sml | exact u2.sml | exact u3.sml | exact u4.sml) (Nat.le_refl _))
          refine ⟨a, 28 + 3, _, [y1, y2, y3], rfl, hik, by decide, rfl, (xa.mono G14) _, fun l H15 nl g15 h15 => ?_⟩
          have G15 := G14.trans g15
          refine repr_x (.lst h15 (.cons (DpX.mono (G15) _ _ E1) (.cons (DpX.mono (G15) _ _ E2) (.cons (DpX.mono (G15) _ _ E3) .nil)))) SM (by decide) (by decide) ?_
          refine ⟨_, rfl, (by show 6 ≤ sizeLine; decide), fun z nz => ?_⟩
          have G16 := G15.trans (Evl.Ex.new (o := .lst [.int 2, .int 2, .int 2, .int 3, .int 3, .int 4]) nz)
          refine ⟨_, rfl, z, _, _, _, rfl, rfl, SqL.of upd_same, nat_at (k := 3) rfl, 3, rfl, ?_⟩
          refine ⟨dl, _, rfl, SqL.of (G16 _ _ hdl), fun p hp => ?_⟩
          have G17 := G16.trans (Evl.Ex.new (o := .lst [y1, y2, y3]) hp)
          refine repr_x (d := .list [e1, e2, e3]) (.lst upd_same (.cons (DpX.mono (G17) _ _ E1) (.cons (DpX.mono (G17) _ _ E2) (.cons (DpX.mono (G17) _ _ E3) .nil)))) SM (by decide) (by decide) ?_
          refine ⟨rfl, _, rfl, iteFo (by simp) ?_⟩
          exact ⟨⟨_, rfl⟩, G17⟩
        | 4, hk =>
          obtain rfl : K00.e1 "TooRich" ["unit", "store", "count"] = ek := Option.some.inj hek
          have SM : Sml 4 (2 + 3 * (100 + 2)) (.list [e1, e2, e3]) := (Sml.list 3 (fun d hd => by simp only [List.mem_cons, List.not_mem_nil, or_false] at hd; rcases hd with rfl | rfl | rfl <;> first | exact u1.sml | exact u2.sml | exact u3.sml | exact u4.sml) (Nat.le_refl _))
          refine ⟨a, 28 + 4, _, [y1, y2, y3], rfl, hik, by decide, rfl, (xa.mono G14) _, fun l H15 nl g15 h15 => ?_⟩
          have G15 := G14.trans g15
          refine repr_x (.lst h15 (.cons (DpX.mono (G15) _ _ E1) (.cons (DpX.mono (G15) _ _ E2) (.cons (DpX.mono (G15) _ _ E3) .nil)))) SM (by decide) (by decide) ?_
          refine ⟨_, rfl, (by show 6 ≤ sizeLine; decide), fun z nz => ?_⟩
          have G16 := G15.trans (Evl.Ex.new (o := .lst [.int 2, .int 2, .int 2, .int 3, .int 3, .int 4]) nz)
          refine ⟨_, rfl, z, _, _, _, rfl, rfl, SqL.of upd_same, nat_at (k := 4) rfl, 3, rfl, ?_⟩
          refine ⟨dl, _, rfl, SqL.of (G16 _ _ hdl), fun p hp => ?_⟩
          have G17 := G16.trans (Evl.Ex.new (o := .lst [y1, y2, y3]) hp)
          refine repr_x (d := .list [e1, e2, e3]) (.lst upd_same (.cons (DpX.mono (G17) _ _ E1) (.cons (DpX.mono (G17) _ _ E2) (.cons (DpX.mono (G17) _ _ E3) .nil)))) SM (by decide) (by decide) ?_
          refine ⟨rfl, _, rfl, iteFo (by simp) ?_⟩
          exact ⟨⟨_, rfl⟩, G17⟩
        | 5, hk =>
          obtain rfl : K00.e1 "NotLet" ["store", "pick", "payoff", "table"] = ek := Option.some.inj hek
          have SM : Sml 4 (2 + 4 * (100 + 2)) (.list [e1, e2, e3, e4]) := (Sml.list 4 (fun d hd => by simp only [List.mem_cons, List.not_mem_nil, or_false] at hd; rcases hd with rfl | rfl | rfl | rfl <;> first | exact u1.sml | exact u2.sml | exact u3.sml | exact u4.sml) (Nat.le_refl _))
          refine ⟨a, 28 + 5, _, [y1, y2, y3, y4], rfl, hik, by decide, rfl, (xa.mono G14) _, fun l H15 nl g15 h15 => ?_⟩
          have G15 := G14.trans g15
          refine repr_x (.lst h15 (.cons (DpX.mono (G15) _ _ E1) (.cons (DpX.mono (G15) _ _ E2) (.cons (DpX.mono (G15) _ _ E3) (.cons (DpX.mono (G15) _ _ E4) .nil))))) SM (by decide) (by decide) ?_
          refine ⟨_, rfl, (by show 6 ≤ sizeLine; decide), fun z nz => ?_⟩
          have G16 := G15.trans (Evl.Ex.new (o := .lst [.int 2, .int 2, .int 2, .int 3, .int 3, .int 4]) nz)
          refine ⟨_, rfl, z, _, _, _, rfl, rfl, SqL.of upd_same, nat_at (k := 5) rfl, 4, rfl, ?_⟩
          refine ⟨dl, _, rfl, SqL.of (G16 _ _ hdl), fun p hp => ?_⟩
          have G17 := G16.trans (Evl.Ex.new (o := .lst [y1, y2, y3, y4]) hp)
          refine repr_x (d := .list [e1, e2, e3, e4]) (.lst upd_same (.cons (DpX.mono (G17) _ _ E1) (.cons (DpX.mono (G17) _ _ E2) (.cons (DpX.mono (G17) _ _ E3) (.cons (DpX.mono (G17) _ _ E4) .nil))))) SM (by decide) (by decide) ?_
          refine ⟨rfl, _, rfl, iteFo (by simp) ?_⟩
          exact ⟨⟨_, rfl⟩, G17⟩
        | n + 6, h => exact absurd h (by omega)
      · rintro σ H13 ⟨⟨s5'', rfl⟩, g13⟩
        have G13 := G12.trans g13
        refine ⟨_, rfl, L, _, _, _, rfl, rfl, SqL.of (G13 _ _ hL), rfl, l2, rfl, ⟨_, SqL.of (G13 _ _ (gL _ _ h8))⟩, fun D nD => ?_⟩
        have hl2 := G13 _ _ (gL _ _ h8)
        have D13 := DpX.mono (W9.grow G13).ex _ _ q4
        refine lc_list (K := K) (a := l2) (xs := as2.map V.ref) (fun n H' => Ex H13 H' ∧ ∃ rs : List Addr, rs.length = n ∧ H' D = some (.lst (rs.map V.ref)) ∧ ∀ r ∈ rs, r ≠ D ∧ H' r = some (.lst [y4])) ⟨Evl.Ex.new nD, [], rfl, upd_same, fun r hr => by cases hr⟩ (fun n H' _ h => SqL.of (h.1 _ _ hl2)) ?_ ?_
        · rintro n x H14 hx ⟨g14, rs, rl, hD, hrs⟩
          rw [List.getElem?_map] at hx
          obtain ⟨a, ha, rfl⟩ := Option.map_eq_some_iff.mp hx
          have ln : n < 28 := by
            have z := (List.getElem?_eq_some_iff.mp ha).1
            rw [← lenP p8, exsA_len] at z
            exact z
          obtain ⟨en, hen⟩ : ∃ en, exsA[n]? = some en := ⟨_, List.getElem?_eq_getElem (by rw [exsA_len]; exact ln)⟩
          obtain ⟨a', ha', xa⟩ := pget p8 hen
          rw [ha] at ha'
          cases ha'
          have hin : exs[n]? = some en := (exsA_at n ln).symm.trans hen
          have l1n : en.2.length = 1 := by
            have z := one28 n ln
            rw [hin] at z
            exact Option.some.inj z
          refine ⟨rfl, _, rfl, a, n, en, [y4], rfl, hin, by omega, by rw [l1n]; rfl, (xa.mono (gL.trans (G13.trans g14))) _, fun l H15 nl g15 h15 => ?_⟩
          have hD5 := g15 _ _ hD
          have lD : l ≠ D := fun z => by
            rw [z, hD] at nl
            cases nl
          refine ⟨_, hD5, ?_, Evl.Ex.mut (g14.trans g15) nD, rs ++ [l], by rw [List.length_append, rl]; rfl, ?_, ?_⟩
          · rw [List.length_map, rl]
            have : 28 < sizeLine := by decide
            omega
          · rw [upd_same, List.map_append]
            rfl
          · intro r hr
            have rD : r ≠ D ∧ H15 r = some (.lst [y4]) := by
              rcases List.mem_append.mp hr with hr | hr
              · exact ⟨(hrs r hr).1, g15 _ _ (hrs r hr).2⟩
              · rw [List.mem_singleton] at hr
                rw [hr]
                exact ⟨lD, h15⟩
            exact ⟨rD.1, (upd_ne rD.1).trans rD.2⟩
        · rintro H14 ⟨g14, rs, rl, hD, hrs⟩
          rw [List.length_map, ← lenP p8, exsA_len] at rl
          have E14 := DpX.mono g14 _ _ D13
          have SS : Sml 5 (2 + 28 * (2 + 1 * (100 + 2) + 2)) (.list (List.replicate 28 (.list [e4]))) := Sml.list 28 (fun d hd => by rw [List.eq_of_mem_replicate hd]; exact S4) (Nat.le_of_eq List.length_replicate)
          have RA := rep_all E14 rs fun r hr => (hrs r hr).2
          rw [rl] at RA
          refine repr_x (.lst hD RA) SS (by decide) (by decide) ?_
          refine ⟨_, rfl, (by show 1 ≤ sizeLine; decide), fun m hm => ?_⟩
          have g15 := Evl.Ex.new (o := .lst [y4]) hm
          refine ⟨(by show 1 ≤ sizeLine; decide), fun m2 hm2 => ?_⟩
          have g16 := Evl.Ex.new (o := .lst [.ref m]) hm2
          refine ⟨m2, 28, _, rfl, rfl, upd_same, by decide, by decide, (by show 1 * 28 ≤ sizeLine; decide), fun m3 hm3 => ?_⟩
          rw [flat_rep]
          have g17 := Evl.Ex.new (o := .lst (List.replicate 28 (V.ref m))) hm3
          refine repr_x (.lst upd_same (rep_same (DpX.mono ((g15.trans g16).trans g17) _ _ E14) ((g16.trans g17) _ _ upd_same) 28)) SS (by decide) (by decide) ?_
          refine ⟨rfl, _, rfl, iteFo (by simp) ?_⟩
          exact ⟨⟨_, _, _, _, _, _, _, rfl⟩, (W9.grow G13).grow (((g14.trans g15).trans g16).trans g17)⟩
  · rintro σ H6 ⟨⟨s2, s3, s4, s5, s6, s7, s8, rfl⟩, W6⟩
    have W7 : Wd Hb H6 b (c + 4) := Wd.under W6 gb
    exact hQ _ W7

end
end K00
namespace K00
open PySem PySem.Spec PyProof.Rows L2 C8
section
variable {P : Program} {w : World} {K : PySem.W.Frag} {mg : Str → Option Value} {base : Heap}
/-- one half -/
def half : List (Str × V) := [("top", .int 1), ("bottom", .int 2)]
def spRatio2 (K : PySem.W.Frag) : Sp := fun vs H Q _ => ∃ (x dx : Addr) (t b : Int), vs = [.ref x, .int t, .int b] ∧ H x = some (.ins (He.ga K "Ratio") dx []) ∧ ((t = 2 ∧ b = 4) ∨ (t = 1 ∧ b = 2)) ∧
  ∀ H', (∀ q o, q ≠ x → H q = some o → H' q = some o) → H' x = some (.ins (He.ga K "Ratio") dx half) → Q .non H'
theorem ok_Ratio2 (T : Txt K mg) (C_is_whole : Cal P w K mg base 1 "is_whole" spWhole []) : Mak P w K mg base 2 "Ratio" (He.ga K "Ratio") (spRatio2 K) [] := by
  obtain ⟨fd, F⟩ := T.d_Ratio_init
  obtain ⟨ds, hd, hb⟩ := F.binds1 (ps := ["self", "top", "bottom"]) 3 1 (by simp) (by rfl) (fun T0 kV doc pm an cdv ct us its h1 h2 => match us, its, h1, h2 with | [_, _, _], [_], _, _ => ⟨_, rfl, rfl⟩)
  refine ⟨_, fd, ["self", "top", "bottom"], ds, T.mk_Ratio, ?_, T.g_Ratio, hb, hd⟩
  refine F.ok sc_Ratio_init (fun vs H Q E h => by obtain ⟨_, _, _, _, rfl, _⟩ := h; rfl) (fun cdv A outer s H vs Q E hr h => ?_)
  have hu := hu_of hr
  refine ⟨_, PSs.nox (pss_cons (ps_if (pt_not (pt_val (pe_c C_is_whole hr (by decide) rfl (pa_cons (pv 1) pa_nil)))) (pss_one ps_never) pss_nil)
      (pss_cons (ps_if (pt_not (pt_val (pe_c C_is_whole hr (by decide) rfl (pa_cons (pv 2) pa_nil)))) (pss_one ps_never) pss_nil)
      (pss_cons (ps_if (pt_cmpR op_eq (pv 2) pe_int (nomark _)) (pss_one ps_never) pss_nil)
      (pss_cons (ps_set (i := 3) sc_Ratio_init.nd rfl (Or.inl rfl) (pe_callMB cr_gcd (by rfl) T.b_gcd (pa_cons (pv 1) (pa_cons (pv 2) pa_nil))))
      (pss_cons (ps_if (pt_cmpR op_lt (pv 2) pe_int (nomark _)) (pss_one (ps_set (i := 3) sc_Ratio_init.nd rfl (Or.inl rfl) (pe_un un_neg (pv 3)))) pss_nil)
      (pss_cons (ps_fld (pv 0) (pe_op op_fdiv (pv 1) (pv 3)) rfl)
      (pss_one (ps_fld (pv 0) (pe_op op_fdiv (pv 2) (pv 3)) rfl)))))))), ?_⟩
  obtain ⟨x, dx, t, b, rfl, hx, hn, hQ⟩ := h
  rcases hn with ⟨rfl, rfl⟩ | ⟨rfl, rfl⟩
  · refine ⟨_, rfl, 2, rfl, _, rfl, _, rfl, 4, rfl, _, rfl, ?_⟩
    refine ⟨_, rfl, rfl, _, rfl, ?_⟩
    refine ⟨_, rfl, _, rfl, 2, 4, rfl, ?_⟩
    refine ⟨_, rfl, _, _, rfl, rfl, _, rfl, ?_⟩
    have g1 : ((Nat.gcd (2 : Int).natAbs (4 : Int).natAbs : Nat) : Int) = 2 := by decide +kernel
    rw [g1, decide_eq_false (by omega)]
    refine ⟨_, rfl, _, rfl, _, _, rfl, rfl, ⟨by omega, by omega⟩, ?_⟩
    refine ⟨_, rfl, x, _, dx, _, rfl, hx, T.cl_Ratio, T.n_top, (by show 0 < 1000; decide), ?_⟩
    refine ⟨_, rfl, _, rfl, _, _, rfl, rfl, ⟨by omega, by omega⟩, ?_⟩
    refine ⟨_, rfl, x, _, dx, _, rfl, upd_same, T.cl_Ratio, T.n_bottom, (by show 1 < 1000; decide), ?_⟩
    refine hQ _ (fun q o hq h => ?_) upd_same
    rw [upd_ne hq, upd_ne hq]
    exact h
  · refine ⟨_, rfl, 1, rfl, _, rfl, _, rfl, 2, rfl, _, rfl, ?_⟩
    refine ⟨_, rfl, rfl, _, rfl, ?_⟩
    refine ⟨_, rfl, _, rfl, 1, 2, rfl, ?_⟩
    refine ⟨_, rfl, _, _, rfl, rfl, _, rfl, ?_⟩
    have g1 : ((Nat.gcd (1 : Int).natAbs (2 : Int).natAbs : Nat) : Int) = 1 := by decide +kernel
    rw [g1, decide_eq_false (by omega)]
    refine ⟨_, rfl, _, rfl, _, _, rfl, rfl, ⟨by omega, by omega⟩, ?_⟩
    refine ⟨_, rfl, x, _, dx, _, rfl, hx, T.cl_Ratio, T.n_top, (by show 0 < 1000; decide), ?_⟩
    refine ⟨_, rfl, _, rfl, _, _, rfl, rfl, ⟨by omega, by omega⟩, ?_⟩
    refine ⟨_, rfl, x, _, dx, _, rfl, upd_same, T.cl_Ratio, T.n_bottom, (by show 1 < 1000; decide), ?_⟩
    refine hQ _ (fun q o hq h => ?_) upd_same
    rw [upd_ne hq, upd_ne hq]
    exact h
abbrev N_Ratio_eq : List Str := ["self", "other"]
theorem sc_Ratio_eq : FnScope N_Ratio_eq ["self", "other"] (defScope (inClass (top 45) 8)) := ⟨rfl, rfl, rfl, by decide +kernel, rfl, by decide +kernel, by decide +kernel⟩
def spREq (K : PySem.W.Frag) : Sp := fun vs H Q _ => ∃ (x y dx dy : Addr), vs = [.ref x, .ref y] ∧ H x = some (.ins (He.ga K "Ratio") dx half) ∧ H y = some (.ins (He.ga K "Ratio") dy half) ∧ Q (.bl true) H
theorem ok_Ratio_eq (T : Txt K mg) : Spc P w K mg base 1 (He.ga K "Ratio") "__eq__" (spREq K) := by
  obtain ⟨fd, F⟩ := T.d_Ratio_eq
  refine ⟨_, fd, ["self", "other"], T.s_Ratio_eq, T.sf_Ratio_eq, ?_, F.bindsN fun _ _ _ _ _ _ us hl => match us, hl with | [_, _], _ => rfl⟩
  refine F.ok sc_Ratio_eq (fun vs H Q E h => by obtain ⟨_, _, _, _, rfl, _⟩ := h; rfl) (fun cdv A outer s H vs Q E hr h => ?_)
  have hu := hu_of hr
  refine ⟨_, PSs.nox (pss_cons (ps_if (pt_val (pe_callB call_isi (by rfl) T.f_isinstance (by decide +kernel) (pa_cons (pv 1) (pa_cons (pe_gc rfl T.c_Ratio) pa_nil)))) (pss_one (ps_ret (pe_and (pe_cmpR op_eq (pe_fld (pv 0) rfl) (pe_fld (pv 1) rfl) (nomark _)) (pe_one (pe_cmpR op_eq (pe_fld (pv 0) rfl) (pe_fld (pv 1) rfl) (nomark _)))))) pss_nil)
      (pss_one ps_never)), ?_⟩
  obtain ⟨x, y, dx, dy, rfl, hx, hy, hQ⟩ := h
  refine ⟨_, rfl, _, _, _, _, _, rfl, ClsV.own _, TyX.base (TyOf.ins hy T.cl_Ratio T.ac_Ratio T.cg T.ct T.ob_Ratio), T.ks_Ratio, _, rfl, ?_⟩
  refine ⟨_, rfl, x, _, dx, _, .int 1, rfl, hx, T.cl_Ratio, T.n_top, rfl, _, rfl, y, _, dy, _, .int 1, rfl, hy, T.cl_Ratio, T.n_top, rfl, rfl, _, rfl, ?_⟩
  refine ⟨_, rfl, x, _, dx, _, .int 2, rfl, hx, T.cl_Ratio, T.n_bottom, rfl, _, rfl, y, _, dy, _, .int 2, rfl, hy, T.cl_Ratio, T.n_bottom, rfl, rfl, ?_⟩
  exact hQ

end
end K00
namespace K00
open PySem PySem.Spec PyProof.Rows L2 C8
section
variable {P : Program} {w : World} {K : PySem.W.Frag} {mg : Str → Option Value} {base : Heap}
theorem more_shaped : SeqAt.shaped (.list [.int 1, .str "more"]) = true := by decide +kernel
theorem more_eqv : PyData.eqv (.list [.int 1, .str "more"]) (.list [.int 1, .str "more"]) = true := by decide +kernel
def hg2 : NS := [("hp", 2), ("gold", 3)]
theorem low_hp : Low (("hp" : Str).cps.toList) := by
  have e : ("hp" : Str).cps.toList = [104, 112] := by decide +kernel
  rw [e]
  intro c hc
  simp at hc
  omega
theorem low_gold : Low (("gold" : Str).cps.toList) := by
  have e : ("gold" : Str).cps.toList = [103, 111, 108, 100] := by decide +kernel
  rw [e]
  intro c hc
  simp at hc
  omega
theorem hg2_ok : NsOk hg2 where
  sz := by decide
  wd := fun z hz => by
    have hz : z = "hp" ∨ z = "gold" := by simpa [hg2, wds] using hz
    rcases hz with rfl | rfl
    · exact ⟨low_hp, by decide +kernel, by decide +kernel, by decide +kernel⟩
    · exact ⟨low_gold, by decide +kernel, by decide +kernel, by decide +kernel⟩
  nd := by decide +kernel
def pre (j : Nat) : Nat := ([0, 2, 4, 6, 9, 12, 16] : List Nat).getD j 0
theorem pre_le : ∀ j, j < 6 → pre j ≤ 16 := by decide
theorem exsB_all : ∀ j, j < 6 → ∃ e, exsB[j]? = some e ∧ exs[28 + j]? = some e ∧ pre (j + 1) = pre j + e.2.length ∧ e.2.length ≤ 4
  | 0, _ => ⟨_, rfl, rfl, rfl, by decide⟩
  | 1, _ => ⟨_, rfl, rfl, rfl, by decide⟩
  | 2, _ => ⟨_, rfl, rfl, rfl, by decide⟩
  | 3, _ => ⟨_, rfl, rfl, rfl, by decide⟩
  | 4, _ => ⟨_, rfl, rfl, rfl, by decide⟩
  | 5, _ => ⟨_, rfl, rfl, rfl, by decide⟩
  | n + 6, h => absurd h (by omega)
theorem zip_rep {x : V} : ∀ {l : List Str}, l.length ≤ 4 → l.zip [x, x, x, x] = l.zip (List.replicate l.length x)
  | [], _ => rfl
  | [_], _ => rfl
  | [_, _], _ => rfl
  | [_, _, _], _ => rfl
  | [_, _, _, _], _ => rfl
  | _ :: _ :: _ :: _ :: _ :: _, h => absurd h (by simp)
theorem lenA {n i : Nat} {x : V} {ys : List V} (m : Nat) (h : i < n) (hn : n + m ≤ sizeLine) (hy : ys.length ≤ m := by exact Nat.le_refl _) : (List.replicate i x).length + ys.length ≤ sizeLine := by
  rw [List.length_replicate]
  omega
theorem one_of {K : PySem.W.Frag} {H : Hp} {x y : V} {as : List Addr} {i : Nat} (q : Paired (fun e a => XA K H e [x] a) exsA as) (hy : (as.map V.ref)[i]? = some y) : ∃ e a, e.2.length = 1 ∧ y = .ref a ∧ exs[i]? = some e ∧ i < 28 ∧ XA K H e [x] a := by
  rw [List.getElem?_map] at hy
  obtain ⟨a, ha, rfl⟩ := Option.map_eq_some_iff.mp hy
  have hi : i < 28 := by
    have z := (List.getElem?_eq_some_iff.mp ha).1
    rw [← lenP q, exsA_len] at z
    exact z
  obtain ⟨e, he⟩ : ∃ e, exsA[i]? = some e := ⟨_, List.getElem?_eq_getElem (by rw [exsA_len]; exact hi)⟩
  obtain ⟨a', ha', xa⟩ := pget q he
  obtain rfl : a = a' := Option.some.inj (ha.symm.trans ha')
  have hik : exs[i]? = some e := (exsA_at i hi).symm.trans he
  refine ⟨e, a, ?_, rfl, hik, hi, xa⟩
  have z := one28 i hi
  rw [hik] at z
  exact Option.some.inj z
theorem op_neL {X : Cx} {K : PySem.W.Frag} (hK : X.K = K) (hu : X.A.units + 64 < cLine) : OpR X (compareOp .NotEq) (rNeD K) := by
  subst hK
  exact op_neD hu
theorem nil_shaped : SeqAt.shaped (.list []) = true := by decide +kernel
theorem nil_eqv : PyData.eqv (.list []) (.list []) = true := by decide +kernel
abbrev N_law : List Str := ["_law_script", "_law_bare", "_law_k", "_law_box_here", "_law_grown", "_law_kept_here", "_law_e", "_law_way", "_law_space", "_law_thing_here"]
theorem sc_law : FnScope N_law ["_law_script"] (defScope (top 73)) := ⟨rfl, rfl, rfl, by decide +kernel, rfl, by decide +kernel, by decide +kernel⟩
def spLaw (K : PySem.W.Frag) : Sp := fun vs H Q _ => ∃ (l : Addr) (ns : List Int), vs = [.ref l] ∧ SqL K H l (ns.map V.int) ∧ ns.length ≤ 63 ∧ ∀ H', Q (.bl true) H'
theorem fn_law (T : Txt K mg) (C_l_cell : Cal P w K mg base 1 "_law_cell" (spCell K) []) (C_l_box : Cal P w K mg base 1 "_law_box" spBox []) (C_l_all_right : CalG P w K mg base 4 "_law_all_right" spAll) (C_l_caught : CalG P w K mg base 4 "_law_caught" spCaught) (C_l_thing : Cal P w K mg base 2 "_law_thing" (spThing) []) (C_l_by_place : Cal P w K mg base 3 "_law_by_place" (spPlace K) []) (C_l_by_name : Cal P w K mg base 3 "_law_by_name" (spPlace K) []) (C_l_several : Cal P w K mg base 3 "_law_several" (spSeveral K) []) (C_l_is : Cal P w K mg base 3 "_law_is" (spIs K []) []) (C_l_kept : Cal P w K mg base 2 "_law_kept" (spKept K []) []) (M_Space : Mak P w K mg base 5 "Space" (He.ga K "Space") (spSpace K) []) (M_Ratio : Mak P w K mg base 2 "Ratio" (He.ga K "Ratio") (spRatio2 K) []) (S_eq : Spc P w K mg base 1 (He.ga K "Space") "__eq__" (spEq K)) (R_eq : Spc P w K mg base 1 (He.ga K "Ratio") "__eq__" (spREq K)) {fd : FuncData} (F : FunD K "law" "law" (defArgs (top 73)) (defBody (top 73)) (defScope (top 73)) [] [] (He.ga K "law") fd) : FnG P w K mg base C8.CX0 7 (He.ga K "law") fd ["_law_script"] (spLaw K) := by
  refine F.okG sc_law (fun vs H Q E h => by obtain ⟨_, _, rfl, _⟩ := h; rfl) (fun cdv A outer s H vs Q E hG hr h => ?_)
  have hu := hu_of hr
  refine ⟨_, PSs.nox (pss_cons (ps_set (i := 1) sc_law.nd rfl (Or.inr rfl) (pe_lst (pa_cons (pe_mkX0 (mkp_ByZero T) hr (by decide) rfl) (pa_cons (pe_mkX0 (mkp_NotAsked T) hr (by decide) rfl) (pa_cons (pe_mkX0 (mkp_NothingToUndo T) hr (by decide) rfl) pa_nil)))))
      (pss_cons (ps_if (pt_cmpR (op_neD hr.units) (pe_lc (own := [("_law_k", 2)]) rfl sc_law.nd (pi_range1 (by rfl) T.f_range (pa_cons pe_int pa_nil)) (blkOk_by (own := [("_law_k", 2)]) (N := N_law) (sc := defScope (top 73)) (by decide +kernel)) (fun _ _ _ _ _ => (pg_name (i := 2) sc_law.nd rfl (Or.inl rfl))) (fun _ _ _ _ _ => (pts_one (pt_not (pt_val (pe_c C_l_is hr (by decide) rfl (pa_cons (pe_ix (ixL (K := K) rfl) (pv 1) (pv 2) (fun _ _ => rfl)) (pa_cons (pe_op op_add pe_int (pv 2)) pa_nil))))))) (fun _ _ _ _ _ => (pv 2))) (pe_lst pa_nil) (nomark _)) (pss_one (ps_ret pe_bl)) pss_nil)
      (pss_cons (ps_for PassesOwn.never rfl (pi_range1 (by rfl) T.f_range (pa_cons (pe_callB (call_max2 rfl) (by rfl) T.f_max (by decide +kernel) (pa_cons pe_int (pa_cons (pe_callB (call_min2 rfl) (by rfl) T.f_min (by decide +kernel) (pa_cons pe_int (pa_cons (pe_callB call_len_seq (by rfl) T.f_len (by decide +kernel) (pa_cons (pv 0) pa_nil)) pa_nil))) pa_nil))) pa_nil)) (pg_name (i := 2) sc_law.nd rfl (Or.inl rfl)) (pss_cons (ps_set (i := 3) sc_law.nd rfl (Or.inl rfl) (pe_c C_l_box hr (by decide) rfl (pa_cons (pe_c C_l_cell hr (by decide) rfl (pa_cons (pv 0) (pa_cons (pv 2) pa_nil))) pa_nil)))
      (pss_one (ps_if (PW.pt (pw_or (pt_not (pt_val (pe_cG C_l_all_right hG hr (by decide) rfl (pa_cons (pv 3) pa_nil)))) (pw_or1 (pt_not (pt_val (pe_cG C_l_caught hG hr (by decide) rfl (pa_cons (pv 3) (pa_cons (pe_c C_l_thing hr (by decide) rfl (pa_cons (pv 3) pa_nil)) pa_nil)))))))) (pss_one (ps_ret pe_bl)) pss_nil))))
      (pss_cons (ps_par (i := 4) (j := 5) (by rfl) sc_law.nd rfl rfl (by decide) rfl rfl (pa_cons (pe_lst (pa_cons pe_int pa_nil)) (pa_cons (pe_lst pa_nil) pa_nil)) (by rfl))
      (pss_cons (ps_for PassesOwn.never rfl (pi_list (pe_op op_cat (pe_c C_l_by_place hr (by decide) rfl (pa_cons (pv 4) pa_nil)) (pe_c C_l_by_name hr (by decide) rfl (pa_cons (pv 4) pa_nil)))) (pg_name (i := 6) sc_law.nd rfl (Or.inl rfl)) (pss_one (ps_set (i := 5) sc_law.nd rfl (Or.inl rfl) (pe_op op_cat (pv 5) (pe_c C_l_kept hr (by decide) rfl (pa_cons (pv 6) pa_nil))))))
      (pss_cons (ps_for PassesOwn.never rfl (pi_range1 (by rfl) T.f_range (pa_cons pe_int pa_nil)) (pg_name (i := 7) sc_law.nd rfl (Or.inl rfl)) (pss_one (ps_for PassesOwn.never rfl (pi_list (pe_c C_l_several hr (by decide) rfl (pa_cons (pv 4) (pa_cons (pv 4) (pa_cons (pv 4) (pa_cons (pv 4) (pa_cons (pv 7) pa_nil))))))) (pg_name (i := 6) sc_law.nd rfl (Or.inl rfl)) (pss_one (ps_set (i := 5) sc_law.nd rfl (Or.inl rfl) (pe_op op_cat (pv 5) (pe_c C_l_kept hr (by decide) rfl (pa_cons (pv 6) pa_nil))))))))
      (pss_cons (ps_expr (pe_bm PySem.F.plainAttrs_list PySem.F.slot_list_append PySem.F.type_list_append mt_append (pv 4) (pa_cons pe_str pa_nil)))
      (pss_cons (ps_if (PW.pt (pw_or (pt_cmpR op_ne (pe_callB call_len_seq (by rfl) T.f_len (by decide +kernel) (pa_cons (pv 5) pa_nil)) pe_int (nomark _)) (pw_or1 (pt_cmpR (op_neD hr.units) (pe_lc (own := [("_law_thing_here", 9)]) rfl sc_law.nd (pi_list (pv 5)) (blkOk_by (own := [("_law_thing_here", 9)]) (N := N_law) (sc := defScope (top 73)) (by decide +kernel)) (fun _ _ _ _ _ => (pg_name (i := 9) sc_law.nd rfl (Or.inl rfl))) (fun _ _ _ _ _ => (pts_one (pt_cmpR (op_neL (K := K) rfl hr.units) (pv 9) (pe_lst (pa_cons pe_int (pa_cons pe_str pa_nil))) (nomark _)))) (fun _ _ _ _ _ => (pv 9))) (pe_lst pa_nil) (nomark _))))) (pss_one (ps_ret pe_bl)) pss_nil)
      (pss_cons (ps_set (i := 8) sc_law.nd rfl (Or.inl rfl) (pe_mk M_Space hr (by decide) rfl (pa_cons (pe_lst (pa_cons (pe_tup (pa_cons pe_str (pa_cons pe_int pa_nil))) (pa_cons (pe_tup (pa_cons pe_str (pa_cons pe_int pa_nil))) pa_nil))) pa_nil)))
      (pss_one (ps_ret (pe_and (pe_cmpR (op_ownEq S_eq hr (by decide)) (pe_xv (pe_mkX (mkp_InvalidSystem T) hr (by decide) rfl (by decide) (pa_cons (pv 8) pa_nil))) (pv 8) (nomark _)) (pe_one (pe_cmpR (op_ownEq R_eq hr (by decide)) (pe_xv (pe_mkX (mkp_NotFair T) hr (by decide) rfl (by decide) (pa_cons pe_int (pa_cons (pe_mk M_Ratio hr (by decide) rfl (pa_cons pe_int (pa_cons pe_int pa_nil))) (pa_cons pe_str pa_nil))))) (pe_mk M_Ratio hr (by decide) rfl (pa_cons pe_int (pa_cons pe_int pa_nil))) (nomark _))))))))))))))), ?_⟩
  obtain ⟨l, ns, rfl, hS, hl, hQ⟩ := h
  refine ⟨rfl, fun a1 H1 n1 e1 x1 d1 => ?_⟩
  refine ⟨rfl, fun a2 H2 n2 e2 x2 d2 => ?_⟩
  refine ⟨rfl, fun a3 H3 n3 e3 x3 d3 => ?_⟩
  refine ⟨(by show 3 ≤ sizeLine; decide), fun lb nb => ?_⟩
  have g4 := Evl.Ex.new (o := .lst [.ref a1, .ref a2, .ref a3]) nb
  have bare : ∀ k, k < 3 → ∃ a e, ([.ref a1, .ref a2, .ref a3] : List V)[k]? = some (.ref a) ∧ exs[34 + k]? = some e ∧ XV [] (upd H3 lb (.lst [.ref a1, .ref a2, .ref a3])) a (ca K e.1) [] := fun k hk => by
    match k, hk with
    | 0, _ => exact ⟨a1, K00.e1 "ByZero" [], rfl, rfl, (x1 []).mono ((e2.trans e3).trans g4)⟩
    | 1, _ => exact ⟨a2, K00.e1 "NotAsked" [], rfl, rfl, (x2 []).mono (e3.trans g4)⟩
    | 2, _ => exact ⟨a3, K00.e1 "NothingToUndo" [], rfl, rfl, (x3 []).mono g4⟩
    | n + 3, h => exact absurd h (by omega)
  have hlb : (upd H3 lb (.lst [.ref a1, .ref a2, .ref a3])) lb = some (.lst [.ref a1, .ref a2, .ref a3]) := upd_same
  have gH : Ex H (upd H3 lb (.lst [.ref a1, .ref a2, .ref a3])) := e1.trans (e2.trans (e3.trans g4))
  generalize hH4 : upd H3 lb (.lst [.ref a1, .ref a2, .ref a3]) = H4 at bare hlb gH
  refine ⟨3, rfl, by decide, by decide, fun D hD => ?_⟩
  refine lc_range (lo := 0) (n := 3) (fun k H' => Ex H4 H' ∧ H' D = some (.lst [])) ⟨Evl.Ex.new hD, upd_same⟩ ?_ ?_
  · rintro k H5 hk ⟨g5, h5⟩
    obtain ⟨a, e, hit, hi, xv⟩ := bare k hk
    refine ⟨rfl, ?_⟩
    refine ⟨_, rfl, _, rfl, lb, _, (k : Int), _, rfl, (by show V.int (0 + (k : Int)) = _; rw [Int.zero_add]), SqL.of (g5 _ _ hlb), atI_nat hit, ?_⟩
    refine ⟨_, rfl, _, _, rfl, rfl, ?_⟩
    refine ⟨a, 34 + k, 34 + k, e, _, (by rw [Int.zero_add]; rfl), hi, xv.mono g5, fun H6 g6 => ⟨_, rfl, ?_⟩⟩
    rw [decide_eq_true rfl]
    exact ⟨g5.trans g6, g6 _ _ h5⟩
  rintro H5 ⟨g5, h5⟩
  refine ⟨(by show 0 ≤ sizeLine; decide), fun z0 hz0 => ?_⟩
  have g6 := Evl.Ex.new (o := .lst []) hz0
  refine ⟨.list [], .list [], .lst (SqL.of (g6 _ _ h5)) .nil, .lst (SqL.of upd_same) .nil, nil_shaped, nil_shaped, _, rfl, ?_⟩
  rw [nil_eqv]
  refine iteFo rfl ?_
  have gA := gH.trans (g5.trans g6)
  generalize hH7 : upd H5 z0 (.lst []) = H7 at gA
  refine ⟨_, rfl, l, ns.map V.int, rfl, .inl (Evl.ex_l gA hS), 4, _, rfl, 2, _, rfl, _, rfl, ?_, ?_, ?_⟩
  · split <;> omega
  · split <;> split <;> omega
  refine for_it (walk_range (lo := 0) (n := _)) (fun i σ H' => Ex H7 H' ∧ ∃ x2 x3, σ = [some (.ref l), some (.ref lb), x2, x3, none, none, none, none, none, none]) ⟨Evl.Ex.refl _, _, _, rfl⟩ (fun _ _ _ _ _ => trivial) ?_ ?_
  · rintro i y σ H8' H8 hi ⟨g8, x2, x3, rfl⟩ ⟨rfl, rfl⟩
    have hi4 : i < 10 := by
      refine Nat.lt_of_lt_of_le hi ?_
      split <;> split <;> omega
    refine ⟨_, rfl, _, rfl, l, ns, i, (by show [V.ref l, V.int (0 + (i : Int))] = _; rw [Int.zero_add]), Evl.ex_l (gA.trans g8) hS, hl, hi4, fun H9 g9 v => ?_⟩
    refine ⟨v, rfl, fun b H10 b0 g10 bx => ?_⟩
    refine ⟨_, rfl, H9, b, 0, rfl, ⟨g10, b0, bx⟩, by decide, fun H11 W11 => ?_⟩
    refine ⟨true, rfl, iteFo rfl ?_⟩
    refine ⟨_, rfl, _, rfl, H9, b, 4, rfl, W11, by decide, fun Hb' v' d H12 gt Wt dpx td => ?_⟩
    refine ⟨Hb', b, 5, v', d, rfl, Wt, by decide, dpx, td, fun H13 W13 => ?_⟩
    refine ⟨true, rfl, iteFo rfl ?_⟩
    exact ⟨g8.trans (g9.trans (gt.trans W13.ex)), _, _, rfl⟩
  rintro σ H8 ⟨g8, x2, x3, rfl⟩
  refine ⟨(by show 1 ≤ sizeLine; decide), fun g ng => ?_⟩
  refine ⟨(by show 0 ≤ sizeLine; decide), fun k0 nk0 => ?_⟩
  have hg0 : (upd (upd H8 g (.lst [.int 1])) k0 (.lst [])) g = some (.lst [.int 1]) := (Evl.Ex.new nk0) _ _ upd_same
  have hk0 : (upd (upd H8 g (.lst [.int 1])) k0 (.lst [])) k0 = some (.lst []) := upd_same
  generalize hH9 : upd (upd H8 g (.lst [.int 1])) k0 (.lst []) = H9 at hg0 hk0
  refine ⟨_, _, rfl, ?_⟩
  refine ⟨_, rfl, .ref g, rfl, fun p1 as1 H10 g10 h10 q10 => ?_⟩
  refine ⟨_, rfl, .ref g, rfl, fun p2 as2 H11 g11 h11 q11 => ?_⟩
  have l1 : (as1.map V.ref).length = 28 := by rw [List.length_map, ← lenP q10]; rfl
  have l2 : (as2.map V.ref).length = 28 := by rw [List.length_map, ← lenP q11]; rfl
  refine ⟨p1, p2, _, _, rfl, rfl, g11 _ _ h10, h11, (by rw [l1, l2]; decide), fun pl npl => ?_⟩
  refine ⟨pl, rfl, ⟨_, SqL.of upd_same⟩, ?_⟩
  have gC := g10.trans (g11.trans (Evl.Ex.new (o := .lst (as1.map V.ref ++ as2.map V.ref)) npl))
  have all : ∀ (i : Nat) (y : V), (as1.map V.ref ++ as2.map V.ref)[i]? = some y → ∃ (a : Addr) (j : Nat) (e : Str × List Str), y = V.ref a ∧ exs[j]? = some e ∧ j < 34 ∧ e.2.length = 1 ∧ XA K (upd H11 pl (.lst (as1.map V.ref ++ as2.map V.ref))) e [V.ref g] a := by
    intro i y hy
    by_cases c : i < 28
    · rw [List.getElem?_append_left (by omega)] at hy
      obtain ⟨e, a, j, h1, h2, h3, h4⟩ := one_of q10 hy
      exact ⟨a, i, e, h1, h2, by omega, j, h4.mono (g11.trans (Evl.Ex.new npl))⟩
    · rw [List.getElem?_append_right (by omega)] at hy
      obtain ⟨e, a, j, h1, h2, h3, h4⟩ := one_of q11 hy
      exact ⟨a, _, e, h1, h2, by omega, j, h4.mono (Evl.Ex.new npl)⟩
  have hpl : (upd H11 pl (.lst (as1.map V.ref ++ as2.map V.ref))) pl = some (.lst (as1.map V.ref ++ as2.map V.ref)) := upd_same
  have l12 : (as1.map V.ref ++ as2.map V.ref).length = 56 := by rw [List.length_append, l1, l2]
  generalize hH12 : upd H11 pl (.lst (as1.map V.ref ++ as2.map V.ref)) = H12 at gC all hpl
  generalize hxs : as1.map V.ref ++ as2.map V.ref = xs at all hpl l12
  refine for_it (walk_list (xs := xs)) (fun i σ H' => Ex H12 H' ∧ ∃ x6 k, σ = [some (.ref l), some (.ref lb), x2, x3, some (.ref g), some (.ref k), x6, none, none, none] ∧ H' k = some (.lst (List.replicate i (.ref g)))) ⟨Evl.Ex.refl _, _, k0, rfl, gC _ _ hk0⟩ (fun _ _ _ _ h => SqL.of (h.1 _ _ hpl)) ?_ ?_
  · rintro i y σ H13' H13 hi ⟨g13, x6, k, rfl, hk⟩ ⟨rfl, hy⟩
    obtain ⟨a, j, e, rfl, he, hj, hl1, xa⟩ := all i y hy
    refine ⟨_, rfl, _, rfl, a, j, e, [.ref g], rfl, he, hj, by rw [hl1]; rfl, (xa.mono g13) _, fun m H14 nm g14 h14 => ?_⟩
    have hsi : i < 56 := by omega
    refine ⟨k, m, _, _, rfl, rfl, g14 _ _ hk, h14, lenA 1 hsi (by decide), fun k' nk' => ?_⟩
    refine ⟨(g13.trans g14).trans (Evl.Ex.new nk'), _, k', rfl, ?_⟩
    rw [upd_same, List.replicate_succ']
  rintro σ H13 ⟨g13, x6, k1, rfl, hk1⟩
  rw [l12] at hk1
  refine ⟨4, rfl, by decide, by decide, for_range (n := 4) (fun i σ H' => Ex H12 H' ∧ ∃ x6 x7 k, σ = [some (.ref l), some (.ref lb), x2, x3, some (.ref g), some (.ref k), x6, x7, none, none] ∧ H' k = some (.lst (List.replicate (56 + 16 * i) (.ref g)))) ⟨g13, _, _, k1, rfl, hk1⟩ ?_ ?_⟩
  · rintro i σ H14 hi ⟨g14, x6', x7, k, rfl, hk⟩
    refine ⟨_, rfl, _, rfl, _, rfl, _, rfl, _, rfl, .ref g, .ref g, .ref g, .ref g, i, by rw [Int.zero_add]; rfl, hi, fun sl bs H15 g15 h15 p15 => ?_⟩
    refine ⟨sl, rfl, ⟨_, SqL.of h15⟩, ?_⟩
    have lb6 : (bs.map V.ref).length = 6 := by rw [List.length_map, ← lenP p15]; rfl
    refine for_it (walk_list (xs := bs.map V.ref)) (fun j σ H' => Ex H15 H' ∧ ∃ x6 k, σ = [some (.ref l), some (.ref lb), x2, x3, some (.ref g), some (.ref k), x6, some (.int (0 + (i : Int))), none, none] ∧ H' k = some (.lst (List.replicate (56 + 16 * i + pre j) (.ref g)))) ⟨Evl.Ex.refl _, _, k, rfl, g15 _ _ hk⟩ (fun _ _ _ _ h => SqL.of (h.1 _ _ h15)) ?_ ?_
    · rintro j y σ H16' H16 hj ⟨g16, x6, k, rfl, hk⟩ ⟨rfl, hy⟩
      rw [lb6] at hj
      rw [List.getElem?_map] at hy
      obtain ⟨a, ha, rfl⟩ := Option.map_eq_some_iff.mp hy
      obtain ⟨e, hb, he, hp, hle⟩ := exsB_all j hj
      obtain ⟨a', ha', xa⟩ := pget p15 hb
      obtain rfl : a = a' := Option.some.inj (ha.symm.trans ha')
      refine ⟨_, rfl, _, rfl, a, 28 + j, e, List.replicate e.2.length (.ref g), rfl, he, by omega, by rw [List.length_replicate], by rw [← zip_rep hle]; exact (xa.mono g16) _, fun m H17 nm g17 h17 => ?_⟩
      refine ⟨k, m, _, _, rfl, rfl, g17 _ _ hk, h17, lenA (n := 200) 4 (by have := pre_le j hj; omega) (by decide) (by rw [List.length_replicate]; exact hle), fun k' nk' => ?_⟩
      refine ⟨(g16.trans g17).trans (Evl.Ex.new nk'), _, k', rfl, ?_⟩
      rw [upd_same, List.replicate_append_replicate, hp, Nat.add_assoc]
    rintro σ H16 ⟨g16, x6, k, rfl, hk⟩
    rw [lb6] at hk
    exact ⟨g14.trans (g15.trans g16), _, _, k, rfl, hk⟩
  rintro σ H14 ⟨g14, x6', x7, k, rfl, hk⟩
  have hg := g14 _ _ (gC _ _ hg0)
  have kg : k ≠ g := fun z => by
    rw [z, hg] at hk
    have q := congrArg (fun o => match o with | some (HO.lst l) => l.length | _ => 0) hk
    simp at q
  refine ⟨_, rfl, .inl ⟨rfl, _, SqL.of hg⟩, g, _, _, rfl, rfl, hg, (by show 1 < sizeLine; decide), ?_⟩
  have hg' : (upd H14 g (.lst ([V.int 1] ++ [V.str "more"]))) g = some (.lst [V.int 1, V.str "more"]) := upd_same
  have hk' : (upd H14 g (.lst ([V.int 1] ++ [V.str "more"]))) k = some (.lst (List.replicate 120 (.ref g))) := by
    rw [upd_ne kg]
    exact hk
  generalize hH15 : upd H14 g (.lst ([V.int 1] ++ [V.str "more"])) = H15 at hg' hk'
  refine ⟨_, rfl, k, _, rfl, .inl (SqL.of hk'), ?_⟩
  refine ⟨rfl, _, rfl, iteFo (by simp) ?_⟩
  refine ⟨_, rfl, k, rfl, ⟨_, SqL.of hk'⟩, fun D nD => ?_⟩
  refine lc_list (K := K) (a := k) (xs := List.replicate 120 (V.ref g)) (fun n H' => Ex H15 H' ∧ H' D = some (.lst [])) ⟨Evl.Ex.new nD, upd_same⟩ (fun n H' _ h => SqL.of (h.1 _ _ hk')) ?_ ?_
  · rintro n x H16 hx ⟨g16, hD⟩
    obtain rfl : x = .ref g := List.eq_of_mem_replicate (List.mem_of_getElem? hx)
    refine ⟨rfl, ?_⟩
    refine ⟨_, rfl, (by show 2 ≤ sizeLine; decide), fun m hm => ?_⟩
    have gm := Evl.Ex.new (o := .lst [.int 1, .str "more"]) hm
    refine ⟨.list [.int 1, .str "more"], .list [.int 1, .str "more"], .lst (SqL.of (gm _ _ (g16 _ _ hg'))) (.cons (.int 1) (.cons (.str _) .nil)), .lst (SqL.of upd_same) (.cons (.int 1) (.cons (.str _) .nil)), more_shaped, more_shaped, _, rfl, ?_⟩
    rw [more_eqv]
    exact ⟨g16.trans gm, gm _ _ hD⟩
  rintro H16 ⟨g16, hD⟩
  refine ⟨(by show 0 ≤ sizeLine; decide), fun z1 hz1 => ?_⟩
  have g17 := Evl.Ex.new (o := .lst []) hz1
  refine ⟨.list [], .list [], .lst (SqL.of (g17 _ _ hD)) .nil, .lst (SqL.of upd_same) .nil, nil_shaped, nil_shaped, _, rfl, ?_⟩
  rw [nil_eqv]
  refine iteFo rfl ?_
  generalize upd H16 z1 (.lst []) = H17
  refine ⟨(by show 2 ≤ sizeLine; decide), fun t1 nt1 => ?_⟩
  refine ⟨(by show 2 ≤ sizeLine; decide), fun t2 nt2 => ?_⟩
  refine ⟨(by show 2 ≤ sizeLine; decide), fun sl nsl => ?_⟩
  refine fun x dx nx ndx dne => ?_
  have h1 : (upd (upd (upd H17 t1 (.tup [.str "hp", .int 2])) t2 (.tup [.str "gold", .int 3])) sl (.lst [.ref t1, .ref t2])) t1 = some (.tup [.str "hp", .int 2]) := (Evl.Ex.new nsl) _ _ ((Evl.Ex.new nt2) _ _ upd_same)
  have h2 : (upd (upd (upd H17 t1 (.tup [.str "hp", .int 2])) t2 (.tup [.str "gold", .int 3])) sl (.lst [.ref t1, .ref t2])) t2 = some (.tup [.str "gold", .int 3]) := (Evl.Ex.new nsl) _ _ upd_same
  have h3 : (upd (upd (upd H17 t1 (.tup [.str "hp", .int 2])) t2 (.tup [.str "gold", .int 3])) sl (.lst [.ref t1, .ref t2])) sl = some (.lst [.ref t1, .ref t2]) := upd_same
  generalize hH18 : (upd (upd (upd H17 t1 (.tup [.str "hp", .int 2])) t2 (.tup [.str "gold", .int 3])) sl (.lst [.ref t1, .ref t2])) = H18 at h1 h2 h3 nx ndx
  have up : ∀ q o, H18 q = some o → (upd (upd H18 dx (.own x)) x (.ins (He.ga K "Space") dx [])) q = some o := fun q o h => by
    rw [upd_ne (ne_of_none h nx), upd_ne (ne_of_none h ndx)]
    exact h
  refine ⟨x, dx, sl, [t1, t2], hg2, rfl, upd_same, .inl (up _ _ h3), .cons (up _ _ h1) (.cons (up _ _ h2) .nil), hg2_ok, fun H19 keep sat => ⟨rfl, ?_⟩⟩
  refine ⟨_, rfl, rfl, rfl, fun a4 H20 n20 e20 x20 d20 => ?_⟩
  refine ⟨a4, _, _, _, ["given"], _, .ref x, rfl, exT T (i := 8) (x := "InvalidSystem") rfl, (by simp), x20 _, rfl, ?_⟩
  have sat' := sat.mono e20
  obtain ⟨dx', t, o, ps, hx', _⟩ := id sat'
  refine ⟨_, rfl, x, _, _, _, rfl, hx', TyX.base (TyOf.ins hx' T.cl_Space T.ac_Space T.cg T.ct T.ob_Space), T.nf_Space, x, hg2, .ref x, rfl, sat', hg2_ok, .inl ⟨x, hg2, rfl, sat', hg2_ok, _, rfl, ?_⟩⟩
  rw [decide_eq_true rfl]
  refine ⟨_, rfl, iteTo rfl ?_⟩
  refine fun r1 dr1 nr1 ndr1 dne1 => ⟨r1, dr1, 2, 4, rfl, upd_same, .inl ⟨rfl, rfl⟩, fun H21 keep1 h21 => ⟨rfl, ?_⟩⟩
  refine ⟨rfl, rfl, fun a5 H22 n22 e22 x22 d22 => ?_⟩
  refine ⟨a5, _, _, _, ["reason", "unit", "word"], _, .ref r1, rfl, exT T (i := 31) (x := "NotFair") rfl, (by simp), x22 _, rfl, ?_⟩
  refine fun r2 dr2 nr2 ndr2 dne2 => ⟨r2, dr2, 1, 2, rfl, upd_same, .inr ⟨rfl, rfl⟩, fun H23 keep2 h23 => ⟨rfl, ?_⟩⟩
  have h22 := e22 _ _ h21
  have r12 : r1 ≠ r2 := ne_of_none h22 nr2
  have h1' : H23 r1 = some (.ins (He.ga K "Ratio") dr1 half) := by
    refine keep2 _ _ r12 ?_
    rw [upd_ne r12, upd_ne (ne_of_none h22 ndr2)]
    exact h22
  exact ⟨r1, _, _, _, rfl, h1', TyX.base (TyOf.ins h23 T.cl_Ratio T.ac_Ratio T.cg T.ct T.ob_Ratio), T.nf_Ratio, r1, r2, dr1, dr2, rfl, h1', h23, _, rfl, hQ _⟩
end
end K00
namespace K00
open PySem PySem.Spec PyProof.Rows L2 C8
theorem law_ok {P : Program} {w : World} {K : PySem.W.Frag} {mg : Str → Option Value} {base : Heap} (T : Txt K mg) {fd : FuncData} (F : FunD K "law" "law" (defArgs (top 73)) (defBody (top 73)) (defScope (top 73)) [] [] (He.ga K "law") fd) : FnG P w K mg base C8.CX0 7 (He.ga K "law") fd ["_law_script"] (spLaw K) := by
  have C_take := ok_l_take (P := P) (w := w) (base := base) T 
  have C_cell := ok_l_cell (P := P) (w := w) (base := base) T 
  have C_box := ok_l_box (P := P) (w := w) (base := base) T 
  have C_pl := ok_l_by_place (P := P) (w := w) (base := base) T 
  have C_nm := ok_l_by_name (P := P) (w := w) (base := base) T 
  have C_sev := ok_l_several (P := P) (w := w) (base := base) T 
  have C_so := ok_l_sorts (P := P) (w := w) (base := base) T 
  have C_ke := ok_l_kept (P := P) (w := w) (base := base) T 
  have C_is := ok_l_is (P := P) (w := w) (base := base) T C_so
  have C_th := ok_l_thing (P := P) (w := w) (base := base) T C_take
  have C_ca := ok_l_caught (P := P) (w := w) (base := base) T C_take
  have C_all := ok_l_all_right (P := P) (w := w) (base := base) T C_th C_pl C_nm C_sev C_is C_ke
  have C_wh := ok_is_whole (P := P) (w := w) (base := base) T 
  have C_wf := ok_is_whole_from (P := P) (w := w) (base := base) T C_wh
  have C_w := ok_is_word (P := P) (w := w) (base := base) T 
  have C_sn := ok_is_sized_name (P := P) (w := w) (base := base) T C_w C_wf
  have C_ss := ok_stores_of_sizes (P := P) (w := w) (base := base) T 
  have C_an := ok_are_space_names (P := P) (w := w) (base := base) T C_sn C_ss
  have M_Sp := ok_Space_init (P := P) (w := w) (base := base) T C_an C_ss
  have M_R := ok_Ratio2 (P := P) (w := w) (base := base) T C_wh
  have S_eq := ok_Space_eq (P := P) (w := w) (base := base) T 
  have R_eq := ok_Ratio_eq (P := P) (w := w) (base := base) T 
  exact fn_law T C_cell C_box C_all C_ca C_th C_pl C_nm C_sev C_is C_ke M_Sp M_R S_eq R_eq F
end K00
set_option Elab.async false
set_option linter.all false
set_option maxRecDepth 100000
set_option maxHeartbeats 0
namespace K00
open PySem PySem.Spec PyProof.Rows L2
theorem txt_of {w : World} {K : PySem.W.Frag} {h : Heap} {mg : Str → Option Value} (X : K.In h) (G : h.Ns mainGlobals mg) (c : He.SaysX fa fn [] [] exB w h K) : Txt K mg := {
  f_isinstance := He.free_ok X G (c.t.d.fact 0 (f := .free "isinstance") rfl),
  f_int := He.free_ok X G (c.t.d.fact 1 (f := .free "int") rfl),
  f_bool := He.free_ok X G (c.t.d.fact 2 (f := .free "bool") rfl),
  f_len := He.free_ok X G (c.t.d.fact 3 (f := .free "len") rfl),
  f_str := He.free_ok X G (c.t.d.fact 4 (f := .free "str") rfl),
  f_all := He.free_ok X G (c.t.d.fact 5 (f := .free "all") rfl),
  f_list := He.free_ok X G (c.t.d.fact 6 (f := .free "list") rfl),
  f_tuple := He.free_ok X G (c.t.d.fact 7 (f := .free "tuple") rfl),
  f_dict := He.free_ok X G (c.t.d.fact 8 (f := .free "dict") rfl),
  f_range := He.free_ok X G (c.t.d.fact 9 (f := .free "range") rfl),
  f_abs := He.free_ok X G (c.t.d.fact 10 (f := .free "abs") rfl),
  f_sum := He.free_ok X G (c.t.d.fact 11 (f := .free "sum") rfl),
  f_min := He.free_ok X G (c.t.d.fact 12 (f := .free "min") rfl),
  f_max := He.free_ok X G (c.t.d.fact 13 (f := .free "max") rfl),
  f_repr := He.free_ok X G (c.t.d.fact 14 (f := .free "repr") rfl),
  f_set := He.free_ok X G (c.t.d.fact 15 (f := .free "set") rfl),
  f_ValueError := He.free_ok X G (c.t.d.fact 16 (f := .free "ValueError") rfl),
  c_LONGEST_WORD := (let ⟨t, h⟩ := He.int_ok X G (c.t.d.fact 17 (f := .int "LONGEST_WORD" 8) rfl); ⟨_, h, t, rfl⟩),
  c_MOST_NAMES := (let ⟨t, h⟩ := He.int_ok X G (c.t.d.fact 18 (f := .int "MOST_NAMES" 3) rfl); ⟨_, h, t, rfl⟩),
  c_LEAST_SIZE := (let ⟨t, h⟩ := He.int_ok X G (c.t.d.fact 19 (f := .int "LEAST_SIZE" 2) rfl); ⟨_, h, t, rfl⟩),
  c_GREATEST_SIZE := (let ⟨t, h⟩ := He.int_ok X G (c.t.d.fact 20 (f := .int "GREATEST_SIZE" 6) rfl); ⟨_, h, t, rfl⟩),
  c_MOST_STORES := (let ⟨t, h⟩ := He.int_ok X G (c.t.d.fact 21 (f := .int "MOST_STORES" 8) rfl); ⟨_, h, t, rfl⟩),
  c_LETTERS := (let ⟨t, h⟩ := He.str_ok X G (c.t.d.fact 22 (f := .str "LETTERS" "abcdefghijklmnopqrstuvwxyz") rfl); ⟨_, h, t, rfl⟩),
  c_LANGUAGE_WORDS := ⟨_, He.glo_ok X G (c.t.d.fact 23 (f := .glo "LANGUAGE_WORDS") rfl), rfl⟩,
  c_Space := ⟨_, He.glo_ok X G (c.t.d.fact 24 (f := .glo "Space") rfl), rfl⟩,
  c_Ratio := ⟨_, He.glo_ok X G (c.t.d.fact 25 (f := .glo "Ratio") rfl), rfl⟩,
  c_PatchError := ⟨_, He.glo_ok X G (c.t.d.fact 26 (f := .glo "PatchError") rfl), rfl⟩,
  c_InvalidNumber := ⟨_, He.glo_ok X G (c.t.d.fact 27 (f := .glo "InvalidNumber") rfl), rfl⟩,
  c_InvalidLots := ⟨_, He.glo_ok X G (c.t.d.fact 28 (f := .glo "InvalidLots") rfl), rfl⟩,
  c_InvalidLot := ⟨_, He.glo_ok X G (c.t.d.fact 29 (f := .glo "InvalidLot") rfl), rfl⟩,
  c_InvalidPayoff := ⟨_, He.glo_ok X G (c.t.d.fact 30 (f := .glo "InvalidPayoff") rfl), rfl⟩,
  c_InvalidNames := ⟨_, He.glo_ok X G (c.t.d.fact 31 (f := .glo "InvalidNames") rfl), rfl⟩,
  c_InvalidStore := ⟨_, He.glo_ok X G (c.t.d.fact 32 (f := .glo "InvalidStore") rfl), rfl⟩,
  c_InvalidValues := ⟨_, He.glo_ok X G (c.t.d.fact 33 (f := .glo "InvalidValues") rfl), rfl⟩,
  c_InvalidText := ⟨_, He.glo_ok X G (c.t.d.fact 34 (f := .glo "InvalidText") rfl), rfl⟩,
  c_InvalidSystem := ⟨_, He.glo_ok X G (c.t.d.fact 35 (f := .glo "InvalidSystem") rfl), rfl⟩,
  c_InvalidUnit := ⟨_, He.glo_ok X G (c.t.d.fact 36 (f := .glo "InvalidUnit") rfl), rfl⟩,
  c_InvalidBody := ⟨_, He.glo_ok X G (c.t.d.fact 37 (f := .glo "InvalidBody") rfl), rfl⟩,
  c_InvalidSteps := ⟨_, He.glo_ok X G (c.t.d.fact 38 (f := .glo "InvalidSteps") rfl), rfl⟩,
  c_InvalidSummaries := ⟨_, He.glo_ok X G (c.t.d.fact 39 (f := .glo "InvalidSummaries") rfl), rfl⟩,
  c_InvalidRow := ⟨_, He.glo_ok X G (c.t.d.fact 40 (f := .glo "InvalidRow") rfl), rfl⟩,
  c_InvalidPick := ⟨_, He.glo_ok X G (c.t.d.fact 41 (f := .glo "InvalidPick") rfl), rfl⟩,
  c_InvalidBlend := ⟨_, He.glo_ok X G (c.t.d.fact 42 (f := .glo "InvalidBlend") rfl), rfl⟩,
  c_InvalidCode := ⟨_, He.glo_ok X G (c.t.d.fact 43 (f := .glo "InvalidCode") rfl), rfl⟩,
  c_InvalidLines := ⟨_, He.glo_ok X G (c.t.d.fact 44 (f := .glo "InvalidLines") rfl), rfl⟩,
  c_InvalidAnswer := ⟨_, He.glo_ok X G (c.t.d.fact 45 (f := .glo "InvalidAnswer") rfl), rfl⟩,
  c_InvalidPart := ⟨_, He.glo_ok X G (c.t.d.fact 46 (f := .glo "InvalidPart") rfl), rfl⟩,
  c_InvalidEdition := ⟨_, He.glo_ok X G (c.t.d.fact 47 (f := .glo "InvalidEdition") rfl), rfl⟩,
  c_InvalidGame := ⟨_, He.glo_ok X G (c.t.d.fact 48 (f := .glo "InvalidGame") rfl), rfl⟩,
  c_InvalidPlan := ⟨_, He.glo_ok X G (c.t.d.fact 49 (f := .glo "InvalidPlan") rfl), rfl⟩,
  c_InvalidRecord := ⟨_, He.glo_ok X G (c.t.d.fact 50 (f := .glo "InvalidRecord") rfl), rfl⟩,
  c_InvalidName := ⟨_, He.glo_ok X G (c.t.d.fact 51 (f := .glo "InvalidName") rfl), rfl⟩,
  c_ByZero := ⟨_, He.glo_ok X G (c.t.d.fact 52 (f := .glo "ByZero") rfl), rfl⟩,
  c_NoSystem := ⟨_, He.glo_ok X G (c.t.d.fact 53 (f := .glo "NoSystem") rfl), rfl⟩,
  c_NotFair := ⟨_, He.glo_ok X G (c.t.d.fact 54 (f := .glo "NotFair") rfl), rfl⟩,
  c_Outside := ⟨_, He.glo_ok X G (c.t.d.fact 55 (f := .glo "Outside") rfl), rfl⟩,
  c_NotBrought := ⟨_, He.glo_ok X G (c.t.d.fact 56 (f := .glo "NotBrought") rfl), rfl⟩,
  c_TooMany := ⟨_, He.glo_ok X G (c.t.d.fact 57 (f := .glo "TooMany") rfl), rfl⟩,
  c_TooRich := ⟨_, He.glo_ok X G (c.t.d.fact 58 (f := .glo "TooRich") rfl), rfl⟩,
  c_TooGreat := ⟨_, He.glo_ok X G (c.t.d.fact 59 (f := .glo "TooGreat") rfl), rfl⟩,
  c_NotLet := ⟨_, He.glo_ok X G (c.t.d.fact 60 (f := .glo "NotLet") rfl), rfl⟩,
  c_NotAsked := ⟨_, He.glo_ok X G (c.t.d.fact 61 (f := .glo "NotAsked") rfl), rfl⟩,
  c_NoThing := ⟨_, He.glo_ok X G (c.t.d.fact 62 (f := .glo "NoThing") rfl), rfl⟩,
  c_NothingToUndo := ⟨_, He.glo_ok X G (c.t.d.fact 63 (f := .glo "NothingToUndo") rfl), rfl⟩,
  t_LW := fun H => He.tupB_ok (exs_ c.more 0 rfl) H,
  d_is_whole := c.t.d.def_ 0 (d := dG 42 "is_whole") rfl,
  g_is_whole := He.glo_ok X G (c.t.d.fact 64 (f := .glo "is_whole") rfl),
  d_is_whole_from := c.t.d.def_ 1 (d := dG 43 "is_whole_from") rfl,
  g_is_whole_from := He.glo_ok X G (c.t.d.fact 65 (f := .glo "is_whole_from") rfl),
  d_is_word := c.t.d.def_ 2 (d := dG 54 "is_word") rfl,
  g_is_word := He.glo_ok X G (c.t.d.fact 66 (f := .glo "is_word") rfl),
  d_is_sized_name := c.t.d.def_ 3 (d := dG 55 "is_sized_name") rfl,
  g_is_sized_name := He.glo_ok X G (c.t.d.fact 67 (f := .glo "is_sized_name") rfl),
  d_stores_of_sizes := c.t.d.def_ 4 (d := dG 56 "stores_of_sizes") rfl,
  g_stores_of_sizes := He.glo_ok X G (c.t.d.fact 68 (f := .glo "stores_of_sizes") rfl),
  d_are_space_names := c.t.d.def_ 5 (d := dG 57 "are_space_names") rfl,
  g_are_space_names := He.glo_ok X G (c.t.d.fact 69 (f := .glo "are_space_names") rfl),
  d__law_cell := c.t.d.def_ 6 (d := dG 60 "_law_cell") rfl,
  g__law_cell := He.glo_ok X G (c.t.d.fact 70 (f := .glo "_law_cell") rfl),
  d__law_box := c.t.d.def_ 7 (d := dG 61 "_law_box") rfl,
  g__law_box := He.glo_ok X G (c.t.d.fact 71 (f := .glo "_law_box") rfl),
  d__law_take := c.t.d.def_ 8 (d := dG 62 "_law_take") rfl,
  g__law_take := He.glo_ok X G (c.t.d.fact 72 (f := .glo "_law_take") rfl),
  d__law_by_place := c.t.d.def_ 9 (d := dG 63 "_law_by_place") rfl,
  g__law_by_place := He.glo_ok X G (c.t.d.fact 73 (f := .glo "_law_by_place") rfl),
  d__law_by_name := c.t.d.def_ 10 (d := dG 64 "_law_by_name") rfl,
  g__law_by_name := He.glo_ok X G (c.t.d.fact 74 (f := .glo "_law_by_name") rfl),
  d__law_several := c.t.d.def_ 11 (d := dG 65 "_law_several") rfl,
  g__law_several := He.glo_ok X G (c.t.d.fact 75 (f := .glo "_law_several") rfl),
  d__law_sorts := c.t.d.def_ 12 (d := dG 66 "_law_sorts") rfl,
  g__law_sorts := He.glo_ok X G (c.t.d.fact 76 (f := .glo "_law_sorts") rfl),
  d__law_kept := c.t.d.def_ 13 (d := dG 67 "_law_kept") rfl,
  g__law_kept := He.glo_ok X G (c.t.d.fact 77 (f := .glo "_law_kept") rfl),
  d__law_is := c.t.d.def_ 14 (d := dG 68 "_law_is") rfl,
  g__law_is := He.glo_ok X G (c.t.d.fact 78 (f := .glo "_law_is") rfl),
  d__law_thing := c.t.d.def_ 15 (d := dG 69 "_law_thing") rfl,
  g__law_thing := He.glo_ok X G (c.t.d.fact 79 (f := .glo "_law_thing") rfl),
  d__law_all_right := c.t.d.def_ 16 (d := dG 70 "_law_all_right") rfl,
  g__law_all_right := He.glo_ok X G (c.t.d.fact 80 (f := .glo "_law_all_right") rfl),
  d__law_raised := c.t.d.def_ 17 (d := dG 71 "_law_raised") rfl,
  g__law_raised := He.glo_ok X G (c.t.d.fact 81 (f := .glo "_law_raised") rfl),
  d__law_caught := c.t.d.def_ 18 (d := dG 72 "_law_caught") rfl,
  g__law_caught := He.glo_ok X G (c.t.d.fact 82 (f := .glo "_law_caught") rfl),
  d_Space_init := c.t.d.def_ 19 (d := dM 58 0 "Space" "__init__" "Space.__init__") rfl,
  d_Space_eq := c.t.d.def_ 20 (d := dM 58 3 "Space" "__eq__" "Space.__eq__") rfl,
  s_Space_eq := He.eqO_ok (exs_ c.more 1 rfl),
  sf_Space_eq := (exs_ c.more 2 rfl),
  cl_Space := He.cls_ok (c.t.d.fact 83 (f := .cls "Space") rfl),
  mk_Space := He.mkr_ok (c.t.d.fact 84 (f := .mkr "Space") rfl),
  g_Space := He.glo_ok X G (c.t.d.fact 24 (f := .glo "Space") rfl),
  n_names := He.noat_ok (c.t.d.fact 85 (f := .noat "Space" "names") rfl),
  n_never := He.noat_ok (c.t.d.fact 86 (f := .noat "Space" "never") rfl),
  ac_Space := He.eqO_ok (exs_ c.more 3 rfl),
  ob_Space := of_decide_eq_true (exs_ c.more 4 rfl),
  kc_Space := (exs_ c.more 5 rfl),
  ks_Space := of_decide_eq_true (exs_ c.more 6 rfl),
  nf_Space := (exs_ c.more 7 rfl),
  d_Ratio_init := c.t.d.def_ 21 (d := ⟨("Ratio", some "__init__"), "__init__", "Ratio.__init__", defArgs (inClass (top 45) 0), defBody (inClass (top 45) 0), defScope (inClass (top 45) 0), [.int 1], []⟩) rfl,
  d_Ratio_eq := c.t.d.def_ 22 (d := dM 45 8 "Ratio" "__eq__" "Ratio.__eq__") rfl,
  s_Ratio_eq := He.eqO_ok (exs_ c.more 8 rfl),
  sf_Ratio_eq := (exs_ c.more 9 rfl),
  cl_Ratio := He.cls_ok (c.t.d.fact 87 (f := .cls "Ratio") rfl),
  mk_Ratio := He.mkr_ok (c.t.d.fact 88 (f := .mkr "Ratio") rfl),
  g_Ratio := He.glo_ok X G (c.t.d.fact 25 (f := .glo "Ratio") rfl),
  n_top := He.noat_ok (c.t.d.fact 89 (f := .noat "Ratio" "top") rfl),
  n_bottom := He.noat_ok (c.t.d.fact 90 (f := .noat "Ratio" "bottom") rfl),
  ac_Ratio := He.eqO_ok (exs_ c.more 10 rfl),
  ob_Ratio := of_decide_eq_true (exs_ c.more 11 rfl),
  kc_Ratio := (exs_ c.more 12 rfl),
  ks_Ratio := of_decide_eq_true (exs_ c.more 13 rfl),
  nf_Ratio := (exs_ c.more 14 rfl),
  b_gcd := PySem.W.mg_of X G (He.eqO_ok (exs_ c.more 15 rfl)),
  cg := of_decide_eq_true (exs_ c.more 16 rfl),
  ct := of_decide_eq_true (exs_ c.more 17 rfl),
  pe_cl := (exs_ c.more 18 rfl),
  pe_ty := of_decide_eq_true (exs_ c.more 19 rfl),
  pe_su := of_decide_eq_true (exs_ c.more 20 rfl),
  pe_hd := (exs_ c.more 21 rfl),
  nd := of_decide_eq_true (exs_ c.more 22 rfl),
  sysm := (exs_ c.more 23 rfl),
  ex := List.all_eq_true.mp (exs_ c.more 24 rfl),
  d_InvalidNumber_init := c.t.d.def_ 23 (d := dM 4 0 "InvalidNumber" "__init__" "InvalidNumber.__init__") rfl,
  g_InvalidNumber := He.glo_ok X G (c.t.d.fact 27 (f := .glo "InvalidNumber") rfl),
  d_InvalidLots_init := c.t.d.def_ 24 (d := dM 5 0 "InvalidLots" "__init__" "InvalidLots.__init__") rfl,
  g_InvalidLots := He.glo_ok X G (c.t.d.fact 28 (f := .glo "InvalidLots") rfl),
  d_InvalidLot_init := c.t.d.def_ 25 (d := dM 6 0 "InvalidLot" "__init__" "InvalidLot.__init__") rfl,
  g_InvalidLot := He.glo_ok X G (c.t.d.fact 29 (f := .glo "InvalidLot") rfl),
  d_InvalidPayoff_init := c.t.d.def_ 26 (d := dM 7 0 "InvalidPayoff" "__init__" "InvalidPayoff.__init__") rfl,
  g_InvalidPayoff := He.glo_ok X G (c.t.d.fact 30 (f := .glo "InvalidPayoff") rfl),
  d_InvalidNames_init := c.t.d.def_ 27 (d := dM 8 0 "InvalidNames" "__init__" "InvalidNames.__init__") rfl,
  g_InvalidNames := He.glo_ok X G (c.t.d.fact 31 (f := .glo "InvalidNames") rfl),
  d_InvalidStore_init := c.t.d.def_ 28 (d := dM 9 0 "InvalidStore" "__init__" "InvalidStore.__init__") rfl,
  g_InvalidStore := He.glo_ok X G (c.t.d.fact 32 (f := .glo "InvalidStore") rfl),
  d_InvalidValues_init := c.t.d.def_ 29 (d := dM 10 0 "InvalidValues" "__init__" "InvalidValues.__init__") rfl,
  g_InvalidValues := He.glo_ok X G (c.t.d.fact 33 (f := .glo "InvalidValues") rfl),
  d_InvalidText_init := c.t.d.def_ 30 (d := dM 11 0 "InvalidText" "__init__" "InvalidText.__init__") rfl,
  g_InvalidText := He.glo_ok X G (c.t.d.fact 34 (f := .glo "InvalidText") rfl),
  d_InvalidSystem_init := c.t.d.def_ 31 (d := dM 12 0 "InvalidSystem" "__init__" "InvalidSystem.__init__") rfl,
  g_InvalidSystem := He.glo_ok X G (c.t.d.fact 35 (f := .glo "InvalidSystem") rfl),
  d_InvalidUnit_init := c.t.d.def_ 32 (d := dM 13 0 "InvalidUnit" "__init__" "InvalidUnit.__init__") rfl,
  g_InvalidUnit := He.glo_ok X G (c.t.d.fact 36 (f := .glo "InvalidUnit") rfl),
  d_InvalidBody_init := c.t.d.def_ 33 (d := dM 14 0 "InvalidBody" "__init__" "InvalidBody.__init__") rfl,
  g_InvalidBody := He.glo_ok X G (c.t.d.fact 37 (f := .glo "InvalidBody") rfl),
  d_InvalidSteps_init := c.t.d.def_ 34 (d := dM 15 0 "InvalidSteps" "__init__" "InvalidSteps.__init__") rfl,
  g_InvalidSteps := He.glo_ok X G (c.t.d.fact 38 (f := .glo "InvalidSteps") rfl),
  d_InvalidSummaries_init := c.t.d.def_ 35 (d := dM 16 0 "InvalidSummaries" "__init__" "InvalidSummaries.__init__") rfl,
  g_InvalidSummaries := He.glo_ok X G (c.t.d.fact 39 (f := .glo "InvalidSummaries") rfl),
  d_InvalidRow_init := c.t.d.def_ 36 (d := dM 17 0 "InvalidRow" "__init__" "InvalidRow.__init__") rfl,
  g_InvalidRow := He.glo_ok X G (c.t.d.fact 40 (f := .glo "InvalidRow") rfl),
  d_InvalidPick_init := c.t.d.def_ 37 (d := dM 18 0 "InvalidPick" "__init__" "InvalidPick.__init__") rfl,
  g_InvalidPick := He.glo_ok X G (c.t.d.fact 41 (f := .glo "InvalidPick") rfl),
  d_InvalidBlend_init := c.t.d.def_ 38 (d := dM 19 0 "InvalidBlend" "__init__" "InvalidBlend.__init__") rfl,
  g_InvalidBlend := He.glo_ok X G (c.t.d.fact 42 (f := .glo "InvalidBlend") rfl),
  d_InvalidCode_init := c.t.d.def_ 39 (d := dM 20 0 "InvalidCode" "__init__" "InvalidCode.__init__") rfl,
  g_InvalidCode := He.glo_ok X G (c.t.d.fact 43 (f := .glo "InvalidCode") rfl),
  d_InvalidLines_init := c.t.d.def_ 40 (d := dM 21 0 "InvalidLines" "__init__" "InvalidLines.__init__") rfl,
  g_InvalidLines := He.glo_ok X G (c.t.d.fact 44 (f := .glo "InvalidLines") rfl),
  d_InvalidAnswer_init := c.t.d.def_ 41 (d := dM 22 0 "InvalidAnswer" "__init__" "InvalidAnswer.__init__") rfl,
  g_InvalidAnswer := He.glo_ok X G (c.t.d.fact 45 (f := .glo "InvalidAnswer") rfl),
  d_InvalidPart_init := c.t.d.def_ 42 (d := dM 23 0 "InvalidPart" "__init__" "InvalidPart.__init__") rfl,
  g_InvalidPart := He.glo_ok X G (c.t.d.fact 46 (f := .glo "InvalidPart") rfl),
  d_InvalidEdition_init := c.t.d.def_ 43 (d := dM 24 0 "InvalidEdition" "__init__" "InvalidEdition.__init__") rfl,
  g_InvalidEdition := He.glo_ok X G (c.t.d.fact 47 (f := .glo "InvalidEdition") rfl),
  d_InvalidGame_init := c.t.d.def_ 44 (d := dM 25 0 "InvalidGame" "__init__" "InvalidGame.__init__") rfl,
  g_InvalidGame := He.glo_ok X G (c.t.d.fact 48 (f := .glo "InvalidGame") rfl),
  d_InvalidPlan_init := c.t.d.def_ 45 (d := dM 26 0 "InvalidPlan" "__init__" "InvalidPlan.__init__") rfl,
  g_InvalidPlan := He.glo_ok X G (c.t.d.fact 49 (f := .glo "InvalidPlan") rfl),
  d_InvalidRecord_init := c.t.d.def_ 46 (d := dM 27 0 "InvalidRecord" "__init__" "InvalidRecord.__init__") rfl,
  g_InvalidRecord := He.glo_ok X G (c.t.d.fact 50 (f := .glo "InvalidRecord") rfl),
  d_InvalidName_init := c.t.d.def_ 47 (d := dM 28 0 "InvalidName" "__init__" "InvalidName.__init__") rfl,
  g_InvalidName := He.glo_ok X G (c.t.d.fact 51 (f := .glo "InvalidName") rfl),
  d_ByZero_init := c.t.d.def_ 48 (d := dM 29 0 "ByZero" "__init__" "ByZero.__init__") rfl,
  g_ByZero := He.glo_ok X G (c.t.d.fact 52 (f := .glo "ByZero") rfl),
  d_NoSystem_init := c.t.d.def_ 49 (d := dM 30 0 "NoSystem" "__init__" "NoSystem.__init__") rfl,
  g_NoSystem := He.glo_ok X G (c.t.d.fact 53 (f := .glo "NoSystem") rfl),
  d_NotFair_init := c.t.d.def_ 50 (d := dM 31 0 "NotFair" "__init__" "NotFair.__init__") rfl,
  g_NotFair := He.glo_ok X G (c.t.d.fact 54 (f := .glo "NotFair") rfl),
  d_Outside_init := c.t.d.def_ 51 (d := dM 32 0 "Outside" "__init__" "Outside.__init__") rfl,
  g_Outside := He.glo_ok X G (c.t.d.fact 55 (f := .glo "Outside") rfl),
  d_NotBrought_init := c.t.d.def_ 52 (d := dM 33 0 "NotBrought" "__init__" "NotBrought.__init__") rfl,
  g_NotBrought := He.glo_ok X G (c.t.d.fact 56 (f := .glo "NotBrought") rfl),
  d_TooMany_init := c.t.d.def_ 53 (d := dM 34 0 "TooMany" "__init__" "TooMany.__init__") rfl,
  g_TooMany := He.glo_ok X G (c.t.d.fact 57 (f := .glo "TooMany") rfl),
  d_TooRich_init := c.t.d.def_ 54 (d := dM 35 0 "TooRich" "__init__" "TooRich.__init__") rfl,
  g_TooRich := He.glo_ok X G (c.t.d.fact 58 (f := .glo "TooRich") rfl),
  d_TooGreat_init := c.t.d.def_ 55 (d := dM 36 0 "TooGreat" "__init__" "TooGreat.__init__") rfl,
  g_TooGreat := He.glo_ok X G (c.t.d.fact 59 (f := .glo "TooGreat") rfl),
  d_NotLet_init := c.t.d.def_ 56 (d := dM 37 0 "NotLet" "__init__" "NotLet.__init__") rfl,
  g_NotLet := He.glo_ok X G (c.t.d.fact 60 (f := .glo "NotLet") rfl),
  d_NotAsked_init := c.t.d.def_ 57 (d := dM 38 0 "NotAsked" "__init__" "NotAsked.__init__") rfl,
  g_NotAsked := He.glo_ok X G (c.t.d.fact 61 (f := .glo "NotAsked") rfl),
  d_NoThing_init := c.t.d.def_ 58 (d := dM 39 0 "NoThing" "__init__" "NoThing.__init__") rfl,
  g_NoThing := He.glo_ok X G (c.t.d.fact 62 (f := .glo "NoThing") rfl),
  d_NothingToUndo_init := c.t.d.def_ 59 (d := dM 40 0 "NothingToUndo" "__init__" "NothingToUndo.__init__") rfl,
  g_NothingToUndo := He.glo_ok X G (c.t.d.fact 63 (f := .glo "NothingToUndo") rfl),
  g_PatchError := He.glo_ok X G (c.t.d.fact 26 (f := .glo "PatchError") rfl) }
theorem law_d {w : World} {K : PySem.W.Frag} {h : Heap} (c : He.SaysX fa fn [] [] exB w h K) : ∃ fd, FunD K "law" "law" (defArgs (top 73)) (defBody (top 73)) (defScope (top 73)) [] [] (He.ga K "law") fd := c.t.d.def_ 60 (d := dG 73 "law") rfl
theorem law_g {w : World} {K : PySem.W.Frag} {h : Heap} {mg : Str → Option Value} (X : K.In h) (G : h.Ns mainGlobals mg) (c : He.SaysX fa fn [] [] exB w h K) : mg "law" = some (.ref (He.ga K "law")) := He.glo_ok X G (c.t.d.fact 91 (f := .glo "law") rfl)
end K00
open L2

open PySem PySem.W PySem.Calls PyProof.Rows
theorem PySem.Challenge.cw_fairpatch_k00_errors_holds : PySem.Challenge.rw_fairpatch_k00_errors.Holds := by
  w_on; o_law
  refine HandSHeadRun.head_imp (r := OpenLaw.row PySem.Challenge.rw_fairpatch_k00_errors) (q := view (OpenLaw.row PySem.Challenge.rw_fairpatch_k00_errors).prog [0, 73]) (H := K00.hk) (ob := K00.ob) (M := 16000) (loose := K00.names) (d := HandSHeadRun.topDef (OpenLaw.row PySem.Challenge.rw_fairpatch_k00_errors).prog 73) (kwd := []) K00.ob_eq
    K00.run (by kernel_rfl) (by kernel_rfl) (by kernel_rfl) (by rfl) (by first | assumption | decide +kernel) (by decide +kernel) ⟨rfl, rfl, rfl, rfl, rfl, by decide +kernel⟩ ?hw ?hc
  case hw => w_witness2
  case hc =>
    refine L2.walk_ofG (l := PySem.Challenge.rw_fairpatch_k00_errors) (n := 63) (k := 7) (x := "_law_script") rfl (by decide) (by kernel_rfl) ⟨rfl, by decide, by decide⟩ ?F
    intro w mg fa h Y G hmg0
    obtain ⟨K, KX, c⟩ := Y
    have hmg : mg ("law" : PySem.Str) = some (.ref fa) := by
      have e : (HandSHeadRun.topDef (OpenLaw.row PySem.Challenge.rw_fairpatch_k00_errors).prog 73).name = ("law" : PySem.Str) := by kernel_rfl
      rw [← e]
      exact hmg0
    have T := K00.txt_of KX G c
    obtain ⟨fd, F⟩ := K00.law_d c
    have e := hmg.symm.trans (K00.law_g KX G c)
    cases e
    have b := FunD.bindsA (ps := ["_law_script"]) F fun _ _ _ _ _ _ us hl => match us, hl with | [_], _ => rfl
    exact ⟨K, fd, K00.spLaw K, KX, fun s v => b s [v] rfl, fun H a ns hl _ hS => ⟨a, ns, rfl, hS, hl, fun _ => rfl⟩, fun base _ _ => K00.law_ok T F⟩
